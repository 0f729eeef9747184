import PyProof.Rows.All
import HandS.ForMost
import HandS.Exc
import HandS.ExcOwn
import HandS.ExcInit
import KE.KExcSuper
import KE.KExcIs
import KE.KIsAll
import KE.KTryMore
import HandS.Gcd
import HandS.Wide
import HandS.IsInst
import HandS.AnyAll
import HandS.GenList
import HandS.Head3
import HandS.Head4
import HandS.HeadHook4
import PySem.Challenge.RW_sevenpins_k03_whole_plain_directions
import HandS.ExcField
import HandS.Deep
import HandS.TupAny
import HandS.List
import HandS.Comp
import HandS.GenCall
import PyProof.TupleOfGen
import PyProof.SumAny
import HandS.Iter
import HandS.Zip
import HandS.Style
import HandS.NoneIn
import HandS.SetFor
import HandS.Defaults
import HandS.EndTab
import HandS.NestedK
import HandS.WordsExc
import HandS.HeadWalk
import HandS.EndBits
import HandS.Text
set_option Elab.async false
set_option linter.all false
set_option maxRecDepth 100000
set_option maxHeartbeats 4000000
/-! MiX1: exceptions of the program's own classes are made. -/
namespace Mi
open PySem PySem.W PySem.Calls PyProof.Rows PySem.HandSPX
/-! ### the text of __init__ -/
def iA (f : Str) (p1 p2 : Pos) : Arguments := { posonlyargs := [], args := [{ arg := "self", annotation := none, pos := p1 }, { arg := f, annotation := none, pos := p2 }], vararg := none, kwonlyargs := [], kw_defaults := [], kwarg := none, defaults := [] }
def iB (f msg : Str) (j : Nat) (q0 q1 q2 q3 q4 q5 r1 r2 r3 r4 : Pos) : List Stmt :=
  [.Expr (.Call (.Attribute (.Call (.Name "super" q0) [] [] q1) "__init__" q2) [.Constant (.str msg) j q3] [] q4) q5, .Assign [.Attribute (.Name "self" r1) f r2] (.Name f r3) r4]
/-- what the written part says of the class x, at C, and of its __init__, at fI -/
structure GivenTxt (P : Program) (K : Frag) (C fI : Addr) (f : Str) : Prop where
  cls : ∃ nm q N bs bm sn sub ab col dd k0 k1 k2 k3 k5, K.lookup C = some (excClassObj nm q C N bs bm true sn sub ab col dd k0 k1 k2 k3 k5 "ValueError.__new__") ∧ refsVE bm = true
  sa : findIn K (.ref C) "__setattr__" = some (some (.builtin "object.__setattr__"))
  noN : findIn K (.ref C) f = some none
  iC : findIn K (.ref C) "__init__" = some (some (.ref fI))
  tC : typeIn K (.ref fI) = some (.type "function")
  kC : keepIn K (.ref C) = true
  exC : subIn K (.ref C) (.type "BaseException") = some true
  tyC : typeIn K (.ref C) = some (.type "type")
  fn : ∃ (oc : Value) (od : Option Addr) (doc pm : Value) (an : Option Addr) (cda cc : Addr) (ct : Value) (osl : Array (Option Value)) (msg : Str) (j : Nat) (p1 p2 q0 q1 q2 q3 q4 q5 r1 r2 r3 r4 : Pos) (qual : Str) (sc : Scope),
    K.lookup fI = some ⟨oc, od, .func (ksFn "__init__" qual (iA f p1 p2) (iB f msg j q0 q1 q2 q3 q4 q5 r1 r2 r3 r4) sc .none .none doc pm an (.ref cda) ct cc), osl⟩ ∧ codeIn K (.ref cda) qual = true ∧
    (∃ ccl cdd vs ccs file tf, K.lookup cda = some ⟨ccl, cdd, .fields vs, ccs⟩ ∧ vs[2]? = some (.str file tf) ∧ ((P.main.file : Str) == file) = true) ∧
    (∃ cl cld csl, K.lookup cc = some ⟨cl, cld, .cell (some (.ref C)), csl⟩) ∧
    (q2.endLine == q4.line) = true ∧ sc.kind = .function ∧ sc.isCoroutine = false ∧ sc.isGenerator = false ∧ sc.names.lookup ("super" : Str) = some .globalImplicit ∧ sc.names.lookup ("__class__" : Str) = some .free ∧ sc.names.lookup ("self" : Str) = some .local ∧ sc.names.lookup f = some .local ∧ (∀ x ∈ sc.names, x.2 ≠ .cell)
  sup : ks_superIn K C C "__init__" = some (some (.builtin "ValueError.__init__"))
  mro : mroIn K C (.ref C) = some true
  veC : subIn K (.ref C) (.type "ValueError") = some true
  sG : nsIn K mainGlobals "super" = some none
  tp : nsIn K cStatics "thirdparty.any" = some none
  mainS : (P.main.scope.names.lookup ("super" : Str)).isSome = false
  fld : f = "given" ∨ f = "index"

theorem gx_size (v : Value) : [v].length ≤ sizeLine := by
  rw [sizeLine_eq]
  exact (by decide : 1 ≤ 16777216)
/-- what __init__ leaves of a fresh exception at x -/
structure GxEnd (h h' : Heap) (x C dx t1 : Addr) (f : Str) (v : Value) : Prop where
  keep : ∀ b o, b ≠ x → h.get? b = some o → h'.get? b = some o
  obj : h'.get? x = some { cls := .ref C, dict := some dx, data := .fields #[.ref t1, .none, .none, .none, .bool false, .none] }
  dbig : h.objs.size ≤ dx
  dne : dx ≠ x
  ns : h'.Ns1 dx (fun y => if y = f then some v else none)
section
variable {prog : Program} {w : World} {A : Around} {E : Value → Shared → Prop} {R : Result → Shared → Prop} {s : Shared} {K : Frag} {mg mb : Str → Option Value} {C fI : Addr} {f : Str}
theorem ve_call {M : Model} {h : Heap} {g : Array GenState} {d : Drawn} {t : Nat} {os : OsState} {nm q : Str} {N : Addr} {bs bm : List Value} {hdct : Bool} {sn : List Str} {sub : List Value} {ab : Bool} {col : Option Bool} {dd : Option Addr} {k0 k1 k2 k3 k5 : Option Value} {u e t0 : Addr} {rest : List Value} {Q : Value → Shared → Prop}
    (hC : h.get? C = some (excClassObj nm q C N bs bm hdct sn sub ab col dd k0 k1 k2 k3 k5 "ValueError.__new__")) (he : h.get? e = some (excO C t0)) (hu : h.get? u = some (kxs_mw "ValueError.__init__" e)) (hrest : rest.length ≤ sizeLine)
    (hq : ∀ h' t1, (∀ b o, b ≠ e → h.get? b = some o → h'.get? b = some o) → h'.get? e = some (excO C t1) → Q .none ⟨h', g, d, t, os⟩) :
    wpAny (model prog w) A (call (.ref u) rest) Q E ⟨h, g, d, t, os⟩ := by
  refine wpAny_call (codeAny_of_tree ?_)
  show wpAny _ A.in1 (callAny (.ref u) ⟨rest, []⟩) _ _ _
  simp only [callAny]
  refine wpAny_bind (wpAny_load hu ?_)
  simp only [kxs_mw, show (Value.type "method-wrapper" == Value.type "method" || Value.type "method-wrapper" == Value.type "builtin_function_or_method" || Value.type "method-wrapper" == Value.type "method-wrapper") = true by decide, if_true]
  refine KFB.if_so (by decide) ?_
  refine wpAny_bind (check_bound_init F.excBase_ValueError.toExcCallFacts hC he rfl ?_)
  refine wpAny_bind (wpAny_pure (wpAny_pure ?_))
  refine ⟨plainId_quiet F.excBase_ValueError.init.plain _, codeAny_builtin F.excBase_ValueError.initEntry ?_⟩
  rw [Around.under_plainId F.excBase_ValueError.init.plain _]
  wp_walk
  refine hq _ h.objs.size (fun b o hb ho => ?_) ?_
  · rw [Heap.get?_update_other _ _ (Ne.symm hb)]
    exact Heap.get?_push_of_some _ ho
  · rw [Heap.get?_update_self _ (Heap.get?_push_of_some _ he) rfl]
    rfl

theorem gx_bind {fd : FuncData} {p1 p2 : Pos} (hp : fd.params = iA f p1 p2) (hd : fd.defaults = .none) (hk : fd.kwdefaults = .none) (x v : Value) (hf : f = "given" ∨ f = "index") : bindArgs fd ⟨[x, v], []⟩ = pure [(PySem.Str.ofString "self", x), (f, v)] := by
  unfold bindArgs
  rw [hp, hd, hk]
  rcases hf with rfl | rfl <;> rfl
theorem gx_bindK {fd : FuncData} {p1 p2 : Pos} (hp : fd.params = iA f p1 p2) (hd : fd.defaults = .none) (hk : fd.kwdefaults = .none) (x v : Value) (hf : f = "given" ∨ f = "index") : bindArgs fd ⟨[x], [(f, v)]⟩ = pure [(PySem.Str.ofString "self", x), (f, v)] := by
  unfold bindArgs
  rw [hp, hd, hk]
  rcases hf with rfl | rfl <;> rfl
theorem he_super {q0 q1 q2 q3 q4 : Pos} {msg : Str} {j : Nat} {env : Env} (h : (q2.endLine == q4.line) = true) : eval (.Call (.Attribute (.Call (.Name "super" q0) [] [] q1) "__init__" q2) [.Constant (.str msg) j q3] [] q4) env = (do
      let ov ← attributeBase (.Call (.Name "super" q0) [] [] q1) "__init__" env (eval (.Call (.Name "super" q0) [] [] q1) env)
      standAt q2.atName
      let (f, first) ← holding [ov] (getMethod ov "__init__" (do return (← importBound (.Call (.Name "super" q0) [] [] q1) env).getD true))
      callWith q4 f first (backTo q4 (starEach [.Constant (.str msg) j q3] env)) []) := by
  show (do
    let ov ← attributeBase (.Call (.Name "super" q0) [] [] q1) "__init__" env (eval (.Call (.Name "super" q0) [] [] q1) env)
    standAt q2.atName
    methodCall (.Call (.Name "super" q0) [] [] q1) "__init__" q2 q4 env ov 1 (backTo q4 (starEach [.Constant (.str msg) j q3] env)) []) = _
  have e : ∀ o, methodCallPos true o env q2 q4 = pure q4 := fun o => by
    unfold methodCallPos
    rw [h]
    rfl
  have e2 : methodCallForm 1 (backTo q4 (starEach [.Constant (.str msg) j q3] env)) [] = true := rfl
  unfold methodCall
  simp only [e2, e, pure_bind]
  rfl
theorem gx_init (T : GivenTxt prog K C fI f) {x t0 : Addr} {v : Value} {args : Args} (X : K.In s.heap) (hlim : s.heap.NoLimit) (G : s.heap.Ns mainGlobals mg) (B : s.heap.Ns builtinsNs mb) (hb : ∀ x : Str, x ≠ "__name__" → mb x = bootBuiltins x)
    (hx : s.heap.get? x = some (excO C t0)) (hnx : K.lookup x = none) (hroom : A.depth < recursionLimit) (hargs : args = ⟨[.ref x, v], []⟩ ∨ args = ⟨[.ref x], [(f, v)]⟩)
    (hq : ∀ h' tk dx t1, GxEnd s.heap h' x C dx t1 f v → R (.ok (.ret .none)) { s with heap := h', toks := tk }) :
    codeAny (model prog w) A (.call (.ref fI) args) R s := by
  obtain ⟨oc, od, doc, pm, an, cda, cc, ct, osl, msg, j, p1, p2, q0, q1, q2, q3, q4, q5, r1, r2, r3, r4, qual, sc, ho, hcd, ⟨ccl, cdd, vs, ccs, file, tf, hcode, hvs, hfile⟩, ⟨cl, cld, csl, hcell⟩, hpos, hk, hco, hgen, hks, hkc, hkself, hkf, hnc⟩ := T.fn
  obtain ⟨nm, q, N, bs, bm, sn, sub, ab, col, dd, k0, k1, k2, k3, k5, hC, hbm⟩ := T.cls
  have hcl : clsIn K C = some { name := nm, bases := bs, mro := .ref C :: bm, ns := N, qualname := q, hasDict := true, slotNames := sn, subclasses := sub, abstract := ab, collection := col, hasDel := false } := by unfold clsIn; rw [hC] <;> rfl
  have hdbg : (f == ("__debug__" : Str)) = false := by rcases T.fld with rfl | rfl <;> rfl
  have hself : f ≠ PySem.Str.ofString "self" := by rcases T.fld with rfl | rfl <;> decide
  refine ks_codeAny_call_defAt (fd := ksFn "__init__" qual (iA f p1 p2) (iB f msg j q0 q1 q2 q3 q4 q5 r1 r2 r3 r4) sc .none .none doc pm an (.ref cda) ct cc) (body := iB f msg j q0 q1 q2 q3 q4 q5 r1 r2 r3 r4) (binds := [(PySem.Str.ofString "self", .ref x), (f, v)]) hroom (X _ _ ho) rfl hlim (codeRec_of X hcd) rfl
    (BindsTo.of_eq (by rcases hargs with rfl | rfl; · exact gx_bind rfl rfl rfl _ _ T.fld
                       · exact gx_bindK rfl rfl rfl _ _ T.fld)) hnc (fun y hy => ?_) (fun h₁ hns k₁ => ?_) hco hgen hk
  · simp only [List.mem_cons, List.not_mem_nil, or_false] at hy
    rcases hy with rfl | rfl
    · exact hkself
    · exact hkf
  have X₁ : K.In h₁ := fun b o e => k₁ b o (X b o e)
  have hx₁ := k₁ _ _ hx
  have hL : s.heap.objs.size ≠ x := Nat.ne_of_gt (Heap.lt_size hx)
  have mself : (fun y => ([(PySem.Str.ofString "self", Value.ref x), (f, v)] : List (Str × Value)).reverse.lookup y) (PySem.Str.ofString "self") = some (.ref x) := by
    show List.lookup (PySem.Str.ofString "self") [(f, v), (PySem.Str.ofString "self", Value.ref x)] = _
    have e : (PySem.Str.ofString "self" == f) = false := by simpa using Ne.symm hself
    simp only [List.lookup, e, beq_self_eq_true]
  have mf : (fun y => ([(PySem.Str.ofString "self", Value.ref x), (f, v)] : List (Str × Value)).reverse.lookup y) f = some v := by
    show List.lookup f [(f, v), (PySem.Str.ofString "self", Value.ref x)] = _
    simp only [List.lookup, beq_self_eq_true]
  generalize (fun y => ([(PySem.Str.ofString "self", Value.ref x), (f, v)] : List (Str × Value)).reverse.lookup y) = m at hns mself mf
  generalize htk : s.toks + ([(PySem.Str.ofString "self", Value.ref x), (f, v)] : List (Str × Value)).length = tk
  show _root_.PySem.wpAt _ _ (.func _ (ksEnv qual sc s.heap.objs.size fI (.ref cda) cc)) (execs (iB f msg j q0 q1 q2 q3 q4 q5 r1 r2 r3 r4) (ksEnv qual sc s.heap.objs.size fI (.ref cda) cc)) _ _ _
  have I : InstAt h₁ x (excO C t0) C none := ⟨hx₁, rfl, rfl, trivial⟩
  have ld : ∀ {s' : Shared} {M : Model} {A : Around} {E : Value → Shared → Prop} {y : Str} {u : Value} {pos : Pos} {Q : Value → Shared → Prop}, s'.heap.Ns s.heap.objs.size m → sc.names.lookup y = some .local → (y == ("__debug__" : Str)) = false → m y = some u → Q u s' → wpAny M A (eval (.Name y pos) (ksEnv qual sc s.heap.objs.size fI (.ref cda) cc)) Q E s' := fun {s' M A E y u pos Q} hn hl hd hm hq => wpAny_Name (wpAny_loadName_local hk hl hn hm hq) hd
  refine ks_wpAt_execs_cons (ks_wpAt_Expr_any (ks_wpAt_MethodCall ?_ (he_super hpos)) (by show (sc.kind == .module && _) = false; rw [hk]; rfl))
  refine ks_wpAt_super_base (env := ksEnv qual sc s.heap.objs.size fI (.ref cda) cc) hks hkc (by decide) rfl (X₁ _ _ ho) rfl rfl rfl (X₁ _ _ hcode) rfl hvs hfile T.mainS ?_
  refine ks_loadName_global hk hks (loadGlobal_builtin (env := ksEnv qual sc s.heap.objs.size fI (.ref cda) cc) (G.keeps k₁) (mg_none_of X G T.sG) (B.keeps k₁) ((hb _ (by decide)).trans (by first | rfl | kernel_rfl)) ⟨rfl, ?_⟩)
  refine wpAny_loadName_free hk hkc rfl ⟨_, X₁ _ _ hcell, rfl⟩ ?_
  refine wpAny_loadName_local hk hkself hns mself ?_
  refine ks_wpAny_isType_cls (X₁ _ _ hC) rfl ⟨rfl, ?_⟩
  refine ks_wpAny_call_super (X₁ _ _ hC) rfl hx₁ rfl (fun c e => by cases e) (looks_mroIn X₁ T.mro) (fun h₂ e₂ k₂ => ?_)
  have X₂ : K.In h₂ := X₁.keeps k₂
  have hx₂ := k₂ _ _ hx₁
  have I₂ : InstAt h₂ x (excO C t0) C none := ⟨hx₂, rfl, rfl, trivial⟩
  have hI : Looks (model prog w) h₂ (isInstance (.ref x) (.type "ValueError")) true := I₂.type.andThen (looks_subIn X₂ T.veC)
  have hxC : x ≠ C := fun z => by
    rw [z, X₂ _ _ hC] at hx₂
    cases hx₂
  have hsup : alongIn K "__init__" (((.ref C :: bm : List Value).dropWhile (· != .ref C)).drop 1) = some (some (.builtin "ValueError.__init__")) := by
    have e := T.sup
    unfold ks_superIn at e
    rw [hcl] at e
    exact e
  refine kxs_getMethod kxs_ValueError e₂ (looks_opaque X₂ T.tp) (l₀ := .ref C :: bm) (fun A Q E s k q => wpAny_bind ((looks_clsIn X₂ hcl) A _ E s k (wpAny_pure q))) rfl X₂ hsup hI hxC (by decide) ?_
  dsimp only
  have k₃ : ∀ b o, h₂.get? b = some o → (h₂.push (kxs_mw "ValueError.__init__" x)).get? b = some o := fun b o e => Heap.get?_push_of_some _ e
  have hu : (h₂.push (kxs_mw "ValueError.__init__" x)).get? h₂.objs.size = some (kxs_mw "ValueError.__init__" x) := Heap.get?_push_size _ rfl
  refine kxs_callWith (i := "ValueError.__init__") (x := x) (by rfl) (evalArgs_plain ?_)
  refine Calls.spliced_cons (Calls.Constant_str (k := j) (pos := q3) (Calls.spliced_nil ⟨hu, ?_⟩))
  have hCp := k₃ _ _ (X₂ _ _ hC)
  have hxp := k₃ _ _ hx₂
  show wpAny _ _ (call (.ref h₂.objs.size) [_]) _ _ _
  refine ve_call (M := model prog w) hCp hxp hu (gx_size _) fun h₄ t1 k₄ hx₄ => ?_
  have X₄ : K.In h₄ := fun b o e => k₄ b o (fun z => by rw [z, hnx] at e; cases e) (k₃ _ _ (X₂ b o e))
  have keep4 : ∀ b o, b ≠ x → s.heap.get? b = some o → h₄.get? b = some o := fun b o hb e => k₄ b o hb (k₃ _ _ (k₂ _ _ (k₁ _ _ e)))
  have hns₄ : h₄.Ns s.heap.objs.size m := by
    obtain ⟨oL, es, ep, e1, e2, e3⟩ := hns
    exact ⟨oL, es, ep, k₄ _ _ hL (k₃ _ _ (k₂ _ _ e1)), e2, e3⟩
  -- self.f = f
  refine ks_wpAt_execs_cons (wpAt_of_wpAny ?_)
  refine plainObj_wpAny_Assign_Attribute ?_
  refine ld hns₄ hkf hdbg mf (ld hns₄ hkself (by decide) mself ?_)
  refine set_plain X₄ (ox := excO C t1) (od := none) ⟨hx₄, rfl, rfl, trivial⟩ T.sa ?_
  refine exc_osa X₄ hx₄ hcl (show refsVE (.ref C :: bm) = true from hbm) rfl T.noN (fun h₅ tk₅ dx k₅ dn dne hx₅ hn₅ => ?_)
  have sz : s.heap.objs.size ≤ dx := by
    refine Nat.le_trans (Nat.le_of_lt ?_) dn
    obtain ⟨oL, es, ep, e1, e2, e3⟩ := hns₄
    exact Heap.lt_size e1
  refine wpAt_of_wpAny ?_
  exact wpAny_execs_nil (hq h₅ tk₅ dx t1 ⟨fun b o hb e => k₅ b o hb (keep4 b o hb e), hx₅, sz, dne, hn₅⟩)
/-- a made exception of the class at C -/
structure GxMade (h h' : Heap) (e C d : Addr) (f : Str) (v : Value) : Prop where
  keep : ∀ b o, h.get? b = some o → h'.get? b = some o
  new : h.objs.size ≤ e
  obj : ∃ oe vs, h'.get? e = some oe ∧ oe.cls = .ref C ∧ oe.dict = some d ∧ oe.data = .fields vs ∧ vs[1]? = some .none
  dbig : h.objs.size ≤ d
  dne : d ≠ e
  ns : h'.Ns1 d (fun y => if y = f then some v else none)
theorem gx_made (T : GivenTxt prog K C fI f) {v : Value} (X : K.In s.heap) (hlim : s.heap.NoLimit) (G : s.heap.Ns mainGlobals mg) (B : s.heap.Ns builtinsNs mb) (hb : ∀ x : Str, x ≠ "__name__" → mb x = bootBuiltins x) (hroom : A.depth + 1 < recursionLimit)
    (hq : ∀ h' tk e d, GxMade s.heap h' e C d f v → R (.ok (.ret (.ref e))) { s with heap := h', toks := tk }) :
    codeAny (model prog w) A (.call (.ref C) ⟨[v], []⟩) R s := by
  obtain ⟨nm, q, N, bs, bm, sn, sub, ab, col, dd, k0, k1, k2, k3, k5, hC, hbm⟩ := T.cls
  obtain ⟨hp, g, dr, tk, os⟩ := s
  have k : ∀ b o, hp.get? b = some o → ((hp.push (kdv_tup [v])).push (excO C hp.objs.size)).get? b = some o := fun b o e => Heap.get?_push_of_some _ (Heap.get?_push_of_some _ e)
  have hget : ((hp.push (kdv_tup [v])).push (excO C hp.objs.size)).get? (hp.objs.size + 1) = some (excO C hp.objs.size) := by heap_get
  have hnx : K.lookup (hp.objs.size + 1) = none := by
    cases e : K.lookup (hp.objs.size + 1) with
    | none => rfl
    | some o =>
      have z : hp.get? (hp.objs.size + 1) = some o := X _ _ e
      exact absurd (Nat.lt_of_succ_lt (Heap.lt_size z)) (Nat.lt_irrefl _)
  refine call_own F.excBase_ValueError (fun X => refsVE_contains X bm hbm) (X _ _ hC) (looks_findIn X T.iC) (fun self => bind_fn X self T.tC) (gx_size v) ?_
  refine gx_init (s := ⟨(hp.push (kdv_tup [v])).push (excO C hp.objs.size), g, dr, tk, os⟩) T (X.keeps k) (hlim.keeps k) (G.keeps k) (B.keeps k) hb hget hnx ?_ (.inl rfl) fun h' tk' dx t1 ⟨k', hx, dn, dne, hns⟩ => ?_
  · show A.depth + 1 < recursionLimit
    exact hroom
  · have old : ∀ b o, hp.get? b = some o → h'.get? b = some o := fun b o e => k' b o (Nat.ne_of_lt (Nat.lt_succ_of_lt (Heap.lt_size e))) (k b o e)
    have z : hp.objs.size + 1 + 1 ≤ dx := by
      first
        | (simpa only [Heap.size_push] using dn)
        | exact dn
        | (have q := dn; rw [Heap.size_push, Heap.size_push] at q; exact q)
    exact ⟨rfl, hq h' tk' (hp.objs.size + 1) dx ⟨old, Nat.le_succ _, ⟨_, _, hx, rfl, rfl, rfl, rfl⟩, Nat.le_trans (Nat.le_trans (Nat.le_succ _) (Nat.le_succ _)) z, dne, hns⟩⟩
end
end Mi
namespace Mi
open PySem PySem.Spec PyProof.Rows L2
theorem relO_one {v : V} {v' : Value} {g : Str} (r : RelV v v') (f : Str) : RelO (List.lookup f [(g, v)]) (if f = g then some v' else none) := by
  by_cases hw : f = g
  · subst hw
    rw [if_pos rfl]
    have q : List.lookup f [(f, v)] = some v := by simp [List.lookup]
    rw [q]
    exact r
  · rw [if_neg hw]
    have qw : (f == g) = false := by simpa using hw
    have q2 : List.lookup f [(g, v)] = none := by simp [List.lookup, qw]
    rw [q2]
    trivial
/-- what the class at C must say for these -/
structure ExF (K : PySem.W.Frag) (C : Addr) : Prop where
  cl : (PySem.W.clsIn K C).isSome = true
  ga : PySem.W.findIn K (.ref C) "__getattribute__" = some (some (.builtin "BaseException.__getattribute__"))
  gg : PySem.W.findIn K (.ref C) "__getattr__" = some none
  sb : PySem.W.subIn K (.ref C) (.type "BaseException") = some true
  ca : PySem.W.findIn K (.ref C) "__class__" = some (some (.builtin "object.__class__"))
  sp : PySem.W.specialIn K (.builtin "object.__class__") "__get__" = some (some (.builtin "getset_descriptor.__get__"))
  tk : PySem.W.takesIn K (.builtin "object.__class__") = some true
  mr : PySem.W.mroIn K C (.type "object") = some true
  hd : PySem.W.hasDictIn K C = true
def exfB (K : PySem.W.Frag) (C : Addr) : Bool := (PySem.W.clsIn K C).isSome && decide (PySem.W.findIn K (.ref C) "__getattribute__" = some (some (.builtin "BaseException.__getattribute__"))) && decide (PySem.W.findIn K (.ref C) "__getattr__" = some none) && decide (PySem.W.subIn K (.ref C) (.type "BaseException") = some true) &&
  decide (PySem.W.findIn K (.ref C) "__class__" = some (some (.builtin "object.__class__"))) && decide (PySem.W.specialIn K (.builtin "object.__class__") "__get__" = some (some (.builtin "getset_descriptor.__get__"))) && decide (PySem.W.takesIn K (.builtin "object.__class__") = some true) && decide (PySem.W.mroIn K C (.type "object") = some true) && PySem.W.hasDictIn K C
theorem exfB_ok {K : PySem.W.Frag} {C : Addr} (h : exfB K C = true) : ExF K C := by
  simp only [exfB, Bool.and_eq_true, decide_eq_true_eq] at h
  obtain ⟨⟨⟨⟨⟨⟨⟨⟨h1, h2⟩, h3⟩, h4⟩, h5⟩, h6⟩, h7⟩, h8⟩, h9⟩ := h
  exact ⟨h1, h2, h3, h4, h5, h6, h7, h8, h9⟩
section
variable {X : Cx} {C fI : Addr} {f x : Str}
/-- C(e) -/
def tMkG (C : Addr) (f : Str) (ta : TA) : L2.St → Hp → XK → Prop := fun σ H Q => ta σ H fun vs H1 => ∃ v, vs = [v] ∧ ∀ d, H1 d = none → Q (.ref C) (some d) (upd H1 d (.xd [(f, v)]))
theorem pmk_given {a : Expr} {ta : TA} {p pos : Pos} {k : Nat} (T : GivenTxt X.prog X.K C fI f) (hm : X.mg x = some (.ref C)) (hr : Room k X.A) (ha : PA X [a] ta) (hg : Gl X x) (hdb : (x == ("__debug__" : Str)) = false)
    (he : starEach (a :: []) X.env = (false, eval a X.env) :: starEach [] X.env) :
    PMk X (.Call (.Name x p) [a] [] pos) (tMkG C f ta) := by
  intro pins s σ H Q I h
  refine wpAny_Call_Name_kw (ld_glob I hg hm ?_ hdb)
  refine PySem.W.callWith_K (h₀ := X.base) I.ok.mod.kin T.kC (thn (ha.run pos pins s σ H _ I h) fun us s1 hh => ?_) he rfl
  obtain ⟨vs, H1, I1, r1, v, ev, q1⟩ := hh
  subst ev
  refine ⟨I1.kIn, ?_⟩
  cases r1 with
  | cons rv rn =>
    rename_i v' us'
    cases rn
    show wpAny _ _ (call (.ref C) [v']) _ _ _
    have hlim := I1.nolimit
    obtain ⟨mb, B, hb⟩ := I1.ok.mod.blt
    have G := I1.ok.mod.glob.keeps I1.bk
    have B' := B.keeps I1.bk
    obtain ⟨hp, g, dr, tk, os⟩ := s1
    refine wpAny_call (gx_made T I1.kIn hlim G B' hb (by have := hr.dp; omega) fun h' tk' e d M => ?_)
    show MkP X pins σ Q (.ref e) ⟨h', g, dr, tk', os⟩
    obtain ⟨oe, fv, hoe, hc, hd, hdat, h1⟩ := M.obj
    have hns := M.ns
    obtain ⟨G', g1, g2⟩ := restrict h' fun b => decide (b ≠ e)
    have gk : ∀ b, b ≠ e → G'.get? b = h'.get? b := fun b hb => g1 b (decide_eq_true hb)
    have ge : G'.get? e = none := g2 e (by simp)
    have old : ∀ b o, hp.get? b = some o → G'.get? b = some o := fun b o q => (gk b (Nat.ne_of_lt (Nat.lt_of_lt_of_le (Heap.lt_size q) M.new))).trans (M.keep b o q)
    have ob : ObjOk X.prog X.w (upd H1 d (.xd [(f, v)])) G' d (.xd [(f, v)]) :=
      ⟨_, hns.at (fun o q => (gk d M.dne).trans q), fun f => relO_one rv f⟩
    have J : Inv X pins σ (upd H1 d (.xd [(f, v)])) ⟨G', g, dr, tk', os⟩ := I1.laid (t' := tk') old M.dbig ob
    refine ⟨e, oe, fv, ⟨G', g, dr, tk', os⟩, _, .ref C, some d, rfl, J, fun b o q => ?_, ge, hoe, ⟨hc, hd⟩, hdat, h1, ?_, rfl, I1.bare, raises_own T.exC T.tyC, q1 d (I1.hok.fresh M.dbig)⟩
    · by_cases hb : b = e
      · have q' : G'.get? b = some o := q
        rw [hb, ge] at q'; cases q'
      · exact (gk b hb).symm.trans q
    · rw [upd_ne (Ne.symm M.dne)]
      exact I1.hok.fresh M.new
/-- C(), a class without own __init__ -/
theorem pmk_bare {p pos : Pos} {bmB : List Value} {B newId initId : String} (F : ExcBaseFacts B newId initId bmB) (q : PySem.W.excIn X.K C bmB newId = true) (gC : X.mg x = some (.ref C)) (kC : PySem.W.keepIn X.K (.ref C) = true) (r : Raises X (.ref C)) (hg : Gl X x)
    (hdb : (x == ("__debug__" : Str)) = false) : PMk X (.Call (.Name x p) [] [] pos) (fun _ H Q => Q (.ref C) none H) := by
  intro pins s σ H Q I h
  refine wpAny_Call_Name_kw (ld_glob I hg gC ?_ hdb)
  refine PySem.W.callWith_K0 (pos := pos) (env := X.env) (first := []) I.kIn kC ?_
  show wpAny _ _ (call (.ref C) []) _ _ _
  obtain ⟨bm, N, nm, qn, bs, hdct, sn, sub, ab, col, dd, k0, k1, k2, k3, k5, mN, hC, hN, hni, T⟩ := exc_obj I.kIn q
  refine wpAny_call_exc_subT F T hC hN hni (fun h' e hm => ?_) (by show 0 ≤ sizeLine; omega)
  exact mk_of I hm r h (I.hok.gone hm.new)
end
end Mi

set_option Elab.async false
set_option linter.all false
set_option maxRecDepth 100000
set_option maxHeartbeats 4000000
/-! Mi1: data, stores, how they lie in the abstract heap. -/
namespace Mi
open PySem PySem.Spec PyProof.Rows L2

/-- data: tuples and lists by value; cell n: the list that the store has at n -/
inductive D where
  | non | bl (b : Bool) | int (i : Int) | str (s : Str)
  | tup (xs : List D) | lst (xs : List D) | scr (xs : List D) | cell (n : Nat)
  | dct (ks : List Key) (vs : List D)
  | exc (c f : Str) (vs : List D)
  deriving Inhabited

abbrev Store := List (Option (List D))
abbrev Env := List (Option D)

/-- a list of the written part -/
def KL (K : PySem.W.Frag) (a : Addr) (xs : List V) : Prop :=
  ∃ (o : Obj) (its : Array Value) (n : Nat), K.lookup a = some o ∧ o.cls = .type "list" ∧ o.dict = none ∧ o.data = .seq its n ∧ its.size ≤ sizeLine ∧ Vals xs its.toList
/-- a list that is only read -/
def SqF (K : PySem.W.Frag) (L : Addr → Prop) (H : Hp) (a : Addr) (xs : List V) : Prop :=
  (∃ o, H a = some (.frz o (.lst xs))) ∨ (H a = some (.lst xs) ∧ ¬ L a) ∨ KL K a xs
theorem SqF.sqL {K : PySem.W.Frag} {L : Addr → Prop} {H : Hp} {a : Addr} {xs : List V} (h : SqF K L H a xs) : SqL K H a xs := by
  rcases h with ⟨o, h⟩ | ⟨h, _⟩ | h
  · exact .inl (.inr ⟨o, h⟩)
  · exact .inl (.inl h)
  · exact .inr h
/-- a is where a live cell stands -/
def Lv (m : List Addr) (st : Store) (a : Addr) : Prop := ∃ (n : Nat) (xs : List D), st[n]? = some (some xs) ∧ m[n]? = some a

/-- at a: an exception of the class at C; od: where its own fields stand -/
def exq (a C : Addr) (od : Option Addr) : HO := .ext fun h => ∃ (oe : Obj) (vs : Array Value), h.get? a = some oe ∧ Zc (.ref C) od oe ∧ oe.data = .fields vs
theorem exq_lst {a C : Addr} {od : Option Addr} {xs : List V} : exq a C od ≠ .lst xs := fun z => by
  have z' : HO.ext _ = HO.lst xs := z
  cases z'
theorem exq_tbl {a C : Addr} {od : Option Addr} {ps : Array Value} : exq a C od ≠ .tbl ps := fun z => by
  have z' : HO.ext _ = HO.tbl ps := z
  cases z'
mutual
def Rep (K : PySem.W.Frag) (m : List Addr) (L : Addr → Prop) (H : Hp) : D → V → Prop
  | .non, v => v = .non
  | .bl b, v => v = .bl b
  | .int i, v => v = .int i
  | .str s, v => v = .str s
  | .tup xs, v => ∃ a ys, v = .ref a ∧ SqT K H a ys ∧ Reps K m L H xs ys
  | .lst xs, v => ∃ a ys, v = .ref a ∧ H a = some (.lst ys) ∧ ¬ L a ∧ Reps K m L H xs ys
  | .scr xs, v => ∃ a ys, v = .ref a ∧ SqF K L H a ys ∧ Reps K m L H xs ys
  | .cell n, v => ∃ a, v = .ref a ∧ m[n]? = some a
  | .dct ks vs, v => ∃ a ys, v = .ref a ∧ Rd H a (.dK (ks.zip ys)) ∧ ks.length = ys.length ∧ Reps K m L H vs ys
  | .exc c f vs, v => ∃ (a C : Addr) (od : Option Addr) (ys : List V), v = .ref a ∧ PySem.W.nsIn K mainGlobals c = some (some (.ref C)) ∧ H a = some (exq a C od) ∧ ExF K C ∧ Reps K m L H vs ys ∧ ((od = none ∧ ys = []) ∨ ∃ d y, od = some d ∧ ys = [y] ∧ PySem.W.findIn K (.ref C) f = some none ∧ H d = some (.xd [(f, y)]))
def Reps (K : PySem.W.Frag) (m : List Addr) (L : Addr → Prop) (H : Hp) : List D → List V → Prop
  | [], ys => ys = []
  | x :: xs, ys => ∃ y r, ys = y :: r ∧ Rep K m L H x y ∧ Reps K m L H xs r
end

theorem Reps.length {K m L H} : ∀ {xs : List D} {ys : List V}, Reps K m L H xs ys → xs.length = ys.length
  | [], ys, h => by simp only [Reps] at h; subst h; rfl
  | x :: xs, ys, h => by
    simp only [Reps] at h
    obtain ⟨y, r, rfl, _, h2⟩ := h
    simp [Reps.length h2]
theorem Reps.get {K m L H} : ∀ {xs : List D} {ys : List V} {i : Nat} {x : D}, Reps K m L H xs ys → xs[i]? = some x → ∃ y, ys[i]? = some y ∧ Rep K m L H x y
  | [], ys, i, x, h, e => by simp at e
  | x :: xs, ys, i, z, h, e => by
    simp only [Reps] at h
    obtain ⟨y, r, rfl, h1, h2⟩ := h
    cases i with
    | zero => simp at e; subst e; exact ⟨y, rfl, h1⟩
    | succ i =>
      obtain ⟨y', e', h'⟩ := Reps.get (i := i) h2 (by simpa using e)
      exact ⟨y', by simpa using e', h'⟩
theorem Reps.get' {K m L H} : ∀ {xs : List D} {ys : List V} {i : Nat} {y : V}, Reps K m L H xs ys → ys[i]? = some y → ∃ x, xs[i]? = some x ∧ Rep K m L H x y
  | [], ys, i, x, h, e => by simp only [Reps] at h; subst h; simp at e
  | x :: xs, ys, i, z, h, e => by
    simp only [Reps] at h
    obtain ⟨y, r, rfl, h1, h2⟩ := h
    cases i with
    | zero => simp at e; subst e; exact ⟨x, rfl, h1⟩
    | succ i =>
      obtain ⟨y', e', h'⟩ := Reps.get' (i := i) h2 (by simpa using e)
      exact ⟨y', by simpa using e', h'⟩
theorem Reps.append {K m L H} : ∀ {xs : List D} {ys : List V} {xs' : List D} {ys' : List V}, Reps K m L H xs ys → Reps K m L H xs' ys' → Reps K m L H (xs ++ xs') (ys ++ ys')
  | [], ys, xs', ys', h, h' => by simp only [Reps] at h; subst h; simpa using h'
  | x :: xs, ys, xs', ys', h, h' => by
    simp only [Reps] at h
    obtain ⟨y, r, rfl, h1, h2⟩ := h
    simp only [List.cons_append, Reps]
    exact ⟨y, r ++ ys', rfl, h1, Reps.append h2 h'⟩
theorem Reps.nil {K m L H} : Reps K m L H [] [] := by simp [Reps]
theorem Reps.cons {K m L H} {x : D} {y : V} {xs : List D} {ys : List V} (h : Rep K m L H x y) (h2 : Reps K m L H xs ys) : Reps K m L H (x :: xs) (y :: ys) := by
  simp only [Reps]; exact ⟨y, ys, rfl, h, h2⟩
theorem Reps.one {K m L H} {x : D} {ys : List V} (h : Reps K m L H [x] ys) : ∃ y, ys = [y] ∧ Rep K m L H x y := by
  simp only [Reps] at h
  obtain ⟨y, r, rfl, h1, rfl⟩ := h
  exact ⟨y, rfl, h1⟩
theorem Reps.two {K m L H} {x x' : D} {ys : List V} (h : Reps K m L H [x, x'] ys) : ∃ y y', ys = [y, y'] ∧ Rep K m L H x y ∧ Rep K m L H x' y' := by
  simp only [Reps] at h
  obtain ⟨y, r, rfl, h1, y', r', rfl, h2, rfl⟩ := h
  exact ⟨y, y', rfl, h1, h2⟩
theorem Reps.take {K m L H} : ∀ {xs : List D} {ys : List V} (n : Nat), Reps K m L H xs ys → Reps K m L H (xs.take n) (ys.take n)
  | [], ys, n, h => by simp only [Reps] at h; subst h; simp [Reps]
  | x :: xs, ys, n, h => by
    simp only [Reps] at h
    obtain ⟨y, r, rfl, h1, h2⟩ := h
    cases n with
    | zero => simp [Reps]
    | succ n => simp only [List.take_succ_cons]; exact Reps.cons h1 (Reps.take n h2)
theorem Reps.drop {K m L H} : ∀ {xs : List D} {ys : List V} (n : Nat), Reps K m L H xs ys → Reps K m L H (xs.drop n) (ys.drop n)
  | [], ys, n, h => by simp only [Reps] at h; subst h; simp [Reps]
  | x :: xs, ys, n, h => by
    cases n with
    | zero => simpa using h
    | succ n =>
      simp only [Reps] at h
      obtain ⟨y, r, rfl, h1, h2⟩ := h
      simpa using Reps.drop n h2
theorem Reps.set {K m L H} {x : D} {y : V} (r : Rep K m L H x y) : ∀ {xs : List D} {ys : List V} (i : Nat), Reps K m L H xs ys → Reps K m L H (xs.set i x) (ys.set i y)
  | [], ys, i, h => by simp only [Reps] at h; subst h; simp [Reps]
  | z :: xs, ys, i, h => by
    simp only [Reps] at h
    obtain ⟨y', rs, rfl, h1, h2⟩ := h
    cases i with
    | zero => simp only [List.set_cons_zero]; exact Reps.cons r h2
    | succ i => simp only [List.set_cons_succ]; exact Reps.cons h1 (Reps.set r i h2)

/-- what a step keeps: the cells' places, all that is tracked but the live cells and the tables; live cells are old ones or new addresses -/
structure Ext (m : List Addr) (st : Store) (H : Hp) (m' : List Addr) (st' : Store) (H' : Hp) : Prop where
  pre : ∀ (n : Nat) (a : Addr), m[n]? = some a → m'[n]? = some a
  keep : ∀ b o, H b = some o → ¬ Lv m st b → (∀ ps, o ≠ .tbl ps) → H' b = some o
  tbl : ∀ b ps, H b = some (.tbl ps) → ∃ more, H' b = some (.tbl (ps ++ more))
  new : ∀ a, Lv m' st' a → Lv m st a ∨ H a = none
theorem Ext.refl {m st H} : Ext m st H m st H := ⟨fun _ _ h => h, fun _ _ h _ _ => h, fun _ ps h => ⟨#[], by simpa using h⟩, fun _ h => .inl h⟩
/-- the live cells are lists -/
def CellsL (m : List Addr) (st : Store) (H : Hp) : Prop := ∀ a, Lv m st a → ∃ ys, H a = some (.lst ys)
theorem Ext.trans {m st H m1 st1 H1 m2 st2 H2} (a : Ext m st H m1 st1 H1) (b : Ext m1 st1 H1 m2 st2 H2) : Ext m st H m2 st2 H2 where
  pre := fun n x h => b.pre n x (a.pre n x h)
  keep := fun c o h nl nt => b.keep c o (a.keep c o h nl nt) (fun l => by
    rcases a.new c l with z | z
    · exact nl z
    · rw [z] at h; cases h) nt
  tbl := fun c ps h => by
    obtain ⟨m1, e1⟩ := a.tbl c ps h
    obtain ⟨m2, e2⟩ := b.tbl c _ e1
    exact ⟨m1 ++ m2, by rw [e2, Array.append_assoc]⟩
  new := fun c l => by
    rcases b.new c l with z | z
    · exact a.new c z
    · cases q : H c with
      | none => exact .inr rfl
      | some o =>
        refine .inl (Classical.byContradiction fun nl => ?_)
        cases o with
        | tbl ps => obtain ⟨more, e⟩ := a.tbl c ps q; rw [z] at e; cases e
        | _ => have e := a.keep c _ q nl (fun ps h => by cases h); rw [z] at e; cases e

theorem rd_keep {m st H m' st' H'} (e : Ext m st H m' st' H') {a : Addr} {o : HO} (h : Rd H a o) (nl : ¬ Lv m st a) (nt : ∀ ps, o ≠ .tbl ps) : Rd H' a o := by
  rcases h with h | ⟨ob, h⟩
  · exact .inl (e.keep a o h nl nt)
  · exact .inr ⟨ob, e.keep a _ h nl (fun ps z => by cases z)⟩
theorem sqT_keep {K : PySem.W.Frag} {m st H m' st' H'} (c : CellsL m st H) (e : Ext m st H m' st' H') {a : Addr} {xs : List V} (h : SqT K H a xs) : SqT K H' a xs := by
  rcases h with h | h
  · refine .inl (rd_keep e h (fun l => ?_) (fun ps z => by cases z))
    obtain ⟨ys, q⟩ := c a l
    rcases h with h | ⟨o, h⟩ <;> (rw [q] at h; cases h)
  · exact .inr h
mutual
theorem Rep.ext {K : PySem.W.Frag} {m st H m' st' H'} (c : CellsL m st H) (e : Ext m st H m' st' H') : ∀ {d : D} {v : V}, Rep K m (Lv m st) H d v → Rep K m' (Lv m' st') H' d v
  | .non, v, h => by simpa only [Rep] using h
  | .bl b, v, h => by simpa only [Rep] using h
  | .int i, v, h => by simpa only [Rep] using h
  | .str s, v, h => by simpa only [Rep] using h
  | .tup xs, v, h => by
    simp only [Rep] at h ⊢
    obtain ⟨a, ys, e1, h1, h2⟩ := h
    exact ⟨a, ys, e1, sqT_keep c e h1, Reps.ext c e h2⟩
  | .lst xs, v, h => by
    simp only [Rep] at h ⊢
    obtain ⟨a, ys, e1, h1, nl, h2⟩ := h
    refine ⟨a, ys, e1, e.keep a _ h1 nl (fun ps z => by cases z), fun l => ?_, Reps.ext c e h2⟩
    rcases e.new a l with z | z
    · exact nl z
    · rw [z] at h1; cases h1
  | .scr xs, v, h => by
    simp only [Rep] at h ⊢
    obtain ⟨a, ys, e1, h1, h2⟩ := h
    refine ⟨a, ys, e1, ?_, Reps.ext c e h2⟩
    rcases h1 with ⟨o, h1⟩ | ⟨h1, nl⟩ | h1
    · refine .inl ⟨o, e.keep a _ h1 (fun l => ?_) (fun ps z => by cases z)⟩
      obtain ⟨ws, q⟩ := c a l
      rw [h1] at q; cases q
    · refine .inr (.inl ⟨e.keep a _ h1 nl (fun ps z => by cases z), fun l => ?_⟩)
      rcases e.new a l with z | z
      · exact nl z
      · rw [z] at h1; cases h1
    · exact .inr (.inr h1)
  | .cell n, v, h => by
    simp only [Rep] at h ⊢
    obtain ⟨a, e1, h1⟩ := h
    exact ⟨a, e1, e.pre n a h1⟩
  | .dct ks vs, v, h => by
    simp only [Rep] at h ⊢
    obtain ⟨a, ys, e1, h1, hl, h2⟩ := h
    refine ⟨a, ys, e1, rd_keep e h1 (fun l => ?_) (fun ps z => by cases z), hl, Reps.ext c e h2⟩
    obtain ⟨ys', q⟩ := c a l
    rcases h1 with h1 | ⟨o, h1⟩ <;> (rw [q] at h1; cases h1)
  | .exc k f vs, v, h => by
    simp only [Rep] at h ⊢
    obtain ⟨a, C, od, ys, e1, e2, h1, hT, h2, h3⟩ := h
    refine ⟨a, C, od, ys, e1, e2, e.keep a _ h1 (fun l => ?_) (fun ps z => exq_tbl z), hT, Reps.ext c e h2, ?_⟩
    · obtain ⟨zs, q⟩ := c a l
      rw [h1] at q
      exact exq_lst (Option.some.inj q)
    · rcases h3 with h3 | ⟨d, y, e3, e4, hno, h3⟩
      · exact .inl h3
      · refine .inr ⟨d, y, e3, e4, hno, e.keep d _ h3 (fun l => ?_) (fun ps z => by cases z)⟩
        obtain ⟨zs, q⟩ := c d l
        rw [h3] at q; cases q
theorem Reps.ext {K : PySem.W.Frag} {m st H m' st' H'} (c : CellsL m st H) (e : Ext m st H m' st' H') : ∀ {xs : List D} {ys : List V}, Reps K m (Lv m st) H xs ys → Reps K m' (Lv m' st') H' xs ys
  | [], ys, h => by simpa only [Reps] using h
  | x :: xs, ys, h => by
    simp only [Reps] at h ⊢
    obtain ⟨y, r, e1, h1, h2⟩ := h
    exact ⟨y, r, e1, Rep.ext c e h1, Reps.ext c e h2⟩
end

/-- the store in the abstract heap; cs: the defs' code objects and their tables -/
structure SC (K : PySem.W.Frag) (cs : List (Addr × Addr)) (m : List Addr) (st : Store) (H : Hp) : Prop where
  len : m.length = st.length
  cell : ∀ (n : Nat) (xs : List D), st[n]? = some (some xs) → ∃ a ys, m[n]? = some a ∧ H a = some (.lst ys) ∧ Reps K m (Lv m st) H xs ys
  inj : ∀ (i j : Nat) (a : Addr) (xs ys : List D), st[i]? = some (some xs) → st[j]? = some (some ys) → m[i]? = some a → m[j]? = some a → i = j
  tab : ∀ p ∈ cs, GxR.TabG H p.2
theorem SC.cells {K cs m st H} (s : SC K cs m st H) : CellsL m st H := fun a ⟨n, xs, h1, h2⟩ => by
  obtain ⟨a', ys, e, h, _⟩ := s.cell n xs h1
  rw [h2] at e; cases e
  exact ⟨ys, h⟩

/-- slots -/
structure EnvR (K : PySem.W.Frag) (m : List Addr) (st : Store) (H : Hp) (env : Env) (σ : L2.St) : Prop where
  len : env.length = σ.length
  get : ∀ (i : Nat) (d : D), env[i]? = some (some d) → ∃ v : V, σ[i]? = some (some v) ∧ Rep K m (Lv m st) H d v
theorem EnvR.ext {K m st H m' st' H' env σ} (c : CellsL m st H) (e : Ext m st H m' st' H') (r : EnvR K m st H env σ) : EnvR K m' st' H' env σ :=
  ⟨r.len, fun i d h => let ⟨v, h1, h2⟩ := r.get i d h; ⟨v, h1, h2.ext c e⟩⟩
theorem EnvR.set {K m st H env σ} (r : EnvR K m st H env σ) {i : Nat} {d : D} {v : V} (h : Rep K m (Lv m st) H d v) : EnvR K m st H (env.set i (some d)) (σ.set i (some v)) where
  len := by simp [r.len]
  get := fun j d' e => by
    by_cases hj : i = j
    · subst hj
      by_cases hl : i < env.length
      · rw [List.getElem?_set_self hl] at e
        cases e
        exact ⟨v, by rw [List.getElem?_set_self (by rw [← r.len]; exact hl)], h⟩
      · rw [List.getElem?_eq_none (by simpa using hl)] at e; cases e
    · rw [List.getElem?_set_ne hj] at e
      obtain ⟨v', h1, h2⟩ := r.get j d' e
      exact ⟨v', by rw [List.getElem?_set_ne hj]; exact h1, h2⟩
def wipeE (env : Env) : List Nat → Env
  | [] => env
  | v :: vs => (wipeE env vs).set v none
theorem EnvR.setN {K m st H env σ} (r : EnvR K m st H env σ) (i : Nat) : EnvR K m st H (env.set i none) (σ.set i none) where
  len := by simp [r.len]
  get := fun j d' e => by
    by_cases hj : i = j
    · subst hj
      by_cases hl : i < env.length
      · rw [List.getElem?_set_self hl] at e; cases e
      · rw [List.getElem?_eq_none (by simpa using hl)] at e; cases e
    · rw [List.getElem?_set_ne hj] at e
      obtain ⟨v', h1, h2⟩ := r.get j d' e
      exact ⟨v', by rw [List.getElem?_set_ne hj]; exact h1, h2⟩
theorem EnvR.wipe {K m st H env σ} (r : EnvR K m st H env σ) : ∀ vs : List Nat, EnvR K m st H (wipeE env vs) (wipe σ vs)
  | [] => r
  | v :: vs => by unfold wipeE L2.wipe; exact (r.wipe vs).setN v

/-! ### how the heap grows -/
theorem ext_new {m st H} {p : Addr} {o : HO} (hp : H p = none) : Ext m st H m st (upd H p o) where
  pre := fun _ _ h => h
  keep := fun b u h _ _ => by rw [upd_ne (ne_of_none h hp)]; exact h
  tbl := fun b ps h => ⟨#[], by rw [upd_ne (ne_of_none h hp)]; simpa using h⟩
  new := fun _ h => .inl h
theorem tabG_ext {m st H m' st' H'} (e : Ext m st H m' st' H') (nt : ∀ P, ∀ ps, H P = some (.tbl ps) → H' P = some (.tbl ps)) {P : Addr} (h : GxR.TabG H P) : GxR.TabG H' P := by
  obtain ⟨ps, h1, h2⟩ := h
  exact ⟨ps, nt P ps h1, h2⟩
theorem SC.new {K cs m st H} (s : SC K cs m st H) {p : Addr} {o : HO} (hp : H p = none) : SC K cs m st (upd H p o) where
  len := s.len
  cell := fun n xs h => by
    obtain ⟨a, ys, h1, h2, h3⟩ := s.cell n xs h
    exact ⟨a, ys, h1, by rw [upd_ne (ne_of_none h2 hp)]; exact h2, h3.ext s.cells (ext_new hp)⟩
  inj := s.inj
  tab := fun q hq => tabG_ext (ext_new (m := m) (st := st) (o := o) hp) (fun P ps h => by rw [upd_ne (ne_of_none h hp)]; exact h) (s.tab q hq)
/-- a new tuple -/
theorem rep_tup {K cs m st H} (s : SC K cs m st H) {p : Addr} {xs : List D} {ys : List V} (hp : H p = none) (r : Reps K m (Lv m st) H xs ys) :
    Rep K m (Lv m st) (upd H p (.tup ys)) (.tup xs) (.ref p) := by
  simp only [Rep]
  exact ⟨p, ys, rfl, .inl (.inl upd_same), r.ext s.cells (ext_new hp)⟩
/-- a new list, by value -/
theorem rep_lst {K cs m st H} (s : SC K cs m st H) {p : Addr} {xs : List D} {ys : List V} (hp : H p = none) (r : Reps K m (Lv m st) H xs ys) :
    Rep K m (Lv m st) (upd H p (.lst ys)) (.lst xs) (.ref p) := by
  simp only [Rep]
  refine ⟨p, ys, rfl, upd_same, fun l => ?_, r.ext s.cells (ext_new hp)⟩
  obtain ⟨zs, q⟩ := s.cells p l
  rw [hp] at q; cases q
/-- a new cell -/
theorem lv_push {m st} (hl : m.length = st.length) {p a : Addr} {xs : List D} : Lv (m ++ [p]) (st ++ [some xs]) a ↔ Lv m st a ∨ a = p := by
  constructor
  · rintro ⟨n, ys, h1, h2⟩
    by_cases hn : n < st.length
    · rw [List.getElem?_append_left hn] at h1
      rw [List.getElem?_append_left (by omega)] at h2
      exact .inl ⟨n, ys, h1, h2⟩
    · rw [List.getElem?_append_right (by omega)] at h1 h2
      rw [hl] at h2
      have : n - st.length = 0 := by
        cases q : n - st.length with
        | zero => rfl
        | succ k => rw [q] at h1; simp at h1
      rw [this] at h2
      simp at h2
      exact .inr h2.symm
  · rintro (⟨n, ys, h1, h2⟩ | rfl)
    · exact ⟨n, ys, by rw [List.getElem?_append_left (List.getElem?_eq_some_iff.mp h1).1]; exact h1, by rw [List.getElem?_append_left (List.getElem?_eq_some_iff.mp h2).1]; exact h2⟩
    · exact ⟨st.length, xs, by simp, by rw [← hl]; simp⟩
theorem ext_cell {m st H} (hl : m.length = st.length) {p : Addr} {xs : List D} {o : HO} (hp : H p = none) : Ext m st H (m ++ [p]) (st ++ [some xs]) (upd H p o) where
  pre := fun n a h => by rw [List.getElem?_append_left (List.getElem?_eq_some_iff.mp h).1]; exact h
  keep := fun b u h _ _ => by rw [upd_ne (ne_of_none h hp)]; exact h
  tbl := fun b ps h => ⟨#[], by rw [upd_ne (ne_of_none h hp)]; simpa using h⟩
  new := fun a h => by
    rcases (lv_push hl).mp h with h | rfl
    · exact .inl h
    · exact .inr hp
theorem SC.push {K cs m st H} (s : SC K cs m st H) {p : Addr} {xs : List D} {ys : List V} (hp : H p = none) (r : Reps K m (Lv m st) H xs ys) :
    SC K cs (m ++ [p]) (st ++ [some xs]) (upd H p (.lst ys)) where
  len := by simp [s.len]
  cell := fun n zs h => by
    by_cases hn : n < st.length
    · rw [List.getElem?_append_left hn] at h
      obtain ⟨a, ws, h1, h2, h3⟩ := s.cell n zs h
      exact ⟨a, ws, (ext_cell (xs := xs) (o := HO.lst ys) s.len hp).pre n a h1, by rw [upd_ne (ne_of_none h2 hp)]; exact h2, h3.ext s.cells (ext_cell s.len hp)⟩
    · rw [List.getElem?_append_right (by omega)] at h
      have : n - st.length = 0 := by
        cases q : n - st.length with
        | zero => rfl
        | succ k => rw [q] at h; simp at h
      rw [this] at h
      simp at h
      subst h
      have : n = m.length := by have := s.len; omega
      subst this
      exact ⟨p, ys, by simp, upd_same, r.ext s.cells (ext_cell s.len hp)⟩
  inj := fun i j a xs' ys' h1 h2 h3 h4 => by
    have key : ∀ {i zs}, (st ++ [some xs])[i]? = some (some zs) → (m ++ [p])[i]? = some a → (i < st.length ∧ st[i]? = some (some zs) ∧ m[i]? = some a) ∨ (i = st.length ∧ a = p) := fun {i zs} h1 h3 => by
      by_cases hi : i < st.length
      · exact .inl ⟨hi, by rw [List.getElem?_append_left hi] at h1; exact h1, by rw [List.getElem?_append_left (by rw [s.len]; exact hi)] at h3; exact h3⟩
      · have h1' := h1
        rw [List.getElem?_append_right (by omega)] at h1'
        have e0 : i - st.length = 0 := by
          cases q : i - st.length with
          | zero => rfl
          | succ k => rw [q] at h1'; simp at h1'
        have ei : i = st.length := by omega
        refine .inr ⟨ei, ?_⟩
        rw [ei, ← s.len] at h3
        simp at h3
        exact h3.symm
    have notp : ∀ {i zs}, st[i]? = some (some zs) → m[i]? = some a → a ≠ p := fun {i zs} h1 h3 e => by
      obtain ⟨ws, q⟩ := s.cells a ⟨i, zs, h1, h3⟩
      rw [e, hp] at q; cases q
    rcases key h1 h3 with ⟨_, a1, a2⟩ | ⟨e1, e2⟩ <;> rcases key h2 h4 with ⟨_, b1, b2⟩ | ⟨e3, e4⟩
    · exact s.inj i j a _ _ a1 b1 a2 b2
    · exact absurd e4 (notp a1 a2)
    · exact absurd e2 (notp b1 b2)
    · omega
  tab := fun q hq => tabG_ext (ext_new (m := m) (st := st) (o := .lst ys) hp) (fun P ps h => by rw [upd_ne (ne_of_none h hp)]; exact h) (s.tab q hq)
end Mi

set_option Elab.async false
set_option linter.all false
set_option maxRecDepth 100000
set_option maxHeartbeats 4000000
/-! MiR: what the head is asked: constants, exceptions; the run in pieces. -/
namespace Mi
open PySem PySem.Spec PyProof.Rows L2
mutual
/-- the value u of the written part is d -/
def repK (K : PySem.W.Frag) : D → Value → Bool
  | .int i, u => (match u with
    | .int j _ => decide (i = j)
    | _ => false)
  | .tup xs, u => (match u with
    | .ref a => (match K.lookup a with
      | some ⟨.type c, _, .seq its _, _⟩ => decide (c = "tuple") && decide (its.size ≤ sizeLine) && repsK K xs its.toList
      | _ => false)
    | _ => false)
  | _, _ => false
def repsK (K : PySem.W.Frag) : List D → List Value → Bool
  | [], us => us.isEmpty
  | x :: xs, us => (match us with
    | u :: us => repK K x u && repsK K xs us
    | [] => false)
end
/-- the constants stand in the written part -/
def cstK (K : PySem.W.Frag) (gc : List (Str × D)) : Bool := gc.all fun p => match PySem.W.nsIn K mainGlobals p.1 with
  | some (some u) => repK K p.2 u
  | _ => false
end Mi
namespace Mi
open PySem PySem.W PySem.Calls PyProof.Rows PySem.HandSPX
def clsB (K : Frag) (C : Addr) : Bool := match K.lookup C with
  | some ⟨.type "type", _, .cls cd, sl⟩ => (match cd.mro, sl.toList with
    | .ref C' :: bm, [_, _, _, _, some (.builtin n), _] => C' == C && n == "ValueError.__new__" && !cd.hasDel && cd.hasDict && refsVE bm
    | _, _ => false)
  | _ => false
theorem clsB_ok {K : Frag} {C : Addr} (q : clsB K C = true) : ∃ nm q N bs bm sn sub ab col dd k0 k1 k2 k3 k5, K.lookup C = some (excClassObj nm q C N bs bm true sn sub ab col dd k0 k1 k2 k3 k5 "ValueError.__new__") ∧ refsVE bm = true := by
  unfold clsB at q
  split at q
  · rename_i dd cd sl ho
    split at q
    · rename_i C' bm k0 k1 k2 k3 n k5 hm hs
      simp only [Bool.and_eq_true, beq_iff_eq, Bool.not_eq_true'] at q
      obtain ⟨⟨⟨⟨rfl, rfl⟩, hdel⟩, hdct⟩, hok⟩ := q
      obtain ⟨nm, bs, mro, ns, qn, hd, sn, sub, ab, col, del⟩ := cd
      dsimp only at hm hdel hdct
      subst hm hdel hdct
      have hsl : sl = #[k0, k1, k2, k3, some (.builtin "ValueError.__new__"), k5] := by
        obtain ⟨l⟩ := sl
        simp only at hs
        rw [hs]
      subst hsl
      exact ⟨nm, qn, ns, bs, bm, sn, sub, ab, col, dd, k0, k1, k2, k3, k5, ho, hok⟩
    · cases q
  · cases q
def bodyB (f : Str) : List Stmt → Bool
  | [.Expr (.Call (.Attribute (.Call (.Name s1 _) [] [] _) s2 q2) [.Constant (.str _) _ _] [] q4) _, .Assign [.Attribute (.Name s3 _) f1 _] (.Name f2 _) _] => decide (s1 = "super") && decide (s2 = "__init__") && decide (s3 = "self") && decide (f1 = f) && decide (f2 = f) && (q2.endLine == q4.line)
  | _ => false
theorem bodyB_ok {f : Str} {b : List Stmt} (h : bodyB f b = true) : ∃ msg j q0 q1 q2 q3 q4 q5 r1 r2 r3 r4, b = iB f msg j q0 q1 q2 q3 q4 q5 r1 r2 r3 r4 ∧ (q2.endLine == q4.line) = true := by
  unfold bodyB at h
  split at h
  · simp only [Bool.and_eq_true, decide_eq_true_eq] at h
    obtain ⟨⟨⟨⟨⟨rfl, rfl⟩, rfl⟩, rfl⟩, rfl⟩, h6⟩ := h
    exact ⟨_, _, _, _, _, _, _, _, _, _, _, _, rfl, h6⟩
  · cases h
def argsB (f : Str) : Arguments → Bool
  | ⟨[], [⟨a1, none, _⟩, ⟨a2, none, _⟩], none, [], [], none, []⟩ => decide (a1 = "self") && decide (a2 = f)
  | _ => false
theorem argsB_ok {f : Str} {a : Arguments} (h : argsB f a = true) : ∃ p1 p2, a = iA f p1 p2 := by
  unfold argsB at h
  split at h
  · simp only [Bool.and_eq_true, decide_eq_true_eq] at h
    obtain ⟨rfl, rfl⟩ := h
    exact ⟨_, _, rfl⟩
  · cases h
end Mi
namespace Mi
open PySem PySem.W PySem.Calls PyProof.Rows PySem.HandSPX
def scopeB (f : Str) (sc : Scope) : Bool := decide (sc.kind = .function) && !sc.isCoroutine && !sc.isGenerator && decide (sc.names.lookup ("super" : Str) = some .globalImplicit) && decide (sc.names.lookup ("__class__" : Str) = some .free) && decide (sc.names.lookup ("self" : Str) = some .local) && decide (sc.names.lookup f = some .local) && sc.names.all (fun x => !decide (x.2 = .cell))
def isNoneV : Value → Bool
  | .none => true
  | _ => false
theorem isNoneV_ok {v : Value} (h : isNoneV v = true) : v = .none := by
  cases v <;> first | rfl | cases h
def codeFileB (P : Program) (K : Frag) (cda : Addr) : Bool := match K.lookup cda with
  | some ⟨_, _, .fields vs, _⟩ => (match (vs[2]? : Option Value) with
    | some (Value.str file _) => ((P.main.file : Str) == file)
    | _ => false)
  | _ => false
theorem codeFileB_ok {P : Program} {K : Frag} {cda : Addr} (h : codeFileB P K cda = true) : ∃ ccl cdd vs ccs file tf, K.lookup cda = some ⟨ccl, cdd, .fields vs, ccs⟩ ∧ vs[2]? = some (.str file tf) ∧ ((P.main.file : Str) == file) = true := by
  unfold codeFileB at h
  split at h
  · rename_i h1
    split at h
    · rename_i h2
      exact ⟨_, _, _, _, _, _, h1, h2, h⟩
    · cases h
  · cases h
def cellB (K : Frag) (cc C : Addr) : Bool := match K.lookup cc with
  | some ⟨_, _, .cell (some (.ref D)), _⟩ => D == C
  | _ => false
theorem cellB_ok {K : Frag} {cc C : Addr} (h : cellB K cc C = true) : ∃ cl cld csl, K.lookup cc = some ⟨cl, cld, .cell (some (.ref C)), csl⟩ := by
  unfold cellB at h
  split at h
  · rename_i h1
    obtain rfl := beq_iff_eq.mp h
    exact ⟨_, _, _, h1⟩
  · cases h
def fnB (P : Program) (K : Frag) (C fI : Addr) (f : Str) : Bool := match K.lookup fI with
  | some ⟨_, _, .func ⟨nm, qual, ar, .stmts b, sc, gl, [(cn, cc)], dV, kV, _, _, _, .ref cda, _, bt⟩, _⟩ =>
    decide (nm = "__init__") && argsB f ar && bodyB f b && scopeB f sc && (gl == mainGlobals) && decide (cn = "__class__") && isNoneV dV && isNoneV kV && (bt == builtinsNs) && codeIn K (.ref cda) qual && codeFileB P K cda && cellB K cc C
  | _ => false
def givenB (P : Program) (K : Frag) (C : Addr) (f : Str) : Bool := match findIn K (.ref C) "__init__" with
  | some (some (.ref fI)) => (decide (f = "given") || decide (f = "index")) && clsB K C && decide (findIn K (.ref C) "__setattr__" = some (some (.builtin "object.__setattr__"))) && decide (findIn K (.ref C) f = some none) && decide (typeIn K (.ref fI) = some (.type "function")) && keepIn K (.ref C) &&
    decide (subIn K (.ref C) (.type "BaseException") = some true) && decide (typeIn K (.ref C) = some (.type "type")) && fnB P K C fI f && decide (ks_superIn K C C "__init__" = some (some (.builtin "ValueError.__init__"))) && decide (mroIn K C (.ref C) = some true) && decide (subIn K (.ref C) (.type "ValueError") = some true) &&
    decide (nsIn K mainGlobals "super" = some none) && decide (nsIn K cStatics "thirdparty.any" = some none) && !(P.main.scope.names.lookup ("super" : Str)).isSome
  | _ => false
theorem givenB_ok {P : Program} {K : Frag} {C : Addr} {f : Str} (h : givenB P K C f = true) : ∃ fI, GivenTxt P K C fI f := by
  unfold givenB at h
  split at h
  · rename_i fI hi
    simp only [Bool.and_eq_true, Bool.or_eq_true, decide_eq_true_eq, Bool.not_eq_true'] at h
    obtain ⟨⟨⟨⟨⟨⟨⟨⟨⟨⟨⟨⟨⟨⟨h1, h2⟩, h3⟩, h4⟩, h5⟩, h6⟩, h7⟩, h8⟩, h9⟩, h10⟩, h11⟩, h12⟩, h13⟩, h14⟩, h15⟩ := h
    refine ⟨fI, clsB_ok h2, h3, h4, hi, h5, h6, h7, h8, ?_, h10, h11, h12, h13, h14, h15, h1⟩
    unfold fnB at h9
    split at h9
    · rename_i oc od nm qual ar b sc gl cn cc dV kV doc pm an cda ct bt osl hl
      simp only [Bool.and_eq_true, decide_eq_true_eq, beq_iff_eq] at h9
      obtain ⟨⟨⟨⟨⟨⟨⟨⟨⟨⟨⟨rfl, g2⟩, g3⟩, g4⟩, rfl⟩, rfl⟩, g7⟩, g8⟩, rfl⟩, g10⟩, g11⟩, g12⟩ := h9
      obtain ⟨p1, p2, rfl⟩ := argsB_ok g2
      obtain ⟨msg, j, q0, q1, q2, q3, q4, q5, r1, r2, r3, r4, rfl, hpos⟩ := bodyB_ok g3
      obtain rfl := isNoneV_ok g7
      obtain rfl := isNoneV_ok g8
      simp only [scopeB, Bool.and_eq_true, decide_eq_true_eq, Bool.not_eq_true', List.all_eq_true, decide_eq_false_iff_not] at g4
      obtain ⟨⟨⟨⟨⟨⟨⟨s1, s2⟩, s3⟩, s4⟩, s5⟩, s6⟩, s7⟩, s8⟩ := g4
      exact ⟨oc, od, doc, pm, an, cda, cc, ct, osl, msg, j, p1, p2, q0, q1, q2, q3, q4, q5, r1, r2, r3, r4, qual, sc, hl, g10, codeFileB_ok g11, cellB_ok g12, hpos, s1, s2, s3, s4, s5, s6, s7, fun x hx => s8 x hx⟩
    · cases h9
  · cases h
end Mi
namespace Mi
open PySem PySem.W PySem.Calls PyProof.Rows PySem.HandSPX
def mkB (P : Program) (K : Frag) (p : Str × Str) : Bool := match nsIn K mainGlobals p.1 with
  | some (some (.ref C)) => exfB K C && (if p.2 = "" then excIn K C [.type "ValueError", .type "Exception", .type "BaseException", .type "object"] "ValueError.__new__" && keepIn K (.ref C) && decide (subIn K (.ref C) (.type "BaseException") = some true) && decide (typeIn K (.ref C) = some (.type "type")) else givenB P K C p.2)
  | _ => false
/-- c, x, the built-in type that x is, the answer -/
def xiB (K : Frag) (p : Str × Str × Option String × Bool) : Bool := match nsIn K mainGlobals p.1 with
  | some (some (.ref C)) => (match p.2.2.1 with
    | none => (match nsIn K mainGlobals p.2.1 with
      | some (some (.ref D)) => decide (kitOne K (.ref C) (.ref D) = some p.2.2.2) && decide (exmOne K (.ref C) (.ref D) = some p.2.2.2)
      | _ => false)
    | some T => decide (nsIn K mainGlobals p.2.1 = some none) && decide (bootBuiltins p.2.1 = some (.type T)) && decide (kitOne K (.ref C) (.type T) = some p.2.2.2) && decide (exmOne K (.ref C) (.type T) = some p.2.2.2))
  | _ => false
/-- all of an exceptions' table -/
def excK (P : Program) (K : Frag) (mk : List (Str × Str)) (xi : List (Str × Str × Option String × Bool)) : Bool := mk.all (mkB P K) && xi.all (xiB K)
def xmOf (xi : List (Str × Str × Option String × Bool)) (c x : Str) : Option Bool := (xi.find? fun p => decide (p.1 = c) && decide (p.2.1 = x)).map (·.2.2.2)
def xcOf (mk : List (Str × Str)) (c f : Str) : Bool := mk.any fun p => decide (p.1 = c) && decide (p.2 = f)
end Mi
namespace Mi
open PySem PySem.Spec PyProof.Rows L2 He
def smdB (K : PySem.W.Frag) : Bool := match K.lookup sysModules with
  | some ⟨.type c, _, _, _⟩ => decide (c = "dict")
  | _ => false
theorem smdB_ok {K : PySem.W.Frag} (h : smdB K = true) : ∃ o, K.lookup sysModules = some o ∧ o.cls = .type "dict" := by
  unfold smdB at h
  split at h
  · rename_i c dd dt sl q
    exact ⟨_, q, congrArg Value.type (of_decide_eq_true h)⟩
  · cases h
/-- the part of the heap that is looked at: the module's names in n steps, and the statics -/
def fragY (g : Addr → Option Obj) (n : Nat) : PySem.W.Frag := frT g (cStatics :: sysModules :: asD g n)
def obsY (n : Nat) (fa : List Fa) (fn : List DefD) (tf : List Defn) (ex : PySem.W.Frag → Bool) (g : Addr → Option Obj) : AlX :=
  (obsT fa fn [] (fragY g n), ex (fragY g n) && tabsB g tf (fragY g n))
theorem saysY {n : Nat} {fa : List Fa} {fn : List DefD} {tf : List Defn} {ex : PySem.W.Frag → Bool} {w : World} {h : Heap} (hyp : obsY n fa fn tf ex h.get? = valX fn [] w) :
    SaysX fa fn [] tf ex w h (fragY h.get? n) := by
  obtain ⟨hA, hB⟩ := Prod.mk.inj hyp
  rw [Bool.and_eq_true] at hB
  have look : ∀ q ∈ tf, ∃ ob, h.get? (cT (fragY h.get? n) q).2 = some ob ∧ emptyTab ob = true ∧ PySem.W.codeHdIn (fragY h.get? n) (cT (fragY h.get? n) q).1 (cT (fragY h.get? n) q).2 = true := by
    intro q hq
    have hone := List.all_eq_true.mp hB.2 q hq
    rw [Bool.and_eq_true] at hone
    obtain ⟨hone1, hone2⟩ := hone
    split at hone2
    · rename_i ob hob
      exact ⟨ob, hob, hone2, hone1⟩
    · cases hone2
  constructor
  · exact hA
  · exact hB.1
  · intro q hq
    obtain ⟨_, _, _, z⟩ := look q hq
    exact z
  · intro q hq
    obtain ⟨ob, y1, y2, _⟩ := look q hq
    exact frT_none y1 y2
  · intro q hq
    obtain ⟨ob, y1, y2, _⟩ := look q hq
    rw [y1, emptyTab_eq y2]
def hookY (n : Nat) (fa : List Fa) (fn : List DefD) (tf : List Defn) (ex : PySem.W.Frag → Bool) : PySem.W.Hook :=
  { α := AlX, obs := fun st => obsY n fa fn tf ex st.heap.get?, val := fun wd => valX fn [] wd
    says := fun wd hp => ∃ K : PySem.W.Frag, K.In hp ∧ SaysX fa fn [] tf ex wd hp K
    of := fun _ _ hyp => ⟨_, frT_in, saysY hyp⟩
    keeps := fun _ _ _ y kp => by
      obtain ⟨K, y1, y2⟩ := y
      refine ⟨K, y1.keeps kp, y2.t, y2.more, y2.hd, y2.out, fun q hq => kp _ _ (y2.empty q hq)⟩ }
theorem obsY_eq {n : Nat} {fa : List Fa} {fn : List DefD} {tf : List Defn} {ex : PySem.W.Frag → Bool} (s : PySem.W.SharedT) : obsY n fa fn tf ex (HandSHeadRun.getT s) = (hookY n fa fn tf ex).obs s.abs := by
  rw [show HandSHeadRun.getT s = s.abs.heap.get? from funext (HandSHeadRun.getT_eq s)]
  rfl
end Mi
namespace Mi
open PySem PySem.Spec PyProof.Rows L2
open HandSHeadRun PySem.W PySem.Calls in
/-- the whole run with one look at its end -/
def RunP (r : PySem.W.OpenRow) (M : Nat) (w : World) {β : Type} (f : Shared × SharedT → β) (v : β) : Prop :=
  (wholeF (fun p => stepQ (denQ tabQ) p w) fenceQ M r.prog).map f = some v
theorem map_two {α β γ : Type} {o : Option α} {f : α → β} {g : α → γ} {b : β} {c : γ} (h1 : o.map f = some b) (h2 : o.map g = some c) : o.map (fun x => (f x, g x)) = some (b, c) := by
  cases o with
  | none => cases h1
  | some x => cases h1; cases h2; rfl
theorem obs_app {n : Nat} {fa1 fa2 : List He.Fa} {fn1 fn2 : List He.DefD} {tf1 tf2 : List He.Defn} {ex1 ex2 : PySem.W.Frag → Bool} {w : World} {g : Addr → Option Obj}
    (h1 : obsY n fa1 fn1 tf1 ex1 g = He.valX fn1 [] w) (h2 : obsY n fa2 fn2 tf2 ex2 g = He.valX fn2 [] w) :
    obsY n (fa1 ++ fa2) (fn1 ++ fn2) (tf1 ++ tf2) (fun K => ex1 K && ex2 K) g = He.valX (fn1 ++ fn2) [] w := by
  simp only [obsY, He.valX, He.obsT, He.valT, He.obsD, He.valD, Prod.mk.injEq, Bool.and_eq_true, He.tabsB, List.all_append, List.map_append, List.map_nil, and_true] at h1 h2 ⊢
  obtain ⟨⟨⟨a1, b1⟩, c1⟩, d1, e1⟩ := h1
  obtain ⟨⟨⟨a2, b2⟩, c2⟩, d2, e2⟩ := h2
  exact ⟨⟨⟨⟨a1, a2⟩, b1, b2⟩, by rw [c1, c2]⟩, ⟨d1, d2⟩, e1, e2⟩
theorem runp_app {r : PySem.W.OpenRow} {M n : Nat} {fa1 fa2 : List He.Fa} {fn1 fn2 : List He.DefD} {tf1 tf2 : List He.Defn} {ex1 ex2 : PySem.W.Frag → Bool} {w : World}
    (h1 : RunP r M w (fun x => obsY n fa1 fn1 tf1 ex1 (HandSHeadRun.getT x.2)) (He.valX fn1 [] w))
    (h2 : RunP r M w (fun x => obsY n fa2 fn2 tf2 ex2 (HandSHeadRun.getT x.2)) (He.valX fn2 [] w)) :
    RunP r M w (fun x => obsY n (fa1 ++ fa2) (fn1 ++ fn2) (tf1 ++ tf2) (fun K => ex1 K && ex2 K) (HandSHeadRun.getT x.2)) (He.valX (fn1 ++ fn2) [] w) := by
  unfold RunP at h1 h2 ⊢
  revert h1 h2
  generalize HandSHeadRun.wholeF _ _ _ _ = o
  intro h1 h2
  cases o with
  | none => cases h1
  | some x =>
    exact congrArg some (obs_app (Option.some.inj h1) (Option.some.inj h2))
open HandSHeadRun PySem.W PySem.Calls in
theorem run_of {r : PySem.W.OpenRow} {q : Program} {M n : Nat} {fa : List He.Fa} {fn : List He.DefD} {tf : List He.Defn} {ex : PySem.W.Frag → Bool} {loose : List PySem.Str} {w : World}
    (h0 : RunP r M w (fun x => (looksF r.prog x.1.heap x.2.abs, seenQ q loose (importedModules r.prog.main.body) (fun s => xlAt q [] s && recOk r.toRowW.records s) x.2.abs)) (true, openGood q loose))
    (h1 : RunP r M w (fun x => obsY n fa fn tf ex (HandSHeadRun.getT x.2)) (He.valX fn [] w)) :
    RunEqI r q (hookY n fa fn tf ex) (fun s => obsY n fa fn tf ex (HandSHeadRun.getT s)) M loose w := by
  unfold RunP at h0 h1
  unfold RunEqI
  revert h0 h1
  generalize HandSHeadRun.wholeF _ _ _ _ = o
  intro h0 h1
  cases o with
  | none => cases h1
  | some x =>
    have e0 := Option.some.inj h0
    have e1 := Option.some.inj h1
    obtain ⟨a, b⟩ := Prod.mk.inj e0
    exact congrArg some (Prod.ext a (Prod.ext b e1))
end Mi

set_option Elab.async false
set_option linter.all false
set_option maxRecDepth 100000
set_option maxHeartbeats 4000000
namespace K03
open PySem PySem.Spec PyProof.Rows L2 Mi
def gcT : List (PySem.Str × Mi.D) := []
def mkT : List (PySem.Str × PySem.Str) := []
def xiT : List (PySem.Str × PySem.Str × Option String × Bool) := []
def top (i : Nat) : Stmt := PySem.Challenge.pw_sevenpins_k03_whole_plain_directions.main.body.getD i (.Pass ⟨0, 0, 0, 0⟩)
def d_over_common : He.DefD := ⟨("over_common", none), "over_common", "over_common", defArgs (top 5), defBody (top 5), defScope (top 5), [], []⟩
def d_as_fractions : He.DefD := ⟨("as_fractions", none), "as_fractions", "as_fractions", defArgs (top 6), defBody (top 6), defScope (top 6), [], []⟩
def d_without_common : He.DefD := ⟨("without_common", none), "without_common", "without_common", defArgs (top 7), defBody (top 7), defScope (top 7), [], []⟩
def d_forward : He.DefD := ⟨("forward", none), "forward", "forward", defArgs (top 8), defBody (top 8), defScope (top 8), [], []⟩
def d_is_nought : He.DefD := ⟨("is_nought", none), "is_nought", "is_nought", defArgs (top 10), defBody (top 10), defScope (top 10), [], []⟩
def d_is_whole : He.DefD := ⟨("is_whole", none), "is_whole", "is_whole", defArgs (top 12), defBody (top 12), defScope (top 12), [], []⟩
def d_is_fraction : He.DefD := ⟨("is_fraction", none), "is_fraction", "is_fraction", defArgs (top 13), defBody (top 13), defScope (top 13), [], []⟩
def d_is_triple : He.DefD := ⟨("is_triple", none), "is_triple", "is_triple", defArgs (top 14), defBody (top 14), defScope (top 14), [], []⟩
def d_is_direction : He.DefD := ⟨("is_direction", none), "is_direction", "is_direction", defArgs (top 15), defBody (top 15), defScope (top 15), [], []⟩
def d_check_direction : He.DefD := ⟨("check_direction", none), "check_direction", "check_direction", defArgs (top 16), defBody (top 16), defScope (top 16), [], []⟩
def d_plain_direction : He.DefD := ⟨("plain_direction", none), "plain_direction", "plain_direction", defArgs (top 17), defBody (top 17), defScope (top 17), [], []⟩
def d__law_well : He.DefD := ⟨("_law_well", none), "_law_well", "_law_well", defArgs (top 19), defBody (top 19), defScope (top 19), [], []⟩
def d__law_draw : He.DefD := ⟨("_law_draw", none), "_law_draw", "_law_draw", defArgs (top 20), defBody (top 20), defScope (top 20), [], []⟩
def d__law_pick : He.DefD := ⟨("_law_pick", none), "_law_pick", "_law_pick", defArgs (top 21), defBody (top 21), defScope (top 21), [], []⟩
def d__law_low : He.DefD := ⟨("_law_low", none), "_law_low", "_law_low", defArgs (top 22), defBody (top 22), defScope (top 22), [], []⟩
def d__law_far : He.DefD := ⟨("_law_far", none), "_law_far", "_law_far", defArgs (top 23), defBody (top 23), defScope (top 23), [], []⟩
def d__law_ratio : He.DefD := ⟨("_law_ratio", none), "_law_ratio", "_law_ratio", defArgs (top 24), defBody (top 24), defScope (top 24), [], []⟩
def d__law_less : He.DefD := ⟨("_law_less", none), "_law_less", "_law_less", defArgs (top 25), defBody (top 25), defScope (top 25), [], []⟩
def d__law_by : He.DefD := ⟨("_law_by", none), "_law_by", "_law_by", defArgs (top 26), defBody (top 26), defScope (top 26), [], []⟩
def d__law_times : He.DefD := ⟨("_law_times", none), "_law_times", "_law_times", defArgs (top 27), defBody (top 27), defScope (top 27), [], []⟩
def d__law_cross : He.DefD := ⟨("_law_cross", none), "_law_cross", "_law_cross", defArgs (top 28), defBody (top 28), defScope (top 28), [], []⟩
def d__law_nought : He.DefD := ⟨("_law_nought", none), "_law_nought", "_law_nought", defArgs (top 29), defBody (top 29), defScope (top 29), [], []⟩
def d__law_part : He.DefD := ⟨("_law_part", none), "_law_part", "_law_part", defArgs (top 30), defBody (top 30), defScope (top 30), [], []⟩
def d__law_row : He.DefD := ⟨("_law_row", none), "_law_row", "_law_row", defArgs (top 31), defBody (top 31), defScope (top 31), [], []⟩
def d__law_wide : He.DefD := ⟨("_law_wide", none), "_law_wide", "_law_wide", defArgs (top 32), defBody (top 32), defScope (top 32), [], []⟩
def d__law_some : He.DefD := ⟨("_law_some", none), "_law_some", "_law_some", defArgs (top 33), defBody (top 33), defScope (top 33), [], []⟩
def d__law_heading : He.DefD := ⟨("_law_heading", none), "_law_heading", "_law_heading", defArgs (top 34), defBody (top 34), defScope (top 34), [], []⟩
def d__law_lean : He.DefD := ⟨("_law_lean", none), "_law_lean", "_law_lean", defArgs (top 35), defBody (top 35), defScope (top 35), [], []⟩
def d__law_is_whole : He.DefD := ⟨("_law_is_whole", none), "_law_is_whole", "_law_is_whole", defArgs (top 36), defBody (top 36), defScope (top 36), [], []⟩
def d__law_is_ratio : He.DefD := ⟨("_law_is_ratio", none), "_law_is_ratio", "_law_is_ratio", defArgs (top 37), defBody (top 37), defScope (top 37), [], []⟩
def d__law_are_ratios : He.DefD := ⟨("_law_are_ratios", none), "_law_are_ratios", "_law_are_ratios", defArgs (top 38), defBody (top 38), defScope (top 38), [], []⟩
def d__law_is_heading : He.DefD := ⟨("_law_is_heading", none), "_law_is_heading", "_law_is_heading", defArgs (top 39), defBody (top 39), defScope (top 39), [], []⟩
def d__law_is_plain : He.DefD := ⟨("_law_is_plain", none), "_law_is_plain", "_law_is_plain", defArgs (top 40), defBody (top 40), defScope (top 40), [], []⟩
def d__law_right : He.DefD := ⟨("_law_right", none), "_law_right", "_law_right", defArgs (top 41), defBody (top 41), defScope (top 41), [], []⟩
def d_law : He.DefD := ⟨("law", none), "law", "law", defArgs (top 42), defBody (top 42), defScope (top 42), [], []⟩
def fn : List He.DefD := [d_over_common, d_as_fractions, d_without_common, d_forward, d_is_nought, d_is_whole, d_is_fraction, d_is_triple, d_is_direction, d_check_direction, d_plain_direction, d__law_well, d__law_draw, d__law_pick, d__law_low, d__law_far, d__law_ratio, d__law_less, d__law_by, d__law_times, d__law_cross, d__law_nought, d__law_part, d__law_row, d__law_wide, d__law_some, d__law_heading, d__law_lean, d__law_is_whole, d__law_is_ratio, d__law_are_ratios, d__law_is_heading, d__law_is_plain, d__law_right, d_law]
def fa : List He.Fa := [.glo "over_common", .glo "as_fractions", .glo "without_common", .glo "forward", .glo "is_nought", .glo "is_whole", .glo "is_fraction", .glo "is_triple", .glo "is_direction", .glo "check_direction", .glo "plain_direction", .glo "_law_well", .glo "_law_draw", .glo "_law_pick", .glo "_law_low", .glo "_law_far", .glo "_law_ratio", .glo "_law_less", .glo "_law_by", .glo "_law_times", .glo "_law_cross", .glo "_law_nought", .glo "_law_part", .glo "_law_row", .glo "_law_wide", .glo "_law_some", .glo "_law_heading", .glo "_law_lean", .glo "_law_is_whole", .glo "_law_is_ratio", .glo "_law_are_ratios", .glo "_law_is_heading", .glo "_law_is_plain", .glo "_law_right", .glo "law", .free "ValueError", .free "abs", .free "all", .free "bool", .free "divmod", .free "int", .free "isinstance", .free "len", .free "list", .free "max", .free "min", .free "range", .free "repr", .free "sum", .free "super", .free "tuple", .free "str", .free "any", .free "zip", .free "enumerate"]
def tf : List He.Defn := [("as_fractions", none), ("is_nought", none), ("is_triple", none)]
def loose0 : List PySem.Str := ["__name__", "ScrewError", "InvalidDirection", "over_common", "as_fractions", "without_common", "forward", "is_nought", "is_whole", "is_fraction", "is_triple", "is_direction", "check_direction", "plain_direction", "_law_well", "_law_draw", "_law_pick", "_law_low", "_law_far", "_law_ratio", "_law_less", "_law_by", "_law_times", "_law_cross", "_law_nought", "_law_part", "_law_row", "_law_wide", "_law_some", "_law_heading"]
def loose1 : List PySem.Str := ["_law_lean", "_law_is_whole", "_law_is_ratio", "_law_are_ratios", "_law_is_heading", "_law_is_plain", "_law_right"]
def loose : List PySem.Str := loose0 ++ loose1
def ex (K : PySem.W.Frag) : Bool := He.eqO (PySem.W.nsIn K mainGlobals "gcd") (some (some (.builtin "math.gcd"))) && He.eqO (PySem.W.nsIn K mainGlobals "lcm") (some (some (.builtin "math.lcm"))) && Mi.cstK K gcT && Mi.smdB K && Mi.excK (PySem.Challenge.rw_sevenpins_k03_whole_plain_directions).prog K mkT xiT
abbrev R : PySem.W.OpenRow := PySem.W.OpenLaw.row PySem.Challenge.rw_sevenpins_k03_whole_plain_directions
abbrev hk : PySem.W.Hook := Mi.hookY 4 fa fn tf ex
def ob (s : PySem.W.SharedT) : He.AlX := Mi.obsY 4 fa fn tf ex (HandSHeadRun.getT s)
theorem ob_eq (s : PySem.W.SharedT) : ob s = hk.obs s.abs := Mi.obsY_eq s
def fn_0 : List He.DefD := [d_over_common, d_as_fractions, d_without_common, d_forward, d_is_nought, d_is_whole, d_is_fraction, d_is_triple, d_is_direction, d_check_direction, d_plain_direction, d__law_well, d__law_draw, d__law_pick, d__law_low, d__law_far, d__law_ratio, d__law_less]
def fa_0 : List He.Fa := [.glo "over_common", .glo "as_fractions", .glo "without_common", .glo "forward", .glo "is_nought", .glo "is_whole", .glo "is_fraction", .glo "is_triple", .glo "is_direction", .glo "check_direction", .glo "plain_direction", .glo "_law_well", .glo "_law_draw", .glo "_law_pick", .glo "_law_low", .glo "_law_far", .glo "_law_ratio", .glo "_law_less"]
def tf_0 : List He.Defn := [("as_fractions", none), ("is_nought", none)]
theorem run_0 (w : World) : Mi.RunP R 6300 w (fun x => Mi.obsY 4 fa_0 fn_0 tf_0 ex (HandSHeadRun.getT x.2)) (He.valX fn_0 [] w) := by
  unfold Mi.RunP
  kernel_rfl
def fn_1 : List He.DefD := [d__law_by, d__law_times, d__law_cross, d__law_nought, d__law_part, d__law_row, d__law_wide, d__law_some, d__law_heading, d__law_lean, d__law_is_whole, d__law_is_ratio, d__law_are_ratios, d__law_is_heading, d__law_is_plain, d__law_right, d_law]
def fa_1 : List He.Fa := [.glo "_law_by", .glo "_law_times", .glo "_law_cross", .glo "_law_nought", .glo "_law_part", .glo "_law_row", .glo "_law_wide", .glo "_law_some", .glo "_law_heading", .glo "_law_lean", .glo "_law_is_whole", .glo "_law_is_ratio", .glo "_law_are_ratios", .glo "_law_is_heading", .glo "_law_is_plain", .glo "_law_right", .glo "law", .free "ValueError", .free "abs", .free "all", .free "bool", .free "divmod", .free "int", .free "isinstance", .free "len", .free "list", .free "max", .free "min", .free "range", .free "repr", .free "sum", .free "super", .free "tuple", .free "str", .free "any", .free "zip", .free "enumerate"]
def tf_1 : List He.Defn := [("is_triple", none)]
theorem run_1 (w : World) : Mi.RunP R 6300 w (fun x => Mi.obsY 4 fa_1 fn_1 tf_1 (fun _ => true) (HandSHeadRun.getT x.2)) (He.valX fn_1 [] w) := by
  unfold Mi.RunP
  kernel_rfl
open HandSHeadRun PySem.W PySem.Calls in
theorem run_s (w : World) : Mi.RunP R 6300 w (fun x => (looksF R.prog x.1.heap x.2.abs, seenQ (PySem.W.view R.prog [0, 42]) loose (importedModules R.prog.main.body) (fun s => xlAt (PySem.W.view R.prog [0, 42]) [] s && recOk R.toRowW.records s) x.2.abs)) (true, openGood (PySem.W.view R.prog [0, 42]) loose) := by
  unfold Mi.RunP
  kernel_rfl
theorem run (w : World) : HandSHeadRun.RunEqI R (PySem.W.view R.prog [0, 42]) hk ob 6300 loose w := by
  have e1 : fa_0 ++ (fa_1) = fa := rfl
  have e2 : fn_0 ++ (fn_1) = fn := rfl
  have e3 : tf_0 ++ (tf_1) = tf := rfl
  have e4 : (fun K => ex K && (true)) = ex := by
    funext K
    simp only [Bool.and_true, Bool.true_and]
  have h := Mi.runp_app (run_0 w) (run_1 w)
  simp only [e1, e2, e3, e4] at h
  exact Mi.run_of (run_s w) h
end K03

set_option Elab.async false
set_option linter.all false
set_option maxRecDepth 100000
set_option maxHeartbeats 4000000
/-! MiX2: try .. except X as n, the exception an object of ours in the suite; isinstance of such objects; their fields. -/
namespace Mi
open PySem PySem.Spec PyProof.Rows L2
section
variable {X : Cx} {pins : List (Addr × Obj)} {σ : L2.St} {H : Hp} {s : Shared}
theorem inv_exq {a C : Addr} {oe : Obj} {vs : Array Value} {d : Option Addr} {pn : List (Addr × Obj)} (I : Inv (X.suite a ((a, oe) :: pn)) [] σ H s) (hz : Zc (.ref C) d oe) (hd : oe.data = .fields vs) (h0 : X.s_0.heap.get? a = none) (hpn : ∀ p ∈ pn, p.1 ≠ a) :
    Inv (X.suite a pn) [] σ (upd H a (exq a C d)) s := by
  have pa := I.pin (a, oe) (List.mem_append_left _ List.mem_cons_self)
  have na : H a = none := pa.2.1
  have nL : a ≠ X.env.locals := pa.2.2.1
  have old : ∀ b o, X.s_0.heap.get? b = some o → b ≠ a := fun b o e z => by rw [z, h0] at e; cases e
  refine ⟨⟨I.ok.mod, I.ok.kind, I.ok.glob, I.ok.blt, I.ok.above, I.ok.inj, I.ok.has, I.ok.cab, (fun z => absurd (show false = true from z) Bool.false_ne_true), I.ok.frames, I.ok.stk, I.ok.exf, I.ok.bs, I.ok.bsz, I.ok.noex, I.ok.exfs, I.ok.funs, I.ok.frf⟩,
    I.os, I.bare, ⟨I.base.keep, I.base.slot, fun b o e n hx => ?_, I.base.there, fun b xs e => ?_, fun b o u e => ?_, fun b ps e => ?_⟩, I.loc, I.cell, ?_, fun x c e => ?_, fun p hp => ?_, fun b o e => ?_, I.len⟩
  · rw [upd_ne (old b o e)]; exact I.base.free b o e n hx
  · have q := I.base.tups b xs e
    rw [upd_ne (ne_of_none q na)]; exact q
  · have q := I.base.frzs b o u e
    rw [upd_ne (ne_of_none q na)]; exact q
  · obtain ⟨m, q⟩ := I.base.tbls b ps e
    exact ⟨m, by rw [upd_ne (ne_of_none q na)]; exact q⟩
  · rw [upd_ne (Ne.symm nL)]; exact I.free
  · have ne : c ≠ a := fun z => by
      obtain ⟨v, o, e1, e2⟩ := I.cell x c e
      rw [z, pa.1] at e1
      have e1 := Option.some.inj e1
      rw [← e1, hd] at e2
      cases e2
    rw [upd_ne ne]; exact I.freeC x c e
  · have hp' : p ∈ pn := by simpa using hp
    obtain ⟨e, n, r⟩ := I.pin p (List.mem_append_left _ (List.mem_cons_of_mem _ hp'))
    exact ⟨e, by rw [upd_ne (hpn p hp')]; exact n, r⟩
  · by_cases hb : b = a
    · subst hb
      rw [upd_same] at e
      cases e
      exact ⟨⟨oe, vs, pa.1, hz, hd⟩, ⟨oe, pa.1⟩, fun _ _ ⟨o, v, q, r⟩ k => ⟨o, v, k o q, r⟩⟩
    · rw [upd_ne hb] at e
      exact (I.hok b o e).stay (fun c v _ q => q) (fun c q => by rw [upd_ne (ne_of_none q na)]; exact q) fun c xs q => by rw [upd_ne (ne_of_none q na)]; exact q
/-- what the clause wishes of an exception of the body -/
def wQ (K : PySem.W.Frag) (c : Value) (i : Nat) (ts : TS) (Wout : WX) (D : Ends) : WX := fun cls d σ H =>
  ∃ b, PySem.W.exmOne K cls c = some b ∧ (b = true → ∃ C : Addr, cls = .ref C ∧ ∀ a, H a = none → ts { nx := fun σ' H' => D.nx (σ'.set i none) H', rt := D.rt, bk := fun σ' H' => D.bk (σ'.set i none) H', ct := fun σ' H' => D.ct (σ'.set i none) H' } (σ.set i (some (.ref a))) (upd H a (exq a C d))) ∧
    (b = false → Wout cls d σ H)
end
section
variable {X : Cx} {x n : Str} {c : Value} {i : Nat} {body suite : List Stmt} {b₀ : Stmt} {np pos pos' : Pos} {tb : WX → TS} {ts : TS} {Wout : WX}
theorem ps_try_q (hs : X.stack = X.env :: X.outer) (hf : X.env.frame = some X.env.locals) (hex : X.ex = []) (hN : X.N.Nodup) (hi : X.N[i]? = some n) (hln : X.env.kindOf n = some .local) (hc : Names X x c) (tk : Takes X Wout)
    (hb : ∀ (W : WX) (pn : List (Addr × Obj)) (xe : Value → Shared → Prop), Takes (X.tr pn xe) W → PassesOwn (model X.prog X.w) X.A X.env xe → PSs (X.tr pn xe) body (tb W))
    (hsu : ∀ (a : Addr) (pn : List (Addr × Obj)), PSs (X.suite a pn) (b₀ :: suite) ts) :
    PS X (.Try body [.ExceptHandler (some (.Name x np)) (some n) (b₀ :: suite) pos'] [] [] pos) (fun D σ H => tb (wQ X.K c i ts Wout D) D σ H) := by
  refine ⟨fun pins s σ H D I h => ?_⟩
  have ok := I.ok
  have hfr : X.A.frames = some (X.env :: X.outer) := by rw [ok.frames, hs]
  have hloc : Loc X.env.scope n := .inl hln
  refine wpAny_Try_except ?_
  refine wpAny_mono ((hb (wQ X.K c i ts Wout D) (X.pn ++ pins) (fun e s₁ => wpAny (model X.prog X.w) X.A (noteFrame e X.env) (fun _ s₂ => wpAny (model X.prog X.w) X.A (setFlight e none) (fun _ s₃ =>
    wpAny (model X.prog X.w) X.A (handleBy e X.env [.ExceptHandler (some (.Name x np)) (some n) (b₀ :: suite) pos']) (SP X pins D) X.xe s₃) X.xe s₂) X.xe s₁) (fun u s' xx => ?_) PassesOwn.looking).run [] s σ H D (I.toTry _) h) (fun f s1 hsp => ?_) (fun e s1 he => he)
  · -- the catch
    obtain ⟨a, B, sI, pins', σ', H', cls, d, rfl, J', nb, up, sky, na, os, ag, b, hb1, hyes, hno⟩ := xx
    have J : Inv X pins σ' H' sI := J'.ofTry ok
    have sky' : Sky B (X.env :: X.outer) a (Zc cls d) X.env.locals s'.heap := by rw [← hs]; exact sky
    show wpAny (model X.prog X.w) X.A (noteFrame (.ref a) X.env) _ _ _
    refine Sky.land Zc.steady hfr hf sky' fun h3 fl3 up3 => ?_
    have J3 : Inv X pins σ' H' { s' with heap := h3 } := J.landed nb fl3.1 (up.trans up3) os ag
    obtain ⟨oe3, vs3, he3, hz3, hd3⟩ := fl3.there
    have notFr : ∀ {h : Heap} {o : Obj} {vs : Array Value}, h.FunFrames B (X.env :: X.outer) → h.get? a = some o → o.data = .fields vs → a ∉ frs (X.env :: X.outer) := fun {h o vs} ff e dd hm => by
      obtain ⟨_, o', e', hnf⟩ := ff.mem hm
      rw [e] at e'; cases e'
      exact hnf _ dd
    have nfr := notFr fl3.2.2.1 he3 hd3
    have nL : a ≠ X.env.locals := fun z => nfr (List.mem_filterMap.mpr ⟨X.env, List.mem_cons_self, by rw [hf, z]⟩)
    have nF : a ∉ X.fs := fun hm => by
      obtain ⟨e, he, q⟩ := List.mem_filterMap.mp hm
      exact nfr (List.mem_filterMap.mpr ⟨e, List.mem_cons_of_mem _ he, q⟩)
    have nS : ∀ b o, sI.heap.get? b = some o → b ∉ frs X.stack → b ≠ a := fun b o e hb z => by
      have q := nb b o e hb
      rw [z, fl3.2.1] at q
      cases q
    have h0 : X.s_0.heap.get? a = none := by
      cases e : X.s_0.heap.get? a with
      | none => rfl
      | some o =>
        obtain ⟨o', e'⟩ := J.base.there a o e (by rw [hex]; simp)
        exact absurd rfl (nS a o' e' (by rw [hs]; exact nfr))
    have hpn : ∀ p ∈ X.pn ++ pins, p.1 ≠ a := fun p hp => by
      obtain ⟨e, n, ne, nf, _⟩ := J.pin p hp
      refine nS p.1 p.2 e fun hm => ?_
      rw [hs] at hm
      obtain ⟨en, hen, q⟩ := List.mem_filterMap.mp hm
      rcases List.mem_cons.mp hen with z | z
      · rw [z, hf] at q
        exact ne (Option.some.inj q).symm
      · exact nf (List.mem_filterMap.mpr ⟨en, z, q⟩)
    have S3 := J3.suite he3 hd3 na nL nF
    refine wpAny_handleBy_cons (codeAny_handlers_test ?_) (by intro q; cases q)
    have LT : PySem.W.Looks (model X.prog X.w) h3 (typeOf (.ref a)) cls := fun A Q E s k q => wpAny_typeOf_ref (k _ _ he3) (by rw [hz3.1]; exact q)
    have LM := PySem.W.exm_one (M := model X.prog X.w) (J3.kIn) LT hb1
    have test : ∀ {Q : Value → Shared → Prop} {E : Value → Shared → Prop}, Q c { s' with heap := h3 } → wpAny (model X.prog X.w) (X.A.mark (some (.ref a))) (eval (.Name x np) X.env) Q E { s' with heap := h3 } := fun {Q E} q => by
      obtain ⟨hg, hdbg, hm | ⟨hm, hv, hnn⟩⟩ := hc
      · exact ld_glob (X := X.suite a ((a, oe3) :: (X.pn ++ pins))) S3 hg hm q hdbg
      · exact ld_blt (X := X.suite a ((a, oe3) :: (X.pn ++ pins))) S3 hg hm hv q hnn hdbg
    refine test (LM.here ?_)
    cases b with
    | true =>
      refine codeAny_handlers_suite_as ?_
      refine HandSPX.lands_againZ fl3 fun h4 fl4 up4 => ?_
      have J4 : Inv X pins σ' H' { s' with heap := h4 } := J.landed nb fl4.1 ((up.trans up3).trans up4) os ag
      obtain ⟨oe4, vs4, he4, hz4, hd4⟩ := fl4.there
      have S4 := J4.suite he4 hd4 na nL nF
      obtain ⟨C, rfl, hy2⟩ := hyes rfl
      refine store_ok (X := X.suite a ((a, oe4) :: (X.pn ++ pins))) (v := .ref a) S4 hN hi hloc rfl (fun s5 S5 => ?_) (.inr hln)
      have S5' := inv_exq S5 hz4 hd4 h0 hpn
      refine wpAny_mono ((hsu a (X.pn ++ pins)).run [] s5 _ _ _ S5' (hy2 a na)) (fun f s6 hsp => ?_) (fun _ _ z => False.elim z)
      have unsuite : ∀ {σ6 : L2.St} {H6 : Hp}, Inv (X.suite a (X.pn ++ pins)) [] σ6 H6 s6 → Inv X pins σ6 H6 s6 := fun I => ⟨ok, I.os, I.bare, I.base, I.loc, I.cell, I.free, I.freeC, fun p hp => I.pin p (List.mem_append_left _ hp), I.hok, I.len⟩
      have end_ : ∀ {σ6 : L2.St} {H6 : Hp} {Q : Shared → Prop}, Inv (X.suite a (X.pn ++ pins)) [] σ6 H6 s6 → (∀ s7, Inv X pins (σ6.set i none) H6 s7 → Q s7) →
          wpAny (model X.prog X.w) X.A (do bindName X.env n .none; unbindBehindTheSuite X.env n pos') (fun _ s7 => Q s7) X.xe s6 := fun {σ6 H6 Q} S6 hq => gone_ok (unsuite S6) hN hi hln hq
      cases f with
      | next =>
        obtain ⟨σ6, H6, S6, q6⟩ := hsp
        exact end_ S6 fun s7 J7 => ⟨_, _, J7, q6⟩
      | brk =>
        obtain ⟨σ6, H6, S6, q6⟩ := hsp
        exact end_ S6 fun s7 J7 => ⟨_, _, J7, q6⟩
      | cont =>
        obtain ⟨σ6, H6, S6, q6⟩ := hsp
        exact end_ S6 fun s7 J7 => ⟨_, _, J7, q6⟩
      | ret u =>
        obtain ⟨v6, σ6, H6, S6, r6, q6⟩ := hsp
        exact end_ S6 fun s7 J7 => ⟨_, _, _, J7, r6, q6⟩
    | false =>
      show wpAny _ X.A (handleBy (.ref a) X.env []) _ _ _
      refine wpAny_handleBy_nil ?_
      obtain ⟨k1, k2, k3, oe, vs, T, oT, ts', he, hz, hd, h1, hr⟩ := id fl3
      unfold PySem.passOn
      refine wpAny_bind (wpAny_field he hd h1 ?_)
      rw [if_neg (show ¬ ((Value.ref T == Value.none) = true) from by simp)]
      have fin : wpAny (model X.prog X.w) X.A (setFlight (.ref a) X.env.frame) (fun _ s4 => wpAny (model X.prog X.w) X.A (throw (.ref a) : Sem Flow) (SP X pins D) X.xe s4) X.xe { s' with heap := h3 } := by
        rw [hf]
        refine HandSPX.setFlight_upZ fl3 fun h4 hh4 up4 => wpAny_throw (tk _ _ ?_)
        exact ⟨a, B, sI, pins, σ', H', cls, d, rfl, J, nb, (up.trans up3).trans up4, .inr (.inr (by rw [hs]; exact hh4)), na, os, ag, hno rfl⟩
      first
        | exact wpAny_bind (wpAny_pure (wpAny_bind fin))
        | exact wpAny_bind fin
  · cases f with
    | next =>
      obtain ⟨σ', H', J', q⟩ := hsp
      exact wpAny_execs_nil ⟨σ', H', J'.ofTry ok, q⟩
    | brk =>
      obtain ⟨σ', H', J', q⟩ := hsp
      exact ⟨σ', H', J'.ofTry ok, q⟩
    | cont =>
      obtain ⟨σ', H', J', q⟩ := hsp
      exact ⟨σ', H', J'.ofTry ok, q⟩
    | ret u =>
      obtain ⟨v, σ', H', J', r, q⟩ := hsp
      exact ⟨v, σ', H', J'.ofTry ok, r, q⟩
end
end Mi

set_option Elab.async false
set_option linter.all false
set_option maxRecDepth 100000
set_option maxHeartbeats 4000000
/-! MiX3: isinstance of exceptions of ours; their fields. -/
namespace Mi
open PySem PySem.Spec PyProof.Rows L2
section
variable {X : Cx} {pins : List (Addr × Obj)} {σ : L2.St} {H : Hp} {s : Shared}
/-- the object of an exception of ours, with its own fields -/
theorem exq_at (I : Inv X pins σ H s) {a C : Addr} {od : Option Addr} (ha : H a = some (exq a C od)) (hd : ∀ d, od = some d → ∃ fs, H d = some (.xd fs)) :
    ∃ oe oo, PySem.W.InstAt s.heap a oe C oo ∧ oe.dict = od ∧ (∀ d, od = some d → ∃ o, oo = some o ∧ s.heap.get? d = some o) ∧ (od = none → oo = none) := by
  obtain ⟨⟨oe, vs, e1, ⟨z1, z2⟩, e3⟩, _, _⟩ := I.hok a _ ha
  have nc : PySem.W.notCls oe = true := by unfold PySem.W.notCls; rw [e3] <;> rfl
  cases od with
  | none => exact ⟨oe, none, ⟨e1, z1, nc, by rw [z2]; trivial⟩, z2, (fun d h => by cases h), fun _ => rfl⟩
  | some d =>
    obtain ⟨fs, h1⟩ := hd d rfl
    obtain ⟨mA, hns, _⟩ : ∃ mA, s.heap.Ns1 d mA ∧ ∀ f, RelO (fs.lookup f) (mA f) := I.hok d _ h1
    obtain ⟨o, ho, _⟩ := lookIn_ns hns
    exact ⟨oe, some o, ⟨e1, z1, nc, by rw [z2]; exact ho⟩, z2, (fun d' h => by cases h; exact ⟨o, rfl, ho⟩), fun h => by cases h⟩
/-- isinstance(e, c) -/
def rIsQ (K : PySem.W.Frag) : List V → Hp → VK → Prop := fun xs H Q => ∃ (a C : Addr) (od : Option Addr) (c : V) (cv : Value) (b : Bool), xs = [.ref a, c] ∧ H a = some (exq a C od) ∧ (∀ d, od = some d → ∃ fs, H d = some (.xd fs)) ∧ (∀ u, RelV c u → u = cv) ∧ ExF K C ∧ PySem.W.kitOne K (.ref C) cv = some b ∧ Q (.bl b) H
theorem call_isQ : CallR X (.builtin "isinstance") (rIsQ X.K) := by
  intro pins s σ H xs us Q I r h
  obtain ⟨a, C, od, c, cv, b, rfl, ha, hd, hcv, T, e, q⟩ := h
  cases r with
  | cons rx rr =>
    cases rr with
    | cons rt rr =>
      cases rr
      cases rx
      have ec := hcv _ rt
      subst ec
      obtain ⟨oe, oo, J, _⟩ := exq_at I ha hd
      exact PySem.W.kia_one (PySem.W.kitx_exc T.cl T.ga T.gg T.sb T.ca T.sp T.tk T.mr) I.kIn J e (fun z => nomatch z) fun tk => ⟨.bl b, H, I.kept (t' := tk) fun _ _ z => z, rfl, q⟩
/-- e.f -/
def tFldQ (K : PySem.W.Frag) (n : Str) (te : TE) : TE := fun σ H Q => te σ H fun x H1 => ∃ (a C d : Addr) (fs : List (Str × V)) (v : V), x = .ref a ∧ H1 a = some (exq a C (some d)) ∧ H1 d = some (.xd fs) ∧ fs.lookup n = some v ∧ ExF K C ∧ PySem.W.findIn K (.ref C) n = some none ∧ Q v H1
theorem pe_fldQ {e : Expr} {te : TE} {pos : Pos} {n : Str} (he : PE X e te) (hb : attributeBase e n X.env (eval e X.env) = eval e X.env) : PE X (.Attribute e n pos) (tFldQ X.K n te) := by
  refine ⟨fun pins s σ H Q I h => ?_⟩
  refine attr_of hb (thn (he.run pins s σ H _ I h) fun u s1 hh => ?_)
  obtain ⟨x, H1, I1, rx, a, C, d, fs, v, ex, ha, hd, l, T, hno, q⟩ := hh
  subst ex
  obtain rfl : u = Value.ref a := rx
  obtain ⟨oe, oo, J, e2, e3, _⟩ := exq_at I1 ha (fun d' z => by cases z; exact ⟨fs, hd⟩)
  obtain ⟨o, rfl, ho⟩ := e3 d rfl
  obtain ⟨mA, hns, hr⟩ : ∃ mA, s1.heap.Ns1 d mA ∧ ∀ f, RelO (fs.lookup f) (mA f) := I1.hok d _ hd
  obtain ⟨o', ho', hl⟩ := lookIn_ns hns
  rw [ho] at ho'
  cases ho'
  obtain ⟨u, hu, ru⟩ := RelO.some_of (v := v) (o := mA n) (by rw [← l]; exact hr n)
  exact HandSPX.exc_get I1.kIn J T.ga T.gg T.sb (PySem.W.findObj_own T.hd hno rfl (by rw [hl, hu])) (handed_of ru) ⟨v, H1, I1.tok _, ru, q⟩
end
end Mi

set_option Elab.async false
set_option linter.all false
set_option maxRecDepth 100000
set_option maxHeartbeats 4000000
/-! Mi2: a small language of expressions and statements over slots, and what they do with data. -/
namespace Mi
open PySem PySem.Spec PyProof.Rows L2

inductive BOp where | add | sub | mul | fdiv | mod | pow
  deriving DecidableEq
inductive COp where | eq | ne | lt | le | gt | ge | is | isn | inn | nin
  deriving DecidableEq
inductive BI where | len | abs | int | gcd | lcm | max | min | repr | str | divmod | tuple | list | sum | all | any
  deriving DecidableEq
inductive Ty where | int | bool | tuple
  deriving DecidableEq
inductive GK where | tuple | all | any | sum
  deriving DecidableEq
inductive ITg where | nm (i : Nat) | tp (is : List Nat)

mutual
inductive IE where
  | var (i : Nat) | frz (i : Nat) | cst (d : D) | gcn (x : Str) (d : D)
  | tup (es : IEs) | lst (es : IEs) | ncl (es : IEs)
  | bin (o : BOp) (a b : IE) | neg (a : IE) | cmp (o : COp) (a b : IE)
  | andv (a b : IE) | orv (a b : IE) | one (a : IE) | notv (a : IE)
  | ife (t : IT) (a b : IE)
  | call (f : Nat) (es : IEs) | callk (f : Nat) (es : IEs) (names : List Str) (perm : List Nat)
  | bi (b : BI) (es : IEs) | isi (a : IE) (t : Ty)
  | idx (a b : IE) | slc (a : IE) (lo hi : IEo)
  | comp (elt : IE) (tg : ITg) (it : II) (cond : ITo) (own : List (Str × Nat))
  | gen (k : GK) (elt : IE) (tg : ITg) (it : II) (cond : ITo) (own : List (Str × Nat))
  | isx (a : IE) (x : Str) (yes no : List Str) | fld (a : IE) (f : Str)
  | lcn (a b : IE) | lix (a b : IE) | nad (a b : IE)
inductive IEs where
  | nil | cons (e : IE) (es : IEs)
inductive IEo where
  | none | some (e : IE)
inductive IT where
  | val (e : IE) | cmp (o : COp) (a b : IE) | and (a b : IT) | or (a b : IT) | one (a : IT) | not (a : IT)
inductive ITo where
  | none | some (t : IT)
inductive II where
  | seq (e : IE) | rng (e : IE) | rng2 (a b : IE) | zip (a b : IE) | enum (a : IE) | zip3 (a b c : IE)
end

inductive Tgt where
  | nm (i : Nat) | tp (ts : List Tgt) | sub (o i : IE)
mutual
inductive IS where
  | asg (i : Nat) (e : IE)
  | asgT (ts : List Tgt) (e : IE)
  | asgP (is : List Nat) (es : IEs)
  | asgS (o ix : IE) (e : IE)
  | aug (i : Nat) (o : BOp) (e : IE)
  | app (i : Nat) (e : IE)
  | expr (e : IE) | ret (e : IE) | retN | pass | brk | cnt | rse
  | rsx (c f : Str) (e : IEo)
  | trx (body : ISs) (x : Str) (cat : List Str) (i : Nat) (suite : ISs)
  | ite (t : IT) (a b : ISs)
  | forr (tg : ITg) (it : II) (b : ISs)
  | whl (t : IT) (b : ISs)
inductive ISs where
  | nil | cons (s : IS) (r : ISs)
end

/-! ### data -/
mutual
def pd : D → PyData
  | .non => .none
  | .bl b => .bool b
  | .int i => .int i
  | .str s => .str s
  | .tup xs => .tuple (pds xs)
  | .lst xs => .list (pds xs)
  | .scr _ => .none
  | .cell _ => .none
  | .exc _ _ _ => .none
  | .dct ks vs => .dict ((ks.map fun k => match k with | .inl i => PyData.int i | .inr s => PyData.str s).zip (pds vs))
def pds : List D → List PyData
  | [] => []
  | x :: xs => pd x :: pds xs
end
mutual
/-- no cell within, no dict -/
def flat0 : D → Bool
  | .non | .bl _ | .int _ | .str _ => true
  | .tup xs => flat0s xs
  | .lst xs => flat0s xs
  | .scr _ => false
  | .cell _ => false
  | .dct _ _ => false
  | .exc _ _ _ => false
def flat0s : List D → Bool
  | [] => true
  | x :: xs => flat0 x && flat0s xs
end
mutual
/-- no cell within -/
def flat1 : D → Bool
  | .non | .bl _ | .int _ | .str _ => true
  | .tup xs => flat1s xs
  | .lst xs => flat1s xs
  | .scr _ => false
  | .cell _ => false
  | .dct _ vs => flat1s vs
  | .exc _ _ _ => false
def flat1s : List D → Bool
  | [] => true
  | x :: xs => flat1 x && flat1s xs
end
mutual
theorem flat01 : ∀ {d : D}, flat0 d = true → flat1 d = true
  | .non, _ => rfl
  | .bl _, _ => rfl
  | .int _, _ => rfl
  | .str _, _ => rfl
  | .tup xs, f => by simp only [flat0] at f; simp only [flat1]; exact flat01s f
  | .lst xs, f => by simp only [flat0] at f; simp only [flat1]; exact flat01s f
  | .scr _, f => by simp [flat0] at f
  | .cell _, f => by simp [flat0] at f
  | .dct _ _, f => by simp [flat0] at f
  | .exc _ _ _, f => by simp [flat0] at f
theorem flat01s : ∀ {ds : List D}, flat0s ds = true → flat1s ds = true
  | [], _ => rfl
  | d :: ds, f => by
    simp only [flat0s, Bool.and_eq_true] at f
    simp only [flat1s, flat01 f.1, flat01s f.2, Bool.and_self]
end
mutual
/-- the cells within are below n -/
def fitD (n : Nat) : D → Bool
  | .non | .bl _ | .int _ | .str _ => true
  | .tup xs => fitDs n xs
  | .lst xs => fitDs n xs
  | .scr xs => fitDs n xs
  | .cell k => decide (k < n)
  | .dct _ vs => fitDs n vs
  | .exc _ _ vs => fitDs n vs
def fitDs (n : Nat) : List D → Bool
  | [] => true
  | x :: xs => fitD n x && fitDs n xs
end
/-- == -/
def dEq (x y : D) : Option Bool :=
  if flat0 x && flat0 y && SeqAt.shaped (pd x) && SeqAt.shaped (pd y) then some (PyData.eqv (pd x) (pd y)) else none
/-- x in xs for flat things -/
def flatD : D → Bool
  | .non | .bl _ | .int _ | .str _ => true
  | _ => false
def toV : D → V
  | .non => .non
  | .bl b => .bl b
  | .int i => .int i
  | .str s => .str s
  | _ => .non
def dIn (x : D) (xs : List D) : Option Bool :=
  if flatD x && xs.all flatD then some (inV (toV x) (xs.map toV)) else none
/-- x in xs for data of any depth -/
def dInD (x : D) (xs : List D) : Option Bool :=
  if flat0 x && flat0s xs && SeqAt.shaped (pd x) && SeqAt.shaped (.list (pds xs)) then some ((pds xs).any fun z => PyData.eqv z (pd x)) else none
def truth : D → Option Bool
  | .non => some false
  | .bl b => some b
  | .int i => some (i != 0)
  | .tup xs => some (!xs.isEmpty)
  | .lst xs => some (!xs.isEmpty)
  | _ => none
/-- no content refers to a place from n on -/
def okC (n : Nat) (st : Store) : Bool := st.all fun c => match c with
  | some xs => fitDs n xs
  | none => true
def cutD (n : Nat) (v : D) (st : Store) : Option (D × Store) :=
  match v with
  | .cell k => if k < n then (if okC n (st.take n) then some (v, st.take n) else none) else if k = n then (if okC (n + 1) (st.take (n + 1)) then some (v, st.take (n + 1)) else none) else none
  | v => if fitD n v && okC n (st.take n) then some (v, st.take n) else none
def showOk (d : D) : Bool := flat1 d && PyData.showable (pd d) && decide ((PyData.shown (pd d)).length ≤ sizeLine) && decide ((pd d).depth ≤ 64)

def bop (o : BOp) (x y : D) : Option D :=
  match o, x, y with
  | .add, .int i, .int j => some (.int (i + j))
  | .add, .tup a, .tup b => if a.isEmpty then some (.tup b) else if a.length + b.length ≤ sizeLine then some (.tup (a ++ b)) else none
  | .add, .lst a, .lst b => if a.length + b.length ≤ sizeLine then some (.lst (a ++ b)) else none
  | .sub, .int i, .int j => some (.int (i - j))
  | .mul, .int i, .int j => if (decide (i.natAbs.log2 + j.natAbs.log2 < 100000000)) then some (.int (i * j)) else none
  | .mul, .lst a, .int j => if 0 ≤ j ∧ j < 1000000 ∧ a.length * j.toNat ≤ sizeLine then some (.lst (List.replicate j.toNat a).flatten) else none
  | .fdiv, .int i, .int j => if j ≠ 0 ∧ j.natAbs.log2 < 9000 then some (.int (i.fdiv j)) else none
  | .mod, .int i, .int j => if j ≠ 0 then some (.int (i.fmod j)) else none
  | .pow, .int i, .int j => if 0 ≤ j ∧ j ≤ 1000000 ∧ i.natAbs < 2 ^ 64 then some (.int (i ^ j.toNat)) else none
  | _, _, _ => none
def isNonD : D → Bool
  | .non => true
  | _ => false
/-- x == () -/
def eqE : D → D → Option Bool
  | .tup xs, .tup [] => some xs.isEmpty
  | _, _ => none
def cop (o : COp) (x y : D) : Option Bool :=
  match o, x, y with
  | .eq, x, y => (match dEq x y with
    | some b => some b
    | none => eqE x y)
  | .ne, x, y => (dEq x y).map (!·)
  | .lt, .int i, .int j => some (decide (i < j))
  | .le, .int i, .int j => some (decide (i ≤ j))
  | .gt, .int i, .int j => some (decide (j < i))
  | .ge, .int i, .int j => some (decide (j ≤ i))
  | .is, x, .non => if flat0 x then some (isNonD x) else none
  | .isn, x, .non => if flat0 x then some (!isNonD x) else none
  | .inn, x, .lst xs => (dIn x xs).or (dInD x xs)
  | .inn, x, .tup xs => dIn x xs
  | .nin, x, .lst xs => ((dIn x xs).or (dInD x xs)).map (!·)
  | .nin, x, .tup xs => (dIn x xs).map (!·)
  | _, _, _ => none
theorem cop_eq_of {x y : D} {b : Bool} (h : dEq x y = some b) : cop .eq x y = some b := by
  simp only [cop, h]
def itemsD : D → Store → Option (List D)
  | .tup xs, _ => some xs
  | .lst xs, _ => some xs
  | .scr xs, _ => some xs
  | .cell n, st => match st[n]? with
    | some (some xs) => some xs
    | _ => none
  | _, _ => none
def intsD : List D → Option (List Int)
  | [] => some []
  | .int i :: r => (intsD r).map (i :: ·)
  | _ :: _ => none
def boolsD : List D → Option (List Bool)
  | [] => some []
  | .bl b :: r => (boolsD r).map (b :: ·)
  | _ :: _ => none
def biF (b : BI) (xs : List D) (st : Store) : Option D :=
  match b, xs with
  | .len, [x] => (match x with
    | .str _ => none
    | x => (itemsD x st).map fun l => .int l.length)
  | .abs, [.int i] => some (.int (if i < 0 then -i else i))
  | .int, [.int i] => some (.int i)
  | .int, [.bl k] => some (.int (if k then 1 else 0))
  | .gcd, [.int a, .int b] => some (.int (Nat.gcd a.natAbs b.natAbs : Nat))
  | .lcm, [.int a, .int b] => if a.natAbs.log2 < 13000 ∧ b.natAbs.log2 < 13000 then some (.int (Nat.lcm a.natAbs b.natAbs : Nat)) else none
  | .max, [.int i, .int j] => some (.int (if j > i then j else i))
  | .min, [.int i, .int j] => some (.int (if j < i then j else i))
  | .repr, [x] => if showOk x then some (.str (PyData.shown (pd x))) else none
  | .str, [.int i] => if i.natAbs.log2 < 1920 then some (.str (toString i : String)) else none
  | .divmod, [.int i, .int j] => if 0 < j ∧ j < 1073741824 then some (.tup [.int (i / j), .int (i % j)]) else none
  | .tuple, [x] => (itemsD x st).map .tup
  | .list, [x] => (itemsD x st).map .lst
  | .sum, [.lst xs] => (intsD xs).map fun l => .int l.sum
  | .all, [.lst xs] => (boolsD xs).map fun l => .bl (l.all id)
  | .any, [.lst xs] => (boolsD xs).map fun l => .bl (l.any id)
  | .any, [.tup xs] => (intsD xs).map fun l => .bl (l.any fun i => decide (i ≠ 0))
  | _, _ => none
def isiF (x : D) (t : Ty) : Option Bool :=
  match x, t with
  | .cell _, _ => none
  | .scr _, _ => none
  | .exc _ _ _, _ => none
  | .int _, .int => some true
  | .bl _, .int => some true
  | .bl _, .bool => some true
  | .tup _, .tuple => some true
  | _, _ => some false
def idxF (x : D) (y : D) (st : Store) : Option D :=
  match y with
  | .int i => (itemsD x st).bind fun l => atI l i
  | _ => none
def optI : Option D → Option (Option Int)
  | none => some none
  | some (.int i) => some (some i)
  | _ => none
def slcF (x : D) (lo hi : Option D) : Option D :=
  match optI lo, optI hi, x with
  | some l, some h, .tup xs => some (.tup ((xs.drop (HT.sIx xs.length 0 l)).take (HT.sIx xs.length xs.length h - HT.sIx xs.length 0 l)))
  | some l, some h, .scr xs => some (.lst ((xs.drop (HT.sIx xs.length 0 l)).take (HT.sIx xs.length xs.length h - HT.sIx xs.length 0 l)))
  | some l, some h, .lst xs => some (.lst ((xs.drop (HT.sIx xs.length 0 l)).take (HT.sIx xs.length xs.length h - HT.sIx xs.length 0 l)))
  | _, _, _ => none
def bindT (tg : ITg) (x : D) (env : Env) : Option Env :=
  match tg, x with
  | .nm i, x => some (env.set i (some x))
  | .tp is, .tup xs => if is.length = xs.length then some ((is.zip xs).foldl (fun e p => e.set p.1 (some p.2)) env) else none
  | _, _ => none
def tgOwn (tg : ITg) (own : List Nat) : Bool :=
  match tg with
  | .nm i => own.contains i
  | .tp is => is.all own.contains
/-- what a comprehension lays into the place n -/
def mapSt (n : Nat) (f : D → Store → Option (Option D × Store)) : List D → Store → Option Store
  | [], st => some st
  | x :: xs, st => match f x st with
    | some (none, st1) => mapSt n f xs st1
    | some (some y, st1) => (match st1[n]? with
      | some (some acc) => if acc.length < sizeLine then mapSt n f xs (st1.set n (some (acc ++ [y]))) else none
      | _ => none)
    | none => none
def gkF (k : GK) (xs : List D) : Option D :=
  match k with
  | .tuple => some (.tup xs)
  | .all => (boolsD xs).map fun l => .bl (l.all id)
  | .any => (boolsD xs).map fun l => .bl (l.any id)
  | .sum => (intsD xs).map fun l => .int l.sum
/-- these end a walk early -/
def stopG : GK → D → Bool
  | .all, .bl false => true
  | .any, .bl true => true
  | _, _ => false
/-- what a consumer draws -/
def mapGs (k : GK) (f : D → Store → Option (Option D × Store)) : List D → Store → Option (List D × Store)
  | [], st => some ([], st)
  | x :: xs, st => match f x st with
    | some (none, st1) => mapGs k f xs st1
    | some (some y, st1) => if stopG k y = true then some ([y], st1) else (match mapGs k f xs st1 with
      | some (ys, st2) => some (y :: ys, st2)
      | none => none)
    | none => none

def seqD : D → Option (List D)
  | .tup xs => some xs
  | .lst xs => some xs
  | .scr xs => some xs
  | _ => none
def lstD : D → Option (List D)
  | .lst xs => some xs
  | .scr xs => some xs
  | _ => none
def tupD : D → Option (List D)
  | .tup xs => some xs
  | _ => none
def zipD (x y : D) : Option (List D) :=
  match lstD x, lstD y with
  | some xs, some ys => some ((xs.zip ys).map fun p => .tup [p.1, p.2])
  | _, _ => (match tupD x, tupD y with
    | some xs, some ys => some ((xs.zip ys).map fun p => .tup [p.1, p.2])
    | _, _ => none)
/-- a list, a tuple, a list of one length -/
def zip3D (x y z : D) : Option (List D) :=
  match lstD x, tupD y, lstD z with
  | some xs, some ys, some zs => if xs.length = ys.length ∧ xs.length = zs.length then some ((xs.zip (ys.zip zs)).map fun p => .tup [p.1, p.2.1, p.2.2]) else none
  | _, _, _ => none
/-- a list's items -/
def litemsD : D → Store → Option (List D)
  | .lst xs, _ => some xs
  | .scr xs, _ => some xs
  | .cell n, st => match st[n]? with
    | some (some xs) => some xs
    | _ => none
  | _, _ => none
/-- xs.count(b) of truth values -/
def lcnF (x y : D) (st : Store) : Option D :=
  match y with
  | .bl b => (litemsD x st).bind fun l => (boolsD l).map fun bs => .int ((bs.count b : Nat) : Int)
  | _ => none
def findD (y : D) : List D → Option Nat
  | [] => none
  | z :: zs => if flatD z && eqV (toV z) (toV y) then some 0 else if flatD z then (findD y zs).map (· + 1) else none
/-- xs.index(y) of flat things -/
def lixF (x y : D) (st : Store) : Option D :=
  if flatD y then (litemsD x st).bind fun l => if l.all flatD then (findD y l).map fun i => .int ((i : Nat) : Int) else none else none
abbrev CallT := Nat → List D → Store → Option (D × Store)

mutual
def evE (c : CallT) (env : Env) : IE → Store → Option (D × Store)
  | .var i, st => match env[i]? with
    | some (some d) => some (d, st)
    | _ => none
  | .frz i, st => match env[i]? with
    | some (some (.cell n)) => (match st[n]? with
      | some (some xs) => some (.lst xs, st.set n none)
      | _ => none)
    | _ => none
  | .cst d, st => some (d, st)
  | .gcn _ d, st => some (d, st)
  | .tup es, st => match evEs c env es st with
    | some (xs, st1) => if xs.length ≤ sizeLine then some (.tup xs, st1) else none
    | none => none
  | .lst es, st => match evEs c env es st with
    | some (xs, st1) => if xs.length ≤ sizeLine then some (.lst xs, st1) else none
    | none => none
  | .ncl es, st => match evEs c env es st with
    | some (xs, st1) => if xs.length ≤ sizeLine then some (.cell st1.length, st1 ++ [some xs]) else none
    | none => none
  | .bin o a b, st => match evE c env a st with
    | some (x, st1) => (match evE c env b st1 with
      | some (y, st2) => (match bop o x y with
        | some z => some (z, st2)
        | none => none)
      | none => none)
    | none => none
  | .neg a, st => match evE c env a st with
    | some (.int i, st1) => some (.int (-i), st1)
    | _ => none
  | .cmp o a b, st => match evE c env a st with
    | some (x, st1) => (match evE c env b st1 with
      | some (y, st2) => (match cop o x y with
        | some z => some (.bl z, st2)
        | none => none)
      | none => none)
    | none => none
  | .andv a b, st => match evE c env a st with
    | some (.bl true, st1) => evE c env b st1
    | some (.bl false, st1) => some (.bl false, st1)
    | _ => none
  | .orv a b, st => match evE c env a st with
    | some (.bl true, st1) => some (.bl true, st1)
    | some (.bl false, st1) => evE c env b st1
    | _ => none
  | .one a, st => evE c env a st
  | .notv a, st => match evE c env a st with
    | some (.bl b, st1) => some (.bl (!b), st1)
    | _ => none
  | .ife t a b, st => match evT c env t st with
    | some (true, st1) => evE c env a st1
    | some (false, st1) => evE c env b st1
    | none => none
  | .call f es, st => match evEs c env es st with
    | some (xs, st1) => c f xs st1
    | none => none
  | .callk f es _ perm, st => match evEs c env es st with
    | some (xs, st1) => (match perm.mapM (fun i => xs[i]?) with
      | some zs => c f zs st1
      | none => none)
    | none => none
  | .bi b es, st => match evEs c env es st with
    | some (xs, st1) => (match biF b xs st1 with
      | some z => some (z, st1)
      | none => none)
    | none => none
  | .isi a t, st => match evE c env a st with
    | some (x, st1) => (match isiF x t with
      | some z => some (.bl z, st1)
      | none => none)
    | none => none
  | .idx a b, st => match evE c env a st with
    | some (x, st1) => (match evE c env b st1 with
      | some (y, st2) => (match idxF x y st2 with
        | some z => some (z, st2)
        | none => none)
      | none => none)
    | none => none
  | .slc a lo hi, st => match evE c env a st with
    | some (x, st1) => (match evO c env lo st1 with
      | some (l, st2) => (match evO c env hi st2 with
        | some (h, st3) => (match slcF x l h with
          | some z => some (z, st3)
          | none => none)
        | none => none)
      | none => none)
    | none => none
  | .comp elt tg it cond own, st => match evI c env it st with
    | some (xs, st1) => if tgOwn tg (own.map (·.2)) then (match mapSt st1.length (fun x s => match bindT tg x (wipeE env (own.map (·.2))) with
        | some env' => (match evTo c env' cond s with
          | some (true, s1) => (match evE c env' elt s1 with
            | some (y, s2) => some (some y, s2)
            | none => none)
          | some (false, s1) => some (none, s1)
          | none => none)
        | none => none) xs (st1 ++ [some []]) with
      | some st2 => (match st2[st1.length]? with
        | some (some ys) => cutD st1.length (.lst ys) st2
        | _ => none)
      | none => none) else none
    | none => none
  | .gen k elt tg it cond own, st => match evI c env it st with
    | some (xs, st1) => if tgOwn tg (own.map (·.2)) then (match mapGs k (fun x s => match bindT tg x (wipeE env (own.map (·.2))) with
        | some env' => (match evTo c env' cond s with
          | some (true, s1) => (match evE c env' elt s1 with
            | some (y, s2) => some (some y, s2)
            | none => none)
          | some (false, s1) => some (none, s1)
          | none => none)
        | none => none) xs st1 with
      | some (ys, st2) => if ys.length ≤ sizeLine then (match gkF k ys with
        | some d => some (d, st2)
        | none => none) else none
      | none => none) else none
    | none => none
  | .isx a _ yes no, st => match evE c env a st with
    | some (.exc cl _ _, st1) => if yes.contains cl then some (.bl true, st1) else if no.contains cl then some (.bl false, st1) else none
    | _ => none
  | .fld a f, st => match evE c env a st with
    | some (.exc _ g [d], st1) => if g = f then some (d, st1) else none
    | _ => none
  | .lcn a b, st => match evE c env a st with
    | some (x, st1) => if (litemsD x st1).isSome then (match evE c env b st1 with
      | some (y, st2) => (match lcnF x y st2 with
        | some z => some (z, st2)
        | none => none)
      | none => none) else none
    | none => none
  | .lix a b, st => match evE c env a st with
    | some (x, st1) => if (litemsD x st1).isSome then (match evE c env b st1 with
      | some (y, st2) => (match lixF x y st2 with
        | some z => some (z, st2)
        | none => none)
      | none => none) else none
    | none => none
  | .nad a b, st => match evE c env a st with
    | some (.lst xs, st1) => (match evE c env b st1 with
      | some (.lst ys, st2) => if xs.length + ys.length ≤ sizeLine then some (.cell st2.length, st2 ++ [some (xs ++ ys)]) else none
      | _ => none)
    | _ => none
def evEs (c : CallT) (env : Env) : IEs → Store → Option (List D × Store)
  | .nil, st => some ([], st)
  | .cons e es, st => match evE c env e st with
    | some (x, st1) => (match evEs c env es st1 with
      | some (xs, st2) => some (x :: xs, st2)
      | none => none)
    | none => none
def evO (c : CallT) (env : Env) : IEo → Store → Option (Option D × Store)
  | .none, st => some (none, st)
  | .some e, st => match evE c env e st with
    | some (x, st1) => some (some x, st1)
    | none => none
def evT (c : CallT) (env : Env) : IT → Store → Option (Bool × Store)
  | .val e, st => match evE c env e st with
    | some (x, st1) => (match truth x with
      | some b => some (b, st1)
      | none => none)
    | none => none
  | .cmp o a b, st => match evE c env a st with
    | some (x, st1) => (match evE c env b st1 with
      | some (y, st2) => (match cop o x y with
        | some z => some (z, st2)
        | none => none)
      | none => none)
    | none => none
  | .and a b, st => match evT c env a st with
    | some (true, st1) => evT c env b st1
    | some (false, st1) => some (false, st1)
    | none => none
  | .or a b, st => match evT c env a st with
    | some (true, st1) => some (true, st1)
    | some (false, st1) => evT c env b st1
    | none => none
  | .one a, st => evT c env a st
  | .not a, st => match evT c env a st with
    | some (b, st1) => some (!b, st1)
    | none => none
def evTo (c : CallT) (env : Env) : ITo → Store → Option (Bool × Store)
  | .none, st => some (true, st)
  | .some t, st => evT c env t st
def evI (c : CallT) (env : Env) : II → Store → Option (List D × Store)
  | .seq e, st => match evE c env e st with
    | some (x, st1) => (match seqD x with
      | some xs => some (xs, st1)
      | none => none)
    | none => none
  | .rng e, st => match evE c env e st with
    | some (.int n, st1) => if -1000000 < n ∧ n < 1000000 then some ((List.range n.toNat).map fun i => .int (0 + (i : Nat)), st1) else none
    | _ => none
  | .rng2 a b, st => match evE c env a st with
    | some (.int lo, st1) => (match evE c env b st1 with
      | some (.int hi, st2) => if -1000000 < lo ∧ lo < 1000000 ∧ hi < 1000000 ∧ -1000000 < hi then some ((List.range (hi - lo).toNat).map fun i => .int (lo + (i : Nat)), st2) else none
      | _ => none)
    | _ => none
  | .zip a b, st => match evE c env a st with
    | some (x, st1) => (match evE c env b st1 with
      | some (y, st2) => (match zipD x y with
        | some l => some (l, st2)
        | none => none)
      | none => none)
    | none => none
  | .zip3 a b d, st => match evE c env a st with
    | some (x, st1) => (match evE c env b st1 with
      | some (y, st2) => (match evE c env d st2 with
        | some (z, st3) => (match zip3D x y z with
          | some l => some (l, st3)
          | none => none)
        | none => none)
      | none => none)
    | none => none
  | .enum a, st => match evE c env a st with
    | some (x, st1) => (match lstD x with
      | some xs => some (xs.zipIdx.map fun p => .tup [.int (p.2 : Nat), p.1], st1)
      | none => none)
    | none => none
end

inductive Fl where
  | nxt (env : Env) (st : Store) | ret (d : D) (st : Store) | brk (env : Env) (st : Store) | cnt (env : Env) (st : Store)

def loopF (b : D → Env → Store → Option Fl) : List D → Env → Store → Option Fl
  | [], env, st => some (.nxt env st)
  | x :: xs, env, st => match b x env st with
    | some (.nxt env' st') => loopF b xs env' st'
    | some (.cnt env' st') => loopF b xs env' st'
    | some (.brk env' st') => some (.nxt env' st')
    | some (.ret d st') => some (.ret d st')
    | none => none
def loopW (t : Env → Store → Option (Bool × Store)) (b : Env → Store → Option Fl) : Nat → Env → Store → Option Fl
  | 0, _, _ => none
  | n + 1, env, st => match t env st with
    | some (true, st1) => (match b env st1 with
      | some (.nxt env' st') => loopW t b n env' st'
      | some (.cnt env' st') => loopW t b n env' st'
      | some (.brk env' st') => some (.nxt env' st')
      | some (.ret d st') => some (.ret d st')
      | none => none)
    | some (false, st1) => some (.nxt env st1)
    | none => none
/-- x[i] = v of a cell -/
def setC (x y v : D) (st : Store) : Option Store :=
  match x, y with
  | .cell n, .int i => (match st[n]? with
    | some (some xs) => (match ixN xs.length i with
      | some j => some (st.set n (some (xs.set j v)))
      | none => none)
    | _ => none)
  | _, _ => none
/-- (t1, t2, ..) = the itemsD, from the left -/
def asgTs (c : CallT) : List Tgt → List D → Env → Store → Option (Env × Store)
  | [], [], env, st => some (env, st)
  | .nm i :: ts, x :: xs, env, st => asgTs c ts xs (env.set i (some x)) st
  | .sub o ix :: ts, x :: xs, env, st => match evE c env o st with
    | some (ov, st1) => (match evE c env ix st1 with
      | some (iv, st2) => (match setC ov iv x st2 with
        | some st3 => asgTs c ts xs env st3
        | none => none)
      | none => none)
    | none => none
  | _, _, _, _ => none
/-- the calls that raise stand behind this number -/
def XB : Nat := 1000000
mutual
/-- what an expression raises -/
def xvE (c : CallT) (env : Env) : IE → Store → Option (D × Store)
  | .call f es, st => match evEs c env es st with
    | some (xs, st1) => c (f + XB) xs st1
    | none => xvEs c env es st
  | .callk f es _ perm, st => match evEs c env es st with
    | some (xs, st1) => (match perm.mapM (fun i => xs[i]?) with
      | some zs => c (f + XB) zs st1
      | none => none)
    | none => none
  | .tup es, st => xvEs c env es st
  | .ife t a b, st => match evT c env t st with
    | some (true, st1) => xvE c env a st1
    | some (false, st1) => xvE c env b st1
    | none => none
  | _, _ => none
def xvEs (c : CallT) (env : Env) : IEs → Store → Option (D × Store)
  | .nil, _ => none
  | .cons e es, st => match evE c env e st with
    | some (_, st1) => xvEs c env es st1
    | none => xvE c env e st
end
/-- a loop, a turn of which raises -/
def loopX (b : D → Env → Store → Option Fl) (bx : D → Env → Store → Option (D × Env × Store)) : List D → Env → Store → Option (D × Env × Store)
  | [], _, _ => none
  | x :: xs, env, st => match b x env st with
    | some (.nxt env' st') => loopX b bx xs env' st'
    | some (.cnt env' st') => loopX b bx xs env' st'
    | some _ => none
    | none => bx x env st
def wEnv (env : Env) : Option (D × Store) → Option (D × Env × Store)
  | some (x, st) => some (x, env, st)
  | none => none
def noSlot (i : Nat) : Fl → Fl
  | .nxt env st => .nxt (env.set i none) st
  | .ret d st => .ret d st
  | .brk env st => .brk (env.set i none) st
  | .cnt env st => .cnt (env.set i none) st
mutual
def evS (c : CallT) (F : Nat) : IS → Env → Store → Option Fl
  | .asg i e, env, st => match evE c env e st with
    | some (x, st1) => some (.nxt (env.set i (some x)) st1)
    | none => none
  | .asgT ts e, env, st => match evE c env e st with
    | some (.tup xs, st1) => (match asgTs c ts xs env st1 with
      | some (env', st') => some (.nxt env' st')
      | none => none)
    | some (.lst xs, st1) => (match asgTs c ts xs env st1 with
      | some (env', st') => some (.nxt env' st')
      | none => none)
    | _ => none
  | .asgP is es, env, st => match evEs c env es st with
    | some (xs, st1) => if is.length = xs.length then some (.nxt ((is.zip xs).foldl (fun e p => e.set p.1 (some p.2)) env) st1) else none
    | none => none
  | .asgS o ix e, env, st => match evE c env e st with
    | some (x, st1) => (match evE c env o st1 with
      | some (ov, st2) => (match evE c env ix st2 with
        | some (iv, st3) => (match setC ov iv x st3 with
          | some st4 => some (.nxt env st4)
          | none => none)
        | none => none)
      | none => none)
    | none => none
  | .aug i o e, env, st => match env[i]? with
    | some (some x) => (match evE c env e st with
      | some (y, st1) => (match o, x, y with
        | .add, .int a, .int b => some (.nxt (env.set i (some (.int (a + b)))) st1)
        | .sub, .int a, .int b => some (.nxt (env.set i (some (.int (a - b)))) st1)
        | _, _, _ => none)
      | none => none)
    | _ => none
  | .app i e, env, st => match env[i]? with
    | some (some (.cell n)) => (match st[n]? with
      | some (some _) => (match evE c env e st with
        | some (y, st1) => (match st1[n]? with
          | some (some xs) => if xs.length < sizeLine then some (.nxt env (st1.set n (some (xs ++ [y])))) else none
          | _ => none)
        | none => none)
      | _ => none)
    | _ => none
  | .expr e, env, st => match evE c env e st with
    | some (_, st1) => some (.nxt env st1)
    | none => none
  | .ret e, env, st => match evE c env e st with
    | some (x, st1) => some (.ret x st1)
    | none => none
  | .retN, _, st => some (.ret .non st)
  | .pass, env, st => some (.nxt env st)
  | .brk, env, st => some (.brk env st)
  | .cnt, env, st => some (.cnt env st)
  | .rse, _, _ => none
  | .rsx _ _ _, _, _ => none
  | .trx body _ cat i suite, env, st => match evSs c F body env st with
    | some fl => some fl
    | none => (match xvSs c F body env st with
      | some (.exc cl f vs, env1, st1) => if cat.contains cl then (match evSs c F suite (env1.set i (some (.exc cl f vs))) st1 with
        | some fl => some (noSlot i fl)
        | none => none) else none
      | _ => none)
  | .ite t a b, env, st => match evT c env t st with
    | some (true, st1) => evSs c F a env st1
    | some (false, st1) => evSs c F b env st1
    | none => none
  | .forr tg it b, env, st => match evI c env it st with
    | some (xs, st1) => loopF (fun x env st => match bindT tg x env with
      | some env' => evSs c F b env' st
      | none => none) xs env st1
    | none => none
  | .whl t b, env, st => loopW (fun env st => evT c env t st) (fun env st => evSs c F b env st) F env st
def evSs (c : CallT) (F : Nat) : ISs → Env → Store → Option Fl
  | .nil, env, st => some (.nxt env st)
  | .cons s r, env, st => match evS c F s env st with
    | some (.nxt env' st') => evSs c F r env' st'
    | x => x
/-- what a statement raises -/
def xvS (c : CallT) (F : Nat) : IS → Env → Store → Option (D × Env × Store)
  | .rsx k f (.some e), env, st => match evE c env e st with
    | some (d, st1) => some (.exc k f [d], env, st1)
    | none => none
  | .rsx k _ .none, env, st => some (.exc k "" [], env, st)
  | .expr e, env, st => wEnv env (xvE c env e st)
  | .ret e, env, st => wEnv env (xvE c env e st)
  | .asg _ e, env, st => wEnv env (xvE c env e st)
  | .ite t a b, env, st => match evT c env t st with
    | some (true, st1) => xvSs c F a env st1
    | some (false, st1) => xvSs c F b env st1
    | none => none
  | .forr tg it b, env, st => match evI c env it st with
    | some (xs, st1) => loopX (fun x env st => match bindT tg x env with
      | some env' => evSs c F b env' st
      | none => none) (fun x env st => match bindT tg x env with
      | some env' => xvSs c F b env' st
      | none => none) xs env st1
    | none => none
  | _, _, _ => none
def xvSs (c : CallT) (F : Nat) : ISs → Env → Store → Option (D × Env × Store)
  | .nil, _, _ => none
  | .cons s r, env, st => match evS c F s env st with
    | some (.nxt env' st') => xvSs c F r env' st'
    | some _ => none
    | none => xvS c F s env st
end
structure Def where
  name : Str
  np : Nat
  names : List Str
  body : ISs
def runD (c : CallT) (F : Nat) (d : Def) (args : List D) (st : Store) : Option (D × Store) :=
  if args.length = d.np ∧ d.np ≤ d.names.length then
    match evSs c F d.body (args.map some ++ List.replicate (d.names.length - d.np) none) st with
    | some (.ret v st') => cutD st.length v st'
    | some (.nxt _ st') => cutD st.length .non st'
    | _ => none
  else none
/-- what a def raises -/
def runX (c : CallT) (F : Nat) (d : Def) (args : List D) (st : Store) : Option (D × Store) :=
  if args.length = d.np ∧ d.np ≤ d.names.length then
    match xvSs c F d.body (args.map some ++ List.replicate (d.names.length - d.np) none) st with
    | some (x, _, st') => cutD st.length x st'
    | none => none
  else none
def callF (T : Nat → Option Def) (F : Nat) : Nat → CallT
  | 0, _, _, _ => none
  | k + 1, f, args, st => match T f with
    | some d => runD (callF T F k) F d args st
    | none => if XB ≤ f then (match T (f - XB) with
      | some d => runX (callF T F k) F d args st
      | none => none) else none
end Mi

set_option Elab.async false
set_option linter.all false
set_option maxRecDepth 100000
set_option maxHeartbeats 4000000
set_option autoImplicit true
/-! Mi3: the text matches, the triples. -/
namespace Mi
open PySem PySem.Spec PyProof.Rows L2

/-! ### the widest readings -/
section
variable (X : Cx)
def tE (e : Expr) : TE := fun σ H Q => ∀ pins s, Inv X pins σ H s → wpAny (model X.prog X.w) X.A (eval e X.env) (EP X pins σ Q) X.xe s
def tT (e : Expr) : TT := fun σ H Q => ∀ pins s, Inv X pins σ H s → wpAny (model X.prog X.w) X.A (isTrue e X.env (eval e X.env)) (TP X pins σ Q) X.xe s
def tW (e : Expr) : TT := fun σ H Q => ∀ whole pins s, Inv X pins σ H s → wpAny (model X.prog X.w) X.A (isTrue e X.env whole) (TP X pins σ Q) X.xe s
def tA (es : List Expr) : TA := fun σ H Q => ∀ (pos : Pos) pins s, Inv X pins σ H s → wpAny (model X.prog X.w) X.A (spliced (backTo pos (starEach es X.env))) (AP X pins σ Q) X.xe s
def tK (ks : List Keyword) : TA := fun σ H Q => ∀ (pos : Pos) pins s, Inv X pins σ H s → wpAny (model X.prog X.w) X.A (evalAll ((backToKw pos (keywordEach ks X.env)).map (·.2))) (AP X pins σ Q) X.xe s
def tS (st : Stmt) : TS := fun D σ H => ∀ pins s, Inv X pins σ H s → wpAny (model X.prog X.w) X.A (exec st X.env) (SP X pins D) X.xe s
def tSs (st : List Stmt) : TS := fun D σ H => ∀ pins s, Inv X pins σ H s → wpAny (model X.prog X.w) X.A (execs st X.env) (SP X pins D) X.xe s
def tGt (tg : Expr) : TG := fun v σ H Q => ∀ pins s u, Inv X pins σ H s → RelV v u → wpAny (model X.prog X.w) X.A (assign tg X.env u) (fun _ s' => ∃ σ' H', Inv X pins σ' H' s' ∧ Q σ' H') X.xe s
def tIt (tg iter : Expr) : TI := fun σ H R => ∀ pins s, Inv X pins σ H s → wpAny (model X.prog X.w) X.A (eval iter X.env) (fun v s1 => wpAny (model X.prog X.w) X.A (pyIter v) (PIE X pins σ tg R) X.xe s1) X.xe s
def tO (e : Option Expr) : TO := fun σ H Q => ∀ pins s, Inv X pins σ H s → wpAny (model X.prog X.w) X.A (evalPart e X.env) (fun u s' => ∃ o H', Inv X pins σ H' s' ∧ IsPart u o ∧ Q o H') X.xe s
end
section
variable {X : Cx} {e : Expr} {es : List Expr} {σ : L2.St} {H : Hp}
theorem peE : PE X e (tE X e) := ⟨fun pins s σ H Q I h => h pins s I⟩
theorem ptT : PT X e (tT X e) := ⟨fun pins s σ H Q I h => h pins s I⟩
theorem pwW : PW X e (tW X e) := ⟨fun w pins s σ H Q I h => h w pins s I⟩
theorem paA : PA X es (tA X es) := ⟨fun pos pins s σ H Q I h => h pos pins s I⟩
theorem pkK {ks : List Keyword} : PK X ks (tK X ks) := ⟨fun pos pins s σ H Q I h => h pos pins s I⟩
theorem psS {st : Stmt} : PS X st (tS X st) := ⟨fun pins s σ H D I h => h pins s I⟩
theorem pssS {st : List Stmt} : PSs X st (tSs X st) := ⟨fun pins s σ H D I h => h pins s I⟩
theorem pgG {tg : Expr} : PG X tg (tGt X tg) := ⟨fun pins s σ H v u Q I r h => h pins s u I r⟩
theorem piI {tg iter : Expr} : PI X tg iter (tIt X tg iter) := ⟨fun pins s σ H R I h => h pins s I⟩
theorem poO {o : Option Expr} : PO X o (tO X o) := ⟨fun pins s σ H Q I h => h pins s I⟩
theorem useE {t : TE} {Q : VK} (h : PE X e t) (q : t σ H Q) : tE X e σ H Q := fun pins s I => h.run pins s σ H Q I q
theorem useT {t : TT} {Q : Bool → Hp → Prop} (h : PT X e t) (q : t σ H Q) : tT X e σ H Q := fun pins s I => h.run pins s σ H Q I q
theorem useW {t : TT} {Q : Bool → Hp → Prop} (h : PW X e t) (q : t σ H Q) : tW X e σ H Q := fun w pins s I => h.run w pins s σ H Q I q
theorem useA {t : TA} {Q : List V → Hp → Prop} (h : PA X es t) (q : t σ H Q) : tA X es σ H Q := fun pos pins s I => h.run pos pins s σ H Q I q
theorem useK {ks : List Keyword} {t : TA} {Q : List V → Hp → Prop} (h : PK X ks t) (q : t σ H Q) : tK X ks σ H Q := fun pos pins s I => h.run pos pins s σ H Q I q
theorem useS {st : Stmt} {t : TS} {D : Ends} (h : PS X st t) (q : t D σ H) : tS X st D σ H := fun pins s I => h.run pins s σ H D I q
theorem useSs {st : List Stmt} {t : TS} {D : Ends} (h : PSs X st t) (q : t D σ H) : tSs X st D σ H := fun pins s I => h.run pins s σ H D I q
theorem useG {tg : Expr} {t : TG} {v : V} {Q : L2.St → Hp → Prop} (h : PG X tg t) (q : t v σ H Q) : tGt X tg v σ H Q := fun pins s u I r => h.run pins s σ H v u Q I r q
theorem useI {tg iter : Expr} {t : TI} {R : It → Hp → Prop} (h : PI X tg iter t) (q : t σ H R) : tIt X tg iter σ H R := fun pins s I => h.run pins s σ H R I q
theorem useO {o : Option Expr} {t : TO} {Q : Option Int → Hp → Prop} (h : PO X o t) (q : t σ H Q) : tO X o σ H Q := fun pins s I => h.run pins s σ H Q I q
theorem tE_mono {Q Q' : VK} (h : tE X e σ H Q) (f : ∀ v H', Q v H' → Q' v H') : tE X e σ H Q' := fun pins s I => thn (h pins s I) fun u s' ⟨v, H', I', r, q⟩ => ⟨v, H', I', r, f v H' q⟩
end

/-! ### the text -/
def isStar : Expr → Bool
  | .Starred _ _ => true
  | _ => false
theorem starEach_cons {e : Expr} {es : List Expr} {env : PySem.Env} (h : isStar e = false) : starEach (e :: es) env = (false, eval e env) :: starEach es env := by
  cases e <;> first | rfl | cases h
def noStars : List Expr → Bool
  | [] => true
  | e :: es => !isStar e && noStars es
theorem noStars_any {es : List Expr} {env : PySem.Env} {pos : Pos} (h : noStars es = true) : (backTo pos (starEach es env)).any (·.1) = false := by
  induction es with
  | nil => rfl
  | cons e es ih =>
    simp only [noStars, Bool.and_eq_true, Bool.not_eq_true'] at h
    rw [starEach_cons h.1]
    show (false || (backTo pos (starEach es env)).any (·.1)) = false
    rw [ih h.2]; rfl
def isSlice : Expr → Bool
  | .Slice _ _ _ _ => true
  | _ => false
theorem plainIx_of {e : Expr} (h : isSlice e = false) : PlainIx e := by
  intro o i
  cases e <;> first | rfl | cases h
def visB (sc : Scope) (x : Str) : Bool := match sc.names.lookup x with
  | some .local => true
  | some .cell => true
  | some .free => true
  | _ => false
def locB (sc : Scope) (x : Str) : Bool := match sc.names.lookup x with
  | some .local => true
  | some .cell => true
  | _ => false
def glB (sc : Scope) (x : Str) : Bool := decide (sc.names.lookup x = some .globalImplicit)
def plainX (x : Str) : Bool := !(x == ("__debug__" : Str)) && !(x == ("__classdict__" : Str)) && decide (x ≠ "__name__")
theorem visB_ok {sc : Scope} {x : Str} (h : visB sc x = true) : Vis sc x := by
  unfold visB at h
  split at h <;> first | exact .inl (by assumption) | exact .inr (.inl (by assumption)) | exact .inr (.inr (by assumption)) | cases h
theorem locB_ok {sc : Scope} {x : Str} (h : locB sc x = true) : Loc sc x := by
  unfold locB at h
  split at h <;> first | exact .inl (by assumption) | exact .inr (by assumption) | cases h
theorem plainX_ok {x : Str} (h : plainX x = true) : (x == ("__debug__" : Str)) = false ∧ (x == ("__classdict__" : Str)) = false ∧ x ≠ "__name__" := by
  simp only [plainX, Bool.and_eq_true, Bool.not_eq_true', decide_eq_true_eq] at h
  exact ⟨h.1.1, h.1.2, h.2⟩
def bopB : BOp → Operator → Bool
  | .add, .Add => true | .sub, .Sub => true | .mul, .Mult => true | .fdiv, .FloorDiv => true | .mod, .Mod => true | .pow, .Pow => true
  | _, _ => false
def copB : COp → CmpOp → Bool
  | .eq, .Eq => true | .ne, .NotEq => true | .lt, .Lt => true | .le, .LtE => true | .gt, .Gt => true | .ge, .GtE => true
  | .is, .Is => true | .isn, .IsNot => true | .inn, .In => true | .nin, .NotIn => true
  | _, _ => false
def cstB : D → Const → Bool
  | .non, .none => true
  | .bl b, .bool c => b == c
  | .int i, .int j => decide (i = j)
  | .str s, .str t => decide (s = t)
  | _, _ => false
def biN : BI → Str
  | .len => "len" | .abs => "abs" | .int => "int" | .gcd => "gcd" | .lcm => "lcm" | .max => "max" | .min => "min" | .repr => "repr" | .str => "str"
  | .divmod => "divmod" | .tuple => "tuple" | .list => "list" | .sum => "sum" | .all => "all" | .any => "any"
def tyN : Ty → Str
  | .int => "int" | .bool => "bool" | .tuple => "tuple"
def gkN : GK → Str
  | .tuple => "tuple" | .all => "all" | .any => "any" | .sum => "sum"
def nmB (sc : Scope) (N : List Str) (i : Nat) : Expr → Bool
  | .Name x _ => decide (N[i]? = some x) && locB sc x && plainX x
  | _ => false
def nmsB (sc : Scope) (N : List Str) : List Nat → List Expr → Bool
  | [], [] => true
  | i :: is, e :: es => nmB sc N i e && nmsB sc N is es
  | _, _ => false
def tgB (sc : Scope) (N : List Str) : ITg → Expr → Bool
  | .nm i, e => nmB sc N i e
  | .tp is, .Tuple es _ _ => nmsB sc N is es
  | _, _ => false
end Mi

set_option Elab.async false
set_option linter.all false
set_option maxRecDepth 100000
set_option maxHeartbeats 4000000
/-! Mi4: single steps of expressions. -/
namespace Mi
open PySem PySem.Spec PyProof.Rows L2

/-- how a def is kept: with nothing guarded, it ends in a value -/
structure FnG (P : Program) (w : World) (K : PySem.W.Frag) (mg : Str → Option Value) (base : Heap) (k : Nat) (f : Addr) (fd : FuncData) (ps : List Str) (sp : List V → Hp → VK → Prop) : Prop where
  len : ∀ vs H Q, sp vs H Q → vs.length = ps.length
  go : ∀ (A : Around) (around : List PySem.Env) (s : Shared) (H : Hp) (args : Args) (us : List Value) (vs : List V) (Q : VK), Room k A → A.guards = some [] → Env0 P w K mg base A around s H →
    BindsTo s fd args (ps.zip us) → Vals vs us → sp vs H Q → codeAny (model P w) A (.call (.ref f) args) (fun r s' => ∃ u, r = .ok (.ret u) ∧ CE around P w H s Q u s') s
/-- a def's promise: what callF gives -/
def spOf (T : Nat → Option Def) (F : Nat) (K : PySem.W.Frag) (cs : List (Addr × Addr)) (k : Nat) (f : Nat) : List V → Hp → VK → Prop := fun vs H Q =>
  ∃ m st ds d st', SC K cs m st H ∧ Reps K m (Lv m st) H ds vs ∧ callF T F k f ds st = some (d, st') ∧
    ∀ m' v H', Ext m st H m' st' H' → SC K cs m' st' H' → Rep K m' (Lv m' st') H' d v → Q v H'

/-- an exception in the air, as data -/
def ExcRep (K : PySem.W.Frag) (m : List Addr) (L : Addr → Prop) (H : Hp) : D → Value → Option Addr → Prop
  | .exc c f vs, cls, od => ∃ (C : Addr) (ys : List V), cls = .ref C ∧ PySem.W.nsIn K mainGlobals c = some (some (.ref C)) ∧ ExF K C ∧ Reps K m L H vs ys ∧ ((od = none ∧ ys = []) ∨ ∃ d y, od = some d ∧ ys = [y] ∧ PySem.W.findIn K (.ref C) f = some none ∧ H d = some (.xd [(f, y)]))
  | _, _, _ => False
/-- how a def that raises is kept -/
structure FnX (P : Program) (w : World) (K : PySem.W.Frag) (mg : Str → Option Value) (base : Heap) (k : Nat) (f : Addr) (fd : FuncData) (ps : List Str) (sp : List V → Hp → XK → Prop) : Prop where
  len : ∀ vs H E, sp vs H E → vs.length = ps.length
  go : ∀ (A : Around) (around : List PySem.Env) (s : Shared) (H : Hp) (args : Args) (us : List Value) (vs : List V) (E : XK), Room k A → A.guards = some [] → Env0 P w K mg base A around s H →
    BindsTo s fd args (ps.zip us) → Vals vs us → sp vs H E → codeAny (model P w) A (.call (.ref f) args) (fun r s' => ∃ u, r = .error u ∧ CX P w around H s E u s') s
/-- a def's promise to raise: what callF gives behind XB -/
def spX (T : Nat → Option Def) (F : Nat) (K : PySem.W.Frag) (cs : List (Addr × Addr)) (k : Nat) (f : Nat) : List V → Hp → XK → Prop := fun vs H E =>
  ∃ m st ds d st', SC K cs m st H ∧ Reps K m (Lv m st) H ds vs ∧ callF T F k (f + XB) ds st = some (d, st') ∧
    ∀ m' cls od H', Ext m st H m' st' H' → SC K cs m' st' H' → ExcRep K m' (Lv m' st') H' d cls od → E cls od H'
/-- what is known of isinstance(e, x) and of except x, e's class c -/
def XiOk (K : PySem.W.Frag) (mg : Str → Option Value) (c x : Str) (b : Bool) : Prop :=
  ∃ cv : Value, ((mg x = some cv ∧ ∃ D, cv = .ref D) ∨ (mg x = none ∧ bootBuiltins x = some cv ∧ ∃ T, cv = .type T)) ∧ ∀ C, PySem.W.nsIn K mainGlobals c = some (some (.ref C)) → PySem.W.kitOne K (.ref C) cv = some b ∧ PySem.W.exmOne K (.ref C) cv = some b
/-- what making an exception of the class c wants; f: its field, "" for none -/
def MkOk (P : Program) (K : PySem.W.Frag) (mg : Str → Option Value) (c f : Str) : Prop := ∃ C : Addr, PySem.W.nsIn K mainGlobals c = some (some (.ref C)) ∧ mg c = some (.ref C) ∧ ExF K C ∧
  ((f = "" ∧ PySem.W.excIn K C [.type "ValueError", .type "Exception", .type "BaseException", .type "object"] "ValueError.__new__" = true ∧ PySem.W.keepIn K (.ref C) = true ∧ PySem.W.subIn K (.ref C) (.type "BaseException") = some true ∧ PySem.W.typeIn K (.ref C) = some (.type "type")) ∨ (∃ fI, GivenTxt P K C fI f))

structure Wld where
  hot : Bool
  xm : Str → Str → Option Bool
  xc : Str → Str → Bool
  T : Nat → Option Def
  F : Nat
  nm : Nat → Option Str
  gc : Str → D → Bool
  mt : Bool
  kw : Nat → List Str → Option (List Nat)
  cs : List (Addr × Addr)
/-- how a call by names alone binds -/
def KwB (K : PySem.W.Frag) (fd : FuncData) (ps names : List Str) (perm : List Nat) : Prop :=
  ∀ (s : Shared) (us zs : List Value), K.In s.heap → perm.mapM (fun i => us[i]?) = some zs → us.length = names.length → zs.length = ps.length → BindsTo s fd ⟨[], names.zip us⟩ (ps.zip zs)

/-- the table of modules lies in the written part -/
def SmdK (K : PySem.W.Frag) : Prop := ∃ o, K.lookup sysModules = some o ∧ o.cls = .type "dict"
/-- what the module gives to a body whose calls go k deep -/
structure Mdl (W : Wld) (k : Nat) (X : Cx) : Prop where
  free : ∀ x ∈ (["len", "abs", "int", "max", "min", "repr", "str", "divmod", "tuple", "list", "sum", "all", "any", "isinstance", "bool", "range", "zip", "enumerate"] : List Str), X.mg x = none
  gcd : W.mt = true → X.mg "gcd" = some (.builtin "math.gcd")
  lcm : W.mt = true → X.mg "lcm" = some (.builtin "math.lcm")
  fns : ∀ f x, W.nm f = some x → ∃ a fd ps, X.mg x = some (.ref a) ∧ PySem.W.keepIn X.K (.ref a) = true ∧
    FnG X.prog X.w X.K X.mg X.base k a fd ps (spOf W.T W.F X.K W.cs k f) ∧ Binds X.K fd ps [] ∧ ∀ names perm, W.kw f names = some perm → KwB X.K fd ps names perm
  gcs : ∀ x d, W.gc x d = true → ∃ u v, X.mg x = some u ∧ RelV v u ∧ ∀ m L H, Rep X.K m L H d v
  xfns : ∀ f x, W.nm f = some x → ∃ a fd ps, X.mg x = some (.ref a) ∧ PySem.W.keepIn X.K (.ref a) = true ∧
    FnX X.prog X.w X.K X.mg X.base k a fd ps (spX W.T W.F X.K W.cs k f) ∧ Binds X.K fd ps [] ∧ ∀ names perm, W.kw f names = some perm → KwB X.K fd ps names perm
  xis : ∀ c x b, W.xm c x = some b → XiOk X.K X.mg c x b
  xmk : ∀ c f, W.xc c f = true → MkOk X.prog X.K X.mg c f
  smd : SmdK X.K
/-- where a body's piece stands -/
structure Cxt (W : Wld) (k : Nat) (N : List Str) (sc : Scope) (X : Cx) : Prop where
  hsc : X.env.scope = sc
  hN : X.N = N
  nd : N.Nodup
  calm : W.hot = false → X.calm = true
  room : W.hot = false → Room k X.A
  un : X.A.units + 128 < cLine
  grd : X.A.guards = some []
  mdl : Mdl W k X
class NotHot (W : Wld) : Prop where
  h : W.hot = false
theorem Cxt.cm {W : Wld} [NotHot W] {k : Nat} {N : List Str} {sc : Scope} {X : Cx} (C : Cxt W k N sc X) : X.calm = true := C.calm NotHot.h
theorem Cxt.rm {W : Wld} [NotHot W] {k : Nat} {N : List Str} {sc : Scope} {X : Cx} (C : Cxt W k N sc X) : Room k X.A := C.room NotHot.h
/-- these names may be stored -/
def Sto (tl : Str → Bool) (X : Cx) : Prop := ∀ x, tl x = true → Loc X.env.scope x ∧ (X.fn x = true ∨ X.env.scope.names.lookup x = some .local)

section
variable {W : Wld} {k : Nat} {N : List Str} {sc : Scope} {X : Cx}
theorem Cxt.gl (C : Cxt W k N sc X) {x : Str} (h : glB sc x = true) : Gl X x := by
  unfold glB at h
  have h := of_decide_eq_true h
  show X.env.scope.names.lookup x = _
  rw [C.hsc]; exact h
theorem Cxt.units (C : Cxt W k N sc X) : X.A.units + 64 < cLine := by have := C.un; omega

/-- what is wanted behind a value -/
abbrev Aft (X : Cx) (cs : List (Addr × Addr)) (m : List Addr) (st : Store) (H : Hp) (d : D) (st' : Store) (Q : VK) : Prop :=
  ∀ m' v H', Ext m st H m' st' H' → SC X.K cs m' st' H' → Rep X.K m' (Lv m' st') H' d v → Q v H'
def EOk (X : Cx) (cs : List (Addr × Addr)) (e : Expr) (env : Env) (st : Store) (r : Option (D × Store)) : Prop :=
  ∀ d st', r = some (d, st') → ∀ m σ H Q, SC X.K cs m st H → EnvR X.K m st H env σ → Aft X cs m st H d st' Q → tE X e σ H Q
def AOk (X : Cx) (cs : List (Addr × Addr)) (es : List Expr) (env : Env) (st : Store) (r : Option (List D × Store)) : Prop :=
  ∀ ds st', r = some (ds, st') → ∀ m σ H (Q : List V → Hp → Prop), SC X.K cs m st H → EnvR X.K m st H env σ →
    (∀ m' vs H', Ext m st H m' st' H' → SC X.K cs m' st' H' → Reps X.K m' (Lv m' st') H' ds vs → Q vs H') → tA X es σ H Q
def OOk (X : Cx) (cs : List (Addr × Addr)) (e : Option Expr) (env : Env) (st : Store) (r : Option (Option D × Store)) : Prop :=
  ∀ d st' i, r = some (d, st') → optI d = some i → ∀ m σ H (Q : Option Int → Hp → Prop), SC X.K cs m st H → EnvR X.K m st H env σ →
    (∀ m' H', Ext m st H m' st' H' → SC X.K cs m' st' H' → Q i H') → tO X e σ H Q
def TOk (X : Cx) (cs : List (Addr × Addr)) (e : Expr) (env : Env) (st : Store) (r : Option (Bool × Store)) : Prop :=
  ∀ b st', r = some (b, st') → ∀ m σ H (Q : Bool → Hp → Prop), SC X.K cs m st H → EnvR X.K m st H env σ →
    (∀ m' H', Ext m st H m' st' H' → SC X.K cs m' st' H' → Q b H') → tT X e σ H Q
def WOk (X : Cx) (cs : List (Addr × Addr)) (e : Expr) (env : Env) (st : Store) (r : Option (Bool × Store)) : Prop :=
  ∀ b st', r = some (b, st') → ∀ m σ H (Q : Bool → Hp → Prop), SC X.K cs m st H → EnvR X.K m st H env σ →
    (∀ m' H', Ext m st H m' st' H' → SC X.K cs m' st' H' → Q b H') → tW X e σ H Q

theorem s_var (C : Cxt W k N sc X) {i : Nat} {x : Str} {p : Pos} {env st} (h1 : N[i]? = some x) (h2 : visB sc x = true) (h3 : plainX x = true) :
    EOk X W.cs (.Name x p) env st (match env[i]? with | some (some d) => some (d, st) | _ => none) := by
  intro d st' e m σ H Q hs hr hq
  split at e
  · rename_i d' he
    cases e
    obtain ⟨v, hv, rep⟩ := hr.get i d he
    obtain ⟨p1, p2, _⟩ := plainX_ok h3
    exact useE (pe_var (by rw [C.hN]; exact h1) (by rw [C.hsc]; exact visB_ok h2) p1 p2) ⟨v, hv, hq m v H Ext.refl hs rep⟩
  · cases e
theorem SC.setNone {K cs m st H} (s : SC K cs m st H) {n : Nat} : SC K cs m (st.set n none) H where
  len := by rw [List.length_set]; exact s.len
  cell := fun j xs h => by
    have hj : j ≠ n := fun e => by
      subst e
      by_cases hl : j < st.length
      · rw [List.getElem?_set_self hl] at h; cases h
      · rw [List.getElem?_eq_none (by simpa using hl)] at h; cases h
    rw [List.getElem?_set_ne (Ne.symm hj)] at h
    obtain ⟨a, ys, h1, h2, h3⟩ := s.cell j xs h
    refine ⟨a, ys, h1, h2, h3.ext s.cells ?_⟩
    exact ⟨fun _ _ z => z, fun _ _ z _ _ => z, fun _ ps z => ⟨#[], by simpa using z⟩, fun a ⟨i, zs, q1, q2⟩ => .inl ⟨i, zs, by
      by_cases hi : i = n
      · subst hi
        by_cases hl : i < st.length
        · rw [List.getElem?_set_self hl] at q1; cases q1
        · rw [List.getElem?_eq_none (by simpa using hl)] at q1; cases q1
      · rw [List.getElem?_set_ne (Ne.symm hi)] at q1; exact q1, q2⟩⟩
  inj := fun i j a xs ys h1 h2 h3 h4 => by
    have key : ∀ {i zs}, (st.set n none)[i]? = some (some zs) → st[i]? = some (some zs) := fun {i zs} q => by
      by_cases hi : i = n
      · subst hi
        by_cases hl : i < st.length
        · rw [List.getElem?_set_self hl] at q; cases q
        · rw [List.getElem?_eq_none (by simpa using hl)] at q; cases q
      · rw [List.getElem?_set_ne (Ne.symm hi)] at q; exact q
    exact s.inj i j a _ _ (key h1) (key h2) h3 h4
  tab := s.tab
theorem lv_setNone {m : List Addr} {st : Store} {n : Nat} {a : Addr} (h : Lv m (st.set n none) a) : Lv m st a ∧ ∃ i zs, i ≠ n ∧ st[i]? = some (some zs) ∧ m[i]? = some a := by
  obtain ⟨i, zs, q1, q2⟩ := h
  have hi : i ≠ n := fun e => by
    subst e
    by_cases hl : i < st.length
    · rw [List.getElem?_set_self hl] at q1; cases q1
    · rw [List.getElem?_eq_none (by simpa using hl)] at q1; cases q1
  rw [List.getElem?_set_ne (Ne.symm hi)] at q1
  exact ⟨⟨i, zs, q1, q2⟩, i, zs, hi, q1, q2⟩
theorem ext_setNone {m : List Addr} {st : Store} {H : Hp} {n : Nat} : Ext m st H m (st.set n none) H :=
  ⟨fun _ _ z => z, fun _ _ z _ _ => z, fun _ ps z => ⟨#[], by simpa using z⟩, fun _ l => .inl (lv_setNone l).1⟩
theorem s_frz (C : Cxt W k N sc X) {i : Nat} {x : Str} {p : Pos} {env st} (h1 : N[i]? = some x) (h2 : visB sc x = true) (h3 : plainX x = true) :
    EOk X W.cs (.Name x p) env st (match env[i]? with
    | some (some (.cell n)) => (match st[n]? with
      | some (some xs) => some (.lst xs, st.set n none)
      | _ => none)
    | _ => none) := by
  intro d st' e m σ H Q hs hr hq
  split at e
  · rename_i n he
    split at e
    · rename_i xs hst
      cases e
      obtain ⟨v, hv, rep⟩ := hr.get i _ he
      obtain ⟨p1, p2, _⟩ := plainX_ok h3
      simp only [Rep] at rep
      obtain ⟨a, rfl, ha⟩ := rep
      obtain ⟨a', ys, q1, q2, q3⟩ := hs.cell n xs hst
      rw [ha] at q1; cases q1
      refine useE (pe_var (by rw [C.hN]; exact h1) (by rw [C.hsc]; exact visB_ok h2) p1 p2) ⟨.ref a, hv, hq m _ H ext_setNone hs.setNone ?_⟩
      simp only [Rep]
      refine ⟨a, ys, rfl, q2, fun l => ?_, q3.ext hs.cells ext_setNone⟩
      obtain ⟨_, j, zs, hj, z1, z2⟩ := lv_setNone l
      exact hj (hs.inj j n a _ _ z1 hst z2 ha)
    · cases e
  · cases e
theorem s_cst {d0 : D} {c : Const} {j p env st} (h : cstB d0 c = true) : EOk X W.cs (.Constant c j p) env st (some (d0, st)) := by
  intro d st' e m σ H Q hs hr hq
  cases e
  cases d0 <;> cases c <;> try (cases h)
  · exact useE pe_non (hq m _ H Ext.refl hs (by simp only [Rep]))
  · rename_i b b'
    have e : b = b' := by simpa [cstB] using h
    subst e
    exact useE pe_bl (hq m _ H Ext.refl hs (by simp only [Rep]))
  · rename_i i i'
    have e : i = i' := by simpa [cstB] using h
    subst e
    exact useE pe_int (hq m _ H Ext.refl hs (by simp only [Rep]))
  · rename_i z z'
    have e : z = z' := by simpa [cstB] using h
    subst e
    exact useE pe_str (hq m _ H Ext.refl hs (by simp only [Rep]))
/-- {} -/
theorem s_dic0 {p env st} : EOk X W.cs (.Dict [] [] p) env st (some (.dct [] [], st)) := by
  intro d st' e m σ H Q hs hr hq
  cases e
  refine useE pe_dnewK (fun q hp => hq m _ _ (ext_new hp) (hs.new hp) ?_)
  simp only [Rep]
  exact ⟨q, [], rfl, .inl upd_same, rfl, Reps.nil⟩
/-- {k: i} of a text and a whole number -/
theorem s_dic1 {z : Str} {i : Int} {jk jv pk pv p env st} : EOk X W.cs (.Dict [some (.Constant (.str z) jk pk)] [.Constant (.int i) jv pv] p) env st (some (.dct [.inr z] [.int i], st)) := by
  intro d st' e m σ H Q hs hr hq
  cases e
  refine useE (pe_disp (pps_cons pe_str pe_int pps_nil) rfl rfl (by simp) (by simp)) (fun q hp => ?_)
  refine ⟨upd_same, [(.inr z, .int i)], rfl, by simp, ?_⟩
  have e : upd (upd H q (.dK [])) q (.dK (mergeK [] [((.inr z : Key), V.int i)])) = upd H q (.dK [((.inr z : Key), V.int i)]) := by
    funext b
    by_cases h : b = q
    · subst h; rw [upd_same, upd_same]; rfl
    · rw [upd_ne h, upd_ne h, upd_ne h]
  rw [e]
  refine hq m _ _ (ext_new hp) (hs.new hp) ?_
  simp only [Rep, Reps]
  exact ⟨q, [.int i], rfl, .inl upd_same, rfl, .int i, [], rfl, rfl, rfl⟩
theorem s_gcn (C : Cxt W k N sc X) {d0 : D} {x : Str} {p env st} (h1 : glB sc x = true) (h2 : plainX x = true) (h3 : W.gc x d0 = true) : EOk X W.cs (.Name x p) env st (some (d0, st)) := by
  intro d st' e m σ H Q hs hr hq
  cases e
  obtain ⟨u, v, g1, g2, g3⟩ := C.mdl.gcs x d0 h3
  exact useE (pe_glob (C.gl h1) g1 g2 (plainX_ok h2).1) (hq m v H Ext.refl hs (g3 _ _ _))
theorem s_anil {env st} : AOk X W.cs [] env st (some ([], st)) := by
  intro ds st' e m σ H Q hs hr hq
  cases e
  exact useA pa_nil (hq m _ H Ext.refl hs Reps.nil)
theorem s_acons {e : Expr} {es : List Expr} {env st} {r1 : Option (D × Store)} {r2 : Store → Option (List D × Store)} (hst : isStar e = false) (he : EOk X W.cs e env st r1) (hes : ∀ st1, AOk X W.cs es env st1 (r2 st1)) :
    AOk X W.cs (e :: es) env st (match (generalizing := false) r1 with
    | some (x, st1) => (match r2 st1 with
      | some (xs, st2) => some (x :: xs, st2)
      | none => none)
    | none => none) := by
  intro ds st' e0 m σ H Q hs hr hq
  cases r1 with
  | none => cases e0
  | some p1 =>
    obtain ⟨x, st1⟩ := p1
    cases h2 : r2 st1 with
    | none => simp only [h2] at e0; cases e0
    | some p2 =>
      obtain ⟨xs, st2⟩ := p2
      simp only [h2] at e0
      cases e0
      refine useA (pa_cons peE paA (starEach_cons hst)) ?_
      refine he x st1 rfl m σ H _ hs hr fun m1 v1 H1 x1 s1 p1 => ?_
      refine hes st1 xs _ h2 m1 σ H1 _ s1 (hr.ext hs.cells x1) fun m2 vs H2 x2 s2 p2 => ?_
      exact hq m2 _ H2 (x1.trans x2) s2 (Reps.cons (p1.ext s1.cells x2) p2)
theorem s_tup {es : List Expr} {kk p env st} {r : Option (List D × Store)} (ha : AOk X W.cs es env st r) : EOk X W.cs (.Tuple es kk p) env st (match (generalizing := false) r with
    | some (xs, st1) => if xs.length ≤ sizeLine then some (.tup xs, st1) else none
    | none => none) := by
  intro d st' e m σ H Q hs hr hq
  cases r with
  | none => cases e
  | some p =>
    obtain ⟨xs, st1⟩ := p
    simp only at e
    split at e
    · rename_i hz
      cases e
      refine useE (pe_tup paA) (ha xs _ rfl m σ H _ hs hr fun m1 vs H1 x1 s1 p1 => ⟨by rw [← p1.length]; exact hz, fun p hp => ?_⟩)
      exact hq m1 _ _ (x1.trans (ext_new hp)) (s1.new hp) (rep_tup s1 hp p1)
    · cases e
theorem s_lst {es : List Expr} {p env st} {r : Option (List D × Store)} (ha : AOk X W.cs es env st r) : EOk X W.cs (.List es p) env st (match (generalizing := false) r with
    | some (xs, st1) => if xs.length ≤ sizeLine then some (.lst xs, st1) else none
    | none => none) := by
  intro d st' e m σ H Q hs hr hq
  cases r with
  | none => cases e
  | some p =>
    obtain ⟨xs, st1⟩ := p
    simp only at e
    split at e
    · rename_i hz
      cases e
      refine useE (pe_lst paA) (ha xs _ rfl m σ H _ hs hr fun m1 vs H1 x1 s1 p1 => ⟨by rw [← p1.length]; exact hz, fun p hp => ?_⟩)
      exact hq m1 _ _ (x1.trans (ext_new hp)) (s1.new hp) (rep_lst s1 hp p1)
    · cases e
theorem s_ncl {es : List Expr} {p env st} {r : Option (List D × Store)} (ha : AOk X W.cs es env st r) : EOk X W.cs (.List es p) env st (match (generalizing := false) r with
    | some (xs, st1) => if xs.length ≤ sizeLine then some (.cell st1.length, st1 ++ [some xs]) else none
    | none => none) := by
  intro d st' e m σ H Q hs hr hq
  cases r with
  | none => cases e
  | some p =>
    obtain ⟨xs, st1⟩ := p
    simp only at e
    split at e
    · rename_i hz
      cases e
      refine useE (pe_lst paA) (ha xs _ rfl m σ H _ hs hr fun m1 vs H1 x1 s1 p1 => ⟨by rw [← p1.length]; exact hz, fun p hp => ?_⟩)
      refine hq (m1 ++ [p]) _ _ (x1.trans (ext_cell s1.len hp)) (s1.push hp p1) ?_
      simp only [Rep]
      exact ⟨p, rfl, by rw [← s1.len]; simp⟩
    · cases e

/-! ### operators -/
/-- two in a row, then a step by values -/
theorem s_two {e : Expr} {a b : Expr} {env st} {ra : Option (D × Store)} {rb : Store → Option (D × Store)} {f : D → D → Store → Option D} {r : R2}
    (hp : ∀ {ta tb}, PE X a ta → PE X b tb → PE X e (tOp r ta tb)) (ha : EOk X W.cs a env st ra) (hb : ∀ st1, EOk X W.cs b env st1 (rb st1))
    (hf : ∀ x y st z m H v u Q, f x y st = some z → SC X.K W.cs m st H → Rep X.K m (Lv m st) H x v → Rep X.K m (Lv m st) H y u → Aft X W.cs m st H z st Q → r v u H Q) :
    EOk X W.cs e env st (match (generalizing := false) ra with
    | some (x, st1) => (match rb st1 with
      | some (y, st2) => (match f x y st2 with
        | some z => some (z, st2)
        | none => none)
      | none => none)
    | none => none) := by
  intro d st' e0 m σ H Q hs hr hq
  cases ra with
  | none => cases e0
  | some p1 =>
    obtain ⟨x, st1⟩ := p1
    cases h2 : rb st1 with
    | none => simp only [h2] at e0; cases e0
    | some p2 =>
      obtain ⟨y, st2⟩ := p2
      cases h3 : f x y st2 with
      | none => simp only [h2, h3] at e0; cases e0
      | some z =>
        simp only [h2, h3] at e0
        cases e0
        refine useE (hp peE peE) ?_
        refine ha x st1 rfl m σ H _ hs hr fun m1 v1 H1 x1 s1 p1 => ?_
        refine hb st1 y _ h2 m1 σ H1 _ s1 (hr.ext hs.cells x1) fun m2 v2 H2 x2 s2 p2 => ?_
        exact hf x y _ _ m2 H2 v1 v2 Q h3 s2 (p1.ext s1.cells x2) p2 fun m3 v3 H3 x3 s3 p3 => hq m3 v3 H3 ((x1.trans x2).trans x3) s3 p3
theorem bop_int {o : BOp} {i j : Int} {z : D} (h : bop o (.int i) (.int j) = some z) : ∃ n, z = .int n := by
  cases o <;> simp only [bop] at h
  · cases h; exact ⟨_, rfl⟩
  · cases h; exact ⟨_, rfl⟩
  all_goals (split at h <;> first | (cases h; exact ⟨_, rfl⟩) | cases h)
/-- what a step over data asks of values -/
def rBop (X : Cx) (cs : List (Addr × Addr)) (o : BOp) : R2 := fun v u H Q => ∃ x y z m st, bop o x y = some z ∧ SC X.K cs m st H ∧ Rep X.K m (Lv m st) H x v ∧ Rep X.K m (Lv m st) H y u ∧ Aft X cs m st H z st Q
def bopO : BOp → Operator
  | .add => .Add | .sub => .Sub | .mul => .Mult | .fdiv => .FloorDiv | .mod => .Mod | .pow => .Pow
def CMulM (i j : Int) : Prop := i.natAbs.log2 + j.natAbs.log2 < 100000000
theorem CMulM.ok {i j : Int} (h : CMulM i j) : IntMulOk i j := by
  have b : ∀ x : Int, Builtin.Int.intBits x ≤ x.natAbs.log2 + 1 := fun x => by
    unfold Builtin.Int.intBits
    split <;> omega
  have h1 := b i
  have h2 := b j
  have h3 : i.natAbs.log2 + j.natAbs.log2 < 100000000 := h
  have e : bitsLine = 134217728 := by decide
  unfold IntMulOk
  intro z
  rw [Bool.and_eq_true] at z
  have z2 := z.2
  unfold Builtin.Int.intTooBig at z2
  have z3 := of_decide_eq_true z2
  rw [e] at z3
  omega
/-- () + b is b -/
theorem op_catT0 : OpR X (binaryOp .Add) (fun x y H Q => ∃ a b ys, x = .ref a ∧ y = .ref b ∧ SqT X.K H a [] ∧ SqT X.K H b ys ∧ Q (.ref b) H) := by
  intro pins s σ H x y v u Q I rx ry h
  obtain ⟨a, b, ys, rfl, rfl, ha, hb, q⟩ := h
  cases rx
  cases ry
  obtain ⟨its, r1, p1, _⟩ := I.tuple ha
  obtain ⟨its2, r2, p2, _⟩ := I.tuple hb
  have e : its = [] := r1.nil_iff.mpr rfl
  subst e
  obtain ⟨⟨cls, dd, data, sl⟩, ho, hc, n, hd⟩ := id p1
  obtain ⟨⟨cls2, dd2, data2, sl2⟩, ho2, hc2, n2, hd2⟩ := id p2
  simp only at hc hd hc2 hd2
  subst hc hd hc2 hd2
  exact concat_meets ⟨_, ho, rfl⟩ ⟨_, ho2, rfl⟩ noFill_tuple_add seq_tuple_add PySem.F.slot_tuple_add PySem.F.entry_tuple_add (PySem.F.args_tuple_add_2 _ _)
    (tuple_addW0 a b _ its2.toArray n n2 dd dd2 sl sl2 (by simp)) ⟨ho, ho2, ⟨.ref b, H, I, rfl, q⟩⟩
theorem op_bop (o : BOp) : OpR X (binaryOp (bopO o)) (rBop X W.cs o) := by
  intro pins s σ H v u v' u' Q I rv ru h
  obtain ⟨x, y, z, m, st, hz, hs, rx, ry, hq⟩ := h
  have fin : ∀ {n : Int} {tk : Nat}, z = .int n → EP X pins σ Q (.int n s.toks) { s with toks := tk } := fun {n tk} e => by
    subst e
    exact ⟨.int n, H, I.tok _, ⟨_, rfl⟩, hq m _ H Ext.refl hs (by simp only [Rep])⟩
  cases x <;> cases y <;> (try (cases o <;> cases hz)) <;> simp only [Rep] at rx ry
  · -- ints
    rename_i i j
    subst rx; subst ry
    obtain ⟨t, rfl⟩ := rv
    obtain ⟨t', rfl⟩ := ru
    cases o <;> simp only [bop] at hz
    · cases hz; exact add_int (fin rfl)
    · cases hz; exact sub_int (fin rfl)
    · split at hz
      · rename_i hc
        cases hz
        exact mul_int (fin rfl) (CMulM.ok (by unfold CMulM; simpa using hc))
      · cases hz
    · split at hz
      · rename_i hc
        cases hz
        exact floordiv_int hc.1 (fin rfl) (.inl (PyProof.noPylong_of_log2 hc.2))
      · cases hz
    · split at hz
      · rename_i hc
        cases hz
        exact mod_int' hc (fin rfl)
      · cases hz
    · split at hz
      · rename_i hc
        cases hz
        exact pow_int_small hc.1 hc.2.1 hc.2.2 (fin rfl)
      · cases hz
  · -- tuples
    rename_i xs ys
    cases o <;> simp only [bop] at hz <;> try (cases hz)
    obtain ⟨a, vs, e1, h1, r1⟩ := rx
    obtain ⟨b, us, e2, h2, r2⟩ := ry
    split at hz
    · rename_i he
      cases hz
      have he' : xs = [] := by simpa using he
      subst he'
      simp only [Reps] at r1
      subst e1; subst e2; subst r1
      exact op_catT0 pins s σ H (.ref a) (.ref b) _ _ Q I rv ru ⟨a, b, us, rfl, rfl, h1, h2, hq m _ H Ext.refl hs (by simp only [Rep]; exact ⟨b, us, rfl, h2, r2⟩)⟩
    · rename_i hne
      split at hz
      · rename_i hz'
        cases hz
        subst e1; subst e2
        have hv : vs ≠ [] := fun e => by
          subst e
          have := r1.length
          simp at this
          subst this
          simp at hne
        refine op_catT pins s σ H (.ref a) (.ref b) _ _ Q I rv ru ⟨a, b, vs, us, rfl, rfl, h1, h2, hv, by rw [← r1.length, ← r2.length]; exact hz', fun e => ?_, fun hne p hp => ?_⟩
        · subst e
          have := r2.length
          simp at this
          subst this
          refine hq m _ H Ext.refl hs ?_
          simp only [Rep]
          exact ⟨a, vs, rfl, h1, by simpa using r1⟩
        · exact hq m _ _ (ext_new hp) (hs.new hp) (rep_tup hs hp (r1.append r2))
      · cases hz
  · -- lists
    rename_i xs j
    cases o <;> simp only [bop] at hz <;> try (cases hz)
    obtain ⟨a, vs, e1, h1, nl, r1⟩ := rx
    subst e1; subst ry
    split at hz
    · rename_i hc
      cases hz
      refine op_rep pins s σ H (.ref a) (.int j) _ _ Q I rv ru ⟨a, j, vs, rfl, rfl, h1, by omega, by omega, by rw [← r1.length]; exact hc.2.2, fun p hp => ?_⟩
      refine hq m _ _ (ext_new hp) (hs.new hp) (rep_lst hs hp ?_)
      generalize j.toNat = n
      induction n with
      | zero => simp [Reps]
      | succ n ih => rw [List.replicate_succ, List.replicate_succ, List.flatten_cons, List.flatten_cons]; exact r1.append ih
    · cases hz
  · rename_i xs ys
    cases o <;> simp only [bop] at hz <;> try (cases hz)
    obtain ⟨a, vs, e1, h1, nl, r1⟩ := rx
    obtain ⟨b, us, e2, h2, nl2, r2⟩ := ry
    split at hz
    · rename_i hz'
      cases hz
      subst e1; subst e2
      exact op_cat pins s σ H (.ref a) (.ref b) _ _ Q I rv ru ⟨a, b, vs, us, rfl, rfl, h1, h2, by rw [← r1.length, ← r2.length]; exact hz', fun p hp => hq m _ _ (ext_new hp) (hs.new hp) (rep_lst hs hp (r1.append r2))⟩
    · cases hz
theorem s_bin {o : BOp} {op : Operator} {a b : Expr} {p env st} {ra : Option (D × Store)} {rb : Store → Option (D × Store)} (h : bopB o op = true) (ha : EOk X W.cs a env st ra) (hb : ∀ st1, EOk X W.cs b env st1 (rb st1)) :
    EOk X W.cs (.BinOp a op b p) env st (match (generalizing := false) ra with
    | some (x, st1) => (match rb st1 with
      | some (y, st2) => (match bop o x y with
        | some z => some (z, st2)
        | none => none)
      | none => none)
    | none => none) := by
  have e : op = bopO o := by cases o <;> cases op <;> first | rfl | cases h
  subst e
  exact s_two (W := W) (f := fun x y _ => bop o x y) (r := rBop X W.cs o) (fun h1 h2 => pe_op (op_bop o) h1 h2) ha hb fun x y st z m H v u Q hz hs rx ry hq => ⟨x, y, z, m, st, hz, hs, rx, ry, hq⟩
end
end Mi

set_option Elab.async false
set_option linter.all false
set_option maxRecDepth 100000
set_option maxHeartbeats 4000000
/-! Mi5: further steps of expressions. -/
namespace Mi
open PySem PySem.Spec PyProof.Rows L2

section
variable {W : Wld} {k : Nat} {N : List Str} {sc : Scope} {X : Cx}

theorem s_neg {a : Expr} {p env st} {r : Option (D × Store)} (ha : EOk X W.cs a env st r) : EOk X W.cs (.UnaryOp .USub a p) env st (match (generalizing := false) r with
    | some (.int i, st1) => some (.int (-i), st1)
    | _ => none) := by
  intro d st' e m σ H Q hs hr hq
  cases r with
  | none => cases e
  | some p0 =>
    obtain ⟨x, st1⟩ := p0
    cases x <;> simp only at e <;> cases e
    refine useE (pe_un un_neg peE) (ha _ _ rfl m σ H _ hs hr fun m1 v1 H1 x1 s1 p1 => ?_)
    simp only [Rep] at p1
    subst p1
    exact ⟨_, rfl, hq m1 _ H1 x1 s1 (by simp only [Rep])⟩

/-! ### data for == and the like -/
mutual
theorem dp_of {K m L H} : ∀ {d : D} {v : V}, flat0 d = true → Rep K m L H d v → Dp K H v (pd d)
  | .non, v, _, h => by simp only [Rep] at h; subst h; exact .non
  | .bl b, v, _, h => by simp only [Rep] at h; subst h; exact .bl b
  | .int i, v, _, h => by simp only [Rep] at h; subst h; exact .int i
  | .str s, v, _, h => by simp only [Rep] at h; subst h; exact .str s
  | .tup xs, v, f, h => by
    simp only [Rep] at h
    simp only [flat0] at f
    obtain ⟨a, ys, rfl, h1, h2⟩ := h
    simp only [pd]
    exact .tup h1 (dps_of f h2)
  | .lst xs, v, f, h => by
    simp only [Rep] at h
    simp only [flat0] at f
    obtain ⟨a, ys, rfl, h1, _, h2⟩ := h
    simp only [pd]
    exact .lst (.inl (.inl h1)) (dps_of f h2)
  | .scr _, _, f, _ => by simp [flat0] at f
  | .cell _, _, f, _ => by simp [flat0] at f
  | .dct _ _, _, f, _ => by simp [flat0] at f
theorem dps_of {K m L H} : ∀ {ds : List D} {vs : List V}, flat0s ds = true → Reps K m L H ds vs → DpAll K H vs (pds ds)
  | [], vs, _, h => by simp only [Reps] at h; subst h; simp only [pds]; exact .nil
  | d :: ds, vs, f, h => by
    simp only [Reps] at h
    simp only [flat0s, Bool.and_eq_true] at f
    obtain ⟨y, r, rfl, h1, h2⟩ := h
    simp only [pds]
    exact .cons (dp_of f.1 h1) (dps_of f.2 h2)
end
theorem toV_rep {K m L H} {d : D} {v : V} (f : flatD d = true) (r : Rep K m L H d v) : v = toV d ∧ flatV v = true := by
  cases d <;> simp only [flatD, Bool.false_eq_true] at f <;> simp only [Rep] at r <;> subst r <;> exact ⟨rfl, rfl⟩
theorem toV_reps {K m L H} : ∀ {ds : List D} {vs : List V}, ds.all flatD = true → Reps K m L H ds vs → vs = ds.map toV ∧ vs.all flatV = true
  | [], vs, _, h => by simp only [Reps] at h; subst h; exact ⟨rfl, rfl⟩
  | d :: ds, vs, f, h => by
    simp only [Reps] at h
    simp only [List.all_cons, Bool.and_eq_true] at f
    obtain ⟨y, r, rfl, h1, h2⟩ := h
    obtain ⟨e1, e2⟩ := toV_rep f.1 h1
    obtain ⟨e3, e4⟩ := toV_reps f.2 h2
    exact ⟨by rw [List.map_cons, ← e1, ← e3], by simp [e2, e4]⟩
def copO : COp → CmpOp
  | .eq => .Eq | .ne => .NotEq | .lt => .Lt | .le => .LtE | .gt => .Gt | .ge => .GtE | .is => .Is | .isn => .IsNot | .inn => .In | .nin => .NotIn
def rCop (X : Cx) (cs : List (Addr × Addr)) (o : COp) : R2 := fun v u H Q => ∃ x y z m st, cop o x y = some z ∧ SC X.K cs m st H ∧ Rep X.K m (Lv m st) H x v ∧ Rep X.K m (Lv m st) H y u ∧ Aft X cs m st H (.bl z) st Q
theorem flat0_non {K m L H} {d : D} {v : V} (f : flat0 d = true) (r : Rep K m L H d v) : decide (v = .non) = isNonD d := by
  cases d <;> simp only [flat0, Bool.false_eq_true] at f <;> simp only [Rep] at r
  · subst r; rfl
  · subst r; rfl
  · subst r; rfl
  · subst r; rfl
  · obtain ⟨a, ys, rfl, _⟩ := r; rfl
  · obtain ⟨a, ys, rfl, _⟩ := r; rfl
/-- x == () for a tuple x -/
theorem op_eqT0 (hu : X.A.units + 64 < cLine) : OpR X (compareOp .Eq) (fun x y H Q => ∃ a b ys, x = .ref a ∧ y = .ref b ∧ SqT X.K H a ys ∧ SqT X.K H b [] ∧ Q (.bl ys.isEmpty) H) := by
  intro pins s σ H x y v u Q I rx ry h
  obtain ⟨a, b, ys, rfl, rfl, ha, hb, q⟩ := h
  cases rx
  cases ry
  obtain ⟨its, r1, p1, _⟩ := I.tuple ha
  obtain ⟨its2, r2, p2, _⟩ := I.tuple hb
  have e : its2 = [] := r2.nil_iff.mpr rfl
  subst e
  refine SeqAt.eq_tupleAt (e := fun _ => true) p1 p2 (by omega) (fun j h1 h2 => absurd h2 (by simp)) ?_
  have hl := r1.length
  have e2 : ((List.range (min its.toArray.size (#[] : Array Value).size)).all (fun _ => true) && its.toArray.size == (#[] : Array Value).size) = ys.isEmpty := by
    cases ys <;> cases its <;> simp_all
  refine ⟨.bl ys.isEmpty, H, I, ?_, q⟩
  show Value.bool _ = Value.bool _
  rw [e2]
theorem orO {α : Type} {a b : Option α} {x : α} (h : a.or b = some x) : a = some x ∨ b = some x := by
  cases a with
  | none => exact .inr h
  | some y => exact .inl h
theorem op_cop (C : Cxt W k N sc X) (o : COp) : OpR X (compareOp (copO o)) (rCop X W.cs o) := by
  intro pins s σ H v u v' u' Q I rv ru h
  obtain ⟨x, y, z, m, st, hz, hs, rx, ry, hq⟩ := h
  have fin : Q (.bl z) H := hq m _ H Ext.refl hs (by simp only [Rep])
  have eqs : ∀ {b : Bool}, dEq x y = some b → ∃ d e, Dp X.K H v d ∧ Dp X.K H u e ∧ SeqAt.shaped d = true ∧ SeqAt.shaped e = true ∧ PyData.eqv d e = b := fun {b} h => by
    unfold dEq at h
    split at h
    · rename_i hc
      simp only [Bool.and_eq_true] at hc
      cases h
      exact ⟨_, _, dp_of hc.1.1.1 rx, dp_of hc.1.1.2 ry, hc.1.2, hc.2, rfl⟩
    · cases h
  have ins : ∀ {xs : List D} {p : Addr} {ys : List V} {b : Bool}, dIn x xs = some b → (SqL X.K H p ys ∨ SqT X.K H p ys) → Reps X.K m (Lv m st) H xs ys → (SqL X.K H p ys ∨ SqT X.K H p ys) ∧ flatV v = true ∧ ys.all flatV = true ∧ inV v ys = b := fun {xs p ys b} h hp hrs => by
    unfold dIn at h
    split at h
    · rename_i hc
      simp only [Bool.and_eq_true] at hc
      cases h
      obtain ⟨e1, e2⟩ := toV_rep hc.1 rx
      obtain ⟨e3, e4⟩ := toV_reps hc.2 hrs
      exact ⟨hp, e2, e4, by rw [e1, e3]⟩
    · cases h
  have insD : ∀ {xs : List D} {b : Bool}, dInD x xs = some b → Rep X.K m (Lv m st) H (.lst xs) u → ∃ d ds, Dp X.K H v d ∧ Dp X.K H u (.list ds) ∧ SeqAt.shaped d = true ∧ SeqAt.shaped (.list ds) = true ∧ (ds.any fun z => PyData.eqv z d) = b := fun {xs b} h hr => by
    unfold dInD at h
    split at h
    · rename_i hc
      simp only [Bool.and_eq_true] at hc
      cases h
      have q := dp_of (d := .lst xs) (by simp only [flat0]; exact hc.1.1.2) hr
      simp only [pd] at q
      exact ⟨_, _, dp_of hc.1.1.1 rx, q, hc.1.2, hc.2, rfl⟩
    · cases h
  cases o
  · simp only [cop] at hz
    split at hz
    · rename_i b hb
      cases hz
      obtain ⟨d, e, h1, h2, h3, h4, h5⟩ := eqs hb
      exact op_eqD C.units pins s σ H v u v' u' Q I rv ru ⟨d, e, h1, h2, h3, h4, by rw [h5]; exact fin⟩
    · unfold eqE at hz
      split at hz
      · rename_i xs _
        cases hz
        simp only [Rep] at rx ry
        obtain ⟨a, ys, e1, h1, r1⟩ := rx
        obtain ⟨b, zs, e2, h2, r2⟩ := ry
        simp only [Reps] at r2
        subst e1; subst e2; subst r2
        refine op_eqT0 C.units pins s σ H (.ref a) (.ref b) _ _ Q I rv ru ⟨a, b, ys, rfl, rfl, h1, h2, ?_⟩
        have e : ys.isEmpty = xs.isEmpty := by
          have := r1.length
          cases xs <;> cases ys <;> simp_all
        rw [e]
        exact fin
      · cases hz
  · simp only [cop, Option.map_eq_some_iff] at hz
    obtain ⟨b, hb, rfl⟩ := hz
    obtain ⟨d, e, h1, h2, h3, h4, h5⟩ := eqs hb
    exact op_neD C.units pins s σ H v u v' u' Q I rv ru ⟨d, e, h1, h2, h3, h4, by rw [h5]; exact fin⟩
  case is =>
    cases y <;> simp only [cop] at hz <;> try (cases hz)
    split at hz
    · rename_i hf
      cases hz
      simp only [Rep] at ry
      subst ry
      exact op_isN pins s σ H v _ v' u' Q I rv ru ⟨rfl, by rw [flat0_non hf rx]; exact fin⟩
    · cases hz
  case isn =>
    cases y <;> simp only [cop] at hz <;> try (cases hz)
    split at hz
    · rename_i hf
      cases hz
      simp only [Rep] at ry
      subst ry
      exact op_notN pins s σ H v _ v' u' Q I rv ru ⟨rfl, by rw [flat0_non hf rx]; exact fin⟩
    · cases hz
  case inn =>
    cases y <;> simp only [cop] at hz <;> (try (cases hz; done)) <;> simp only [Rep] at ry
    · obtain ⟨p, ys, rfl, h1, h2⟩ := ry
      obtain ⟨g1, g2, g3, g4⟩ := ins hz (.inr h1) h2
      exact op_in_seq pins s σ H v _ v' u' Q I rv ru ⟨p, ys, rfl, g1, g2, g3, by rw [if_neg (by decide), g4]; exact fin⟩
    · rename_i xs
      have ry' : Rep X.K m (Lv m st) H (.lst xs) u := by simp only [Rep]; exact ry
      obtain ⟨p, ys, rfl, h1, _, h2⟩ := ry
      rcases orO hz with hz | hz
      · obtain ⟨g1, g2, g3, g4⟩ := ins hz (.inl (.inl (.inl h1))) h2
        exact op_in_seq pins s σ H v _ v' u' Q I rv ru ⟨p, ys, rfl, g1, g2, g3, by rw [if_neg (by decide), g4]; exact fin⟩
      · obtain ⟨d, ds, q1, q2, q3, q4, q5⟩ := insD hz ry'
        exact op_inD (by have := C.un; omega) pins s σ H v _ v' u' Q I rv ru ⟨d, ds, q1, q2, q3, q4, by rw [q5]; exact fin⟩
  case nin =>
    cases y <;> simp only [cop] at hz <;> (try (cases hz; done)) <;> simp only [Rep] at ry <;> simp only [Option.map_eq_some_iff] at hz <;> obtain ⟨b, hb, rfl⟩ := hz
    · obtain ⟨p, ys, rfl, h1, h2⟩ := ry
      obtain ⟨g1, g2, g3, g4⟩ := ins hb (.inr h1) h2
      exact op_notIn_seq pins s σ H v _ v' u' Q I rv ru ⟨p, ys, rfl, g1, g2, g3, by rw [if_pos rfl, g4]; exact fin⟩
    · rename_i xs
      have ry' : Rep X.K m (Lv m st) H (.lst xs) u := by simp only [Rep]; exact ry
      obtain ⟨p, ys, rfl, h1, _, h2⟩ := ry
      rcases orO hb with hb | hb
      · obtain ⟨g1, g2, g3, g4⟩ := ins hb (.inl (.inl (.inl h1))) h2
        exact op_notIn_seq pins s σ H v _ v' u' Q I rv ru ⟨p, ys, rfl, g1, g2, g3, by rw [if_pos rfl, g4]; exact fin⟩
      · obtain ⟨d, ds, q1, q2, q3, q4, q5⟩ := insD hb ry'
        exact op_notInD (by have := C.un; omega) pins s σ H v _ v' u' Q I rv ru ⟨d, ds, q1, q2, q3, q4, by rw [q5]; exact fin⟩
  all_goals (cases x <;> cases y <;> simp only [cop] at hz <;> cases hz)
  all_goals (simp only [Rep] at rx ry; subst rx; subst ry)
  · exact op_lt pins s σ H _ _ v' u' Q I rv ru ⟨_, _, rfl, rfl, fin⟩
  · exact op_le pins s σ H _ _ v' u' Q I rv ru ⟨_, _, rfl, rfl, fin⟩
  · exact op_gt pins s σ H _ _ v' u' Q I rv ru ⟨_, _, rfl, rfl, fin⟩
  · exact op_ge pins s σ H _ _ v' u' Q I rv ru ⟨_, _, rfl, rfl, fin⟩
theorem s_cmp (C : Cxt W k N sc X) {o : COp} {op : CmpOp} {a b : Expr} {p env st} {ra : Option (D × Store)} {rb : Store → Option (D × Store)} (h : copB o op = true) (hm : behindInMarks op b = false) (ha : EOk X W.cs a env st ra) (hb : ∀ st1, EOk X W.cs b env st1 (rb st1)) :
    EOk X W.cs (.Compare a [op] [b] p) env st (match (generalizing := false) ra with
    | some (x, st1) => (match rb st1 with
      | some (y, st2) => (match cop o x y with
        | some z => some (.bl z, st2)
        | none => none)
      | none => none)
    | none => none) := by
  have e : op = copO o := by cases o <;> cases op <;> first | rfl | cases h
  subst e
  have z := s_two (W := W) (env := env) (st := st) (f := fun x y _ => (cop o x y).map .bl) (r := rCop X W.cs o) (e := .Compare a [copO o] [b] p) (fun h1 h2 => pe_cmpR (op_cop C o) h1 h2 hm) ha hb (fun x y st z m H v u Q hz hs rx ry hq => by
    simp only [Option.map_eq_some_iff] at hz
    obtain ⟨b', hb', rfl⟩ := hz
    exact ⟨x, y, b', m, st, hb', hs, rx, ry, hq⟩)
  intro d st' e
  refine z d st' ?_
  rw [← e]
  cases ra with
  | none => rfl
  | some p1 =>
    obtain ⟨x, st1⟩ := p1
    simp only
    cases rb st1 with
    | none => rfl
    | some p2 =>
      obtain ⟨y, st2⟩ := p2
      simp only
      cases cop o x y <;> rfl
/-! ### tests -/
theorem t_cmp (C : Cxt W k N sc X) {o : COp} {op : CmpOp} {a b : Expr} {p env st} {ra : Option (D × Store)} {rb : Store → Option (D × Store)} (h : copB o op = true) (hm : behindInMarks op b = false) (ha : EOk X W.cs a env st ra) (hb : ∀ st1, EOk X W.cs b env st1 (rb st1)) :
    TOk X W.cs (.Compare a [op] [b] p) env st (match (generalizing := false) ra with
    | some (x, st1) => (match rb st1 with
      | some (y, st2) => (match cop o x y with
        | some z => some (z, st2)
        | none => none)
      | none => none)
    | none => none) := by
  have e : op = copO o := by cases o <;> cases op <;> first | rfl | cases h
  subst e
  intro d st' e0 m σ H Q hs hr hq
  cases ra with
  | none => cases e0
  | some p1 =>
    obtain ⟨x, st1⟩ := p1
    cases h2 : rb st1 with
    | none => simp only [h2] at e0; cases e0
    | some p2 =>
      obtain ⟨y, st2⟩ := p2
      cases h3 : cop o x y with
      | none => simp only [h2, h3] at e0; cases e0
      | some z =>
        simp only [h2, h3] at e0
        cases e0
        refine useT (pt_cmpR (op_cop (W := W) C o) peE peE hm) ?_
        refine ha x st1 rfl m σ H _ hs hr fun m1 v1 H1 x1 s1 p1 => ?_
        refine hb st1 y _ h2 m1 σ H1 _ s1 (hr.ext hs.cells x1) fun m2 v2 H2 x2 s2 p2 => ?_
        refine ⟨x, y, _, m2, _, h3, s2, p1.ext s1.cells x2, p2, fun m3 v3 H3 x3 s3 p3 => ?_⟩
        simp only [Rep] at p3
        exact ⟨_, p3, hq m3 H3 ((x1.trans x2).trans x3) s3⟩
theorem truV_of {K : PySem.W.Frag} {m : List Addr} {L : Addr → Prop} {H : Hp} {x : D} {v : V} {b : Bool} (h : truth x = some b) (r : Rep K m L H x v) : TruV K v H b := by
  cases x <;> simp only [truth] at h <;> first | (cases h; done) | skip
  all_goals (cases h; simp only [Rep] at r)
  · subst r; rfl
  · subst r; rfl
  · subst r; rfl
  · rename_i xs
    obtain ⟨a, ys, rfl, h1, h2⟩ := r
    refine .inr (.inl ⟨ys, h1, ?_⟩)
    have := h2.length
    cases xs <;> cases ys <;> simp_all
  · rename_i xs
    obtain ⟨a, ys, rfl, h1, _, h2⟩ := r
    refine .inl ⟨ys, .inl (.inl h1), ?_⟩
    have := h2.length
    cases xs <;> cases ys <;> simp_all
theorem t_val {e : Expr} {env st} {r : Option (D × Store)} (hf : ∀ whole, isTrue e X.env whole = (do let v ← whole; standAt e.pos; holding [v] (truthy v))) (ha : EOk X W.cs e env st r) :
    TOk X W.cs e env st (match (generalizing := false) r with
    | some (x, st1) => (match truth x with
      | some b => some (b, st1)
      | none => none)
    | none => none) := by
  intro b st' e0 m σ H Q hs hr hq
  cases r with
  | none => cases e0
  | some p1 =>
    obtain ⟨x, st1⟩ := p1
    cases h2 : truth x with
    | none => simp only [h2] at e0; cases e0
    | some b' =>
      simp only [h2] at e0
      cases e0
      refine useT (pt_truth peE hf) (ha x _ rfl m σ H _ hs hr fun m1 v1 H1 x1 s1 p1 => ?_)
      exact ⟨_, truV_of h2 p1, hq m1 H1 x1 s1⟩
theorem w_and1 {a : Expr} {p env st} {r : Option (Bool × Store)} (ha : TOk X W.cs a env st r) : WOk X W.cs (.BoolOp .And [a] p) env st r := by
  intro b st' e m σ H Q hs hr hq
  exact useW (pw_and1 ptT) (ha b st' e m σ H _ hs hr hq)
theorem w_or1 {a : Expr} {p env st} {r : Option (Bool × Store)} (ha : TOk X W.cs a env st r) : WOk X W.cs (.BoolOp .Or [a] p) env st r := by
  intro b st' e m σ H Q hs hr hq
  exact useW (pw_or1 ptT) (ha b st' e m σ H _ hs hr hq)
theorem w_and {a b : Expr} {rest : List Expr} {p env st} {r1 : Option (Bool × Store)} {r2 : Store → Option (Bool × Store)} (ha : TOk X W.cs a env st r1) (hb : ∀ st1, WOk X W.cs (.BoolOp .And (b :: rest) p) env st1 (r2 st1)) :
    WOk X W.cs (.BoolOp .And (a :: b :: rest) p) env st (match (generalizing := false) r1 with
    | some (true, st1) => r2 st1
    | some (false, st1) => some (false, st1)
    | none => none) := by
  intro c st' e m σ H Q hs hr hq
  cases r1 with
  | none => cases e
  | some p1 =>
    obtain ⟨x, st1⟩ := p1
    cases x with
    | true =>
      refine useW (pw_and ptT pwW) (ha true _ rfl m σ H _ hs hr fun m1 H1 x1 s1 => ?_)
      rw [if_pos rfl]
      exact hb st1 c st' e m1 σ H1 _ s1 (hr.ext hs.cells x1) fun m2 H2 x2 s2 => hq m2 H2 (x1.trans x2) s2
    | false =>
      cases e
      refine useW (pw_and ptT pwW) (ha false _ rfl m σ H _ hs hr fun m1 H1 x1 s1 => ?_)
      rw [if_neg (by decide)]
      exact hq m1 H1 x1 s1
theorem w_or {a b : Expr} {rest : List Expr} {p env st} {r1 : Option (Bool × Store)} {r2 : Store → Option (Bool × Store)} (ha : TOk X W.cs a env st r1) (hb : ∀ st1, WOk X W.cs (.BoolOp .Or (b :: rest) p) env st1 (r2 st1)) :
    WOk X W.cs (.BoolOp .Or (a :: b :: rest) p) env st (match (generalizing := false) r1 with
    | some (true, st1) => some (true, st1)
    | some (false, st1) => r2 st1
    | none => none) := by
  intro c st' e m σ H Q hs hr hq
  cases r1 with
  | none => cases e
  | some p1 =>
    obtain ⟨x, st1⟩ := p1
    cases x with
    | false =>
      refine useW (pw_or ptT pwW) (ha false _ rfl m σ H _ hs hr fun m1 H1 x1 s1 => ?_)
      rw [if_neg (by decide)]
      exact hb st1 c st' e m1 σ H1 _ s1 (hr.ext hs.cells x1) fun m2 H2 x2 s2 => hq m2 H2 (x1.trans x2) s2
    | true =>
      cases e
      refine useW (pw_or ptT pwW) (ha true _ rfl m σ H _ hs hr fun m1 H1 x1 s1 => ?_)
      rw [if_pos rfl]
      exact hq m1 H1 x1 s1
theorem t_of_w {e : Expr} {env st} {r : Option (Bool × Store)} (h : WOk X W.cs e env st r) : TOk X W.cs e env st r := by
  intro b st' e0 m σ H Q hs hr hq
  exact useT (PW.pt pwW) (h b st' e0 m σ H Q hs hr hq)
theorem t_not {a : Expr} {p env st} {r : Option (Bool × Store)} (ha : TOk X W.cs a env st r) : TOk X W.cs (.UnaryOp .Not a p) env st (match (generalizing := false) r with
    | some (b, st1) => some (!b, st1)
    | none => none) := by
  intro b st' e m σ H Q hs hr hq
  cases r with
  | none => cases e
  | some p1 =>
    obtain ⟨x, st1⟩ := p1
    cases e
    exact useT (pt_not ptT) (ha x _ rfl m σ H _ hs hr fun m1 H1 x1 s1 => hq m1 H1 x1 s1)
/-! ### and, or, not, if as values -/
theorem s_andv {a b : Expr} {rest : List Expr} {p env st} {r1 : Option (D × Store)} {r2 : Store → Option (D × Store)} (ha : EOk X W.cs a env st r1) (hb : ∀ st1, EOk X W.cs (.BoolOp .And (b :: rest) p) env st1 (r2 st1)) :
    EOk X W.cs (.BoolOp .And (a :: b :: rest) p) env st (match (generalizing := false) r1 with
    | some (.bl true, st1) => r2 st1
    | some (.bl false, st1) => some (.bl false, st1)
    | _ => none) := by
  intro d st' e m σ H Q hs hr hq
  cases r1 with
  | none => cases e
  | some p1 =>
    obtain ⟨x, st1⟩ := p1
    cases x with
    | bl c =>
      refine useE (pe_and peE peE) (ha _ _ rfl m σ H _ hs hr fun m1 v1 H1 x1 s1 p1 => ?_)
      simp only [Rep] at p1
      refine ⟨c, p1, ?_⟩
      cases c with
      | true =>
        rw [if_pos rfl]
        exact hb st1 d st' e m1 σ H1 _ s1 (hr.ext hs.cells x1) fun m2 v2 H2 x2 s2 p2 => hq m2 v2 H2 (x1.trans x2) s2 p2
      | false =>
        cases e
        rw [if_neg (by decide)]
        exact hq m1 _ H1 x1 s1 (by simp only [Rep])
    | _ => cases e
theorem s_orv {a b : Expr} {rest : List Expr} {p env st} {r1 : Option (D × Store)} {r2 : Store → Option (D × Store)} (ha : EOk X W.cs a env st r1) (hb : ∀ st1, EOk X W.cs (.BoolOp .Or (b :: rest) p) env st1 (r2 st1)) :
    EOk X W.cs (.BoolOp .Or (a :: b :: rest) p) env st (match (generalizing := false) r1 with
    | some (.bl true, st1) => some (.bl true, st1)
    | some (.bl false, st1) => r2 st1
    | _ => none) := by
  intro d st' e m σ H Q hs hr hq
  cases r1 with
  | none => cases e
  | some p1 =>
    obtain ⟨x, st1⟩ := p1
    cases x with
    | bl c =>
      refine useE (pe_or peE peE) (ha _ _ rfl m σ H _ hs hr fun m1 v1 H1 x1 s1 p1 => ?_)
      simp only [Rep] at p1
      refine ⟨c, p1, ?_⟩
      cases c with
      | false =>
        rw [if_neg (by decide)]
        exact hb st1 d st' e m1 σ H1 _ s1 (hr.ext hs.cells x1) fun m2 v2 H2 x2 s2 p2 => hq m2 v2 H2 (x1.trans x2) s2 p2
      | true =>
        cases e
        rw [if_pos rfl]
        exact hq m1 _ H1 x1 s1 (by simp only [Rep])
    | _ => cases e
theorem s_one {a : Expr} {op : BoolOp} {p env st} {r : Option (D × Store)} (ha : EOk X W.cs a env st r) : EOk X W.cs (.BoolOp op [a] p) env st r := by
  intro d st' e m σ H Q hs hr hq
  exact useE (pe_one peE) (ha d st' e m σ H _ hs hr hq)
theorem s_notv {a : Expr} {p env st} {r : Option (D × Store)} (ha : EOk X W.cs a env st r) : EOk X W.cs (.UnaryOp .Not a p) env st (match (generalizing := false) r with
    | some (.bl b, st1) => some (.bl (!b), st1)
    | _ => none) := by
  intro d st' e m σ H Q hs hr hq
  cases r with
  | none => cases e
  | some p1 =>
    obtain ⟨x, st1⟩ := p1
    cases x with
    | bl c =>
      cases e
      refine useE (pe_not peE) (ha _ _ rfl m σ H _ hs hr fun m1 v1 H1 x1 s1 p1 => ?_)
      simp only [Rep] at p1
      exact ⟨c, p1, hq m1 _ H1 x1 s1 (by simp only [Rep])⟩
    | _ => cases e
theorem s_ife {c a b : Expr} {p env st} {rt : Option (Bool × Store)} {ra rb : Store → Option (D × Store)} (ht : TOk X W.cs c env st rt) (ha : ∀ st1, EOk X W.cs a env st1 (ra st1)) (hb : ∀ st1, EOk X W.cs b env st1 (rb st1)) :
    EOk X W.cs (.IfExp c a b p) env st (match (generalizing := false) rt with
    | some (true, st1) => ra st1
    | some (false, st1) => rb st1
    | none => none) := by
  intro d st' e m σ H Q hs hr hq
  cases rt with
  | none => cases e
  | some p1 =>
    obtain ⟨x, st1⟩ := p1
    refine useE (pe_ifExp ptT peE peE) (ht x _ rfl m σ H _ hs hr fun m1 H1 x1 s1 => ?_)
    cases x with
    | true =>
      rw [if_pos rfl]
      exact ha st1 d st' e m1 σ H1 _ s1 (hr.ext hs.cells x1) fun m2 v2 H2 x2 s2 p2 => hq m2 v2 H2 (x1.trans x2) s2 p2
    | false =>
      rw [if_neg (by decide)]
      exact hb st1 d st' e m1 σ H1 _ s1 (hr.ext hs.cells x1) fun m2 v2 H2 x2 s2 p2 => hq m2 v2 H2 (x1.trans x2) s2 p2
end
end Mi

set_option Elab.async false
set_option linter.all false
set_option maxRecDepth 100000
set_option maxHeartbeats 4000000
/-! Mi6: calls, built-ins, items. -/
namespace Mi
open PySem PySem.Spec PyProof.Rows L2

section
variable {W : Wld} {k : Nat} {N : List Str} {sc : Scope} {X : Cx}

/-- the callee runs -/
theorem go_fn {a : Addr} {fd : FuncData} {ps : List Str} {sp : List V → Hp → VK → Prop} {pins : List (Addr × Obj)} {σ : L2.St} {H : Hp} {s : Shared} {Q : VK} {us : List Value} {vs : List V}
    (G : FnG X.prog X.w X.K X.mg X.base k a fd ps sp) (hr : Room k X.A) (hg : X.A.guards = some []) (hb : Binds X.K fd ps []) (I : Inv X pins σ H s) (r : Vals vs us) (h : sp vs H Q) :
    wpAny (model X.prog X.w) X.A (call (.ref a) us) (EP X pins σ Q) X.xe s := by
  have hl : (us ++ []).length = ps.length := by rw [List.append_nil, ← r.length]; exact G.len _ _ _ h
  have b := hb s us I.kIn hl
  rw [List.append_nil] at b
  refine wpAny_call (codeAny_mono (G.go X.A X.stack s H ⟨us, []⟩ us vs Q hr hg I.env0 b r h) fun r s' hq => ?_)
  obtain ⟨u, rfl, ce⟩ := hq
  exact I.after ce
theorem s_call [NotHot W] (C : Cxt W k N sc X) {f : Nat} {x : Str} {es : List Expr} {px p env st} {r : Option (List D × Store)} (hf : W.nm f = some x) (hg : glB sc x = true) (hp : plainX x = true) (hs : noStars es = true)
    (h0 : es = [] → r = some ([], st)) (ha : AOk X W.cs es env st r) : EOk X W.cs (.Call (.Name x px) es [] p) env st (match (generalizing := false) r with
    | some (xs, st1) => callF W.T W.F k f xs st1
    | none => none) := by
  intro d st' e m σ H Q hs0 hr hq
  cases r with
  | none => cases e
  | some p1 =>
    obtain ⟨xs, st1⟩ := p1
    obtain ⟨a, fd, ps, g1, g2, g3, g4, _⟩ := C.mdl.fns f x hf
    intro pins s I
    have base := ha xs st1 rfl m σ H (fun vs H1 => spOf W.T W.F X.K W.cs k f vs H1 Q) hs0 hr fun m1 vs H1 x1 s1 p1 =>
      ⟨m1, st1, xs, d, st', s1, p1, e, fun m2 v2 H2 x2 s2 p2 => hq m2 v2 H2 (x1.trans x2) s2 p2⟩
    refine wpAny_Call_Name_kw (ld_glob I (C.gl hg) g1 ?_ (plainX_ok hp).1)
    cases es with
    | nil =>
      have e1 := h0 rfl
      cases e1
      refine PySem.W.callWith_K0 I.kIn g2 ?_
      exact go_fn (us := []) g3 C.rm C.grd g4 I .nil ⟨m, st, [], d, st', hs0, Reps.nil, e, fun m2 v2 H2 x2 s2 p2 => hq m2 v2 H2 x2 s2 p2⟩
    | cons y ys =>
      simp only [noStars, Bool.and_eq_true, Bool.not_eq_true'] at hs
      refine PySem.W.callWith_K (h₀ := X.base) I.ok.mod.kin g2 (thn (base p pins s I) fun us s1 ⟨vs, H1, I1, r1, q1⟩ => ⟨I1.kIn, ?_⟩) (starEach_cons hs.1) (noStars_any hs.2)
      exact go_fn g3 C.rm C.grd g4 I1 r1 q1

/-! ### calls by names -/
def KOk (X : Cx) (cs : List (Addr × Addr)) (ks : List Keyword) (env : Env) (st : Store) (r : Option (List D × Store)) : Prop :=
  ∀ ds st', r = some (ds, st') → ∀ m σ H (Q : List V → Hp → Prop), SC X.K cs m st H → EnvR X.K m st H env σ →
    (∀ m' vs H', Ext m st H m' st' H' → SC X.K cs m' st' H' → Reps X.K m' (Lv m' st') H' ds vs → Q vs H') → tK X ks σ H Q
theorem k_nil {env st} : KOk X W.cs [] env st (some ([], st)) := by
  intro ds st' e m σ H Q hs hr hq
  cases e
  exact useK pk_nil (hq m _ H Ext.refl hs Reps.nil)
theorem k_cons {nm : Option Str} {e : Expr} {kp : Pos} {ks : List Keyword} {env st} {r1 : Option (D × Store)} {r2 : Store → Option (List D × Store)} (he : EOk X W.cs e env st r1) (hes : ∀ st1, KOk X W.cs ks env st1 (r2 st1)) :
    KOk X W.cs (⟨nm, e, kp⟩ :: ks) env st (match (generalizing := false) r1 with
    | some (x, st1) => (match r2 st1 with
      | some (xs, st2) => some (x :: xs, st2)
      | none => none)
    | none => none) := by
  intro ds st' e0 m σ H Q hs hr hq
  cases r1 with
  | none => cases e0
  | some p1 =>
    obtain ⟨x, st1⟩ := p1
    cases h2 : r2 st1 with
    | none => simp only [h2] at e0; cases e0
    | some p2 =>
      obtain ⟨xs, st2⟩ := p2
      simp only [h2] at e0
      cases e0
      refine useK (pk_cons peE pkK) ?_
      refine he x st1 rfl m σ H _ hs hr fun m1 v1 H1 x1 s1 p1 => ?_
      refine hes st1 xs _ h2 m1 σ H1 _ s1 (hr.ext hs.cells x1) fun m2 vs H2 x2 s2 p2 => ?_
      exact hq m2 _ H2 (x1.trans x2) s2 (Reps.cons (p1.ext s1.cells x2) p2)
theorem reps_perm {K : PySem.W.Frag} {m : List Addr} {L : Addr → Prop} {H : Hp} {xs : List D} {vs : List V} (r : Reps K m L H xs vs) : ∀ {perm : List Nat} {zs : List D}, perm.mapM (fun i => xs[i]?) = some zs → ∃ ws, perm.mapM (fun i => vs[i]?) = some ws ∧ Reps K m L H zs ws
  | [], zs, h => by
    simp only [List.mapM_nil] at h
    cases h
    exact ⟨[], rfl, Reps.nil⟩
  | i :: perm, zs, h => by
    simp only [List.mapM_cons, Option.bind_eq_bind, Option.bind_eq_some_iff] at h
    obtain ⟨x, h1, ys, h2, h3⟩ := h
    cases h3
    obtain ⟨w, w1, w2⟩ := r.get h1
    obtain ⟨ws, z1, z2⟩ := reps_perm r h2
    exact ⟨w :: ws, by simp only [List.mapM_cons, Option.bind_eq_bind, w1, z1, Option.bind_some]; rfl, Reps.cons w2 z2⟩
theorem vals_perm {vs : List V} {us : List Value} (r : Vals vs us) : ∀ {perm : List Nat} {ws : List V}, perm.mapM (fun i => vs[i]?) = some ws → ∃ zs, perm.mapM (fun i => us[i]?) = some zs ∧ Vals ws zs
  | [], zs, h => by
    simp only [List.mapM_nil] at h
    cases h
    exact ⟨[], rfl, .nil⟩
  | i :: perm, zs, h => by
    simp only [List.mapM_cons, Option.bind_eq_bind, Option.bind_eq_some_iff] at h
    obtain ⟨x, h1, ys, h2, h3⟩ := h
    cases h3
    obtain ⟨w, w1, w2⟩ := r.get h1
    obtain ⟨ws, z1, z2⟩ := vals_perm r h2
    exact ⟨w :: ws, by simp only [List.mapM_cons, Option.bind_eq_bind, w1, z1, Option.bind_some]; rfl, .cons w2 z2⟩
theorem kws_names {env : PySem.Env} {pos : Pos} : ∀ {ks : List Keyword} {names : List Str}, ks.map (·.arg) = names.map some → (backToKw pos (keywordEach ks env)).all (·.1.isSome) = true ∧ (backToKw pos (keywordEach ks env)).filterMap (·.1) = names ∧ (backToKw pos (keywordEach ks env)).any (·.1.isNone) = false
  | [], [], _ => ⟨rfl, rfl, rfl⟩
  | [], _ :: _, h => by simp at h
  | _ :: _, [], h => by simp at h
  | ⟨nm, e, kp⟩ :: ks, n :: names, h => by
    simp only [List.map_cons, List.cons.injEq] at h
    obtain ⟨h1, h2⟩ := h
    subst h1
    obtain ⟨z1, z2, z3⟩ := kws_names (env := env) (pos := pos) h2
    refine ⟨?_, ?_, ?_⟩
    · show (true && (backToKw pos (keywordEach ks env)).all (·.1.isSome)) = true
      rw [z1]; rfl
    · show n :: (backToKw pos (keywordEach ks env)).filterMap (·.1) = _
      rw [z2]
    · show (false || (backToKw pos (keywordEach ks env)).any (·.1.isNone)) = false
      rw [z3]; rfl
theorem s_callk [NotHot W] (C : Cxt W k N sc X) {f : Nat} {x : Str} {ks : List Keyword} {names : List Str} {perm : List Nat} {px p env st} {r : Option (List D × Store)} (hf : W.nm f = some x) (hg : glB sc x = true) (hp : plainX x = true) (hk : W.kw f names = some perm) (hn : ks.map (·.arg) = names.map some) (hl : ∀ ds st', r = some (ds, st') → ds.length = names.length)
    (ha : KOk X W.cs ks env st r) : EOk X W.cs (.Call (.Name x px) [] ks p) env st (match (generalizing := false) r with
    | some (xs, st1) => (match perm.mapM (fun i => xs[i]?) with
      | some zs => callF W.T W.F k f zs st1
      | none => none)
    | none => none) := by
  intro d st' e m σ H Q hs0 hr hq
  cases r with
  | none => cases e
  | some p1 =>
    obtain ⟨xs, st1⟩ := p1
    simp only at e
    split at e
    · rename_i zs hz
      obtain ⟨a, fd, ps, g1, g2, g3, g4, g5⟩ := C.mdl.fns f x hf
      obtain ⟨k1, k2, k3⟩ := kws_names (env := X.env) (pos := p) hn
      intro pins s I
      have base := ha xs st1 rfl m σ H (fun vs H1 => vs.length = names.length ∧ ∃ ws, perm.mapM (fun i => vs[i]?) = some ws ∧ spOf W.T W.F X.K W.cs k f ws H1 Q) hs0 hr fun m1 vs H1 x1 s1 p1 => by
        obtain ⟨ws, w1, w2⟩ := reps_perm p1 hz
        exact ⟨by rw [← p1.length]; exact hl _ _ rfl, ws, w1, m1, st1, zs, d, st', s1, w2, e, fun m2 v2 H2 x2 s2 p2 => hq m2 v2 H2 (x1.trans x2) s2 p2⟩
      refine wpAny_Call_Name_kw (ld_glob I (C.gl hg) g1 ?_ (plainX_ok hp).1)
      refine PySem.W.callWith_KW0 (h₀ := X.base) I.ok.mod.kin g2 k1 (thn (base p pins s I) fun us s1 ⟨vs, H1, I1, r1, q0, ws, q1, q2⟩ => ⟨I1.kIn, ?_⟩) (by rw [k3]; rfl)
      rw [k2]
      obtain ⟨zus, z1, z2⟩ := vals_perm r1 q1
      have b := g5 names perm hk s1 us zus I1.kIn z1 (by rw [← r1.length]; exact q0) (by rw [← z2.length]; exact g3.len _ _ _ q2)
      refine wpAny_call (codeAny_mono (g3.go X.A X.stack s1 H1 ⟨[], names.zip us⟩ zus ws Q C.rm C.grd I1.env0 b z2 q2) fun r s' hq' => ?_)
      obtain ⟨u, rfl, ce⟩ := hq'
      exact I1.after ce
    · cases e
/-! ### built-ins by values -/
/-- what can be walked, measured, indexed -/
theorem items_of {K cs m st H} {x : D} {v : V} {l : List D} (hs : SC K cs m st H) (h : itemsD x st = some l) (r : Rep K m (Lv m st) H x v) :
    ∃ p ys, v = .ref p ∧ (SqL K H p ys ∨ SqT K H p ys) ∧ Reps K m (Lv m st) H l ys := by
  cases x <;> simp only [itemsD] at h <;> first | (cases h; done) | skip
  · cases h
    simp only [Rep] at r
    obtain ⟨a, ys, e, h1, h2⟩ := r
    exact ⟨a, ys, e, .inr h1, h2⟩
  · cases h
    simp only [Rep] at r
    obtain ⟨a, ys, e, h1, _, h2⟩ := r
    exact ⟨a, ys, e, .inl (.inl (.inl h1)), h2⟩
  · cases h
    simp only [Rep] at r
    obtain ⟨a, ys, e, h1, h2⟩ := r
    exact ⟨a, ys, e, .inl h1.sqL, h2⟩
  · simp only [Rep] at r
    obtain ⟨a, e, h1⟩ := r
    split at h
    · rename_i xs hst
      cases h
      obtain ⟨a', ys, q1, q2, q3⟩ := hs.cell _ _ hst
      rw [h1] at q1; cases q1
      exact ⟨a, ys, e, .inl (.inl (.inl q2)), q3⟩
    · cases h
def rBi (X : Cx) (cs : List (Addr × Addr)) (b : BI) : List V → Hp → VK → Prop := fun vs H Q => ∃ xs z m st, biF b xs st = some z ∧ SC X.K cs m st H ∧ Reps X.K m (Lv m st) H xs vs ∧ Aft X cs m st H z st Q
theorem ints_of {K m L H} : ∀ {xs : List D} {ys : List V} {ns : List Int}, intsD xs = some ns → Reps K m L H xs ys → ys = ns.map V.int
  | [], ys, ns, h, r => by simp only [intsD] at h; cases h; simp only [Reps] at r; subst r; rfl
  | x :: xs, ys, ns, h, r => by
    cases x <;> simp only [intsD] at h <;> try (cases h)
    simp only [Option.map_eq_some_iff] at h
    obtain ⟨l, hl, rfl⟩ := h
    simp only [Reps, Rep] at r
    obtain ⟨y, rr, rfl, rfl, h2⟩ := r
    rw [ints_of hl h2]; rfl
theorem showOk_split {d : D} (h : showOk d = true) : flat1 d = true ∧ PyData.showable (pd d) = true ∧ (PyData.shown (pd d)).length ≤ sizeLine ∧ (pd d).depth ≤ 64 := by
  simp only [showOk, Bool.and_eq_true, decide_eq_true_eq] at h
  exact ⟨h.1.1.1, h.1.1.2, h.1.2, h.2⟩
theorem pds_len : ∀ ds : List D, (pds ds).length = ds.length
  | [] => rfl
  | d :: ds => by simp only [pds, List.length_cons, pds_len ds]
theorem keys_read {h : Heap} {P : Program} {w : World} : ∀ {es : List DictEntry} {kvs : List (Key × Value)}, Pairs (mixKind P w) es kvs →
    ReadsAll h (es.map (·.key)) ((kvs.map (·.1)).map fun k => match k with | .inl i => PyData.int i | .inr s => PyData.str s) [] ∧ es.map (·.val) = kvs.map (·.2)
  | _, _, .nil => ⟨.nil, rfl⟩
  | _, _, .cons (e := e) (kv := kv) (es := es) (kvs := kvs) h1 h2 h3 => by
    obtain ⟨a, b⟩ := keys_read (h := h) h3
    refine ⟨?_, by simp only [List.map_cons, h2, b]⟩
    rcases keyIs_shape (show keyIs kv.1 e.key = true from h1) with ⟨i, t, k1, k2⟩ | ⟨x, t, k1, k2⟩
    · have q := ReadsAll.cons (Reads.int (h := h) i t) a
      simp only [List.map_cons, k1, k2]
      exact q
    · have q := ReadsAll.cons (Reads.str (h := h) x t) a
      simp only [List.map_cons, k1, k2]
      exact q
theorem kv_zip : ∀ {ks : List Key} {ys : List V} {vs : List (Key × Value)}, ks.length = ys.length → KV (ks.zip ys) vs → vs.map (·.1) = ks ∧ Vals ys (vs.map (·.2))
  | [], [], _, _, .nil => ⟨rfl, .nil⟩
  | k :: ks, y :: ys, _, h, .cons (b := q) h1 h2 => by
    obtain ⟨a, b⟩ := kv_zip (by simpa using h) h2
    exact ⟨by simp only [List.map_cons, a]; rw [← h1.1], .cons h1.2 b⟩
mutual
theorem reads_of {X : Cx} {pins : List (Addr × Obj)} {σ : L2.St} {H : Hp} {s : Shared} {m : List Addr} {L : Addr → Prop} (I : Inv X pins σ H s) (sm : SmdK X.K) : ∀ {d : D} {v : V} {u : Value}, flat1 d = true → Rep X.K m L H d v → RelV v u → ∃ as, Reads s.heap u (pd d) as ∧ sysModules ∉ as
  | .non, v, u, _, h, r => by simp only [Rep] at h; subst h; cases r; exact ⟨_, Reads.none, by simp⟩
  | .bl b, v, u, _, h, r => by simp only [Rep] at h; subst h; cases r; exact ⟨_, Reads.bool b, by simp⟩
  | .int i, v, u, _, h, r => by simp only [Rep] at h; subst h; obtain ⟨t, rfl⟩ := r; exact ⟨_, Reads.int i t, by simp⟩
  | .str x, v, u, _, h, r => by simp only [Rep] at h; subst h; obtain ⟨t, rfl⟩ := r; exact ⟨_, Reads.str x t, by simp⟩
  | .tup xs, v, u, f, h, r => by
    simp only [Rep] at h
    simp only [flat1] at f
    obtain ⟨a, ys, rfl, h1, h2⟩ := h
    cases r
    obtain ⟨its, rv, ⟨o, ho, hc, n, hd⟩, _⟩ := I.tuple h1
    obtain ⟨as, hr, hn⟩ := readss_of I sm f h2 rv
    simp only [pd]
    exact ⟨_, Reads.tuple ho hc hd hr, hn⟩
  | .lst xs, v, u, f, h, r => by
    simp only [Rep] at h
    simp only [flat1] at f
    obtain ⟨a, ys, rfl, h1, _, h2⟩ := h
    cases r
    obtain ⟨its, rv, ⟨o, n, ho, hc, _, hd⟩, _⟩ := I.list (.inl (.inl h1))
    obtain ⟨as, hr, hn⟩ := readss_of I sm f h2 rv
    simp only [pd]
    refine ⟨_, Reads.list ho hc hd hr, fun z => ?_⟩
    rcases List.mem_cons.mp z with z | z
    · subst z
      obtain ⟨o', q1, q2⟩ := sm
      have q := I.kIn _ _ q1
      rw [ho] at q
      cases q
      rw [hc] at q2
      injection q2 with q3
      exact absurd q3 (by decide)
    · exact hn z
  | .scr _, _, _, f, _, _ => by simp [flat1] at f
  | .cell _, _, _, f, _, _ => by simp [flat1] at f
  | .exc _ _ _, _, _, f, _, _ => by simp [flat1] at f
  | .dct ks vs, v, u, f, h, r => by
    simp only [Rep] at h
    simp only [flat1] at f
    obtain ⟨a, ys, rfl, h1, h2, h3⟩ := h
    cases r
    obtain ⟨_, hne, kvs, kv, o, es, ep, ho, hx, hd, _, hp, _⟩ := dk_rd I.hok h1
    obtain ⟨e1, e2⟩ := kv_zip h2 kv
    obtain ⟨k1, k2⟩ := keys_read (h := s.heap) hp
    obtain ⟨bs, hr, hn⟩ := readss_of I sm f h3 e2
    have hl : ks.length = (pds vs).length := by rw [pds_len, h3.length, h2]
    simp only [pd]
    refine ⟨_, Reads.dict (as := []) (bs := bs) ho hx.1 hd ?_ ?_, fun z => ?_⟩
    · rw [List.map_fst_zip (by rw [List.length_map]; omega), ← e1]
      exact k1
    · rw [List.map_snd_zip (by rw [List.length_map]; omega), k2]
      exact hr
    · simp only [List.append_nil, List.cons_append, List.nil_append, List.mem_cons] at z
      rcases z with z | z
      · subst z
        simp at hne
      · exact hn z
theorem readss_of {X : Cx} {pins : List (Addr × Obj)} {σ : L2.St} {H : Hp} {s : Shared} {m : List Addr} {L : Addr → Prop} (I : Inv X pins σ H s) (sm : SmdK X.K) : ∀ {ds : List D} {vs : List V} {us : List Value}, flat1s ds = true → Reps X.K m L H ds vs → Vals vs us → ∃ as, ReadsAll s.heap us (pds ds) as ∧ sysModules ∉ as
  | [], vs, us, _, h, r => by simp only [Reps] at h; subst h; cases r; exact ⟨_, .nil, by simp⟩
  | d :: ds, vs, us, f, h, r => by
    simp only [Reps] at h
    simp only [flat1s, Bool.and_eq_true] at f
    obtain ⟨y, ys, rfl, h1, h2⟩ := h
    cases r with
    | cons r1 r2 =>
      obtain ⟨as, a1, a2⟩ := reads_of I sm f.1 h1 r1
      obtain ⟨bs, b1, b2⟩ := readss_of I sm f.2 h2 r2
      simp only [pds]
      exact ⟨_, .cons a1 b1, by simp [a2, b2]⟩
end
theorem call_repr (C : Cxt W k N sc X) : CallR X (.builtin "repr") (rBi X W.cs .repr) := by
  intro pins s σ H vs us Q I rv h
  obtain ⟨xs, z, m, st, hz, hs, rx, hq⟩ := h
  cases xs with
  | nil => simp [biF] at hz
  | cons x r =>
    cases r with
    | cons _ _ => simp [biF] at hz
    | nil =>
      simp only [biF] at hz
      split at hz
      · rename_i hok
        cases hz
        obtain ⟨v, rfl, rv1⟩ := rx.one
        obtain ⟨u, rfl, ru⟩ := vals1 rv
        obtain ⟨f0, f1, f2, f3⟩ := showOk_split hok
        have fin : ∀ (h' : Heap) (tk : Tok) (n : Nat), (∀ b o, s.heap.get? b = some o → h'.get? b = some o) → EP X pins σ Q (.str (pd x).shown tk) { s with heap := h', toks := n } := fun h' tk n kp =>
          ⟨.str _, H, I.kept (t' := n) kp, ⟨_, rfl⟩, hq m _ H Ext.refl hs (by simp only [Rep])⟩
        obtain ⟨as, hr, hsm⟩ := reads_of I C.mdl.smd f0 rv1 ru
        have big : ∀ a, u = .ref a → wpAny (model X.prog X.w) X.A (call (.builtin "repr") [u]) (EP X pins σ Q) X.xe s := fun a e => by
          subst e
          refine repr_of_reads' hr f1 (fun _ => hsm) C.grd ?_ (fun _ _ e => e) (fun h' u tk kp => fin h' u tk kp) f2
          have := C.un
          omega
        cases x <;> simp only [flat1, Bool.false_eq_true] at f0 <;> simp only [Rep] at rv1
        · subst rv1; cases ru
          exact PySem.P.repr_of_none (fin s.heap _ _ fun _ _ e => e)
        · subst rv1; cases ru
          exact PySem.P.repr_of_bool (fin s.heap _ _ fun _ _ e => e)
        · subst rv1; obtain ⟨t, rfl⟩ := ru
          refine PySem.P.repr_of_int ?_ (fin s.heap _ _ fun _ _ e => e)
          simpa [pd, PyData.showable] using f1
        · subst rv1; obtain ⟨t, rfl⟩ := ru
          exact PySem.P.repr_of_str (fin s.heap _ _ fun _ _ e => e) (by simpa [pd, PyData.shown] using f2)
        · obtain ⟨a, ys, rfl, _⟩ := rv1; cases ru; exact big a rfl
        · obtain ⟨a, ys, rfl, _⟩ := rv1; cases ru; exact big a rfl
        · obtain ⟨a, ys, rfl, _⟩ := rv1; cases ru; exact big a rfl
      · cases hz
end
end Mi

set_option Elab.async false
set_option linter.all false
set_option maxRecDepth 100000
set_option maxHeartbeats 4000000
/-! Mi7: built-ins, isinstance, items, slices. -/
namespace Mi
open PySem PySem.Spec PyProof.Rows L2
theorem truth_ints {prog : Program} {w : World} {A : Around} {bs : List Int} {its : List Value} (r : Vals (bs.map V.int) its) :
    TruthOf prog w A (fun i v => its.toArray[i]? = some v) (fun i => decide (bs.getD i 0 ≠ 0)) := fun i v s Q E hv hq => by
  have hv' : its[i]? = some v := by simpa using hv
  have hl : i < its.length := (List.getElem?_eq_some_iff.mp hv').1
  have hl2 : i < bs.length := by
    have := r.length
    rw [List.length_map] at this
    omega
  have hb : bs[i]? = some bs[i] := List.getElem?_eq_getElem hl2
  obtain ⟨u, hu, ru⟩ := r.get (show (bs.map V.int)[i]? = some (V.int bs[i]) by rw [List.getElem?_map, hb]; rfl)
  rw [hv'] at hu
  cases hu
  obtain ⟨t, rfl⟩ := ru
  have hg : bs.getD i 0 = bs[i] := by rw [List.getD_eq_getElem?_getD, hb] <;> rfl
  have hq' : Q (decide (bs.getD i 0 ≠ 0)) s := hq
  rw [hg] at hq'
  refine truthy_int ?_
  have e : (bs[i] != 0) = decide (bs[i] ≠ 0) := by
    rw [Bool.eq_iff_iff]
    simp
  rw [e]
  exact hq'
theorem any_rangeI : ∀ bs : List Int, (List.range bs.length).any (fun i => decide (bs.getD i 0 ≠ 0)) = bs.any fun b => decide (b ≠ 0)
  | [] => rfl
  | b :: bs => by
    rw [List.length_cons, List.range_succ_eq_map, List.any_cons, List.any_map, List.any_cons, ← any_rangeI bs]
    all_goals rfl
section
variable {X : Cx}
theorem cr_anyT (hc : X.calm = true) : CallR X (.builtin "any") (fun vs H Q => ∃ (a : Addr) (bs : List Int), vs = [V.ref a] ∧ SqT X.K H a (bs.map V.int) ∧ Q (.bl (bs.any fun b => decide (b ≠ 0))) H) := by
  intro pins s σ H vs us Q I r h
  obtain ⟨a, bs, rfl, hs, q⟩ := h
  obtain ⟨its, rv, p, _⟩ := I.tuple hs
  rw [Vals.ref1 r]
  have ht : s.heap.IsTuple a its.toArray := p
  obtain ⟨o, ho, _⟩ := id p
  have hlt : a < s.heap.objs.size := Heap.lt_size ho
  refine call_any_walk (wpAny_pyIter_tuple ht ?_)
  refine ⟨_, _, _, _, _, _, _, rfl, Walks.tuple (A := X.A.in1) (I.ok.hd hc) _ a (Nat.ne_of_lt hlt) its.toArray, ⟨⟨_, Heap.get?_push_size _ rfl, rfl, rfl⟩, ht.push _⟩, truth_ints rv, fun h' tk hk => ?_⟩
  refine ⟨.bl _, H, I.kept fun b o eo => hk b o (fun hmem => ?_) (Heap.get?_push_of_some _ eo), ?_, q⟩
  · rcases List.mem_cons.mp hmem with e1 | hmem
    · exact absurd (e1 ▸ Heap.lt_size eo) (Nat.lt_irrefl _)
    · cases hmem
  · show Value.bool _ = Value.bool _
    have := rv.length
    rw [List.length_map] at this
    rw [← any_rangeI, List.size_toArray, ← this]
end

section
variable {W : Wld} {k : Nat} {N : List Str} {sc : Scope} {X : Cx}

theorem bools_of {K m L H} : ∀ {xs : List D} {ys : List V} {bs : List Bool}, boolsD xs = some bs → Reps K m L H xs ys → ys = bs.map V.bl
  | [], ys, ns, h, r => by simp only [boolsD] at h; cases h; simp only [Reps] at r; subst r; rfl
  | x :: xs, ys, ns, h, r => by
    cases x <;> simp only [boolsD] at h <;> try (cases h)
    simp only [Option.map_eq_some_iff] at h
    obtain ⟨l, hl, rfl⟩ := h
    simp only [Reps, Rep] at r
    obtain ⟨y, rr, rfl, rfl, h2⟩ := r
    rw [bools_of hl h2]; rfl
theorem one_arg {b : BI} {xs : List D} {st : Store} {z : D} (h : biF b xs st = some z) (hb : b ∈ ([.len, .abs, .int, .repr, .str, .tuple, .list, .sum, .all, .any] : List BI)) : ∃ x, xs = [x] := by
  cases xs with
  | nil => cases b <;> simp [biF] at h
  | cons x r =>
    cases r with
    | nil => exact ⟨x, rfl⟩
    | cons y r => cases b <;> first | (simp [biF] at h; done) | (simp at hb; done)
theorem two_arg {b : BI} {xs : List D} {st : Store} {z : D} (h : biF b xs st = some z) (hb : b ∈ ([.gcd, .lcm, .max, .min, .divmod] : List BI)) : ∃ i j, xs = [.int i, .int j] := by
  rcases xs with _ | ⟨x, _ | ⟨y, _ | ⟨w, r⟩⟩⟩
  · cases b <;> first | (simp [biF] at h; done) | (simp at hb; done)
  · cases b <;> cases x <;> first | (simp [biF] at h; done) | (simp at hb; done)
  · cases x <;> cases y <;> first | exact ⟨_, _, rfl⟩ | (cases b <;> first | (simp [biF] at h; done) | (simp at hb; done))
  · cases b <;> cases x <;> cases y <;> first | (simp [biF] at h; done) | (simp at hb; done)
theorem lcm_run (a : Int) (t : Tok) (b : Int) (u : Tok) {M : Model} {A : Around} {E : Value → Shared → Prop} {s : Shared} {prog : Program} {w : World} {Q : Value → Shared → Prop} (ha : a.natAbs.log2 < 13000) (hb : b.natAbs.log2 < 13000)
    (h : Q (.int ((Nat.lcm a.natAbs b.natAbs : Nat) : Int) s.toks) { s with toks := s.toks + 1 }) : wpAny (model prog w) A (call (.builtin "math.lcm") [.int a t, .int b u]) Q E s := by
  have la : a.natAbs < 2 ^ 13000 := by
    by_cases h0 : a.natAbs = 0
    · rw [h0]; exact Nat.two_pow_pos _
    · exact (Nat.log2_lt h0).mp ha
  have lb : b.natAbs < 2 ^ 13000 := by
    by_cases h0 : b.natAbs = 0
    · rw [h0]; exact Nat.two_pow_pos _
    · exact (Nat.log2_lt h0).mp hb
  have e1 : Nat.lcm 1 a.natAbs = a.natAbs := Nat.lcm_one_left _
  have log_le : ∀ n : Nat, n < 2 ^ 13000 → n.log2 < 13000 := fun n hn => by
    by_cases h0 : n = 0
    · rw [h0, Nat.log2_zero]; decide
    · exact (Nat.log2_lt h0).mpr hn
  have sz : ((((Nat.lcm 1 a.natAbs).lcm b.natAbs : Nat) : Int)).natAbs.log2 < bitsLine := by
    rw [e1, Int.natAbs_natCast]
    have le : Nat.lcm a.natAbs b.natAbs ≤ a.natAbs * b.natAbs := by
      unfold Nat.lcm
      exact Nat.div_le_self _ _
    have l2 : Nat.lcm a.natAbs b.natAbs < 2 ^ 26000 := by
      refine Nat.lt_of_le_of_lt le ?_
      have e : (2 : Nat) ^ 26000 = 2 ^ 13000 * 2 ^ 13000 := by rw [← Nat.pow_add]
      rw [e]
      exact Nat.mul_lt_mul'' la lb
    have e2 : bitsLine = 134217728 := by decide
    rw [e2]
    by_cases h0 : Nat.lcm a.natAbs b.natAbs = 0
    · rw [h0, Nat.log2_zero]; decide
    · have := (Nat.log2_lt h0).mpr l2; omega
  have q := PySem.W.mg_run_lcm a t b u (by
      have h1 : (max 1 a.natAbs) < 2 ^ 13000 := by
        have : 1 < 2 ^ 13000 := Nat.one_lt_two_pow (by decide)
        exact Nat.max_lt.mpr ⟨this, la⟩
      have := log_le _ h1
      omega) (by
      have := log_le _ (Nat.max_lt.mpr ⟨la, lb⟩)
      omega) sz
  rw [e1] at q
  exact call_function_meets PySem.W.MGF.kind_lcm PySem.W.MGF.plain_lcm PySem.W.MGF.entry_lcm (PySem.W.MGF.args_lcm _ _) q.meets h
/-- the callee's value -/
def biV : BI → Value
  | .gcd => .builtin "math.gcd" | .lcm => .builtin "math.lcm"
  | .int => .type "int" | .str => .type "str" | .tuple => .type "tuple" | .list => .type "list"
  | .len => .builtin "len" | .abs => .builtin "abs" | .max => .builtin "max" | .min => .builtin "min" | .repr => .builtin "repr"
  | .divmod => .builtin "divmod" | .sum => .builtin "sum" | .all => .builtin "all" | .any => .builtin "any"
theorem nh {b : BI} (hb : W.hot = true → b = .repr ∨ b = .len) (h : ¬ (b = .repr ∨ b = .len)) : W.hot = false := by
  cases e : W.hot with
  | false => rfl
  | true => exact absurd (hb e) h
theorem call_bi (C : Cxt W k N sc X) (b : BI) (hb : W.hot = true → b = .repr ∨ b = .len) : CallR X (biV b) (rBi X W.cs b) := by
  intro pins s σ H vs us Q I rv h
  have h0 := h
  obtain ⟨xs, z, m, st, hz, hs, rx, hq⟩ := h
  have self : ∀ v, Rep X.K m (Lv m st) H z v → Q v H := fun v r => hq m v H Ext.refl hs r
  cases b
  case len =>
    obtain ⟨x, rfl⟩ := one_arg hz (by simp)
    obtain ⟨v, rfl, rv1⟩ := rx.one
    have hz' : ∃ l, itemsD x st = some l ∧ z = .int l.length := by
      cases x <;> simp only [biF, Option.map_eq_some_iff] at hz <;> first | (obtain ⟨l, h1, h2⟩ := hz; exact ⟨l, h1, h2.symm⟩) | (cases hz)
    obtain ⟨l, hl, rfl⟩ := hz'
    obtain ⟨p, ys, rfl, h1, h2⟩ := items_of hs hl rv1
    refine call_len pins s σ H _ us Q I rv ⟨.ref p, ys.length, rfl, ?_, self _ (by simp only [Rep, h2.length])⟩
    rcases h1 with h1 | h1
    · exact .inl ⟨ys, h1, rfl⟩
    · exact .inr ⟨ys, h1, rfl⟩
  case abs =>
    obtain ⟨x, rfl⟩ := one_arg hz (by simp)
    cases x <;> simp only [biF] at hz <;> cases hz
    simp only [Reps, Rep] at rx
    obtain ⟨_, _, rfl, rfl, rfl⟩ := rx
    exact call_abs pins s σ H _ us Q I rv ⟨_, rfl, self _ (by simp only [Rep])⟩
  case int =>
    obtain ⟨x, rfl⟩ := one_arg hz (by simp)
    cases x <;> simp only [biF] at hz <;> cases hz
    · simp only [Reps, Rep] at rx
      obtain ⟨_, _, rfl, rfl, rfl⟩ := rx
      exact call_int1 pins s σ H _ us Q I rv (.inr ⟨_, rfl, self _ (by simp only [Rep])⟩)
    · simp only [Reps, Rep] at rx
      obtain ⟨_, _, rfl, rfl, rfl⟩ := rx
      exact call_int1 pins s σ H _ us Q I rv (.inl ⟨_, rfl, self _ (by simp only [Rep])⟩)
  case gcd =>
    obtain ⟨i, j, rfl⟩ := two_arg hz (by simp)
    simp only [biF] at hz
    cases hz
    simp only [Reps, Rep] at rx
    obtain ⟨_, _, rfl, rfl, _, _, rfl, rfl, rfl⟩ := rx
    exact cr_gcd pins s σ H _ us Q I rv ⟨i, j, rfl, self _ (by simp only [Rep])⟩
  case lcm =>
    obtain ⟨i, j, rfl⟩ := two_arg hz (by simp)
    simp only [biF] at hz
    split at hz
    · rename_i hc
      cases hz
      simp only [Reps, Rep] at rx
      obtain ⟨_, _, rfl, rfl, _, _, rfl, rfl, rfl⟩ := rx
      obtain ⟨t, u, rfl⟩ := Vals.int2 rv
      exact lcm_run (M := model X.prog X.w) i t j u hc.1 hc.2 ⟨.int _, H, I.tok _, ⟨_, rfl⟩, self _ (by simp only [Rep])⟩
    · cases hz
  case max =>
    obtain ⟨i, j, rfl⟩ := two_arg hz (by simp)
    simp only [biF] at hz
    cases hz
    simp only [Reps, Rep] at rx
    obtain ⟨_, _, rfl, rfl, _, _, rfl, rfl, rfl⟩ := rx
    exact call_max2 (C.calm (nh hb (by decide))) pins s σ H _ us Q I rv ⟨i, j, rfl, self _ (by simp only [Rep])⟩
  case min =>
    obtain ⟨i, j, rfl⟩ := two_arg hz (by simp)
    simp only [biF] at hz
    cases hz
    simp only [Reps, Rep] at rx
    obtain ⟨_, _, rfl, rfl, _, _, rfl, rfl, rfl⟩ := rx
    exact call_min2 (C.calm (nh hb (by decide))) pins s σ H _ us Q I rv ⟨i, j, rfl, self _ (by simp only [Rep])⟩
  case repr => exact call_repr C pins s σ H _ us Q I rv h0
  case str =>
    obtain ⟨x, rfl⟩ := one_arg hz (by simp)
    cases x <;> simp only [biF] at hz <;> (try (cases hz; done))
    split at hz
    · rename_i hc
      cases hz
      simp only [Reps, Rep] at rx
      obtain ⟨_, _, rfl, rfl, rfl⟩ := rx
      exact call_str_int pins s σ H _ us Q I rv ⟨_, rfl, hc, self _ (by simp only [Rep])⟩
    · cases hz
  case divmod =>
    obtain ⟨i, j, rfl⟩ := two_arg hz (by simp)
    simp only [biF] at hz
    split at hz
    · rename_i hc
      cases hz
      simp only [Reps, Rep] at rx
      obtain ⟨_, _, rfl, rfl, _, _, rfl, rfl, rfl⟩ := rx
      refine call_divmod pins s σ H _ us Q I rv ⟨i, j, rfl, hc, fun p hp => hq m _ _ (ext_new hp) (hs.new hp) (rep_tup hs hp ?_)⟩
      exact Reps.cons (by simp only [Rep]) (Reps.cons (by simp only [Rep]) Reps.nil)
    · cases hz
  case tuple =>
    obtain ⟨x, rfl⟩ := one_arg hz (by simp)
    obtain ⟨v, rfl, rv1⟩ := rx.one
    simp only [biF, Option.map_eq_some_iff] at hz
    obtain ⟨l, hl, rfl⟩ := hz
    obtain ⟨p, ys, rfl, h1, h2⟩ := items_of hs hl rv1
    refine call_tuple_of pins s σ H _ us Q I rv ⟨p, ys, rfl, ?_⟩
    rcases h1 with h1 | h1
    · exact .inl ⟨h1, fun l hl => hq m _ _ (ext_new hl) (hs.new hl) (rep_tup hs hl h2)⟩
    · exact .inr ⟨h1, self _ (by simp only [Rep]; exact ⟨p, ys, rfl, h1, h2⟩)⟩
  case list =>
    obtain ⟨x, rfl⟩ := one_arg hz (by simp)
    obtain ⟨v, rfl, rv1⟩ := rx.one
    simp only [biF, Option.map_eq_some_iff] at hz
    obtain ⟨l, hl, rfl⟩ := hz
    obtain ⟨p, ys, rfl, h1, h2⟩ := items_of hs hl rv1
    exact call_list_of pins s σ H _ us Q I rv ⟨p, ys, rfl, h1, fun l hl => hq m _ _ (ext_new hl) (hs.new hl) (rep_lst hs hl h2)⟩
  case sum =>
    obtain ⟨x, rfl⟩ := one_arg hz (by simp)
    cases x <;> simp only [biF, Option.map_eq_some_iff] at hz <;> (try (cases hz; done))
    obtain ⟨l, hl, rfl⟩ := hz
    simp only [Reps, Rep] at rx
    obtain ⟨_, _, rfl, ⟨a, ys, rfl, h1, _, h2⟩, rfl⟩ := rx
    have e := ints_of hl h2
    subst e
    exact cr_sum (C.calm (nh hb (by decide))) pins s σ H _ us Q I rv ⟨a, l, rfl, .inl (.inl h1), self _ (by simp only [Rep])⟩
  case all =>
    obtain ⟨x, rfl⟩ := one_arg hz (by simp)
    cases x <;> simp only [biF, Option.map_eq_some_iff] at hz <;> (try (cases hz; done))
    obtain ⟨l, hl, rfl⟩ := hz
    simp only [Reps, Rep] at rx
    obtain ⟨_, _, rfl, ⟨a, ys, rfl, h1, _, h2⟩, rfl⟩ := rx
    have e := bools_of hl h2
    subst e
    exact cr_all (C.calm (nh hb (by decide))) pins s σ H _ us Q I rv ⟨a, l, rfl, .inl (.inl h1), self _ (by simp only [Rep])⟩
  case any =>
    obtain ⟨x, rfl⟩ := one_arg hz (by simp)
    cases x <;> simp only [biF, Option.map_eq_some_iff] at hz <;> (try (cases hz; done))
    · obtain ⟨l, hl, rfl⟩ := hz
      simp only [Reps, Rep] at rx
      obtain ⟨_, _, rfl, ⟨a, ys, rfl, h1, h2⟩, rfl⟩ := rx
      have e := ints_of hl h2
      subst e
      exact cr_anyT (C.calm (nh hb (by decide))) pins s σ H _ us Q I rv ⟨a, l, rfl, h1, self _ (by simp only [Rep])⟩
    · obtain ⟨l, hl, rfl⟩ := hz
      simp only [Reps, Rep] at rx
      obtain ⟨_, _, rfl, ⟨a, ys, rfl, h1, _, h2⟩, rfl⟩ := rx
      have e := bools_of hl h2
      subst e
      exact cr_any (C.calm (nh hb (by decide))) pins s σ H _ us Q I rv ⟨a, l, rfl, .inl (.inl h1), self _ (by simp only [Rep])⟩
theorem s_bi (C : Cxt W k N sc X) {b : BI} (hot : W.hot = true → b = .repr ∨ b = .len) {x : Str} {y : Expr} {ys : List Expr} {px p env st} {r : Option (List D × Store)} (hb : biN b = x) (hg : glB sc x = true) (hst : noStars (y :: ys) = true) (hmath : b = .gcd ∨ b = .lcm → X.mg x = some (biV b))
    (ha : AOk X W.cs (y :: ys) env st r) : EOk X W.cs (.Call (.Name x px) (y :: ys) [] p) env st (match (generalizing := false) r with
    | some (xs, st1) => (match biF b xs st1 with
      | some z => some (z, st1)
      | none => none)
    | none => none) := by
  intro d st' e m σ H Q hs hr hq
  simp only [noStars, Bool.and_eq_true, Bool.not_eq_true'] at hst
  cases r with
  | none => cases e
  | some p1 =>
    obtain ⟨xs, st1⟩ := p1
    cases h2 : biF b xs st1 with
    | none => simp only [h2] at e; cases e
    | some z =>
      simp only [h2] at e
      cases e
      have args : tCB (rBi X W.cs b) (tA X (y :: ys)) σ H Q := ha xs _ rfl m σ H _ hs hr fun m1 vs H1 x1 s1 p1 => ⟨xs, _, m1, _, h2, s1, p1, fun m2 v2 H2 x2 s2 p2 => hq m2 v2 H2 (x1.trans x2) s2 p2⟩
      have free : x ∈ (["len", "abs", "int", "max", "min", "repr", "str", "divmod", "tuple", "list", "sum", "all", "any", "isinstance", "bool", "range", "zip", "enumerate"] : List Str) → X.mg x = none := C.mdl.free x
      subst hb
      cases b
      case gcd => exact useE (pe_callBfun (call_bi C .gcd hot) (C.gl hg) (hmath (.inl rfl)) paA (by decide) (starEach_cons hst.1) (noStars_any hst.2)) args
      case lcm => exact useE (pe_callBfun (call_bi C .lcm hot) (C.gl hg) (hmath (.inr rfl)) paA (by decide) (starEach_cons hst.1) (noStars_any hst.2)) args
      case len => exact useE (pe_callB (call_bi C .len hot) (C.gl hg) (free (by decide)) PySem.boot_len paA (by decide) (by decide) (starEach_cons hst.1) (noStars_any hst.2)) args
      case abs => exact useE (pe_callB (call_bi C .abs hot) (C.gl hg) (free (by decide)) (by decide +kernel) paA (by decide) (by decide) (starEach_cons hst.1) (noStars_any hst.2)) args
      case max => exact useE (pe_callB (call_bi C .max hot) (C.gl hg) (free (by decide)) (by decide +kernel) paA (by decide) (by decide) (starEach_cons hst.1) (noStars_any hst.2)) args
      case min => exact useE (pe_callB (call_bi C .min hot) (C.gl hg) (free (by decide)) (by decide +kernel) paA (by decide) (by decide) (starEach_cons hst.1) (noStars_any hst.2)) args
      case repr => exact useE (pe_callB (call_bi C .repr hot) (C.gl hg) (free (by decide)) (by decide +kernel) paA (by decide) (by decide) (starEach_cons hst.1) (noStars_any hst.2)) args
      case divmod => exact useE (pe_callB (call_bi C .divmod hot) (C.gl hg) (free (by decide)) (by decide +kernel) paA (by decide) (by decide) (starEach_cons hst.1) (noStars_any hst.2)) args
      case sum => exact useE (pe_callB (call_bi C .sum hot) (C.gl hg) (free (by decide)) (by decide +kernel) paA (by decide) (by decide) (starEach_cons hst.1) (noStars_any hst.2)) args
      case all => exact useE (pe_callB (call_bi C .all hot) (C.gl hg) (free (by decide)) (by decide +kernel) paA (by decide) (by decide) (starEach_cons hst.1) (noStars_any hst.2)) args
      case any => exact useE (pe_callB (call_bi C .any hot) (C.gl hg) (free (by decide)) (by decide +kernel) paA (by decide) (by decide) (starEach_cons hst.1) (noStars_any hst.2)) args
      case int => exact useE (pe_callTy (call_bi C .int hot) (C.gl hg) (free (by decide)) (by decide +kernel) paA (by decide) (by decide) (starEach_cons hst.1) (noStars_any hst.2)) args
      case str => exact useE (pe_callTy (call_bi C .str hot) (C.gl hg) (free (by decide)) (by decide +kernel) paA (by decide) (by decide) (starEach_cons hst.1) (noStars_any hst.2)) args
      case tuple => exact useE (pe_callTy (call_bi C .tuple hot) (C.gl hg) (free (by decide)) (by decide +kernel) paA (by decide) (by decide) (starEach_cons hst.1) (noStars_any hst.2)) args
      case list => exact useE (pe_callTy (call_bi C .list hot) (C.gl hg) (free (by decide)) (by decide +kernel) paA (by decide) (by decide) (starEach_cons hst.1) (noStars_any hst.2)) args
end
end Mi

set_option Elab.async false
set_option linter.all false
set_option maxRecDepth 100000
set_option maxHeartbeats 4000000
/-! Mi8: isinstance, indexes, slices. -/
namespace Mi
open PySem PySem.Spec PyProof.Rows L2

section
variable {W : Wld} {k : Nat} {N : List Str} {sc : Scope} {X : Cx}

theorem reps_take {K : PySem.W.Frag} {m : List Addr} {L : Addr → Prop} {H : Hp} : ∀ {xs : List D} {ys : List V} (n : Nat), Reps K m L H xs ys → Reps K m L H (xs.take n) (ys.take n)
  | [], ys, n, h => by simp only [Reps] at h; subst h; simp [Reps]
  | x :: xs, ys, n, h => by
    cases n with
    | zero => simp [Reps]
    | succ n =>
      simp only [Reps] at h
      obtain ⟨y, r, rfl, h1, h2⟩ := h
      simp only [List.take_succ_cons, Reps]
      exact ⟨y, _, rfl, h1, reps_take n h2⟩
theorem tyx_of {K : PySem.W.Frag} {m : List Addr} {L : Addr → Prop} {H : Hp} {x : D} {v : V} {t : Ty} {b : Bool} (h : isiF x t = some b) (r : Rep K m L H x v) :
    ∃ T, TyX K H v (.type T) ∧ kitB T (tyN t).toString = some b := by
  have tups : ∀ {a : Addr} {ys : List V}, SqT K H a ys → TyX K H (.ref a) (.type "tuple") := fun h => by
    rcases h with (h | ⟨o, h⟩) | ⟨o, its, n, h1, h2, _⟩
    · exact .base (.tup h)
    · exact .fTuple h
    · exact .kTuple h1 h2
  cases x <;> simp only [Rep] at r
  · subst r; refine ⟨"NoneType", .base .non, ?_⟩
    cases t <;> simp only [isiF, Option.some.injEq] at h <;> subst h <;> decide +kernel
  · subst r; refine ⟨"bool", .base (.bl _), ?_⟩
    cases t <;> simp only [isiF, Option.some.injEq] at h <;> subst h <;> decide +kernel
  · subst r; refine ⟨"int", .base (.int _), ?_⟩
    cases t <;> simp only [isiF, Option.some.injEq] at h <;> subst h <;> decide +kernel
  · subst r; refine ⟨"str", .base (.str _), ?_⟩
    cases t <;> simp only [isiF, Option.some.injEq] at h <;> subst h <;> decide +kernel
  · obtain ⟨a, ys, rfl, h1, _⟩ := r; refine ⟨"tuple", tups h1, ?_⟩
    cases t <;> simp only [isiF, Option.some.injEq] at h <;> subst h <;> decide +kernel
  · obtain ⟨a, ys, rfl, h1, _⟩ := r; refine ⟨"list", .base (.lst h1), ?_⟩
    cases t <;> simp only [isiF, Option.some.injEq] at h <;> subst h <;> decide +kernel
  · simp only [isiF] at h; cases h
  · simp only [isiF] at h; cases h
  · obtain ⟨a, ys, rfl, h1, _⟩ := r
    rcases h1 with h1 | ⟨o, h1⟩
    · refine ⟨"dict", .base (.dK h1), ?_⟩
      cases t <;> simp only [isiF, Option.some.injEq] at h <;> subst h <;> decide +kernel
    · refine ⟨"dict", .fDict h1, ?_⟩
      cases t <;> simp only [isiF, Option.some.injEq] at h <;> subst h <;> decide +kernel
  · simp only [isiF] at h; cases h
def tyS : Ty → String
  | .int => "int" | .bool => "bool" | .tuple => "tuple"
theorem s_isi (C : Cxt W k N sc X) {a : Expr} {t : Ty} {x z : Str} {px pz p env st} {r : Option (D × Store)} (hx : x = "isinstance") (hz : tyN t = z) (hg : glB sc x = true) (hgz : glB sc z = true) (hst : isStar a = false) (ha : EOk X W.cs a env st r) :
    EOk X W.cs (.Call (.Name x px) [a, .Name z pz] [] p) env st (match (generalizing := false) r with
    | some (y, st1) => (match isiF y t with
      | some b => some (.bl b, st1)
      | none => none)
    | none => none) := by
  intro d st' e m σ H Q hs hr hq
  cases r with
  | none => cases e
  | some p1 =>
    obtain ⟨y, st1⟩ := p1
    cases h2 : isiF y t with
    | none => simp only [h2] at e; cases e
    | some b =>
      simp only [h2] at e
      cases e
      subst hx hz
      have ty : PE X (.Name (tyN t) pz) (tC (.ty (tyS t))) := by
        cases t
        · exact pe_bltn (u := .type "int") (C.gl hgz) (C.mdl.free _ (by decide)) (by decide +kernel) rfl
        · exact pe_bltn (u := .type "bool") (C.gl hgz) (C.mdl.free _ (by decide)) (by decide +kernel) rfl
        · exact pe_bltn (u := .type "tuple") (C.gl hgz) (C.mdl.free _ (by decide)) (by decide +kernel) rfl
      refine useE (pe_callB call_isi (C.gl hg) (C.mdl.free _ (by decide)) (by decide +kernel) (pa_cons peE (pa_cons ty pa_nil (starEach_cons rfl)) (starEach_cons hst)) (by decide) (by decide) (starEach_cons hst) (noStars_any (by rfl))) ?_
      refine ha y _ rfl m σ H _ hs hr fun m1 v1 H1 x1 s1 p1 => ?_
      obtain ⟨T, t1, t2⟩ := tyx_of h2 p1
      refine ⟨v1, .ty (tyS t), .type T, .type (tyS t), b, rfl, .ty _, t1, kit_ty ?_, hq m1 _ H1 x1 s1 (by simp only [Rep])⟩
      rw [← t2]; cases t <;> rfl

/-! ### indexes -/
theorem reps_at {K : PySem.W.Frag} {m : List Addr} {L : Addr → Prop} {H : Hp} {xs : List D} {ys : List V} {i : Int} {x : D} (r : Reps K m L H xs ys) (h : atI xs i = some x) : ∃ y, atI ys i = some y ∧ Rep K m L H x y := by
  unfold atI at h ⊢
  rw [← r.length]
  cases hj : ixN xs.length i with
  | none => rw [hj] at h; cases h
  | some j =>
    rw [hj] at h
    obtain ⟨y, h1, h2⟩ := r.get (show xs[j]? = some x from h)
    exact ⟨y, h1, h2⟩
theorem s_idx {a b : Expr} {p env st} {ra : Option (D × Store)} {rb : Store → Option (D × Store)} (hb0 : isSlice b = false) (ha : EOk X W.cs a env st ra) (hb : ∀ st1, EOk X W.cs b env st1 (rb st1)) :
    EOk X W.cs (.Subscript a b p) env st (match (generalizing := false) ra with
    | some (x, st1) => (match rb st1 with
      | some (y, st2) => (match idxF x y st2 with
        | some z => some (z, st2)
        | none => none)
      | none => none)
    | none => none) := by
  refine s_two (W := W) (f := idxF) (r := fun x y H Q => rIxL X.K x y H Q ∨ rIxT X.K x y H Q) (fun h1 h2 => pe_ix (ix_list.or ix_tup) h1 h2 (plainIx_of hb0)) ha hb fun x y st z m H v u Q hz hs rx ry hq => ?_
  cases y <;> simp only [idxF] at hz <;> try (cases hz; done)
  rename_i i
  simp only [Option.bind_eq_some_iff] at hz
  obtain ⟨l, hl, hz⟩ := hz
  obtain ⟨p, ys, rfl, h1, h2⟩ := items_of hs hl rx
  obtain ⟨w, h3, h4⟩ := reps_at h2 hz
  simp only [Rep] at ry
  rcases h1 with h1 | h1
  · exact .inl ⟨p, ys, i, w, rfl, ry, h1, h3, hq m w H Ext.refl hs h4⟩
  · exact .inr ⟨p, ys, i, w, rfl, ry, h1, h3, hq m w H Ext.refl hs h4⟩

/-! ### slices -/
theorem o_none {env st} : OOk X W.cs none env st (some (none, st)) := by
  intro d st' i e hi m σ H Q hs hr hq
  cases e
  cases hi
  exact useO po_none (hq m H Ext.refl hs)
theorem o_some {a : Expr} {env st} {r : Option (D × Store)} (ha : EOk X W.cs a env st r) : OOk X W.cs (some a) env st (match (generalizing := false) r with
    | some (x, st1) => some (some x, st1)
    | none => none) := by
  intro d st' i e hi m σ H Q hs hr hq
  cases r with
  | none => cases e
  | some p1 =>
    obtain ⟨x, st1⟩ := p1
    cases e
    refine useO (po_some peE) (ha x _ rfl m σ H _ hs hr fun m1 v1 H1 x1 s1 p1 => ?_)
    cases x <;> simp only [optI] at hi <;> cases hi
    simp only [Rep] at p1
    exact ⟨_, p1, hq m1 H1 x1 s1⟩
theorem optI_some {d : Option D} (h : ∃ i, optI d = some i) : ∃ i, optI d = some i := h
theorem s_slc {a : Expr} {lo hi : Option Expr} {p p2 env st} {ra : Option (D × Store)} {rl rh : Store → Option (Option D × Store)} (ha : EOk X W.cs a env st ra) (hl : ∀ st1, OOk X W.cs lo env st1 (rl st1)) (hh : ∀ st1, OOk X W.cs hi env st1 (rh st1)) :
    EOk X W.cs (.Subscript a (.Slice lo hi none p2) p) env st (match (generalizing := false) ra with
    | some (x, st1) => (match rl st1 with
      | some (l, st2) => (match rh st2 with
        | some (h, st3) => (match slcF x l h with
          | some z => some (z, st3)
          | none => none)
        | none => none)
      | none => none)
    | none => none) := by
  intro d st' e m σ H Q hs hr hq
  cases ra with
  | none => cases e
  | some p1 =>
    obtain ⟨x, st1⟩ := p1
    cases h2 : rl st1 with
    | none => simp only [h2] at e; cases e
    | some p2 =>
      obtain ⟨l, st2⟩ := p2
      cases h3 : rh st2 with
      | none => simp only [h2, h3] at e; cases e
      | some p3 =>
        obtain ⟨h, st3⟩ := p3
        cases h4 : slcF x l h with
        | none => simp only [h2, h3, h4] at e; cases e
        | some z =>
          simp only [h2, h3, h4] at e
          cases e
          have ol : ∃ i, optI l = some i := by
            unfold slcF at h4
            split at h4 <;> first | exact ⟨_, by assumption⟩ | cases h4
          have oh : ∃ j, optI h = some j := by
            unfold slcF at h4
            split at h4 <;> first | exact ⟨_, by assumption⟩ | cases h4
          obtain ⟨i, hi'⟩ := ol
          obtain ⟨j, hj'⟩ := oh
          refine useE (pe_slice (sl_list.or sl_tupA) peE poO poO) ?_
          refine ha x st1 rfl m σ H _ hs hr fun m1 v1 H1 x1 s1 p1 => ?_
          refine hl st1 l _ i h2 hi' m1 σ H1 _ s1 (hr.ext hs.cells x1) fun m2 H2 x2 s2 => ?_
          refine hh st2 h _ j h3 hj' m2 σ H2 _ s2 ((hr.ext hs.cells x1).ext s1.cells x2) fun m3 H3 x3 s3 => ?_
          have p3 := (p1.ext s1.cells x2).ext s2.cells x3
          have xx := (x1.trans x2).trans x3
          unfold slcF at h4
          rw [hi', hj'] at h4
          have cut : ∀ {xs : List D} {ys : List V}, Reps X.K m3 (Lv m3 st') H3 xs ys → Reps X.K m3 (Lv m3 st') H3 ((xs.drop (HT.sIx xs.length 0 i)).take (HT.sIx xs.length xs.length j - HT.sIx xs.length 0 i)) (cutV ys i j) := fun {xs ys} r => by
            unfold cutV
            rw [← r.length]
            exact reps_take _ (r.drop _)
          cases x <;> simp only at h4 <;> (try (cases h4; done)) <;> simp only [Rep] at p3
          · cases h4
            rename_i xs
            obtain ⟨q, ys, rfl, g1, g2⟩ := p3
            refine .inr ⟨q, ys, rfl, g1, fun hw => ?_, fun hw p hp => ?_⟩
            · refine hq m3 _ H3 xx s3 ?_
              simp only [Rep]
              refine ⟨q, ys, rfl, g1, ?_⟩
              rw [← g2.length] at hw
              rw [hw.1, hw.2]
              simpa using g2
            · exact hq m3 _ _ (xx.trans (ext_new hp)) (s3.new hp) (rep_tup s3 hp (cut g2))
          · cases h4
            obtain ⟨q, ys, rfl, g1, _, g2⟩ := p3
            exact .inl ⟨q, ys, rfl, .inl (.inl g1), fun p hp => hq m3 _ _ (xx.trans (ext_new hp)) (s3.new hp) (rep_lst s3 hp (cut g2))⟩
          · cases h4
            obtain ⟨q, ys, rfl, g1, g2⟩ := p3
            exact .inl ⟨q, ys, rfl, g1.sqL, fun p hp => hq m3 _ _ (xx.trans (ext_new hp)) (s3.new hp) (rep_lst s3 hp (cut g2))⟩
end
end Mi

set_option Elab.async false
set_option linter.all false
set_option maxRecDepth 100000
set_option maxHeartbeats 4000000
/-! Mi9: a generator expression's own frame. -/
namespace Mi
open PySem PySem.Spec PyProof.Rows L2

/-- where a generator expression's pieces run -/
abbrev gx (X : Cx) (s : Shared) (H : Hp) (cenv : PySem.Env) (A : Around) (fp : List Addr) (pn : List (Addr × Obj)) : Cx :=
  { X with s_0 := s, H_0 := H, env := cenv, A := A, outer := X.stack, stack := cenv :: X.stack, ex := fp, fn := fun _ => false, pn := pn, xe := fun _ _ => False }
structure GenSc (scope : Scope) : Prop where
  kind : scope.kind = .function
  co : scope.isCoroutine = false
  cell : ∀ y ∈ scope.names, y.2 ≠ .cell
  dot : scope.names.lookup (".0" : Str) = some NameKind.local
section
variable {X : Cx} {pins : List (Addr × Obj)} {σ : L2.St} {H : Hp} {s : Shared}
theorem gen_start {scope : Scope} {own : List (Str × Nat)} {fp : List Addr} {code : Value} {A : Around} {h' : Heap} {it : Value} {go : Obj} {G : Array GenState} {tk : Nat}
    (I : Inv X pins σ H s) (ok : BlkOk X.N X.env.scope scope own) (S : GenSc scope) (hN : X.N.Nodup) (hfp : ∀ b ∈ fp, FpOk X pins H b ∧ b < s.heap.objs.size)
    (hA : A.frames = some (genEnv scope (cloFrom X.env.cells scope.names []) s.heap.objs.size code builtinsNs X.env :: X.stack)) (hh : X.calm = true → A.handled = none)
    (hn : h'.Ns s.heap.objs.size (fun y => if y = ".0" then some it else none)) (hs : Heap.SameBut s.heap.objs.size (s.heap.push { cls := .type "frame", data := .dict #[] }) h')
    (hgo : ∀ v, go.data ≠ .cell v) (hfz : ∀ h : Heap, (h.push go).get? h.objs.size = some go) (hG : AllBare G) :
    Inv (gx X s H (genEnv scope (cloFrom X.env.cells scope.names []) s.heap.objs.size code builtinsNs X.env) A fp [(h'.objs.size, go)]) [] (wipe σ (own.map (·.2))) H { s with gens := G, toks := tk, heap := h'.push go } := by
  have hfree : ∀ y ∈ scope.names, y.2 = .free → ∃ c, X.env.cells.lookup y.1 = some c := fun y hy e => by
    rcases ok.free y hy e with k | k
    · exact I.ok.has _ (.inl k)
    · exact I.ok.has _ (.inr k)
  have hsz : h'.objs.size = s.heap.objs.size + 1 := by rw [hs.1, Heap.size_push]
  have kp1 : ∀ b o, s.heap.get? b = some o → h'.get? b = some o := fun b o e => hs.extBut b o (Nat.ne_of_lt (Heap.lt_size e)) (Heap.get?_push_of_some _ e)
  have kp : ∀ b o, s.heap.get? b = some o → (h'.push go).get? b = some o := fun b o e => Heap.get?_push_of_some _ (kp1 b o e)
  generalize hce : genEnv scope (cloFrom X.env.cells scope.names []) s.heap.objs.size code builtinsNs X.env = cenv at hA ⊢
  have hL : cenv.locals = s.heap.objs.size := by rw [← hce]; rfl
  have hcl : cenv.cells = cloFrom X.env.cells scope.names [] := by rw [← hce]; rfl
  have hsc : cenv.scope = scope := by rw [← hce]; rfl
  have mem : ∀ {y c}, cenv.cells.lookup y = some c → X.env.cells.lookup y = some c ∧ c < s.heap.objs.size := fun {y c} e => by
    rw [hcl] at e
    rcases cloFrom_mem (PySem.mem_of_lookup e) with hm | ⟨h1, rfl⟩
    · cases hm
    · obtain ⟨c, hc⟩ := hfree _ h1 rfl
      rw [hc]
      obtain ⟨w, z⟩ := I.cell _ _ hc
      exact ⟨rfl, z.lt⟩
  have look : ∀ {y}, scope.names.lookup y = some .free → ∃ c, cenv.cells.lookup y = some c ∧ X.env.cells.lookup y = some c := fun {y} hl => by
    have hy : (y, NameKind.free) ∈ scope.names := PySem.mem_of_lookup hl
    obtain ⟨c', e'⟩ := mem_lookup (cloFrom_has (cells := X.env.cells) (acc := []) hy)
    rw [← hcl] at e'
    exact ⟨c', e', (mem e').1⟩
  have okB : (gx X s H cenv A fp [(h'.objs.size, go)]).Ok := by
    refine ⟨I.ok.mod, by show cenv.scope.kind = _; rw [hsc]; exact ok.kind, by show cenv.globals = _; rw [← hce]; exact I.ok.glob, by show cenv.builtins = _; rw [← hce]; rfl, by show s.heap.objs.size ≤ cenv.locals; rw [hL]; exact Nat.le_refl _,
      fun y z c e1 e2 => I.ok.inj y z c (mem e1).1 (mem e2).1, fun y hy => ?_, fun y c z e => ?_, hh, hA, .inr ⟨rfl, by show cenv.frame = some cenv.locals; rw [← hce]; rfl⟩, fun b hb => ⟨?_, fun y c e z => ?_⟩, I.bs, Nat.le_trans I.ok.bsz I.sz, fun b o e hb => ?_, fun b hb z => ?_, I.stack, I.stkFree⟩
    · show ∃ c, cenv.cells.lookup y = some c
      rcases hy with hy | hy
      · have hy : scope.names.lookup y = some .cell := by rw [← hsc]; exact hy
        exact absurd rfl (S.cell _ (PySem.mem_of_lookup hy))
      · have hy : scope.names.lookup y = some .free := by rw [← hsc]; exact hy
        obtain ⟨c, h1, _⟩ := look hy
        exact ⟨c, h1⟩
    · cases z
    · show b ≠ cenv.locals
      rw [hL]; exact Nat.ne_of_lt (hfp b hb).2
    · exact (hfp b hb).1.2.2.2.2.1 y c (mem e).1 z
    · rcases (hfp b hb).1.2.2.2.1 with z | z
      · exact I.ok.noex b o e z
      · exact absurd (Nat.lt_of_lt_of_le (Heap.lt_size e) (Nat.le_trans I.ok.bsz z)) (Nat.lt_irrefl _)
    · rcases List.mem_cons.mp (I.stkSub b z) with z | z
      · exact (hfp b hb).1.2.1 z
      · exact (hfp b hb).1.2.2.1 z
  refine ⟨okB, rfl, hG, Un.kept kp, ⟨(fun y => if y = ".0" then some it else none), ?_, fun i y av e1 e2 e3 => ?_⟩, fun y c e => ?_, ?_, fun y c e => ?_, fun p hp => ?_, I.hok.kept kp, by rw [wipe_length]; exact I.len⟩
  · show Heap.Ns _ cenv.locals _
    rw [hL]
    exact hn.push _
  · obtain ⟨e2, hne⟩ := wipe_some e2
    have no : ∀ k, scope.names.lookup y = some k → (k = .local ∨ k = .cell) → False := fun k hk hh => by
      rcases ok.own _ (PySem.mem_of_lookup hk) hh with e' | e'
      · obtain ⟨p, hp, hpy⟩ := List.mem_map.mp e'
        have e3 := ok.ix p hp
        have : p.1 = y := hpy
        rw [this] at e3
        exact hne (List.mem_map.mpr ⟨p, hp, nodup_ix hN e3 e1⟩)
      · exact e' (List.mem_of_getElem? e1)
    have hfr : scope.names.lookup y = some .free := by
      have e3 : Vis cenv.scope y := e3
      rw [hsc] at e3
      rcases e3 with e3 | e3 | e3
      · exact absurd (.inl rfl) (no _ e3)
      · exact absurd (.inr rfl) (no _ e3)
      · exact e3
    obtain ⟨m, _, hl⟩ := I.loc
    have hvis : Vis X.env.scope y := (ok.free _ (PySem.mem_of_lookup hfr) rfl).elim (fun k => .inr (.inl k)) (fun k => .inr (.inr k))
    obtain ⟨w, r, q⟩ := hl i y av e1 e2 hvis
    have hk : cenv.kindOf y = some .free := by show cenv.scope.names.lookup y = _; rw [hsc]; exact hfr
    refine ⟨w, r, .inr ⟨.inr hk, ?_⟩⟩
    obtain ⟨c, h1, h2⟩ := look hfr
    rcases q with ⟨k, _⟩ | ⟨_, c', e', z⟩
    · have k : X.env.scope.names.lookup y = some .local := k
      rcases ok.free _ (PySem.mem_of_lookup hfr) rfl with k' | k' <;> rw [show X.env.scope.names.lookup y = _ from k'] at k <;> cases k
    · rw [h2] at e'; cases e'
      exact ⟨c, h1, z.keeps kp⟩
  · obtain ⟨w, z⟩ := I.cell y c (mem e).1
    exact ⟨w, z.keeps kp⟩
  · show H cenv.locals = none
    rw [hL]; exact I.hok.fresh (Nat.le_refl _)
  · exact I.freeC y c (mem e).1
  · rw [List.append_nil] at hp
    have e : p = (h'.objs.size, go) := List.mem_singleton.mp hp
    subst e
    refine ⟨hfz _, I.hok.fresh (by rw [hsz]; exact Nat.le_succ _), by show h'.objs.size ≠ cenv.locals; rw [hL, hsz]; exact Nat.succ_ne_self _, fun z => ?_, hgo⟩
    rcases List.mem_cons.mp (I.stkSub _ z) with z | z
    · have := I.lt
      rw [← z, hsz] at this
      exact absurd (Nat.lt_of_succ_lt this) (Nat.lt_irrefl _)
    · exact I.nofs (by rw [hsz]; exact Nat.le_succ _) z
/-- back in the caller's context -/
theorem gen_out {H3 H' : Hp} {cenv : PySem.Env} {A : Around} {fp : List Addr} {pn pins' : List (Addr × Obj)} {σ' : L2.St} {s' : Shared} (I : Inv X pins σ H3 s) (hfp : ∀ b ∈ fp, FpOk X pins H3 b) (J : Inv (gx X s H3 cenv A fp pn) pins' σ' H' s') : Inv X pins σ H' s' :=
  I.call' (ch := fp) J.os J.base J.hok J.bare fun b hb => ⟨(hfp b hb).2.2.2.1, (hfp b hb).2.1, (hfp b hb).2.2.2.2.1, (hfp b hb).2.2.2.2.2⟩
end
end Mi

set_option Elab.async false
set_option linter.all false
set_option maxRecDepth 100000
set_option maxHeartbeats 4000000
/-! Mi10: a generator expression's turns. -/
namespace Mi
open PySem PySem.Spec PyProof.Rows L2

/-- what a source hands out -/
def Items (K : PySem.W.Frag) (cs : List (Addr × Addr)) (m : List Addr) (st : Store) (H : Hp) (ds : List D) (J : It) : Prop :=
  ∀ m' st' H', Ext m st H m' st' H' → SC K cs m' st' H' →
    (∀ i d, ds[i]? = some d → J.go i H' ∧ ∀ x H'', J.yld i H' x H'' → Ext m' st' H' m' st' H'' ∧ SC K cs m' st' H'' ∧ Rep K m' (Lv m' st') H'' d x) ∧ J.stop ds.length H'
/-- a target takes a value -/
def tgS (tg : ITg) (v : V) (vs : List V) (σ : L2.St) : L2.St :=
  match tg with
  | .nm i => σ.set i (some v)
  | .tp is => (is.zip vs).foldl (fun σ p => σ.set p.1 (some p.2)) σ
def TgOk (X : Cx) (cs : List (Addr × Addr)) (tg : ITg) (tge : Expr) : Prop :=
  ∀ (m : List Addr) (st : Store) (H : Hp) (d : D) (env env' : Env) (σ : L2.St) (v : V) (Q : L2.St → Hp → Prop), bindT tg d env = some env' → SC X.K cs m st H → EnvR X.K m st H env σ → Rep X.K m (Lv m st) H d v →
    (∀ vs, EnvR X.K m st H env' (tgS tg v vs σ) → Q (tgS tg v vs σ) H) → tGt X tge v σ H Q
def tTs (X : Cx) (ifs : List Expr) : TT := fun σ H Q => ∀ pins s, Inv X pins σ H s →
  wpAny (model X.prog X.w) X.A (forIn ifs true fun c r => if r = true then do let ok ← isTrue c X.env (eval c X.env); pure (ForInStep.yield ok) else pure (ForInStep.yield r)) (TP X pins σ Q) X.xe s
def TsOk (X : Cx) (cs : List (Addr × Addr)) (ifs : List Expr) (env : Env) (st : Store) (r : Option (Bool × Store)) : Prop :=
  ∀ b st', r = some (b, st') → ∀ m σ H (Q : Bool → Hp → Prop), SC X.K cs m st H → EnvR X.K m st H env σ →
    (∀ m' H', Ext m st H m' st' H' → SC X.K cs m' st' H' → Q b H') → tTs X ifs σ H Q
theorem ts_none {X : Cx} {cs : List (Addr × Addr)} {env st} : TsOk X cs [] env st (some (true, st)) := by
  intro b st' e m σ H Q hs hr hq
  cases e
  exact fun pins s I => pts_nil.run pins s σ H Q I (hq m H Ext.refl hs)
theorem ts_some {X : Cx} {cs : List (Addr × Addr)} {c : Expr} {env st} {r : Option (Bool × Store)} (h : TOk X cs c env st r) : TsOk X cs [c] env st r := by
  intro b st' e m σ H Q hs hr hq
  exact fun pins s I => (pts_one ptT).run pins s σ H Q I (h b st' e m σ H Q hs hr hq)
/-- one turn's data -/
def turnF (c : CallT) (env0 : Env) (tg : ITg) (cond : ITo) (elt : IE) (x : D) (s : Store) : Option (Option D × Store) :=
  match bindT tg x env0 with
  | some env' => (match evTo c env' cond s with
    | some (true, s1) => (match evE c env' elt s1 with
      | some (y, s2) => some (some y, s2)
      | none => none)
    | some (false, s1) => some (none, s1)
    | none => none)
  | none => none
/-- the consumer's own list -/
structure Con where
  at_ : List Addr
  cont : List V → Obj → Prop
def SleptC (C : Con) (vs : List V) (s s' : Shared) : Prop :=
  s'.os = s.os ∧ AllBare s'.gens ∧ (∀ b o, b ∉ C.at_ → s.heap.get? b = some o → s'.heap.get? b = some o) ∧ ∀ b ∈ C.at_, ∃ o, s'.heap.get? b = some o ∧ C.cont vs o ∧ ∀ v, o.data ≠ .cell v
theorem wokenC {X : Cx} {ps pl : List (Addr × Obj)} {σ : L2.St} {H : Hp} {s s' : Shared} {C : Con} {vs : List V} (I : Inv X (ps ++ pl) σ H s) (hc : ∀ b ∈ C.at_, ∃ o, (b, o) ∈ ps)
    (ok : ∀ b ∈ C.at_, X.s_0.heap.objs.size ≤ b ∧ b ≠ X.env.locals ∧ (∀ x c, X.env.cells.lookup x = some c → c ≠ b) ∧ ∀ p ∈ X.pn ++ pl, p.1 ≠ b) (z : SleptC C vs s s') :
    Inv X (pinsAt C.at_ s'.heap ++ pl) σ H s' := by
  obtain ⟨z1, z2, z3, z4⟩ := z
  have I0 : Inv X pl σ H s := I.pins_of fun p hp => I.pin p (List.mem_append_right _ (List.mem_append_right _ hp))
  have hn : ∀ b ∈ C.at_, H b = none ∧ b ≠ X.env.locals ∧ b ∉ X.fs := fun b hb => by
    obtain ⟨o, ho⟩ := hc b hb
    obtain ⟨_, h2, h3, h4, _⟩ := I.pin (b, o) (List.mem_append_right _ (List.mem_append_left _ ho))
    exact ⟨h2, h3, h4⟩
  have nt : ∀ b u, H b = some u → b ∉ C.at_ := fun b u q hb => by rw [(hn b hb).1] at q; cases q
  have J : Inv X pl σ H s' := by
    refine I0.call' (ch := C.at_) z1 ⟨fun b o q _ _ hb => z3 b o hb q, fun b o q _ _ hb => ⟨o.slots, z3 b o hb q⟩, fun _ _ _ n _ => n, fun b o q hb => ⟨o, z3 b o hb q⟩, fun _ _ q => q, fun _ _ _ q => q, fun b qs q => ⟨#[], by rw [q]; simp⟩⟩ (fun b u q => ?_) z2
      (fun b hb => ⟨.inr (ok b hb).1, (ok b hb).2.1, (ok b hb).2.2.1, (ok b hb).2.2.2⟩)
    refine (I0.hok b u q).stay (fun c v hc y => z3 c v ?_ y) (fun _ y => y) fun _ _ y => y
    rcases hc with y | y
    · rw [y]; exact nt b u q
    · exact nt c _ y
  refine J.pins_of fun p hp => ?_
  rcases List.mem_append.mp hp with hp | hp
  · obtain ⟨hb, e⟩ := of_pinsAt hp
    obtain ⟨o, e', _, hd⟩ := z4 p.1 hb
    rw [e] at e'; cases e'
    exact ⟨e, (hn p.1 hb).1, (hn p.1 hb).2.1, (hn p.1 hb).2.2, hd⟩
  · exact J.pin p (List.mem_append_right _ hp)

section
variable (X : Cx) (pins : List (Addr × Obj)) (σ : L2.St) (cs : List (Addr × Addr)) (m0 : List Addr) (st0 : Store) (H0 : Hp) (C : Con) (a : Addr) (g : Nat) (k : GK) (tot : List D) (stF : Store)
/-- an item comes out -/
def YC : Protocol := fun n _ v s kap => ∃ ds d es vs x st m H, tot = ds ++ d :: es ∧ es.length + 1 = n ∧ RelV x v ∧ Inv X pins σ H s ∧ SC X.K cs m st H ∧ Ext m0 st0 H0 m st H ∧ Reps X.K m (Lv m st) H (ds ++ [d]) (vs ++ [x]) ∧
  (∀ b ∈ C.at_, H b = none ∧ ∃ o, s.heap.get? b = some o ∧ C.cont vs o) ∧ s.heap.IsGen a g ∧ (stopG k d = true → st = stF ∧ es = []) ∧ (stopG k d = false → ∀ s', SleptC C (vs ++ [x]) s s' → kap (.send .none) s')
/-- it is at its end -/
def PC (n : Nat) (_ : Shared) (s : Shared) : Prop := n = 1 ∧ ∃ vs m H, Inv X pins σ H s ∧ SC X.K cs m stF H ∧ Ext m0 st0 H0 m stF H ∧ Reps X.K m (Lv m stF) H tot vs ∧
  (∀ b ∈ C.at_, H b = none ∧ ∃ o, s.heap.get? b = some o ∧ C.cont vs o) ∧ s.heap.IsGen a g
abbrev RC : GenEnd := fun n s₀ r s => r = .ok .next ∧ PC X pins σ cs m0 st0 H0 C a g tot stF n s₀ s
end
/-- the slots behind a target -/
theorem wipe_tgS {tg : ITg} {v : V} {vs : List V} {σ : L2.St} {own : List Nat} (h : tgOwn tg own = true) : wipe (tgS tg v vs σ) own = wipe σ own := by
  have one : ∀ {i : Nat} {w : V} {σ : L2.St} {own : List Nat}, i ∈ own → wipe (σ.set i (some w)) own = wipe σ own := by
    intro i w σ own hi
    induction own generalizing σ with
    | nil => cases hi
    | cons o r ih =>
      unfold wipe
      by_cases e : i ∈ r
      · rw [ih e]
      · have e2 : i = o := by
          rcases List.mem_cons.mp hi with z | z
          · exact z
          · exact absurd z e
        subst e2
        have out : ∀ {r : List Nat} {σ : L2.St}, i ∉ r → wipe (σ.set i (some w)) r = (wipe σ r).set i (some w) := by
          intro r
          induction r with
          | nil => intro σ _; rfl
          | cons q r ih2 =>
            intro σ hn
            simp only [List.mem_cons, not_or] at hn
            unfold wipe
            rw [ih2 hn.2, List.set_comm _ _ hn.1]
        rw [out e, List.set_set]
  cases tg with
  | nm i => exact one (by simpa [tgOwn] using h)
  | tp is =>
    simp only [tgOwn, List.all_eq_true, List.contains_iff_mem] at h
    show wipe ((is.zip vs).foldl (fun σ p => σ.set p.1 (some p.2)) σ) own = _
    induction is generalizing σ vs with
    | nil => simp
    | cons i r ih =>
      cases vs with
      | nil => simp
      | cons w ws =>
        simp only [List.zip_cons_cons, List.foldl_cons]
        rw [ih fun j hj => h j (List.mem_cons_of_mem _ hj)]
        exact one (h i List.mem_cons_self)

section
variable {X : Cx} {pins : List (Addr × Obj)} {σ : L2.St} {cs : List (Addr × Addr)} {m0 : List Addr} {st0 : Store} {H0 H3 : Hp} {s3 : Shared} {C : Con} {a : Addr} {g : Nat} {k : GK} {tot : List D} {stF : Store}
theorem seg_gx {elt tge iter : Expr} {ifs : List Expr} {scope : Scope} {pos : Pos} {it : Addr} {fp : List Addr} {tn : Nat → Heap → Prop} {J : It} {cenv : PySem.Env} {A : Around} {go : Obj} {c : CallT} {env0 : Env} {tg : ITg} {cond : ITo} {eltI : IE} {own : List Nat} {items : List D} {wσ : L2.St}
    (I3 : Inv X pins σ H3 s3) (hfp : ∀ b ∈ fp, FpOk X pins H3 b)
    (G : Cx) (hG : G = gx X s3 H3 cenv (A.over (.compLoop (.GeneratorExp elt [⟨tge, iter, ifs, 0⟩] scope pos) 0 (.ref it) .none cenv) []) fp [(a, go)])
    (hco : cenv.scope.isCoroutine = false) (hcalm : X.calm = true) (hgo : ∀ h : Heap, h.get? a = some go → h.IsGen a g)
    (T : Turn X.prog X.w X.K tge J fp it tn) (hI : Items X.K cs m0 st0 H0 items J)
    (hT : TgOk G cs tg tge) (hC : ∀ env st, TsOk G cs ifs env st (evTo c env cond st)) (hE : ∀ env st, EOk G cs elt env st (evE c env eltI st))
    (haf : a ∉ fp) (hown : tgOwn tg own = true) (hw : wipe wσ own = wσ)
    (hCon : ∀ b ∈ C.at_, s3.heap.objs.size ≤ b ∧ b ≠ cenv.locals ∧ (∀ x c, cenv.cells.lookup x = some c → c ≠ b) ∧ b ≠ a ∧ b ∉ fp) :
    ∀ (rest : List D) (i : Nat) (ds ys : List D) (vs : List V) (st : Store) (m : List Addr) (H : Hp) (s₀ s : Shared) (ps : List (Addr × Obj)), items.drop i = rest → i + rest.length = items.length → mapGs k (turnF c env0 tg cond eltI) rest st = some (ys, stF) → tot = ds ++ ys →
      Inv G ps wσ H s → tn i s.heap → (∀ b ∈ fp, H b = none) → SC X.K cs m st H → Ext m0 st0 H0 m st H → EnvR X.K m st H env0 wσ → Reps X.K m (Lv m st) H ds vs →
      (∀ p ∈ ps, p.1 ∈ C.at_) → (∀ b ∈ C.at_, ∃ o, (b, o) ∈ ps ∧ C.cont vs o) →
      Seg (model X.prog X.w) A (RC X pins σ cs m0 st0 H0 C a g tot stF) (YC X pins σ cs m0 st0 H0 C a g k tot stF) (ys.length + 1) s₀
        (.compLoop (.GeneratorExp elt [⟨tge, iter, ifs, 0⟩] scope pos) 0 (.ref it) .none cenv)
        ((model X.prog X.w).den (.compLoop (.GeneratorExp elt [⟨tge, iter, ifs, 0⟩] scope pos) 0 (.ref it) .none cenv)) [] s := by
  have hGp : G.prog = X.prog := by rw [hG]
  have hGw : G.w = X.w := by rw [hG]
  have hGK : G.K = X.K := by rw [hG]
  have hGc : G.calm = true := by rw [hG]; exact hcalm
  have hGA : (A.over (.compLoop (.GeneratorExp elt [⟨tge, iter, ifs, 0⟩] scope pos) 0 (.ref it) .none cenv) []) = G.A := by rw [hG]
  have hGe : G.env = cenv := by rw [hG]
  have hGx : G.xe = fun _ _ => False := by rw [hG]
  have hGs : G.s_0 = s3 := by rw [hG]
  have hGpn : G.pn = [(a, go)] := by rw [hG]
  have out : ∀ {ps' σ' H' s'}, Inv G ps' σ' H' s' → Inv X pins σ H' s' := fun {ps' σ' H' s'} J => by
    rw [hG] at J
    exact gen_out I3 hfp J
  have gen : ∀ {ps' σ' H' s'}, Inv G ps' σ' H' s' → s'.heap.IsGen a g := fun {ps' σ' H' s'} J => by
    have := (J.pin (a, go) (List.mem_append_left _ (by rw [hG]; exact List.mem_singleton.mpr rfl))).1
    exact hgo _ this
  have stat : ∀ {ps' : List (Addr × Obj)} {σ' : L2.St} {H' : Hp} {s' : Shared}, Inv G ps' σ' H' s' → (∀ p ∈ ps', p.1 ∈ C.at_) → (∀ b ∈ fp, H' b = none) → ∀ b ∈ fp, FpOk G ps' H' b := fun {ps' σ' H' s'} I' hps hn b hb => by
    have hex : b ∈ G.ex := by rw [hG]; exact hb
    refine ⟨hn b hb, (I'.ok.exf b hex).1, I'.ok.exfs b hex, .inl hex, fun x c e => (I'.ok.exf b hex).2 x c e, fun p hp z => ?_⟩
    rcases List.mem_append.mp hp with hp | hp
    · have e : p = (a, go) := by rw [hG] at hp; exact List.mem_singleton.mp hp
      subst e
      exact haf (by rw [show a = b from z]; exact hb)
    · exact (hCon p.1 (hps p hp)).2.2.2.2 (by rw [z]; exact hb)
  have fini : ∀ {ps' ds' st' m' H' s'} {vs' : List V}, Inv G ps' wσ H' s' → SC X.K cs m' st' H' → Ext m0 st0 H0 m' st' H' → Reps X.K m' (Lv m' st') H' ds' vs' → (∀ b ∈ C.at_, ∃ o, (b, o) ∈ ps' ∧ C.cont vs' o) →
      st' = stF → tot = ds' → ∀ s₀, PC X pins σ cs m0 st0 H0 C a g tot stF 1 s₀ s' := by
    intro ps' ds' st' m' H' s' vs' I' q1 q2 q3 q4 e1 e2 s₀
    subst e1 e2
    refine ⟨rfl, vs', m', H', out I', q1, q2, q3, fun b hb => ?_, gen I'⟩
    obtain ⟨o, ho, hc⟩ := q4 b hb
    obtain ⟨z1, z2, _⟩ := I'.pin (b, o) (List.mem_append_right _ ho)
    exact ⟨z2, o, z1, hc⟩
  intro rest
  induction rest with
  | nil =>
    intro i ds ys vs st m H s₀ s ps hd hi hm ht I st1 hn hs hx hr hv hp1 hp2
    simp only [mapGs, Option.some.injEq, Prod.mk.injEq] at hm
    obtain ⟨rfl, rfl⟩ := hm
    rw [List.append_nil] at ht
    show Seg _ A _ _ _ s₀ _ ((compTurn (.GeneratorExp elt [⟨tge, iter, ifs, 0⟩] scope pos) 0 (.ref it) .none cenv).onRaise (leaving cenv)) [] s
    rw [compTurn_gen, Sem.onRaise_eq_wrap]
    refine seg_bind_wrap (wpAny_standAt ?_)
    have hstop : J.stop i H := by
      have z := (hI m st H hx hs).2
      have e : i = items.length := by simpa using hi
      rw [e]; exact z
    have td := T.done G hGp hGw hGK hGc i ps s _ H (fun _ _ => False) I (stat I hp1 hn) st1 hstop
    refine seg_bind_wrap ?_
    rw [hGA]
    refine thnF td fun r s6 ⟨hr', I6⟩ => ?_
    subst hr'
    exact seg_end (.ok .next) ⟨rfl, fini I6 hs hx hv hp2 rfl ht s₀⟩
  | cons d rest ih =>
    intro i ds ys vs st m H s₀ s ps hd hi hm ht I st1 hn hs hx hr hv hp1 hp2
    have hat : items[i]? = some d := by
      have := congrArg List.head? hd
      rw [List.head?_drop] at this
      simpa using this
    have hd' : items.drop (i + 1) = rest := by
      have := congrArg List.tail hd
      rw [List.tail_drop] at this
      simpa using this
    have hi' : i + 1 + rest.length = items.length := by
      rw [List.length_cons] at hi; omega
    show Seg _ A _ _ _ s₀ _ ((compTurn (.GeneratorExp elt [⟨tge, iter, ifs, 0⟩] scope pos) 0 (.ref it) .none cenv).onRaise (leaving cenv)) [] s
    rw [compTurn_gen, Sem.onRaise_eq_wrap]
    refine seg_bind_wrap (wpAny_standAt ?_)
    have zi := (hI m st H hx hs).1 i d hat
    have ti := T.item G hGp hGw hGK hGc i ps s _ H (fun _ _ => False) I (stat I hp1 hn) st1 zi.1
    refine seg_bind_wrap ?_
    rw [hGA]
    refine thnF ti fun r s6 ⟨u, hr', h6⟩ => ?_
    subst hr'
    refine seg_bind_wrap ?_
    rw [hGA]
    refine thnF h6 fun _ s7 ⟨x, H7, I7, r7, y7, st7, n7⟩ => ?_
    obtain ⟨x7, sc7, rp7⟩ := zi.2 x H7 y7
    have I7' := I7.pinned (stat I7 hp1 n7) (T.obj _ _ st7)
    have back : ∀ {σ8 : L2.St} {H' : Hp} {s' : Shared} {vs' : List V}, σ8 = tgS tg x vs' wσ → Inv G (ps ++ pinsAt fp s7.heap) σ8 H' s' → Inv G ps wσ H' s' ∧ tn (i + 1) s'.heap ∧ ∀ b ∈ fp, H' b = none := by
      intro σ8 H' s' vs' e I'
      have hw8 : wipe σ8 own = wσ := by rw [e, wipe_tgS hown, hw]
      have pin' : ∀ b ∈ fp, ∀ o, s7.heap.get? b = some o → s'.heap.get? b = some o ∧ H' b = none := fun b hb o e =>
        let z := I'.pin (b, o) (List.mem_append_right _ (List.mem_append_right _ (mem_pinsAt hb e)))
        ⟨z.1, z.2.1⟩
      have hl : wσ.length = σ8.length := by rw [← hw8, wipe_length]
      refine ⟨(I'.unpinned (pins := ps)).weak hl (fun j v e => ?_), T.keep _ _ _ st7 fun b hb o e => (pin' b hb o e).1, fun b hb => ?_⟩
      · rw [← hw8] at e
        exact (wipe_some e).1
      · obtain ⟨o, e, _⟩ := T.obj _ _ st7 b hb
        exact (pin' b hb o e).2
    cases hb : bindT tg d env0 with
    | none =>
      simp only [mapGs, turnF, hb] at hm
      cases hm
    | some env' =>
      have hA := hT m st H7 d env0 env' wσ x (fun σ8 H8 => H8 = H7 ∧ ∃ vs', σ8 = tgS tg x vs' wσ ∧ EnvR G.K m st H7 env' σ8) hb (by rw [hGK]; exact sc7) (by rw [hGK]; exact hr.ext hs.cells x7) (by rw [hGK]; exact rp7)
        (fun vs' er => ⟨rfl, vs', rfl, er⟩) _ s7 u I7' r7
      rw [hGp, hGw, hGe, hGx] at hA
      refine seg_bind_wrap ?_
      rw [hGA]
      refine thnF hA fun _ s8 ⟨σ8, H8, I8, eH, vs', eσ, er⟩ => ?_
      subst eH
      cases hc : evTo c env' cond st with
      | none =>
        simp only [mapGs, turnF, hb, hc] at hm
        cases hm
      | some p =>
        obtain ⟨b, st2⟩ := p
        have hB := hC env' st b st2 hc m σ8 H8 (fun b' H9 => b' = b ∧ ∃ m9, Ext m st H8 m9 st2 H9 ∧ SC G.K cs m9 st2 H9) (by rw [hGK]; exact sc7) er (fun m9 H9 x9 s9 => ⟨rfl, m9, x9, s9⟩) _ s8 I8
        rw [hGp, hGw, hGe, hGx] at hB
        refine seg_bind_wrap ?_
        rw [hGA]
        refine thnF hB fun b' s9 ⟨H9, I9, eb, m9, x9, sc9⟩ => ?_
        subst eb
        rw [hGK] at sc9 er
        have x79 := x7.trans x9
        cases b' with
        | false =>
          simp only [mapGs, turnF, hb, hc] at hm
          simp only [Bool.false_eq_true, if_false]
          obtain ⟨k1, k2, k3⟩ := back eσ I9
          exact seg_again rfl (ih (i + 1) ds ys vs st2 m9 H9 s₀ s9 ps hd' hi' hm ht k1 k2 k3 sc9 (hx.trans x79) (hr.ext hs.cells x79) (hv.ext hs.cells x79) hp1 hp2)
        | true =>
          simp only [if_true]
          cases he : evE c env' eltI st2 with
          | none =>
            simp only [mapGs, turnF, hb, hc, he] at hm
            cases hm
          | some q =>
            obtain ⟨y, st3⟩ := q
            simp only [mapGs, turnF, hb, hc, he] at hm
            have hy : ∀ v, yieldOut cenv v = yieldValue v := fun v => by simp only [yieldOut, hco, Bool.false_eq_true, if_false]
            simp only [hy]
            rw [Sem.bind_eq_wrap', Sem.bind_eq_wrap', Sem.wrap_wrap, Sem.wrap_wrap]
            refine seg_wrap ?_
            rw [hGA]
            have er9 : EnvR G.K m9 st2 H9 env' σ8 := by rw [hGK]; exact er.ext sc7.cells x9
            have hEv := hE env' st2 y st3 he m9 σ8 H9 (fun v H10 => ∃ m10, Ext m9 st2 H9 m10 st3 H10 ∧ SC G.K cs m10 st3 H10 ∧ Rep G.K m10 (Lv m10 st3) H10 y v) (by rw [hGK]; exact sc9) er9 (fun m10 v H10 x10 s10 p10 => ⟨m10, x10, s10, p10⟩) _ s9 I9
            rw [hGp, hGw, hGe, hGx] at hEv
            refine thnF hEv fun w s10 ⟨v, H10, I10, rv, m10, x10, sc10, p10⟩ => ?_
            rw [hGK] at sc10 p10
            have x710 := x79.trans x10
            obtain ⟨k1, k2, k3⟩ := back eσ I10
            have hvs : Reps X.K m10 (Lv m10 st3) H10 (ds ++ [y]) (vs ++ [v]) := (hv.ext hs.cells x710).append (by simp only [Reps]; exact ⟨v, [], rfl, p10, rfl⟩)
            have hcont : ∀ b ∈ C.at_, H10 b = none ∧ ∃ o, s10.heap.get? b = some o ∧ C.cont vs o := fun b hb' => by
              obtain ⟨o, ho, hcc⟩ := hp2 b hb'
              obtain ⟨z1, z2, _⟩ := k1.pin (b, o) (List.mem_append_right _ ho)
              exact ⟨z2, o, z1, hcc⟩
            cases hst : stopG k y with
            | true =>
              rw [hst, if_pos rfl] at hm
              simp only [Option.some.injEq, Prod.mk.injEq] at hm
              obtain ⟨rfl, rfl⟩ := hm
              refine seg_at (seg_yield rfl rfl rfl ⟨ds, y, [], vs, v, st3, m10, H10, ht, rfl, rv, out I10, sc10, hx.trans x710, hvs, hcont, gen I10, fun _ => ⟨rfl, rfl⟩, fun e => ?_⟩)
              rw [hst] at e; cases e
            | false =>
              rw [hst, if_neg Bool.false_ne_true] at hm
              cases hm2 : mapGs k (turnF c env0 tg cond eltI) rest st3 with
              | none => rw [hm2] at hm; cases hm
              | some q2 =>
                obtain ⟨ys2, st4⟩ := q2
                rw [hm2] at hm
                simp only [Option.some.injEq, Prod.mk.injEq] at hm
                obtain ⟨rfl, rfl⟩ := hm
                refine seg_at (seg_yield rfl rfl rfl ⟨ds, y, ys2, vs, v, st3, m10, H10, ht, rfl, rv, out I10, sc10, hx.trans x710, hvs, hcont, gen I10, fun e => ?_, fun _ s' hsl => ?_⟩)
                · rw [hst] at e; cases e
                · have I11 := wokenC (pl := pinsAt fp s7.heap) (vs := vs ++ [v]) I10 (fun b hb' => by
                    obtain ⟨o, ho, _⟩ := hp2 b hb'
                    exact ⟨o, ho⟩) (fun b hb' => by
                    obtain ⟨c1, c2, c3, c4, c5⟩ := hCon b hb'
                    rw [hGs, hGe, hGpn]
                    refine ⟨c1, Ne.symm (Ne.symm c2), c3, fun p hp z => ?_⟩
                    rcases List.mem_append.mp hp with hp | hp
                    · have e : p = (a, go) := List.mem_singleton.mp hp
                      subst e
                      exact c4 z.symm
                    · exact c5 (by rw [← z]; exact (of_pinsAt hp).1)) hsl
                  have keep11 : ∀ b ∈ fp, ∀ o, s7.heap.get? b = some o → s'.heap.get? b = some o ∧ H10 b = none := fun b hb' o e =>
                    let z := I11.pin (b, o) (List.mem_append_right _ (List.mem_append_right _ (mem_pinsAt hb' e)))
                    ⟨z.1, z.2.1⟩
                  have hw8 : wipe σ8 own = wσ := by rw [eσ, wipe_tgS hown, hw]
                  have hl : wσ.length = σ8.length := by rw [← hw8, wipe_length]
                  have J11 : Inv G (pinsAt C.at_ s'.heap) wσ H10 s' := (I11.unpinned (pins := pinsAt C.at_ s'.heap)).weak hl (fun j v e => by
                    rw [← hw8] at e
                    exact (wipe_some e).1)
                  refine seg_again rfl (ih (i + 1) (ds ++ [y]) ys2 (vs ++ [v]) st3 m10 H10 s' s' (pinsAt C.at_ s'.heap) hd' hi' hm2 (by rw [ht]; simp) J11 (T.keep _ _ _ st7 fun b hb' o e => (keep11 b hb' o e).1) k3 sc10 (hx.trans x710) (hr.ext hs.cells x710) hvs
                    (fun p hp => (of_pinsAt hp).1) (fun b hb' => ?_))
                  obtain ⟨o, o1, o2, _⟩ := hsl.2.2.2 b hb'
                  exact ⟨o, mem_pinsAt hb' o1, o2⟩
end
end Mi

set_option Elab.async false
set_option linter.all false
set_option maxRecDepth 100000
set_option maxHeartbeats 4000000
/-! Mi11: a generator expression is made. -/
namespace Mi
open PySem PySem.Spec PyProof.Rows L2

/-- room for one frame more and a builtin over it -/
structure RoomG (k : Nat) (A : Around) : Prop where
  dp : A.depth + 3 * k + 7 < recursionLimit
  un : A.units + 16 * k + 212 < cLine
/-- a generator expression that has not begun; Q: how its turns go -/
def Made (X : Cx) (pins : List (Addr × Obj)) (σ : L2.St) (cs : List (Addr × Addr)) (k : Nat) (gk : GK) (tot : List D) (m : List Addr) (st : Store) (stF : Store) (H : Hp) (u : Value) (s : Shared) : Prop :=
  ∃ (a : Addr) (g : Nat) (c : Code), u = .ref a ∧ a < s.heap.objs.size ∧ s.heap.IsGen a g ∧ s.gens[g]? = some (.fresh c) ∧ Inv X pins σ H s ∧ SC X.K cs m st H ∧
    ∀ (A : Around) (C : Con) (s2 : Shared), A.frames = some X.stack → A.handled = none → A.guards = some [] → A.depth + 3 * k + 6 < recursionLimit → A.units + 16 * k + 203 < cLine →
      (∀ b ∈ C.at_, s.heap.objs.size ≤ b) → s2.os = s.os → AllBare s2.gens → (∀ b o, s.heap.get? b = some o → s2.heap.get? b = some o) → (∀ b ∈ C.at_, ∃ o, s2.heap.get? b = some o ∧ C.cont [] o ∧ ∀ v, o.data ≠ .cell v) →
      Seg (model X.prog X.w) A (RC X pins σ cs m st H C a g tot stF) (YC X pins σ cs m st H C a g gk tot stF) (tot.length + 1) s2 c ((model X.prog X.w).den c) [] s2
theorem ext_tab {m : List Addr} {st : Store} {H : Hp} {P : Addr} {ps more : Array Value} (hP : H P = some (.tbl ps)) : Ext m st H m st (upd H P (.tbl (ps ++ more))) where
  pre := fun _ _ h => h
  keep := fun b o h _ nt => by
    have hb : b ≠ P := fun e => by rw [e, hP] at h; exact nt ps (Option.some.inj h).symm
    rw [upd_ne hb]; exact h
  tbl := fun b qs h => by
    by_cases hb : b = P
    · subst hb
      rw [hP] at h; cases h
      exact ⟨more, upd_same⟩
    · exact ⟨#[], by rw [upd_ne hb]; simpa using h⟩
  new := fun _ h => .inl h
theorem SC.tabbed {K : PySem.W.Frag} {cs : List (Addr × Addr)} {m : List Addr} {st : Store} {H : Hp} {P : Addr} {ps more : Array Value} (s : SC K cs m st H) (hP : H P = some (.tbl ps)) (ht : TriplesOk (ps ++ more).toList) : SC K cs m st (upd H P (.tbl (ps ++ more))) where
  len := s.len
  cell := fun n xs h => by
    obtain ⟨a, ys, h1, h2, h3⟩ := s.cell n xs h
    have ha : a ≠ P := fun e => by rw [e, hP] at h2; cases h2
    exact ⟨a, ys, h1, by rw [upd_ne ha]; exact h2, h3.ext s.cells (ext_tab hP)⟩
  inj := s.inj
  tab := fun q hq => by
    by_cases hb : q.2 = P
    · rw [hb]
      exact ⟨ps ++ more, upd_same, ht⟩
    · obtain ⟨qs, h1, h2⟩ := s.tab q hq
      exact ⟨qs, by rw [upd_ne hb]; exact h1, h2⟩
def IOk (X : Cx) (cs : List (Addr × Addr)) (tge iter : Expr) (env : Env) (st : Store) (r : Option (List D × Store)) : Prop :=
  ∀ ds st', r = some (ds, st') → ∀ m σ H (R : It → Hp → Prop), SC X.K cs m st H → EnvR X.K m st H env σ →
    (∀ m' J H', Ext m st H m' st' H' → SC X.K cs m' st' H' → Items X.K cs m' st' H' ds J → R J H') → tIt X tge iter σ H R
theorem over_start {A : Around} {elt : Expr} {gs : List Comprehension} {scope : Scope} {pos : Pos} {it acc : Value} {cenv : PySem.Env} {fr : List PySem.Env} (hf : A.frames = some fr) :
    (A.over (.compLoop (.GeneratorExp elt gs scope pos) 0 it acc cenv) []).frames = some (cenv :: fr) := by
  obtain ⟨hd, d, fr', gs, u⟩ := A
  simp only at hf
  subst hf
  rfl
theorem over_guards {A : Around} {e : Expr} {it acc : Value} {cenv : PySem.Env} (hf : A.guards = some []) :
    (A.over (.compLoop e 0 it acc cenv) []).guards = some [] := by
  obtain ⟨hd, d, fr', gs, u⟩ := A
  simp only at hf
  subst hf
  rfl
theorem wipe_wipe {σ : L2.St} {own : List Nat} : wipe (wipe σ own) own = wipe σ own := by
  have out : ∀ {r : List Nat} {σ : L2.St} {o : Nat}, wipe (σ.set o none) r = (wipe σ r).set o none := by
    intro r
    induction r with
    | nil => intro σ o; rfl
    | cons q r ih =>
      intro σ o
      unfold wipe
      rw [ih]
      by_cases e : o = q
      · subst e; rfl
      · rw [List.set_comm _ _ e]
  induction own generalizing σ with
  | nil => rfl
  | cons o r ih =>
    show (wipe ((wipe σ r).set o none) r).set o none = (wipe σ r).set o none
    rw [out, ih, List.set_set]
section
variable {W : Wld} {k : Nat} {N : List Str} {sc : Scope} {X : Cx} [NotHot W]
theorem Cxt.gx (C : Cxt W k N sc X) {s : Shared} {H : Hp} {cenv : PySem.Env} {A : Around} {fp : List Addr} {pn : List (Addr × Obj)} (hr : Room k A) (hg : A.guards = some []) : Cxt W k N cenv.scope (gx X s H cenv A fp pn) :=
  ⟨rfl, C.hN, C.nd, fun _ => C.cm, fun _ => hr, (by have := hr.un; show A.units + 128 < _; omega), hg, ⟨C.mdl.free, C.mdl.gcd, C.mdl.lcm, C.mdl.fns, C.mdl.gcs, C.mdl.xfns, C.mdl.xis, C.mdl.xmk, C.mdl.smd⟩⟩
theorem sto_gx {s : Shared} {H : Hp} {cenv : PySem.Env} {A : Around} {fp : List Addr} {pn : List (Addr × Obj)} (S : GenSc cenv.scope) : Sto (locB cenv.scope) (Mi.gx X s H cenv A fp pn) := fun x hx =>
  ⟨locB_ok hx, by
    rcases locB_ok hx with h | h
    · exact .inr h
    · exact absurd rfl (S.cell _ (PySem.mem_of_lookup h))⟩
theorem gen_made (C : Cxt W k N sc X) (RG : RoomG k X.A) {c P : Addr} (TB : GxR.TabB X.base X.mg c P) (hcode : X.env.code = .ref c) (hcs : (c, P) ∈ W.cs)
    {elt tge iter : Expr} {ifs : List Expr} {scope : Scope} {own : List (Str × Nat)} {gpos : Pos} {tg : ITg} {cond : ITo} {eltI : IE} {gk : GK} {env : Env} {st : Store} {r : Option (List D × Store)}
    (ok : BlkOk N sc scope own) (S : GenSc scope) (hi : IOk X W.cs tge iter env st r) (hfold : ∀ v, genFold iter X.env v = pure v) (hown : tgOwn tg (own.map (·.2)) = true)
    (hB : ∀ G, Cxt W k N scope G → Sto (locB scope) G → TgOk G W.cs tg tge ∧ (∀ env st, TsOk G W.cs ifs env st (evTo (callF W.T W.F k) env cond st)) ∧ ∀ env st, EOk G W.cs elt env st (evE (callF W.T W.F k) env eltI st))
    {items : List D} {st1 stF : Store} {tot : List D} (hr : r = some (items, st1)) (hm : mapGs gk (turnF (callF W.T W.F k) (wipeE env (own.map (·.2))) tg cond eltI) items st1 = some (tot, stF))
    {m : List Addr} {σ : L2.St} {H : Hp} {pins : List (Addr × Obj)} {s : Shared} {Q' : Value → Shared → Prop} (hs : SC X.K W.cs m st H) (he : EnvR X.K m st H env σ) (I : Inv X pins σ H s)
    (hQ : ∀ u s5 m5 H5, Ext m st H m5 st1 H5 → Made X pins σ W.cs k gk tot m5 st1 stF H5 u s5 → Q' u s5) :
    wpAny (model X.prog X.w) X.A (eval (.GeneratorExp elt [⟨tge, iter, ifs, 0⟩] scope gpos) X.env) Q' X.xe s := by
  have hfree : ∀ y ∈ scope.names, y.2 = .free → ∃ c, X.env.cells.lookup y.1 = some c := fun y hy e => by
    have z := ok.free y hy e
    rw [← C.hsc] at z
    rcases z with z | z
    · exact I.ok.has _ (.inl z)
    · exact I.ok.has _ (.inr z)
  refine wpAny_GeneratorExp_make S.co (closure_ok hfree) S.cell S.dot S.kind (by have := RG.dp; omega) ?_ hfold
  refine thn (hi items st1 hr m σ H (fun J H' => ∃ m', Ext m st H m' st1 H' ∧ SC X.K W.cs m' st1 H' ∧ Items X.K W.cs m' st1 H' items J) hs he (fun m' J H' a b c => ⟨m', a, b, c⟩) pins s I) fun xv s1 h1 => thn h1 fun itv s2 h2 => ?_
  obtain ⟨it, fp, tn, J, H2, e, I2, T, st2, f2, m2, x2, sc2, hit⟩ := h2
  subst e
  refine ⟨I2.nolimit, ?_⟩
  obtain ⟨ps, hP, ht⟩ := sc2.tab (c, P) hcs
  have hPs : s2.heap.get? P = some { cls := .none, data := .fields ps } := I2.hok P _ hP
  have cd : PySem.W.CodeHd s2.heap c P := TB.code.keeps fun b u e => I2.bk b u e
  have cont : ∀ (code : Value) (h3 : Heap) (tk : Nat) (more : Array Value), Heap.ExtBut P s2.heap h3 → h3.get? P = some { cls := .none, data := .fields (ps ++ more) } → TriplesOk (ps ++ more).toList →
      wpAny (model X.prog X.w) X.A (builtinsFor X.env.globals X.env.builtins) (fun bi s₄ => ∀ h', h'.Ns s₄.heap.objs.size (fun y => if y = ".0" then some (.ref it) else none) → Heap.SameBut s₄.heap.objs.size (s₄.heap.push { cls := .type "frame", data := .dict #[] }) h' →
          Q' (.ref h'.objs.size) { s₄ with
            gens := s₄.gens.push (.fresh (.compStart (.GeneratorExp elt [⟨tge, iter, ifs, 0⟩] scope gpos) 0 (.ref it) .none (genEnv scope (cloFrom X.env.cells scope.names []) s₄.heap.objs.size code bi X.env))),
            toks := s₄.toks + 1 + 1 + 1,
            heap := h'.push { cls := .type "generator", data := .fields #[.int s₄.gens.size 0, .str "<genexpr>" (s₄.toks + 1), .str (X.env.qual ++ "<genexpr>") (s₄.toks + 1 + 1)] } }) X.xe { s2 with heap := h3, toks := tk } := by
    intro code h3 tk more hx hP3 ht3
    obtain ⟨bm, ob, e1, e2, e3, e4, e5, e6, e7, e8⟩ := TB.bm
    have keep3 : ∀ b u, b ≠ P → s2.heap.get? b = some u → h3.get? b = some u := fun b u hb e => hx b u hb e
    refine wpAny_builtinsFor (m := X.mg) (by rw [I2.ok.glob]; exact (I2.mod.glob.keeps I2.bk).extBut hx TB.gP) e1 e2 (keep3 _ _ e4 (I2.bk _ _ e5)) e6 e7 e8 ?_
    have I3 : Inv X pins σ (upd H2 P (.tbl (ps ++ more))) { s2 with heap := h3, toks := tk } := GxR.inv_tab (g' := s2.gens) (d' := s2.drawn) I2 hP keep3 hP3 I2.bare
    have x3 := ext_tab (m := m2) (st := st1) (more := more) hP
    have sc3 := sc2.tabbed (more := more) hP ht3
    have nP : ∀ b ∈ fp, b ≠ P := fun b hb e => by
      have := (f2 b hb).1
      rw [e, hP] at this; cases this
    have st3 : tn 0 h3 := T.keep _ _ _ st2 fun b hb o e => keep3 b o (nP b hb) e
    generalize hH3 : upd H2 P (.tbl (ps ++ more)) = H3 at I3 x3 sc3
    generalize hs3 : ({ s2 with heap := h3, toks := tk } : Shared) = s3 at I3 ⊢
    have st3' : tn 0 s3.heap := by rw [← hs3]; exact st3
    have f3 : ∀ b ∈ fp, FpOk X pins H3 b ∧ b < s3.heap.objs.size := fun b hb => by
      obtain ⟨q0, q⟩ := f2 b hb
      refine ⟨⟨by rw [← hH3, upd_ne (nP b hb)]; exact q0, q⟩, ?_⟩
      obtain ⟨o, e, _⟩ := T.obj _ _ st3' b hb
      exact Heap.lt_size e
    intro h' hn' hs'
    have hsz : h'.objs.size = s3.heap.objs.size + 1 := by rw [hs'.1, Heap.size_push]
    generalize hgo : ({ cls := .type "generator", data := .fields #[.int s3.gens.size 0, .str "<genexpr>" (s3.toks + 1), .str (X.env.qual ++ "<genexpr>") (s3.toks + 1 + 1)] } : Obj) = go
    have hgd : ∀ v, go.data ≠ .cell v := fun v q => by rw [← hgo] at q; cases q
    have hfz : ∀ h : Heap, (h.push go).get? h.objs.size = some go := fun h => Heap.get?_push_size _ (by rw [← hgo]; rfl)
    have hgen : ∀ h : Heap, h.get? h'.objs.size = some go → h.IsGen h'.objs.size s3.gens.size := fun h e => ⟨go, _, _, e, by rw [← hgo], by rw [← hgo], by rw [← hgo]⟩
    generalize hce : genEnv scope (cloFrom X.env.cells scope.names []) s3.heap.objs.size code builtinsNs X.env = cenv
    have hcsc : cenv.scope = scope := by rw [← hce]; rfl
    have kp5 : ∀ b o, s3.heap.get? b = some o → (h'.push go).get? b = some o := fun b o e => Heap.get?_push_of_some _ (hs'.extBut b o (Nat.ne_of_lt (Heap.lt_size e)) (Heap.get?_push_of_some _ e))
    have hG5 : AllBare (s3.gens.push (.fresh (.compStart (.GeneratorExp elt [⟨tge, iter, ifs, 0⟩] scope gpos) 0 (.ref it) .none cenv))) := AllBare.push I3.bare rfl
    have I5 : Inv X pins σ H3 { s3 with gens := s3.gens.push (.fresh (.compStart (.GeneratorExp elt [⟨tge, iter, ifs, 0⟩] scope gpos) 0 (.ref it) .none cenv)), toks := s3.toks + 1 + 1 + 1, heap := h'.push go } :=
      I3.call' (ch := []) rfl (Un.kept kp5) (I3.hok.kept kp5) hG5 fun b z => by simp at z
    refine hQ _ _ m2 H3 (x2.trans x3) ⟨_, _, _, rfl, ?_, hgen _ (hfz _), Array.getElem?_push_size .., I5, sc3, ?_⟩
    · show h'.objs.size < (h'.push go).objs.size
      rw [Heap.size_push]; exact Nat.lt_succ_self _
    intro A Cn s6 hAf hAh hAg hAd hAu hCb hos hba hkp hcon
    have hAf' := over_start (elt := elt) (gs := [⟨tge, iter, ifs, 0⟩]) (scope := scope) (pos := gpos) (it := .ref it) (acc := .none) (cenv := cenv) hAf
    have hcxt : Cxt W k N scope (gx X s3 H3 cenv (A.over (.compLoop (.GeneratorExp elt [⟨tge, iter, ifs, 0⟩] scope gpos) 0 (.ref it) .none cenv) []) fp [(h'.objs.size, go)]) := by
      have := C.gx (s := s3) (H := H3) (cenv := cenv) (A := A.over (.compLoop (.GeneratorExp elt [⟨tge, iter, ifs, 0⟩] scope gpos) 0 (.ref it) .none cenv) []) (fp := fp) (pn := [(h'.objs.size, go)])
        ⟨hAh, by show A.depth + 1 + 3 * k + 5 < _; omega, by show A.units + 3 + 16 * k + 200 < _; omega⟩ (over_guards hAg)
      rw [hcsc] at this
      exact this
    have hsto := sto_gx (X := X) (s := s3) (H := H3) (cenv := cenv) (A := A.over (.compLoop (.GeneratorExp elt [⟨tge, iter, ifs, 0⟩] scope gpos) 0 (.ref it) .none cenv) []) (fp := fp) (pn := [(h'.objs.size, go)]) (by rw [hcsc]; exact S)
    rw [hcsc] at hsto
    obtain ⟨hT, hC, hE⟩ := hB _ hcxt hsto
    have J5 := gen_start (own := own) (code := code) (it := .ref it) (go := go) (tk := s3.toks + 1 + 1 + 1) (A := A.over (.compLoop (.GeneratorExp elt [⟨tge, iter, ifs, 0⟩] scope gpos) 0 (.ref it) .none cenv) []) I3 (by rw [C.hN, C.hsc]; exact ok) S (by rw [C.hN]; exact C.nd) f3
      (by rw [hce]; exact hAf') (fun _ => hAh) hn' hs' hgd hfz hG5
    rw [hce] at J5
    have J6 := J5.call' (s' := s6) (ch := []) hos (Un.kept hkp) (J5.hok.kept hkp) hba fun b z => by simp at z
    have young : ∀ b ∈ Cn.at_, s3.heap.objs.size + 2 ≤ b := fun b hb => by
      have q : (h'.push go).objs.size ≤ b := hCb b hb
      rw [Heap.size_push, hsz] at q
      exact q
    have hcenvL : cenv.locals = s3.heap.objs.size := by rw [← hce]; rfl
    have J7 := J6.pins_of (pins' := pinsAt Cn.at_ s6.heap) fun p hp => by
      obtain ⟨hb, e⟩ := of_pinsAt hp
      obtain ⟨o, e', _, hd⟩ := hcon p.1 hb
      rw [e] at e'; cases e'
      have y := young p.1 hb
      have q : (h'.push go).objs.size ≤ p.1 := hCb p.1 hb
      refine ⟨e, J5.hok.fresh q, ?_, J5.nofs q, hd⟩
      show p.1 ≠ cenv.locals
      rw [hcenvL]
      exact Nat.ne_of_gt (Nat.lt_of_lt_of_le (Nat.lt_add_of_pos_right (by decide)) y)
    have loop := seg_gx (X := X) (pins := pins) (σ := σ) (cs := W.cs) (m0 := m2) (st0 := st1) (H0 := H3) (C := Cn) (k := gk) (tot := tot) (stF := stF) (own := own.map (·.2)) (items := items) (wσ := wipe σ (own.map (·.2))) (env0 := wipeE env (own.map (·.2))) (g := s3.gens.size)
      I3 (fun b hb => (f3 b hb).1) _ rfl (by rw [hcsc]; exact S.co) C.cm hgen T (fun m' st' H' x s => hit m' st' H' (x3.trans x) s) hT hC hE (fun hb => by
        have := (f3 _ hb).2
        rw [hsz] at this
        exact absurd (Nat.lt_of_succ_lt this) (Nat.lt_irrefl _)) hown wipe_wipe (fun b hb => ?_)
      items 0 [] tot [] st1 m2 H3 s6 s6 (pinsAt Cn.at_ s6.heap) rfl (by simp) hm rfl J7 (T.keep _ _ _ st3' fun b _ o e => hkp b o (kp5 b o e)) (fun b hb => (f3 b hb).1.1) sc3 Ext.refl (((he.ext hs.cells x2).ext sc2.cells x3).wipe _) (by simp [Reps]) (fun p hp => (of_pinsAt hp).1) (fun b hb => ?_)
    · show Seg _ A _ _ _ s6 _ ((compStart (.GeneratorExp elt [⟨tge, iter, ifs, 0⟩] scope gpos) 0 (.ref it) .none cenv).onRaise (leaving cenv)) [] s6
      have st6 : tn 0 s6.heap := T.keep _ _ _ st3' fun b _ o e => hkp b o (kp5 b o e)
      unfold compStart
      rw [Sem.onRaise_eq_wrap]
      show Seg _ A _ _ _ s6 _ ((ask >>= _).wrap _ _ _ _) [] s6
      refine seg_bind_wrap (wpAny_askSetting ?_)
      split
      · exact seg_again rfl loop
      · first
          | exact seg_bind_wrap (wpAny_rule (seg_bind_wrap (wpAny_standAt (seg_bind_wrap (T.self _ 0 s6 _ _ st6 (seg_again rfl loop))))))
          | (refine seg_bind_wrap (wpAny_rule ?_); show Seg _ A _ _ _ s6 _ ((standAt iter.pos >>= _).wrap _ _ _ _) [] s6; exact seg_bind_wrap (wpAny_standAt (seg_bind_wrap (T.self _ 0 s6 _ _ st6 (seg_again rfl loop)))))
    · have y := young b hb
      have y1 : s3.heap.objs.size < b := Nat.lt_of_lt_of_le (Nat.lt_add_of_pos_right (by decide)) y
      refine ⟨Nat.le_of_lt y1, by rw [hcenvL]; exact Nat.ne_of_gt y1, fun y c e z => ?_, fun z => ?_, fun z => ?_⟩
      · have e : cenv.cells.lookup y = some c := e
        rw [← hce] at e
        have e : (cloFrom X.env.cells scope.names []).lookup y = some c := e
        rcases cloFrom_mem (PySem.mem_of_lookup e) with hm | ⟨h1, rfl⟩
        · cases hm
        · obtain ⟨c, hc⟩ := hfree _ h1 rfl
          rw [hc] at z
          obtain ⟨w, q⟩ := I3.cell _ _ hc
          have z : c = b := z
          rw [← z] at y1
          exact absurd (Nat.lt_trans y1 q.lt) (Nat.lt_irrefl _)
      · have q : (h'.push go).objs.size ≤ b := hCb b hb
        rw [Heap.size_push, z] at q
        exact absurd q (Nat.not_succ_le_self _)
      · exact absurd (Nat.lt_trans y1 (f3 b z).2) (Nat.lt_irrefl _)
    · obtain ⟨o, o1, o2, _⟩ := hcon b hb
      exact ⟨o, mem_pinsAt hb o1, o2⟩
  cases hf : codeAmong gpos ps.toList with
  | none =>
    refine wpAny_genexprCodeX hcode (cd.code hPs ht) (cd.tab hPs) hf fun c' h' tk hx hge hlt hco' _ htab' _ => ?_
    obtain ⟨o1, vs, f1, tf, fl, tg, inF, tx, tt, op, _, _, _, _, _, _, _, _, _, htr, _⟩ := hco'
    exact cont _ h' tk _ hx htab'.2 htr
  | some cv =>
    refine wpAny_genexprCode_hit hcode (cd.code hPs ht) hf ?_
    exact cont cv s2.heap s2.toks #[] (Heap.ExtBut.refl _ _) (by simpa using hPs) (by simpa using ht)
end
end Mi

set_option Elab.async false
set_option linter.all false
set_option maxRecDepth 100000
set_option maxHeartbeats 4000000
/-! Mi12: who walks a generator expression: all, any, sum. -/
namespace Mi
open PySem PySem.Spec PyProof.Rows L2 GenW

theorem inv_setG {X : Cx} {pins : List (Addr × Obj)} {σ : L2.St} {H : Hp} {s : Shared} {g : Nat} {x : GenState} (I : Inv X pins σ H s) (hx : x.bare = true) : Inv X pins σ H (s.setGen g x) :=
  I.call' (s' := s.setGen g x) (ch := []) rfl (Un.kept fun _ _ e => e) I.hok (allBare_setGen I.bare hx) fun b z => by simp at z
section
variable (X : Cx) (pins : List (Addr × Obj)) (σ : L2.St) (cs : List (Addr × Addr)) (m0 : List Addr) (st0 : Store) (H0 : Hp) (C : Con) (a : Addr) (g : Nat) (k : GK) (tot : List D) (stF : Store)
/-- ready for the next turn, n items are left -/
def GenR (A : Around) (n : Nat) (s : Shared) : Prop :=
  s.heap.IsGen a g ∧ s.heap.NoLimit ∧ g < s.gens.size ∧ ∃ gs, s.gens[g]? = some gs ∧ gs.Goes (model X.prog X.w) A.in1 (RC X pins σ cs m0 st0 H0 C a g tot stF) (YC X pins σ cs m0 st0 H0 C a g k tot stF) n (.send .none) (s.setGen g .running)
/-- an item is out -/
def Got (A : Around) (n : Nat) (v : Value) (s : Shared) : Prop := ∃ ds d es vs x st m H, tot = ds ++ d :: es ∧ es.length + 1 = n ∧ RelV x v ∧ Inv X pins σ H s ∧ SC X.K cs m st H ∧ Ext m0 st0 H0 m st H ∧ Reps X.K m (Lv m st) H (ds ++ [d]) (vs ++ [x]) ∧
  (∀ b ∈ C.at_, H b = none ∧ ∃ o, s.heap.get? b = some o ∧ C.cont vs o) ∧ (stopG k d = true → st = stF ∧ es = []) ∧ (stopG k d = false → ∀ s', SleptC C (vs ++ [x]) s s' → s'.gens = s.gens → GenR X pins σ cs m0 st0 H0 C a g k tot stF A n s')
/-- at its end -/
def Ended (s : Shared) : Prop := ∃ vs m H, Inv X pins σ H s ∧ SC X.K cs m stF H ∧ Ext m0 st0 H0 m stF H ∧ Reps X.K m (Lv m stF) H tot vs ∧ (∀ b ∈ C.at_, H b = none ∧ ∃ o, s.heap.get? b = some o ∧ C.cont vs o)
end
section
variable {X : Cx} {pins : List (Addr × Obj)} {σ : L2.St} {cs : List (Addr × Addr)} {m0 : List Addr} {st0 : Store} {H0 : Hp} {C : Con} {a : Addr} {g : Nat} {k : GK} {tot : List D} {stF : Store}
theorem gnext {A : Around} {n : Nat} {s : Shared} {Q : Option Value → Shared → Prop} {E : Value → Shared → Prop} (hh : A.handled = none) (hd : A.depth < recursionLimit) (hca : a ∉ C.at_) (hcs : cStatics ∉ C.at_)
    (h : GenR X pins σ cs m0 st0 H0 C a g k tot stF A n s) (hY : ∀ m v s', n = m + 1 → Got X pins σ cs m0 st0 H0 C a g k tot stF A m v s' → Q (some v) s')
    (hN : ∀ s', n = 1 → Ended X pins σ cs m0 st0 H0 C tot stF s' → Q none s') : wpAny (model X.prog X.w) A (pyNext (.ref a)) Q E s := by
  obtain ⟨hg, hl, hgl, gs, hgs, hgo⟩ := h
  refine wpAny_gsz (n := g + 1) hgl (wpAny_pyNext_genexpQ (P := PC X pins σ cs m0 st0 H0 C a g tot stF) hh hl hd hg hgs hgo (fun v s₁ gs' hbare hv => ?_) (fun s₁ hp h' hk => ?_))
  · intro hsz
    obtain ⟨ds, d, es, vs, x, st, m, H, t1, t2, t3, t4, t5, t6, t7, t8, t9, t10, t11⟩ := hv
    have hsz1 : g < s₁.gens.size := by
      have q : (s₁.setGen g gs').gens.size = s₁.gens.size := setGen_size _ _ _
      have hsz' : g + 1 ≤ (s₁.setGen g gs').gens.size := hsz
      omega
    cases n with
    | zero =>
      have t2 : es.length + 1 = 0 - 1 := t2
      omega
    | succ n =>
      refine hY n v _ rfl ⟨ds, d, es, vs, x, st, m, H, t1, t2, t3, inv_setG t4 hbare, t5, t6, t7, t8, t10, fun hst s' hsl hgens => ?_⟩
      have hb : ∀ b o, b ∉ C.at_ → s₁.heap.get? b = some o → s'.heap.get? b = some o := hsl.2.2.1
      refine ⟨?_, ?_, by rw [hgens]; show g < (s₁.setGen g gs').gens.size; rw [setGen_size]; exact hsz1, gs', by rw [hgens]; exact setGen_at hsz1, ?_⟩
      · obtain ⟨o, nm, qn, ho, r⟩ := t9
        exact ⟨o, nm, qn, hb a o hca ho, r⟩
      · obtain ⟨mc, hns, hnn⟩ := t4.nolimit
        exact ⟨mc, hns.at' fun o e => hb _ o hcs e, hnn⟩
      · exact t11 hst _ ⟨hsl.1, allBare_setGen hsl.2.1 rfl, hsl.2.2.1, hsl.2.2.2⟩
  · intro _
    obtain ⟨hn, vs, m, H, t4, t5, t6, t7, t8, t9⟩ := hp
    refine hN _ hn ⟨vs, m, H, ?_, t5, t6, t7, fun b hb => ?_⟩
    · have J := inv_setG (g := g) (x := .finished) t4 rfl
      exact J.call' (s' := { s₁.setGen g .finished with heap := h' }) (ch := []) rfl (Un.kept hk) (J.hok.kept hk) J.bare fun b z => by simp at z
    · obtain ⟨q1, o, q2, q3⟩ := t8 b hb
      exact ⟨q1, o, hk _ _ q2, q3⟩
theorem bools_map : ∀ {xs : List D} {bs : List Bool}, boolsD xs = some bs → xs = bs.map D.bl
  | [], bs, h => by simp only [boolsD, Option.some.injEq] at h; subst h; rfl
  | x :: xs, bs, h => by
    cases x <;> simp only [boolsD] at h <;> try (cases h; done)
    simp only [Option.map_eq_some_iff] at h
    obtain ⟨l, hl, rfl⟩ := h
    rw [List.map_cons, bools_map hl]
theorem ints_map : ∀ {xs : List D} {ns : List Int}, intsD xs = some ns → xs = ns.map D.int
  | [], ns, h => by simp only [intsD, Option.some.injEq] at h; subst h; rfl
  | x :: xs, ns, h => by
    cases x <;> simp only [intsD] at h <;> try (cases h; done)
    simp only [Option.map_eq_some_iff] at h
    obtain ⟨l, hl, rfl⟩ := h
    rw [List.map_cons, ints_map hl]
/-- nothing of the consumer's own -/
abbrev Con.no : Con := ⟨[], fun _ _ => True⟩
theorem slept0 {vs : List V} {s : Shared} (h : AllBare s.gens) : SleptC Con.no vs s s := ⟨rfl, h, fun _ _ _ e => e, fun b hb => by simp at hb⟩
/-- what is known when a walk ends -/
def Fin0 (X : Cx) (pins : List (Addr × Obj)) (σ : L2.St) (cs : List (Addr × Addr)) (m0 : List Addr) (st0 : Store) (H0 : Hp) (stF : Store) (s : Shared) : Prop := ∃ m H, Inv X pins σ H s ∧ SC X.K cs m stF H ∧ Ext m0 st0 H0 m stF H
theorem all_loop {A : Around} {R : Result → Shared → Prop} {bs : List Bool} (hh : A.handled = none) (hd : A.depth < recursionLimit) (hb : tot = bs.map D.bl)
    (hR : ∀ s', Fin0 X pins σ cs m0 st0 H0 stF s' → R (.ok (.ret (.bool (bs.all id)))) s') :
    ∀ (n : Nat) (s : Shared), n ≤ tot.length + 1 → (∀ b ∈ bs.take (tot.length + 1 - n), b = true) → GenR X pins σ cs m0 st0 H0 Con.no a g .all tot stF A.in1 n s →
      codeAny (model X.prog X.w) A (.builtin "all.loop" ⟨[.ref a], []⟩) R s := by
  have hlen : tot.length = bs.length := by rw [hb]; simp
  intro n
  induction n with
  | zero =>
    intro s hn ht h
    refine codeAny_builtin F.entry_all_loop ?_
    rw [Around.under_plainId F.plain_all_loop _]
    show wpAny _ A.in1 (pyNext (.ref a) >>= _) _ _ s
    exact wpAny_bind (gnext (A := A.in1) hh hd (by simp) (by simp) h (fun m v s' e _ => by omega) fun s' e _ => by omega)
  | succ n ih =>
    intro s hn ht h
    refine codeAny_builtin F.entry_all_loop ?_
    rw [Around.under_plainId F.plain_all_loop _]
    show wpAny _ A.in1 (pyNext (.ref a) >>= _) _ _ s
    refine wpAny_bind (gnext (A := A.in1) hh hd (by simp) (by simp) h (fun m v s' e hg => ?_) fun s' e hg => ?_)
    · have e : n = m := by omega
      subst e
      obtain ⟨ds, d, es, vs, x, st, mm, H, t1, t2, t3, t4, t5, t6, t7, t8, t10, t11⟩ := hg
      have hl := congrArg List.length t1
      simp only [List.length_append, List.length_cons] at hl
      have hdl : ds.length = tot.length + 1 - (n + 1) := by omega
      have hbd : ∃ b, bs[ds.length]? = some b ∧ d = .bl b := by
        have z : tot[ds.length]? = some d := by rw [t1]; simp
        rw [hb, List.getElem?_map] at z
        cases q : bs[ds.length]? with
        | none => rw [q] at z; cases z
        | some b => rw [q] at z; cases z; exact ⟨b, rfl, rfl⟩
      obtain ⟨b, hb1, rfl⟩ := hbd
      have hx : x = .bl b := by
        have z := t7.get (i := ds.length) (x := D.bl b) (by simp)
        have z2 := t7.length
        simp only [List.length_append, List.length_cons, List.length_nil] at z2
        obtain ⟨y, y1, y2⟩ := z
        simp only [Rep] at y2
        have e3 : vs.length = ds.length := by omega
        rw [← e3] at y1
        simp at y1
        rw [y1]; exact y2
      subst hx
      obtain rfl : v = .bool b := t3
      refine wpAny_bind (wpAny_holding (wpAny_truthy_bool ?_))
      refine wpAny_bind (wpAny_letGo ?_)
      cases b with
      | true =>
        simp only [if_true]
        refine wpAny_pure ⟨plainId_quiet F.plain_all_loop _, ih s' (by omega) (fun b hb' => ?_) (t11 rfl s' (slept0 t4.bare) rfl)⟩
        have e4 : tot.length + 1 - n = ds.length + 1 := by omega
        rw [e4, List.take_succ, hb1] at hb'
        rcases List.mem_append.mp hb' with z | z
        · exact ht b (by rw [← hdl]; exact z)
        · simpa using z
      | false =>
        simp only [Bool.false_eq_true, if_false]
        refine wpAny_bind (wpAny_rule (wpAny_pure ?_))
        obtain ⟨e5, e6⟩ := t10 rfl
        subst e5
        have e7 : bs.all id = false := by
          rw [List.all_eq_false]
          exact ⟨false, List.mem_of_getElem? hb1, by simp⟩
        have := hR s' ⟨mm, H, t4, t5, t6⟩
        rw [e7] at this
        exact this
    · have e : n = 0 := by omega
      subst e
      obtain ⟨vs, mm, H, t4, t5, t6, _⟩ := hg
      refine wpAny_bind (wpAny_rule (wpAny_pure ?_))
      have e7 : bs.all id = true := by
        rw [List.all_eq_true]
        intro b hb'
        have := ht b (by rw [show tot.length + 1 - (0 + 1) = bs.length by omega, List.take_length]; exact hb')
        rw [this]; rfl
      have := hR s' ⟨mm, H, t4, t5, t6⟩
      rw [e7] at this
      exact this
theorem any_loop {A : Around} {R : Result → Shared → Prop} {bs : List Bool} (hh : A.handled = none) (hd : A.depth < recursionLimit) (hb : tot = bs.map D.bl)
    (hR : ∀ s', Fin0 X pins σ cs m0 st0 H0 stF s' → R (.ok (.ret (.bool (bs.any id)))) s') :
    ∀ (n : Nat) (s : Shared), n ≤ tot.length + 1 → (∀ b ∈ bs.take (tot.length + 1 - n), b = false) → GenR X pins σ cs m0 st0 H0 Con.no a g .any tot stF A.in1 n s →
      codeAny (model X.prog X.w) A (.builtin "any.loop" ⟨[.ref a], []⟩) R s := by
  have hlen : tot.length = bs.length := by rw [hb]; simp
  intro n
  induction n with
  | zero =>
    intro s hn ht h
    refine codeAny_builtin F.entry_any_loop ?_
    rw [Around.under_plainId F.plain_any_loop _]
    show wpAny _ A.in1 (pyNext (.ref a) >>= _) _ _ s
    exact wpAny_bind (gnext (A := A.in1) hh hd (by simp) (by simp) h (fun m v s' e _ => by omega) fun s' e _ => by omega)
  | succ n ih =>
    intro s hn ht h
    refine codeAny_builtin F.entry_any_loop ?_
    rw [Around.under_plainId F.plain_any_loop _]
    show wpAny _ A.in1 (pyNext (.ref a) >>= _) _ _ s
    refine wpAny_bind (gnext (A := A.in1) hh hd (by simp) (by simp) h (fun m v s' e hg => ?_) fun s' e hg => ?_)
    · have e : n = m := by omega
      subst e
      obtain ⟨ds, d, es, vs, x, st, mm, H, t1, t2, t3, t4, t5, t6, t7, t8, t10, t11⟩ := hg
      have hl := congrArg List.length t1
      simp only [List.length_append, List.length_cons] at hl
      have hdl : ds.length = tot.length + 1 - (n + 1) := by omega
      have hbd : ∃ b, bs[ds.length]? = some b ∧ d = .bl b := by
        have z : tot[ds.length]? = some d := by rw [t1]; simp
        rw [hb, List.getElem?_map] at z
        cases q : bs[ds.length]? with
        | none => rw [q] at z; cases z
        | some b => rw [q] at z; cases z; exact ⟨b, rfl, rfl⟩
      obtain ⟨b, hb1, rfl⟩ := hbd
      have hx : x = .bl b := by
        have z := t7.get (i := ds.length) (x := D.bl b) (by simp)
        have z2 := t7.length
        simp only [List.length_append, List.length_cons, List.length_nil] at z2
        obtain ⟨y, y1, y2⟩ := z
        simp only [Rep] at y2
        have e3 : vs.length = ds.length := by omega
        rw [← e3] at y1
        simp at y1
        rw [y1]; exact y2
      subst hx
      obtain rfl : v = .bool b := t3
      refine wpAny_bind (wpAny_holding (wpAny_truthy_bool ?_))
      refine wpAny_bind (wpAny_letGo ?_)
      cases b with
      | false =>
        simp only [Bool.false_eq_true, if_false]
        refine wpAny_pure ⟨plainId_quiet F.plain_any_loop _, ih s' (by omega) (fun b hb' => ?_) (t11 rfl s' (slept0 t4.bare) rfl)⟩
        have e4 : tot.length + 1 - n = ds.length + 1 := by omega
        rw [e4, List.take_succ, hb1] at hb'
        rcases List.mem_append.mp hb' with z | z
        · exact ht b (by rw [← hdl]; exact z)
        · simpa using z
      | true =>
        simp only [if_true]
        refine wpAny_bind (wpAny_rule (wpAny_pure ?_))
        obtain ⟨e5, e6⟩ := t10 rfl
        subst e5
        have e7 : bs.any id = true := by
          rw [List.any_eq_true]
          exact ⟨true, List.mem_of_getElem? hb1, by simp⟩
        have := hR s' ⟨mm, H, t4, t5, t6⟩
        rw [e7] at this
        exact this
    · have e : n = 0 := by omega
      subst e
      obtain ⟨vs, mm, H, t4, t5, t6, _⟩ := hg
      refine wpAny_bind (wpAny_rule (wpAny_pure ?_))
      have e7 : bs.any id = false := by
        rw [List.any_eq_false]
        intro b hb'
        have := ht b (by rw [show tot.length + 1 - (0 + 1) = bs.length by omega, List.take_length]; exact hb')
        rw [this]; simp
      have := hR s' ⟨mm, H, t4, t5, t6⟩
      rw [e7] at this
      exact this
end
end Mi

set_option Elab.async false
set_option linter.all false
set_option maxRecDepth 100000
set_option maxHeartbeats 4000000
/-! Mi13: sum, tuple of a generator expression. -/
namespace Mi
open PySem PySem.Spec PyProof.Rows L2 GenW

theorem intsD_map (ns : List Int) : intsD (ns.map D.int) = some ns := by
  induction ns with
  | nil => rfl
  | cons n ns ih => simp [intsD, ih]
theorem map_int_inj : ∀ {a b : List Int}, a.map V.int = b.map V.int → a = b
  | [], [], _ => rfl
  | [], _ :: _, h => by simp at h
  | _ :: _, [], h => by simp at h
  | x :: a, y :: b, h => by
    simp only [List.map_cons, List.cons.injEq, V.int.injEq] at h
    rw [h.1, map_int_inj h.2]
/-- the sum's own list -/
abbrev Con.sum (S : Addr) : Con := ⟨[S], fun vs o => ∃ (ns : List Int) (t : Tok) (c : Nat), vs = ns.map V.int ∧ o = lstObj #[.int ns.sum t] c⟩
section
variable {X : Cx} {pins : List (Addr × Obj)} {σ : L2.St} {cs : List (Addr × Addr)} {m0 : List Addr} {st0 : Store} {H0 : Hp} {a : Addr} {g : Nat} {tot : List D} {stF : Store}
theorem sum_loop {A : Around} {R : Result → Shared → Prop} {ns : List Int} {S : Addr} (hh : A.handled = none) (hd : A.depth < recursionLimit) (hb : tot = ns.map D.int) (hSa : S ≠ a) (hSc : S ≠ cStatics)
    (hR : ∀ s' t, Fin0 X pins σ cs m0 st0 H0 stF s' → R (.ok (.ret (.int ns.sum t))) s') :
    ∀ (n : Nat) (s : Shared) (tA : Tok) (c : Nat) (stage : Int), (stage = 0 ∨ stage = 2) → n ≤ tot.length + 1 → s.heap.get? S = some (lstObj #[.int (ns.take (tot.length + 1 - n)).sum tA] c) → GenR X pins σ cs m0 st0 H0 (Con.sum S) a g .sum tot stF A.in1 n s →
      codeAny (model X.prog X.w) A (.builtin "sum.loop" ⟨[.ref a, .ref S, rawInt stage, rawInt 0], []⟩) R s := by
  have hlen : tot.length = ns.length := by rw [hb]; simp
  have hca : a ∉ (Con.sum S).at_ := by simp; exact Ne.symm hSa
  have hcc : cStatics ∉ (Con.sum S).at_ := by simp; exact Ne.symm hSc
  intro n
  induction n with
  | zero =>
    intro s tA c stage hst hn hS h
    refine codeAny_builtin F.entry_sum_loop ?_
    rw [Around.under_plainId F.plain_sum_loop _]
    show wpAny _ A.in1 (seqItems? (.ref S) >>= _) _ _ s
    refine wpAny_bind (wpAny_seqItems hS rfl ?_)
    show wpAny _ A.in1 (tryCatch (pyNext (.ref a)) _ >>= _) _ _ s
    exact wpAny_bind (wpAny_tryCatch (gnext (A := A.in1) hh hd hca hcc h (fun m v s' e _ => by omega) fun s' e _ => by omega))
  | succ n ih =>
    intro s tA c stage hst hn hS h
    generalize hacc : (ns.take (tot.length + 1 - (n + 1))).sum = acc at hS
    refine codeAny_builtin F.entry_sum_loop ?_
    rw [Around.under_plainId F.plain_sum_loop _]
    show wpAny _ A.in1 (seqItems? (.ref S) >>= _) _ _ s
    refine wpAny_bind (wpAny_seqItems hS rfl ?_)
    show wpAny _ A.in1 (tryCatch (pyNext (.ref a)) _ >>= _) _ _ s
    refine wpAny_bind (wpAny_tryCatch (gnext (A := A.in1) hh hd hca hcc h (fun m v s' e hg => ?_) fun s' e hg => ?_))
    · have e : n = m := by omega
      subst e
      obtain ⟨ds, d, es, vs, x, st, mm, H, t1, t2, t3, t4, t5, t6, t7, t8, t10, t11⟩ := hg
      have hl := congrArg List.length t1
      simp only [List.length_append, List.length_cons] at hl
      have hdl : ds.length = tot.length + 1 - (n + 1) := by omega
      have hds : ds = (ns.take ds.length).map D.int := by
        have z := congrArg (List.take ds.length) t1
        rw [List.take_left, hb, ← List.map_take] at z
        exact z.symm
      have hbd : ∃ i, ns[ds.length]? = some i ∧ d = .int i := by
        have z : tot[ds.length]? = some d := by rw [t1]; simp
        rw [hb, List.getElem?_map] at z
        cases q : ns[ds.length]? with
        | none => rw [q] at z; cases z
        | some b => rw [q] at z; cases z; exact ⟨b, rfl, rfl⟩
      obtain ⟨i, hb1, rfl⟩ := hbd
      have e4 : tot.length + 1 - n = ds.length + 1 := by omega
      have htk : ns.take (ds.length + 1) = ns.take ds.length ++ [i] := by rw [List.take_succ, hb1]; rfl
      have hvx : vs ++ [x] = (ns.take ds.length ++ [i]).map V.int := by
        have e9 : ds ++ [D.int i] = (ns.take ds.length ++ [i]).map D.int := by rw [List.map_append, ← hds]; rfl
        exact ints_of (by rw [e9]; exact intsD_map _) t7
      have hsum : (ns.take (ds.length + 1)).sum = (ns.take ds.length).sum + i := by rw [htk]; simp
      have hx : x = .int i := by
        have := congrArg List.getLast? hvx
        simpa using this
      subst hx
      obtain ⟨tv, rfl⟩ := (show ∃ tk, v = Value.int i tk from t3)
      obtain ⟨hS0, o, hSo, _⟩ := t8 S (by simp)
      obtain ⟨hns, o2, hSo2, ns2, t22, c2, hvs, ho2⟩ := t8 S (by simp)
      rw [← hdl] at hacc
      have cont : ∀ (h' : Heap) (tk : Nat) (c' : Nat) (tt : Tok) (stage' : Int), (stage' = 0 ∨ stage' = 2) → (∀ b o, b ≠ S → s'.heap.get? b = some o → h'.get? b = some o) → h'.get? S = some (lstObj #[.int (acc + i) tt] c') →
          codeAny (model X.prog X.w) A (.builtin "sum.loop" ⟨[.ref a, .ref S, rawInt stage', rawInt 0], []⟩) R { s' with heap := h', toks := tk } := fun h' tk c' tt stage' hs' hk hS' => by
        refine ih _ tt c' stage' hs' (by omega) (by rw [e4, hsum, hacc]; exact hS') (t11 rfl _ ⟨rfl, t4.bare, fun b o hb' e => hk b o (by simpa using hb') e, fun b hb' => ?_⟩ rfl)
        have e : b = S := by simpa using hb'
        subst e
        exact ⟨_, hS', ⟨ns.take ds.length ++ [i], tt, c', hvx, by rw [show (ns.take ds.length ++ [i]).sum = acc + i by rw [← hacc]; simp]⟩, fun v q => by cases q⟩
      have oth : ∀ {h : Heap} {f : Obj → Obj} {b : Addr} {o : Obj}, b ≠ S → h.get? b = some o → (h.update S f).get? b = some o := fun hb' e => (Heap.get?_update_other _ _ (Ne.symm hb')).trans e
      subst ho2
      rcases hst with rfl | rfl
      · show wpAny _ A.in1 (if (_ : Bool) = true then (mkInt (acc + i) >>= _) else _) _ _ _
        split
        · refine wpAny_bind (wpAny_mkInt ?_)
          show wpAny _ A.in1 (updateSeq S (fun _ => #[.int (acc + i) s'.toks]) >>= _) _ _ _
          refine wpAny_bind ?_
          refine wpAny_updateSeq hSo2 rfl (wpAny_pure ⟨plainId_quiet F.plain_sum_loop _, ?_⟩)
          exact cont _ _ _ s'.toks 0 (.inl rfl) (fun b o hb' e => oth hb' e) (Heap.get?_update_self _ hSo2 rfl)
        · refine wpAny_bind (wpAny_rule ?_)
          refine wpAny_bind (wpAny_attempt (wpAny_holding (wpAny_add_int ?_)))
          show wpAny _ A.in1 (updateSeq S (fun _ => #[.int (acc + i) s'.toks]) >>= _) _ _ _
          refine wpAny_bind (wpAny_updateSeq hSo2 rfl ?_)
          have hS₂ := Heap.get?_update_self (Obj.mapSeq fun _ => #[Value.int (acc + i) s'.toks]) hSo2 rfl
          refine wpAny_bind (wpAny_letGo ?_)
          refine wpAny_bind (wpAny_updateSeq hS₂ rfl (wpAny_pure ⟨plainId_quiet F.plain_sum_loop _, ?_⟩))
          exact cont _ _ _ s'.toks 2 (.inr rfl) (fun b o hb' e => oth hb' (oth hb' e)) (Heap.get?_update_self _ hS₂ rfl)
      · show wpAny _ A.in1 ((holding [Value.int i tv] (binaryOp .Add (.int acc tA) (.int i tv))).attempt >>= _) _ _ _
        refine wpAny_bind (wpAny_attempt (wpAny_holding (wpAny_add_int ?_)))
        show wpAny _ A.in1 (updateSeq S (fun _ => #[.int (acc + i) s'.toks]) >>= _) _ _ _
        refine wpAny_bind (wpAny_updateSeq hSo2 rfl ?_)
        have hS₂ := Heap.get?_update_self (Obj.mapSeq fun _ => #[Value.int (acc + i) s'.toks]) hSo2 rfl
        refine wpAny_bind (wpAny_letGo ?_)
        refine wpAny_bind (wpAny_updateSeq hS₂ rfl (wpAny_pure ⟨plainId_quiet F.plain_sum_loop _, ?_⟩))
        exact cont _ _ _ s'.toks 2 (.inr rfl) (fun b o hb' e => oth hb' (oth hb' e)) (Heap.get?_update_self _ hS₂ rfl)
    · have e : n = 0 := by omega
      subst e
      obtain ⟨vs, mm, H, t4, t5, t6, _⟩ := hg
      have e9 : ns.take (tot.length + 1 - (0 + 1)) = ns := by rw [show tot.length + 1 - (0 + 1) = ns.length by omega, List.take_length]
      refine wpAny_pure ?_
      rw [e9] at hacc
      rw [← hacc]
      exact hR s' tA ⟨mm, H, t4, t5, t6⟩
end
end Mi

set_option Elab.async false
set_option linter.all false
set_option maxRecDepth 100000
set_option maxHeartbeats 4000000
/-! Mi14: all, any, sum, tuple of a generator expression, as expressions. -/
namespace Mi
open PySem PySem.Spec PyProof.Rows L2 GenW

/-- the list that a tuple is made of -/
abbrev Con.col (S : Addr) : Con := ⟨[S], fun vs o => ∃ (acc : Array Value) (c : Nat), o = lstObj acc c ∧ Vals vs acc.toList⟩
section
variable {X : Cx} {pins : List (Addr × Obj)} {σ : L2.St} {cs : List (Addr × Addr)} {m0 : List Addr} {st0 : Store} {H0 : Hp} {a : Addr} {g : Nat} {tot : List D} {stF : Store}
/-- all is collected -/
def FinC (X : Cx) (pins : List (Addr × Obj)) (σ : L2.St) (cs : List (Addr × Addr)) (m0 : List Addr) (st0 : Store) (H0 : Hp) (tot : List D) (stF : Store) (acc : Array Value) (s : Shared) : Prop :=
  ∃ vs m H, Inv X pins σ H s ∧ SC X.K cs m stF H ∧ Ext m0 st0 H0 m stF H ∧ Reps X.K m (Lv m stF) H tot vs ∧ Vals vs acc.toList
theorem col_loop {A : Around} {R : Result → Shared → Prop} {S : Addr} {res : Value} (hh : A.handled = none) (hd : A.depth < recursionLimit) (hSa : S ≠ a) (hSc : S ≠ cStatics) (hz : tot.length ≤ sizeLine)
    (hR : ∀ s' acc c, s'.heap.get? S = some (lstObj acc c) → FinC X pins σ cs m0 st0 H0 tot stF acc s' → R (.ok (.ret res)) s') :
    ∀ (n : Nat) (s : Shared), n ≤ tot.length + 1 → GenR X pins σ cs m0 st0 H0 (Con.col S) a g .tuple tot stF A.in1 n s →
      codeAny (model X.prog X.w) A (.builtin "list.extend.loop" ⟨[.ref S, .ref a, res], []⟩) R s := by
  have hca : a ∉ (Con.col S).at_ := by simp; exact Ne.symm hSa
  have hcc : cStatics ∉ (Con.col S).at_ := by simp; exact Ne.symm hSc
  intro n
  induction n with
  | zero =>
    intro s hn h
    refine codeAny_builtin F.entry_extend_loop ?_
    rw [Around.under_plainId F.plain_extend_loop _]
    show wpAny _ A.in1 (pyNext (.ref a) >>= _) _ _ s
    exact wpAny_bind (gnext (A := A.in1) hh hd hca hcc h (fun m v s' e _ => by omega) fun s' e _ => by omega)
  | succ n ih =>
    intro s hn h
    refine codeAny_builtin F.entry_extend_loop ?_
    rw [Around.under_plainId F.plain_extend_loop _]
    show wpAny _ A.in1 (pyNext (.ref a) >>= _) _ _ s
    refine wpAny_bind (gnext (A := A.in1) hh hd hca hcc h (fun m v s' e hg => ?_) fun s' e hg => ?_)
    · have e : n = m := by omega
      subst e
      obtain ⟨ds, d, es, vs, x, st, mm, H, t1, t2, t3, t4, t5, t6, t7, t8, t10, t11⟩ := hg
      have hl := congrArg List.length t1
      simp only [List.length_append, List.length_cons] at hl
      obtain ⟨hS0, o, hSo, acc, c, rfl, hv⟩ := t8 S (by simp)
      have hvl := t7.length
      have hva := hv.length
      simp only [List.length_append, List.length_cons, List.length_nil, Array.length_toList] at hvl hva
      have hasz : acc.size < sizeLine := by omega
      show wpAny _ A.in1 (updateSeq S (·.push v) >>= _) _ _ _
      refine wpAny_bind ?_
      refine wpAny_updateSeq hSo rfl (wpAny_pure ⟨plainId_quiet F.plain_extend_loop _, ?_⟩) (Nat.le_of_lt hasz) (by show (acc.push v).size ≤ sizeLine + 1; rw [Array.size_push]; omega)
      refine ih _ (by omega) (t11 rfl _ ⟨rfl, t4.bare, fun b o hb e => (Heap.get?_update_other _ _ (fun h : S = b => hb (by rw [h]; exact List.mem_singleton.mpr rfl))).trans e, fun b hb' => ?_⟩ rfl)
      have e : b = S := by simpa using hb'
      subst e
      exact ⟨_, Heap.get?_update_self _ hSo rfl, ⟨acc.push v, _, rfl, by rw [Array.toList_push]; exact hv.append (.cons t3 .nil)⟩, fun v q => by cases q⟩
    · have e : n = 0 := by omega
      subst e
      obtain ⟨vs, mm, H, t4, t5, t6, t7, t8⟩ := hg
      obtain ⟨hS0, o, hSo, acc, c, rfl, hv⟩ := t8 S (by simp)
      exact wpAny_pure (hR s' acc c hSo ⟨vs, mm, H, t4, t5, t6, t7, hv⟩)
/-- what the making gives, to a consumer at A -/
theorem Made.ready {W : Wld} {k : Nat} {gk : GK} {u : Value} {s s2 : Shared} {A : Around} {C : Con} (h : Made X pins σ cs k gk tot m0 st0 stF H0 u s) (hAf : A.frames = some X.stack) (hAh : A.handled = none) (hAg : A.guards = some [])
    (hAd : A.depth + 3 * k + 6 < recursionLimit) (hAu : A.units + 1 + 16 * k + 203 < cLine) (hC : ∀ b ∈ C.at_, s.heap.objs.size ≤ b) (hos : s2.os = s.os) (hg2 : s2.gens = s.gens) (hk : ∀ b o, s.heap.get? b = some o → s2.heap.get? b = some o)
    (hcon : ∀ b ∈ C.at_, ∃ o, s2.heap.get? b = some o ∧ C.cont [] o ∧ ∀ v, o.data ≠ .cell v) :
    ∃ a g, u = .ref a ∧ a < s.heap.objs.size ∧ s.heap.IsGen a g ∧ cStatics < s.heap.objs.size ∧ Inv X pins σ H0 s ∧ GenR X pins σ cs m0 st0 H0 C a g gk tot stF A (tot.length + 1) s2 := by
  obtain ⟨a, g, c, e, ha, hg, hgs, I, sc, wake⟩ := h
  have hb2 : AllBare s2.gens := by rw [hg2]; exact I.bare
  have hcl : cStatics < s.heap.objs.size := let ⟨_, hn, _⟩ := I.nolimit; hn.lt
  refine ⟨a, g, e, ha, hg, hcl, I, hg.keeps hk, I.nolimit.keeps hk, by rw [hg2]; exact (Array.getElem?_eq_some_iff.mp hgs).1, .fresh c, by rw [hg2]; exact hgs, rfl, ?_⟩
  exact wake A.in1 C (s2.setGen g .running) hAf hAh hAg hAd (by show A.units + 1 + 16 * k + 203 < _; omega) hC hos (allBare_setGen hb2 rfl) hk hcon
end
section
variable {W : Wld} {k : Nat} {N : List Str} {sc : Scope} {X : Cx} {pins : List (Addr × Obj)} {σ : L2.St} {m0 : List Addr} {st0 : Store} {H0 : Hp} {tot : List D} {stF : Store} {u : Value} {s : Shared} {Q' : Value → Shared → Prop} {E : Value → Shared → Prop} [NotHot W]
theorem go_all (C : Cxt W k N sc X) (RG : RoomG k X.A) {bs : List Bool} (hb : boolsD tot = some bs) (h : Made X pins σ W.cs k .all tot m0 st0 stF H0 u s) (hQ : ∀ s', Fin0 X pins σ W.cs m0 st0 H0 stF s' → Q' (.bool (bs.all id)) s') :
    wpAny (model X.prog X.w) X.A (call (.builtin "all") [u]) Q' E s := by
  have hf : X.A.frames = some X.stack := by obtain ⟨_, _, _, _, _, _, _, I, _⟩ := h; exact I.ok.frames
  obtain ⟨a, g, rfl, ha, hg, hcl, I, R⟩ := h.ready (W := W) (A := X.A.in1) (C := Con.no) (s2 := s) hf C.rm.hd C.grd (by have := RG.dp; show X.A.depth + 3 * k + 6 < _; omega) (by have := RG.un; show X.A.units + 1 + 1 + 16 * k + 203 < _; omega) (by simp) rfl rfl (fun _ _ e => e) (by simp)
  refine call_function_tree F.kind_all F.plain_all F.entry_all (F.args_all1 _) ?_
  unfold Builtin.«all»
  refine wpAny_bind (m := oneArg "all" _) (wpAny_pure ?_)
  refine wpAny_bind (wpAny_pyIter_gen hg ?_)
  exact wpAny_pure ⟨plainId_quiet F.plain_all_loop _, all_loop C.rm.hd (by have := RG.dp; show X.A.depth < _; omega) (bools_map hb) hQ _ s (Nat.le_refl _) (by simp) R⟩
theorem go_any (C : Cxt W k N sc X) (RG : RoomG k X.A) {bs : List Bool} (hb : boolsD tot = some bs) (h : Made X pins σ W.cs k .any tot m0 st0 stF H0 u s) (hQ : ∀ s', Fin0 X pins σ W.cs m0 st0 H0 stF s' → Q' (.bool (bs.any id)) s') :
    wpAny (model X.prog X.w) X.A (call (.builtin "any") [u]) Q' E s := by
  have hf : X.A.frames = some X.stack := by obtain ⟨_, _, _, _, _, _, _, I, _⟩ := h; exact I.ok.frames
  obtain ⟨a, g, rfl, ha, hg, hcl, I, R⟩ := h.ready (W := W) (A := X.A.in1) (C := Con.no) (s2 := s) hf C.rm.hd C.grd (by have := RG.dp; show X.A.depth + 3 * k + 6 < _; omega) (by have := RG.un; show X.A.units + 1 + 1 + 16 * k + 203 < _; omega) (by simp) rfl rfl (fun _ _ e => e) (by simp)
  refine call_function_tree F.kind_any F.plain_any F.entry_any (F.args_any1 _) ?_
  unfold Builtin.«any»
  refine wpAny_bind (m := oneArg "any" _) (wpAny_pure ?_)
  refine wpAny_bind (wpAny_pyIter_gen hg ?_)
  exact wpAny_pure ⟨plainId_quiet F.plain_any_loop _, any_loop C.rm.hd (by have := RG.dp; show X.A.depth < _; omega) (bools_map hb) hQ _ s (Nat.le_refl _) (by simp) R⟩
theorem go_sum (C : Cxt W k N sc X) (RG : RoomG k X.A) {ns : List Int} (hb : intsD tot = some ns) (h : Made X pins σ W.cs k .sum tot m0 st0 stF H0 u s) (hQ : ∀ s' t, Fin0 X pins σ W.cs m0 st0 H0 stF s' → Q' (.int ns.sum t) s') :
    wpAny (model X.prog X.w) X.A (call (.builtin "sum") [u]) Q' E s := by
  have hf : X.A.frames = some X.stack := by obtain ⟨_, _, _, _, _, _, _, I, _⟩ := h; exact I.ok.frames
  obtain ⟨a, g, c, e, ha, hg, hgs, I, sc', wake⟩ := id h
  subst e
  refine call_function_tree F.kind_sum F.plain_sum F.entry_sum (F.args_sum1 _) ?_
  unfold Builtin.«sum»
  simp only [List.length_cons, List.length_nil]
  rw [if_neg (by decide)]
  refine wpAny_bind (wpAny_of_eq (show Builtin.Builtins.bindParams "sum" ["start"] 0 { } = pure [none] from rfl) ?_)
  refine wpAny_bind (wpAny_pyIter_gen hg ?_)
  refine wpAny_bind (wpAny_mkInt ?_)
  refine wpAny_bind (wpAny_pure ?_)
  simp only [List.forIn_cons, List.forIn_nil]
  refine wpAny_bind (wpAny_bind (wpAny_bind (wpAny_isInstance (T := "int") (b := false) (typeIs_int _ _ _) PySem.sub_int_str ?_)))
  simp only [Bool.false_eq_true, if_false]
  refine wpAny_pure (wpAny_bind (wpAny_bind (wpAny_isInstance (T := "int") (b := false) (typeIs_int _ _ _) PySem.sub_int_bytes ?_)))
  simp only [Bool.false_eq_true, if_false]
  refine wpAny_pure (wpAny_bind (wpAny_bind (wpAny_isInstance (T := "int") (b := false) (typeIs_int _ _ _) PySem.sub_int_bytearray ?_)))
  simp only [Bool.false_eq_true, if_false]
  refine wpAny_pure (wpAny_pure ?_)
  refine wpAny_bind (wpAny_newObj_type ?_)
  have kp : ∀ (o : Obj), ∀ b u, s.heap.get? b = some u → (s.heap.push o).get? b = some u := fun o b u e => Heap.get?_push_of_some _ e
  obtain ⟨a', g', e', ha', hg', hcl, I', R⟩ := h.ready (W := W) (A := X.A.in1) (C := Con.sum s.heap.objs.size) (s2 := { s with heap := s.heap.push (lstObj #[.int 0 s.toks] 0), toks := s.toks + 1 }) hf C.rm.hd C.grd (by have := RG.dp; show X.A.depth + 3 * k + 6 < _; omega) (by have := RG.un; show X.A.units + 1 + 1 + 16 * k + 203 < _; omega) (by simp) rfl rfl (kp _) (fun b hb' => by
    have e : b = s.heap.objs.size := by simpa using hb'
    subst e
    exact ⟨_, Heap.get?_push_size _ rfl, ⟨[], _, _, rfl, rfl⟩, fun v q => by cases q⟩)
  cases e'
  refine wpAny_pure ⟨plainId_quiet F.plain_sum_loop _, sum_loop C.rm.hd (by have := RG.dp; show X.A.depth < _; omega) (ints_map hb) (Nat.ne_of_gt ha) (Nat.ne_of_gt hcl) hQ _ _ s.toks 0 0 (.inl rfl) (Nat.le_refl _) (by simp; exact Heap.get?_push_size _ rfl) R⟩
end
end Mi

set_option Elab.async false
set_option linter.all false
set_option maxRecDepth 100000
set_option maxHeartbeats 4000000
/-! Mi15: tuple of a generator expression; the expressions. -/
namespace Mi
open PySem PySem.Spec PyProof.Rows L2 GenW

section
variable {W : Wld} {k : Nat} {N : List Str} {sc : Scope} {X : Cx} {pins : List (Addr × Obj)} {σ : L2.St} {m0 : List Addr} {st0 : Store} {H0 : Hp} {tot : List D} {stF : Store} {u : Value} {s : Shared} {Q' : Value → Shared → Prop} {E : Value → Shared → Prop} [NotHot W]
theorem go_collect {Q : List Value → Shared → Prop} {a : Addr} (C : Cxt W k N sc X) (RG : RoomG k X.A) (hz : tot.length ≤ sizeLine) (h : Made X pins σ W.cs k .tuple tot m0 st0 stF H0 (.ref a) s)
    (hQ : ∀ s' acc, FinC X pins σ W.cs m0 st0 H0 tot stF acc s' → Q acc.toList s') : wpAny (model X.prog X.w) X.A.in1.in1 (collect (.ref a)) Q E s := by
  have hf : X.A.frames = some X.stack := by obtain ⟨_, _, _, _, _, _, _, I, _⟩ := h; exact I.ok.frames
  obtain ⟨a', g, c, e, ha, hg, hgs, I, sc', wake⟩ := id h
  cases e
  have hSI : s.heap.objs.size ≠ a := Nat.ne_of_gt ha
  have kp : ∀ (o : Obj), ∀ b u, s.heap.get? b = some u → (s.heap.push o).get? b = some u := fun o b u e => Heap.get?_push_of_some _ e
  unfold collect
  refine wpAny_bind (wpAny_runValue (codeAny_builtin F.entry_proto_collect ?_))
  rw [Around.under_plainId F.plain_proto_collect _]
  show wpAny _ X.A.in1.in1.in1 (newList [] >>= fun l => again (.builtin "list.__iadd__" ⟨[l, .ref a], []⟩)) _ _ s
  refine wpAny_bind (wpAny_newObj_type ?_)
  refine wpAny_pure ⟨plainId_quiet F.plain_list_iadd _, codeAny_builtin F.entry_list_iadd ?_⟩
  rw [Around.under_plainId F.plain_list_iadd _]
  show wpAny _ X.A.in1.in1.in1 (Builtin.List.listExtendWith (.ref s.heap.objs.size) (.ref a) (.ref s.heap.objs.size)) _ _ _
  unfold Builtin.List.listExtendWith
  have gty : ∀ {h : Heap}, (∀ b o, s.heap.get? b = some o → h.get? b = some o) → h.IsGen a g := fun {h} q => hg.keeps q
  refine wpAny_bind (wpAny_typeOf (Heap.IsGen.typeIs (s := { s with heap := _ }) (gty (kp _))) ?_)
  have h1 : Builtin.List.listSameRef (.ref s.heap.objs.size) (.ref a) = false := by simp [Builtin.List.listSameRef, hSI]
  have h2 : (Value.type "generator" == Value.type "list") = false := by decide
  have h3 : (Value.type "generator" == Value.type "tuple") = false := by decide
  simp only [h1, h2, h3, Bool.or_false, Bool.false_eq_true, if_false]
  refine wpAny_bind (wpAny_pyIter_gen (s := { s with heap := _ }) (gty (kp _)) ?_)
  refine wpAny_bind (wpAny_holding ?_)
  unfold Builtin.List.listLengthHint
  refine wpAny_bind (wpAny_specialOf (Heap.IsGen.typeIs (s := { s with heap := _ }) (gty (kp _))) F.gen_no_len ?_)
  show wpAny _ X.A.in1.in1.in1 (specialOf (Value.ref a) (Str.ofString "__length_hint__") >>= _) _ _ _
  refine wpAny_bind (wpAny_specialOf (Heap.IsGen.typeIs (s := { s with heap := _ }) (gty (kp _))) F.gen_no_hint ?_)
  refine wpAny_pure ?_
  show wpAny _ X.A.in1.in1.in1 (rule "list.extend.makes-room" >>= fun _ => Builtin.List.listTouch (.ref s.heap.objs.size) >>= fun _ =>
    again (.builtin "list.extend.loop" ⟨[.ref s.heap.objs.size, .ref a, .ref s.heap.objs.size], []⟩)) _ _ _
  refine wpAny_bind (wpAny_rule ?_)
  have hS₁ : (s.heap.push { cls := .type "list", data := .seq ([] : List Value).toArray }).get? s.heap.objs.size = some { cls := .type "list", data := .seq ([] : List Value).toArray } := Heap.get?_push_size _ rfl
  refine wpAny_bind ?_
  show wpAny _ X.A.in1.in1.in1 (updateSeq s.heap.objs.size (·.push .none) >>= fun _ => updateSeq s.heap.objs.size (·.pop)) _ _ _
  refine wpAny_bind (wpAny_updateSeq hS₁ rfl ?_)
  have hS₂ := Heap.get?_update_self (Obj.mapSeq (·.push Value.none)) hS₁ rfl
  refine wpAny_updateSeq hS₂ rfl ?_
  have hS₃ := Heap.get?_update_self (Obj.mapSeq (·.pop)) hS₂ rfl
  have oth : ∀ b o, s.heap.get? b = some o →
      (((s.heap.push { cls := .type "list", data := .seq ([] : List Value).toArray }).update s.heap.objs.size (Obj.mapSeq (·.push Value.none))).update s.heap.objs.size (Obj.mapSeq (·.pop))).get? b = some o :=
    fun b o e => have hb : b ≠ s.heap.objs.size := Nat.ne_of_lt (Heap.lt_size e)
      (Heap.get?_update_other _ _ (Ne.symm hb)).trans ((Heap.get?_update_other _ _ (Ne.symm hb)).trans (kp _ b o e))
  obtain ⟨a', g', e', ha', hg', hcl, I', R⟩ := h.ready (W := W) (A := X.A.in1.in1.in1) (C := Con.col s.heap.objs.size)
    (s2 := { s with heap := ((s.heap.push { cls := .type "list", data := .seq ([] : List Value).toArray }).update s.heap.objs.size (Obj.mapSeq (·.push Value.none))).update s.heap.objs.size (Obj.mapSeq (·.pop)) })
    hf C.rm.hd C.grd (by have := RG.dp; show X.A.depth + 3 * k + 6 < _; omega) (by have := RG.un; show X.A.units + 1 + 1 + 1 + 1 + 16 * k + 203 < _; omega) (by simp) rfl rfl oth (fun b hb' => by
    have e : b = s.heap.objs.size := by simpa using hb'
    subst e
    exact ⟨_, hS₃, ⟨#[], _, rfl, .nil⟩, fun v q => by cases q⟩)
  cases e'
  have hh1 : X.A.in1.in1.handled = none := C.rm.hd
  have hd1 : X.A.in1.in1.depth < recursionLimit := by have := RG.dp; show X.A.depth < _; omega
  refine wpAny_pure ⟨plainId_quiet F.plain_extend_loop _, col_loop (A := X.A.in1.in1) hh1 hd1 hSI (Nat.ne_of_gt hcl) hz (fun s' acc c hS hfin => ?_) _ _ (Nat.le_refl _) R⟩
  show wpAny _ X.A.in1.in1 (load s.heap.objs.size >>= _) _ _ s'
  refine wpAny_bind (wpAny_load hS ?_)
  exact wpAny_pure (hQ s' acc hfin)
theorem go_tuple (C : Cxt W k N sc X) (RG : RoomG k X.A) (hz : tot.length ≤ sizeLine) (h : Made X pins σ W.cs k .tuple tot m0 st0 stF H0 u s)
    (hQ : ∀ s' acc, FinC X pins σ W.cs m0 st0 H0 tot stF acc s' → Q' (.ref s'.heap.objs.size) { s' with heap := s'.heap.push { cls := .type "tuple", data := .seq acc } }) : wpAny (model X.prog X.w) X.A (call (.type "tuple") [u]) Q' E s := by
  obtain ⟨a, g, c, e, ha, hg, hgs, I, sc', wake⟩ := id h
  subst e
  refine callType_codes (Q₁ := fun obj s₁ => s₁.TypeIs obj "tuple" ∧ Q' obj s₁) F.called_tuple (F.typeCall_tuple_1 _) F.entry_object_init ?_ fun obj s₁ h₁ => ?_
  · refine codeAny_of_tree ?_
    show wpAny _ X.A.in1.in1 (do checkBuiltinCall "tuple.__new__" ⟨[.type "tuple", .ref a], []⟩; again (.builtin "tuple.__new__" ⟨[.type "tuple", .ref a], []⟩)) _ _ s
    refine wpAny_bind (wpAny_of_eq (F.newCall_tuple_1 _) (wpAny_pure ⟨plainId_quiet F.plain_tuple_new _, codeAny_builtin F.entry_tuple_new ?_⟩))
    rw [Around.under_plainId F.plain_tuple_new _]
    have hsub := sub_tuple_self
    have hinit := init_tuple_lookup
    have hmh := madeHere_tuple
    have hTI : s.TypeIs (.ref a) "generator" := hg.typeIs
    wp_walk using wpAny_typeOf hTI, go_collect C RG hz h
    intro s' acc hfin
    have hsz : acc.size ≤ sizeLine := by
      obtain ⟨vs, m, H, _, _, _, r, v⟩ := hfin
      have e1 := r.length
      have e2 := v.length
      simp only [Array.length_toList] at e2
      omega
    show wpAny _ _ (Builtin.Tuple.tupleExact acc.toList.toArray >>= fun v => ret v) _ _ _
    unfold Builtin.Tuple.tupleExact
    refine wpAny_bind (wpAny_newObj_type ?_ (by show acc.toList.toArray.size ≤ sizeLine; simp only [Array.toArray_toList]; exact hsz))
    refine wpAny_pure ?_
    have e : acc.toList.toArray = acc := by simp
    rw [e]
    exact ⟨⟨_, Heap.get?_push_size _ rfl, rfl⟩, hQ s' acc hfin⟩
  · exact ⟨h₁.1, F.args_object_init_2 obj _, object_init_meets F.called_tuple.init.lookup F.called_tuple.made (by decide) X.prog X.w X.A.in1 _ s₁ ⟨h₁.1, rfl, h₁.2⟩⟩
end
end Mi

set_option Elab.async false
set_option linter.all false
set_option maxRecDepth 100000
set_option maxHeartbeats 4000000
/-! Mi16: generator expressions as expressions. -/
namespace Mi
open PySem PySem.Spec PyProof.Rows L2 GenW

def foldB : Expr → Bool
  | .List _ _ => false
  | .Set _ _ _ => false
  | _ => true
theorem foldB_set {e : Expr} {env : PySem.Env} (h : foldB e = true) (v : Value) : foldedSetIterable e env v = pure v := by
  cases e <;> first | rfl | cases h
/-- what a for-statement walks as it stands -/
def foldSB : Expr → Bool
  | .Set _ _ _ => false
  | _ => true
theorem foldSB_set {e : Expr} {env : PySem.Env} (h : foldSB e = true) (v : Value) : foldedSetIterable e env v = pure v := by
  cases e <;> first | rfl | cases h
theorem foldB_gen {e : Expr} {env : PySem.Env} (h : foldB e = true) (v : Value) : genFold e env v = pure v := by
  cases e <;> first | rfl | cases h
/-- where generator expressions may stand -/
structure GenCx (W : Wld) (k : Nat) (X : Cx) : Prop where
  room : RoomG k X.A
  code : ∃ c P, GxR.TabB X.base X.mg c P ∧ X.env.code = .ref c ∧ (c, P) ∈ W.cs
section
variable {W : Wld} {k : Nat} {N : List Str} {sc : Scope} {X : Cx} [NotHot W]
theorem s_gen (C : Cxt W k N sc X) (GC : GenCx W k X) {gk : GK} {x : Str} {px p gpos : Pos} {elt tge iter : Expr} {ifs : List Expr} {scope : Scope} {own : List (Str × Nat)} {tg : ITg} {cond : ITo} {eltI : IE} {env : Env} {st : Store} {r : Option (List D × Store)}
    (hx : gkN gk = x) (hg : glB sc x = true) (ok : BlkOk N sc scope own) (S : GenSc scope) (hi : IOk X W.cs tge iter env st r) (hfold : foldB iter = true)
    (hB : ∀ G, Cxt W k N scope G → Sto (locB scope) G → TgOk G W.cs tg tge ∧ (∀ env st, TsOk G W.cs ifs env st (evTo (callF W.T W.F k) env cond st)) ∧ ∀ env st, EOk G W.cs elt env st (evE (callF W.T W.F k) env eltI st)) :
    EOk X W.cs (.Call (.Name x px) [.GeneratorExp elt [⟨tge, iter, ifs, 0⟩] scope gpos] [] p) env st (match (generalizing := false) r with
    | some (xs, st1) => if tgOwn tg (own.map (·.2)) then (match mapGs gk (turnF (callF W.T W.F k) (wipeE env (own.map (·.2))) tg cond eltI) xs st1 with
      | some (ys, st2) => if ys.length ≤ sizeLine then (match gkF gk ys with
        | some d => some (d, st2)
        | none => none) else none
      | none => none) else none
    | none => none) := by
  intro d st' e m σ H Q hs hr hq
  cases r with
  | none => cases e
  | some p1 =>
    obtain ⟨xs, st1⟩ := p1
    simp only at e
    split at e
    · rename_i hown
      split at e
      · rename_i ys st2 hm
        split at e
        · rename_i hz
          split at e
          · rename_i d' hgk
            cases e
            obtain ⟨c, P, TB, hcode, hcs⟩ := GC.code
            intro pins s I
            have free : ∀ {y : Str}, y ∈ (["len", "abs", "int", "max", "min", "repr", "str", "divmod", "tuple", "list", "sum", "all", "any", "isinstance", "bool", "range", "zip", "enumerate"] : List Str) → X.mg y = none := fun {y} h => C.mdl.free y h
            have hest : starEach [.GeneratorExp elt [⟨tge, iter, ifs, 0⟩] scope gpos] X.env = (false, eval (.GeneratorExp elt [⟨tge, iter, ifs, 0⟩] scope gpos) X.env) :: starEach [] X.env := rfl
            subst hx
            have fin : ∀ {s' : Shared} {m5 : List Addr} {H5 : Hp} {v : V} {u : Value}, Ext m st H m5 st1 H5 → Fin0 X pins σ W.cs m5 st1 H5 st' s' → (∀ m' H', Rep X.K m' (Lv m' st') H' d v) → RelV v u → EP X pins σ Q u s' := by
              intro s' m5 H5 v u x5 hf hv hu
              obtain ⟨m6, H6, I6, sc6, x6⟩ := hf
              exact ⟨v, H6, I6, hu, hq m6 v H6 (x5.trans x6) sc6 (hv _ _)⟩
            cases gk with
            | tuple =>
              simp only [gkF, Option.some.injEq] at hgk
              subst hgk
              refine wpAny_Call_Name_kw (ld_blt I (C.gl hg) (free (by decide)) PyProof.Rows.boot_tuple ?_)
              refine PyProof.Rows.callWith_type1 ?_ hest (by rfl)
              rw [hest]
              show wpAny _ _ (spliced ((false, eval (.GeneratorExp elt [⟨tge, iter, ifs, 0⟩] scope gpos) X.env) :: backTo p (starEach [] X.env))) _ _ s
              refine Calls.spliced_cons (gen_made C GC.room TB hcode hcs ok S hi (foldB_gen hfold) hown hB rfl hm hs hr I fun u s5 m5 H5 x5 md => ?_)
              refine Calls.spliced_nil ?_
              refine go_tuple C GC.room hz md fun s' acc hf => ?_
              obtain ⟨vs, m6, H6, I6, sc6, x6, r6, v6⟩ := hf
              have hl : vs.length ≤ sizeLine := by rw [← r6.length]; exact hz
              have hn := I6.hok.fresh (Nat.le_refl s'.heap.objs.size)
              have e9 : ({ cls := .type "tuple", data := .seq acc } : Obj) = { cls := .type "tuple", data := .seq acc.toList.toArray } := by simp
              refine ⟨.ref s'.heap.objs.size, _, ?_, rfl, hq m6 _ _ ((x5.trans x6).trans (ext_new hn)) (sc6.new hn) (rep_tup sc6 hn r6)⟩
              rw [e9]
              exact I6.laid (t' := s'.toks) (o := .tup vs) (fun b ob q => Heap.get?_push_of_some _ q) (Nat.le_refl _) ⟨hl, _, v6, IsTup.new _ _⟩
            | all =>
              simp only [gkF, Option.map_eq_some_iff] at hgk
              obtain ⟨bs, hbs, rfl⟩ := hgk
              refine wpAny_Call_Name_kw (ld_blt I (C.gl hg) (free (by decide)) PyProof.Rows.boot_all ?_)
              refine PyProof.Rows.callWith_builtin1 ?_ hest (by rfl)
              rw [hest]
              show wpAny _ _ (spliced ((false, eval (.GeneratorExp elt [⟨tge, iter, ifs, 0⟩] scope gpos) X.env) :: backTo p (starEach [] X.env))) _ _ s
              refine Calls.spliced_cons (gen_made C GC.room TB hcode hcs ok S hi (foldB_gen hfold) hown hB rfl hm hs hr I fun u s5 m5 H5 x5 md => ?_)
              refine Calls.spliced_nil ?_
              exact go_all C GC.room hbs md fun s' hf => fin x5 hf (v := .bl (bs.all id)) (fun _ _ => by simp only [Rep]) rfl
            | any =>
              simp only [gkF, Option.map_eq_some_iff] at hgk
              obtain ⟨bs, hbs, rfl⟩ := hgk
              refine wpAny_Call_Name_kw (ld_blt I (C.gl hg) (free (by decide)) PyProof.Rows.boot_any ?_)
              refine PyProof.Rows.callWith_builtin1 ?_ hest (by rfl)
              rw [hest]
              show wpAny _ _ (spliced ((false, eval (.GeneratorExp elt [⟨tge, iter, ifs, 0⟩] scope gpos) X.env) :: backTo p (starEach [] X.env))) _ _ s
              refine Calls.spliced_cons (gen_made C GC.room TB hcode hcs ok S hi (foldB_gen hfold) hown hB rfl hm hs hr I fun u s5 m5 H5 x5 md => ?_)
              refine Calls.spliced_nil ?_
              exact go_any C GC.room hbs md fun s' hf => fin x5 hf (v := .bl (bs.any id)) (fun _ _ => by simp only [Rep]) rfl
            | sum =>
              simp only [gkF, Option.map_eq_some_iff] at hgk
              obtain ⟨ns, hns, rfl⟩ := hgk
              refine wpAny_Call_Name_kw (ld_blt I (C.gl hg) (free (by decide)) PyProof.Rows.boot_sum ?_)
              refine PyProof.Rows.callWith_builtin1 ?_ hest (by rfl)
              rw [hest]
              show wpAny _ _ (spliced ((false, eval (.GeneratorExp elt [⟨tge, iter, ifs, 0⟩] scope gpos) X.env) :: backTo p (starEach [] X.env))) _ _ s
              refine Calls.spliced_cons (gen_made C GC.room TB hcode hcs ok S hi (foldB_gen hfold) hown hB rfl hm hs hr I fun u s5 m5 H5 x5 md => ?_)
              refine Calls.spliced_nil ?_
              exact go_sum C GC.room hns md fun s' t hf => fin x5 hf (v := .int ns.sum) (fun _ _ => by simp only [Rep]) ⟨t, rfl⟩
          · cases e
        · cases e
      · cases e
    · cases e
end
end Mi

set_option Elab.async false
set_option linter.all false
set_option maxRecDepth 100000
set_option maxHeartbeats 4000000
/-! Mi17: stores are cut; comprehensions. -/
namespace Mi
open PySem PySem.Spec PyProof.Rows L2 GenW

theorem lv_take {m : List Addr} {st : Store} {n : Nat} {a : Addr} (h : Lv (m.take n) (st.take n) a) : Lv m st a := by
  obtain ⟨i, xs, h1, h2⟩ := h
  rw [List.getElem?_take] at h1 h2
  split at h1
  · rename_i hi
    rw [if_pos hi] at h2
    exact ⟨i, xs, h1, h2⟩
  · cases h1
mutual
theorem rep_take {K : PySem.W.Frag} {m : List Addr} {st : Store} {H : Hp} {n : Nat} : ∀ {d : D} {v : V}, fitD n d = true → Rep K m (Lv m st) H d v → Rep K (m.take n) (Lv (m.take n) (st.take n)) H d v
  | .non, v, _, h => by simpa only [Rep] using h
  | .bl b, v, _, h => by simpa only [Rep] using h
  | .int i, v, _, h => by simpa only [Rep] using h
  | .str s, v, _, h => by simpa only [Rep] using h
  | .tup xs, v, f, h => by
    simp only [Rep] at h ⊢
    simp only [fitD] at f
    obtain ⟨a, ys, e, h1, h2⟩ := h
    exact ⟨a, ys, e, h1, reps_takeC f h2⟩
  | .lst xs, v, f, h => by
    simp only [Rep] at h ⊢
    simp only [fitD] at f
    obtain ⟨a, ys, e, h1, nl, h2⟩ := h
    exact ⟨a, ys, e, h1, fun l => nl (lv_take l), reps_takeC f h2⟩
  | .scr xs, v, f, h => by
    simp only [Rep] at h ⊢
    simp only [fitD] at f
    obtain ⟨a, ys, e, h1, h2⟩ := h
    refine ⟨a, ys, e, ?_, reps_takeC f h2⟩
    rcases h1 with h1 | ⟨h1, nl⟩ | h1
    · exact .inl h1
    · exact .inr (.inl ⟨h1, fun l => nl (lv_take l)⟩)
    · exact .inr (.inr h1)
  | .cell k, v, f, h => by
    simp only [Rep] at h ⊢
    simp only [fitD, decide_eq_true_eq] at f
    obtain ⟨a, e, h1⟩ := h
    exact ⟨a, e, by rw [List.getElem?_take, if_pos f]; exact h1⟩
  | .dct ks vs, v, f, h => by
    simp only [Rep] at h ⊢
    simp only [fitD] at f
    obtain ⟨a, ys, e, h1, h3, h2⟩ := h
    exact ⟨a, ys, e, h1, h3, reps_takeC f h2⟩
  | .exc c g vs, v, f, h => by
    simp only [Rep] at h ⊢
    simp only [fitD] at f
    obtain ⟨a, C, od, ys, e1, e2, h1, hT, h2, h3⟩ := h
    exact ⟨a, C, od, ys, e1, e2, h1, hT, reps_takeC f h2, h3⟩
theorem reps_takeC {K : PySem.W.Frag} {m : List Addr} {st : Store} {H : Hp} {n : Nat} : ∀ {ds : List D} {vs : List V}, fitDs n ds = true → Reps K m (Lv m st) H ds vs → Reps K (m.take n) (Lv (m.take n) (st.take n)) H ds vs
  | [], vs, _, h => by simpa only [Reps] using h
  | d :: ds, vs, f, h => by
    simp only [Reps] at h ⊢
    simp only [fitDs, Bool.and_eq_true] at f
    obtain ⟨y, r, e, h1, h2⟩ := h
    exact ⟨y, r, e, rep_take f.1 h1, reps_takeC f.2 h2⟩
end
theorem SC.cut {K : PySem.W.Frag} {cs : List (Addr × Addr)} {m : List Addr} {st : Store} {H : Hp} {n : Nat} (s : SC K cs m st H) (h : okC n (st.take n) = true) : SC K cs (m.take n) (st.take n) H where
  len := by rw [List.length_take, List.length_take, s.len]
  cell := fun i xs e => by
    have e0 := e
    rw [List.getElem?_take] at e
    split at e
    · rename_i hi
      obtain ⟨a, ys, h1, h2, h3⟩ := s.cell i xs e
      refine ⟨a, ys, by rw [List.getElem?_take, if_pos hi]; exact h1, h2, reps_takeC ?_ h3⟩
      unfold okC at h
      rw [List.all_eq_true] at h
      exact h (some xs) (List.mem_of_getElem? e0)
    · cases e
  inj := fun i j a xs ys h1 h2 h3 h4 => by
    rw [List.getElem?_take] at h1 h2 h3 h4
    split at h1
    · rename_i hi
      rw [if_pos hi] at h3
      split at h2
      · rename_i hj
        rw [if_pos hj] at h4
        exact s.inj i j a xs ys h1 h2 h3 h4
      · cases h2
    · cases h1
  tab := s.tab
theorem ext_cut {m m' : List Addr} {st st' : Store} {H H' : Hp} {n : Nat} (x : Ext m st H m' st' H') (hl : m.length ≤ n) : Ext m st H (m'.take n) (st'.take n) H' where
  pre := fun i a h => by
    have := (List.getElem?_eq_some_iff.mp h).1
    rw [List.getElem?_take, if_pos (by omega)]
    exact x.pre i a h
  keep := x.keep
  tbl := x.tbl
  new := fun a l => x.new a (lv_take l)
/-- at an exit -/
theorem cut_ok {K : PySem.W.Frag} {cs : List (Addr × Addr)} {m0 m : List Addr} {st0 st : Store} {H0 H : Hp} {d d' : D} {v : V} {st' : Store} (h : cutD st0.length d st = some (d', st')) (hl : m0.length = st0.length) (x : Ext m0 st0 H0 m st H) (s : SC K cs m st H) (r : Rep K m (Lv m st) H d v) :
    d' = d ∧ ∃ m', Ext m0 st0 H0 m' st' H ∧ SC K cs m' st' H ∧ Rep K m' (Lv m' st') H d v := by
  have gen : ∀ {n : Nat}, st0.length ≤ n → fitD n d = true → okC n (st.take n) = true → d' = d → st' = st.take n → d' = d ∧ ∃ m', Ext m0 st0 H0 m' st' H ∧ SC K cs m' st' H ∧ Rep K m' (Lv m' st') H d v := by
    intro n hn f o e1 e2
    subst e2
    exact ⟨e1, m.take n, ext_cut x (by omega), s.cut o, rep_take f r⟩
  have easy : ∀ (hk : (if fitD st0.length d && okC st0.length (st.take st0.length) then some (d, st.take st0.length) else none) = some (d', st')), d' = d ∧ ∃ m', Ext m0 st0 H0 m' st' H ∧ SC K cs m' st' H ∧ Rep K m' (Lv m' st') H d v := fun hk => by
    split at hk
    · rename_i hc
      simp only [Bool.and_eq_true] at hc
      cases hk
      exact gen (Nat.le_refl _) hc.1 hc.2 rfl rfl
    · cases hk
  cases d with
  | cell k =>
    simp only [cutD] at h
    split at h
    · rename_i hk
      split at h
      · rename_i ho
        cases h
        exact gen (Nat.le_refl _) (by simp only [fitD, decide_eq_true_eq]; exact hk) ho rfl rfl
      · cases h
    · split at h
      · rename_i hk
        split at h
        · rename_i ho
          cases h
          exact gen (Nat.le_succ _) (by simp only [fitD, decide_eq_true_eq]; omega) ho rfl rfl
        · cases h
      · cases h
  | _ => exact easy h
/-- at an exit by an exception -/
theorem cut_exc {K : PySem.W.Frag} {cs : List (Addr × Addr)} {m0 m : List Addr} {st0 st : Store} {H0 H : Hp} {d d' : D} {cls : Value} {od : Option Addr} {st' : Store} (h : cutD st0.length d st = some (d', st')) (hl : m0.length = st0.length) (x : Ext m0 st0 H0 m st H) (s : SC K cs m st H) (r : ExcRep K m (Lv m st) H d cls od) :
    d' = d ∧ ∃ m', Ext m0 st0 H0 m' st' H ∧ SC K cs m' st' H ∧ ExcRep K m' (Lv m' st') H d cls od := by
  cases d with
  | exc c f vs =>
    have h : (if fitD st0.length (.exc c f vs) && okC st0.length (st.take st0.length) then some (D.exc c f vs, st.take st0.length) else none) = some (d', st') := h
    split at h
    · rename_i hc
      simp only [Bool.and_eq_true, fitD] at hc
      cases h
      obtain ⟨C, ys, e1, e2, e3, e4, e5⟩ := r
      exact ⟨rfl, m.take st0.length, ext_cut x (by omega), s.cut hc.2, C, ys, e1, e2, e3, reps_takeC hc.1 e4, e5⟩
    · cases h
  | _ => exact r.elim
end Mi

set_option Elab.async false
set_option linter.all false
set_option maxRecDepth 100000
set_option maxHeartbeats 4000000
/-! Mi18: comprehensions; targets. -/
namespace Mi
open PySem PySem.Spec PyProof.Rows L2 GenW

section
variable {W : Wld} {k : Nat} {N : List Str} {sc : Scope} {X : Cx} [NotHot W]
/-- a comprehension's own names, as they stand -/
theorem sto_blk {scope : Scope} {s : Shared} {H : Hp} {c : Addr} {cl : List (Str × Addr)} {fp : List Addr} : Sto (locB scope) (X.blk s H scope (compEnvC scope cl c X.env) fp) := fun x hx => by
  have keep : ∀ {kd : NameKind}, kd ≠ .free → scope.names.lookup x = some kd → (relS scope X.env.scope).names.lookup x = some kd := fun h1 h2 => lookup_relS_keep h1 h2
  rcases locB_ok hx with h | h
  · exact ⟨.inl (keep (by decide) h), .inr (keep (by decide) h)⟩
  · refine ⟨.inr (keep (by decide) h), .inl ?_⟩
    show (scope.names.lookup x == some NameKind.cell) = true
    rw [h]; rfl
theorem Cxt.blk (C : Cxt W k N sc X) {scope : Scope} {s : Shared} {H : Hp} {c : Addr} {cl : List (Str × Addr)} {fp : List Addr} : Cxt W k N (relS scope sc) (X.blk s H scope (compEnvC scope cl c X.env) fp) :=
  ⟨by show relS scope X.env.scope = _; rw [C.hsc], C.hN, C.nd, (fun _ => C.cm), (fun _ => C.rm), C.un, C.grd, ⟨C.mdl.free, C.mdl.gcd, C.mdl.lcm, C.mdl.fns, C.mdl.gcs, C.mdl.xfns, C.mdl.xis, C.mdl.xmk, C.mdl.smd⟩⟩
theorem GenCx.blk (G : GenCx W k X) {scope : Scope} {s : Shared} {H : Hp} {c : Addr} {cl : List (Str × Addr)} {fp : List Addr} : GenCx W k (X.blk s H scope (compEnvC scope cl c X.env) fp) :=
  ⟨G.room, G.code⟩
theorem set_append_last {α : Type} {l : List α} {x y : α} : (l ++ [x]).set l.length y = l ++ [y] := by simp
/-- one cell's content changes -/
theorem ext_set {K : PySem.W.Frag} {cs : List (Addr × Addr)} {m : List Addr} {st : Store} {H : Hp} {n : Nat} {a : Addr} {xs ys : List D} {vs : List V} (s : SC K cs m st H) (h1 : st[n]? = some (some xs)) (h2 : m[n]? = some a) :
    Ext m st H m (st.set n (some ys)) (upd H a (.lst vs)) where
  pre := fun _ _ h => h
  keep := fun b o h nl _ => by
    have hb : b ≠ a := fun e => nl ⟨n, xs, h1, by rw [e]; exact h2⟩
    rw [upd_ne hb]; exact h
  tbl := fun b ps h => by
    have hb : b ≠ a := fun e => by
      obtain ⟨a', ws, q1, q2, _⟩ := s.cell n xs h1
      rw [h2] at q1; cases q1
      rw [e, q2] at h; cases h
    exact ⟨#[], by rw [upd_ne hb]; simpa using h⟩
  new := fun b ⟨i, zs, q1, q2⟩ => by
    by_cases hi : i = n
    · subst hi
      exact .inl ⟨i, xs, h1, q2⟩
    · rw [List.getElem?_set_ne (Ne.symm hi)] at q1
      exact .inl ⟨i, zs, q1, q2⟩
theorem SC.setc {K : PySem.W.Frag} {cs : List (Addr × Addr)} {m : List Addr} {st : Store} {H : Hp} {n : Nat} {a : Addr} {xs ys : List D} {vs : List V} (s : SC K cs m st H) (h1 : st[n]? = some (some xs)) (h2 : m[n]? = some a) (r : Reps K m (Lv m st) H ys vs) :
    SC K cs m (st.set n (some ys)) (upd H a (.lst vs)) := by
  have x : Ext m st H m (st.set n (some ys)) (upd H a (.lst vs)) := ext_set s h1 h2
  refine ⟨by rw [List.length_set]; exact s.len, fun i zs e => ?_, fun i j b us ws q1 q2 q3 q4 => ?_, fun q hq => ?_⟩
  · by_cases hi : i = n
    · subst hi
      have hl : i < st.length := (List.getElem?_eq_some_iff.mp h1).1
      rw [List.getElem?_set_self hl] at e
      cases e
      exact ⟨a, vs, h2, upd_same, r.ext s.cells x⟩
    · rw [List.getElem?_set_ne (Ne.symm hi)] at e
      obtain ⟨b, ws, q1, q2, q3⟩ := s.cell i zs e
      have hb : b ≠ a := fun e2 => hi (s.inj i n a _ _ e h1 (by rw [← e2]; exact q1) h2)
      exact ⟨b, ws, q1, by rw [upd_ne hb]; exact q2, q3.ext s.cells x⟩
  · have key : ∀ {i : Nat} {us : List D}, (st.set n (some ys))[i]? = some (some us) → ∃ us', st[i]? = some (some us') := fun {i us} q => by
      by_cases hi : i = n
      · exact ⟨xs, by rw [hi]; exact h1⟩
      · rw [List.getElem?_set_ne (Ne.symm hi)] at q; exact ⟨us, q⟩
    obtain ⟨_, q1'⟩ := key q1
    obtain ⟨_, q2'⟩ := key q2
    exact s.inj i j b _ _ q1' q2' q3 q4
  · obtain ⟨ps, e1, e2⟩ := s.tab q hq
    have hb : q.2 ≠ a := fun e => by
      obtain ⟨a', ws, z1, z2, _⟩ := s.cell n xs h1
      rw [h2] at z1; cases z1
      rw [e, z2] at e1; cases e1
    exact ⟨ps, by rw [upd_ne hb]; exact e1, e2⟩
end
end Mi

set_option Elab.async false
set_option linter.all false
set_option maxRecDepth 100000
set_option maxHeartbeats 4000000
/-! Mi19: comprehensions as expressions. -/
namespace Mi
open PySem PySem.Spec PyProof.Rows L2 GenW

section
variable {W : Wld} {k : Nat} {N : List Str} {sc : Scope} {X : Cx} [NotHot W]
/-- a walk's state ahead of the turn i -/
def WalkS (K : PySem.W.Frag) (cs : List (Addr × Addr)) (m1 : List Addr) (st1 : Store) (H1 : Hp) (L : Addr) (f : D → Store → Option (Option D × Store)) (xs : List D) (st2 : Store) (i mm : Nat) (H' : Hp) : Prop :=
  ∃ m' st3, i + mm = xs.length ∧ Ext m1 st1 H1 m' st3 H' ∧ SC K cs m' st3 H' ∧ m'[st1.length]? = some L ∧ mapSt st1.length f (xs.drop i) st3 = some st2
theorem comp_core (C : Cxt W k N sc X) {elt tge iter : Expr} {ifs : List Expr} {scope : Scope} {own : List (Str × Nat)} {tg : ITg} {cond : ITo} {eltI : IE} {env : Env} {st : Store} {xs ys : List D} {st1 st2 : Store}
    (hi : IOk X W.cs tge iter env st (some (xs, st1)))
    (hB : ∀ G, Cxt W k N (relS scope sc) G → Sto (locB scope) G → (GenCx W k X → GenCx W k G) → TgOk G W.cs tg tge ∧ (∀ env st, TsOk G W.cs ifs env st (evTo (callF W.T W.F k) env cond st)) ∧ ∀ env st, EOk G W.cs elt env st (evE (callF W.T W.F k) env eltI st))
    (hown : tgOwn tg (own.map (·.2)) = true) (hm : mapSt st1.length (turnF (callF W.T W.F k) (wipeE env (own.map (·.2))) tg cond eltI) xs (st1 ++ [some []]) = some st2) (hys : st2[st1.length]? = some (some ys))
    {d : D} {st' : Store} (hcut : cutD st1.length (.lst ys) st2 = some (d, st')) {m : List Addr} {σ : L2.St} {H : Hp} {Q : VK} (hs : SC X.K W.cs m st H) (hr : EnvR X.K m st H env σ) (hq : Aft X W.cs m st H d st' Q) :
    tLc (tIt X tge iter) (fun v σ H Q => ∀ s0 H0 c cl fp, tGt (X.blk s0 H0 scope (compEnvC scope cl c X.env) fp) tge v σ H Q) (fun σ H Q => ∀ s0 H0 c cl fp, tTs (X.blk s0 H0 scope (compEnvC scope cl c X.env) fp) ifs σ H Q)
      (fun σ H Q => ∀ s0 H0 c cl fp, tE (X.blk s0 H0 scope (compEnvC scope cl c X.env) fp) elt σ H Q) (own.map (·.2)) σ H Q := by
  have inst : ∀ s0 H0 c cl fp, TgOk (X.blk s0 H0 scope (compEnvC scope cl c X.env) fp) W.cs tg tge ∧ (∀ env st, TsOk (X.blk s0 H0 scope (compEnvC scope cl c X.env) fp) W.cs ifs env st (evTo (callF W.T W.F k) env cond st)) ∧ ∀ env st, EOk (X.blk s0 H0 scope (compEnvC scope cl c X.env) fp) W.cs elt env st (evE (callF W.T W.F k) env eltI st) :=
    fun s0 H0 c cl fp => hB _ C.blk sto_blk fun g => g.blk
  refine hi xs st1 rfl m σ H _ hs hr fun m1 J H1 x1 s1 items => ?_
  intro L hL
  have hl1 : m1.length = st1.length := s1.len
  refine ⟨WalkS X.K W.cs m1 st1 H1 L (turnF (callF W.T W.F k) (wipeE env (own.map (·.2))) tg cond eltI) xs st2, ⟨xs.length, m1 ++ [L], st1 ++ [some []], by omega, ext_cell hl1 hL, s1.push hL (by simp only [Reps]), by rw [← hl1]; simp, by simpa using hm⟩, ?_⟩
  intro i mm H' ⟨m', st3, him, x3, s3, hmL, hmap⟩
  have it := items m' st3 H' x3 s3
  cases mm with
  | zero =>
    left
    have e : i = xs.length := by omega
    rw [e] at hmap ⊢
    rw [List.drop_length] at hmap
    simp only [mapSt, Option.some.injEq] at hmap
    subst hmap
    refine ⟨it.2, ?_⟩
    simp only [cutD] at hcut
    split at hcut
    · rename_i hc
      simp only [Bool.and_eq_true, fitD] at hc
      cases hcut
      obtain ⟨a, vs, q1, q2, q3⟩ := s3.cell _ _ hys
      rw [hmL] at q1; cases q1
      have hml : m.length ≤ st1.length := by
        rw [← hl1]
        by_cases z : m.length ≤ m1.length
        · exact z
        · have z2 : m1.length < m.length := by omega
          have z3 := x1.pre m1.length _ (List.getElem?_eq_getElem z2)
          rw [List.getElem?_eq_none (Nat.le_refl _)] at z3; cases z3
      refine hq (m'.take st1.length) (.ref L) H' (ext_cut (x1.trans x3) hml) (s3.cut hc.2) ?_
      · simp only [Rep]
        refine ⟨L, vs, rfl, q2, fun l => ?_, reps_takeC hc.1 q3⟩
        obtain ⟨j, zs, z1, z2⟩ := l
        rw [List.getElem?_take] at z1 z2
        split at z1
        · rename_i hj
          rw [if_pos hj] at z2
          have := s3.inj j st1.length L zs ys z1 hys z2 hmL
          omega
        · cases z1
    · cases hcut
  | succ mm =>
    right
    have hlt : i < xs.length := by omega
    have hat : xs[i]? = some xs[i] := List.getElem?_eq_getElem hlt
    have hdrop : xs.drop i = xs[i] :: xs.drop (i + 1) := List.drop_eq_getElem_cons hlt
    generalize hxe : xs[i] = x at hat hdrop
    rw [hdrop] at hmap
    have zi := it.1 i x hat
    refine ⟨zi.1, WalkS X.K W.cs m1 st1 H1 L (turnF (callF W.T W.F k) (wipeE env (own.map (·.2))) tg cond eltI) xs st2 (i + 1) mm, fun H'' w => ⟨mm, Nat.lt_succ_self _, w⟩, fun x' H'' y7 => ?_⟩
    obtain ⟨x7, s7, r7⟩ := zi.2 x' H'' y7
    cases hb : bindT tg x (wipeE env (own.map (·.2))) with
    | none =>
      simp only [mapSt, turnF, hb] at hmap
      cases hmap
    | some env' =>
      have er : EnvR X.K m' st3 H'' (wipeE env (own.map (·.2))) (wipe σ (own.map (·.2))) := (((hr.ext hs.cells x1).ext s1.cells x3).ext s3.cells x7).wipe _
      intro s0 H0 c0 cl0 fp0
      refine (inst s0 H0 c0 cl0 fp0).1 m' st3 H'' x _ env' _ x' _ hb s7 er r7 fun vs' er' => ⟨by rw [wipe_tgS hown, wipe_wipe], ?_⟩
      intro s0 H0 c0 cl0 fp0
      cases hc : evTo (callF W.T W.F k) env' cond st3 with
      | none =>
        simp only [mapSt, turnF, hb, hc] at hmap
        cases hmap
      | some p =>
        obtain ⟨b, st4⟩ := p
        refine (inst s0 H0 c0 cl0 fp0).2.1 env' st3 b st4 hc m' _ H'' _ s7 er' fun m9 H9 x9 s9 => ?_
        have x79 := x7.trans x9
        cases b with
        | false =>
          simp only [mapSt, turnF, hb, hc] at hmap
          rw [if_neg Bool.false_ne_true]
          exact ⟨m9, st4, by omega, x3.trans x79, s9, x79.pre _ _ hmL, hmap⟩
        | true =>
          rw [if_pos rfl]
          intro s0 H0 c0 cl0 fp0
          cases he : evE (callF W.T W.F k) env' eltI st4 with
          | none =>
            simp only [mapSt, turnF, hb, hc, he] at hmap
            cases hmap
          | some q =>
            obtain ⟨y, st5⟩ := q
            simp only [mapSt, turnF, hb, hc, he] at hmap
            refine (inst s0 H0 c0 cl0 fp0).2.2 env' st4 y st5 he m9 _ H9 _ s9 (er'.ext s7.cells x9) fun m10 v H10 x10 s10 p10 => ?_
            have x710 := x79.trans x10
            split at hmap
            · rename_i acc hacc
              split at hmap
              · rename_i hz
                have hmL' := x710.pre _ _ hmL
                obtain ⟨a, vs, q1, q2, q3⟩ := s10.cell _ _ hacc
                rw [hmL'] at q1; cases q1
                have r2 : Reps X.K m10 (Lv m10 st5) H10 (acc ++ [y]) (vs ++ [v]) := q3.append (by simp only [Reps]; exact ⟨v, [], rfl, p10, rfl⟩)
                refine ⟨vs, q2, by rw [← q3.length]; exact hz, m10, _, by omega, (x3.trans x710).trans (ext_set (K := X.K) (cs := W.cs) s10 hacc hmL'), s10.setc hacc hmL' r2, hmL', hmap⟩
              · cases hmap
            · cases hmap
theorem s_comp (C : Cxt W k N sc X) {elt tge iter : Expr} {ifs : List Expr} {scope : Scope} {own : List (Str × Nat)} {pos : Pos} {tg : ITg} {cond : ITo} {eltI : IE} {env : Env} {st : Store} {r : Option (List D × Store)}
    (ok : BlkOk N sc scope own) (hi : IOk X W.cs tge iter env st r) (hfold : foldB iter = true)
    (hB : ∀ G, Cxt W k N (relS scope sc) G → Sto (locB scope) G → (GenCx W k X → GenCx W k G) → TgOk G W.cs tg tge ∧ (∀ env st, TsOk G W.cs ifs env st (evTo (callF W.T W.F k) env cond st)) ∧ ∀ env st, EOk G W.cs elt env st (evE (callF W.T W.F k) env eltI st)) :
    EOk X W.cs (.ListComp elt [⟨tge, iter, ifs, 0⟩] scope pos) env st (match (generalizing := false) r with
    | some (xs, st1) => if tgOwn tg (own.map (·.2)) then (match mapSt st1.length (turnF (callF W.T W.F k) (wipeE env (own.map (·.2))) tg cond eltI) xs (st1 ++ [some []]) with
      | some st2 => (match st2[st1.length]? with
        | some (some ys) => cutD st1.length (.lst ys) st2
        | _ => none)
      | none => none) else none
    | none => none) := by
  intro d st' e m σ H Q hs hr hq
  cases r with
  | none => cases e
  | some p1 =>
    obtain ⟨xs, st1⟩ := p1
    simp only at e
    split at e
    · rename_i hown
      split at e
      · rename_i st2 hm
        split at e
        · rename_i ys hys
          refine useE (pe_lc (g := fun v σ H Q => ∀ s0 H0 c cl fp, tGt (X.blk s0 H0 scope (compEnvC scope cl c X.env) fp) tge v σ H Q) (tt := fun σ H Q => ∀ s0 H0 c cl fp, tTs (X.blk s0 H0 scope (compEnvC scope cl c X.env) fp) ifs σ H Q)
            (te := fun σ H Q => ∀ s0 H0 c cl fp, tE (X.blk s0 H0 scope (compEnvC scope cl c X.env) fp) elt σ H Q) C.cm (by rw [C.hN]; exact C.nd) piI (by rw [C.hN, C.hsc]; exact ok)
            (fun s0 H0 c cl fp => ⟨fun pins s σ H v u Q I rr h => h s0 H0 c cl fp pins s u I rr⟩) (fun s0 H0 c cl fp => ⟨fun pins s σ H Q I h => h s0 H0 c cl fp pins s I⟩)
            (fun s0 H0 c cl fp => ⟨fun pins s σ H Q I h => h s0 H0 c cl fp pins s I⟩) (foldB_set hfold)) ?_
          exact comp_core C hi hB hown hm hys e hs hr hq
        · cases e
      · cases e
    · cases e

/-! ### targets -/
theorem assignEach_len {es : List Expr} {env : PySem.Env} {N : List Str} {sc : Scope} : ∀ {is : List Nat}, nmsB sc N is es = true → (assignEach es env).length = es.length ∧ (assignEach es env).findIdx? (·.1) = none ∧ is.length = es.length := by
  induction es with
  | nil => intro is h; cases is <;> first | exact ⟨rfl, rfl, rfl⟩ | cases h
  | cons e es ih =>
    intro is h
    cases is with
    | nil => cases h
    | cons i is =>
      simp only [nmsB, Bool.and_eq_true] at h
      obtain ⟨h1, h2, h3⟩ := ih h.2
      cases e <;> simp only [nmB, Bool.false_eq_true, false_and] at h
      rename_i x p
      refine ⟨?_, ?_, ?_⟩
      · show ((false, assign (.Name x p) env) :: assignEach es env).length = _
        rw [List.length_cons, h1, List.length_cons]
      · show ((false, assign (.Name x p) env) :: assignEach es env).findIdx? (·.1) = none
        rw [List.findIdx?_cons]
        simp [h2]
      · rw [List.length_cons, h3, List.length_cons]
def gNames : List Nat → TGs
  | [] => gNil
  | i :: is => gCons (gName i) (gNames is)
theorem pgs_names {G : Cx} {scope sc' : Scope} (C : Cxt W k N sc' G) (S : Sto (locB scope) G) : ∀ {es : List Expr} {is : List Nat}, nmsB scope N is es = true → PGs G es (gNames is)
  | [], [], _ => pgs_nil
  | [], _ :: _, h => by simp [nmsB] at h
  | e :: es, [], h => by simp [nmsB] at h
  | e :: es, i :: is, h => by
    simp only [nmsB, Bool.and_eq_true] at h
    cases e <;> simp only [nmB, Bool.false_eq_true, false_and, Bool.and_eq_true, decide_eq_true_eq] at h
    rename_i x p
    obtain ⟨h1, h2⟩ := S x h.1.1.2
    exact pgs_cons (pg_name (by rw [C.hN]; exact C.nd) (by rw [C.hN]; exact h.1.1.1) h1 h2) (pgs_names C S h.2)
theorem names_go {K : PySem.W.Frag} {m : List Addr} {st : Store} {H : Hp} : ∀ {is : List Nat} {xs : List D} {vs : List V} {env : Env} {σ : L2.St} {Q : L2.St → Hp → Prop}, is.length = xs.length → EnvR K m st H env σ → Reps K m (Lv m st) H xs vs →
    (EnvR K m st H ((is.zip xs).foldl (fun e p => e.set p.1 (some p.2)) env) ((is.zip vs).foldl (fun σ p => σ.set p.1 (some p.2)) σ) → Q ((is.zip vs).foldl (fun σ p => σ.set p.1 (some p.2)) σ) H) → gNames is vs σ H Q
  | [], [], vs, env, σ, Q, _, er, r, h => by
    simp only [Reps] at r
    subst r
    exact ⟨rfl, h er⟩
  | [], _ :: _, _, _, _, _, hl, _, _, _ => by simp at hl
  | _ :: _, [], _, _, _, _, hl, _, _, _ => by simp at hl
  | i :: is, x :: xs, vs, env, σ, Q, hl, er, r, h => by
    simp only [Reps] at r
    obtain ⟨y, rr, rfl, r1, r2⟩ := r
    exact ⟨y, rr, rfl, names_go (by simpa using hl) (er.set r1) r2 h⟩
theorem tg_ok {G : Cx} {scope sc' : Scope} (C : Cxt W k N sc' G) (S : Sto (locB scope) G) {tg : ITg} {e : Expr} (h : tgB scope N tg e = true) : TgOk G W.cs tg e := by
  intro m st H d env env' σ v Q hb hs er rr hq
  cases tg with
  | nm i =>
    cases e <;> simp only [tgB, nmB, Bool.false_eq_true, Bool.and_eq_true, decide_eq_true_eq] at h
    rename_i x p
    obtain ⟨h1, h2⟩ := S x h.1.2
    simp only [bindT, Option.some.injEq] at hb
    subst hb
    exact useG (pg_name (by rw [C.hN]; exact C.nd) (by rw [C.hN]; exact h.1.1) h1 h2) (hq [] (er.set rr))
  | tp is =>
    cases e <;> simp only [tgB, Bool.false_eq_true] at h
    rename_i es kk p
    cases d <;> simp only [bindT] at hb <;> try (cases hb; done)
    rename_i xs
    split at hb
    · rename_i hl
      simp only [Option.some.injEq] at hb
      subst hb
      simp only [Rep] at rr
      obtain ⟨a, ys, rfl, q1, q2⟩ := rr
      obtain ⟨l1, l2, l3⟩ := assignEach_len (env := G.env) h
      refine useG (pg_tup (n := es.length) C.cm (pgs_names C S h) l1 l2) ⟨a, ys, rfl, q1, by rw [← q2.length, ← hl, l3], names_go hl er q2 fun er' => hq ys er'⟩
    · cases hb
end
end Mi

set_option Elab.async false
set_option linter.all false
set_option maxRecDepth 100000
set_option maxHeartbeats 4000000
/-! zip of a list, a tuple and a list -/
namespace Mi
open PySem PySem.Spec PyProof.Rows L2
open PySem.Sem (wp)

abbrev IsTri (h : Heap) (T : Addr) (a b c : Value) : Prop := h.get? T = some { cls := .type "tuple", data := .seq #[a, b, c] }
structure ZipA3 (z TI TO i1 i2 i3 l1 l2 l3 : Addr) : Prop where
  TIz : TI ≠ z
  TOz : TO ≠ z
  i1z : i1 ≠ z
  i2z : i2 ≠ z
  i3z : i3 ≠ z
  TITO : TI ≠ TO
  TIi1 : TI ≠ i1
  TIi2 : TI ≠ i2
  TIi3 : TI ≠ i3
  TOi1 : TO ≠ i1
  TOi2 : TO ≠ i2
  TOi3 : TO ≠ i3
  i12 : i1 ≠ i2
  i13 : i1 ≠ i3
  i23 : i2 ≠ i3
  l1z : l1 ≠ z
  l1TO : l1 ≠ TO
  l1i1 : l1 ≠ i1
  l1i2 : l1 ≠ i2
  l1i3 : l1 ≠ i3
  l2z : l2 ≠ z
  l2TO : l2 ≠ TO
  l2i1 : l2 ≠ i1
  l2i2 : l2 ≠ i2
  l2i3 : l2 ≠ i3
  l3z : l3 ≠ z
  l3TO : l3 ≠ TO
  l3i1 : l3 ≠ i1
  l3i2 : l3 ≠ i2
  l3i3 : l3 ≠ i3
section
variable {prog : Program} {w : World} {A : Around} {E : Value → Shared → Prop} {s : Shared}
theorem updateSeq_tri {T : Addr} {a b c x : Value} {k : Nat} {Q : Unit → Shared → Prop} (hT : IsTri s.heap T a b c)
    (h : ∀ h', h'.get? T = some { cls := .type "tuple", data := .seq ((#[a, b, c] : Array Value).setIfInBounds k x) } → Heap.SameBut T s.heap h' → Q () { s with heap := h' }) :
    wpAny (model prog w) A (updateSeq T (·.setIfInBounds k x)) Q E s := by
  refine wpAny_updateSeq hT rfl (h _ ?_ (Heap.SameBut.update ..))
  rw [Heap.get?_update_self _ hT rfl]
  simp [Obj.mapSeq]
theorem zip3_next_item {z TI TO i1 i2 i3 l1 l2 l3 : Addr} {k1 k2 k3 : Nat} {xs ys zs : Array Value} {x y v a b c : Value} {Q : Value → Shared → Prop} (D : ZipA3 z TI TO i1 i2 i3 l1 l2 l3)
    (hz : IsZip s.heap z TI TO .none) (hTI : IsTri s.heap TI (.ref i1) (.ref i2) (.ref i3)) (hTO : IsTri s.heap TO a b c)
    (h1 : s.heap.IsListIter i1 l1 k1) (h2 : s.heap.IsTupleIter i2 l2 k2) (h3 : s.heap.IsListIter i3 l3 k3) (hl1 : s.heap.IsList l1 xs) (hl2 : s.heap.IsTuple l2 ys) (hl3 : s.heap.IsList l3 zs)
    (hx : xs[k1]? = some x) (hy : ys[k2]? = some y) (hv : zs[k3]? = some v)
    (hQ : ∀ h', IsZip h' z TI TO (rawInt s.heap.objs.size) → IsTri h' TO x y v → h'.IsListIter i1 l1 (k1 + 1) → h'.IsTupleIter i2 l2 (k2 + 1) → h'.IsListIter i3 l3 (k3 + 1) → IsTri h' s.heap.objs.size x y v → h'.objs.size = s.heap.objs.size + 1 →
      (∀ c o, c ≠ z → c ≠ TO → c ≠ i1 → c ≠ i2 → c ≠ i3 → s.heap.get? c = some o → h'.get? c = some o) → Q (.ref s.heap.objs.size) { s with heap := h' }) :
    wpAny (model prog w) A (Builtin.«zip.__next__» ⟨[.ref z], []⟩) (fun fin s' => ∃ v, fin = .done (.ret v) ∧ Q v s') E s := by
  show wpAny _ _ (field (.ref z) 2 >>= _) _ _ _
  refine wpAny_bind (wpAny_field hz rfl (x := .bool false) rfl ?_)
  show wpAny _ _ (field (.ref z) 3 >>= _) _ _ _
  refine wpAny_bind (wpAny_field hz rfl (x := .ref TI) rfl ?_)
  refine wpAny_bind (wpAny_seqItems hTI rfl ?_)
  show wpAny _ _ (Builtin.SmallTypes.ownedTupleIsFree (.ref z) >>= _) _ _ _
  refine wpAny_bind ?_
  unfold Builtin.SmallTypes.ownedTupleIsFree
  refine wpAny_bind (wpAny_field hz rfl (x := .none) rfl (wpAny_pure ?_))
  simp only [if_true]
  refine wpAny_bind (wpAny_rule ?_)
  refine wpAny_bind (wpAny_field hz rfl (x := .ref TO) rfl ?_)
  refine wpAny_bind (wpAny_setField_rec hz (by simp) fun h₁ hz₁ hs₁ => ?_)
  replace hz₁ : IsZip h₁ z TI TO .ellipsis := hz₁
  refine wpAny_bind ?_
  simp only [List.zipIdx_cons, List.zipIdx_nil, List.forIn_cons, List.forIn_nil]
  refine wpAny_bind (wpAny_bind (wpAny_onRaise ?_))
  show wpAny _ _ (Builtin.SmallTypes.nextOf (.ref i1) >>= _) _ _ _
  refine wpAny_bind (wpAny_nextOf_list_item (h1.extBut hs₁.extBut D.i1z) (hl1.extBut hs₁.extBut D.l1z) hx fun h₂ h1₂ hs₂ => wpAny_pure ?_)
  have hTO₂ : IsTri h₂ TO a b c := hs₂.extBut _ _ D.TOi1 (hs₁.extBut _ _ D.TOz hTO)
  refine wpAny_bind (wpAny_seqItems hTO₂ rfl ?_)
  refine wpAny_bind (updateSeq_tri hTO₂ fun h₃ hTO₃ hs₃ => ?_)
  replace hTO₃ : IsTri h₃ TO x b c := hTO₃
  refine wpAny_bind (wpAny_letGo (wpAny_pure ?_))
  refine wpAny_bind (wpAny_bind (wpAny_onRaise ?_))
  show wpAny _ _ (Builtin.SmallTypes.nextOf (.ref i2) >>= _) _ _ _
  refine wpAny_bind (RZ.nextOf_tuple_item (((h2.extBut hs₁.extBut D.i2z).extBut hs₂.extBut D.i12.symm).extBut hs₃.extBut D.TOi2.symm)
    (((hl2.extBut hs₁.extBut D.l2z).extBut hs₂.extBut D.l2i1).extBut hs₃.extBut D.l2TO) hy fun h₄ h2₄ hs₄ => wpAny_pure ?_)
  have hTO₄ : IsTri h₄ TO x b c := hs₄.extBut _ _ D.TOi2 hTO₃
  refine wpAny_bind (wpAny_seqItems hTO₄ rfl ?_)
  refine wpAny_bind (updateSeq_tri hTO₄ fun h₅ hTO₅ hs₅ => ?_)
  replace hTO₅ : IsTri h₅ TO x y c := hTO₅
  refine wpAny_bind (wpAny_letGo (wpAny_pure ?_))
  refine wpAny_bind (wpAny_bind (wpAny_onRaise ?_))
  show wpAny _ _ (Builtin.SmallTypes.nextOf (.ref i3) >>= _) _ _ _
  refine wpAny_bind (wpAny_nextOf_list_item (((((h3.extBut hs₁.extBut D.i3z).extBut hs₂.extBut D.i13.symm).extBut hs₃.extBut D.TOi3.symm).extBut hs₄.extBut D.i23.symm).extBut hs₅.extBut D.TOi3.symm)
    (((((hl3.extBut hs₁.extBut D.l3z).extBut hs₂.extBut D.l3i1).extBut hs₃.extBut D.l3TO).extBut hs₄.extBut D.l3i2).extBut hs₅.extBut D.l3TO) hv fun h₆ h3₆ hs₆ => wpAny_pure ?_)
  have hTO₆ : IsTri h₆ TO x y c := hs₆.extBut _ _ D.TOi3 hTO₅
  refine wpAny_bind (wpAny_seqItems hTO₆ rfl ?_)
  refine wpAny_bind (updateSeq_tri hTO₆ fun h₇ hTO₇ hs₇ => ?_)
  replace hTO₇ : IsTri h₇ TO x y v := hTO₇
  refine wpAny_bind (wpAny_letGo (wpAny_pure (wpAny_pure ?_)))
  refine wpAny_bind (wpAny_seqItems hTO₇ rfl ?_)
  refine wpAny_bind (wpAny_newTuple ?_)
  have hsz : h₇.objs.size = s.heap.objs.size := by rw [hs₇.1, hs₆.1, hs₅.1, hs₄.1, hs₃.1, hs₂.1, hs₁.1]
  have hz₇ : IsZip h₇ z TI TO .ellipsis := hs₇.extBut _ _ D.TOz.symm (hs₆.extBut _ _ D.i3z.symm (hs₅.extBut _ _ D.TOz.symm (hs₄.extBut _ _ D.i2z.symm (hs₃.extBut _ _ D.TOz.symm (hs₂.extBut _ _ D.i1z.symm hz₁)))))
  have hk₇ : ∀ c o, c ≠ z → c ≠ TO → c ≠ i1 → c ≠ i2 → c ≠ i3 → s.heap.get? c = some o → h₇.get? c = some o := fun c o c1 c2 c3 c4 c5 e =>
    hs₇.extBut _ _ c2 (hs₆.extBut _ _ c5 (hs₅.extBut _ _ c2 (hs₄.extBut _ _ c4 (hs₃.extBut _ _ c2 (hs₂.extBut _ _ c3 (hs₁.extBut _ _ c1 e))))))
  have h1₇ : h₇.IsListIter i1 l1 (k1 + 1) := ((((h1₂.extBut hs₃.extBut D.TOi1.symm).extBut hs₄.extBut D.i12).extBut hs₅.extBut D.TOi1.symm).extBut hs₆.extBut D.i13).extBut hs₇.extBut D.TOi1.symm
  have h2₇ : h₇.IsTupleIter i2 l2 (k2 + 1) := ((h2₄.extBut hs₅.extBut D.TOi2.symm).extBut hs₆.extBut D.i23).extBut hs₇.extBut D.TOi2.symm
  have h3₇ : h₇.IsListIter i3 l3 (k3 + 1) := h3₆.extBut hs₇.extBut D.TOi3.symm
  have hzlt : z < h₇.objs.size := Heap.lt_size hz₇
  have hTOlt : TO < h₇.objs.size := Heap.lt_size hTO₇
  show wpAny _ _ (Builtin.SmallTypes.ownedTupleHandOut (.ref z) (.ref h₇.objs.size) >>= _) _ _ _
  refine wpAny_bind ?_
  unfold Builtin.SmallTypes.ownedTupleHandOut
  have hz₈ : IsZip (h₇.push { cls := .type "tuple", data := .seq #[x, y, v] }) z TI TO .ellipsis := Heap.get?_push_of_some _ hz₇
  refine wpAny_bind (wpAny_setField_rec hz₈ (by simp) fun h₉ hz₉ hs₉ => ?_)
  replace hz₉ : IsZip h₉ z TI TO (rawInt h₇.objs.size) := hz₉
  refine wpAny_setField_rec hz₉ (by simp) fun hA hzA hsA => ?_
  replace hzA : IsZip hA z TI TO (rawInt h₇.objs.size) := hzA
  have up : ∀ c o, c ≠ z → h₇.get? c = some o → hA.get? c = some o := fun c o c1 e => hsA.extBut _ _ c1 (hs₉.extBut _ _ c1 (Heap.get?_push_of_some _ e))
  have hTA : IsTri hA h₇.objs.size x y v := hsA.extBut _ _ (Nat.ne_of_gt hzlt) (hs₉.extBut _ _ (Nat.ne_of_gt hzlt) (Heap.get?_push_size _ rfl))
  have hzz : hA.objs.size = h₇.objs.size + 1 := by rw [hsA.1, hs₉.1, Heap.size_push]
  rw [hsz] at hzA hTA hzz
  refine wpAny_pure ⟨_, rfl, ?_⟩
  show Q (.ref h₇.objs.size) _
  rw [hsz]
  exact hQ hA hzA (up _ _ D.TOz hTO₇) (h1₇.at fun o e => up _ o D.i1z e) (h2₇.at fun o e => up _ o D.i2z e) (h3₇.at fun o e => up _ o D.i3z e) hTA hzz fun c o c1 c2 c3 c4 c5 e => up c o c1 (hk₇ c o c1 c2 c3 c4 c5 e)
theorem zip3_next_end {z TI TO i1 i2 i3 l1 l2 l3 : Addr} {k1 k2 k3 : Nat} {xs ys zs : Array Value} {a b c : Value} {Q : Fin → Shared → Prop} (hh : A.handled = none) (D : ZipA3 z TI TO i1 i2 i3 l1 l2 l3)
    (hz : IsZip s.heap z TI TO .none) (hTI : IsTri s.heap TI (.ref i1) (.ref i2) (.ref i3)) (hTO : IsTri s.heap TO a b c)
    (h1 : s.heap.IsListIter i1 l1 k1) (hl1 : s.heap.IsList l1 xs) (hx : xs[k1]? = none)
    (hE : ∀ h' e, (∀ c o, c ≠ z → c ≠ TO → c ≠ i1 → c ≠ i2 → c ≠ i3 → s.heap.get? c = some o → h'.get? c = some o) → (∃ o, h'.get? e = some o ∧ o.cls = .type "StopIteration") → E (.ref e) { s with heap := h' }) :
    wpAny (model prog w) A (Builtin.«zip.__next__» ⟨[.ref z], []⟩) Q E s := by
  show wpAny _ _ (field (.ref z) 2 >>= _) _ _ _
  refine wpAny_bind (wpAny_field hz rfl (x := .bool false) rfl ?_)
  show wpAny _ _ (field (.ref z) 3 >>= _) _ _ _
  refine wpAny_bind (wpAny_field hz rfl (x := .ref TI) rfl ?_)
  refine wpAny_bind (wpAny_seqItems hTI rfl ?_)
  show wpAny _ _ (Builtin.SmallTypes.ownedTupleIsFree (.ref z) >>= _) _ _ _
  refine wpAny_bind ?_
  unfold Builtin.SmallTypes.ownedTupleIsFree
  refine wpAny_bind (wpAny_field hz rfl (x := .none) rfl (wpAny_pure ?_))
  simp only [if_true]
  refine wpAny_bind (wpAny_rule ?_)
  refine wpAny_bind (wpAny_field hz rfl (x := .ref TO) rfl ?_)
  refine wpAny_bind (wpAny_setField_rec hz (by simp) fun h₁ hz₁ hs₁ => ?_)
  replace hz₁ : IsZip h₁ z TI TO .ellipsis := hz₁
  refine wpAny_bind ?_
  simp only [List.zipIdx_cons, List.zipIdx_nil, List.forIn_cons, List.forIn_nil]
  refine wpAny_bind (wpAny_bind (wpAny_onRaise ?_))
  show wpAny _ _ (Builtin.SmallTypes.nextOf (.ref i1) >>= _) _ _ _
  refine wpAny_bind (wpAny_nextOf_list_end hh (h1.extBut hs₁.extBut D.i1z) (hl1.extBut hs₁.extBut D.l1z) hx fun h₂ e hs₂ he => ?_)
  obtain ⟨oe, hoe, hce⟩ := he
  have hz₂ : IsZip h₂ z TI TO .ellipsis := hs₂ _ _ D.i1z.symm hz₁
  have hez : e ≠ z := fun x => by subst x; rw [hz₂] at hoe; cases hoe; simp at hce
  refine wpAny_setField_rec hz₂ (by simp) fun h₃ _ hs₃ => hE h₃ e (fun c o c1 _ c3 _ _ x => hs₃.extBut _ _ c1 (hs₂ _ _ c3 (hs₁.extBut _ _ c1 x))) ⟨oe, hs₃.extBut _ _ hez hoe, hce⟩
theorem pyNext_zip3_item {z TI TO i1 i2 i3 l1 l2 l3 : Addr} {k1 k2 k3 : Nat} {xs ys zs : Array Value} {x y v a b c : Value} {Q : Option Value → Shared → Prop} (D : ZipA3 z TI TO i1 i2 i3 l1 l2 l3)
    (hz : IsZip s.heap z TI TO .none) (hTI : IsTri s.heap TI (.ref i1) (.ref i2) (.ref i3)) (hTO : IsTri s.heap TO a b c)
    (h1 : s.heap.IsListIter i1 l1 k1) (h2 : s.heap.IsTupleIter i2 l2 k2) (h3 : s.heap.IsListIter i3 l3 k3) (hl1 : s.heap.IsList l1 xs) (hl2 : s.heap.IsTuple l2 ys) (hl3 : s.heap.IsList l3 zs)
    (hx : xs[k1]? = some x) (hy : ys[k2]? = some y) (hv : zs[k3]? = some v)
    (hQ : ∀ h', IsZip h' z TI TO (rawInt s.heap.objs.size) → IsTri h' TO x y v → h'.IsListIter i1 l1 (k1 + 1) → h'.IsTupleIter i2 l2 (k2 + 1) → h'.IsListIter i3 l3 (k3 + 1) → IsTri h' s.heap.objs.size x y v → h'.objs.size = s.heap.objs.size + 1 →
      (∀ c o, c ≠ z → c ≠ TO → c ≠ i1 → c ≠ i2 → c ≠ i3 → s.heap.get? c = some o → h'.get? c = some o) → Q (some (.ref s.heap.objs.size)) { s with heap := h' }) :
    wpAny (model prog w) A (pyNext (.ref z)) Q E s := by
  have hT : s.TypeIs (.ref z) "zip" := ⟨_, hz, rfl⟩
  unfold pyNext
  exact wpAny_bind (wpAny_attempt (wpAny_callSpecial?_slot (name := Str.ofString "__next__") hT F.slot_zip_next
    (wpAny_call_entry F.slot_zip_next hT F.entry_zip_next
      (zip3_next_item D hz hTI hTO h1 h2 h3 hl1 hl2 hl3 hx hy hv fun h' a1 a2 a3 a4 a5 a6 a7 a8 => wpAny_pure (hQ h' a1 a2 a3 a4 a5 a6 a7 a8)) (F.args_zip_next_1 _))))
theorem pyNext_zip3_end {z TI TO i1 i2 i3 l1 l2 l3 : Addr} {k1 k2 k3 : Nat} {xs : Array Value} {a b c : Value} {Q : Option Value → Shared → Prop} (hh : A.handled = none) (D : ZipA3 z TI TO i1 i2 i3 l1 l2 l3)
    (hz : IsZip s.heap z TI TO .none) (hTI : IsTri s.heap TI (.ref i1) (.ref i2) (.ref i3)) (hTO : IsTri s.heap TO a b c)
    (h1 : s.heap.IsListIter i1 l1 k1) (hl1 : s.heap.IsList l1 xs) (hx : xs[k1]? = none)
    (hQ : ∀ h', (∀ c o, c ≠ z → c ≠ TO → c ≠ i1 → c ≠ i2 → c ≠ i3 → s.heap.get? c = some o → h'.get? c = some o) → Q none { s with heap := h' }) : wpAny (model prog w) A (pyNext (.ref z)) Q E s := by
  have hT : s.TypeIs (.ref z) "zip" := ⟨_, hz, rfl⟩
  unfold pyNext
  refine wpAny_bind (wpAny_attempt (wpAny_callSpecial?_slot (name := Str.ofString "__next__") hT F.slot_zip_next
    (wpAny_call_entry F.slot_zip_next hT F.entry_zip_next (zip3_next_end (k2 := k2) (k3 := k3) (ys := #[]) (zs := #[]) hh D hz hTI hTO h1 hl1 hx fun h' e hk he => ?_) (F.args_zip_next_1 _))))
  obtain ⟨o, ho, hc⟩ := he
  refine wpAny_bind (wpAny_isInstance (T := "StopIteration") (b := true) ⟨o, ho, hc⟩ isSubtype_stop ?_)
  exact wpAny_pure (hQ _ hk)
end
abbrev z3H1 (h : Heap) (l1 : Addr) : Heap := h.push { cls := .type "list_iterator", data := .fields #[.ref l1, .int 0 0] }
abbrev z3H2 (h : Heap) (l1 l2 : Addr) : Heap := (z3H1 h l1).push { cls := .type "tuple_iterator", data := .fields #[.ref l2, .int 0 0] }
abbrev z3H3 (h : Heap) (l1 l2 l3 : Addr) : Heap := (z3H2 h l1 l2).push { cls := .type "list_iterator", data := .fields #[.ref l3, .int 0 0] }
abbrev z3H4 (h : Heap) (l1 l2 l3 : Addr) : Heap := (z3H3 h l1 l2 l3).push { cls := .type "tuple", data := .seq #[.ref h.objs.size, .ref (z3H1 h l1).objs.size, .ref (z3H2 h l1 l2).objs.size] }
abbrev z3H5 (h : Heap) (l1 l2 l3 : Addr) : Heap := (z3H4 h l1 l2 l3).push { cls := .type "tuple", data := .seq #[.none, .none, .none] }
abbrev z3H6 (h : Heap) (l1 l2 l3 : Addr) : Heap := (z3H5 h l1 l2 l3).push { cls := .type "zip", data := .fields #[.none, .bool false, .bool false, .ref (z3H3 h l1 l2 l3).objs.size, .ref (z3H4 h l1 l2 l3).objs.size] }
theorem typeCall_zip_3 (a b c : Value) : checkTypeCall "zip" ⟨[a, b, c], []⟩ = pure () := by kernel_rfl
theorem newCall_zip_3 (a b c : Value) : checkBuiltinCall "zip.__new__" ⟨[.type "zip", a, b, c], []⟩ = pure () := by kernel_rfl
theorem args_object_init_4 (a b c d : Value) : argsOk "object.__init__" ⟨[a, b, c, d], []⟩ := by
  unfold argsOk; rw [signature?_of (id := "object.__init__") (n := ['_', '_', 't', 'i', 'n', 'i', '_', '_']) (o := ['t', 'c', 'e', 'j', 'b', 'o']) (by kernel_rfl) F.owner_object]; kernel_rfl
theorem meets_zip3_new (l1 l2 l3 : Addr) (xs ys zs : Array Value) :
    Meets (Builtin.«zip.__new__» ⟨[.type "zip", .ref l1, .ref l2, .ref l3], []⟩) (fun _ R s => s.heap.IsList l1 xs ∧ s.heap.IsTuple l2 ys ∧ s.heap.IsList l3 zs ∧
      R (.ok (.ret (.ref (z3H5 s.heap l1 l2 l3).objs.size))) { s with heap := z3H6 s.heap l1 l2 l3 }) :=
  .of_wp fun prog w A R s h => by
    obtain ⟨hp, g, d, tk, os⟩ := s; obtain ⟨hl1, hl2, hl3, h⟩ := h
    have hsub := sub_zip
    have hL1 : Heap.IsList (Shared.heap ⟨hp, g, d, tk, os⟩) l1 xs := hl1
    have hL2 : Heap.IsTuple (Shared.heap ⟨hp.push { cls := .type "list_iterator", data := .fields #[.ref l1, .int 0 0] }, g, d, tk, os⟩) l2 ys := Heap.IsTuple.push hl2 _
    have hL3 : Heap.IsList (Shared.heap ⟨(hp.push { cls := .type "list_iterator", data := .fields #[.ref l1, .int 0 0] }).push { cls := .type "tuple_iterator", data := .fields #[.ref l2, .int 0 0] }, g, d, tk, os⟩) l3 zs := Heap.IsList.push (Heap.IsList.push hl3 _) _
    wp_walk using wpAny_pyIter_list hL1, wpAny_pyIter_tuple hL2, wpAny_pyIter_list hL3
    exact ⟨_, rfl, h⟩
section
variable {prog : Program} {w : World} {A : Around} {E : Value → Shared → Prop} {s : Shared}
theorem call_zip3 {l1 l2 l3 : Addr} {xs ys zs : Array Value} {Q : Value → Shared → Prop} (hl1 : s.heap.IsList l1 xs) (hl2 : s.heap.IsTuple l2 ys) (hl3 : s.heap.IsList l3 zs)
    (h : ∀ h', IsZip h' (s.heap.objs.size + 5) (s.heap.objs.size + 3) (s.heap.objs.size + 4) .none → IsTri h' (s.heap.objs.size + 3) (.ref s.heap.objs.size) (.ref (s.heap.objs.size + 1)) (.ref (s.heap.objs.size + 2)) →
      IsTri h' (s.heap.objs.size + 4) .none .none .none → h'.IsListIter s.heap.objs.size l1 0 → h'.IsTupleIter (s.heap.objs.size + 1) l2 0 → h'.IsListIter (s.heap.objs.size + 2) l3 0 → h'.objs.size = s.heap.objs.size + 6 →
      (∀ c o, s.heap.get? c = some o → h'.get? c = some o) → Q (.ref (s.heap.objs.size + 5)) { s with heap := h' }) :
    wpAny (model prog w) A (call (.type "zip") [.ref l1, .ref l2, .ref l3]) Q E s := by
  refine callType_new F.called_zip (by decide) (typeCall_zip_3 _ _ _) (newCall_zip_3 _ _ _) (fun obj => args_object_init_4 obj _ _ _) F.entry_zip_new
    (meets_zip3_new l1 l2 l3 xs ys zs) ⟨hl1, hl2, hl3, ?_⟩
  have z1 : (z3H1 s.heap l1).objs.size = s.heap.objs.size + 1 := Heap.size_push ..
  have z2 : (z3H2 s.heap l1 l2).objs.size = s.heap.objs.size + 2 := by rw [Heap.size_push, z1]
  have z3 : (z3H3 s.heap l1 l2 l3).objs.size = s.heap.objs.size + 3 := by rw [Heap.size_push, z2]
  have z4 : (z3H4 s.heap l1 l2 l3).objs.size = s.heap.objs.size + 4 := by rw [Heap.size_push, z3]
  have z5 : (z3H5 s.heap l1 l2 l3).objs.size = s.heap.objs.size + 5 := by rw [Heap.size_push, z4]
  have z6 : (z3H6 s.heap l1 l2 l3).objs.size = s.heap.objs.size + 6 := by rw [Heap.size_push, z5]
  have g6 : (z3H6 s.heap l1 l2 l3).get? (z3H5 s.heap l1 l2 l3).objs.size = some _ := Heap.get?_push_size _ rfl
  have g5 : (z3H6 s.heap l1 l2 l3).get? (z3H4 s.heap l1 l2 l3).objs.size = some _ := Heap.get?_push_of_some _ (Heap.get?_push_size _ rfl)
  have g4 : (z3H6 s.heap l1 l2 l3).get? (z3H3 s.heap l1 l2 l3).objs.size = some _ := Heap.get?_push_of_some _ (Heap.get?_push_of_some _ (Heap.get?_push_size _ rfl))
  have g3 : (z3H6 s.heap l1 l2 l3).get? (z3H2 s.heap l1 l2).objs.size = some _ := Heap.get?_push_of_some _ (Heap.get?_push_of_some _ (Heap.get?_push_of_some _ (Heap.get?_push_size _ rfl)))
  have g2 : (z3H6 s.heap l1 l2 l3).get? (z3H1 s.heap l1).objs.size = some _ := Heap.get?_push_of_some _ (Heap.get?_push_of_some _ (Heap.get?_push_of_some _ (Heap.get?_push_of_some _ (Heap.get?_push_size _ rfl))))
  have g1 : (z3H6 s.heap l1 l2 l3).get? s.heap.objs.size = some _ := Heap.get?_push_of_some _ (Heap.get?_push_of_some _ (Heap.get?_push_of_some _ (Heap.get?_push_of_some _ (Heap.get?_push_of_some _ (Heap.get?_push_size _ rfl)))))
  show _ ∧ _
  rw [z3, z4, z5] at g6
  rw [z1, z2, z3] at g4
  rw [z4] at g5
  rw [z2] at g3
  rw [z1] at g2
  rw [z5]
  exact ⟨⟨_, g6, rfl⟩, h _ g6 g4 g5 ⟨_, g1, rfl, rfl⟩ ⟨_, g2, rfl, rfl⟩ ⟨_, g3, rfl, rfl⟩ z6 fun c o x =>
    Heap.get?_push_of_some _ (Heap.get?_push_of_some _ (Heap.get?_push_of_some _ (Heap.get?_push_of_some _ (Heap.get?_push_of_some _ (Heap.get?_push_of_some _ x)))))⟩
end
theorem neN3 {a b : Nat} (h : a ≠ b) : a ≠ b := h
theorem zipA3_new {n l1 l2 l3 : Nat} (h1 : l1 < n) (h2 : l2 < n) (h3 : l3 < n) : ZipA3 (n + 5) (n + 3) (n + 4) n (n + 1) (n + 2) l1 l2 l3 := by
  constructor <;> (refine neN3 ?_; omega)
/-- a list, a tuple and a list as they stand at each turn, the items in new triples -/
def Itz3 (K : PySem.W.Frag) (a b c : Addr) : It :=
  ⟨fun i H => ∃ (xs ys zs : List V) (x y z : V), SqL K H a xs ∧ SqT K H b ys ∧ SqL K H c zs ∧ xs[i]? = some x ∧ ys[i]? = some y ∧ zs[i]? = some z,
    fun i H v H' => ∃ T x y z, v = .ref T ∧ H T = none ∧ H' = upd H T (.tup [x, y, z]) ∧ (∀ xs, SqL K H a xs → xs[i]? = some x) ∧ (∀ ys, SqT K H b ys → ys[i]? = some y) ∧ ∀ zs, SqL K H c zs → zs[i]? = some z,
    fun i H => ∃ xs : List V, SqL K H a xs ∧ xs.length ≤ i⟩
theorem turn_zip3 {P : Program} {w : World} {K : PySem.W.Frag} {elts : List Expr} {kk : Nat} {tpos : Pos} {a b c z TI TO i1 i2 i3 : Addr} (D : ZipA3 z TI TO i1 i2 i3 a b c) :
    Turn P w K (.Tuple elts kk tpos) (Itz3 K a b c) [z, TI, TO, i1, i2, i3] z (fun i h => IsZip h z TI TO .none ∧ IsTri h TI (.ref i1) (.ref i2) (.ref i3) ∧ (∃ x y v, IsTri h TO x y v) ∧ h.IsListIter i1 a i ∧ h.IsTupleIter i2 b i ∧ h.IsListIter i3 c i) where
  mem := by simp
  obj := fun i h st c hc => by
    obtain ⟨hz, hTI, ⟨x, y, v, hTO⟩, ⟨o1, e1, _, d1⟩, ⟨o2, e2, _, d2⟩, ⟨o3, e3, _, d3⟩⟩ := st
    have e' : c = z ∨ c = TI ∨ c = TO ∨ c = i1 ∨ c = i2 ∨ c = i3 := by simpa using hc
    rcases e' with q | q | q | q | q | q
    · rw [q]; exact ⟨_, hz, fun v q => nomatch q⟩
    · rw [q]; exact ⟨_, hTI, fun v q => nomatch q⟩
    · rw [q]; exact ⟨_, hTO, fun v q => nomatch q⟩
    · rw [q]; exact ⟨o1, e1, fun v q => by rw [d1] at q; cases q⟩
    · rw [q]; exact ⟨o2, e2, fun v q => by rw [d2] at q; cases q⟩
    · rw [q]; exact ⟨o3, e3, fun v q => by rw [d3] at q; cases q⟩
  keep := fun i h h' st k => by
    obtain ⟨hz, hTI, ⟨x, y, v, hTO⟩, h1, h2, h3⟩ := st
    exact ⟨k z (by simp) _ hz, k TI (by simp) _ hTI, ⟨x, y, v, k TO (by simp) _ hTO⟩, h1.at fun o q => k i1 (by simp) o q, h2.at fun o q => k i2 (by simp) o q, h3.at fun o q => k i3 (by simp) o q⟩
  item := by
    intro X hP hw hK hc i pins s σ H E I hf st hg
    subst hP hw hK
    obtain ⟨hz, hTI, ⟨x0, y0, v0, hTO⟩, h1, h2, h3⟩ := st
    obtain ⟨xs, ys, zs, x, y, v, hqx, hqy, hqv, hx, hy, hv⟩ := hg
    obtain ⟨its, rv, p, _⟩ := I.list hqx
    obtain ⟨its2, rv2, p2, _⟩ := I.tuple hqy
    obtain ⟨its3, rv3, p3, _⟩ := I.list hqv
    obtain ⟨u, hu, ru⟩ := rv.get hx
    obtain ⟨u2, hu2, ru2⟩ := rv2.get hy
    obtain ⟨u3, hu3, ru3⟩ := rv3.get hv
    have hzl : z < s.heap.objs.size := Heap.lt_size hz
    refine pyNext_zip3_item D hz hTI hTO h1 h2 h3 p.isList p2 p3.isList (x := u) (y := u2) (v := u3) (by simpa using hu) (by simpa using hu2) (by simpa using hu3) fun h' z' TO' h1' h2' h3' hT hsz hk => ?_
    refine ⟨_, rfl, wpAny_letOwnedTupleGo_zip (s := { s with heap := h' }) z' fun h'' z'' sb => ?_⟩
    have hT2 : h''.get? s.heap.objs.size = some { cls := .type "tuple", data := .seq #[u, u2, u3] } := (sb.2 _ (Nat.ne_of_gt hzl)).trans hT
    have new : ObjOk X.prog X.w (upd H s.heap.objs.size (.tup [x, y, v])) h'' s.heap.objs.size (.tup [x, y, v]) :=
      ⟨by show 3 ≤ sizeLine; decide, [u, u2, u3], .cons ru (.cons ru2 (.cons ru3 .nil)), ⟨_, hT2, rfl, _, rfl⟩⟩
    have I1 : Inv X pins σ (upd H s.heap.objs.size (.tup [x, y, v])) { s with heap := h'' } :=
      I.turnedNew (t' := s.toks) (ch := [z, TI, TO, i1, i2, i3]) (fun c o hb q => (sb.2 c (fun q' => hb (by simp [q']))).trans (hk c o (fun q' => hb (by simp [q'])) (fun q' => hb (by simp [q'])) (fun q' => hb (by simp [q'])) (fun q' => hb (by simp [q'])) (fun q' => hb (by simp [q'])) q)) hf (Nat.le_refl _) new
    refine ⟨.ref s.heap.objs.size, _, I1, rfl, ⟨_, x, y, v, rfl, I.hok.fresh (Nat.le_refl _), rfl, fun l hl => by rw [I.list_inj hl hqx]; exact hx, fun l hl => by rw [I.tuple_inj hl hqy]; exact hy, fun l hl => by rw [I.list_inj hl hqv]; exact hv⟩, ⟨z'', ?_, ⟨u, u2, u3, ?_⟩, ?_, ?_, ?_⟩, fun c hcm => ?_⟩
    · exact (sb.2 _ D.TIz).trans (hk _ _ D.TIz D.TITO D.TIi1 D.TIi2 D.TIi3 hTI)
    · exact (sb.2 _ D.TOz).trans TO'
    · exact h1'.at fun o q => (sb.2 _ D.i1z).trans q
    · exact h2'.at fun o q => (sb.2 _ D.i2z).trans q
    · exact h3'.at fun o q => (sb.2 _ D.i3z).trans q
    · have hlt : c < s.heap.objs.size := by
        have e' : c = z ∨ c = TI ∨ c = TO ∨ c = i1 ∨ c = i2 ∨ c = i3 := by simpa using hcm
        rcases e' with q | q | q | q | q | q
        · rw [q]; exact hzl
        · rw [q]; exact Heap.lt_size hTI
        · rw [q]; exact Heap.lt_size hTO
        · rw [q]; obtain ⟨_, e1, _⟩ := h1; exact Heap.lt_size e1
        · rw [q]; obtain ⟨_, e2, _⟩ := h2; exact Heap.lt_size e2
        · rw [q]; obtain ⟨_, e3, _⟩ := h3; exact Heap.lt_size e3
      rw [upd_ne (Nat.ne_of_lt hlt)]
      exact (hf c hcm).1
  done := by
    intro X hP hw hK hc i pins s σ H E I hf st hg
    subst hP hw hK
    obtain ⟨hz, hTI, ⟨x0, y0, v0, hTO⟩, h1, h2, h3⟩ := st
    obtain ⟨xs, hqx, hend⟩ := hg
    obtain ⟨its, rv, p, _⟩ := I.list hqx
    have l1 := rv.length
    exact pyNext_zip3_end (k2 := i) (k3 := i) (I.ok.hd hc) D hz hTI hTO h1 p.isList (by simp; omega) fun h' hk => ⟨rfl, I.turnedL (t' := s.toks) (ch := [z, TI, TO, i1, i2, i3]) (fun c o hb q =>
      hk c o (fun q' => hb (by simp [q'])) (fun q' => hb (by simp [q'])) (fun q' => hb (by simp [q'])) (fun q' => hb (by simp [q'])) (fun q' => hb (by simp [q'])) q) hf⟩
  self := fun A i s Q E st h => wpAny_pyIter_zip st.1 h
def iZip3 (K : PySem.W.Frag) (ta : TA) : TI := fun σ H R => ta σ H fun vs H1 => ∃ a b c xs ys zs, vs = [.ref a, .ref b, .ref c] ∧ SqL K H1 a xs ∧ SqT K H1 b ys ∧ SqL K H1 c zs ∧ R (Itz3 K a b c) H1
theorem pi_zip3 {X : Cx} {e e2 e3 : Expr} {ta : TA} {p pos tpos : Pos} {elts : List Expr} {kk : Nat} (hg : Gl X "zip") (hm : X.mg "zip" = none) (ha : PA X [e, e2, e3] ta)
    (hs : starEach [e, e2, e3] X.env = (false, eval e X.env) :: starEach [e2, e3] X.env := by rfl) (hpl : (backTo pos (starEach [e2, e3] X.env)).any (·.1) = false := by rfl) :
    PI X (.Tuple elts kk tpos) (.Call (.Name "zip" p) [e, e2, e3] [] pos) (iZip3 X.K ta) := by
  refine ⟨fun pins s σ H R I h => ?_⟩
  refine Call_ (ld_blt I hg hm PyProof.Rows.boot_zip (PyProof.Rows.callWith_type1 (thn (ha.run pos pins s σ H _ I h) fun us s1 ⟨vs, H1, I1, r1, q1⟩ => ?_) hs hpl))
  obtain ⟨a, b, c, xs, ys, zs, ex, hqx, hqy, hqz, q⟩ := q1
  subst ex
  cases r1 with
  | cons r rr =>
    cases rr with
    | cons r' rr =>
      cases rr with
      | cons r'' rr =>
        cases rr
        cases r
        cases r'
        cases r''
        have fresh6 : ∀ c, c ∈ [s1.heap.objs.size + 5, s1.heap.objs.size + 3, s1.heap.objs.size + 4, s1.heap.objs.size, s1.heap.objs.size + 1, s1.heap.objs.size + 2] → FpOk X pins H1 c := fun c hcm => by
          have hle : s1.heap.objs.size ≤ c := by
            simp only [List.mem_cons, List.not_mem_nil, or_false] at hcm
            rcases hcm with z | z | z | z | z | z <;> rw [z] <;> first | exact Nat.le_add_right _ _ | exact Nat.le_refl _
          exact I1.fpOk hle (I1.hok.fresh hle)
        obtain ⟨its, rv, p1, _⟩ := I1.list hqx
        obtain ⟨its2, rv2, p2, _⟩ := I1.tuple hqy
        obtain ⟨its3, rv3, p3, _⟩ := I1.list hqz
        obtain ⟨o2, ho2, _⟩ := id p2
        refine call_zip3 p1.isList (show s1.heap.IsTuple b its2.toArray from p2) p3.isList fun h' hz hTI hTO h1 h2 h3 hsz hk => wpAny_pyIter_zip hz ?_
        have I2 : Inv X pins σ H1 { s1 with heap := h' } := I1.kept (t' := s1.toks) hk
        exact ⟨s1.heap.objs.size + 5, [s1.heap.objs.size + 5, s1.heap.objs.size + 3, s1.heap.objs.size + 4, s1.heap.objs.size, s1.heap.objs.size + 1, s1.heap.objs.size + 2], _, _, H1, rfl, I2, turn_zip3 (zipA3_new p1.lt (Heap.lt_size ho2) p3.lt), ⟨hz, hTI, ⟨_, _, _, hTO⟩, h1, h2, h3⟩, fresh6, q⟩
end Mi
/-! Mi20: what is walked. -/
namespace Mi
open PySem PySem.Spec PyProof.Rows L2 GenW

section
variable {W : Wld} {k : Nat} {N : List Str} {sc : Scope} {X : Cx}
theorem lst_of {K : PySem.W.Frag} {m : List Addr} {L : Addr → Prop} {H : Hp} {x : D} {v : V} {l : List D} (h : lstD x = some l) (r : Rep K m L H x v) : ∃ p ys, v = .ref p ∧ SqL K H p ys ∧ Reps K m L H l ys := by
  cases x <;> simp only [lstD] at h <;> (try (cases h; done)) <;> cases h <;> simp only [Rep] at r
  · obtain ⟨a, ys, e, h1, _, h2⟩ := r
    exact ⟨a, ys, e, .inl (.inl h1), h2⟩
  · obtain ⟨a, ys, e, h1, h2⟩ := r
    exact ⟨a, ys, e, h1.sqL, h2⟩
theorem tup_of {K : PySem.W.Frag} {m : List Addr} {L : Addr → Prop} {H : Hp} {x : D} {v : V} {l : List D} (h : tupD x = some l) (r : Rep K m L H x v) : ∃ p ys, v = .ref p ∧ SqT K H p ys ∧ Reps K m L H l ys := by
  cases x <;> simp only [tupD] at h <;> (try (cases h; done)) <;> cases h <;> simp only [Rep] at r
  obtain ⟨a, ys, e, h1, h2⟩ := r
  exact ⟨a, ys, e, h1, h2⟩
theorem seqD_cases {x : D} {l : List D} (h : seqD x = some l) : lstD x = some l ∨ tupD x = some l := by
  cases x <;> simp only [seqD] at h <;> (try (cases h; done)) <;> first | exact .inl h | exact .inr h
theorem ref_inj {a b : Addr} (h : V.ref a = V.ref b) : a = b := by cases h; rfl
theorem items_list {cs : List (Addr × Addr)} {m : List Addr} {st : Store} {H : Hp} {x : D} {p : Addr} {l : List D} (hs : SC X.K cs m st H) (h : lstD x = some l) (r : Rep X.K m (Lv m st) H x (.ref p)) : Items X.K cs m st H l (Itl X.K p) := by
  intro m' st' H' e s'
  obtain ⟨q, ys, e1, h1, h2⟩ := lst_of h (r.ext hs.cells e)
  obtain rfl := ref_inj e1
  refine ⟨fun i d hd => ?_, ys, h1, by rw [h2.length]; exact Nat.le_refl _⟩
  obtain ⟨y, y1, y2⟩ := h2.get hd
  refine ⟨⟨ys, y, h1, y1⟩, fun z H'' hy => ?_⟩
  obtain ⟨rfl, hy⟩ := hy
  have := hy ys h1
  rw [y1] at this; cases this
  exact ⟨Ext.refl, s', y2⟩
theorem items_tup {cs : List (Addr × Addr)} {m : List Addr} {st : Store} {H : Hp} {x : D} {p : Addr} {l : List D} (hs : SC X.K cs m st H) (h : tupD x = some l) (r : Rep X.K m (Lv m st) H x (.ref p)) : Items X.K cs m st H l (Itt X.K p) := by
  intro m' st' H' e s'
  obtain ⟨q, ys, e1, h1, h2⟩ := tup_of h (r.ext hs.cells e)
  obtain rfl := ref_inj e1
  refine ⟨fun i d hd => ?_, ys, h1, by rw [h2.length]; exact Nat.le_refl _⟩
  obtain ⟨y, y1, y2⟩ := h2.get hd
  refine ⟨⟨ys, y, h1, y1⟩, fun z H'' hy => ?_⟩
  obtain ⟨rfl, hy⟩ := hy
  have := hy ys h1
  rw [y1] at this; cases this
  exact ⟨Ext.refl, s', y2⟩
theorem items_rng {cs : List (Addr × Addr)} {m : List Addr} {st : Store} {H : Hp} {lo : Int} {n : Nat} : Items X.K cs m st H ((List.range n).map fun i => .int (lo + (i : Nat))) (Itr lo n) := by
  intro m' st' H' e s'
  refine ⟨fun i d hd => ?_, by show n ≤ _; simp⟩
  rw [List.getElem?_map] at hd
  cases q : (List.range n)[i]? with
  | none => rw [q] at hd; cases hd
  | some j =>
    rw [q] at hd; cases hd
    obtain ⟨h1, h2⟩ := List.getElem?_eq_some_iff.mp q
    rw [List.getElem_range] at h2
    subst h2
    refine ⟨by show i < n; simpa using h1, fun z H'' hy => ?_⟩
    obtain ⟨rfl, rfl⟩ := hy
    exact ⟨Ext.refl, s', by simp only [Rep]⟩
theorem i_seq {tge e : Expr} {env st} {r : Option (D × Store)} (he : EOk X W.cs e env st r) : IOk X W.cs tge e env st (match (generalizing := false) r with
    | some (x, st1) => (match seqD x with
      | some xs => some (xs, st1)
      | none => none)
    | none => none) := by
  intro ds st' e0 m σ H R hs hr hq
  cases r with
  | none => cases e0
  | some p1 =>
    obtain ⟨x, st1⟩ := p1
    cases h : seqD x with
    | none => simp only [h] at e0; cases e0
    | some l =>
      simp only [h] at e0
      cases e0
      rcases seqD_cases h with h | h
      · refine useI (pi_list peE) (he x _ rfl m σ H _ hs hr fun m1 v1 H1 x1 s1 p1 => ?_)
        obtain ⟨p, ys, rfl, h1, h2⟩ := lst_of h p1
        exact ⟨p, rfl, ⟨ys, h1⟩, hq m1 _ H1 x1 s1 (items_list s1 h p1)⟩
      · refine useI (pi_tup peE) (he x _ rfl m σ H _ hs hr fun m1 v1 H1 x1 s1 p1 => ?_)
        obtain ⟨p, ys, rfl, h1, h2⟩ := tup_of h p1
        exact ⟨p, rfl, ⟨ys, h1⟩, hq m1 _ H1 x1 s1 (items_tup s1 h p1)⟩
theorem i_rng (C : Cxt W k N sc X) {tge e : Expr} {px p env st} {r : Option (D × Store)} (hg : glB sc "range" = true) (hst : isStar e = false) (he : EOk X W.cs e env st r) : IOk X W.cs tge (.Call (.Name "range" px) [e] [] p) env st (match (generalizing := false) r with
    | some (.int n, st1) => if -1000000 < n ∧ n < 1000000 then some ((List.range n.toNat).map fun i => .int (0 + (i : Nat)), st1) else none
    | _ => none) := by
  intro ds st' e0 m σ H R hs hr hq
  cases r with
  | none => cases e0
  | some p1 =>
    obtain ⟨x, st1⟩ := p1
    cases x <;> simp only at e0 <;> try (cases e0; done)
    rename_i n
    split at e0
    · rename_i hn
      cases e0
      refine useI (pi_range1 (C.gl hg) (C.mdl.free _ (by decide)) (pa_cons peE pa_nil (starEach_cons hst)) (starEach_cons hst)) (he _ _ rfl m σ H _ hs hr fun m1 v1 H1 x1 s1 p1 => ?_)
      simp only [Rep] at p1
      subst p1
      exact ⟨n, rfl, by omega, by omega, hq m1 _ H1 x1 s1 items_rng⟩
    · cases e0
theorem i_rng2 (C : Cxt W k N sc X) {tge a b : Expr} {px p env st} {ra : Option (D × Store)} {rb : Store → Option (D × Store)} (hg : glB sc "range" = true) (ha0 : isStar a = false) (hb0 : isStar b = false) (ha : EOk X W.cs a env st ra) (hb : ∀ st1, EOk X W.cs b env st1 (rb st1)) :
    IOk X W.cs tge (.Call (.Name "range" px) [a, b] [] p) env st (match (generalizing := false) ra with
    | some (.int lo, st1) => (match rb st1 with
      | some (.int hi, st2) => if -1000000 < lo ∧ lo < 1000000 ∧ hi < 1000000 ∧ -1000000 < hi then some ((List.range (hi - lo).toNat).map fun i => .int (lo + (i : Nat)), st2) else none
      | _ => none)
    | _ => none) := by
  intro ds st' e0 m σ H R hs hr hq
  cases ra with
  | none => cases e0
  | some p1 =>
    obtain ⟨x, st1⟩ := p1
    cases x <;> simp only at e0 <;> try (cases e0; done)
    rename_i lo
    cases h2 : rb st1 with
    | none => simp only [h2] at e0; cases e0
    | some p2 =>
      obtain ⟨y, st2⟩ := p2
      cases y <;> simp only [h2] at e0 <;> try (cases e0; done)
      rename_i hi
      split at e0
      · rename_i hn
        cases e0
        refine useI (pi_range2 (C.gl hg) (C.mdl.free _ (by decide)) (pa_cons peE (pa_cons peE pa_nil (starEach_cons hb0)) (starEach_cons ha0)) (by rw [starEach_cons ha0, starEach_cons hb0]; rfl) (by rw [starEach_cons hb0]; rfl)) ?_
        refine ha _ _ rfl m σ H _ hs hr fun m1 v1 H1 x1 s1 p1 => ?_
        refine hb st1 _ _ h2 m1 σ H1 _ s1 (hr.ext hs.cells x1) fun m2 v2 H2 x2 s2 p2 => ?_
        simp only [Rep] at p1 p2
        subst p1 p2
        exact ⟨lo, hi, rfl, ⟨by omega, by omega, by omega, by omega⟩, hq m2 _ H2 (x1.trans x2) s2 items_rng⟩
      · cases e0
theorem zip_get {xs ys : List D} {i : Nat} {d : D} (h : ((xs.zip ys).map fun p => D.tup [p.1, p.2])[i]? = some d) : ∃ a b, xs[i]? = some a ∧ ys[i]? = some b ∧ d = .tup [a, b] := by
  rw [List.getElem?_map] at h
  cases q : (xs.zip ys)[i]? with
  | none => rw [q] at h; cases h
  | some p =>
    rw [q] at h; cases h
    obtain ⟨a, b⟩ := p
    rw [List.getElem?_zip_eq_some] at q
    exact ⟨a, b, q.1, q.2, rfl⟩
theorem pair_ok {K : PySem.W.Frag} {cs : List (Addr × Addr)} {m : List Addr} {st : Store} {H : Hp} {T : Addr} {a b : D} {x y : V} (s : SC K cs m st H) (hT : H T = none) (r1 : Rep K m (Lv m st) H a x) (r2 : Rep K m (Lv m st) H b y) :
    Ext m st H m st (upd H T (.tup [x, y])) ∧ SC K cs m st (upd H T (.tup [x, y])) ∧ Rep K m (Lv m st) (upd H T (.tup [x, y])) (.tup [a, b]) (.ref T) :=
  ⟨ext_new hT, s.new hT, rep_tup s hT (by simp only [Reps]; exact ⟨x, [y], rfl, r1, y, [], rfl, r2, rfl⟩)⟩
theorem i_zip (C : Cxt W k N sc X) {a b : Expr} {elts : List Expr} {kk : Nat} {tpos : Pos} {px p env st} {ra : Option (D × Store)} {rb : Store → Option (D × Store)} (hg : glB sc "zip" = true) (ha0 : isStar a = false) (hb0 : isStar b = false) (ha : EOk X W.cs a env st ra) (hb : ∀ st1, EOk X W.cs b env st1 (rb st1)) :
    IOk X W.cs (.Tuple elts kk tpos) (.Call (.Name "zip" px) [a, b] [] p) env st (match (generalizing := false) ra with
    | some (x, st1) => (match rb st1 with
      | some (y, st2) => (match zipD x y with
        | some l => some (l, st2)
        | none => none)
      | none => none)
    | none => none) := by
  intro ds st' e0 m σ H R hs hr hq
  cases ra with
  | none => cases e0
  | some p1 =>
    obtain ⟨x, st1⟩ := p1
    cases h2 : rb st1 with
    | none => simp only [h2] at e0; cases e0
    | some p2 =>
      obtain ⟨y, st2⟩ := p2
      cases h3 : zipD x y with
      | none => simp only [h2, h3] at e0; cases e0
      | some l =>
        simp only [h2, h3] at e0
        cases e0
        refine useI (RZ.pi_zipA (C.gl hg) (C.mdl.free _ (by decide)) (pa_cons peE (pa_cons peE pa_nil (starEach_cons hb0)) (starEach_cons ha0)) (starEach_cons ha0) (noStars_any (by simp [noStars, hb0]))) ?_
        refine ha _ _ rfl m σ H _ hs hr fun m1 v1 H1 x1 s1 p1 => ?_
        refine hb st1 _ _ h2 m1 σ H1 _ s1 (hr.ext hs.cells x1) fun m2 v2 H2 x2 s2 p2 => ?_
        have p1' := p1.ext s1.cells x2
        have xx := x1.trans x2
        unfold zipD at h3
        split at h3
        · rename_i xs ys e1 e2
          cases h3
          obtain ⟨q1, zs, rfl, g1, g2⟩ := lst_of e1 p1'
          obtain ⟨q2, ws, rfl, g3, g4⟩ := lst_of e2 p2
          refine ⟨q1, q2, zs, ws, rfl, .inl ⟨g1, g3, hq m2 _ H2 xx s2 ?_⟩⟩
          intro m' st' H' e s'
          obtain ⟨q1', zs', ez, k1, k2⟩ := lst_of e1 (p1'.ext s2.cells e)
          obtain ⟨q2', ws', ew, k3, k4⟩ := lst_of e2 (p2.ext s2.cells e)
          obtain rfl := ref_inj ez
          obtain rfl := ref_inj ew
          refine ⟨fun i d hd => ?_, zs', ws', k1, k3, ?_⟩
          · obtain ⟨a, b, i1, i2, rfl⟩ := zip_get hd
            obtain ⟨z1, z2, z3⟩ := k2.get i1
            obtain ⟨w1, w2, w3⟩ := k4.get i2
            refine ⟨⟨zs', ws', z1, w1, k1, k3, z2, w2⟩, fun v H'' hy => ?_⟩
            obtain ⟨T, x', y', rfl, hT, rfl, hx', hy'⟩ := hy
            have := hx' zs' k1
            rw [z2] at this; cases this
            have := hy' ws' k3
            rw [w2] at this; cases this
            exact pair_ok s' hT z3 w3
          · have := k2.length
            have := k4.length
            simp
            omega
        · split at h3
          · rename_i xs ys e1 e2
            cases h3
            obtain ⟨q1, zs, rfl, g1, g2⟩ := tup_of e1 p1'
            obtain ⟨q2, ws, rfl, g3, g4⟩ := tup_of e2 p2
            refine ⟨q1, q2, zs, ws, rfl, .inr ⟨g1, g3, hq m2 _ H2 xx s2 ?_⟩⟩
            intro m' st' H' e s'
            obtain ⟨q1', zs', ez, k1, k2⟩ := tup_of e1 (p1'.ext s2.cells e)
            obtain ⟨q2', ws', ew, k3, k4⟩ := tup_of e2 (p2.ext s2.cells e)
            obtain rfl := ref_inj ez
            obtain rfl := ref_inj ew
            refine ⟨fun i d hd => ?_, zs', ws', k1, k3, ?_⟩
            · obtain ⟨a, b, i1, i2, rfl⟩ := zip_get hd
              obtain ⟨z1, z2, z3⟩ := k2.get i1
              obtain ⟨w1, w2, w3⟩ := k4.get i2
              refine ⟨⟨zs', ws', z1, w1, k1, k3, z2, w2⟩, fun v H'' hy => ?_⟩
              obtain ⟨T, x', y', rfl, hT, rfl, hx', hy'⟩ := hy
              have := hx' zs' k1
              rw [z2] at this; cases this
              have := hy' ws' k3
              rw [w2] at this; cases this
              exact pair_ok s' hT z3 w3
            · have := k2.length
              have := k4.length
              simp
              omega
          · cases h3
theorem zip3_get {xs ys zs : List D} {i : Nat} {d : D} (h : ((xs.zip (ys.zip zs)).map fun p => D.tup [p.1, p.2.1, p.2.2])[i]? = some d) : ∃ a b c, xs[i]? = some a ∧ ys[i]? = some b ∧ zs[i]? = some c ∧ d = .tup [a, b, c] := by
  rw [List.getElem?_map] at h
  cases q : (xs.zip (ys.zip zs))[i]? with
  | none => rw [q] at h; cases h
  | some p =>
    rw [q] at h; cases h
    obtain ⟨a, b, c⟩ := p
    rw [List.getElem?_zip_eq_some] at q
    have q2 := q.2
    rw [List.getElem?_zip_eq_some] at q2
    exact ⟨a, b, c, q.1, q2.1, q2.2, rfl⟩
theorem three_ok {K : PySem.W.Frag} {cs : List (Addr × Addr)} {m : List Addr} {st : Store} {H : Hp} {T : Addr} {a b c : D} {x y z : V} (s : SC K cs m st H) (hT : H T = none) (r1 : Rep K m (Lv m st) H a x) (r2 : Rep K m (Lv m st) H b y) (r3 : Rep K m (Lv m st) H c z) :
    Ext m st H m st (upd H T (.tup [x, y, z])) ∧ SC K cs m st (upd H T (.tup [x, y, z])) ∧ Rep K m (Lv m st) (upd H T (.tup [x, y, z])) (.tup [a, b, c]) (.ref T) :=
  ⟨ext_new hT, s.new hT, rep_tup s hT (by simp only [Reps]; exact ⟨x, [y, z], rfl, r1, y, [z], rfl, r2, z, [], rfl, r3, rfl⟩)⟩
theorem i_zip3 (C : Cxt W k N sc X) {a b c : Expr} {elts : List Expr} {kk : Nat} {tpos : Pos} {px p env st} {ra : Option (D × Store)} {rb rc : Store → Option (D × Store)} (hg : glB sc "zip" = true) (ha0 : isStar a = false) (hb0 : isStar b = false) (hc0 : isStar c = false) (ha : EOk X W.cs a env st ra) (hb : ∀ st1, EOk X W.cs b env st1 (rb st1)) (hc : ∀ st2, EOk X W.cs c env st2 (rc st2)) :
    IOk X W.cs (.Tuple elts kk tpos) (.Call (.Name "zip" px) [a, b, c] [] p) env st (match (generalizing := false) ra with
    | some (x, st1) => (match rb st1 with
      | some (y, st2) => (match rc st2 with
        | some (z, st3) => (match zip3D x y z with
          | some l => some (l, st3)
          | none => none)
        | none => none)
      | none => none)
    | none => none) := by
  intro ds st' e0 m σ H R hs hr hq
  cases ra with
  | none => cases e0
  | some p1 =>
    obtain ⟨x, st1⟩ := p1
    cases h2 : rb st1 with
    | none => simp only [h2] at e0; cases e0
    | some p2 =>
      obtain ⟨y, st2⟩ := p2
      cases h4 : rc st2 with
      | none => simp only [h2, h4] at e0; cases e0
      | some p3 =>
        obtain ⟨z, st3⟩ := p3
        cases h3 : zip3D x y z with
        | none => simp only [h2, h4, h3] at e0; cases e0
        | some l =>
          simp only [h2, h4, h3] at e0
          cases e0
          refine useI (pi_zip3 (C.gl hg) (C.mdl.free _ (by decide)) (pa_cons peE (pa_cons peE (pa_cons peE pa_nil (starEach_cons hc0)) (starEach_cons hb0)) (starEach_cons ha0)) (starEach_cons ha0) (noStars_any (by simp [noStars, hb0, hc0]))) ?_
          refine ha _ _ rfl m σ H _ hs hr fun m1 v1 H1 x1 s1 p1 => ?_
          refine hb st1 _ _ h2 m1 σ H1 _ s1 (hr.ext hs.cells x1) fun m2 v2 H2 x2 s2 p2 => ?_
          refine hc st2 _ _ h4 m2 σ H2 _ s2 ((hr.ext hs.cells x1).ext s1.cells x2) fun m3 v3 H3 x3 s3 p3 => ?_
          have p1' := (p1.ext s1.cells x2).ext s2.cells x3
          have p2' := p2.ext s2.cells x3
          have xx := (x1.trans x2).trans x3
          unfold zip3D at h3
          split at h3
          · rename_i xs ys zs e1 e2 e3
            split at h3
            · rename_i hl
              cases h3
              obtain ⟨q1, as, rfl, g1, g2⟩ := lst_of e1 p1'
              obtain ⟨q2, bs, rfl, g3, g4⟩ := tup_of e2 p2'
              obtain ⟨q3, cs, rfl, g5, g6⟩ := lst_of e3 p3
              refine ⟨q1, q2, q3, as, bs, cs, rfl, g1, g3, g5, hq m3 _ H3 xx s3 ?_⟩
              intro m' st' H' e s'
              obtain ⟨q1', as', ez, k1, k2⟩ := lst_of e1 (p1'.ext s3.cells e)
              obtain ⟨q2', bs', ew, k3, k4⟩ := tup_of e2 (p2'.ext s3.cells e)
              obtain ⟨q3', cs', ev, k5, k6⟩ := lst_of e3 (p3.ext s3.cells e)
              obtain rfl := ref_inj ez
              obtain rfl := ref_inj ew
              obtain rfl := ref_inj ev
              refine ⟨fun i d hd => ?_, as', k1, ?_⟩
              · obtain ⟨a, b, c, i1, i2, i3, rfl⟩ := zip3_get hd
                obtain ⟨z1, z2, z3⟩ := k2.get i1
                obtain ⟨w1, w2, w3⟩ := k4.get i2
                obtain ⟨u1, u2, u3⟩ := k6.get i3
                refine ⟨⟨as', bs', cs', z1, w1, u1, k1, k3, k5, z2, w2, u2⟩, fun v H'' hy => ?_⟩
                obtain ⟨T, x', y', z', rfl, hT, rfl, hx', hy', hz'⟩ := hy
                have := hx' as' k1
                rw [z2] at this; cases this
                have := hy' bs' k3
                rw [w2] at this; cases this
                have := hz' cs' k5
                rw [u2] at this; cases this
                exact three_ok s' hT z3 w3 u3
              · have := k2.length
                simp
                omega
            · cases h3
          · cases h3
theorem i_enum (C : Cxt W k N sc X) {a : Expr} {elts : List Expr} {kk : Nat} {tpos : Pos} {px p env st} {ra : Option (D × Store)} (hg : glB sc "enumerate" = true) (ha0 : isStar a = false) (ha : EOk X W.cs a env st ra) :
    IOk X W.cs (.Tuple elts kk tpos) (.Call (.Name "enumerate" px) [a] [] p) env st (match (generalizing := false) ra with
    | some (x, st1) => (match lstD x with
      | some xs => some (xs.zipIdx.map fun p => .tup [.int (p.2 : Nat), p.1], st1)
      | none => none)
    | none => none) := by
  intro ds st' e0 m σ H R hs hr hq
  cases ra with
  | none => cases e0
  | some p1 =>
    obtain ⟨x, st1⟩ := p1
    cases h : lstD x with
    | none => simp only [h] at e0; cases e0
    | some l =>
      simp only [h] at e0
      cases e0
      refine useI (pi_enum (C.gl hg) (C.mdl.free _ (by decide)) (pa_cons peE pa_nil (starEach_cons ha0)) (starEach_cons ha0)) (ha x _ rfl m σ H _ hs hr fun m1 v1 H1 x1 s1 p1 => ?_)
      obtain ⟨q1, zs, rfl, g1, g2⟩ := lst_of h p1
      refine ⟨q1, zs, rfl, g1, hq m1 _ H1 x1 s1 ?_⟩
      intro m' st' H' e s'
      obtain ⟨q1', zs', ez, k1, k2⟩ := lst_of h (p1.ext s1.cells e)
      obtain rfl := ref_inj ez
      refine ⟨fun i d hd => ?_, zs', k1, by rw [← k2.length]; simp⟩
      rw [List.getElem?_map, List.getElem?_zipIdx] at hd
      cases q : l[i]? with
      | none => rw [q] at hd; cases hd
      | some y =>
        rw [q] at hd; cases hd
        obtain ⟨z1, z2, z3⟩ := k2.get q
        refine ⟨⟨zs', z1, k1, z2⟩, fun v H'' hy => ?_⟩
        obtain ⟨T, x', rfl, hT, rfl, hx'⟩ := hy
        have := hx' zs' k1
        rw [z2] at this; cases this
        have := pair_ok (a := .int ((0 + i : Nat) : Int)) (x := .int ((i : Nat) : Int)) s' hT (by simp [Rep]) z3
        simpa using this
end
end Mi

set_option Elab.async false
set_option linter.all false
set_option maxRecDepth 100000
set_option maxHeartbeats 4000000
/-! Mi21: statements. -/
namespace Mi
open PySem PySem.Spec PyProof.Rows L2 GenW

/-- where statements stand -/
structure StC (sc : Scope) (X : Cx) : Prop where
  kind : X.env.scope.kind = .function
  nev : X.xe = fun _ _ => False
  stk : X.stack = X.env :: X.outer
  fr : X.env.frame = some X.env.locals
  ex : X.ex = []
  sto : Sto (locB sc) X
def notLc : Expr → Bool
  | .ListComp .. => false
  | .SetComp .. => false
  | .DictComp .. => false
  | _ => true
theorem swaps_no {e : Expr} {t : Option Expr} {line : Nat} {env : PySem.Env} (h : notLc e = true) : swapsWith e t line env = pure false := by
  cases e <;> first | rfl | cases h
theorem swaps_tgt {e t : Expr} {line : Nat} {env : PySem.Env} (h : ∀ x p, t ≠ .Name x p) : swapsWith e (some t) line env = pure false := by
  cases e <;> cases t <;> first | rfl | exact absurd rfl (h _ _)
def lcSw (sc : Scope) (scope : Scope) (p : Pos) (t : Str) (pos : Pos) : Bool := decide (sc.names.lookup t = some .local) && pos.line == p.line && !(scope.names.any fun (n, k) => n == t && (k == .local || k == .cell))
theorem swaps_lc {elt : Expr} {gens : List Comprehension} {scope : Scope} {p pos : Pos} {t : Str} {line : Nat} {env : PySem.Env} (hk : env.scope.kind = .function) :
    swapsWith (.ListComp elt gens scope p) (some (.Name t pos)) line env = pure (lcSw env.scope scope p t pos) := by
  have hb : env.blockKind = .function := by
    unfold Env.blockKind
    rw [hk]; rfl
  unfold swapsWith lcSw
  simp only [hb]
  have e : (env.kindOf t == some NameKind.local) = decide (env.scope.names.lookup t = some .local) := by
    unfold Env.kindOf
    by_cases h : List.lookup t env.scope.names = some .local
    · simp [h]
    · simp [h]
  rw [e]
  rfl
def FlAft (X : Cx) (cs : List (Addr × Addr)) (m : List Addr) (st : Store) (H : Hp) (D : Ends) : Fl → Prop
  | .nxt env' st' => ∀ m' σ' H', Ext m st H m' st' H' → SC X.K cs m' st' H' → EnvR X.K m' st' H' env' σ' → D.nx σ' H'
  | .ret d st' => ∀ m' v H', Ext m st H m' st' H' → SC X.K cs m' st' H' → Rep X.K m' (Lv m' st') H' d v → D.rt v H'
  | .brk env' st' => ∀ m' σ' H', Ext m st H m' st' H' → SC X.K cs m' st' H' → EnvR X.K m' st' H' env' σ' → D.bk σ' H'
  | .cnt env' st' => ∀ m' σ' H', Ext m st H m' st' H' → SC X.K cs m' st' H' → EnvR X.K m' st' H' env' σ' → D.ct σ' H'
theorem FlAft.ext {X : Cx} {cs : List (Addr × Addr)} {m m1 : List Addr} {st st1 : Store} {H H1 : Hp} {D : Ends} {fl : Fl} (x : Ext m st H m1 st1 H1) (h : FlAft X cs m st H D fl) : FlAft X cs m1 st1 H1 D fl := by
  cases fl with
  | nxt env' st' => exact fun m' σ' H' a b c => h m' σ' H' (x.trans a) b c
  | ret d st' => exact fun m' σ' H' a b c => h m' σ' H' (x.trans a) b c
  | brk env' st' => exact fun m' σ' H' a b c => h m' σ' H' (x.trans a) b c
  | cnt env' st' => exact fun m' σ' H' a b c => h m' σ' H' (x.trans a) b c
def SOk (X : Cx) (cs : List (Addr × Addr)) (s : Stmt) (env : Env) (st : Store) (r : Option Fl) : Prop :=
  ∀ fl, r = some fl → ∀ m σ H D, SC X.K cs m st H → EnvR X.K m st H env σ → FlAft X cs m st H D fl → tS X s D σ H
def SsOk (X : Cx) (cs : List (Addr × Addr)) (s : List Stmt) (env : Env) (st : Store) (r : Option Fl) : Prop :=
  ∀ fl, r = some fl → ∀ m σ H D, SC X.K cs m st H → EnvR X.K m st H env σ → FlAft X cs m st H D fl → tSs X s D σ H
section
variable {W : Wld} {k : Nat} {N : List Str} {sc : Scope} {X : Cx} [NotHot W]
omit [NotHot W] in
theorem ss_nil {env st} : SsOk X W.cs [] env st (some (.nxt env st)) := by
  intro fl e m σ H D hs hr hq
  cases e
  exact useSs pss_nil (hq m σ H Ext.refl hs hr)
omit [NotHot W] in
theorem ss_cons {s : Stmt} {rest : List Stmt} {env st} {r : Option Fl} {r2 : Env → Store → Option Fl} (h1 : SOk X W.cs s env st r) (h2 : ∀ env' st', SsOk X W.cs rest env' st' (r2 env' st')) :
    SsOk X W.cs (s :: rest) env st (match (generalizing := false) r with
    | some (.nxt env' st') => r2 env' st'
    | x => x) := by
  intro fl e m σ H D hs hr hq
  refine useSs (pss_cons psS pssS) ?_
  cases r with
  | none => cases e
  | some f =>
    refine h1 f rfl m σ H _ hs hr ?_
    cases f with
    | nxt env' st' =>
      intro m' σ' H' x s' er
      exact h2 env' st' fl e m' σ' H' D s' er (hq.ext x)
    | ret d st' => cases e; exact hq
    | brk env' st' => cases e; exact hq
    | cnt env' st' => cases e; exact hq
omit [NotHot W] in
theorem st_asg (C : Cxt W k N sc X) (S : StC sc X) {i : Nat} {x : Str} {e : Expr} {p' pos : Pos} {env st} {r : Option (D × Store)} (hi : N[i]? = some x) (hl : locB sc x = true) (hn : swapsWith e (some (.Name x p')) pos.line X.env = pure false) (he : EOk X W.cs e env st r) :
    SOk X W.cs (.Assign [.Name x p'] e pos) env st (match (generalizing := false) r with
    | some (y, st1) => some (.nxt (env.set i (some y)) st1)
    | none => none) := by
  intro fl e0 m σ H D hs hr hq
  cases r with
  | none => cases e0
  | some p1 =>
    obtain ⟨y, st1⟩ := p1
    cases e0
    obtain ⟨h1, h2⟩ := S.sto x hl
    refine useS (ps_set (by rw [C.hN]; exact C.nd) (by rw [C.hN]; exact hi) h1 peE hn h2) (he y _ rfl m σ H _ hs hr fun m1 v1 H1 x1 s1 p1 => ?_)
    exact hq m1 _ H1 x1 s1 ((hr.ext hs.cells x1).set p1)
theorem st_asgLc (C : Cxt W k N sc X) (S : StC sc X) {i : Nat} {x : Str} {p' pos lpos : Pos} {elt tge iter : Expr} {ifs : List Expr} {scope : Scope} {own : List (Str × Nat)} {tg : ITg} {cond : ITo} {eltI : IE} {env : Env} {st : Store} {r : Option (List D × Store)}
    (hi0 : N[i]? = some x) (hl : locB sc x = true) (ok : BlkOk N sc scope own) (hi : IOk X W.cs tge iter env st r) (hfold : foldB iter = true)
    (hB : ∀ G, Cxt W k N (relS scope sc) G → Sto (locB scope) G → (GenCx W k X → GenCx W k G) → TgOk G W.cs tg tge ∧ (∀ env st, TsOk G W.cs ifs env st (evTo (callF W.T W.F k) env cond st)) ∧ ∀ env st, EOk G W.cs elt env st (evE (callF W.T W.F k) env eltI st)) :
    SOk X W.cs (.Assign [.Name x p'] (.ListComp elt [⟨tge, iter, ifs, 0⟩] scope lpos) pos) env st (match (match (generalizing := false) r with
    | some (xs, st1) => if tgOwn tg (own.map (·.2)) then (match mapSt st1.length (turnF (callF W.T W.F k) (wipeE env (own.map (·.2))) tg cond eltI) xs (st1 ++ [some []]) with
      | some st2 => (match st2[st1.length]? with
        | some (some ys) => cutD st1.length (.lst ys) st2
        | _ => none)
      | none => none) else none
    | none => none) with
    | some (y, st1) => some (.nxt (env.set i (some y)) st1)
    | none => none) := by
  have hsw := swaps_lc (elt := elt) (gens := [⟨tge, iter, ifs, 0⟩]) (scope := scope) (p := lpos) (pos := p') (t := x) (line := pos.line) S.kind
  cases hb : lcSw X.env.scope scope lpos x p' with
  | false =>
    rw [hb] at hsw
    exact st_asg C S hi0 hl hsw (s_comp C ok hi hfold hB)
  | true =>
    rw [hb] at hsw
    intro fl e0 m σ H D hs hr hq
    cases r with
    | none => cases e0
    | some p1 =>
      obtain ⟨xs, st1⟩ := p1
      simp only at e0
      split at e0
      · rename_i y st1' e
        cases e0
        split at e
        · rename_i hown
          split at e
          · rename_i st2 hm
            split at e
            · rename_i ys hys
              have hloc : X.env.scope.names.lookup x = some .local := by
                unfold lcSw at hb
                simp only [Bool.and_eq_true, decide_eq_true_eq] at hb
                exact hb.1.1
              refine useS (ps_setLc (g := fun v σ H Q => ∀ s0 H0 c cl fp, tGt (X.blk s0 H0 scope (compEnvC scope cl c X.env) fp) tge v σ H Q) (tt := fun σ H Q => ∀ s0 H0 c cl fp, tTs (X.blk s0 H0 scope (compEnvC scope cl c X.env) fp) ifs σ H Q)
                (te := fun σ H Q => ∀ s0 H0 c cl fp, tE (X.blk s0 H0 scope (compEnvC scope cl c X.env) fp) elt σ H Q) C.cm (by rw [C.hN]; exact C.nd) (by rw [C.hN]; exact hi0) hloc hsw piI (by rw [C.hN, C.hsc]; exact ok)
                (fun s0 H0 c cl fp => ⟨fun pins s σ H v u Q I rr h => h s0 H0 c cl fp pins s u I rr⟩) (fun s0 H0 c cl fp => ⟨fun pins s σ H Q I h => h s0 H0 c cl fp pins s I⟩)
                (fun s0 H0 c cl fp => ⟨fun pins s σ H Q I h => h s0 H0 c cl fp pins s I⟩) (foldB_set hfold)) ?_
              exact comp_core C hi hB hown hm hys e hs hr fun m1 v1 H1 x1 s1 p1 => hq m1 _ H1 x1 s1 ((hr.ext hs.cells x1).set p1)
            · cases e
          · cases e
        · cases e
      · cases e0
omit [NotHot W] in
theorem st_expr {e : Expr} {pos : Pos} {env st} {r : Option (D × Store)} (hn : notLc e = true) (he : EOk X W.cs e env st r) : SOk X W.cs (.Expr e pos) env st (match (generalizing := false) r with
    | some (_, st1) => some (.nxt env st1)
    | none => none) := by
  intro fl e0 m σ H D hs hr hq
  cases r with
  | none => cases e0
  | some p1 =>
    obtain ⟨y, st1⟩ := p1
    cases e0
    exact useS (ps_expr peE (swaps_no hn)) (he y _ rfl m σ H _ hs hr fun m1 v1 H1 x1 s1 p1 => hq m1 σ H1 x1 s1 (hr.ext hs.cells x1))
omit [NotHot W] in
theorem st_ret {e : Expr} {pos : Pos} {env st} {r : Option (D × Store)} (he : EOk X W.cs e env st r) : SOk X W.cs (.Return (some e) pos) env st (match (generalizing := false) r with
    | some (x, st1) => some (.ret x st1)
    | none => none) := by
  intro fl e0 m σ H D hs hr hq
  cases r with
  | none => cases e0
  | some p1 =>
    obtain ⟨y, st1⟩ := p1
    cases e0
    exact useS (ps_ret peE) (he y _ rfl m σ H _ hs hr fun m1 v1 H1 x1 s1 p1 => hq m1 v1 H1 x1 s1 p1)
omit [NotHot W] in
theorem st_retN {pos : Pos} {env st} : SOk X W.cs (.Return none pos) env st (some (.ret .non st)) := by
  intro fl e0 m σ H D hs hr hq
  cases e0
  exact useS ps_retN (hq m _ H Ext.refl hs (by simp only [Rep]))
omit [NotHot W] in
theorem st_pass {pos : Pos} {env st} : SOk X W.cs (.Pass pos) env st (some (.nxt env st)) := by
  intro fl e0 m σ H D hs hr hq
  cases e0
  exact useS ps_pass (hq m σ H Ext.refl hs hr)
omit [NotHot W] in
theorem st_doc {x : Str} {j p pos} {env st} : SOk X W.cs (.Expr (.Constant (.str x) j p) pos) env st (some (.nxt env st)) := by
  intro fl e0 m σ H D hs hr hq
  cases e0
  exact useS ps_doc (hq m σ H Ext.refl hs hr)
omit [NotHot W] in
theorem st_brk {pos : Pos} {env st} : SOk X W.cs (.Break pos) env st (some (.brk env st)) := by
  intro fl e0 m σ H D hs hr hq
  cases e0
  exact useS ps_break (hq m σ H Ext.refl hs hr)
omit [NotHot W] in
theorem st_cnt {pos : Pos} {env st} : SOk X W.cs (.Continue pos) env st (some (.cnt env st)) := by
  intro fl e0 m σ H D hs hr hq
  cases e0
  exact useS ps_continue (hq m σ H Ext.refl hs hr)
omit [NotHot W] in
theorem st_if {c : Expr} {a b : List Stmt} {pos : Pos} {env st} {rt : Option (Bool × Store)} {ra rb : Store → Option Fl} (ht : TOk X W.cs c env st rt) (ha : ∀ st1, SsOk X W.cs a env st1 (ra st1)) (hb : ∀ st1, SsOk X W.cs b env st1 (rb st1)) :
    SOk X W.cs (.If c a b pos) env st (match (generalizing := false) rt with
    | some (true, st1) => ra st1
    | some (false, st1) => rb st1
    | none => none) := by
  intro fl e m σ H D hs hr hq
  cases rt with
  | none => cases e
  | some p1 =>
    obtain ⟨x, st1⟩ := p1
    refine useS (ps_if ptT pssS pssS) (ht x _ rfl m σ H _ hs hr fun m1 H1 x1 s1 => ?_)
    cases x with
    | true =>
      rw [if_pos rfl]
      exact ha st1 fl e m1 σ H1 D s1 (hr.ext hs.cells x1) (hq.ext x1)
    | false =>
      rw [if_neg (by decide)]
      exact hb st1 fl e m1 σ H1 D s1 (hr.ext hs.cells x1) (hq.ext x1)
theorem st_for (C : Cxt W k N sc X) (S : StC sc X) {tge iter : Expr} {body : List Stmt} {pos : Pos} {tg : ITg} {env st} {r : Option (List D × Store)} {rb : Env → Store → Option Fl} (hi : IOk X W.cs tge iter env st r) (hfold : foldSB iter = true) (hT : TgOk X W.cs tg tge)
    (hb : ∀ env' st', SsOk X W.cs body env' st' (rb env' st')) :
    SOk X W.cs (.For tge iter body [] pos) env st (match (generalizing := false) r with
    | some (xs, st1) => loopF (fun x env st => match bindT tg x env with
      | some env' => rb env' st
      | none => none) xs env st1
    | none => none) := by
  intro fl e m σ H D hs hr hq
  cases r with
  | none => cases e
  | some p1 =>
    obtain ⟨xs, st1⟩ := p1
    simp only at e
    refine useS (ps_for (by rw [S.nev]; exact PassesOwn.never) C.cm piI pgG pssS (foldSB_set hfold)) ?_
    refine hi xs st1 rfl m σ H _ hs hr fun m1 J H1 x1 s1 items => ?_
    refine ⟨fun i mm σ' H' => ∃ m' env' st', i + mm = xs.length ∧ Ext m1 st1 H1 m' st' H' ∧ SC X.K W.cs m' st' H' ∧ EnvR X.K m' st' H' env' σ' ∧ loopF (fun x env st => match bindT tg x env with
      | some env' => rb env' st
      | none => none) (xs.drop i) env' st' = some fl, ⟨xs.length, m1, env, st1, by omega, Ext.refl, s1, hr.ext hs.cells x1, e⟩, ?_⟩
    intro i mm σ' H' ⟨m', env', st', him, x', s', er', hl⟩
    have it := items m' st' H' x' s'
    cases mm with
    | zero =>
      left
      have e1 : i = xs.length := by omega
      rw [e1] at hl ⊢
      rw [List.drop_length] at hl
      simp only [loopF, Option.some.injEq] at hl
      subst hl
      exact ⟨it.2, hq m' σ' H' (x1.trans x') s' er'⟩
    | succ mm =>
      right
      have hlt : i < xs.length := by omega
      have hat : xs[i]? = some xs[i] := List.getElem?_eq_getElem hlt
      have hdrop : xs.drop i = xs[i] :: xs.drop (i + 1) := List.drop_eq_getElem_cons hlt
      generalize hxe : xs[i] = x at hat hdrop
      rw [hdrop] at hl
      have zi := it.1 i x hat
      refine ⟨zi.1, _, fun σ2 H2 w => ⟨mm, Nat.lt_succ_self _, w⟩, fun v H'' y7 => ?_⟩
      obtain ⟨x7, s7, r7⟩ := zi.2 v H'' y7
      cases hbt : bindT tg x env' with
      | none =>
        simp only [loopF, hbt] at hl
        cases hl
      | some env2 =>
        refine hT m' st' H'' x env' env2 σ' v _ hbt s7 (er'.ext s'.cells x7) r7 fun vs er2 => ?_
        simp only [loopF, hbt] at hl
        cases hf : rb env2 st' with
        | none => simp only [hf] at hl; cases hl
        | some f1 =>
          simp only [hf] at hl
          refine hb env2 st' f1 hf m' _ H'' _ s7 er2 ?_
          have xx : Ext m st H m' st' H'' := (x1.trans x').trans x7
          cases f1 with
          | nxt env3 st3 => exact fun m3 σ3 H3 a b c => ⟨m3, env3, st3, by omega, (x'.trans x7).trans a, b, c, hl⟩
          | cnt env3 st3 => exact fun m3 σ3 H3 a b c => ⟨m3, env3, st3, by omega, (x'.trans x7).trans a, b, c, hl⟩
          | brk env3 st3 => cases hl; exact fun m3 σ3 H3 a b c => hq m3 σ3 H3 (xx.trans a) b c
          | ret d st3 => cases hl; exact fun m3 v3 H3 a b c => hq m3 v3 H3 (xx.trans a) b c
omit [NotHot W] in
theorem st_while (S : StC sc X) {c : Expr} {body : List Stmt} {pos : Pos} {F : Nat} {env st} {rt : Env → Store → Option (Bool × Store)} {rb : Env → Store → Option Fl} (ht : ∀ env st, TOk X W.cs c env st (rt env st)) (hb : ∀ env' st', SsOk X W.cs body env' st' (rb env' st')) :
    SOk X W.cs (.While c body [] pos) env st (loopW rt rb F env st) := by
  intro fl e m σ H D hs hr hq
  refine useS (ps_while (by rw [S.nev]; exact PassesOwn.never) ptT pssS) ?_
  refine ⟨fun mm σ' H' => ∃ m' env' st', Ext m st H m' st' H' ∧ SC X.K W.cs m' st' H' ∧ EnvR X.K m' st' H' env' σ' ∧ loopW rt rb mm env' st' = some fl, ⟨F, m, env, st, Ext.refl, hs, hr, e⟩, ?_⟩
  intro mm σ' H' ⟨m', env', st', x', s', er', hl⟩
  cases mm with
  | zero => simp only [loopW] at hl; cases hl
  | succ mm =>
    simp only [loopW] at hl
    cases h1 : rt env' st' with
    | none => simp only [h1] at hl; cases hl
    | some p =>
      obtain ⟨b, st1⟩ := p
      refine ht env' st' b st1 h1 m' σ' H' _ s' er' fun m1 H1 x1 s1 => ?_
      cases b with
      | false =>
        simp only [h1] at hl
        cases hl
        rw [if_neg (by decide)]
        exact hq m1 σ' H1 (x'.trans x1) s1 (er'.ext s'.cells x1)
      | true =>
        simp only [h1] at hl
        rw [if_pos rfl]
        refine ⟨_, fun σ2 H2 w => ⟨mm, Nat.lt_succ_self _, w⟩, ?_⟩
        cases hf : rb env' st1 with
        | none => simp only [hf] at hl; cases hl
        | some f1 =>
          simp only [hf] at hl
          refine hb env' st1 f1 hf m1 _ H1 _ s1 (er'.ext s'.cells x1) ?_
          have xx := x'.trans x1
          cases f1 with
          | nxt env3 st3 => exact fun m3 σ3 H3 a b c => ⟨m3, env3, st3, xx.trans a, b, c, hl⟩
          | cnt env3 st3 => exact fun m3 σ3 H3 a b c => ⟨m3, env3, st3, xx.trans a, b, c, hl⟩
          | brk env3 st3 => cases hl; exact fun m3 σ3 H3 a b c => hq m3 σ3 H3 (xx.trans a) b c
          | ret d st3 => cases hl; exact fun m3 v3 H3 a b c => hq m3 v3 H3 (xx.trans a) b c
end
end Mi

set_option Elab.async false
set_option linter.all false
set_option maxRecDepth 100000
set_option maxHeartbeats 4000000
/-! Mi22: stores. -/
namespace Mi
open PySem PySem.Spec PyProof.Rows L2 GenW

def tGs (X : Cx) (es : List Expr) : TGs := fun vs σ H Q => ∀ pins s us, Inv X pins σ H s → Vals vs us →
  wpAny (model X.prog X.w) X.A (assignInOrder ((assignEach es X.env).map (·.2)) us) (fun _ s' => ∃ σ' H', Inv X pins σ' H' s' ∧ Q σ' H') X.xe s
theorem pgsG {X : Cx} {es : List Expr} : PGs X es (tGs X es) := ⟨fun pins s σ H vs us Q I r h => h pins s us I r⟩
def isTg : Expr → Bool
  | .Name _ _ => true
  | .Subscript _ i _ => !isSlice i
  | _ => false
theorem assignEach_cons {e : Expr} {es : List Expr} {env : PySem.Env} (h : isTg e = true) : assignEach (e :: es) env = (false, assign e env) :: assignEach es env := by
  cases e <;> first | rfl | cases h
theorem assignEach_tg {es : List Expr} {env : PySem.Env} (h : es.all isTg = true) : (assignEach es env).length = es.length ∧ (assignEach es env).findIdx? (·.1) = none := by
  induction es with
  | nil => exact ⟨rfl, rfl⟩
  | cons e es ih =>
    simp only [List.all_cons, Bool.and_eq_true] at h
    obtain ⟨h1, h2⟩ := ih h.2
    rw [assignEach_cons h.1]
    refine ⟨by rw [List.length_cons, h1, List.length_cons], ?_⟩
    rw [List.findIdx?_cons]
    simp [h2]
section
variable {W : Wld} {k : Nat} {N : List Str} {sc : Scope} {X : Cx} [NotHot W]
theorem pg_subX {o i : Expr} {pos : Pos} (hi : isSlice i = false) : PG X (.Subscript o i pos) (gSub (tE X o) (tE X i) rSetL) := by
  refine pg_sub peE peE set_list ?_
  intro v
  cases i <;> first | rfl | cases hi
/-- a store into a cell, by values -/
theorem set_ok {x y v : D} {st st' : Store} {m : List Addr} {H : Hp} {ov iv vv : V} {cs : List (Addr × Addr)} {Q : Hp → Prop} (h : setC x y v st = some st') (hs : SC X.K cs m st H) (r1 : Rep X.K m (Lv m st) H x ov) (r2 : Rep X.K m (Lv m st) H y iv) (r3 : Rep X.K m (Lv m st) H v vv)
    (hq : ∀ H', Ext m st H m st' H' → SC X.K cs m st' H' → Q H') : rSetL ov iv vv H Q := by
  cases x <;> simp only [setC] at h <;> try (cases h; done)
  rename_i n
  cases y <;> simp only at h <;> try (cases h; done)
  rename_i i
  simp only [Rep] at r1 r2
  obtain ⟨a, rfl, ha⟩ := r1
  split at h
  · rename_i xs hx
    split at h
    · rename_i j hj
      cases h
      obtain ⟨a', ys, q1, q2, q3⟩ := hs.cell _ _ hx
      rw [ha] at q1; cases q1
      exact ⟨a, ys, i, j, rfl, r2, q2, by rw [← q3.length]; exact hj, hq _ (ext_set (K := X.K) (cs := cs) hs hx ha) (hs.setc hx ha (q3.set r3 j))⟩
    · cases h
  · cases h
def GsOk (X : Cx) (cs : List (Addr × Addr)) (es : List Expr) (c : CallT) (ts : List Tgt) : Prop :=
  ∀ xs env st env' st', asgTs c ts xs env st = some (env', st') → ∀ m σ H vs (Q : L2.St → Hp → Prop), SC X.K cs m st H → EnvR X.K m st H env σ → Reps X.K m (Lv m st) H xs vs →
    (∀ m' σ' H', Ext m st H m' st' H' → SC X.K cs m' st' H' → EnvR X.K m' st' H' env' σ' → Q σ' H') → tGs X es vs σ H Q
omit [NotHot W] in
theorem gs_nil {c : CallT} : GsOk X W.cs [] c [] := by
  intro xs env st env' st' h m σ H vs Q hs hr rr hq
  cases xs with
  | nil =>
    simp only [asgTs, Option.some.injEq, Prod.mk.injEq] at h
    obtain ⟨rfl, rfl⟩ := h
    simp only [Reps] at rr
    exact fun pins s us I r => pgs_nil.run pins s σ H vs us Q I r ⟨rr, hq m σ H Ext.refl hs hr⟩
  | cons x xs => simp only [asgTs] at h; cases h
omit [NotHot W] in
theorem gs_nm {c : CallT} (C : Cxt W k N sc X) (S : StC sc X) {i : Nat} {e : Expr} {es : List Expr} {ts : List Tgt} (h0 : nmB sc N i e = true) (ht : GsOk X W.cs es c ts) : GsOk X W.cs (e :: es) c (.nm i :: ts) := by
  intro xs env st env' st' h m σ H vs Q hs hr rr hq
  cases e <;> simp only [nmB, Bool.false_eq_true, Bool.and_eq_true, decide_eq_true_eq] at h0
  rename_i x p
  obtain ⟨h1, h2⟩ := S.sto x h0.1.2
  cases xs with
  | nil => simp only [asgTs] at h; cases h
  | cons y ys =>
    simp only [asgTs] at h
    simp only [Reps] at rr
    obtain ⟨v, r, rfl, r1, r2⟩ := rr
    intro pins s us I rv
    refine (pgs_cons (pg_name (i := i) (by rw [C.hN]; exact C.nd) (by rw [C.hN]; exact h0.1.1) h1 h2) pgsG (by rw [assignEach_cons rfl]; rfl)).run pins s σ H _ us Q I rv ⟨v, r, rfl, ?_⟩
    exact ht ys _ st env' st' h m _ H r Q hs (hr.set r1) r2 hq
omit [NotHot W] in
theorem gs_sub {c : CallT} (C : Cxt W k N sc X) {o ix : IE} {x y : Expr} {p : Pos} {es : List Expr} {ts : List Tgt} (hi : isSlice y = false) (ho : ∀ env st, EOk X W.cs x env st (evE c env o st)) (hy : ∀ env st, EOk X W.cs y env st (evE c env ix st)) (ht : GsOk X W.cs es c ts) :
    GsOk X W.cs (.Subscript x y p :: es) c (.sub o ix :: ts) := by
  intro xs env st env' st' h m σ H vs Q hs hr rr hq
  cases xs with
  | nil => simp only [asgTs] at h; cases h
  | cons z zs =>
    simp only [asgTs] at h
    simp only [Reps] at rr
    obtain ⟨v, r, rfl, r1, r2⟩ := rr
    cases h1 : evE c env o st with
    | none => simp only [h1] at h; cases h
    | some p1 =>
      obtain ⟨ov, st1⟩ := p1
      cases h2 : evE c env ix st1 with
      | none => simp only [h1, h2] at h; cases h
      | some p2 =>
        obtain ⟨iv, st2⟩ := p2
        cases h3 : setC ov iv z st2 with
        | none => simp only [h1, h2, h3] at h; cases h
        | some st3 =>
          simp only [h1, h2, h3] at h
          intro pins s us I rv
          refine (pgs_cons (pg_subX hi) pgsG (by rw [assignEach_cons (by simp [isTg, hi])]; rfl)).run pins s σ H _ us Q I rv ⟨v, r, rfl, ?_⟩
          refine ho env st ov st1 h1 m σ H _ hs hr fun m1 v1 H1 x1 s1 p1 => ?_
          refine hy env st1 iv st2 h2 m1 σ H1 _ s1 (hr.ext hs.cells x1) fun m2 v2 H2 x2 s2 p2 => ?_
          have x12 := x1.trans x2
          refine set_ok h3 s2 (p1.ext s1.cells x2) p2 (r1.ext hs.cells x12) fun H3 x3 s3 => ?_
          have x13 := x12.trans x3
          exact ht zs env st3 env' st' h m2 σ H3 r Q s3 (hr.ext hs.cells x13) (r2.ext hs.cells x13) fun m' σ' H' a b d => hq m' σ' H' (x13.trans a) b d
def notTup : Expr → Bool
  | .Tuple .. => false
  | _ => true
theorem sw_none {ts : List Expr} {kk : Nat} {tp : Pos} {e : Expr} {env : PySem.Env} (h : notTup e = true) : swappedStores [.Tuple ts kk tp] e env = pure none := by
  cases e <;> first | rfl | cases h
theorem sw_none4 {ts vs : List Expr} {kk k2 : Nat} {tp p2 : Pos} {env : PySem.Env} (h : (ts.length == 2 || ts.length == 3) = false) : swappedStores [.Tuple ts kk tp] (.Tuple vs k2 p2) env = pure none := by
  unfold swappedStores
  simp only [h]
  rfl
theorem sw_noneC {ts vs : List Expr} {kk k2 : Nat} {tp p2 : Pos} {env : PySem.Env} (hs : vs.any isStar = false) (h : vs.all (foldedForSure 8) = true) : swappedStores [.Tuple ts kk tp] (.Tuple vs k2 p2) env = pure none := by
  unfold swappedStores
  simp only [h, if_true]
  repeat' split
  all_goals rfl
theorem asgTs_len {c : CallT} : ∀ {ts : List Tgt} {xs : List D} {env : Env} {st : Store} {r : Env × Store}, asgTs c ts xs env st = some r → xs.length = ts.length
  | [], [], _, _, _, _ => rfl
  | [], _ :: _, _, _, _, h => by simp only [asgTs] at h; cases h
  | t :: ts, [], _, _, _, h => by cases t <;> (simp only [asgTs] at h; cases h)
  | t :: ts, x :: xs, env, st, r, h => by
    cases t with
    | nm i =>
      simp only [asgTs] at h
      rw [List.length_cons, List.length_cons, asgTs_len h]
    | tp l => simp only [asgTs] at h; cases h
    | sub o ix =>
      simp only [asgTs] at h
      split at h
      · split at h
        · split at h
          · rw [List.length_cons, List.length_cons, asgTs_len h]
          · cases h
        · cases h
      · cases h
theorem st_asgT (C : Cxt W k N sc X) {c : CallT} {es : List Expr} {ts : List Tgt} {kk : Nat} {tp pos : Pos} {e : Expr} {env st} {r : Option (D × Store)} (hes : es.all isTg = true) (hw : swappedStores [.Tuple es kk tp] e X.env = pure none) (he : EOk X W.cs e env st r) (hg : GsOk X W.cs es c ts) (hl : es.length = ts.length) :
    SOk X W.cs (.Assign [.Tuple es kk tp] e pos) env st (match (generalizing := false) r with
    | some (.tup xs, st1) => (match asgTs c ts xs env st1 with
      | some (env', st') => some (.nxt env' st')
      | none => none)
    | some (.lst xs, st1) => (match asgTs c ts xs env st1 with
      | some (env', st') => some (.nxt env' st')
      | none => none)
    | _ => none) := by
  intro fl e0 m σ H D hs hr hq
  cases r with
  | none => cases e0
  | some p1 =>
    obtain ⟨y, st1⟩ := p1
    cases y <;> simp only at e0 <;> try (cases e0; done)
    case tup xs =>
      cases h : asgTs c ts xs env st1 with
      | none => simp only [h] at e0; cases e0
      | some p2 =>
        obtain ⟨env', st'⟩ := p2
        simp only [h] at e0
        cases e0
        obtain ⟨l1, l2⟩ := assignEach_tg (env := X.env) hes
        have hxl := asgTs_len h
        refine useS (ps_asg (g := gTup X.K es.length (tGs X es)) peE (pg_tup C.cm pgsG l1 l2) (show swapsWith e (some (.Tuple es kk tp)) pos.line X.env = pure false from swaps_tgt (fun x p z => by cases z)) hw rfl) (he _ _ rfl m σ H _ hs hr fun m1 v1 H1 x1 s1 p1 => ?_)
        simp only [Rep] at p1
        obtain ⟨a, vs, rfl, q1, q2⟩ := p1
        exact ⟨a, vs, rfl, q1, by rw [← q2.length, hxl, hl], hg xs env st1 env' st' h m1 σ H1 vs _ s1 (hr.ext hs.cells x1) q2 fun m' σ' H' a b d => hq m' σ' H' (x1.trans a) b d⟩
    case lst xs =>
      cases h : asgTs c ts xs env st1 with
      | none => simp only [h] at e0; cases e0
      | some p2 =>
        obtain ⟨env', st'⟩ := p2
        simp only [h] at e0
        cases e0
        obtain ⟨l1, l2⟩ := assignEach_tg (env := X.env) hes
        have hxl := asgTs_len h
        refine useS (ps_asg (g := gUnl X.K es.length (tGs X es)) peE (pg_unl C.cm pgsG l1 l2) (show swapsWith e (some (.Tuple es kk tp)) pos.line X.env = pure false from swaps_tgt (fun x p z => by cases z)) hw rfl) (he _ _ rfl m σ H _ hs hr fun m1 v1 H1 x1 s1 p1 => ?_)
        obtain ⟨a, vs, rfl, q1, q2⟩ := lst_of (x := .lst xs) rfl p1
        exact ⟨a, vs, rfl, q1, by rw [← q2.length, hxl, hl], hg xs env st1 env' st' h m1 σ H1 vs _ s1 (hr.ext hs.cells x1) q2 fun m' σ' H' a b d => hq m' σ' H' (x1.trans a) b d⟩
omit [NotHot W] in
theorem st_asgS (C : Cxt W k N sc X) {c : CallT} {o ix : IE} {x y e : Expr} {p pos : Pos} {env st} {r : Option (D × Store)} (hi : isSlice y = false) (he : EOk X W.cs e env st r) (ho : ∀ env st, EOk X W.cs x env st (evE c env o st)) (hy : ∀ env st, EOk X W.cs y env st (evE c env ix st)) :
    SOk X W.cs (.Assign [.Subscript x y p] e pos) env st (match (generalizing := false) r with
    | some (z, st1) => (match evE c env o st1 with
      | some (ov, st2) => (match evE c env ix st2 with
        | some (iv, st3) => (match setC ov iv z st3 with
          | some st4 => some (.nxt env st4)
          | none => none)
        | none => none)
      | none => none)
    | none => none) := by
  intro fl e0 m σ H D hs hr hq
  cases r with
  | none => cases e0
  | some p1 =>
    obtain ⟨z, st1⟩ := p1
    cases h1 : evE c env o st1 with
    | none => simp only [h1] at e0; cases e0
    | some p1 =>
      obtain ⟨ov, st2⟩ := p1
      cases h2 : evE c env ix st2 with
      | none => simp only [h1, h2] at e0; cases e0
      | some p2 =>
        obtain ⟨iv, st3⟩ := p2
        cases h3 : setC ov iv z st3 with
        | none => simp only [h1, h2, h3] at e0; cases e0
        | some st4 =>
          simp only [h1, h2, h3] at e0
          cases e0
          refine useS (ps_asg peE (pg_subX hi) (show swapsWith e (some (.Subscript x y p)) pos.line X.env = pure false from swaps_tgt (fun x p z => by cases z)) rfl rfl) (he _ _ rfl m σ H _ hs hr fun m1 v1 H1 x1 s1 p1 => ?_)
          refine ho env st1 ov st2 h1 m1 σ H1 _ s1 (hr.ext hs.cells x1) fun m2 v2 H2 x2 s2 p2 => ?_
          refine hy env st2 iv st3 h2 m2 σ H2 _ s2 ((hr.ext hs.cells x1).ext s1.cells x2) fun m3 v3 H3 x3 s3 p3 => ?_
          have x13 := (x1.trans x2).trans x3
          refine set_ok h3 s3 (p2.ext s2.cells x3) p3 (p1.ext s1.cells (x2.trans x3)) fun H4 x4 s4 => ?_
          exact hq m3 σ H4 (x13.trans x4) s4 (hr.ext hs.cells (x13.trans x4))
end
end Mi

set_option Elab.async false
set_option linter.all false
set_option maxRecDepth 100000
set_option maxHeartbeats 4000000
/-! Mi23: pairs and triples of names, +=, append. -/
namespace Mi
open PySem PySem.Spec PyProof.Rows L2 GenW

theorem star_fun : (fun e : Expr => match e with | .Starred .. => true | _ => false) = isStar := by
  funext e
  cases e <;> rfl
theorem blockK {env : PySem.Env} (hk : env.scope.kind = .function) : env.blockKind = .function := by
  unfold Env.blockKind
  rw [hk]; rfl
theorem kindL {env : PySem.Env} {x : Str} (h : env.scope.names.lookup x = some .local) : (env.kindOf x == some NameKind.local) = true := by
  unfold Env.kindOf
  rw [h]; rfl
theorem sw_par2 {x y : Str} {px py pt p2 : Pos} {kt k2 : Nat} {a b : Expr} {env : PySem.Env} (hk : env.scope.kind = .function) (hx : env.scope.names.lookup x = some .local) (hy : env.scope.names.lookup y = some .local)
    (hl : (py.line == px.line) = true) (hxy : x ≠ y) (hst : [a, b].any isStar = false) (hf : [a, b].all (foldedForSure 8) = false) (hc : [a, b].all (constantsAlone 8) = false) :
    swappedStores [.Tuple [.Name x px, .Name y py] kt pt] (.Tuple [a, b] k2 p2) env = pure (some [x, y]) := by
  have hst2 : ([a, b].any fun e => match e with | .Starred .. => true | _ => false) = false := by rw [star_fun]; exact hst
  have hd : ([x, y].eraseDups.length != [x, y].length) = false := by
    have e : (y == x) = false := by simpa using Ne.symm hxy
    simp [List.eraseDups_cons, e, Ne.symm hxy]
  unfold swappedStores
  simp only [hf, hc, blockK hk, List.filterMap_cons, List.filterMap_nil, kindL hx, kindL hy, Expr.pos, List.head?_cons, Option.map_some, Option.getD_some, hl, beq_self_eq_true, Bool.and_true, if_true, Bool.true_and]
  simp only [hd]
  split
  · rename_i z; simp at z
  · split
    · rename_i z
      exact absurd (hst2.symm.trans z) (by decide)
    · rfl
theorem sw_par3 {x y z : Str} {px py pz pt p2 : Pos} {kt k2 : Nat} {a b c : Expr} {env : PySem.Env} (hk : env.scope.kind = .function) (hx : env.scope.names.lookup x = some .local) (hy : env.scope.names.lookup y = some .local) (hz : env.scope.names.lookup z = some .local)
    (hl : (py.line == px.line) = true) (hl2 : (pz.line == px.line) = true) (hxy : x ≠ y) (hxz : x ≠ z) (hyz : y ≠ z) (hst : [a, b, c].any isStar = false) (hf : [a, b, c].all (foldedForSure 8) = false) (hc : [a, b, c].all (constantsAlone 8) = false) :
    swappedStores [.Tuple [.Name x px, .Name y py, .Name z pz] kt pt] (.Tuple [a, b, c] k2 p2) env = pure (some [x, y, z]) := by
  have hst2 : ([a, b, c].any fun e => match e with | .Starred .. => true | _ => false) = false := by rw [star_fun]; exact hst
  have hd : ([x, y, z].eraseDups.length != [x, y, z].length) = false := by
    simp [List.eraseDups_cons, Ne.symm hxy, Ne.symm hxz, Ne.symm hyz]
  unfold swappedStores
  simp only [hf, hc, blockK hk, List.filterMap_cons, List.filterMap_nil, kindL hx, kindL hy, kindL hz, Expr.pos, List.head?_cons, Option.map_some, Option.getD_some, hl, hl2, beq_self_eq_true, Bool.and_true, if_true, Bool.true_and]
  simp only [hd]
  split
  · rename_i z; simp at z
  · split
    · rename_i z
      exact absurd (hst2.symm.trans z) (by decide)
    · rfl
section
variable {W : Wld} {k : Nat} {N : List Str} {sc : Scope} {X : Cx} [NotHot W]
theorem st_par2 (C : Cxt W k N sc X) (S : StC sc X) {i j : Nat} {x y : Str} {px py pt p2 pos : Pos} {kt k2 : Nat} {a b : Expr} {env st} {r : Option (List D × Store)} (hi : N[i]? = some x) (hj : N[j]? = some y) (hij : i ≠ j) (hxy : x ≠ y) (hx : sc.names.lookup x = some .local) (hy : sc.names.lookup y = some .local)
    (hl : (py.line == px.line) = true) (hst : [a, b].any isStar = false) (hf : [a, b].all (foldedForSure 8) = false) (hc : [a, b].all (constantsAlone 8) = false) (he : AOk X W.cs [a, b] env st r) :
    SOk X W.cs (.Assign [.Tuple [.Name x px, .Name y py] kt pt] (.Tuple [a, b] k2 p2) pos) env st (match (generalizing := false) r with
    | some (xs, st1) => if [i, j].length = xs.length then some (.nxt (([i, j].zip xs).foldl (fun e p => e.set p.1 (some p.2)) env) st1) else none
    | none => none) := by
  intro fl e m σ H D hs hr hq
  rw [← C.hsc] at hx hy
  cases r with
  | none => cases e
  | some p1 =>
    obtain ⟨xs, st1⟩ := p1
    simp only at e
    split at e
    · rename_i hlen
      cases e
      refine useS (ps_par C.cm (by rw [C.hN]; exact C.nd) (by rw [C.hN]; exact hi) (by rw [C.hN]; exact hj) hij hx hy paA (sw_par2 S.kind hx hy hl hxy hst hf hc) rfl) (he xs _ rfl m σ H _ hs hr fun m1 vs H1 x1 s1 p1 => ?_)
      match xs, hlen, p1, hq with
      | [u, w], _, p1, hq =>
        simp only [Reps] at p1
        obtain ⟨v1, _, rfl, q1, v2, _, rfl, q2, rfl⟩ := p1
        exact ⟨v1, v2, rfl, hq m1 _ H1 x1 s1 (((hr.ext hs.cells x1).set q1).set q2)⟩
    · cases e
theorem st_par3 (C : Cxt W k N sc X) (S : StC sc X) {i j l : Nat} {x y z : Str} {px py pz pt p2 pos : Pos} {kt k2 : Nat} {a b c : Expr} {env st} {r : Option (List D × Store)} (hi : N[i]? = some x) (hj : N[j]? = some y) (hlz : N[l]? = some z) (hij : i ≠ j) (hil : i ≠ l) (hjl : j ≠ l) (hxy : x ≠ y) (hxz : x ≠ z) (hyz : y ≠ z)
    (hx : sc.names.lookup x = some .local) (hy : sc.names.lookup y = some .local) (hz : sc.names.lookup z = some .local)
    (hl : (py.line == px.line) = true) (hl2 : (pz.line == px.line) = true) (hst : [a, b, c].any isStar = false) (hf : [a, b, c].all (foldedForSure 8) = false) (hc : [a, b, c].all (constantsAlone 8) = false) (he : AOk X W.cs [a, b, c] env st r) :
    SOk X W.cs (.Assign [.Tuple [.Name x px, .Name y py, .Name z pz] kt pt] (.Tuple [a, b, c] k2 p2) pos) env st (match (generalizing := false) r with
    | some (xs, st1) => if [i, j, l].length = xs.length then some (.nxt (([i, j, l].zip xs).foldl (fun e p => e.set p.1 (some p.2)) env) st1) else none
    | none => none) := by
  intro fl e m σ H D hs hr hq
  rw [← C.hsc] at hx hy hz
  cases r with
  | none => cases e
  | some p1 =>
    obtain ⟨xs, st1⟩ := p1
    simp only at e
    split at e
    · rename_i hlen
      cases e
      refine useS (ps_par3 C.cm (by rw [C.hN]; exact C.nd) (by rw [C.hN]; exact hi) (by rw [C.hN]; exact hj) (by rw [C.hN]; exact hlz) hij hil hjl hx hy hz paA (sw_par3 S.kind hx hy hz hl hl2 hxy hxz hyz hst hf hc) rfl) (he xs _ rfl m σ H _ hs hr fun m1 vs H1 x1 s1 p1 => ?_)
      match xs, hlen, p1, hq with
      | [u, w, t], _, p1, hq =>
        simp only [Reps] at p1
        obtain ⟨v1, _, rfl, q1, v2, _, rfl, q2, v3, _, rfl, q3, rfl⟩ := p1
        exact ⟨v1, v2, v3, rfl, hq m1 _ H1 x1 s1 ((((hr.ext hs.cells x1).set q1).set q2).set q3)⟩
    · cases e
omit [NotHot W] in
theorem st_aug (C : Cxt W k N sc X) (S : StC sc X) {i : Nat} {x : Str} {o : BOp} {op : Operator} {e : Expr} {p' pos : Pos} {env st} {re : Option (D × Store)} (hi : N[i]? = some x) (hl : locB sc x = true) (hop : bopB o op = true) (he : EOk X W.cs e env st re) :
    SOk X W.cs (.AugAssign (.Name x p') op e pos) env st (match env[i]? with
    | some (some x) => (match (generalizing := false) re with
      | some (y, st1) => (match (generalizing := false) o, x, y with
        | .add, .int a, .int b => some (.nxt (env.set i (some (.int (a + b)))) st1)
        | .sub, .int a, .int b => some (.nxt (env.set i (some (.int (a - b)))) st1)
        | _, _, _ => none)
      | none => none)
    | _ => none) := by
  intro fl e0 m σ H D hs hr hq
  obtain ⟨h1, h2⟩ := S.sto x hl
  split at e0
  · rename_i dx hx
    obtain ⟨v, hv, rv⟩ := hr.get i dx hx
    cases re with
    | none => cases e0
    | some p1 =>
      obtain ⟨y, st1⟩ := p1
      have intsG : ∀ {f : Int → Int → Int} {a b : Int}, PIp X op (ipI f) → EOk X W.cs e env st (some (.int b, st1)) → v = .int a → FlAft X W.cs m st H D (.nxt (env.set i (some (.int (f a b)))) st1) → tS X (.AugAssign (.Name x p') op e pos) D σ H := by
        intro f a b hip he hva hq
        subst hva
        refine useS (ps_aug (by rw [C.hN]; exact C.nd) (by rw [C.hN]; exact hi) h1 peE hip h2) ⟨.int a, hv, he _ _ rfl m σ H _ hs hr fun m1 v1 H1 x1 s1 p1 => ?_⟩
        simp only [Rep] at p1
        subst p1
        exact ⟨a, b, rfl, rfl, hq m1 _ H1 x1 s1 ((hr.ext hs.cells x1).set (by simp only [Rep]))⟩
      cases o with
      | add =>
        have e : op = .Add := by cases op <;> first | rfl | cases hop
        subst e
        cases dx <;> simp only at e0 <;> try (cases e0; done)
        cases y <;> simp only at e0 <;> try (cases e0; done)
        cases e0
        exact intsG ip_add he (by simpa only [Rep] using rv) hq
      | sub =>
        have e : op = .Sub := by cases op <;> first | rfl | cases hop
        subst e
        cases dx <;> simp only at e0 <;> try (cases e0; done)
        cases y <;> simp only at e0 <;> try (cases e0; done)
        cases e0
        exact intsG ip_sub he (by simpa only [Rep] using rv) hq
      | _ => cases dx <;> cases y <;> (simp only at e0; cases e0)
  · cases e0
omit [NotHot W] in
theorem st_app (C : Cxt W k N sc X) {i : Nat} {x : Str} {p1 apos cpos pos : Pos} {e : Expr} {env st} {re : Option (D × Store)} (hi : N[i]? = some x) (hv : visB sc x = true) (hp : plainX x = true) (hst : isStar e = false) (hline : (apos.endLine == cpos.line) = true) (he : EOk X W.cs e env st re) :
    SOk X W.cs (.Expr (.Call (.Attribute (.Name x p1) "append" apos) [e] [] cpos) pos) env st (match env[i]? with
    | some (some (.cell n)) => (match st[n]? with
      | some (some _) => (match (generalizing := false) re with
        | some (y, st1) => (match st1[n]? with
          | some (some xs) => if xs.length < sizeLine then some (.nxt env (st1.set n (some (xs ++ [y])))) else none
          | _ => none)
        | none => none)
      | _ => none)
    | _ => none) := by
  intro fl e0 m σ H D hs hr hq
  split at e0
  · rename_i n hx
    split at e0
    · rename_i xs0 hx0
      cases re with
      | none => cases e0
      | some q1 =>
        obtain ⟨y, st1⟩ := q1
        simp only at e0
        split at e0
        · rename_i xs hxs
          split at e0
          · rename_i hz
            cases e0
            obtain ⟨v, hv1, rv⟩ := hr.get i _ hx
            simp only [Rep] at rv
            obtain ⟨a, rfl, ha⟩ := rv
            obtain ⟨pp1, pp2, _⟩ := plainX_ok hp
            obtain ⟨a0, ys0, z1, z2, _⟩ := hs.cell _ _ hx0
            rw [ha] at z1; cases z1
            refine useS (ps_expr (pe_bm PySem.F.plainAttrs_list PySem.F.slot_list_append PySem.F.type_list_append mt_append (pe_var (i := i) (by rw [C.hN]; exact hi) (by rw [C.hsc]; exact visB_ok hv) pp1 pp2) (pa_cons peE pa_nil (starEach_cons hst)) rfl (by rw [starEach_cons hst]; rfl) hline (starEach_cons hst) (by rfl)) rfl) ?_
            refine ⟨.ref a, hv1, .inl ⟨rfl, ys0, .inl (.inl z2)⟩, ?_⟩
            refine he y st1 rfl m σ H _ hs hr fun m1 v1 H1 x1 s1 p1 => ?_
            obtain ⟨a1, ys1, w1, w2, w3⟩ := s1.cell _ _ hxs
            have ha1 := x1.pre _ _ ha
            rw [ha1] at w1; cases w1
            have r2 : Reps X.K m1 (Lv m1 st1) H1 (xs ++ [y]) (ys1 ++ [v1]) := w3.append (by simp only [Reps]; exact ⟨v1, [], rfl, p1, rfl⟩)
            refine ⟨a, ys1, v1, rfl, rfl, w2, by rw [← w3.length]; exact hz, ?_⟩
            have xx := x1.trans (ext_set (K := X.K) (cs := W.cs) (vs := ys1 ++ [v1]) (ys := xs ++ [y]) s1 hxs ha1)
            exact hq m1 σ _ xx (s1.setc hxs ha1 r2) (hr.ext hs.cells xx)
          · cases e0
        · cases e0
    · cases e0
  · cases e0
end
end Mi

set_option Elab.async false
set_option linter.all false
set_option maxRecDepth 100000
set_option maxHeartbeats 4000000
/-! MiY1: isinstance and fields of exceptions; count, index; a + b into a new place. -/
namespace Mi
open PySem PySem.Spec PyProof.Rows L2
section
variable {W : Wld} {k : Nat} {N : List Str} {sc : Scope} {X : Cx}
theorem s_isx (C : Cxt W k N sc X) {a : Expr} {x z : Str} {yes no : List Str} {px pz p env st} {r : Option (D × Store)} (hx : x = "isinstance") (hg : glB sc x = true) (hgz : glB sc z = true) (hpz : plainX z = true) (hst : isStar a = false)
    (hy : ∀ c ∈ yes, W.xm c z = some true) (hn : ∀ c ∈ no, W.xm c z = some false) (ha : EOk X W.cs a env st r) :
    EOk X W.cs (.Call (.Name x px) [a, .Name z pz] [] p) env st (match (generalizing := false) r with
    | some (.exc cl _ _, st1) => if yes.contains cl then some (.bl true, st1) else if no.contains cl then some (.bl false, st1) else none
    | _ => none) := by
  intro d st' e m σ H Q hs hr hq
  cases r with
  | none => cases e
  | some p1 =>
    obtain ⟨y, st1⟩ := p1
    cases y <;> simp only at e <;> try (cases e; done)
    rename_i cl f vs
    have key : ∃ b, W.xm cl z = some b ∧ d = .bl b ∧ st' = st1 := by
      split at e
      · rename_i h
        cases e
        exact ⟨true, hy _ (List.contains_iff_mem.mp h), rfl, rfl⟩
      · split at e
        · rename_i h
          cases e
          exact ⟨false, hn _ (List.contains_iff_mem.mp h), rfl, rfl⟩
        · cases e
    obtain ⟨b, hb, rfl, rfl⟩ := key
    subst hx
    have go : ∀ (c : V) (cv : Value), PE X (.Name z pz) (tC c) → (∀ u, RelV c u → u = cv) → (∀ C, PySem.W.nsIn X.K mainGlobals cl = some (some (.ref C)) → PySem.W.kitOne X.K (.ref C) cv = some b) → tE X (.Call (.Name "isinstance" px) [a, .Name z pz] [] p) σ H Q := fun c cv ty hc hk => by
      refine useE (pe_callB call_isQ (C.gl hg) (C.mdl.free _ (by decide)) (by decide +kernel) (pa_cons peE (pa_cons ty pa_nil (starEach_cons rfl)) (starEach_cons hst)) (by decide) (by decide) (starEach_cons hst) (noStars_any (by rfl))) ?_
      refine ha _ _ rfl m σ H _ hs hr fun m1 v1 H1 x1 s1 p1 => ?_
      simp only [Rep] at p1
      obtain ⟨a1, C1, od, ys, rfl, e2, h1, hT, h2, h3⟩ := p1
      refine ⟨a1, C1, od, c, cv, b, rfl, h1, fun d e => ?_, hc, hT, hk C1 e2, hq m1 _ H1 x1 s1 (by simp only [Rep])⟩
      rcases h3 with ⟨h3, _⟩ | ⟨d', y, h3, _, _, h4⟩
      · rw [h3] at e; cases e
      · rw [h3] at e; cases e
        exact ⟨_, h4⟩
    obtain ⟨d1, d2, d3⟩ := plainX_ok hpz
    have ih := C.mdl.xis cl z b hb
    obtain ⟨cv, hcv, hk⟩ := ih
    rcases hcv with ⟨h1, D, rfl⟩ | ⟨h1, h2, T, rfl⟩
    · exact go (.ref D) (.ref D) (pe_glob (C.gl hgz) h1 rfl d1) (fun u r => r) fun C h => (hk C h).1
    · exact go (.ty T) (.type T) (pe_bltn (u := .type T) (C.gl hgz) h1 h2 rfl d3 d1) (fun u r => r) fun C h => (hk C h).1
def plainBase : Expr → Bool
  | .Name _ _ => true
  | .Subscript _ _ _ => true
  | .BinOp _ _ _ _ => true
  | .Tuple _ _ _ => true
  | .List _ _ => true
  | _ => false
theorem plainBase_ok {o : Expr} {n : Str} {env : PySem.Env} (h : plainBase o = true) : attributeBase o n env (eval o env) = eval o env := by
  cases o <;> first | rfl | cases h
theorem s_fld {a : Expr} {f : Str} {p env st} {r : Option (D × Store)} (hb : plainBase a = true) (ha : EOk X W.cs a env st r) : EOk X W.cs (.Attribute a f p) env st (match (generalizing := false) r with
    | some (.exc _ g [d], st1) => if g = f then some (d, st1) else none
    | _ => none) := by
  intro d st' e m σ H Q hs hr hq
  cases r with
  | none => cases e
  | some p1 =>
    obtain ⟨y, st1⟩ := p1
    cases y with
    | exc cl g vs =>
      rcases vs with _ | ⟨d0, _ | ⟨_, _⟩⟩
      · cases e
      · simp only at e
        split at e
        · rename_i hgf
          subst hgf
          cases e
          refine useE (pe_fldQ peE (plainBase_ok hb)) (ha _ _ rfl m σ H _ hs hr fun m1 v1 H1 x1 s1 p1 => ?_)
          simp only [Rep] at p1
          obtain ⟨a1, C1, od, ys, rfl, e2, h1, hT, h2, h3⟩ := p1
          obtain ⟨w, rfl, hw⟩ := h2.one
          rcases h3 with ⟨_, h3⟩ | ⟨d', y, rfl, h4, h5, h6⟩
          · cases h3
          · cases h4
            exact ⟨a1, C1, d', _, w, rfl, h1, h6, by simp [List.lookup], hT, h5, hq m1 w H1 x1 s1 hw⟩
        · cases e
      · cases e
    | _ => cases e
/-- xs.count(y), flat things -/
def rCntF (K : PySem.W.Frag) : V → List V → Hp → VK → Prop := fun x xs H Q => ∃ (p : Addr) (ys : List V) (y : V), x = .ref p ∧ xs = [y] ∧ SqL K H p ys ∧ flatV y = true ∧ ys.all flatV = true ∧ Q (.int (ys.countP (fun z => eqV z y) : Nat)) H
theorem mt_lcountF : MtR X "list.count" (rCntF X.K) := by
  intro pins s σ H x xs v us Q I rx rxs h
  obtain ⟨p, ys, y, rfl, rfl, hs, fy, fys, q⟩ := h
  cases rx
  cases rxs with
  | cons ry rt =>
    rename_i uy ut
    cases rt
    obtain ⟨its, rv, ⟨⟨cls, dd, data, sl⟩, n, ho, hc, hdn, hd⟩, hlen⟩ := I.list hs
    simp only at hc hd
    subst hc hd
    refine call_meets PySem.F.slot_list_count ⟨_, ho, rfl⟩ PySem.F.entry_list_count (PySem.F.args_list_count_2 _ _)
      (SeqAt.list_countAt p its.toArray n dd sl uy (eqU y)) ⟨ho, fun u' hu' => mem_eqAt ry fy rv fys u' (by simpa using hu'), ?_⟩
    have cnt : ∀ {zs : List V} {ts : List Value}, Vals zs ts → zs.all flatV = true → ts.countP (eqU y) = zs.countP (fun z => eqV z y) := by
      intro zs
      induction zs with
      | nil => intro ts h _; cases h; rfl
      | cons z zs ih =>
        intro ts h f
        cases h with
        | cons h1 h2 =>
          simp only [List.all_cons, Bool.and_eq_true] at f
          rw [List.countP_cons, List.countP_cons, ih h2 f.2, eqU_of h1 f.1]
    have ec := cnt rv fys
    refine ⟨.int (ys.countP (fun z => eqV z y) : Nat), H, I.tok _, ⟨s.toks, ?_⟩, q⟩
    show Value.int ((its.toArray.toList.countP (eqU y) : Nat) : Int) s.toks = _
    rw [← ec]
theorem bools_flat : ∀ {l : List D} {bs : List Bool}, boolsD l = some bs → l = bs.map D.bl
  | [], bs, h => by simp only [boolsD] at h; cases h; rfl
  | x :: l, bs, h => by
    cases x <;> simp only [boolsD] at h <;> try (cases h; done)
    simp only [Option.map_eq_some_iff] at h
    obtain ⟨r, hr, rfl⟩ := h
    rw [bools_flat hr]; rfl
theorem bl_flat (bs : List Bool) : (bs.map D.bl).all flatD = true := by
  induction bs with
  | nil => rfl
  | cons b bs ih => simp only [List.map_cons, List.all_cons, ih]; rfl
theorem cnt_bl (b : Bool) (bs : List Bool) : ((bs.map D.bl).map toV).countP (fun z => eqV z (.bl b)) = bs.count b := by
  induction bs with
  | nil => rfl
  | cons c bs ih =>
    rw [List.map_cons, List.map_cons, List.countP_cons, ih, List.count_cons]
    cases b <;> cases c <;> rfl
theorem find_ok {K : PySem.W.Frag} {m : List Addr} {L : Addr → Prop} {H : Hp} {y : D} (fy : flatD y = true) : ∀ {l : List D} {ys : List V} {i : Nat}, findD y l = some i → Reps K m L H l ys → l.all flatD = true → ∃ z, ys[i]? = some z ∧ eqV z (toV y) = true ∧ ∀ (j : Nat) (z' : V), j < i → ys[j]? = some z' → eqV z' (toV y) = false
  | [], ys, i, h, _, _ => by simp [findD] at h
  | x :: l, ys, i, h, r, f => by
    simp only [List.all_cons, Bool.and_eq_true] at f
    simp only [Reps] at r
    obtain ⟨w, ws, rfl, r1, r2⟩ := r
    obtain ⟨e1, _⟩ := toV_rep f.1 r1
    simp only [findD, f.1, Bool.true_and] at h
    split at h
    · rename_i h1
      cases h
      exact ⟨w, rfl, by rw [e1]; exact h1, fun j z' hj => by omega⟩
    · rename_i h1
      simp only [if_true, Option.map_eq_some_iff] at h
      obtain ⟨i', hi, rfl⟩ := h
      obtain ⟨z, z1, z2, z3⟩ := find_ok fy hi r2 f.2
      refine ⟨z, by simpa using z1, z2, fun j z' hj hz => ?_⟩
      cases j with
      | zero =>
        simp at hz
        subst hz
        rw [e1]
        simpa using h1
      | succ j => exact z3 j z' (by omega) (by simpa using hz)
theorem litems_of {K cs m st H} {x : D} {v : V} {l : List D} (hs : SC K cs m st H) (h : litemsD x st = some l) (r : Rep K m (Lv m st) H x v) : ∃ p ys, v = .ref p ∧ SqL K H p ys ∧ Reps K m (Lv m st) H l ys := by
  cases x <;> simp only [litemsD] at h <;> first | (cases h; done) | skip
  · cases h
    simp only [Rep] at r
    obtain ⟨a, ys, e, h1, _, h2⟩ := r
    exact ⟨a, ys, e, .inl (.inl h1), h2⟩
  · cases h
    simp only [Rep] at r
    obtain ⟨a, ys, e, h1, h2⟩ := r
    exact ⟨a, ys, e, h1.sqL, h2⟩
  · simp only [Rep] at r
    obtain ⟨a, e, h1⟩ := r
    split at h
    · rename_i xs hst
      cases h
      obtain ⟨a', ys, q1, q2, q3⟩ := hs.cell _ _ hst
      rw [h1] at q1; cases q1
      exact ⟨a, ys, e, .inl (.inl q2), q3⟩
    · cases h
theorem s_lm {n : Str} {rr : V → List V → Hp → VK → Prop} {a b : Expr} {p1 p2 : Pos} {env : Env} {st : Store} {ra : Option (D × Store)} {rb : Store → Option (D × Store)} {f : D → D → Store → Option D}
    (hp : ∀ {ta : TE} {tb : TE}, PE X a ta → PE X b tb → PE X (.Call (.Attribute a n p1) [b] [] p2) (tBM X.K "list" rr ta (tCons tb tNil))) (ha : EOk X W.cs a env st ra) (hb : ∀ st1, EOk X W.cs b env st1 (rb st1))
    (hf : ∀ x y st z m H v u Q, f x y st = some z → SC X.K W.cs m st H → Rep X.K m (Lv m st) H x v → Rep X.K m (Lv m st) H y u → Aft X W.cs m st H z st Q → rr v [u] H Q) :
    EOk X W.cs (.Call (.Attribute a n p1) [b] [] p2) env st (match (generalizing := false) ra with
    | some (x, st1) => if (litemsD x st1).isSome then (match rb st1 with
      | some (y, st2) => (match f x y st2 with
        | some z => some (z, st2)
        | none => none)
      | none => none) else none
    | none => none) := by
  intro d st' e0 m σ H Q hs hr hq
  cases ra with
  | none => cases e0
  | some p1 =>
    obtain ⟨x, st1⟩ := p1
    simp only at e0
    split at e0
    · rename_i hl
      obtain ⟨l, hl⟩ := Option.isSome_iff_exists.mp hl
      cases h2 : rb st1 with
      | none => simp only [h2] at e0; cases e0
      | some p2 =>
        obtain ⟨y, st2⟩ := p2
        cases h3 : f x y st2 with
        | none => simp only [h2, h3] at e0; cases e0
        | some z =>
          simp only [h2, h3] at e0
          cases e0
          refine useE (hp peE peE) (ha x st1 rfl m σ H _ hs hr fun m1 v1 H1 x1 s1 p1 => ?_)
          obtain ⟨pa, ys, rfl, q1, q2⟩ := litems_of s1 hl p1
          refine ⟨.inl ⟨rfl, ys, q1⟩, ?_⟩
          refine hb st1 y st' h2 m1 σ H1 _ s1 (hr.ext hs.cells x1) fun m2 v2 H2 x2 s2 p2 => ?_
          exact hf x y st' d m2 H2 (.ref pa) v2 Q h3 s2 (p1.ext s1.cells x2) p2 fun m3 v3 H3 x3 s3 p3 => hq m3 v3 H3 ((x1.trans x2).trans x3) s3 p3
    · cases e0
theorem s_lcn {a b : Expr} {p1 p2 env st} {ra : Option (D × Store)} {rb : Store → Option (D × Store)} (hpb : plainBase a = true) (hst : isStar b = false) (hline : (p1.endLine == p2.line) = true) (ha : EOk X W.cs a env st ra) (hb : ∀ st1, EOk X W.cs b env st1 (rb st1)) :
    EOk X W.cs (.Call (.Attribute a "count" p1) [b] [] p2) env st (match (generalizing := false) ra with
    | some (x, st1) => if (litemsD x st1).isSome then (match rb st1 with
      | some (y, st2) => (match lcnF x y st2 with
        | some z => some (z, st2)
        | none => none)
      | none => none) else none
    | none => none) := by
  refine s_lm (rr := rCntF X.K) (fun h1 h2 => pe_bm PySem.F.plainAttrs_list PySem.F.slot_list_count PySem.F.type_list_count mt_lcountF h1 (pa_cons h2 pa_nil (starEach_cons hst)) (plainBase_ok hpb) (by rw [starEach_cons hst]; rfl) hline (starEach_cons hst) (by rfl)) ha hb fun x y st z m H v u Q hz hs rx ry hq => ?_
  cases y <;> simp only [lcnF] at hz <;> try (cases hz; done)
  simp only [Option.bind_eq_some_iff, Option.map_eq_some_iff] at hz
  obtain ⟨l, hl, bs, hbs, rfl⟩ := hz
  have el := bools_flat hbs
  subst el
  obtain ⟨p, ys, rfl, h1, h2⟩ := litems_of hs hl rx
  obtain ⟨e1, e2⟩ := toV_reps (bl_flat bs) h2
  simp only [Rep] at ry
  subst ry
  refine ⟨p, ys, .bl _, rfl, rfl, h1, rfl, e2, ?_⟩
  rw [e1, cnt_bl]
  exact hq m _ H Ext.refl hs (by simp only [Rep])
theorem s_lix {a b : Expr} {p1 p2 env st} {ra : Option (D × Store)} {rb : Store → Option (D × Store)} (hpb : plainBase a = true) (hst : isStar b = false) (hline : (p1.endLine == p2.line) = true) (ha : EOk X W.cs a env st ra) (hb : ∀ st1, EOk X W.cs b env st1 (rb st1)) :
    EOk X W.cs (.Call (.Attribute a "index" p1) [b] [] p2) env st (match (generalizing := false) ra with
    | some (x, st1) => if (litemsD x st1).isSome then (match rb st1 with
      | some (y, st2) => (match lixF x y st2 with
        | some z => some (z, st2)
        | none => none)
      | none => none) else none
    | none => none) := by
  refine s_lm (rr := rIndex X.K) (fun h1 h2 => pe_bm PySem.F.plainAttrs_list PySem.F.slot_list_index PySem.F.type_list_index mt_index h1 (pa_cons h2 pa_nil (starEach_cons hst)) (plainBase_ok hpb) (by rw [starEach_cons hst]; rfl) hline (starEach_cons hst) (by rfl)) ha hb fun x y st z m H v u Q hz hs rx ry hq => ?_
  simp only [lixF] at hz
  split at hz
  · rename_i fy
    simp only [Option.bind_eq_some_iff] at hz
    obtain ⟨l, hl, hz⟩ := hz
    split at hz
    · rename_i fl
      simp only [Option.map_eq_some_iff] at hz
      obtain ⟨i, hi, rfl⟩ := hz
      obtain ⟨p, ys, rfl, h1, h2⟩ := litems_of hs hl rx
      obtain ⟨w, w1, w2, w3⟩ := find_ok fy hi h2 fl
      obtain ⟨e1, e2⟩ := toV_rep fy ry
      obtain ⟨_, e4⟩ := toV_reps fl h2
      subst e1
      exact ⟨p, ys, _, i, w, rfl, rfl, h1, e2, e4, w1, w2, w3, hq m _ H Ext.refl hs (by simp only [Rep])⟩
    · cases hz
  · cases hz
theorem s_nad {a b : Expr} {p env st} {ra : Option (D × Store)} {rb : Store → Option (D × Store)} (ha : EOk X W.cs a env st ra) (hb : ∀ st1, EOk X W.cs b env st1 (rb st1)) :
    EOk X W.cs (.BinOp a .Add b p) env st (match (generalizing := false) ra with
    | some (.lst xs, st1) => (match rb st1 with
      | some (.lst ys, st2) => if xs.length + ys.length ≤ sizeLine then some (.cell st2.length, st2 ++ [some (xs ++ ys)]) else none
      | _ => none)
    | _ => none) := by
  intro d st' e0 m σ H Q hs hr hq
  cases ra with
  | none => cases e0
  | some p1 =>
    obtain ⟨x, st1⟩ := p1
    cases x <;> simp only at e0 <;> try (cases e0; done)
    rename_i xs
    cases h2 : rb st1 with
    | none => simp only [h2] at e0; cases e0
    | some p2 =>
      obtain ⟨y, st2⟩ := p2
      cases y <;> simp only [h2] at e0 <;> try (cases e0; done)
      rename_i ys
      split at e0
      · rename_i hz
        cases e0
        refine useE (pe_op op_cat peE peE) (ha _ st1 rfl m σ H _ hs hr fun m1 v1 H1 x1 s1 p1 => ?_)
        refine hb st1 _ st2 h2 m1 σ H1 _ s1 (hr.ext hs.cells x1) fun m2 v2 H2 x2 s2 p2 => ?_
        have p1' := p1.ext s1.cells x2
        simp only [Rep] at p1' p2
        obtain ⟨a1, vs, rfl, h1, _, r1⟩ := p1'
        obtain ⟨b1, us, rfl, h3, _, r2⟩ := p2
        refine ⟨a1, b1, vs, us, rfl, rfl, h1, h3, by rw [← r1.length, ← r2.length]; exact hz, fun p hp => ?_⟩
        refine hq (m2 ++ [p]) _ _ ((x1.trans x2).trans (ext_cell s2.len hp)) (s2.push hp (r1.append r2)) ?_
        simp only [Rep]
        exact ⟨p, rfl, by rw [← s2.len]; simp⟩
      · cases e0
end
end Mi

set_option Elab.async false
set_option linter.all false
set_option maxRecDepth 100000
set_option maxHeartbeats 4000000
/-! MiY2: runs that raise: expressions. -/
namespace Mi
open PySem PySem.Spec PyProof.Rows L2
/-- what is wanted of an exception -/
abbrev XAft (X : Cx) (cs : List (Addr × Addr)) (m : List Addr) (st : Store) (H : Hp) (x : D) (st' : Store) (E : Value → Option Addr → Hp → Prop) : Prop :=
  ∀ m' cls od H', Ext m st H m' st' H' → SC X.K cs m' st' H' → ExcRep X.K m' (Lv m' st') H' x cls od → E cls od H'
def XEOk (X : Cx) (cs : List (Addr × Addr)) (e : Expr) (env : Env) (st : Store) (r : Option (D × Store)) : Prop :=
  ∀ x st', r = some (x, st') → ∀ m σ H (Wx : WX) (Q : VK), Takes X Wx → SC X.K cs m st H → EnvR X.K m st H env σ → XAft X cs m st H x st' (fun cls od H' => Wx cls od σ H') → tE X e σ H Q
def XAOk (X : Cx) (cs : List (Addr × Addr)) (es : List Expr) (env : Env) (st : Store) (r : Option (D × Store)) : Prop :=
  ∀ x st', r = some (x, st') → ∀ m σ H (Wx : WX) (Q : List V → Hp → Prop), Takes X Wx → SC X.K cs m st H → EnvR X.K m st H env σ → XAft X cs m st H x st' (fun cls od H' => Wx cls od σ H') → tA X es σ H Q
section
variable {W : Wld} {k : Nat} {N : List Str} {sc : Scope} {X : Cx} [NotHot W]
theorem XAft.ext {cs : List (Addr × Addr)} {m m1 : List Addr} {st st1 : Store} {H H1 : Hp} {x : D} {st' : Store} {E : Value → Option Addr → Hp → Prop} (z : Ext m st H m1 st1 H1) (h : XAft X cs m st H x st' E) : XAft X cs m1 st1 H1 x st' E :=
  fun m' cls od H' a b c => h m' cls od H' (z.trans a) b c
/-- the callee raises -/
theorem go_fx {a : Addr} {fd : FuncData} {ps : List Str} {sp : List V → Hp → XK → Prop} {pins : List (Addr × Obj)} {σ : L2.St} {H : Hp} {s : Shared} {Q : VK} {us : List Value} {vs : List V} {Wx : WX} (tk : Takes X Wx)
    (G : FnX X.prog X.w X.K X.mg X.base k a fd ps sp) (hr : Room k X.A) (hg : X.A.guards = some []) (hb : Binds X.K fd ps []) (I : Inv X pins σ H s) (r : Vals vs us) (h : sp vs H (fun cls od H' => Wx cls od σ H')) :
    wpAny (model X.prog X.w) X.A (call (.ref a) us) (EP X pins σ Q) X.xe s := by
  have hl : (us ++ []).length = ps.length := by rw [List.append_nil, ← r.length]; exact G.len _ _ _ h
  have b := hb s us I.kIn hl
  rw [List.append_nil] at b
  refine wpAny_call (codeAny_mono (G.go X.A X.stack s H ⟨us, []⟩ us vs _ hr hg I.env0 b r h) fun r s' hq => ?_)
  obtain ⟨u, rfl, cx⟩ := hq
  exact tk u s' (XE.of_call I (fun _ _ _ h => h) cx)
theorem x_call (C : Cxt W k N sc X) {f : Nat} {x : Str} {es : List Expr} {px p env st} {r rx : Option (D × Store)} {ra : Option (List D × Store)} (hf : W.nm f = some x) (hg : glB sc x = true) (hp : plainX x = true) (hs : noStars es = true)
    (h0 : es = [] → ra = some ([], st)) (ha : AOk X W.cs es env st ra) (hx : XAOk X W.cs es env st rx) : XEOk X W.cs (.Call (.Name x px) es [] p) env st (match (generalizing := false) ra with
    | some (xs, st1) => callF W.T W.F k (f + XB) xs st1
    | none => rx) := by
  intro d st' e m σ H Wx Q tk hs0 hr hq
  obtain ⟨a, fd, ps, g1, g2, g3, g4, _⟩ := C.mdl.xfns f x hf
  cases ra with
  | none =>
    have base := hx d st' e m σ H Wx (fun _ _ => False) tk hs0 hr hq
    intro pins s I
    refine wpAny_Call_Name_kw (ld_glob I (C.gl hg) g1 ?_ (plainX_ok hp).1)
    cases es with
    | nil => cases h0 rfl
    | cons y ys =>
      simp only [noStars, Bool.and_eq_true, Bool.not_eq_true'] at hs
      exact PySem.W.callWith_K (h₀ := X.base) I.ok.mod.kin g2 (thn (base p pins s I) fun us s1 ⟨vs, H1, I1, r1, q1⟩ => q1.elim) (starEach_cons hs.1) (noStars_any hs.2)
  | some p1 =>
    obtain ⟨xs, st1⟩ := p1
    intro pins s I
    have base := ha xs st1 rfl m σ H (fun vs H1 => spX W.T W.F X.K W.cs k f vs H1 (fun cls od H' => Wx cls od σ H')) hs0 hr fun m1 vs H1 x1 s1 p1 =>
      ⟨m1, st1, xs, d, st', s1, p1, e, hq.ext x1⟩
    refine wpAny_Call_Name_kw (ld_glob I (C.gl hg) g1 ?_ (plainX_ok hp).1)
    cases es with
    | nil =>
      have e1 := h0 rfl
      cases e1
      refine PySem.W.callWith_K0 I.kIn g2 ?_
      exact go_fx tk (us := []) g3 C.rm C.grd g4 I .nil ⟨m, st, [], d, st', hs0, Reps.nil, e, hq⟩
    | cons y ys =>
      simp only [noStars, Bool.and_eq_true, Bool.not_eq_true'] at hs
      refine PySem.W.callWith_K (h₀ := X.base) I.ok.mod.kin g2 (thn (base p pins s I) fun us s1 ⟨vs, H1, I1, r1, q1⟩ => ⟨I1.kIn, ?_⟩) (starEach_cons hs.1) (noStars_any hs.2)
      exact go_fx tk g3 C.rm C.grd g4 I1 r1 q1
theorem x_callk (C : Cxt W k N sc X) {f : Nat} {x : Str} {ks : List Keyword} {names : List Str} {perm : List Nat} {px p env st} {r : Option (List D × Store)} (hf : W.nm f = some x) (hg : glB sc x = true) (hp : plainX x = true) (hk : W.kw f names = some perm) (hn : ks.map (·.arg) = names.map some) (hl : ∀ ds st', r = some (ds, st') → ds.length = names.length)
    (ha : KOk X W.cs ks env st r) : XEOk X W.cs (.Call (.Name x px) [] ks p) env st (match (generalizing := false) r with
    | some (xs, st1) => (match perm.mapM (fun i => xs[i]?) with
      | some zs => callF W.T W.F k (f + XB) zs st1
      | none => none)
    | none => none) := by
  intro d st' e m σ H Wx Q tk hs0 hr hq
  cases r with
  | none => cases e
  | some p1 =>
    obtain ⟨xs, st1⟩ := p1
    simp only at e
    split at e
    · rename_i zs hz
      obtain ⟨a, fd, ps, g1, g2, g3, g4, g5⟩ := C.mdl.xfns f x hf
      obtain ⟨k1, k2, k3⟩ := kws_names (env := X.env) (pos := p) hn
      intro pins s I
      have base := ha xs st1 rfl m σ H (fun vs H1 => vs.length = names.length ∧ ∃ ws, perm.mapM (fun i => vs[i]?) = some ws ∧ spX W.T W.F X.K W.cs k f ws H1 (fun cls od H' => Wx cls od σ H')) hs0 hr fun m1 vs H1 x1 s1 p1 => by
        obtain ⟨ws, w1, w2⟩ := reps_perm p1 hz
        exact ⟨by rw [← p1.length]; exact hl _ _ rfl, ws, w1, m1, st1, zs, d, st', s1, w2, e, hq.ext x1⟩
      refine wpAny_Call_Name_kw (ld_glob I (C.gl hg) g1 ?_ (plainX_ok hp).1)
      refine PySem.W.callWith_KW0 (h₀ := X.base) I.ok.mod.kin g2 k1 (thn (base p pins s I) fun us s1 ⟨vs, H1, I1, r1, q0, ws, q1, q2⟩ => ⟨I1.kIn, ?_⟩) (by rw [k3]; rfl)
      rw [k2]
      obtain ⟨zus, z1, z2⟩ := vals_perm r1 q1
      have b := g5 names perm hk s1 us zus I1.kIn z1 (by rw [← r1.length]; exact q0) (by rw [← z2.length]; exact g3.len _ _ _ q2)
      refine wpAny_call (codeAny_mono (g3.go X.A X.stack s1 H1 ⟨[], names.zip us⟩ zus ws _ C.rm C.grd I1.env0 b z2 q2) fun r s' hq' => ?_)
      obtain ⟨u, rfl, cx⟩ := hq'
      exact tk u s' (XE.of_call I1 (fun _ _ _ h => h) cx)
    · cases e
theorem x_anil {env st} : XAOk X W.cs [] env st none := by
  intro x st' e
  cases e
theorem x_acons {e : Expr} {es : List Expr} {env st} {r rx : Option (D × Store)} {r2 : Store → Option (D × Store)} (hst : isStar e = false) (he : EOk X W.cs e env st r) (hx : XEOk X W.cs e env st rx) (hes : ∀ st1, XAOk X W.cs es env st1 (r2 st1)) :
    XAOk X W.cs (e :: es) env st (match (generalizing := false) r with
    | some (_, st1) => r2 st1
    | none => rx) := by
  intro x st' e0 m σ H Wx Q tk hs hr hq
  refine useA (pa_cons peE paA (starEach_cons hst)) ?_
  cases r with
  | none => exact hx x st' e0 m σ H Wx _ tk hs hr hq
  | some p1 =>
    obtain ⟨y, st1⟩ := p1
    exact he y st1 rfl m σ H _ hs hr fun m1 v1 H1 x1 s1 p1 => hes st1 x st' e0 m1 σ H1 Wx _ tk s1 (hr.ext hs.cells x1) (hq.ext x1)
theorem x_tup {es : List Expr} {kk p env st} {r : Option (D × Store)} (ha : XAOk X W.cs es env st r) : XEOk X W.cs (.Tuple es kk p) env st r := by
  intro x st' e m σ H Wx Q tk hs hr hq
  exact useE (pe_tup paA) (ha x st' e m σ H Wx _ tk hs hr hq)
theorem x_ife {c a b : Expr} {p env st} {rt : Option (Bool × Store)} {ra rb : Store → Option (D × Store)} (ht : TOk X W.cs c env st rt) (ha : ∀ st1, XEOk X W.cs a env st1 (ra st1)) (hb : ∀ st1, XEOk X W.cs b env st1 (rb st1)) :
    XEOk X W.cs (.IfExp c a b p) env st (match (generalizing := false) rt with
    | some (true, st1) => ra st1
    | some (false, st1) => rb st1
    | none => none) := by
  intro x st' e m σ H Wx Q tk hs hr hq
  cases rt with
  | none => cases e
  | some p1 =>
    obtain ⟨t, st1⟩ := p1
    refine useE (pe_ifExp ptT peE peE) (ht t _ rfl m σ H _ hs hr fun m1 H1 x1 s1 => ?_)
    cases t with
    | true =>
      rw [if_pos rfl]
      exact ha st1 x st' e m1 σ H1 Wx Q tk s1 (hr.ext hs.cells x1) (hq.ext x1)
    | false =>
      rw [if_neg (by decide)]
      exact hb st1 x st' e m1 σ H1 Wx Q tk s1 (hr.ext hs.cells x1) (hq.ext x1)
end
end Mi

set_option Elab.async false
set_option linter.all false
set_option maxRecDepth 100000
set_option maxHeartbeats 4000000
/-! MiY3: statements that raise; try. -/
namespace Mi
open PySem PySem.Spec PyProof.Rows L2
/-- where statements stand that may raise -/
structure StX (sc : Scope) (X : Cx) : Prop where
  kind : X.env.scope.kind = .function
  psn : PassesOwn (model X.prog X.w) X.A X.env X.xe
  sto : Sto (locB sc) X
  stk : X.stack = X.env :: X.outer
  fr : X.env.frame = some X.env.locals
  ex : X.ex = []
def XSOk (X : Cx) (cs : List (Addr × Addr)) (s : Stmt) (env : Env) (st : Store) (r : Option (D × Env × Store)) : Prop :=
  ∀ x env' st', r = some (x, env', st') → ∀ m σ H (Wx : WX) (D : Ends), Takes X Wx → SC X.K cs m st H → EnvR X.K m st H env σ →
    (∀ m' σ' cls od H', Ext m st H m' st' H' → SC X.K cs m' st' H' → EnvR X.K m' st' H' env' σ' → ExcRep X.K m' (Lv m' st') H' x cls od → Wx cls od σ' H') → tS X s D σ H
def XSsOk (X : Cx) (cs : List (Addr × Addr)) (s : List Stmt) (env : Env) (st : Store) (r : Option (D × Env × Store)) : Prop :=
  ∀ x env' st', r = some (x, env', st') → ∀ m σ H (Wx : WX) (D : Ends), Takes X Wx → SC X.K cs m st H → EnvR X.K m st H env σ →
    (∀ m' σ' cls od H', Ext m st H m' st' H' → SC X.K cs m' st' H' → EnvR X.K m' st' H' env' σ' → ExcRep X.K m' (Lv m' st') H' x cls od → Wx cls od σ' H') → tSs X s D σ H
section
variable {W : Wld} {k : Nat} {N : List Str} {sc : Scope} {X : Cx} [NotHot W]
omit [NotHot W] in
theorem tSs_nox {body : List Stmt} {D : Ends} {σ : L2.St} {H : Hp} (h : tSs X.nox body D σ H) : tSs X body D σ H := fun pins s I =>
  wpAny_mono (h pins s (I.wish _)) (fun _ _ q => q.unwish) fun _ _ z => False.elim z
omit [NotHot W] in
theorem tS_nox {s : Stmt} {D : Ends} {σ : L2.St} {H : Hp} (h : tS X.nox s D σ H) : tS X s D σ H := fun pins s I =>
  wpAny_mono (h pins s (I.wish _)) (fun _ _ q => q.unwish) fun _ _ z => False.elim z
theorem xs_nil {env st} : XSsOk X W.cs [] env st none := by
  intro x env' st' e
  cases e
theorem xs_cons {s : Stmt} {rest : List Stmt} {env st} {r : Option Fl} {rx : Option (D × Env × Store)} {r2 : Env → Store → Option (D × Env × Store)} (h1 : SOk X.nox W.cs s env st r) (hx : XSOk X W.cs s env st rx) (h2 : ∀ env' st', XSsOk X W.cs rest env' st' (r2 env' st')) :
    XSsOk X W.cs (s :: rest) env st (match (generalizing := false) r with
    | some (.nxt env' st') => r2 env' st'
    | some _ => none
    | none => rx) := by
  intro x env' st' e m σ H Wx D tk hs hr hq
  refine useSs (pss_cons psS pssS) ?_
  cases r with
  | none => exact hx x env' st' e m σ H Wx _ tk hs hr hq
  | some f =>
    cases f with
    | nxt env1 st1 =>
      refine tS_nox (h1 _ rfl m σ H _ hs hr ?_)
      intro m' σ' H' xx s' er
      exact h2 env1 st1 x env' st' e m' σ' H' Wx D tk s' er fun m2 σ2 cls od H2 a b c d => hq m2 σ2 cls od H2 (xx.trans a) b c d
    | _ => cases e
omit [NotHot W] in
theorem wEnv_some {env : Env} {r : Option (D × Store)} {x : D} {env' : Env} {st' : Store} (h : wEnv env r = some (x, env', st')) : env' = env ∧ r = some (x, st') := by
  cases r with
  | none => cases h
  | some p => cases h; exact ⟨rfl, rfl⟩
theorem x_expr {e : Expr} {pos : Pos} {env st} {r : Option (D × Store)} (hn : notLc e = true) (he : XEOk X W.cs e env st r) : XSOk X W.cs (.Expr e pos) env st (wEnv env r) := by
  intro x env' st' e0 m σ H Wx D tk hs hr hq
  obtain ⟨rfl, e1⟩ := wEnv_some e0
  exact useS (ps_expr peE (swaps_no hn)) (he x st' e1 m σ H Wx _ tk hs hr fun m' cls od H' a b c => hq m' σ cls od H' a b (hr.ext hs.cells a) c)
theorem x_ret {e : Expr} {pos : Pos} {env st} {r : Option (D × Store)} (he : XEOk X W.cs e env st r) : XSOk X W.cs (.Return (some e) pos) env st (wEnv env r) := by
  intro x env' st' e0 m σ H Wx D tk hs hr hq
  obtain ⟨rfl, e1⟩ := wEnv_some e0
  exact useS (ps_ret peE) (he x st' e1 m σ H Wx _ tk hs hr fun m' cls od H' a b c => hq m' σ cls od H' a b (hr.ext hs.cells a) c)
theorem x_asg (C : Cxt W k N sc X) (S : StX sc X) {i : Nat} {y : Str} {e : Expr} {p' pos : Pos} {env st} {r : Option (D × Store)} (hi : N[i]? = some y) (hl : locB sc y = true) (hn : notLc e = true) (he : XEOk X W.cs e env st r) :
    XSOk X W.cs (.Assign [.Name y p'] e pos) env st (wEnv env r) := by
  intro x env' st' e0 m σ H Wx D tk hs hr hq
  obtain ⟨rfl, e1⟩ := wEnv_some e0
  obtain ⟨h1, h2⟩ := S.sto y hl
  exact useS (ps_set (by rw [C.hN]; exact C.nd) (by rw [C.hN]; exact hi) h1 peE (swaps_no hn) h2) (he x st' e1 m σ H Wx _ tk hs hr fun m' cls od H' a b c => hq m' σ cls od H' a b (hr.ext hs.cells a) c)
theorem x_if {c : Expr} {a b : List Stmt} {pos : Pos} {env st} {rt : Option (Bool × Store)} {ra rb : Store → Option (D × Env × Store)} (ht : TOk X W.cs c env st rt) (ha : ∀ st1, XSsOk X W.cs a env st1 (ra st1)) (hb : ∀ st1, XSsOk X W.cs b env st1 (rb st1)) :
    XSOk X W.cs (.If c a b pos) env st (match (generalizing := false) rt with
    | some (true, st1) => ra st1
    | some (false, st1) => rb st1
    | none => none) := by
  intro x env' st' e m σ H Wx D tk hs hr hq
  cases rt with
  | none => cases e
  | some p1 =>
    obtain ⟨t, st1⟩ := p1
    refine useS (ps_if ptT pssS pssS) (ht t _ rfl m σ H _ hs hr fun m1 H1 x1 s1 => ?_)
    cases t with
    | true =>
      rw [if_pos rfl]
      exact ha st1 x env' st' e m1 σ H1 Wx D tk s1 (hr.ext hs.cells x1) fun m2 σ2 cls od H2 a b c d => hq m2 σ2 cls od H2 (x1.trans a) b c d
    | false =>
      rw [if_neg (by decide)]
      exact hb st1 x env' st' e m1 σ H1 Wx D tk s1 (hr.ext hs.cells x1) fun m2 σ2 cls od H2 a b c d => hq m2 σ2 cls od H2 (x1.trans a) b c d
/-- raise C(e) -/
theorem x_rsx1 (C : Cxt W k N sc X) {c f : Str} {a : Expr} {p pos pos2 : Pos} {env st} {r : Option (D × Store)} (hc : W.xc c f = true) (hg : glB sc c = true) (hpl : plainX c = true) (hf : f ≠ "") (hst : isStar a = false) (ha : EOk X W.cs a env st r) :
    XSOk X W.cs (.Raise (some (.Call (.Name c p) [a] [] pos)) none pos2) env st (match (generalizing := false) r with
    | some (d, st1) => some (.exc c f [d], env, st1)
    | none => none) := by
  intro x env' st' e m σ H Wx D tk hs hr hq
  cases r with
  | none => cases e
  | some p1 =>
    obtain ⟨d, st1⟩ := p1
    cases e
    obtain ⟨CA, h1, h2, hT, h3⟩ := C.mdl.xmk c f hc
    rcases h3 with ⟨h3, _⟩ | ⟨fI, T⟩
    · exact absurd h3 hf
    · refine useS (ps_raise C.cm tk (pmk_given T h2 C.rm (pa_cons peE pa_nil (starEach_cons hst)) (C.gl hg) (plainX_ok hpl).1 (starEach_cons hst))) ?_
      refine ha d _ rfl m σ H _ hs hr fun m1 v1 H1 x1 s1 p1 => ⟨v1, rfl, fun dd hd => ?_⟩
      refine hq m1 σ (.ref CA) (some dd) _ (x1.trans (ext_new hd)) (s1.new hd) ((hr.ext hs.cells x1).ext s1.cells (ext_new hd)) ?_
      exact ⟨CA, [v1], rfl, h1, hT, Reps.cons (p1.ext s1.cells (ext_new hd)) Reps.nil, .inr ⟨dd, v1, rfl, rfl, T.noN, upd_same⟩⟩
/-- raise C() -/
theorem x_rsx0 (C : Cxt W k N sc X) {c : Str} {p pos pos2 : Pos} {env st} (hc : W.xc c "" = true) (hg : glB sc c = true) (hpl : plainX c = true) :
    XSOk X W.cs (.Raise (some (.Call (.Name c p) [] [] pos)) none pos2) env st (some (.exc c "" [], env, st)) := by
  intro x env' st' e m σ H Wx D tk hs hr hq
  cases e
  obtain ⟨CA, h1, h2, hT, h3⟩ := C.mdl.xmk c "" hc
  rcases h3 with ⟨_, h4, h5, h6, h7⟩ | ⟨fI, T⟩
  · exact useS (ps_raise C.cm tk (pmk_bare PySem.F.excBase_ValueError h4 h2 h5 (raises_own h6 h7) (C.gl hg) (plainX_ok hpl).1)) (hq m σ (.ref CA) none H Ext.refl hs hr ⟨CA, [], rfl, h1, hT, Reps.nil, .inl ⟨rfl, rfl⟩⟩)
  · rcases T.fld with h | h <;> exact absurd h (by decide)
theorem x_for (C : Cxt W k N sc X) (S : StX sc X) {tge iter : Expr} {body : List Stmt} {pos : Pos} {tg : ITg} {env st} {r : Option (List D × Store)} {rb : Env → Store → Option Fl} {rx : Env → Store → Option (D × Env × Store)} (hi : IOk X W.cs tge iter env st r) (hfold : foldSB iter = true) (hT : TgOk X W.cs tg tge)
    (hb : ∀ env' st', SsOk X.nox W.cs body env' st' (rb env' st')) (hx : ∀ env' st', XSsOk X W.cs body env' st' (rx env' st')) :
    XSOk X W.cs (.For tge iter body [] pos) env st (match (generalizing := false) r with
    | some (xs, st1) => loopX (fun x env st => match bindT tg x env with
      | some env' => rb env' st
      | none => none) (fun x env st => match bindT tg x env with
      | some env' => rx env' st
      | none => none) xs env st1
    | none => none) := by
  intro xc envc stc e m σ H Wx D tk hs hr hq
  cases r with
  | none => cases e
  | some p1 =>
    obtain ⟨xs, st1⟩ := p1
    simp only at e
    refine useS (ps_for S.psn C.cm piI pgG pssS (foldSB_set hfold)) ?_
    refine hi xs st1 rfl m σ H _ hs hr fun m1 J H1 x1 s1 items => ?_
    refine ⟨fun i mm σ' H' => ∃ m' env' st', i + mm = xs.length ∧ Ext m1 st1 H1 m' st' H' ∧ SC X.K W.cs m' st' H' ∧ EnvR X.K m' st' H' env' σ' ∧ loopX (fun x env st => match bindT tg x env with
      | some env' => rb env' st
      | none => none) (fun x env st => match bindT tg x env with
      | some env' => rx env' st
      | none => none) (xs.drop i) env' st' = some (xc, envc, stc), ⟨xs.length, m1, env, st1, by omega, Ext.refl, s1, hr.ext hs.cells x1, e⟩, ?_⟩
    intro i mm σ' H' ⟨m', env', st', him, x', s', er', hl⟩
    have it := items m' st' H' x' s'
    cases mm with
    | zero =>
      have e1 : i = xs.length := by omega
      rw [e1, List.drop_length] at hl
      cases hl
    | succ mm =>
      right
      have hlt : i < xs.length := by omega
      have hat : xs[i]? = some xs[i] := List.getElem?_eq_getElem hlt
      have hdrop : xs.drop i = xs[i] :: xs.drop (i + 1) := List.drop_eq_getElem_cons hlt
      generalize hxe : xs[i] = x at hat hdrop
      rw [hdrop] at hl
      have zi := it.1 i x hat
      refine ⟨zi.1, _, fun σ2 H2 w => ⟨mm, Nat.lt_succ_self _, w⟩, fun v H'' y7 => ?_⟩
      obtain ⟨x7, s7, r7⟩ := zi.2 v H'' y7
      cases hbt : bindT tg x env' with
      | none =>
        simp only [loopX, hbt] at hl
        cases hl
      | some env2 =>
        refine hT m' st' H'' x env' env2 σ' v _ hbt s7 (er'.ext s'.cells x7) r7 fun vs er2 => ?_
        simp only [loopX, hbt] at hl
        cases hf : rb env2 st' with
        | none =>
          simp only [hf] at hl
          exact hx env2 st' xc envc stc hl m' _ H'' Wx _ tk s7 er2 fun m3 σ3 cls od H3 a b c d => hq m3 σ3 cls od H3 (((x1.trans x').trans x7).trans a) b c d
        | some f1 =>
          simp only [hf] at hl
          cases f1 with
          | nxt env3 st3 =>
            refine tSs_nox (hb env2 st' _ hf m' _ H'' _ s7 er2 ?_)
            exact fun m3 σ3 H3 a b c => ⟨m3, env3, st3, by omega, (x'.trans x7).trans a, b, c, hl⟩
          | cnt env3 st3 =>
            refine tSs_nox (hb env2 st' _ hf m' _ H'' _ s7 er2 ?_)
            exact fun m3 σ3 H3 a b c => ⟨m3, env3, st3, by omega, (x'.trans x7).trans a, b, c, hl⟩
          | brk env3 st3 => cases hl
          | ret d st3 => cases hl
end
end Mi

set_option Elab.async false
set_option linter.all false
set_option maxRecDepth 100000
set_option maxHeartbeats 4000000
/-! MiY4: try .. except x as n. -/
namespace Mi
open PySem PySem.Spec PyProof.Rows L2
section
variable {W : Wld} {k : Nat} {N : List Str} {sc : Scope} {X : Cx} [NotHot W]
theorem Cxt.tr (C : Cxt W k N sc X) (pn : List (Addr × Obj)) (xe : Value → Shared → Prop) : Cxt W k N sc (X.tr pn xe) :=
  ⟨C.hsc, C.hN, C.nd, C.calm, C.room, C.un, C.grd, ⟨C.mdl.free, C.mdl.gcd, C.mdl.lcm, C.mdl.fns, C.mdl.gcs, C.mdl.xfns, C.mdl.xis, C.mdl.xmk, C.mdl.smd⟩⟩
theorem Cxt.noxx (C : Cxt W k N sc X) : Cxt W k N sc X.nox :=
  ⟨C.hsc, C.hN, C.nd, C.calm, C.room, C.un, C.grd, ⟨C.mdl.free, C.mdl.gcd, C.mdl.lcm, C.mdl.fns, C.mdl.gcs, C.mdl.xfns, C.mdl.xis, C.mdl.xmk, C.mdl.smd⟩⟩
abbrev Wld.heat (W : Wld) : Wld := { W with hot := true }
theorem Cxt.suite (C : Cxt W k N sc X) (a : Addr) (pn : List (Addr × Obj)) : Cxt W.heat k N sc (X.suite a pn) :=
  ⟨C.hsc, C.hN, C.nd, (fun h => by cases h), (fun h => by cases h), C.un, C.grd, ⟨C.mdl.free, C.mdl.gcd, C.mdl.lcm, C.mdl.fns, C.mdl.gcs, C.mdl.xfns, C.mdl.xis, C.mdl.xmk, C.mdl.smd⟩⟩
theorem StC.suite (S : StC sc X) (a : Addr) (pn : List (Addr × Obj)) : StC sc (X.suite a pn) := ⟨S.kind, rfl, S.stk, S.fr, S.ex, S.sto⟩
theorem StC.tr (S : StC sc X) (pn : List (Addr × Obj)) {xe : Value → Shared → Prop} (h : PassesOwn (model X.prog X.w) X.A X.env xe) : StX sc (X.tr pn xe) := ⟨S.kind, h, S.sto, S.stk, S.fr, S.ex⟩
theorem StX.nox (S : StX sc X) : StC sc X.nox := ⟨S.kind, rfl, S.stk, S.fr, S.ex, S.sto⟩
theorem st_try (C : Cxt W k N sc X) (S : StC sc X) {body suite : List Stmt} {b₀ : Stmt} {x n : Str} {i : Nat} {cat : List Str} {np pos pos' : Pos} {env st} {r : Option Fl} {rx : Option (D × Env × Store)} {rs : Env → Store → Option Fl}
    (hi : N[i]? = some n) (hln : sc.names.lookup n = some .local) (hg : glB sc x = true) (hp : plainX x = true) (hne : cat ≠ []) (hcat : ∀ c ∈ cat, W.xm c x = some true)
    (hb : ∀ pn xe, PassesOwn (model X.prog X.w) X.A X.env xe → SsOk (X.tr pn xe).nox W.cs body env st r ∧ XSsOk (X.tr pn xe) W.cs body env st rx)
    (hsu : ∀ a pn env' st', SsOk (X.suite a pn) W.cs (b₀ :: suite) env' st' (rs env' st')) :
    SOk X W.cs (.Try body [.ExceptHandler (some (.Name x np)) (some n) (b₀ :: suite) pos'] [] [] pos) env st (match (generalizing := false) r with
    | some fl => some fl
    | none => (match (generalizing := false) rx with
      | some (.exc cl f vs, env1, st1) => if cat.contains cl then (match rs (env1.set i (some (.exc cl f vs))) st1 with
        | some fl => some (noSlot i fl)
        | none => none) else none
      | _ => none)) := by
  intro fl e m σ H D hs hr hq
  have names : ∀ cl b, W.xm cl x = some b → ∃ cv, Names X x cv ∧ (∀ c' b', W.xm c' x = some b' → ∀ CA, PySem.W.nsIn X.K mainGlobals c' = some (some (.ref CA)) → PySem.W.exmOne X.K (.ref CA) cv = some b') := fun cl b h => by
    obtain ⟨cv, hcv, _⟩ := C.mdl.xis cl x b h
    obtain ⟨d1, d2, d3⟩ := plainX_ok hp
    refine ⟨cv, ⟨C.gl hg, d1, ?_⟩, fun c' b' h' CA hC => ?_⟩
    · rcases hcv with ⟨h1, _⟩ | ⟨h1, h2, _⟩
      · exact .inl h1
      · exact .inr ⟨h1, h2, d3⟩
    · obtain ⟨cv', hcv', hk'⟩ := C.mdl.xis c' x b' h'
      have e : cv' = cv := by
        rcases hcv with ⟨h1, _⟩ | ⟨h1, h2, _⟩ <;> rcases hcv' with ⟨h3, _⟩ | ⟨h3, h4, _⟩
        · rw [h1] at h3; exact (Option.some.inj h3).symm
        · rw [h1] at h3; cases h3
        · rw [h1] at h3; cases h3
        · rw [h2] at h4; exact (Option.some.inj h4).symm
      subst e
      exact (hk' CA hC).2
  obtain ⟨c0, hc0⟩ := List.exists_mem_of_ne_nil cat hne
  obtain ⟨cv, nm, hex⟩ := names c0 true (hcat c0 hc0)
  have hlN : X.env.kindOf n = some .local := by
    show X.env.scope.names.lookup n = some .local
    rw [C.hsc]; exact hln
  refine useS (ps_try_q (tb := fun Wx D σ H => ∀ pn xe, Takes (X.tr pn xe) Wx → PassesOwn (model X.prog X.w) X.A X.env xe → tSs (X.tr pn xe) body D σ H) (ts := fun D σ H => ∀ a pn, tSs (X.suite a pn) (b₀ :: suite) D σ H) (Wout := fun _ _ _ _ => False)
    S.stk S.fr S.ex (by rw [C.hN]; exact C.nd) (by rw [C.hN]; exact hi) hlN nm (fun u s' ⟨_, _, _, _, _, _, _, _, _, _, _, _, _, _, _, _, z⟩ => z.elim)
    (fun Wx pn xe tk ps => ⟨fun pins s σ H D I h => h pn xe tk ps pins s I⟩) (fun a pn => ⟨fun pins s σ H D I h => h a pn pins s I⟩)) ?_
  intro pn xe tk ps
  obtain ⟨b1, b2⟩ := hb pn xe ps
  cases r with
  | some f1 =>
    cases e
    exact tSs_nox (b1 fl rfl m σ H D hs hr hq)
  | none =>
    cases rx with
    | none => cases e
    | some p1 =>
      obtain ⟨xd, env1, st1⟩ := p1
      cases xd <;> simp only at e <;> try (cases e; done)
      rename_i cl f vs
      split at e
      · rename_i hc
        have hc := List.contains_iff_mem.mp hc
        cases hrs : rs (env1.set i (some (.exc cl f vs))) st1 with
        | none => rw [hrs] at e; cases e
        | some f2 =>
          rw [hrs] at e
          cases e
          refine b2 _ _ _ rfl m σ H _ D tk hs hr fun m' σ' cls od H' x1 s1 er xr => ?_
          obtain ⟨CA, ys, rfl, hns, hT, ry, hod⟩ := xr
          refine ⟨true, hex cl true (hcat cl hc) CA hns, fun _ => ⟨CA, rfl, fun a ha => ?_⟩, fun h => by cases h⟩
          intro a' pn'
          have s2 : SC X.K W.cs m' st1 (upd H' a (exq a CA od)) := s1.new ha
          have x2 : Ext m' st1 H' m' st1 (upd H' a (exq a CA od)) := ext_new ha
          have rep : Rep X.K m' (Lv m' st1) (upd H' a (exq a CA od)) (.exc cl f vs) (.ref a) := by
            simp only [Rep]
            refine ⟨a, CA, od, ys, rfl, hns, upd_same, hT, ry.ext s1.cells x2, ?_⟩
            rcases hod with hod | ⟨d, y, h1, h2, h3, h4⟩
            · exact .inl hod
            · exact .inr ⟨d, y, h1, h2, h3, by rw [upd_ne (ne_of_none h4 ha)]; exact h4⟩
          refine hsu a' pn' _ _ f2 hrs m' _ _ _ s2 ((er.ext s1.cells x2).set rep) ?_
          have xx := x1.trans x2
          cases f2 with
          | nxt env' st' => exact fun m3 σ3 H3 a b c => hq m3 _ H3 (xx.trans a) b (c.setN i)
          | ret d st' => exact fun m3 v3 H3 a b c => hq m3 v3 H3 (xx.trans a) b c
          | brk env' st' => exact fun m3 σ3 H3 a b c => hq m3 _ H3 (xx.trans a) b (c.setN i)
          | cnt env' st' => exact fun m3 σ3 H3 a b c => hq m3 _ H3 (xx.trans a) b (c.setN i)
      · cases e
end
end Mi

set_option Elab.async false
set_option linter.all false
set_option maxRecDepth 100000
set_option maxHeartbeats 4000000
/-! Mi24: the text fits the language: expressions. -/
namespace Mi
open PySem PySem.Spec PyProof.Rows L2 GenW

def genC (scope : Scope) : Bool := decide (scope.kind = .function) && !scope.isCoroutine && scope.names.all (fun y => !decide (y.2 = .cell)) && decide (scope.names.lookup (".0" : Str) = some NameKind.local)
theorem genC_ok {scope : Scope} (h : genC scope = true) : GenSc scope := by
  unfold genC at h
  simp only [Bool.and_eq_true, Bool.not_eq_true', decide_eq_true_eq, List.all_eq_true, decide_eq_false_iff_not] at h
  exact ⟨h.1.1.1, h.1.1.2, h.1.2, h.2⟩
def plainT : Expr → Bool
  | .Name .. => true
  | .Call .. => true
  | .Subscript .. => true
  | _ => false
theorem plainT_ok {e : Expr} {env : PySem.Env} (h : plainT e = true) : ∀ whole, isTrue e env whole = (do let v ← whole; standAt e.pos; holding [v] (truthy v)) := by
  intro whole
  cases e <;> first | rfl | cases h
section
variable (W : Wld) (N : List Str)
def dicB0 : D → Bool
  | .dct ks vs => ks.isEmpty && vs.isEmpty
  | _ => false
theorem dicB0_ok {d : D} (h : dicB0 d = true) : d = .dct [] [] := by
  cases d <;> simp only [dicB0] at h <;> (try (cases h; done))
  simp only [Bool.and_eq_true, List.isEmpty_iff] at h
  rw [h.1, h.2]
def dicB1 (z : Str) (i : Int) : D → Bool
  | .dct [.inr y] [.int j] => decide (y = z) && decide (j = i)
  | _ => false
theorem dicB1_ok {z : Str} {i : Int} {d : D} (h : dicB1 z i d = true) : d = .dct [.inr z] [.int i] := by
  unfold dicB1 at h
  split at h
  · simp only [Bool.and_eq_true, decide_eq_true_eq] at h
    rw [h.1, h.2]
  · cases h
mutual
def okE (g : Bool) (sc : Scope) : IE → Expr → Bool
  | .var i, x => (match x with
    | .Name x _ => decide (N[i]? = some x) && visB sc x && plainX x
    | _ => false)
  | .frz i, x => (match x with
    | .Name x _ => decide (N[i]? = some x) && visB sc x && plainX x
    | _ => false)
  | .cst d, x => (match x with
    | .Constant c _ _ => cstB d c
    | .Dict [] [] _ => dicB0 d
    | .Dict [some (.Constant (.str z) _ _)] [.Constant (.int i) _ _] _ => dicB1 z i d
    | _ => false)
  | .gcn x d, e => (match e with
    | .Name y _ => decide (x = y) && glB sc y && plainX y && W.gc x d
    | _ => false)
  | .tup es, x => (match x with
    | .Tuple xs _ _ => okEs g sc es xs
    | _ => false)
  | .lst es, x => (match x with
    | .List xs _ => okEs g sc es xs
    | _ => false)
  | .ncl es, x => (match x with
    | .List xs _ => okEs g sc es xs
    | _ => false)
  | .bin o a b, x => (match x with
    | .BinOp x op y _ => bopB o op && okE g sc a x && okE g sc b y
    | _ => false)
  | .neg a, x => (match x with
    | .UnaryOp .USub x _ => okE g sc a x
    | _ => false)
  | .cmp o a b, x => (match x with
    | .Compare x [op] [y] _ => copB o op && (!behindInMarks op y) && okE g sc a x && okE g sc b y
    | _ => false)
  | .andv a b, x => (match x with
    | .BoolOp .And (x :: y :: r) pos => okE g sc a x && okE g sc b (.BoolOp .And (y :: r) pos)
    | _ => false)
  | .orv a b, x => (match x with
    | .BoolOp .Or (x :: y :: r) pos => okE g sc a x && okE g sc b (.BoolOp .Or (y :: r) pos)
    | _ => false)
  | .one a, x => (match x with
    | .BoolOp _ [x] _ => okE g sc a x
    | _ => false)
  | .notv a, x => (match x with
    | .UnaryOp .Not x _ => okE g sc a x
    | _ => false)
  | .ife t a b, x => (match x with
    | .IfExp c x y _ => okT g sc t c && okE g sc a x && okE g sc b y
    | _ => false)
  | .call f es, x => (match x with
    | .Call (.Name x _) xs [] _ => decide (W.nm f = some x) && glB sc x && plainX x && okEs g sc es xs && !W.hot
    | _ => false)
  | .callk f es names perm, x => (match x with
    | .Call (.Name x _) [] ks _ => decide (W.nm f = some x) && glB sc x && plainX x && decide (W.kw f names = some perm) && okKs g sc es names ks && !W.hot
    | _ => false)
  | .bi b es, x => (match x with
    | .Call (.Name x _) (y :: ys) [] _ => decide (biN b = x) && glB sc x && (W.mt || !(decide (b = .gcd) || decide (b = .lcm))) && okEs g sc es (y :: ys) && (!W.hot || decide (b = .repr) || decide (b = .len))
    | _ => false)
  | .isi a t, x => (match x with
    | .Call (.Name x _) [y, .Name z _] [] _ => decide (x = "isinstance") && glB sc x && decide (tyN t = z) && glB sc z && okE g sc a y && !isStar y
    | _ => false)
  | .idx a b, x => (match x with
    | .Subscript x y _ => !isSlice y && okE g sc a x && okE g sc b y
    | _ => false)
  | .slc a lo hi, x => (match x with
    | .Subscript x (.Slice l h none _) _ => okE g sc a x && okO g sc lo l && okO g sc hi h
    | _ => false)
  | .comp elt tg it cond own, x => (match x with
    | .ListComp x [⟨tge, iter, ifs, isA⟩] scope _ => decide (isA = 0) && blkC N sc scope own && tgB scope N tg tge && okI g sc it tge iter && foldB iter && okTo g (relS scope sc) cond ifs && okE g (relS scope sc) elt x && !W.hot
    | _ => false)
  | .gen k elt tg it cond own, x => (match x with
    | .Call (.Name y _) [.GeneratorExp x [⟨tge, iter, ifs, isA⟩] scope _] [] _ => g && decide (gkN k = y) && glB sc y && decide (isA = 0) && blkC N sc scope own && genC scope && tgB scope N tg tge && okI g sc it tge iter && foldB iter && okTo false scope cond ifs && okE false scope elt x && !W.hot
    | _ => false)
  | .isx a u yes no, x => (match x with
    | .Call (.Name x _) [y, .Name z _] [] _ => decide (x = "isinstance") && glB sc x && decide (u = z) && glB sc z && plainX z && okE g sc a y && !isStar y && yes.all (fun c => decide (W.xm c z = some true)) && no.all (fun c => decide (W.xm c z = some false))
    | _ => false)
  | .fld a f, x => (match x with
    | .Attribute y n _ => decide (f = n) && plainBase y && okE g sc a y
    | _ => false)
  | .lcn a b, x => (match x with
    | .Call (.Attribute y n p1) [z] [] p2 => decide (n = "count") && plainBase y && !isStar z && (p1.endLine == p2.line) && okE g sc a y && okE g sc b z
    | _ => false)
  | .lix a b, x => (match x with
    | .Call (.Attribute y n p1) [z] [] p2 => decide (n = "index") && plainBase y && !isStar z && (p1.endLine == p2.line) && okE g sc a y && okE g sc b z
    | _ => false)
  | .nad a b, x => (match x with
    | .BinOp x .Add y _ => okE g sc a x && okE g sc b y
    | _ => false)
def okEs (g : Bool) (sc : Scope) : IEs → List Expr → Bool
  | .nil, xs => xs.isEmpty
  | .cons e es, xs => (match xs with
    | x :: xs => !isStar x && okE g sc e x && okEs g sc es xs
    | [] => false)
def okKs (g : Bool) (sc : Scope) : IEs → List Str → List Keyword → Bool
  | .nil, names, ks => names.isEmpty && ks.isEmpty
  | .cons e es, names, ks => (match names, ks with
    | n :: names, ⟨nm, v, _⟩ :: ks => decide (nm = some n) && okE g sc e v && okKs g sc es names ks
    | _, _ => false)
def okO (g : Bool) (sc : Scope) : IEo → Option Expr → Bool
  | .none, x => x.isNone
  | .some e, x => (match x with
    | some x => okE g sc e x
    | none => false)
def okT (g : Bool) (sc : Scope) : IT → Expr → Bool
  | .val e, x => okE g sc e x && plainT x
  | .cmp o a b, x => (match x with
    | .Compare x [op] [y] _ => copB o op && (!behindInMarks op y) && okE g sc a x && okE g sc b y
    | _ => false)
  | .and a b, x => (match x with
    | .BoolOp .And (x :: y :: r) pos => okT g sc a x && okT g sc b (.BoolOp .And (y :: r) pos) && okBn b
    | _ => false)
  | .or a b, x => (match x with
    | .BoolOp .Or (x :: y :: r) pos => okT g sc a x && okT g sc b (.BoolOp .Or (y :: r) pos) && okBn b
    | _ => false)
  | .one a, x => (match x with
    | .BoolOp _ [x] _ => okT g sc a x
    | _ => false)
  | .not a, x => (match x with
    | .UnaryOp .Not x _ => okT g sc a x
    | _ => false)
def okBn : IT → Bool
  | .and _ _ => true
  | .or _ _ => true
  | .one _ => true
  | _ => false
def okTo (g : Bool) (sc : Scope) : ITo → List Expr → Bool
  | .none, xs => xs.isEmpty
  | .some t, xs => (match xs with
    | [x] => okT g sc t x
    | _ => false)
def okI (g : Bool) (sc : Scope) : II → Expr → Expr → Bool
  | .seq e, _, x => okE g sc e x
  | .rng e, _, x => (match x with
    | .Call (.Name y _) [x] [] _ => decide (y = "range") && glB sc y && !isStar x && okE g sc e x
    | _ => false)
  | .rng2 a b, _, x => (match x with
    | .Call (.Name y _) [x, z] [] _ => decide (y = "range") && glB sc y && !isStar x && !isStar z && okE g sc a x && okE g sc b z
    | _ => false)
  | .zip a b, tge, x => (match tge, x with
    | .Tuple _ _ _, .Call (.Name y _) [x, z] [] _ => decide (y = "zip") && glB sc y && !isStar x && !isStar z && okE g sc a x && okE g sc b z
    | _, _ => false)
  | .zip3 a b c, tge, x => (match tge, x with
    | .Tuple _ _ _, .Call (.Name y _) [x, z, u] [] _ => decide (y = "zip") && glB sc y && !isStar x && !isStar z && !isStar u && okE g sc a x && okE g sc b z && okE g sc c u
    | _, _ => false)
  | .enum a, tge, x => (match tge, x with
    | .Tuple _ _ _, .Call (.Name y _) [x] [] _ => decide (y = "enumerate") && glB sc y && !isStar x && okE g sc a x
    | _, _ => false)
end
end
end Mi

set_option Elab.async false
set_option linter.all false
set_option maxRecDepth 100000
set_option maxHeartbeats 4000000
/-! Mi25: what fits is right: expressions. -/
namespace Mi
open PySem PySem.Spec PyProof.Rows L2 GenW

section
variable {W : Wld} {k : Nat} {N : List Str}
theorem noStars_of {g : Bool} {sc : Scope} : ∀ {es : IEs} {xs : List Expr}, okEs W N g sc es xs = true → noStars xs = true
  | .nil, xs, h => by
    simp only [okEs, List.isEmpty_iff] at h
    subst h; rfl
  | .cons e es, xs, h => by
    simp only [okEs] at h
    split at h
    · rename_i x xs
      simp only [Bool.and_eq_true, Bool.not_eq_true'] at h
      simp only [noStars, Bool.and_eq_true, Bool.not_eq_true']
      exact ⟨h.1.1, noStars_of h.2⟩
    · cases h
theorem nil_of {g : Bool} {sc : Scope} {c : CallT} {env : Env} {st : Store} : ∀ {es : IEs} {xs : List Expr}, okEs W N g sc es xs = true → xs = [] → evEs c env es st = some ([], st)
  | .nil, xs, h, _ => rfl
  | .cons e es, xs, h, e0 => by
    subst e0
    simp only [okEs] at h
    cases h
def lenEs : IEs → Nat
  | .nil => 0
  | .cons _ es => lenEs es + 1
theorem evEs_len {c : CallT} {env : Env} : ∀ {es : IEs} {st : Store} {ds : List D} {st' : Store}, evEs c env es st = some (ds, st') → ds.length = lenEs es
  | .nil, st, ds, st', h => by simp only [evEs] at h; cases h; rfl
  | .cons e es, st, ds, st', h => by
    simp only [evEs] at h
    split at h
    · split at h
      · rename_i h2
        cases h
        rw [List.length_cons, evEs_len h2]; rfl
      · cases h
    · cases h
theorem ks_names {g : Bool} {sc : Scope} : ∀ {es : IEs} {names : List Str} {ks : List Keyword}, okKs W N g sc es names ks = true → ks.map (·.arg) = names.map some ∧ lenEs es = names.length
  | .nil, names, ks, h => by
    simp only [okKs, Bool.and_eq_true, List.isEmpty_iff] at h
    obtain ⟨rfl, rfl⟩ := h
    exact ⟨rfl, rfl⟩
  | .cons e es, names, ks, h => by
    simp only [okKs] at h
    split at h
    · simp only [Bool.and_eq_true, decide_eq_true_eq] at h
      obtain ⟨z1, z2⟩ := ks_names h.2
      exact ⟨by rw [List.map_cons, List.map_cons, z1, h.1.1], by rw [lenEs, z2, List.length_cons]⟩
    · cases h
mutual
theorem snd_E : ∀ (e : IE) (x : Expr) (g : Bool) (sc : Scope) (X : Cx), okE W N g sc e x = true → Cxt W k N sc X → (g = true → GenCx W k X) → ∀ env st, EOk X W.cs x env st (evE (callF W.T W.F k) env e st)
  | .var i, x, g, sc, X, h, C, G, env, st => by
    simp only [okE] at h
    split at h
    · simp only [Bool.and_eq_true, decide_eq_true_eq] at h
      exact s_var C h.1.1 h.1.2 h.2
    · cases h
  | .frz i, x, g, sc, X, h, C, G, env, st => by
    simp only [okE] at h
    split at h
    · simp only [Bool.and_eq_true, decide_eq_true_eq] at h
      exact s_frz C h.1.1 h.1.2 h.2
    · cases h
  | .cst d, x, g, sc, X, h, C, G, env, st => by
    simp only [okE] at h
    split at h
    · exact s_cst h
    · rw [dicB0_ok h]
      exact s_dic0
    · rw [dicB1_ok h]
      exact s_dic1
    · cases h
  | .gcn y d, x, g, sc, X, h, C, G, env, st => by
    simp only [okE] at h
    split at h
    · simp only [Bool.and_eq_true, decide_eq_true_eq] at h
      obtain ⟨⟨⟨rfl, h1⟩, h2⟩, h3⟩ := h
      exact s_gcn C h1 h2 h3
    · cases h
  | .tup es, x, g, sc, X, h, C, G, env, st => by
    simp only [okE] at h
    split at h
    · exact s_tup (snd_Es es _ g sc X h C G env st)
    · cases h
  | .lst es, x, g, sc, X, h, C, G, env, st => by
    simp only [okE] at h
    split at h
    · exact s_lst (snd_Es es _ g sc X h C G env st)
    · cases h
  | .ncl es, x, g, sc, X, h, C, G, env, st => by
    simp only [okE] at h
    split at h
    · exact s_ncl (snd_Es es _ g sc X h C G env st)
    · cases h
  | .bin o a b, x, g, sc, X, h, C, G, env, st => by
    simp only [okE] at h
    split at h
    · simp only [Bool.and_eq_true] at h
      exact s_bin h.1.1 (snd_E a _ g sc X h.1.2 C G env st) (fun st1 => snd_E b _ g sc X h.2 C G env st1)
    · cases h
  | .neg a, x, g, sc, X, h, C, G, env, st => by
    simp only [okE] at h
    split at h
    · exact s_neg (snd_E a _ g sc X h C G env st)
    · cases h
  | .cmp o a b, x, g, sc, X, h, C, G, env, st => by
    simp only [okE] at h
    split at h
    · simp only [Bool.and_eq_true, Bool.not_eq_true'] at h
      exact s_cmp C h.1.1.1 h.1.1.2 (snd_E a _ g sc X h.1.2 C G env st) (fun st1 => snd_E b _ g sc X h.2 C G env st1)
    · cases h
  | .andv a b, x, g, sc, X, h, C, G, env, st => by
    simp only [okE] at h
    split at h
    · simp only [Bool.and_eq_true] at h
      exact s_andv (snd_E a _ g sc X h.1 C G env st) (fun st1 => snd_E b _ g sc X h.2 C G env st1)
    · cases h
  | .orv a b, x, g, sc, X, h, C, G, env, st => by
    simp only [okE] at h
    split at h
    · simp only [Bool.and_eq_true] at h
      exact s_orv (snd_E a _ g sc X h.1 C G env st) (fun st1 => snd_E b _ g sc X h.2 C G env st1)
    · cases h
  | .one a, x, g, sc, X, h, C, G, env, st => by
    simp only [okE] at h
    split at h
    · exact s_one (snd_E a _ g sc X h C G env st)
    · cases h
  | .notv a, x, g, sc, X, h, C, G, env, st => by
    simp only [okE] at h
    split at h
    · exact s_notv (snd_E a _ g sc X h C G env st)
    · cases h
  | .ife t a b, x, g, sc, X, h, C, G, env, st => by
    simp only [okE] at h
    split at h
    · simp only [Bool.and_eq_true] at h
      exact s_ife (snd_T t _ g sc X h.1.1 C G env st).1 (fun st1 => snd_E a _ g sc X h.1.2 C G env st1) (fun st1 => snd_E b _ g sc X h.2 C G env st1)
    · cases h
  | .call f es, x, g, sc, X, h, C, G, env, st => by
    simp only [okE] at h
    split at h
    · simp only [Bool.and_eq_true, decide_eq_true_eq] at h
      obtain ⟨h, hh⟩ := h
      haveI : NotHot W := ⟨by simpa using hh⟩
      exact s_call C h.1.1.1 h.1.1.2 h.1.2 (noStars_of h.2) (fun e => nil_of h.2 e) (snd_Es es _ g sc X h.2 C G env st)
    · cases h
  | .callk f es names perm, x, g, sc, X, h, C, G, env, st => by
    simp only [okE] at h
    split at h
    · simp only [Bool.and_eq_true, decide_eq_true_eq] at h
      obtain ⟨h, hh⟩ := h
      haveI : NotHot W := ⟨by simpa using hh⟩
      obtain ⟨n1, n2⟩ := ks_names h.2
      exact s_callk C h.1.1.1.1 h.1.1.1.2 h.1.1.2 h.1.2 n1 (fun ds st' e => by rw [evEs_len e, n2]) (snd_Ks es names _ g sc X h.2 C G env st)
    · cases h
  | .bi b es, x, g, sc, X, h, C, G, env, st => by
    simp only [okE] at h
    split at h
    · simp only [Bool.and_eq_true, decide_eq_true_eq] at h
      obtain ⟨⟨⟨⟨h1, h2⟩, h3⟩, h4⟩, hh⟩ := h
      refine s_bi C (fun e => by simpa [e] using hh) h1 h2 (noStars_of h4) (fun hb => ?_) (snd_Es es _ g sc X h4 C G env st)
      subst h1
      rcases hb with rfl | rfl
      · exact C.mdl.gcd (by simpa using h3)
      · exact C.mdl.lcm (by simpa using h3)
    · cases h
  | .isi a t, x, g, sc, X, h, C, G, env, st => by
    simp only [okE] at h
    split at h
    · simp only [Bool.and_eq_true, decide_eq_true_eq, Bool.not_eq_true'] at h
      obtain ⟨⟨⟨⟨⟨h1, h2⟩, h3⟩, h4⟩, h5⟩, h6⟩ := h
      exact s_isi C h1 h3 h2 h4 h6 (snd_E a _ g sc X h5 C G env st)
    · cases h
  | .idx a b, x, g, sc, X, h, C, G, env, st => by
    simp only [okE] at h
    split at h
    · simp only [Bool.and_eq_true, Bool.not_eq_true'] at h
      exact s_idx h.1.1 (snd_E a _ g sc X h.1.2 C G env st) (fun st1 => snd_E b _ g sc X h.2 C G env st1)
    · cases h
  | .slc a lo hi, x, g, sc, X, h, C, G, env, st => by
    simp only [okE] at h
    split at h
    · simp only [Bool.and_eq_true] at h
      exact s_slc (snd_E a _ g sc X h.1.1 C G env st) (fun st1 => snd_O lo _ g sc X h.1.2 C G env st1) (fun st1 => snd_O hi _ g sc X h.2 C G env st1)
    · cases h
  | .comp elt tg it cond own, x, g, sc, X, h, C, G, env, st => by
    simp only [okE] at h
    split at h
    · simp only [Bool.and_eq_true, decide_eq_true_eq] at h
      obtain ⟨⟨⟨⟨⟨⟨⟨rfl, h2⟩, h3⟩, h4⟩, h5⟩, h6⟩, h7⟩, hh⟩ := h
      haveI : NotHot W := ⟨by simpa using hh⟩
      exact s_comp C (blkOk_by h2) (snd_I it _ _ g sc X h4 C G env st) h5 (fun G' CG SG GG => ⟨tg_ok CG SG h3, fun env st => snd_To cond _ g _ G' h6 CG (fun e => GG (G e)) env st, fun env st => snd_E elt _ g _ G' h7 CG (fun e => GG (G e)) env st⟩)
    · cases h
  | .gen gk elt tg it cond own, x, g, sc, X, h, C, G, env, st => by
    simp only [okE] at h
    split at h
    · simp only [Bool.and_eq_true, decide_eq_true_eq] at h
      obtain ⟨⟨⟨⟨⟨⟨⟨⟨⟨⟨⟨hg, h0⟩, h1⟩, rfl⟩, h2⟩, hgc⟩, h3⟩, h4⟩, h5⟩, h6⟩, h7⟩, hh⟩ := h
      haveI : NotHot W := ⟨by simpa using hh⟩
      exact s_gen C (G hg) h0 h1 (blkOk_by h2) (genC_ok hgc) (snd_I it _ _ g sc X h4 C G env st) h5 (fun G' CG SG => ⟨tg_ok CG SG h3, fun env st => snd_To cond _ false _ G' h6 CG (fun e => by cases e) env st, fun env st => snd_E elt _ false _ G' h7 CG (fun e => by cases e) env st⟩)
    · cases h
  | .isx a u yes no, x, g, sc, X, h, C, G, env, st => by
    simp only [okE] at h
    split at h
    · simp only [Bool.and_eq_true, decide_eq_true_eq, Bool.not_eq_true', List.all_eq_true] at h
      obtain ⟨⟨⟨⟨⟨⟨⟨⟨h1, h2⟩, h3⟩, h4⟩, h5⟩, h6⟩, h7⟩, h8⟩, h9⟩ := h
      exact s_isx C h1 h2 h4 h5 h7 h8 h9 (snd_E a _ g sc X h6 C G env st)
    · cases h
  | .fld a f, x, g, sc, X, h, C, G, env, st => by
    simp only [okE] at h
    split at h
    · simp only [Bool.and_eq_true, decide_eq_true_eq] at h
      obtain ⟨⟨rfl, h2⟩, h3⟩ := h
      exact s_fld h2 (snd_E a _ g sc X h3 C G env st)
    · cases h
  | .lcn a b, x, g, sc, X, h, C, G, env, st => by
    simp only [okE] at h
    split at h
    · simp only [Bool.and_eq_true, decide_eq_true_eq, Bool.not_eq_true'] at h
      obtain ⟨⟨⟨⟨⟨rfl, h2⟩, h3⟩, h4⟩, h5⟩, h6⟩ := h
      exact s_lcn h2 h3 h4 (snd_E a _ g sc X h5 C G env st) (fun st1 => snd_E b _ g sc X h6 C G env st1)
    · cases h
  | .lix a b, x, g, sc, X, h, C, G, env, st => by
    simp only [okE] at h
    split at h
    · simp only [Bool.and_eq_true, decide_eq_true_eq, Bool.not_eq_true'] at h
      obtain ⟨⟨⟨⟨⟨rfl, h2⟩, h3⟩, h4⟩, h5⟩, h6⟩ := h
      exact s_lix h2 h3 h4 (snd_E a _ g sc X h5 C G env st) (fun st1 => snd_E b _ g sc X h6 C G env st1)
    · cases h
  | .nad a b, x, g, sc, X, h, C, G, env, st => by
    simp only [okE] at h
    split at h
    · simp only [Bool.and_eq_true] at h
      exact s_nad (snd_E a _ g sc X h.1 C G env st) (fun st1 => snd_E b _ g sc X h.2 C G env st1)
    · cases h
theorem snd_Es : ∀ (es : IEs) (xs : List Expr) (g : Bool) (sc : Scope) (X : Cx), okEs W N g sc es xs = true → Cxt W k N sc X → (g = true → GenCx W k X) → ∀ env st, AOk X W.cs xs env st (evEs (callF W.T W.F k) env es st)
  | .nil, xs, g, sc, X, h, C, G, env, st => by
    simp only [okEs, List.isEmpty_iff] at h
    subst h
    exact s_anil
  | .cons e es, xs, g, sc, X, h, C, G, env, st => by
    simp only [okEs] at h
    split at h
    · simp only [Bool.and_eq_true, Bool.not_eq_true'] at h
      exact s_acons h.1.1 (snd_E e _ g sc X h.1.2 C G env st) (fun st1 => snd_Es es _ g sc X h.2 C G env st1)
    · cases h
theorem snd_Ks : ∀ (es : IEs) (names : List Str) (ks : List Keyword) (g : Bool) (sc : Scope) (X : Cx), okKs W N g sc es names ks = true → Cxt W k N sc X → (g = true → GenCx W k X) → ∀ env st, KOk X W.cs ks env st (evEs (callF W.T W.F k) env es st)
  | .nil, names, ks, g, sc, X, h, C, G, env, st => by
    simp only [okKs, Bool.and_eq_true, List.isEmpty_iff] at h
    obtain ⟨rfl, rfl⟩ := h
    exact k_nil
  | .cons e es, names, ks, g, sc, X, h, C, G, env, st => by
    simp only [okKs] at h
    split at h
    · simp only [Bool.and_eq_true] at h
      exact k_cons (snd_E e _ g sc X h.1.2 C G env st) (fun st1 => snd_Ks es _ _ g sc X h.2 C G env st1)
    · cases h
theorem snd_O : ∀ (o : IEo) (x : Option Expr) (g : Bool) (sc : Scope) (X : Cx), okO W N g sc o x = true → Cxt W k N sc X → (g = true → GenCx W k X) → ∀ env st, OOk X W.cs x env st (evO (callF W.T W.F k) env o st)
  | .none, x, g, sc, X, h, C, G, env, st => by
    simp only [okO, Option.isNone_iff_eq_none] at h
    subst h
    exact o_none
  | .some e, x, g, sc, X, h, C, G, env, st => by
    simp only [okO] at h
    split at h
    · exact o_some (snd_E e _ g sc X h C G env st)
    · cases h
theorem snd_T : ∀ (t : IT) (x : Expr) (g : Bool) (sc : Scope) (X : Cx), okT W N g sc t x = true → Cxt W k N sc X → (g = true → GenCx W k X) → ∀ env st, TOk X W.cs x env st (evT (callF W.T W.F k) env t st) ∧ (okBn W N t = true → WOk X W.cs x env st (evT (callF W.T W.F k) env t st))
  | .val e, x, g, sc, X, h, C, G, env, st => by
    simp only [okT, Bool.and_eq_true] at h
    exact ⟨t_val (plainT_ok h.2) (snd_E e _ g sc X h.1 C G env st), fun z => by cases z⟩
  | .cmp o a b, x, g, sc, X, h, C, G, env, st => by
    simp only [okT] at h
    split at h
    · simp only [Bool.and_eq_true, Bool.not_eq_true'] at h
      exact ⟨t_cmp C h.1.1.1 h.1.1.2 (snd_E a _ g sc X h.1.2 C G env st) (fun st1 => snd_E b _ g sc X h.2 C G env st1), fun z => by cases z⟩
    · cases h
  | .and a b, x, g, sc, X, h, C, G, env, st => by
    simp only [okT] at h
    split at h
    · simp only [Bool.and_eq_true] at h
      have w : WOk X W.cs _ env st (evT (callF W.T W.F k) env (.and a b) st) := w_and (snd_T a _ g sc X h.1.1 C G env st).1 (fun st1 => (snd_T b _ g sc X h.1.2 C G env st1).2 h.2)
      exact ⟨t_of_w w, fun _ => w⟩
    · cases h
  | .or a b, x, g, sc, X, h, C, G, env, st => by
    simp only [okT] at h
    split at h
    · simp only [Bool.and_eq_true] at h
      have w : WOk X W.cs _ env st (evT (callF W.T W.F k) env (.or a b) st) := w_or (snd_T a _ g sc X h.1.1 C G env st).1 (fun st1 => (snd_T b _ g sc X h.1.2 C G env st1).2 h.2)
      exact ⟨t_of_w w, fun _ => w⟩
    · cases h
  | .one a, x, g, sc, X, h, C, G, env, st => by
    simp only [okT] at h
    split at h
    · rename_i op x p
      have w : WOk X W.cs (.BoolOp op [x] p) env st (evT (callF W.T W.F k) env (.one a) st) := by
        cases op
        · exact w_and1 (snd_T a _ g sc X h C G env st).1
        · exact w_or1 (snd_T a _ g sc X h C G env st).1
      exact ⟨t_of_w w, fun _ => w⟩
    · cases h
  | .not a, x, g, sc, X, h, C, G, env, st => by
    simp only [okT] at h
    split at h
    · exact ⟨t_not (snd_T a _ g sc X h C G env st).1, fun z => by cases z⟩
    · cases h
theorem snd_To : ∀ (t : ITo) (xs : List Expr) (g : Bool) (sc : Scope) (X : Cx), okTo W N g sc t xs = true → Cxt W k N sc X → (g = true → GenCx W k X) → ∀ env st, TsOk X W.cs xs env st (evTo (callF W.T W.F k) env t st)
  | .none, xs, g, sc, X, h, C, G, env, st => by
    simp only [okTo, List.isEmpty_iff] at h
    subst h
    exact ts_none
  | .some t, xs, g, sc, X, h, C, G, env, st => by
    simp only [okTo] at h
    split at h
    · exact ts_some (snd_T t _ g sc X h C G env st).1
    · cases h
theorem snd_I : ∀ (i : II) (tge x : Expr) (g : Bool) (sc : Scope) (X : Cx), okI W N g sc i tge x = true → Cxt W k N sc X → (g = true → GenCx W k X) → ∀ env st, IOk X W.cs tge x env st (evI (callF W.T W.F k) env i st)
  | .seq e, tge, x, g, sc, X, h, C, G, env, st => by
    simp only [okI] at h
    exact i_seq (snd_E e _ g sc X h C G env st)
  | .rng e, tge, x, g, sc, X, h, C, G, env, st => by
    simp only [okI] at h
    split at h
    · simp only [Bool.and_eq_true, decide_eq_true_eq, Bool.not_eq_true'] at h
      obtain ⟨⟨⟨rfl, h1⟩, h2⟩, h3⟩ := h
      exact i_rng C h1 h2 (snd_E e _ g sc X h3 C G env st)
    · cases h
  | .rng2 a b, tge, x, g, sc, X, h, C, G, env, st => by
    simp only [okI] at h
    split at h
    · simp only [Bool.and_eq_true, decide_eq_true_eq, Bool.not_eq_true'] at h
      obtain ⟨⟨⟨⟨⟨rfl, h1⟩, h2⟩, h3⟩, h4⟩, h5⟩ := h
      exact i_rng2 C h1 h2 h3 (snd_E a _ g sc X h4 C G env st) (fun st1 => snd_E b _ g sc X h5 C G env st1)
    · cases h
  | .zip a b, tge, x, g, sc, X, h, C, G, env, st => by
    simp only [okI] at h
    split at h
    · simp only [Bool.and_eq_true, decide_eq_true_eq, Bool.not_eq_true'] at h
      obtain ⟨⟨⟨⟨⟨rfl, h1⟩, h2⟩, h3⟩, h4⟩, h5⟩ := h
      exact i_zip C h1 h2 h3 (snd_E a _ g sc X h4 C G env st) (fun st1 => snd_E b _ g sc X h5 C G env st1)
    · cases h
  | .zip3 a b c, tge, x, g, sc, X, h, C, G, env, st => by
    simp only [okI] at h
    split at h
    · simp only [Bool.and_eq_true, decide_eq_true_eq, Bool.not_eq_true'] at h
      obtain ⟨⟨⟨⟨⟨⟨⟨rfl, h1⟩, h2⟩, h3⟩, h4⟩, h5⟩, h6⟩, h7⟩ := h
      exact i_zip3 C h1 h2 h3 h4 (snd_E a _ g sc X h5 C G env st) (fun st1 => snd_E b _ g sc X h6 C G env st1) (fun st2 => snd_E c _ g sc X h7 C G env st2)
    · cases h
  | .enum a, tge, x, g, sc, X, h, C, G, env, st => by
    simp only [okI] at h
    split at h
    · simp only [Bool.and_eq_true, decide_eq_true_eq, Bool.not_eq_true'] at h
      obtain ⟨⟨⟨rfl, h1⟩, h2⟩, h3⟩ := h
      exact i_enum C h1 h2 (snd_E a _ g sc X h3 C G env st)
    · cases h
end
end
end Mi

set_option Elab.async false
set_option linter.all false
set_option maxRecDepth 100000
set_option maxHeartbeats 4000000
/-! Mi26: what fits is right: statements. -/
namespace Mi
open PySem PySem.Spec PyProof.Rows L2 GenW

def swOk (es : List Expr) (v : Expr) : Bool := match v with
  | .Tuple vs _ _ => !(es.length == 2 || es.length == 3) || (!(vs.any isStar) && vs.all (foldedForSure 8))
  | _ => true
theorem swOk_ok {es : List Expr} {kk : Nat} {tp : Pos} {v : Expr} {env : PySem.Env} (h : swOk es v = true) : swappedStores [.Tuple es kk tp] v env = pure none := by
  cases v <;> try (exact sw_none rfl)
  rename_i vs k2 p2
  simp only [swOk, Bool.or_eq_true, Bool.not_eq_true', Bool.and_eq_true] at h
  rcases h with h | h
  · exact sw_none4 h
  · exact sw_noneC h.1 h.2
def locD (sc : Scope) (x : Str) : Bool := decide (sc.names.lookup x = some .local)
def nonL (sc : Scope) : Expr → Bool
  | .Name x _ => !locD sc x
  | _ => true
def swOkL (sc : Scope) (es : List Expr) (v : Expr) : Bool := swOk es v || es.any (nonL sc)
theorem sw_noneL {ts vs : List Expr} {kk k2 : Nat} {tp p2 : Pos} {env : PySem.Env} (h : ts.any (nonL env.scope) = true) : swappedStores [.Tuple ts kk tp] (.Tuple vs k2 p2) env = pure none := by
  have key : ∀ f : Expr → Option Str, (∀ x, nonL env.scope x = true → f x = none) → ((ts.filterMap f).length != ts.length) = true := by
    intro f hf
    rw [bne_iff_ne]
    intro e
    obtain ⟨x, hx, hn⟩ := List.any_eq_true.mp h
    have hall := List.filterMap_length_eq_length.mp e x hx
    rw [hf x hn] at hall
    cases hall
  unfold swappedStores
  dsimp only
  split
  · rfl
  · split
    · rfl
    · rw [key _ (fun x hx => by
        cases x <;> try rfl
        rename_i id pos
        simp only [nonL, locD, Bool.not_eq_true', decide_eq_false_iff_not] at hx
        have hk : (env.kindOf id == some NameKind.local) = false := by
          show (env.scope.names.lookup id == some NameKind.local) = false
          exact beq_eq_false_iff_ne.mpr hx
        simp only [hk, Bool.false_and]
        rfl)]
      rfl
theorem swOkL_ok {sc : Scope} {es : List Expr} {kk : Nat} {tp : Pos} {v : Expr} {env : PySem.Env} (hsc : env.scope = sc) (h : swOkL sc es v = true) : swappedStores [.Tuple es kk tp] v env = pure none := by
  subst hsc
  simp only [swOkL, Bool.or_eq_true] at h
  rcases h with h | h
  · exact swOk_ok h
  · cases v <;> try (exact sw_none rfl)
    exact sw_noneL h
section
variable (W : Wld) (N : List Str)
def okTs (g : Bool) (sc : Scope) : List Tgt → List Expr → Bool
  | [], [] => true
  | .nm i :: ts, e :: es => nmB sc N i e && okTs g sc ts es
  | .sub o ix :: ts, .Subscript x y _ :: es => !isSlice y && okE W N g sc o x && okE W N g sc ix y && okTs g sc ts es
  | _, _ => false
def okAsg (g : Bool) (sc : Scope) (e : IE) (p' : Pos) (v : Expr) : Bool :=
  match e, v with
  | .comp elt tg it cond own, .ListComp x [⟨tge, iter, ifs, isA⟩] scope _ => decide (isA = 0) && blkC N sc scope own && tgB scope N tg tge && okI W N g sc it tge iter && foldB iter && okTo W N g (relS scope sc) cond ifs && okE W N g (relS scope sc) elt x && !W.hot
  | e, v => notLc v && okE W N g sc e v
mutual
def okS (g : Bool) (sc : Scope) : IS → Stmt → Bool
  | .asg i e, s => (match s with
    | .Assign [.Name x p'] v _ => decide (N[i]? = some x) && locB sc x && okAsg W N g sc e p' v
    | _ => false)
  | .asgT ts e, s => (match s with
    | .Assign [.Tuple es _ _] v _ => es.all isTg && okTs W N g sc ts es && decide (es.length = ts.length) && swOkL sc es v && okE W N g sc e v && !W.hot
    | _ => false)
  | .asgP is es, s => (match s with
    | .Assign [.Tuple [.Name x px, .Name y py] _ _] (.Tuple [a, b] _ _) _ => (match is with
      | [i, j] => decide (N[i]? = some x) && decide (N[j]? = some y) && decide (i ≠ j) && decide (x ≠ y) && locD sc x && locD sc y && (py.line == px.line) && !([a, b].any isStar) && !([a, b].all (foldedForSure 8)) && !([a, b].all (constantsAlone 8)) && okEs W N g sc es [a, b] && !W.hot
      | _ => false)
    | .Assign [.Tuple [.Name x px, .Name y py, .Name z pz] _ _] (.Tuple [a, b, c] _ _) _ => (match is with
      | [i, j, l] => decide (N[i]? = some x) && decide (N[j]? = some y) && decide (N[l]? = some z) && decide (i ≠ j) && decide (i ≠ l) && decide (j ≠ l) && decide (x ≠ y) && decide (x ≠ z) && decide (y ≠ z) && locD sc x && locD sc y && locD sc z && (py.line == px.line) && (pz.line == px.line) &&
          !([a, b, c].any isStar) && !([a, b, c].all (foldedForSure 8)) && !([a, b, c].all (constantsAlone 8)) && okEs W N g sc es [a, b, c] && !W.hot
      | _ => false)
    | _ => false)
  | .asgS o ix e, s => (match s with
    | .Assign [.Subscript x y _] v _ => !isSlice y && okE W N g sc e v && okE W N g sc o x && okE W N g sc ix y
    | _ => false)
  | .aug i o e, s => (match s with
    | .AugAssign (.Name x _) op v _ => decide (N[i]? = some x) && locB sc x && bopB o op && okE W N g sc e v
    | _ => false)
  | .app i e, s => (match s with
    | .Expr (.Call (.Attribute (.Name x _) nm apos) [y] [] cpos) _ => decide (nm = "append") && decide (N[i]? = some x) && visB sc x && plainX x && !isStar y && (apos.endLine == cpos.line) && okE W N g sc e y
    | _ => false)
  | .expr e, s => (match s with
    | .Expr v _ => notLc v && okE W N g sc e v
    | _ => false)
  | .ret e, s => (match s with
    | .Return (some v) _ => okE W N g sc e v
    | _ => false)
  | .retN, s => (match s with
    | .Return none _ => true
    | _ => false)
  | .pass, s => (match s with
    | .Pass _ => true
    | .Expr (.Constant (.str _) _ _) _ => true
    | _ => false)
  | .brk, s => (match s with
    | .Break _ => true
    | _ => false)
  | .cnt, s => (match s with
    | .Continue _ => true
    | _ => false)
  | .rse, _ => true
  | .rsx c f e, s => (match e, s with
    | .some e, .Raise (some (.Call (.Name x _) [a] [] _)) none _ => decide (x = c) && W.xc c f && decide (f ≠ "") && glB sc x && plainX x && !isStar a && okE W N g sc e a
    | .none, .Raise (some (.Call (.Name x _) [] [] _)) none _ => decide (x = c) && decide (f = "") && W.xc c "" && glB sc x && plainX x
    | _, _ => false)
  | .trx _ _ _ _ _, _ => false
  | .ite t a b, s => (match s with
    | .If c p q _ => okT W N g sc t c && okSs g sc a p && okSs g sc b q
    | _ => false)
  | .forr tg it b, s => (match s with
    | .For tge iter body [] _ => tgB sc N tg tge && okI W N g sc it tge iter && foldSB iter && okSs g sc b body && !W.hot
    | _ => false)
  | .whl t b, s => (match s with
    | .While c body [] _ => okT W N g sc t c && okSs g sc b body
    | _ => false)
def okSs (g : Bool) (sc : Scope) : ISs → List Stmt → Bool
  | .nil, xs => xs.isEmpty
  | .cons s r, xs => (match xs with
    | x :: xs => okS g sc s x && okSs g sc r xs
    | [] => false)
end
end
section
variable {W : Wld} {k : Nat} {N : List Str}
theorem snd_Ts {g : Bool} {sc : Scope} {X : Cx} (C : Cxt W k N sc X) (S : StC sc X) (G : g = true → GenCx W k X) : ∀ {ts : List Tgt} {es : List Expr}, okTs W N g sc ts es = true → GsOk X W.cs es (callF W.T W.F k) ts
  | [], [], _ => gs_nil
  | [], _ :: _, h => by simp [okTs] at h
  | .nm i :: ts, [], h => by simp [okTs] at h
  | .sub o ix :: ts, [], h => by simp [okTs] at h
  | .tp l :: ts, es, h => by simp [okTs] at h
  | .nm i :: ts, e :: es, h => by
    simp only [okTs, Bool.and_eq_true] at h
    exact gs_nm C S h.1 (snd_Ts C S G h.2)
  | .sub o ix :: ts, e :: es, h => by
    cases e <;> simp only [okTs, Bool.false_eq_true, Bool.and_eq_true, Bool.not_eq_true'] at h
    exact gs_sub C h.1.1.1 (fun env st => snd_E o _ g sc X h.1.1.2 C G env st) (fun env st => snd_E ix _ g sc X h.1.2 C G env st) (snd_Ts C S G h.2)
theorem snd_asg {g : Bool} {sc : Scope} {X : Cx} (C : Cxt W k N sc X) (S : StC sc X) (G : g = true → GenCx W k X) {i : Nat} {e : IE} {x : Str} {p' pos : Pos} {v : Expr} {env : Env} {st : Store} (hi : N[i]? = some x) (hl : locB sc x = true) (h : okAsg W N g sc e p' v = true) :
    SOk X W.cs (.Assign [.Name x p'] v pos) env st (evS (callF W.T W.F k) W.F (.asg i e) env st) := by
  unfold okAsg at h
  split at h
  · simp only [Bool.and_eq_true, decide_eq_true_eq] at h
    obtain ⟨⟨⟨⟨⟨⟨⟨rfl, h2⟩, h3⟩, h4⟩, h5⟩, h6⟩, h7⟩, hh⟩ := h
    haveI : NotHot W := ⟨by simpa using hh⟩
    rename_i elt tg it cond own x' tge iter ifs scope lpos
    exact st_asgLc C S hi hl (blkOk_by h2) (snd_I it _ _ g sc X h4 C G env st) h5 (fun G' CG SG GG => ⟨tg_ok CG SG h3, fun env st => snd_To cond _ g _ G' h6 CG (fun e => GG (G e)) env st, fun env st => snd_E elt _ g _ G' h7 CG (fun e => GG (G e)) env st⟩)
  · simp only [Bool.and_eq_true] at h
    exact st_asg C S hi hl (swaps_no h.1) (snd_E e _ g sc X h.2 C G env st)
theorem st_never {X : Cx} {cs : List (Addr × Addr)} {s : Stmt} {env : Env} {st : Store} : SOk X cs s env st none := fun _ e => by cases e
mutual
theorem snd_S : ∀ (s : IS) (x : Stmt) (g : Bool) (sc : Scope) (X : Cx), okS W N g sc s x = true → Cxt W k N sc X → StC sc X → (g = true → GenCx W k X) → ∀ env st, SOk X W.cs x env st (evS (callF W.T W.F k) W.F s env st)
  | .asg i e, x, g, sc, X, h, C, S, G, env, st => by
    simp only [okS] at h
    split at h
    · simp only [Bool.and_eq_true, decide_eq_true_eq] at h
      exact snd_asg C S G h.1.1 h.1.2 h.2
    · cases h
  | .asgT ts e, x, g, sc, X, h, C, S, G, env, st => by
    simp only [okS] at h
    split at h
    · simp only [Bool.and_eq_true, decide_eq_true_eq] at h
      obtain ⟨h, hh⟩ := h
      haveI : NotHot W := ⟨by simpa using hh⟩
      exact st_asgT C h.1.1.1.1 (swOkL_ok C.hsc h.1.2) (snd_E e _ g sc X h.2 C G env st) (snd_Ts C S G h.1.1.1.2) h.1.1.2
    · cases h
  | .asgP is es, x, g, sc, X, h, C, S, G, env, st => by
    simp only [okS] at h
    split at h
    · split at h
      · simp only [Bool.and_eq_true, decide_eq_true_eq, Bool.not_eq_true', locD] at h
        obtain ⟨⟨⟨⟨⟨⟨⟨⟨⟨⟨⟨h1, h2⟩, h3⟩, h4⟩, h5⟩, h6⟩, h7⟩, h8⟩, h9⟩, h10⟩, h11⟩, hh⟩ := h
        haveI : NotHot W := ⟨hh⟩
        exact st_par2 C S h1 h2 h3 h4 h5 h6 h7 h8 h9 h10 (snd_Es es _ g sc X h11 C G env st)
      · cases h
    · split at h
      · simp only [Bool.and_eq_true, decide_eq_true_eq, Bool.not_eq_true', locD] at h
        obtain ⟨⟨⟨⟨⟨⟨⟨⟨⟨⟨⟨⟨⟨⟨⟨⟨⟨⟨h1, h2⟩, h3⟩, h4⟩, h5⟩, h6⟩, h7⟩, h8⟩, h9⟩, h10⟩, h11⟩, h12⟩, h13⟩, h14⟩, h15⟩, h16⟩, h17⟩, h18⟩, hh⟩ := h
        haveI : NotHot W := ⟨hh⟩
        exact st_par3 C S h1 h2 h3 h4 h5 h6 h7 h8 h9 h10 h11 h12 h13 h14 h15 h16 h17 (snd_Es es _ g sc X h18 C G env st)
      · cases h
    · cases h
  | .asgS o ix e, x, g, sc, X, h, C, S, G, env, st => by
    simp only [okS] at h
    split at h
    · simp only [Bool.and_eq_true, Bool.not_eq_true'] at h
      exact st_asgS C h.1.1.1 (snd_E e _ g sc X h.1.1.2 C G env st) (fun env st => snd_E o _ g sc X h.1.2 C G env st) (fun env st => snd_E ix _ g sc X h.2 C G env st)
    · cases h
  | .aug i o e, x, g, sc, X, h, C, S, G, env, st => by
    simp only [okS] at h
    split at h
    · simp only [Bool.and_eq_true, decide_eq_true_eq] at h
      exact st_aug C S h.1.1.1 h.1.1.2 h.1.2 (snd_E e _ g sc X h.2 C G env st)
    · cases h
  | .app i e, x, g, sc, X, h, C, S, G, env, st => by
    simp only [okS] at h
    split at h
    · simp only [Bool.and_eq_true, decide_eq_true_eq, Bool.not_eq_true'] at h
      obtain ⟨⟨⟨⟨⟨⟨rfl, h1⟩, h2⟩, h3⟩, h4⟩, h5⟩, h6⟩ := h
      exact st_app C h1 h2 h3 h4 h5 (snd_E e _ g sc X h6 C G env st)
    · cases h
  | .expr e, x, g, sc, X, h, C, S, G, env, st => by
    simp only [okS] at h
    split at h
    · simp only [Bool.and_eq_true] at h
      exact st_expr h.1 (snd_E e _ g sc X h.2 C G env st)
    · cases h
  | .ret e, x, g, sc, X, h, C, S, G, env, st => by
    simp only [okS] at h
    split at h
    · exact st_ret (snd_E e _ g sc X h C G env st)
    · cases h
  | .retN, x, g, sc, X, h, C, S, G, env, st => by
    simp only [okS] at h
    split at h
    · exact st_retN
    · cases h
  | .pass, x, g, sc, X, h, C, S, G, env, st => by
    simp only [okS] at h
    split at h
    · exact st_pass
    · exact st_doc
    · cases h
  | .brk, x, g, sc, X, h, C, S, G, env, st => by
    simp only [okS] at h
    split at h
    · exact st_brk
    · cases h
  | .cnt, x, g, sc, X, h, C, S, G, env, st => by
    simp only [okS] at h
    split at h
    · exact st_cnt
    · cases h
  | .rse, x, g, sc, X, h, C, S, G, env, st => st_never
  | .rsx _ _ _, x, g, sc, X, h, C, S, G, env, st => st_never
  | .trx _ _ _ _ _, x, g, sc, X, h, C, S, G, env, st => by cases h
  | .ite t a b, x, g, sc, X, h, C, S, G, env, st => by
    simp only [okS] at h
    split at h
    · simp only [Bool.and_eq_true] at h
      exact st_if (snd_T t _ g sc X h.1.1 C G env st).1 (fun st1 => snd_Ss a _ g sc X h.1.2 C S G env st1) (fun st1 => snd_Ss b _ g sc X h.2 C S G env st1)
    · cases h
  | .forr tg it b, x, g, sc, X, h, C, S, G, env, st => by
    simp only [okS] at h
    split at h
    · simp only [Bool.and_eq_true] at h
      obtain ⟨h, hh⟩ := h
      haveI : NotHot W := ⟨by simpa using hh⟩
      exact st_for C S (snd_I it _ _ g sc X h.1.1.2 C G env st) h.1.2 (tg_ok C S.sto h.1.1.1) (fun env' st' => snd_Ss b _ g sc X h.2 C S G env' st')
    · cases h
  | .whl t b, x, g, sc, X, h, C, S, G, env, st => by
    simp only [okS] at h
    split at h
    · simp only [Bool.and_eq_true] at h
      exact st_while S (fun env st => (snd_T t _ g sc X h.1 C G env st).1) (fun env' st' => snd_Ss b _ g sc X h.2 C S G env' st')
    · cases h
theorem snd_Ss : ∀ (s : ISs) (xs : List Stmt) (g : Bool) (sc : Scope) (X : Cx), okSs W N g sc s xs = true → Cxt W k N sc X → StC sc X → (g = true → GenCx W k X) → ∀ env st, SsOk X W.cs xs env st (evSs (callF W.T W.F k) W.F s env st)
  | .nil, xs, g, sc, X, h, C, S, G, env, st => by
    simp only [okSs, List.isEmpty_iff] at h
    subst h
    exact ss_nil
  | .cons s r, xs, g, sc, X, h, C, S, G, env, st => by
    simp only [okSs] at h
    split at h
    · simp only [Bool.and_eq_true] at h
      exact ss_cons (snd_S s _ g sc X h.1 C S G env st) (fun env' st' => snd_Ss r _ g sc X h.2 C S G env' st')
    · cases h
end
end
end Mi

set_option Elab.async false
set_option linter.all false
set_option maxRecDepth 100000
set_option maxHeartbeats 4000000
/-! MiY5: what fits is right: runs that raise; bodies with a try. -/
namespace Mi
open PySem PySem.Spec PyProof.Rows L2 GenW
section
variable {W : Wld} {k : Nat} {N : List Str}
theorem GenCx.tr {X : Cx} (G : GenCx W k X) (pn : List (Addr × Obj)) (xe : Value → Shared → Prop) : GenCx W k (X.tr pn xe) := ⟨G.room, G.code⟩
theorem GenCx.noxx {X : Cx} (G : GenCx W k X) : GenCx W k X.nox := ⟨G.room, G.code⟩
theorem x_never {X : Cx} {cs : List (Addr × Addr)} {e : Expr} {env : Env} {st : Store} : XEOk X cs e env st none := fun _ _ e => by cases e
theorem xs_never {X : Cx} {cs : List (Addr × Addr)} {e : Stmt} {env : Env} {st : Store} : XSOk X cs e env st none := fun _ _ _ e => by cases e
mutual
theorem xsnd_E [NotHot W] : ∀ (e : IE) (x : Expr) (g : Bool) (sc : Scope) (X : Cx), okE W N g sc e x = true → Cxt W k N sc X → (g = true → GenCx W k X) → ∀ env st, XEOk X W.cs x env st (xvE (callF W.T W.F k) env e st)
  | .call f es, x, g, sc, X, h, C, G, env, st => by
    simp only [okE] at h
    split at h
    · simp only [Bool.and_eq_true, decide_eq_true_eq] at h
      obtain ⟨h, hh⟩ := h
      exact x_call (r := none) C h.1.1.1 h.1.1.2 h.1.2 (noStars_of h.2) (fun e => nil_of h.2 e) (snd_Es es _ g sc X h.2 C G env st) (xsnd_Es es _ g sc X h.2 C G env st)
    · cases h
  | .callk f es names perm, x, g, sc, X, h, C, G, env, st => by
    simp only [okE] at h
    split at h
    · simp only [Bool.and_eq_true, decide_eq_true_eq] at h
      obtain ⟨h, hh⟩ := h
      obtain ⟨n1, n2⟩ := ks_names h.2
      exact x_callk C h.1.1.1.1 h.1.1.1.2 h.1.1.2 h.1.2 n1 (fun ds st' e => by rw [evEs_len e, n2]) (snd_Ks es names _ g sc X h.2 C G env st)
    · cases h
  | .tup es, x, g, sc, X, h, C, G, env, st => by
    simp only [okE] at h
    split at h
    · exact x_tup (xsnd_Es es _ g sc X h C G env st)
    · cases h
  | .ife t a b, x, g, sc, X, h, C, G, env, st => by
    simp only [okE] at h
    split at h
    · simp only [Bool.and_eq_true] at h
      exact x_ife (snd_T t _ g sc X h.1.1 C G env st).1 (fun st1 => xsnd_E a _ g sc X h.1.2 C G env st1) (fun st1 => xsnd_E b _ g sc X h.2 C G env st1)
    · cases h
  | .var _, x, g, sc, X, h, C, G, env, st => x_never
  | .frz _, x, g, sc, X, h, C, G, env, st => x_never
  | .cst _, x, g, sc, X, h, C, G, env, st => x_never
  | .gcn _ _, x, g, sc, X, h, C, G, env, st => x_never
  | .lst _, x, g, sc, X, h, C, G, env, st => x_never
  | .ncl _, x, g, sc, X, h, C, G, env, st => x_never
  | .bin _ _ _, x, g, sc, X, h, C, G, env, st => x_never
  | .neg _, x, g, sc, X, h, C, G, env, st => x_never
  | .cmp _ _ _, x, g, sc, X, h, C, G, env, st => x_never
  | .andv _ _, x, g, sc, X, h, C, G, env, st => x_never
  | .orv _ _, x, g, sc, X, h, C, G, env, st => x_never
  | .one _, x, g, sc, X, h, C, G, env, st => x_never
  | .notv _, x, g, sc, X, h, C, G, env, st => x_never
  | .bi _ _, x, g, sc, X, h, C, G, env, st => x_never
  | .isi _ _, x, g, sc, X, h, C, G, env, st => x_never
  | .idx _ _, x, g, sc, X, h, C, G, env, st => x_never
  | .slc _ _ _, x, g, sc, X, h, C, G, env, st => x_never
  | .comp _ _ _ _ _, x, g, sc, X, h, C, G, env, st => x_never
  | .gen _ _ _ _ _ _, x, g, sc, X, h, C, G, env, st => x_never
  | .isx _ _ _ _, x, g, sc, X, h, C, G, env, st => x_never
  | .fld _ _, x, g, sc, X, h, C, G, env, st => x_never
  | .lcn _ _, x, g, sc, X, h, C, G, env, st => x_never
  | .lix _ _, x, g, sc, X, h, C, G, env, st => x_never
  | .nad _ _, x, g, sc, X, h, C, G, env, st => x_never
theorem xsnd_Es [NotHot W] : ∀ (es : IEs) (xs : List Expr) (g : Bool) (sc : Scope) (X : Cx), okEs W N g sc es xs = true → Cxt W k N sc X → (g = true → GenCx W k X) → ∀ env st, XAOk X W.cs xs env st (xvEs (callF W.T W.F k) env es st)
  | .nil, xs, g, sc, X, h, C, G, env, st => by
    simp only [okEs, List.isEmpty_iff] at h
    subst h
    exact x_anil
  | .cons e es, xs, g, sc, X, h, C, G, env, st => by
    simp only [okEs] at h
    split at h
    · simp only [Bool.and_eq_true, Bool.not_eq_true'] at h
      exact x_acons h.1.1 (snd_E e _ g sc X h.1.2 C G env st) (xsnd_E e _ g sc X h.1.2 C G env st) (fun st1 => xsnd_Es es _ g sc X h.2 C G env st1)
    · cases h
end
theorem xsnd_asg [NotHot W] {g : Bool} {sc : Scope} {X : Cx} (C : Cxt W k N sc X) (S : StX sc X) (G : g = true → GenCx W k X) {i : Nat} {e : IE} {x : Str} {p' pos : Pos} {v : Expr} {env : Env} {st : Store} (hi : N[i]? = some x) (hl : locB sc x = true) (h : okAsg W N g sc e p' v = true) :
    XSOk X W.cs (.Assign [.Name x p'] v pos) env st (wEnv env (xvE (callF W.T W.F k) env e st)) := by
  unfold okAsg at h
  split at h
  · exact xs_never
  · simp only [Bool.and_eq_true] at h
    exact x_asg C S hi hl h.1 (xsnd_E e _ g sc X h.2 C G env st)
mutual
theorem xsnd_S [NotHot W] : ∀ (s : IS) (x : Stmt) (g : Bool) (sc : Scope) (X : Cx), okS W N g sc s x = true → Cxt W k N sc X → StX sc X → (g = true → GenCx W k X) → ∀ env st, XSOk X W.cs x env st (xvS (callF W.T W.F k) W.F s env st)
  | .asg i e, x, g, sc, X, h, C, S, G, env, st => by
    simp only [okS] at h
    split at h
    · simp only [Bool.and_eq_true, decide_eq_true_eq] at h
      exact xsnd_asg C S G h.1.1 h.1.2 h.2
    · cases h
  | .expr e, x, g, sc, X, h, C, S, G, env, st => by
    simp only [okS] at h
    split at h
    · simp only [Bool.and_eq_true] at h
      exact x_expr h.1 (xsnd_E e _ g sc X h.2 C G env st)
    · cases h
  | .ret e, x, g, sc, X, h, C, S, G, env, st => by
    simp only [okS] at h
    split at h
    · exact x_ret (xsnd_E e _ g sc X h C G env st)
    · cases h
  | .rsx c f (.some e), x, g, sc, X, h, C, S, G, env, st => by
    simp only [okS] at h
    split at h
    · rename_i e' x' _ a _ _ heq
      cases heq
      simp only [Bool.and_eq_true, decide_eq_true_eq, Bool.not_eq_true'] at h
      obtain ⟨⟨⟨⟨⟨⟨rfl, h2⟩, h3⟩, h4⟩, h5⟩, h6⟩, h7⟩ := h
      exact x_rsx1 C h2 h4 h5 h3 h6 (snd_E e _ g sc X h7 C G env st)
    · rename_i heq
      cases heq
    · cases h
  | .rsx c f .none, x, g, sc, X, h, C, S, G, env, st => by
    simp only [okS] at h
    split at h
    · rename_i heq
      cases heq
    · simp only [Bool.and_eq_true, decide_eq_true_eq] at h
      obtain ⟨⟨⟨⟨rfl, h2⟩, h3⟩, h4⟩, h5⟩ := h
      exact x_rsx0 C h3 h4 h5
    · cases h
  | .ite t a b, x, g, sc, X, h, C, S, G, env, st => by
    simp only [okS] at h
    split at h
    · simp only [Bool.and_eq_true] at h
      exact x_if (snd_T t _ g sc X h.1.1 C G env st).1 (fun st1 => xsnd_Ss a _ g sc X h.1.2 C S G env st1) (fun st1 => xsnd_Ss b _ g sc X h.2 C S G env st1)
    · cases h
  | .forr tg it b, x, g, sc, X, h, C, S, G, env, st => by
    simp only [okS] at h
    split at h
    · simp only [Bool.and_eq_true] at h
      obtain ⟨h, hh⟩ := h
      exact x_for C S (snd_I it _ _ g sc X h.1.1.2 C G env st) h.1.2 (tg_ok C S.sto h.1.1.1) (fun env' st' => snd_Ss b _ g sc X.nox h.2 C.noxx S.nox (fun e => (G e).noxx) env' st') (fun env' st' => xsnd_Ss b _ g sc X h.2 C S G env' st')
    · cases h
  | .asgT _ _, x, g, sc, X, h, C, S, G, env, st => xs_never
  | .asgP _ _, x, g, sc, X, h, C, S, G, env, st => xs_never
  | .asgS _ _ _, x, g, sc, X, h, C, S, G, env, st => xs_never
  | .aug _ _ _, x, g, sc, X, h, C, S, G, env, st => xs_never
  | .app _ _, x, g, sc, X, h, C, S, G, env, st => xs_never
  | .retN, x, g, sc, X, h, C, S, G, env, st => xs_never
  | .pass, x, g, sc, X, h, C, S, G, env, st => xs_never
  | .brk, x, g, sc, X, h, C, S, G, env, st => xs_never
  | .cnt, x, g, sc, X, h, C, S, G, env, st => xs_never
  | .rse, x, g, sc, X, h, C, S, G, env, st => xs_never
  | .whl _ _, x, g, sc, X, h, C, S, G, env, st => xs_never
  | .trx _ _ _ _ _, x, g, sc, X, h, C, S, G, env, st => xs_never
theorem xsnd_Ss [NotHot W] : ∀ (s : ISs) (xs : List Stmt) (g : Bool) (sc : Scope) (X : Cx), okSs W N g sc s xs = true → Cxt W k N sc X → StX sc X → (g = true → GenCx W k X) → ∀ env st, XSsOk X W.cs xs env st (xvSs (callF W.T W.F k) W.F s env st)
  | .nil, xs, g, sc, X, h, C, S, G, env, st => by
    simp only [okSs, List.isEmpty_iff] at h
    subst h
    exact xs_nil
  | .cons s r, xs, g, sc, X, h, C, S, G, env, st => by
    simp only [okSs] at h
    split at h
    · simp only [Bool.and_eq_true] at h
      exact xs_cons (snd_S s _ g sc X.nox h.1 C.noxx S.nox (fun e => (G e).noxx) env st) (xsnd_S s _ g sc X h.1 C S G env st) (fun env' st' => xsnd_Ss r _ g sc X h.2 C S G env' st')
    · cases h
end
end
/-! ### bodies -/
section
variable (W : Wld) (N : List Str)
def okTry (g : Bool) (sc : Scope) (body : ISs) (x : Str) (cat : List Str) (i : Nat) (suite : ISs) : Stmt → Bool
  | .Try b [.ExceptHandler (some (.Name y _)) (some n) (b0 :: bs) _] [] [] _ => decide (y = x) && decide (N[i]? = some n) && decide (sc.names.lookup n = some .local) && glB sc x && plainX x && !cat.isEmpty && cat.all (fun c => decide (W.xm c x = some true)) && okSs W N g sc body b && okSs W.heat N false sc suite (b0 :: bs)
  | _ => false
def okB (g : Bool) (sc : Scope) : ISs → List Stmt → Bool
  | .nil, xs => xs.isEmpty
  | .cons s r, xs => (match xs with
    | x :: xs => (match s with
      | .trx body y cat i suite => okTry W N g sc body y cat i suite x
      | s => okS W N g sc s x) && okB g sc r xs
    | [] => false)
end
section
variable {W : Wld} {k : Nat} {N : List Str} [NotHot W]
theorem snd_try {g : Bool} {sc : Scope} {X : Cx} {body suite : ISs} {x : Str} {cat : List Str} {i : Nat} {t : Stmt} (h : okTry W N g sc body x cat i suite t = true) (C : Cxt W k N sc X) (S : StC sc X) (G : g = true → GenCx W k X) (env : Env) (st : Store) :
    SOk X W.cs t env st (evS (callF W.T W.F k) W.F (.trx body x cat i suite) env st) := by
  unfold okTry at h
  split at h
  · simp only [Bool.and_eq_true, decide_eq_true_eq, Bool.not_eq_true', List.all_eq_true] at h
    obtain ⟨⟨⟨⟨⟨⟨⟨⟨rfl, h2⟩, h3⟩, h4⟩, h5⟩, h6⟩, h7⟩, h8⟩, h9⟩ := h
    refine st_try C S h2 h3 h4 h5 (fun e => by rw [e] at h6; cases h6) h7 (fun pn xe ps => ⟨?_, ?_⟩) (fun a pn env' st' => ?_)
    · exact snd_Ss body _ g sc (X.tr pn xe).nox h8 (C.tr pn xe).noxx (S.tr pn ps).nox (fun e => ((G e).tr pn xe).noxx) env st
    · exact xsnd_Ss body _ g sc (X.tr pn xe) h8 (C.tr pn xe) (S.tr pn ps) (fun e => (G e).tr pn xe) env st
    · exact snd_Ss (W := W.heat) suite _ false sc (X.suite a pn) h9 (C.suite a pn) (S.suite a pn) (fun e => by cases e) env' st'
  · cases h
theorem snd_B : ∀ (s : ISs) (xs : List Stmt) (g : Bool) (sc : Scope) (X : Cx), okB W N g sc s xs = true → Cxt W k N sc X → StC sc X → (g = true → GenCx W k X) → ∀ env st, SsOk X W.cs xs env st (evSs (callF W.T W.F k) W.F s env st)
  | .nil, xs, g, sc, X, h, C, S, G, env, st => by
    simp only [okB, List.isEmpty_iff] at h
    subst h
    exact ss_nil
  | .cons s r, xs, g, sc, X, h, C, S, G, env, st => by
    simp only [okB] at h
    split at h
    · simp only [Bool.and_eq_true] at h
      refine ss_cons ?_ (fun env' st' => snd_B r _ g sc X h.2 C S G env' st')
      cases s with
      | trx body y cat i suite => exact snd_try h.1 C S G env st
      | _ => exact snd_S _ _ g sc X h.1 C S G env st
    · cases h
theorem xsnd_B : ∀ (s : ISs) (xs : List Stmt) (g : Bool) (sc : Scope) (X : Cx), okB W N g sc s xs = true → Cxt W k N sc X → StX sc X → (g = true → GenCx W k X) → ∀ env st, XSsOk X W.cs xs env st (xvSs (callF W.T W.F k) W.F s env st)
  | .nil, xs, g, sc, X, h, C, S, G, env, st => by
    simp only [okB, List.isEmpty_iff] at h
    subst h
    exact xs_nil
  | .cons s r, xs, g, sc, X, h, C, S, G, env, st => by
    simp only [okB] at h
    split at h
    · simp only [Bool.and_eq_true] at h
      refine xs_cons ?_ ?_ (fun env' st' => xsnd_B r _ g sc X h.2 C S G env' st')
      · cases s with
        | trx body y cat i suite => exact snd_try h.1 C.noxx S.nox (fun e => (G e).noxx) env st
        | _ => exact snd_S _ _ g sc X.nox h.1 C.noxx S.nox (fun e => (G e).noxx) env st
      · cases s with
        | trx body y cat i suite => exact xs_never
        | _ => exact xsnd_S _ _ g sc X h.1 C S G env st
    · cases h
end
end Mi

set_option Elab.async false
set_option linter.all false
set_option maxRecDepth 100000
set_option maxHeartbeats 4000000
/-! Mi27: a def keeps what its program gives. -/
namespace Mi
open PySem PySem.Spec PyProof.Rows L2 GenW

section
variable {W : Wld} [NotHot W] {P : Program} {w : World} {K : PySem.W.Frag} {mg : Str → Option Value} {base : Heap} {k : Nat}
def CXn : CXT := fun _ _ _ _ _ _ => False
def En : XK := fun _ _ _ => False
theorem envR_start {m : List Addr} {st : Store} {H : Hp} {ds : List D} {vs : List V} {n j : Nat} (r : Reps K m (Lv m st) H ds vs) (hn : n = ds.length) : EnvR K m st H (ds.map some ++ List.replicate (j - n) none) (vs.map some ++ List.replicate (j - vs.length) none) := by
  have hl := r.length
  refine ⟨by simp; omega, fun i d e => ?_⟩
  by_cases hi : i < ds.length
  · rw [List.getElem?_append_left (by simpa using hi), List.getElem?_map] at e
    cases q : ds[i]? with
    | none => rw [q] at e; cases e
    | some d' =>
      rw [q] at e; cases e
      obtain ⟨y, y1, y2⟩ := r.get q
      refine ⟨y, ?_, y2⟩
      rw [List.getElem?_append_left (by simp; omega), List.getElem?_map, y1]; rfl
  · rw [List.getElem?_append_right (by simp; omega), List.getElem?_replicate] at e
    split at e <;> cases e
omit [NotHot W] in
theorem callF_some {T : Nat → Option Def} {F k f : Nat} {d : Def} (h : T f = some d) (ds : List D) (st : Store) : callF T F (k + 1) f ds st = runD (callF T F k) F d ds st := by
  simp only [callF, h]
theorem fnG_of {f : Nat} {a : Addr} {fd : FuncData} {ps N : List Str} {d : Def} {x qual : Str} {params : Arguments} {body : List Stmt} {scope : Scope} {dvs : List V} {kws : List (Str × V)} {g : Bool} (F : FunD K x qual params body scope dvs kws a fd) (S : FnScope N ps scope)
    (hT : W.T f = some d) (hnp : d.np = ps.length) (hnm : d.names.length = N.length) (hok : okB W N g scope d.body body = true) (hgen : g = true → ∀ c, fd.code = .ref c → ∃ T, GxR.TabB base mg c T ∧ (c, T) ∈ W.cs)
    (M : ∀ X : Cx, X.prog = P → X.w = w → X.K = K → X.mg = mg → X.base = base → Mdl W k X) : FnG P w K mg base (k + 1) a fd ps (spOf W.T W.F K W.cs (k + 1) f) := by
  obtain ⟨oc, od, dV, kV, doc, pm, an, cdv, ct, osl, rfl, lk, hcd, _, _⟩ := F.ex
  have hlen : ∀ vs H Q, spOf W.T W.F K W.cs (k + 1) f vs H Q → vs.length = ps.length := by
    intro vs H Q ⟨m, st, ds, d0, st', hs, hr, hc, _⟩
    rw [callF_some hT] at hc
    simp only [runD] at hc
    split at hc
    · rename_i h1
      rw [← hr.length, h1.1, hnp]
    · cases hc
  refine ⟨hlen, fun A outer s H args us vs Q hr hg e0 hb r hsp => ?_⟩
  have hl := hlen _ _ _ hsp
  obtain ⟨m, st, ds, d0, st', hs, hrs, hc, hq⟩ := hsp
  rw [callF_some hT] at hc
  simp only [runD] at hc
  split at hc
  · rename_i hnn
    have KX : K.In s.heap := e0.mod.kin.keeps fun b o e => (e0.bs b o e).1
    have lim : s.heap.NoLimit := e0.mod.nolimit.keeps fun b o e => (e0.bs b o e).1
    have hkind : ∀ y ∈ ps.zip us, scope.names.lookup y.1 = some .local ∨ (scope.names.lookup y.1 = some .cell ∧ ((cellsFrom (s.heap.objs.size + 1) scope.names []).lookup y.1).isSome = true) := fun ⟨n, v⟩ hy => by
      rcases S.par n (List.of_mem_zip hy).1 with q | q
      · exact .inl q
      · exact .inr ⟨q, PySem.W.cellsFrom_some _ _ _ (.inl q)⟩
    refine codeAny_call_function (by have := hr.dp; omega) (KX _ _ lk) rfl S.co S.gen rfl (PySem.W.codeRec_of KX hcd) (hb _ _ _ _ ?_)
    refine wpAny_newFunctionEnv_cells S.kind hkind fun env he s1 x => ?_
    subst he
    refine ⟨lim.keeps x.toInCall.keep, codeAny_func ?_⟩
    have I0 : Inv (cxOf CXn P w K mg base N qual scope a cdv A outer s H En) [] (start N vs) H s1 := inv_start S hr.hd e0 hl r x
    have I : Inv (cxOf CXn P w K mg base N qual scope a cdv A outer s H En).nox [] (start N vs) H s1 := I0.wish _
    have C : Cxt W k N scope (cxOf CXn P w K mg base N qual scope a cdv A outer s H En).nox := ⟨rfl, rfl, S.nd, (fun _ => rfl), (fun _ => hr.deeper _), (by have := hr.un; show A.units + 3 + 128 < _; omega), hg, M _ rfl rfl rfl rfl rfl⟩
    have SC0 : StC scope (cxOf CXn P w K mg base N qual scope a cdv A outer s H En).nox := ⟨S.kind, rfl, rfl, rfl, rfl, fun y hy => ⟨locB_ok hy, .inl rfl⟩⟩
    have GC : g = true → GenCx W k (cxOf CXn P w K mg base N qual scope a cdv A outer s H En).nox := fun hg1 => by
      refine ⟨⟨?_, ?_⟩, ?_⟩
      · have := hr.dp
        show A.depth + 1 + 3 * k + 7 < _
        omega
      · have := hr.un
        show A.units + 3 + 16 * k + 212 < _
        omega
      · have hcr : ∃ c, cdv = .ref c := by
          cases cdv with
          | ref c => exact ⟨c, rfl⟩
          | _ => cases hcd
        obtain ⟨c, rfl⟩ := hcr
        obtain ⟨T, t1, t2⟩ := hgen hg1 c rfl
        exact ⟨c, T, t1, rfl, t2⟩
    have er : EnvR K m st H (ds.map some ++ List.replicate (d.names.length - d.np) none) (start N vs) := by
      have := envR_start (j := d.names.length) hrs hnn.1.symm
      rw [hnm] at this ⊢
      exact this
    cases hfl : evSs (callF W.T W.F k) W.F d.body (ds.map some ++ List.replicate (d.names.length - d.np) none) st with
    | none => rw [hfl] at hc; cases hc
    | some fl =>
      rw [hfl] at hc
      have fin : ∀ {m1 : List Addr} {st1 : Store} {H1 : Hp} {dd : D} {v : V}, cutD st.length dd st1 = some (d0, st') → Ext m st H m1 st1 H1 → SC K W.cs m1 st1 H1 → Rep K m1 (Lv m1 st1) H1 dd v → Q v H1 := by
        intro m1 st1 H1 dd v h1 h2 h3 h4
        obtain ⟨e1, m2, z1, z2, z3⟩ := cut_ok h1 hs.len h2 h3 h4
        subst e1
        exact hq m2 v H1 z1 z2 z3
      have run := snd_B d.body body g scope (cxOf CXn P w K mg base N qual scope a cdv A outer s H En).nox hok C SC0 GC _ st fl hfl m (start N vs) H { nx := fun _ H' => Q .non H', rt := Q } hs er (by
        cases fl with
        | nxt env' st1 => exact fun m' σ' H' h1 h2 h3 => fin hc h1 h2 (by simp only [Rep])
        | ret dd st1 => exact fun m' v H' h1 h2 h3 => fin hc h1 h2 h3
        | brk env' st1 => cases hc
        | cnt env' st1 => cases hc) [] s1 I
      refine wpAny_mono run (fun fl' s' hs' => ?_) fun e s' hs' => False.elim hs'
      cases fl' with
      | ret u =>
        obtain ⟨v, σ', H', J, rv, q⟩ := hs'
        exact ⟨u, rfl, v, H', J.os, J.bare, J.base, J.hok, rv, q⟩
      | next =>
        obtain ⟨σ', H', J, q⟩ := hs'
        exact ⟨.none, rfl, .non, H', J.os, J.bare, J.base, J.hok, rfl, q⟩
      | brk => obtain ⟨_, _, _, q⟩ := hs'; exact False.elim q
      | cont => obtain ⟨_, _, _, q⟩ := hs'; exact False.elim q
  · cases hc
theorem fnX_of {f : Nat} {a : Addr} {fd : FuncData} {ps N : List Str} {d : Def} {x qual : Str} {params : Arguments} {body : List Stmt} {scope : Scope} {dvs : List V} {kws : List (Str × V)} {g : Bool} (F : FunD K x qual params body scope dvs kws a fd) (S : FnScope N ps scope)
    (hT : W.T f = some d) (hlt : W.T (f + XB) = none) (hnp : d.np = ps.length) (hnm : d.names.length = N.length) (hok : okB W N g scope d.body body = true) (hgen : g = true → ∀ c, fd.code = .ref c → ∃ T, GxR.TabB base mg c T ∧ (c, T) ∈ W.cs)
    (M : ∀ X : Cx, X.prog = P → X.w = w → X.K = K → X.mg = mg → X.base = base → Mdl W k X) : FnX P w K mg base (k + 1) a fd ps (spX W.T W.F K W.cs (k + 1) f) := by
  obtain ⟨oc, od, dV, kV, doc, pm, an, cdv, ct, osl, rfl, lk, hcd, _, _⟩ := F.ex
  have call : ∀ ds st r, callF W.T W.F (k + 1) (f + XB) ds st = some r → runX (callF W.T W.F k) W.F d ds st = some r := fun ds st r hc => by
    have hc : (match W.T (f + XB) with
      | some d => runD (callF W.T W.F k) W.F d ds st
      | none => if XB ≤ f + XB then (match W.T (f + XB - XB) with
        | some d => runX (callF W.T W.F k) W.F d ds st
        | none => none) else none) = some r := hc
    rw [hlt] at hc
    simp only [Nat.le_add_left, if_true, Nat.add_sub_cancel, hT] at hc
    exact hc
  have hlen : ∀ vs H E, spX W.T W.F K W.cs (k + 1) f vs H E → vs.length = ps.length := by
    intro vs H E ⟨m, st, ds, d0, st', hs, hr, hc, _⟩
    have hc := call _ _ _ hc
    simp only [runX] at hc
    split at hc
    · rename_i h1
      rw [← hr.length, h1.1, hnp]
    · cases hc
  refine ⟨hlen, fun A outer s H args us vs E hr hg e0 hb r hsp => ?_⟩
  have hl := hlen _ _ _ hsp
  obtain ⟨m, st, ds, d0, st', hs, hrs, hc, hq⟩ := hsp
  have hc := call _ _ _ hc
  simp only [runX] at hc
  split at hc
  · rename_i hnn
    have KX : K.In s.heap := e0.mod.kin.keeps fun b o e => (e0.bs b o e).1
    have lim : s.heap.NoLimit := e0.mod.nolimit.keeps fun b o e => (e0.bs b o e).1
    have hkind : ∀ y ∈ ps.zip us, scope.names.lookup y.1 = some .local ∨ (scope.names.lookup y.1 = some .cell ∧ ((cellsFrom (s.heap.objs.size + 1) scope.names []).lookup y.1).isSome = true) := fun ⟨n, v⟩ hy => by
      rcases S.par n (List.of_mem_zip hy).1 with q | q
      · exact .inl q
      · exact .inr ⟨q, PySem.W.cellsFrom_some _ _ _ (.inl q)⟩
    refine codeAny_call_function (by have := hr.dp; omega) (KX _ _ lk) rfl S.co S.gen rfl (PySem.W.codeRec_of KX hcd) (hb _ _ _ _ ?_)
    refine wpAny_newFunctionEnv_cells S.kind hkind fun env he s1 x => ?_
    subst he
    refine ⟨lim.keeps x.toInCall.keep, codeAny_func ?_⟩
    have I : Inv (cxOf (CX P w) P w K mg base N qual scope a cdv A outer s H E) [] (start N vs) H s1 := inv_start S hr.hd e0 hl r x
    have C : Cxt W k N scope (cxOf (CX P w) P w K mg base N qual scope a cdv A outer s H E) := ⟨rfl, rfl, S.nd, (fun _ => rfl), (fun _ => hr.deeper _), (by have := hr.un; show A.units + 3 + 128 < _; omega), hg, M _ rfl rfl rfl rfl rfl⟩
    have SX : StX scope (cxOf (CX P w) P w K mg base N qual scope a cdv A outer s H E) := ⟨S.kind, passes_of rfl, fun y hy => ⟨locB_ok hy, .inl rfl⟩, rfl, rfl, rfl⟩
    have GC : g = true → GenCx W k (cxOf (CX P w) P w K mg base N qual scope a cdv A outer s H E) := fun hg1 => by
      refine ⟨⟨?_, ?_⟩, ?_⟩
      · have := hr.dp
        show A.depth + 1 + 3 * k + 7 < _
        omega
      · have := hr.un
        show A.units + 3 + 16 * k + 212 < _
        omega
      · have hcr : ∃ c, cdv = .ref c := by
          cases cdv with
          | ref c => exact ⟨c, rfl⟩
          | _ => cases hcd
        obtain ⟨c, rfl⟩ := hcr
        obtain ⟨T, t1, t2⟩ := hgen hg1 c rfl
        exact ⟨c, T, t1, rfl, t2⟩
    have er : EnvR K m st H (ds.map some ++ List.replicate (d.names.length - d.np) none) (start N vs) := by
      have := envR_start (j := d.names.length) hrs hnn.1.symm
      rw [hnm] at this ⊢
      exact this
    have tk : Takes (cxOf (CX P w) P w K mg base N qual scope a cdv A outer s H E) (fun cls d _ H => E cls d H) := takes_of rfl rfl rfl rfl
    cases hfl : xvSs (callF W.T W.F k) W.F d.body (ds.map some ++ List.replicate (d.names.length - d.np) none) st with
    | none => rw [hfl] at hc; cases hc
    | some fl =>
      obtain ⟨xd, env1, st1⟩ := fl
      rw [hfl] at hc
      have run := xsnd_B d.body body g scope (cxOf (CX P w) P w K mg base N qual scope a cdv A outer s H E) hok C SX GC _ st _ _ _ hfl m (start N vs) H (fun cls d _ H => E cls d H) { nx := fun _ _ => False, rt := fun _ _ => False } tk hs er (fun m' σ' cls od H' x1 s1 _ xr => by
        obtain ⟨e1, m2, z1, z2, z3⟩ := cut_exc hc hs.len x1 s1 xr
        subst e1
        exact hq m2 cls od H' z1 z2 z3) [] s1 I
      refine wpAny_mono run (fun fl' s' hs' => ?_) fun e s' hs' => ?_
      · cases fl' with
        | ret u => obtain ⟨_, _, _, _, _, q⟩ := hs'; exact False.elim q
        | next => obtain ⟨_, _, _, q⟩ := hs'; exact False.elim q
        | brk => obtain ⟨_, _, _, q⟩ := hs'; exact False.elim q
        | cont => obtain ⟨_, _, _, q⟩ := hs'; exact False.elim q
      · exact wpAny_mono hs' (fun _ s'' cx => ⟨_, rfl, cx⟩) fun _ _ z => ⟨_, rfl, z⟩
  · cases hc
end
end Mi

set_option Elab.async false
set_option linter.all false
set_option maxRecDepth 100000
set_option maxHeartbeats 4000000
/-! Mi28: the whole program; a law's end. -/
namespace Mi
open PySem PySem.Spec PyProof.Rows L2 GenW

/-- a program whose defs fit the language -/
structure Sys (W : Wld) (P : Program) (w : World) (K : PySem.W.Frag) (mg : Str → Option Value) (base : Heap) : Prop where
  free : ∀ x ∈ (["len", "abs", "int", "max", "min", "repr", "str", "divmod", "tuple", "list", "sum", "all", "any", "isinstance", "bool", "range", "zip", "enumerate"] : List Str), mg x = none
  gcd : W.mt = true → mg "gcd" = some (.builtin "math.gcd")
  lcm : W.mt = true → mg "lcm" = some (.builtin "math.lcm")
  gcs : ∀ x d, W.gc x d = true → ∃ u v, mg x = some u ∧ RelV v u ∧ ∀ m L H, Rep K m L H d v
  xis : ∀ c x b, W.xm c x = some b → XiOk K mg c x b
  xmk : ∀ c f, W.xc c f = true → MkOk P K mg c f
  top : ∀ f, W.T (f + XB) = none
  smd : SmdK K
  defs : ∀ f x, W.nm f = some x → ∃ (a : Addr) (fd : FuncData) (ps N : List Str) (d : Def) (y qual : Str) (params : Arguments) (body : List Stmt) (scope : Scope) (dvs : List V) (kws : List (Str × V)) (g : Bool),
    FunD K y qual params body scope dvs kws a fd ∧ FnScope N ps scope ∧ W.T f = some d ∧ d.np = ps.length ∧ d.names.length = N.length ∧ okB W N g scope d.body body = true ∧ (g = true → ∀ c, fd.code = .ref c → ∃ T, GxR.TabB base mg c T ∧ (c, T) ∈ W.cs) ∧
    mg x = some (.ref a) ∧ Binds K fd ps [] ∧ ∀ names perm, W.kw f names = some perm → KwB K fd ps names perm
section
variable {W : Wld} [NotHot W] {P : Program} {w : World} {K : PySem.W.Frag} {mg : Str → Option Value} {base : Heap}
theorem Sys.level (S : Sys W P w K mg base) (k : Nat) : (∀ (f : Nat) (x : Str), W.nm f = some x → ∃ a fd ps, mg x = some (.ref a) ∧ PySem.W.keepIn K (.ref a) = true ∧ FnG P w K mg base k a fd ps (spOf W.T W.F K W.cs k f) ∧ Binds K fd ps [] ∧ ∀ names perm, W.kw f names = some perm → KwB K fd ps names perm) ∧
    ∀ (f : Nat) (x : Str), W.nm f = some x → ∃ a fd ps, mg x = some (.ref a) ∧ PySem.W.keepIn K (.ref a) = true ∧ FnX P w K mg base k a fd ps (spX W.T W.F K W.cs k f) ∧ Binds K fd ps [] ∧ ∀ names perm, W.kw f names = some perm → KwB K fd ps names perm := by
  induction k with
  | zero =>
    constructor
    · intro f x h
      obtain ⟨a, fd, ps, N, d, y, qual, params, body, scope, dvs, kws, g, F, FS, hT, hnp, hnm, hok, hg, hm, hb⟩ := S.defs f x h
      have no : ∀ {vs H Q}, spOf W.T W.F K W.cs 0 f vs H Q → False := fun ⟨m, st, ds, d, st', _, _, hc, _⟩ => by cases hc
      exact ⟨a, fd, ps, hm, F.kp, ⟨fun vs H Q h => (no h).elim, fun A ar s H args us vs Q _ _ _ _ _ h => (no h).elim⟩, hb⟩
    · intro f x h
      obtain ⟨a, fd, ps, N, d, y, qual, params, body, scope, dvs, kws, g, F, FS, hT, hnp, hnm, hok, hg, hm, hb⟩ := S.defs f x h
      have no : ∀ {vs H Q}, spX W.T W.F K W.cs 0 f vs H Q → False := fun ⟨m, st, ds, d, st', _, _, hc, _⟩ => by cases hc
      exact ⟨a, fd, ps, hm, F.kp, ⟨fun vs H Q h => (no h).elim, fun A ar s H args us vs Q _ _ _ _ _ h => (no h).elim⟩, hb⟩
  | succ k ih =>
    have M : ∀ X : Cx, X.prog = P → X.w = w → X.K = K → X.mg = mg → X.base = base → Mdl W k X := fun X e1 e2 e3 e4 e5 => by
      subst e1 e2 e3 e4 e5
      exact ⟨S.free, S.gcd, S.lcm, fun f x h => ih.1 f x h, S.gcs, fun f x h => ih.2 f x h, S.xis, S.xmk, S.smd⟩
    constructor
    · intro f x h
      obtain ⟨a, fd, ps, N, d, y, qual, params, body, scope, dvs, kws, g, F, FS, hT, hnp, hnm, hok, hg, hm, hb⟩ := S.defs f x h
      exact ⟨a, fd, ps, hm, F.kp, fnG_of F FS hT hnp hnm hok hg M, hb⟩
    · intro f x h
      obtain ⟨a, fd, ps, N, d, y, qual, params, body, scope, dvs, kws, g, F, FS, hT, hnp, hnm, hok, hg, hm, hb⟩ := S.defs f x h
      exact ⟨a, fd, ps, hm, F.kp, fnX_of F FS hT (S.top f) hnp hnm hok hg M, hb⟩
/-- the law's call on a script -/
theorem law_go {k f : Nat} {fa a : Addr} {mb : Str → Option Value} {s₁ : Shared} {vs : List Value} {ns : List Int} {stF : Store}
    (KX : K.In s₁.heap) (hns : s₁.heap.Ns mainGlobals mg) (hb : s₁.heap.Ns builtinsNs mb) (hbb : ∀ x : Str, x ≠ "__name__" → mb x = bootBuiltins x) (hlim : s₁.heap.NoLimit) (hg : s₁.gens = #[])
    (hT : ∀ p ∈ W.cs, s₁.heap.get? p.2 = some { cls := .none, data := .fields #[] }) (nT : ∀ p ∈ W.cs, K.lookup p.2 = none) (hC : ∀ p ∈ W.cs, PySem.W.CodeHd s₁.heap p.1 p.2)
    (hbm : ∃ (bm : Addr) (ob : Obj), mg "__builtins__" = some (.ref bm) ∧ bm ≠ builtinsNs ∧ s₁.heap.get? bm = some ob ∧ ob.cls = .type "module" ∧ ob.dict = some builtinsNs ∧ ob.data = .plain)
    (ha : s₁.heap.get? a = some { cls := .type "list", data := .seq vs.toArray }) (hi : IntsAre vs ns) (hl : ns.length ≤ sizeLine) (hr : Room k callerA)
    (F : ∀ base : Heap, K.In base → base.Ns mainGlobals mg → (∀ p ∈ W.cs, GxR.TabB base mg p.1 p.2) → ∃ fd ps, FnG P w K mg base k fa fd ps (spOf W.T W.F K W.cs k f) ∧ Binds K fd ps [])
    (hval : callF W.T W.F k f [.scr (ns.map D.int)] [] = some (.bl true, stF)) :
    codeAny (model P w) callerA (.call (.ref fa) ⟨[.ref a], []⟩) (fun r s' => r = .ok (.ret (.bool true)) ∧ OldK s₁.heap s'.heap ∧ s'.os = s₁.os ∧ AllBare s'.gens) s₁ := by
  have rv := vals_ints hi
  have lenV := hi.length
  have tabAt : ∀ b, b ∈ W.cs.map (·.2) → s₁.heap.get? b = some { cls := .none, data := .fields #[] } ∧ K.lookup b = none := fun b hb => by
    obtain ⟨p, hp, rfl⟩ := List.mem_map.mp hb
    exact ⟨hT p hp, nT p hp⟩
  have aOut : a ∉ W.cs.map (·.2) := fun z => by
    have q := (tabAt a z).1
    rw [ha] at q
    cases congrArg Obj.data (Option.some.inj q)
  have inT : ∀ p ∈ W.cs, p.2 ∈ W.cs.map (·.2) := fun p hp => List.mem_map.mpr ⟨p, hp, rfl⟩
  -- the abstract heap: the tables, the script where the written part lacks it
  obtain ⟨H, hHt, hHa, hHo, hHn⟩ : ∃ H : Hp, (∀ b ∈ W.cs.map (·.2), H b = some (.tbl #[])) ∧ (K.lookup a = none → H a = some (.frz { cls := .type "list", data := .seq vs.toArray } (.lst (ns.map V.int)))) ∧ (K.lookup a ≠ none → H a = none) ∧ (∀ b, b ∉ W.cs.map (·.2) → b ≠ a → H b = none) := by
    refine ⟨fun b => if b ∈ W.cs.map (·.2) then some (.tbl #[]) else if b = a ∧ (K.lookup a).isNone = true then some (.frz { cls := .type "list", data := .seq vs.toArray } (.lst (ns.map V.int))) else none, fun b hb => if_pos hb, fun h => ?_, fun h => ?_, fun b h1 h2 => ?_⟩
    · show (if a ∈ _ then _ else _) = _
      rw [if_neg aOut, if_pos ⟨rfl, by rw [h]; rfl⟩]
    · show (if a ∈ _ then _ else _) = _
      rw [if_neg aOut, if_neg (fun z => by
        cases q : K.lookup a with
        | none => exact h q
        | some o => rw [q] at z; cases z.2)]
    · show (if b ∈ _ then _ else _) = _
      rw [if_neg h1, if_neg (fun z => h2 z.1)]
  have cases3 : ∀ b u, H b = some u → (b ∈ W.cs.map (·.2) ∧ u = .tbl #[]) ∨ (b = a ∧ K.lookup a = none ∧ u = .frz { cls := .type "list", data := .seq vs.toArray } (.lst (ns.map V.int))) := fun b u e => by
    by_cases h1 : b ∈ W.cs.map (·.2)
    · rw [hHt b h1] at e; cases e; exact .inl ⟨h1, rfl⟩
    · by_cases h2 : b = a
      · subst h2
        by_cases h3 : K.lookup b = none
        · rw [hHa h3] at e; cases e; exact .inr ⟨rfl, h3, rfl⟩
        · rw [hHo h3] at e; cases e
      · rw [hHn b h1 h2] at e; cases e
  -- objects of no such kind are not tracked
  have untr : ∀ {b : Addr} {o : Obj}, s₁.heap.get? b = some o → (∀ vs n, o.data ≠ .seq vs n) → o.data ≠ .fields #[] → H b = none := fun {b o} e h1 h2 => by
    cases q : H b with
    | none => rfl
    | some u =>
      rcases cases3 b u q with ⟨e', _⟩ | ⟨rfl, _⟩
      · rw [(tabAt b e').1] at e; cases e; exact (h2 rfl).elim
      · rw [ha] at e; cases e; exact (h1 _ _ rfl).elim
  have dic : ∀ {b : Addr} {m : Str → Option Value}, s₁.heap.Ns b m → (hidT s₁.heap H).Ns b m := fun {b m} ⟨o, es, ep, e, d, r⟩ =>
    ⟨o, es, ep, hidT_get e (untr e (fun vs n z => by rw [d] at z; cases z) (fun z => by rw [d] at z; cases z)), d, r⟩
  have hKb : K.In (hidT s₁.heap H) := fun b o e => hidT_get (KX b o e) (by
    cases q : H b with
    | none => rfl
    | some u =>
      rcases cases3 b u q with ⟨e', _⟩ | ⟨rfl, e', _⟩
      · rw [(tabAt b e').2] at e; cases e
      · rw [e'] at e; cases e)
  have hM : L2.Mod K mg (hidT s₁.heap H) := ⟨hKb, dic hns, ⟨mb, dic hb, hbb⟩, let ⟨mc, h1, h2⟩ := hlim; ⟨mc, dic h1, h2⟩⟩
  have TB : ∀ p ∈ W.cs, GxR.TabB (hidT s₁.heap H) mg p.1 p.2 := fun p hp => by
    obtain ⟨gm, es, ep, e1, e2, _⟩ := hns
    refine ⟨?_, ?_, fun z => ?_⟩
    · obtain ⟨o, us, file, tf, flags, tg, inF, text, tt, c1, c2, c3, c4, c5⟩ := hC p hp
      refine ⟨o, us, file, tf, flags, tg, inF, text, tt, hidT_get c1 (untr c1 (fun vs n z => ?_) fun z => ?_), c2, c3, c4, c5⟩
      · rw [c3] at z; cases z
      · rw [c3] at z; cases z; simp at c4
    · obtain ⟨bm, ob, b1, b2, b3, b4, b5, b6⟩ := hbm
      refine ⟨bm, ob, b1, b2, fun q => ?_, fun q => ?_, hidT_get b3 (untr b3 (fun vs n z => ?_) fun z => ?_), b4, b5, b6⟩
      · rw [q, e1] at b3; cases b3; rw [e2] at b6; cases b6
      · rw [q, hT p hp] at b3; cases b3; cases b6
      · rw [b6] at z; cases z
      · rw [b6] at z; cases z
    · rw [z, hT p hp] at e1; cases e1; cases e2
  have hok : HOk P w H s₁.heap := fun b u e => by
    rcases cases3 b u e with ⟨e', rfl⟩ | ⟨rfl, _, rfl⟩
    · exact (tabAt b e').1
    · exact ⟨ha, by rw [List.length_map]; exact hl, vs, _, rv, ha⟩
  have e0 : Env0 P w K mg (hidT s₁.heap H) callerA [] s₁ H := ⟨rfl, hM, fun b o e => of_hidT e, Nat.le_of_eq (hidT_size _ _), trivial, fun b hb => absurd (show b ∈ ([] : List Addr) from hb) (by simp), hok, .of_eq hg⟩
  have hSC : SC K W.cs [] [] H := ⟨rfl, fun n xs e => by simp at e, fun i j a xs ys e => by simp at e, fun p hp => ⟨#[], hHt _ (inT p hp), trivial⟩⟩
  have hInts : Reps K [] (Lv [] []) H (ns.map D.int) (ns.map V.int) := by
    clear hval hi rv lenV hl hHa cases3 hok
    induction ns with
    | nil => simp [Reps]
    | cons n ns ih => simp only [List.map_cons, Reps, Rep]; exact ⟨_, _, rfl, rfl, ih⟩
  have hrep : Reps K [] (Lv [] []) H [D.scr (ns.map D.int)] [.ref a] := by
    simp only [Reps, Rep]
    refine ⟨.ref a, [], rfl, ⟨a, ns.map V.int, rfl, ?_, hInts⟩, rfl⟩
    cases q : K.lookup a with
    | none => exact .inl ⟨_, hHa q⟩
    | some o =>
      have e := KX a o q
      rw [ha] at e; cases e
      exact .inr (.inr ⟨_, vs.toArray, _, q, rfl, rfl, rfl, by rw [List.size_toArray, lenV]; exact hl, by simpa using rv⟩)
  obtain ⟨fd, ps, FF, hbd⟩ := F _ hKb (dic hns) TB
  have hsp : spOf W.T W.F K W.cs k f [.ref a] H (fun v _ => v = .bl true) := ⟨[], [], _, _, stF, hSC, hrep, hval, fun m' v H' _ _ r => by simpa only [Rep] using r⟩
  have hbind := hbd s₁ [.ref a] KX (by simpa using FF.len _ _ _ hsp)
  rw [List.append_nil] at hbind
  refine codeAny_mono (FF.go callerA [] s₁ H ⟨[.ref a], []⟩ [.ref a] [.ref a] (fun v _ => v = .bl true) hr rfl e0 hbind (.cons rfl .nil) hsp) fun r s' h => ?_
  obtain ⟨u, rfl, v, H', os, bare, un, hok', r', q'⟩ := h
  subst q'
  obtain rfl : u = Value.bool true := r'
  have still : ∀ b o, b ∉ W.cs.map (·.2) → s₁.heap.get? b = some o → s'.heap.get? b = some o := fun b o nb e => by
    cases q : H b with
    | none => exact un.keep b o e q (by intro z; exact absurd (show b ∈ ([] : List Addr) from z) (by simp)) (by simp)
    | some u =>
      rcases cases3 b u q with ⟨e', _⟩ | ⟨rfl, _, rfl⟩
      · exact absurd e' nb
      · have z2 := un.frzs b _ _ q
        obtain ⟨e1, _⟩ := hok b _ q
        obtain ⟨e2, _⟩ := hok' b _ z2
        rw [e] at e1; cases e1
        exact e2
  refine ⟨rfl, ⟨fun b o e => ?_, fun b o e => ?_⟩, os, bare⟩
  · by_cases hbt : b ∈ W.cs.map (·.2)
    · obtain ⟨p, hp, rfl⟩ := List.mem_map.mp hbt
      obtain ⟨more, z⟩ := un.tbls p.2 #[] (hHt _ hbt)
      have hm := hok' p.2 _ z
      rw [hT p hp] at e
      cases e
      exact .inr (.inl ⟨((hC p hp).tab (hT p hp)).isCodeTable, rfl, #[], more, rfl, hm⟩)
    · exact .inl (still b o hbt e)
  · by_cases hbt : b ∈ W.cs.map (·.2)
    · obtain ⟨more, z⟩ := un.tbls b #[] (hHt _ hbt)
      exact ⟨_, hok' b _ z⟩
    · exact ⟨o, still b o hbt e⟩
end
end Mi

set_option Elab.async false
set_option linter.all false
set_option maxRecDepth 100000
set_option maxHeartbeats 4000000
/-! Mi29: the head's word gives a fitting program. -/
namespace Mi
open PySem PySem.Spec PyProof.Rows L2 GenW

section
variable {fa : List He.Fa} {fn : List He.DefD} {ts : List He.Tab} {tf : List He.Defn} {ex : PySem.W.Frag → Bool} {w : World} {h base : Heap} {K : PySem.W.Frag} {mg : Str → Option Value} {W : Wld}
/-- what Sys wants of one def -/
def DefAt (W : Wld) (K : PySem.W.Frag) (mg : Str → Option Value) (base : Heap) (f : Nat) (x : Str) : Prop :=
  ∃ (a : Addr) (fd : FuncData) (ps N : List Str) (d : Def) (y qual : Str) (params : Arguments) (body : List Stmt) (scope : Scope) (dvs : List V) (kws : List (Str × V)) (g : Bool),
    FunD K y qual params body scope dvs kws a fd ∧ FnScope N ps scope ∧ W.T f = some d ∧ d.np = ps.length ∧ d.names.length = N.length ∧ okB W N g scope d.body body = true ∧ (g = true → ∀ c, fd.code = .ref c → ∃ T, GxR.TabB base mg c T ∧ (c, T) ∈ W.cs) ∧
    mg x = some (.ref a) ∧ Binds K fd ps [] ∧ ∀ names perm, W.kw f names = some perm → KwB K fd ps names perm
theorem def_at (SX : He.SaysX fa fn ts tf ex w h K) (X : K.In h) (G : h.Ns mainGlobals mg) (hcs : W.cs = tf.map (He.cT K)) (TB : ∀ p ∈ W.cs, GxR.TabB base mg p.1 p.2) (j f : Nat) (d : He.DefD) (di : Def) (ps : List Str) (g : Bool)
    (hd : fn[j]? = some d) (hat : d.at_ = (d.name, none)) (hdf : d.dfl = []) (hglo : He.Fa.glo d.name ∈ fa) (hsc : C8.scC di.names ps d.scope = true) (hT : W.T f = some di) (hnp : di.np = ps.length) (hok : okB W di.names g d.scope di.body d.body = true) (hg : g = true → (d.name, none) ∈ tf)
    (hb : ∀ (kV doc pm : Value) (an : Option Addr) (cdv ct : Value) (us : List Value), us.length = ps.length → bindArgs (PySem.W.fnOf d.name d.qual d.params d.body d.scope .none kV doc pm an cdv ct) ⟨us, []⟩ = pure (ps.zip us))
    (hk : ∀ names perm, W.kw f names = some perm → ∀ (kV doc pm : Value) (an : Option Addr) (cdv ct : Value) (us zs : List Value), perm.mapM (fun i => us[i]?) = some zs → us.length = names.length → zs.length = ps.length →
      bindArgs (PySem.W.fnOf d.name d.qual d.params d.body d.scope .none kV doc pm an cdv ct) ⟨[], names.zip us⟩ = pure (ps.zip zs)) : DefAt W K mg base f d.name := by
  obtain ⟨fd, F⟩ := SX.t.d.def_ j hd
  have e1 : He.fAd K d.at_ = He.ga K d.name := by rw [hat]; rfl
  have hdv : d.dvs K = [] := by unfold He.DefD.dvs; rw [hdf]; rfl
  have F' := F
  rw [hdv] at F
  refine ⟨He.fAd K d.at_, fd, ps, di.names, di, d.name, d.qual, d.params, d.body, d.scope, [], d.kws K, g, F, C8.fnScope_by hsc, hT, hnp, rfl, hok, fun hg1 c hc => ?_, ?_, F.bindsN hb, fun names perm hkw s us zs KI h1 h2 h3 => ?_⟩
  · obtain ⟨oc, od, dV, kV, doc, pm, an, cdv, ct, osl, e, lk, hcd, _, _⟩ := F.ex
    have ec : He.codeOf K d.at_ = c := He.codeOf_eq lk hc
    have hin : (c, He.tabOf K c) ∈ W.cs := by
      rw [hcs]
      refine List.mem_map.mpr ⟨(d.name, none), hg hg1, ?_⟩
      show (He.codeOf K (d.name, none), He.tabOf K (He.codeOf K (d.name, none))) = _
      rw [← hat, ec]
    exact ⟨_, TB _ hin, hin⟩
  · rw [e1]
    exact He.glo_ok X G (SX.t.d.facts hglo)
  · obtain ⟨oc, od, dV, kV, doc, pm, an, cdv, ct, osl, rfl, lk, hcd, hD, _⟩ := F.ex
    rcases hD with ⟨_, rfl⟩ | ⟨e, _⟩
    · exact .of_eq (hk names perm hkw kV doc pm an cdv ct us zs h1 h2 h3)
    · exact absurd rfl e
theorem sys_of {P : Program} (SX : He.SaysX fa fn ts tf ex w h K) (X : K.In h) (G : h.Ns mainGlobals mg) (hfree : ∀ x ∈ (["len", "abs", "int", "max", "min", "repr", "str", "divmod", "tuple", "list", "sum", "all", "any", "isinstance", "bool", "range", "zip", "enumerate"] : List Str), mg x = none)
    (hgcd : W.mt = true → mg "gcd" = some (.builtin "math.gcd")) (hlcm : W.mt = true → mg "lcm" = some (.builtin "math.lcm")) (hgc : ∀ x d, W.gc x d = true → ∃ u v, mg x = some u ∧ RelV v u ∧ ∀ m L H, Rep K m L H d v)
    (hxis : ∀ c x b, W.xm c x = some b → XiOk K mg c x b) (hxmk : ∀ c f, W.xc c f = true → MkOk P K mg c f) (htop : ∀ f, W.T (f + XB) = none) (hsmd : SmdK K)
    (hdefs : ∀ f x, W.nm f = some x → DefAt W K mg base f x) : Sys W P w K mg base := ⟨hfree, hgcd, hlcm, hgc, hxis, hxmk, htop, hsmd, hdefs⟩
end
end Mi

set_option Elab.async false
set_option linter.all false
set_option maxRecDepth 100000
set_option maxHeartbeats 4000000
/-! Mi30: a module's constants. -/
namespace Mi
open PySem PySem.Spec PyProof.Rows L2 GenW

mutual
/-- the same numbers and tuples -/
def dB : D → D → Bool
  | .int i, y => (match y with
    | .int j => decide (i = j)
    | _ => false)
  | .tup xs, y => (match y with
    | .tup ys => dBs xs ys
    | _ => false)
  | _, _ => false
def dBs : List D → List D → Bool
  | [], ys => ys.isEmpty
  | x :: xs, ys => (match ys with
    | y :: ys => dB x y && dBs xs ys
    | [] => false)
end
mutual
theorem dB_eq : ∀ {x y : D}, dB x y = true → x = y
  | .int i, y, h => by
    simp only [dB] at h
    split at h
    · rw [of_decide_eq_true h]
    · cases h
  | .tup xs, y, h => by
    simp only [dB] at h
    split at h
    · rw [dBs_eq h]
    · cases h
  | .non, _, h => by simp [dB] at h
  | .bl _, _, h => by simp [dB] at h
  | .str _, _, h => by simp [dB] at h
  | .lst _, _, h => by simp [dB] at h
  | .scr _, _, h => by simp [dB] at h
  | .cell _, _, h => by simp [dB] at h
  | .dct _ _, _, h => by simp [dB] at h
  | .exc _ _ _, _, h => by simp [dB] at h
theorem dBs_eq : ∀ {xs ys : List D}, dBs xs ys = true → xs = ys
  | [], ys, h => by
    simp only [dBs, List.isEmpty_iff] at h
    rw [h]
  | x :: xs, ys, h => by
    simp only [dBs] at h
    split at h
    · simp only [Bool.and_eq_true] at h
      rw [dB_eq h.1, dBs_eq h.2]
    · cases h
end
mutual
theorem repK_ok {K : PySem.W.Frag} : ∀ {d : D} {u : Value}, repK K d u = true → ∃ v, RelV v u ∧ ∀ m L H, Rep K m L H d v
  | .int i, u, h => by
    simp only [repK] at h
    split at h
    · rename_i j t
      rw [of_decide_eq_true h]
      exact ⟨.int j, ⟨t, rfl⟩, fun m L H => by simp only [Rep]⟩
    · cases h
  | .tup xs, u, h => by
    simp only [repK] at h
    split at h
    · rename_i a
      split at h
      · rename_i c dd its n sl hl
        simp only [Bool.and_eq_true, decide_eq_true_eq] at h
        obtain ⟨⟨rfl, h2⟩, h3⟩ := h
        obtain ⟨vs, z1, z2⟩ := repsK_ok h3
        refine ⟨.ref a, rfl, fun m L H => ?_⟩
        simp only [Rep]
        exact ⟨a, vs, rfl, .inr ⟨_, its, n, hl, rfl, rfl, h2, z1⟩, z2 m L H⟩
      · cases h
    · cases h
  | .non, _, h => by simp [repK] at h
  | .bl _, _, h => by simp [repK] at h
  | .str _, _, h => by simp [repK] at h
  | .lst _, _, h => by simp [repK] at h
  | .scr _, _, h => by simp [repK] at h
  | .cell _, _, h => by simp [repK] at h
  | .dct _ _, _, h => by simp [repK] at h
  | .exc _ _ _, _, h => by simp [repK] at h
theorem repsK_ok {K : PySem.W.Frag} : ∀ {ds : List D} {us : List Value}, repsK K ds us = true → ∃ vs, Vals vs us ∧ ∀ m L H, Reps K m L H ds vs
  | [], us, h => by
    simp only [repsK, List.isEmpty_iff] at h
    subst h
    exact ⟨[], .nil, fun m L H => by simp only [Reps]⟩
  | d :: ds, us, h => by
    simp only [repsK] at h
    split at h
    · simp only [Bool.and_eq_true] at h
      obtain ⟨v, z1, z2⟩ := repK_ok h.1
      obtain ⟨vs, z3, z4⟩ := repsK_ok h.2
      exact ⟨v :: vs, .cons z1 z3, fun m L H => by simp only [Reps]; exact ⟨v, vs, rfl, z2 m L H, z4 m L H⟩⟩
    · cases h
end
theorem cstK_ok {K : PySem.W.Frag} {gc : List (Str × D)} {h : Heap} {mg : Str → Option Value} (X : K.In h) (G : h.Ns mainGlobals mg) (hc : cstK K gc = true) (x : Str) (d : D) (e : (gc.any fun p => decide (p.1 = x) && dB p.2 d) = true) :
    ∃ u v, mg x = some u ∧ RelV v u ∧ ∀ m L H, Rep K m L H d v := by
  rw [List.any_eq_true] at e
  obtain ⟨p, hp, he⟩ := e
  simp only [Bool.and_eq_true, decide_eq_true_eq] at he
  obtain ⟨rfl, e2⟩ := he
  have := dB_eq e2
  subst this
  have q := List.all_eq_true.mp hc p hp
  split at q
  · rename_i u hu
    obtain ⟨v, z1, z2⟩ := repK_ok q
    exact ⟨u, v, PySem.W.mg_of X G hu, z1, z2⟩
  · cases q
end Mi

set_option Elab.async false
set_option linter.all false
set_option maxRecDepth 100000
set_option maxHeartbeats 4000000
/-! MiX4: what the head told of exceptions. -/
namespace Mi
open PySem PySem.W PySem.Calls PyProof.Rows PySem.HandSPX
theorem mkB_ok {P : Program} {K : Frag} {h : Heap} {mg : Str → Option Value} (X : K.In h) (G : h.Ns mainGlobals mg) {p : Str × Str} (e : mkB P K p = true) : MkOk P K mg p.1 p.2 := by
  unfold mkB at e
  split at e
  · rename_i C hc
    simp only [Bool.and_eq_true] at e
    refine ⟨C, hc, mg_of X G hc, exfB_ok e.1, ?_⟩
    have e2 := e.2
    split at e2
    · rename_i h0
      simp only [Bool.and_eq_true, decide_eq_true_eq] at e2
      exact .inl ⟨h0, e2.1.1.1, e2.1.1.2, e2.1.2, e2.2⟩
    · exact .inr (givenB_ok e2)
  · cases e
theorem xiB_ok {K : Frag} {h : Heap} {mg : Str → Option Value} (X : K.In h) (G : h.Ns mainGlobals mg) {p : Str × Str × Option String × Bool} (e : xiB K p = true) : XiOk K mg p.1 p.2.1 p.2.2.2 := by
  unfold xiB at e
  split at e
  · rename_i C hc
    split at e
    · split at e
      · rename_i D hd
        simp only [Bool.and_eq_true, decide_eq_true_eq] at e
        refine ⟨.ref D, .inl ⟨mg_of X G hd, D, rfl⟩, fun C' hC' => ?_⟩
        rw [hc] at hC'
        cases hC'
        exact e
      · cases e
    · rename_i T hT
      simp only [Bool.and_eq_true, decide_eq_true_eq] at e
      obtain ⟨⟨⟨e1, e2⟩, e3⟩, e4⟩ := e
      refine ⟨.type T, .inr ⟨mg_none_of X G e1, e2, T, rfl⟩, fun C' hC' => ?_⟩
      rw [hc] at hC'
      cases hC'
      exact ⟨e3, e4⟩
  · cases e
theorem excK_xi {P : Program} {K : Frag} {h : Heap} {mg : Str → Option Value} {mk : List (Str × Str)} {xi : List (Str × Str × Option String × Bool)} (X : K.In h) (G : h.Ns mainGlobals mg) (e : excK P K mk xi = true) (c x : Str) (b : Bool) (hm : xmOf xi c x = some b) : XiOk K mg c x b := by
  unfold excK at e
  simp only [Bool.and_eq_true, List.all_eq_true] at e
  unfold xmOf at hm
  simp only [Option.map_eq_some_iff] at hm
  obtain ⟨p, hp, rfl⟩ := hm
  have h1 := List.find?_some hp
  simp only [Bool.and_eq_true, decide_eq_true_eq] at h1
  obtain ⟨rfl, rfl⟩ := h1
  exact xiB_ok X G (e.2 p (List.mem_of_find?_eq_some hp))
theorem excK_mk {P : Program} {K : Frag} {h : Heap} {mg : Str → Option Value} {mk : List (Str × Str)} {xi : List (Str × Str × Option String × Bool)} (X : K.In h) (G : h.Ns mainGlobals mg) (e : excK P K mk xi = true) (c f : Str) (hm : xcOf mk c f = true) : MkOk P K mg c f := by
  unfold excK at e
  simp only [Bool.and_eq_true, List.all_eq_true] at e
  unfold xcOf at hm
  obtain ⟨p, hp, h1⟩ := List.any_eq_true.mp hm
  simp only [Bool.and_eq_true, decide_eq_true_eq] at h1
  obtain ⟨rfl, rfl⟩ := h1
  exact mkB_ok X G (e.1 p hp)
end Mi

set_option Elab.async false
set_option linter.all false
set_option maxRecDepth 100000
set_option maxHeartbeats 4000000
namespace K03
open PySem PySem.Spec PyProof.Rows L2 Mi
def i_over_common : Mi.Def := ⟨"over_common", 1, ["fractions", "common", "_", "below", "above"],
    (.cons (.asg 1 (.cst (.int 1)))
    (.cons (.forr (.tp [2, 3]) (.seq (.var 0)) (.cons (.asg 1 (.bi .lcm (.cons (.var 1) (.cons (.var 3) .nil))))
    .nil))
    (.cons (.ret (.tup (.cons (.comp (.bin .mul (.var 4) (.bin .fdiv (.var 1) (.var 3))) (.tp [4, 3]) (.seq (.var 0)) .none [("above", 4), ("below", 3)]) (.cons (.var 1) .nil))))
    .nil)))⟩
def i_as_fractions : Mi.Def := ⟨"as_fractions", 1, ["numbers", "number"],
    (.cons (.ret (.gen .tuple (.tup (.cons (.var 1) (.cons (.cst (.int 1)) .nil))) (.nm 1) (.seq (.var 0)) .none [("number", 1)]))
    .nil)⟩
def i_without_common : Mi.Def := ⟨"without_common", 1, ["numbers", "common", "number"],
    (.cons (.asg 1 (.cst (.int 0)))
    (.cons (.forr (.nm 2) (.seq (.var 0)) (.cons (.asg 1 (.bi .gcd (.cons (.var 1) (.cons (.var 2) .nil))))
    .nil))
    (.cons (.ite (.cmp .lt (.var 1) (.cst (.int 2))) (.cons (.ret (.bi .list (.cons (.var 0) .nil)))
    .nil) .nil)
    (.cons (.ret (.comp (.bin .fdiv (.var 2) (.var 1)) (.nm 2) (.seq (.var 0)) .none [("number", 2)]))
    .nil))))⟩
def i_forward : Mi.Def := ⟨"forward", 1, ["numbers", "reduced", "number", "part"],
    (.cons (.asg 1 (.call 2 (.cons (.var 0) .nil)))
    (.cons (.forr (.nm 2) (.seq (.var 1)) (.cons (.ite (.cmp .ne (.var 2) (.cst (.int 0))) (.cons (.ret (.ife (.cmp .gt (.var 2) (.cst (.int 0))) (.var 1) (.comp (.neg (.var 3)) (.nm 3) (.seq (.var 1)) .none [("part", 3)])))
    .nil) .nil)
    .nil))
    (.cons (.ret (.var 1))
    .nil)))⟩
def i_is_nought : Mi.Def := ⟨"is_nought", 1, ["numbers", "number"],
    (.cons (.ret (.gen .all (.cmp .eq (.idx (.var 1) (.cst (.int 0))) (.cst (.int 0))) (.nm 1) (.seq (.var 0)) .none [("number", 1)]))
    .nil)⟩
def i_is_whole : Mi.Def := ⟨"is_whole", 1, ["value"],
    (.cons (.ret (.andv (.isi (.var 0) .int) (.one (.notv (.isi (.var 0) .bool)))))
    .nil)⟩
def i_is_fraction : Mi.Def := ⟨"is_fraction", 1, ["value", "above", "below"],
    (.cons (.ite (.or (.not (.val (.isi (.var 0) .tuple))) (.one (.cmp .ne (.bi .len (.cons (.var 0) .nil)) (.cst (.int 2))))) (.cons (.ret (.cst (.bl false)))
    .nil) .nil)
    (.cons (.asgT [.nm 1, .nm 2] (.var 0))
    (.cons (.ret (.andv (.call 5 (.cons (.var 1) .nil)) (.andv (.call 5 (.cons (.var 2) .nil)) (.andv (.cmp .gt (.var 2) (.cst (.int 0))) (.one (.cmp .eq (.bi .gcd (.cons (.var 1) (.cons (.var 2) .nil))) (.cst (.int 1))))))))
    .nil)))⟩
def i_is_triple : Mi.Def := ⟨"is_triple", 1, ["value", "part"],
    (.cons (.ret (.andv (.isi (.var 0) .tuple) (.andv (.cmp .eq (.bi .len (.cons (.var 0) .nil)) (.cst (.int 3))) (.one (.gen .all (.call 6 (.cons (.var 1) .nil)) (.nm 1) (.seq (.var 0)) .none [("part", 1)])))))
    .nil)⟩
def i_is_direction : Mi.Def := ⟨"is_direction", 1, ["value"],
    (.cons (.ret (.andv (.call 7 (.cons (.var 0) .nil)) (.one (.notv (.call 4 (.cons (.var 0) .nil))))))
    .nil)⟩
def i_check_direction : Mi.Def := ⟨"check_direction", 1, ["direction"],
    (.cons (.ite (.not (.val (.call 8 (.cons (.var 0) .nil)))) (.cons .rse
    .nil) .nil)
    .nil)⟩
def i_plain_direction : Mi.Def := ⟨"plain_direction", 1, ["direction", "numbers", "_"],
    (.cons (.expr (.call 9 (.cons (.var 0) .nil)))
    (.cons (.asgT [.nm 1, .nm 2] (.call 0 (.cons (.var 0) .nil)))
    (.cons (.ret (.call 1 (.cons (.call 3 (.cons (.var 1) .nil)) .nil)))
    .nil)))⟩
def i__law_well : Mi.Def := ⟨"_law_well", 2, ["_law_script", "_law_turn", "_law_own", "_law_stirred", "_law_cell"],
    (.cons (.asg 2 (.ife (.cmp .lt (.var 1) (.bi .len (.cons (.var 0) .nil))) (.bi .int (.cons (.idx (.var 0) (.var 1)) .nil)) (.bin .add (.bin .add (.bin .mul (.cst (.int 5153)) (.var 1)) (.cst (.int 70))) (.bin .mod (.bi .int (.cons (.bi .sum (.cons (.slc (.var 0) .none (.some (.cst (.int 3)))) .nil)) .nil)) (.cst (.int 999983))))))
    (.cons (.asg 3 (.bin .add (.cst (.int 24040)) (.bin .mul (.cst (.int 3023)) (.var 1))))
    (.cons (.forr (.nm 4) (.seq (.bin .add (.slc (.var 0) .none (.some (.cst (.int 9)))) (.lst (.cons (.var 2) .nil)))) (.cons (.asg 3 (.bin .mod (.bi .int (.cons (.bin .add (.bin .add (.bin .mul (.var 3) (.cst (.int 44497))) (.bin .mod (.bi .int (.cons (.var 4) .nil)) (.cst (.int 2147483549)))) (.cst (.int 13))) .nil)) (.cst (.int 2147483563))))
    .nil))
    (.cons (.ret (.ncl (.cons (.ife (.or (.cmp .lt (.var 2) (.cst (.int 0))) (.one (.cmp .ge (.var 2) (.bin .pow (.cst (.int 10)) (.cst (.int 18)))))) (.bi .abs (.cons (.var 2) .nil)) (.cst (.int 0))) (.cons (.var 3) (.cons (.cst (.int 0)) .nil)))))
    .nil))))⟩
def i__law_draw : Mi.Def := ⟨"_law_draw", 2, ["_law_well_here", "_law_many", "_law_digit", "_law_step"],
    (.cons (.ite (.cmp .gt (.idx (.var 0) (.cst (.int 0))) (.cst (.int 0))) (.cons (.asgT [.sub (.var 0) (.cst (.int 0)), .nm 2] (.bi .divmod (.cons (.idx (.var 0) (.cst (.int 0))) (.cons (.var 1) .nil))))
    (.cons (.ret (.var 2))
    .nil)) .nil)
    (.cons (.asgS (.var 0) (.cst (.int 2)) (.bin .add (.idx (.var 0) (.cst (.int 2))) (.cst (.int 1))))
    (.cons (.asg 3 (.bin .mod (.bi .int (.cons (.bin .add (.bin .add (.bin .mul (.idx (.var 0) (.cst (.int 1))) (.cst (.int 45007))) (.bin .mul (.idx (.var 0) (.cst (.int 2))) (.cst (.int 70001)))) (.cst (.int 5))) .nil)) (.cst (.int 2147483563))))
    (.cons (.asgS (.var 0) (.cst (.int 1)) (.bin .mod (.bi .int (.cons (.bin .add (.bin .mul (.var 3) (.bin .add (.bin .mul (.cst (.int 2)) (.bin .fdiv (.var 3) (.cst (.int 17)))) (.cst (.int 30011)))) (.idx (.var 0) (.cst (.int 2)))) .nil)) (.cst (.int 2147483563))))
    (.cons (.ret (.bin .mod (.bi .int (.cons (.bin .fdiv (.idx (.var 0) (.cst (.int 1))) (.cst (.int 211))) .nil)) (.var 1)))
    .nil)))))⟩
def i__law_pick : Mi.Def := ⟨"_law_pick", 2, ["_law_well_here", "_law_some_here"],
    (.cons (.ret (.idx (.var 1) (.call 12 (.cons (.var 0) (.cons (.bi .len (.cons (.var 1) .nil)) .nil)))))
    .nil)⟩
def i__law_low : Mi.Def := ⟨"_law_low", 1, ["_law_well_here", "_law_size"],
    (.cons (.asg 1 (.call 13 (.cons (.var 0) (.cons (.tup (.cons (.cst (.int 3)) (.cons (.cst (.int 3)) (.cons (.cst (.int 3)) (.cons (.cst (.int 2)) (.cons (.cst (.int 1)) (.cons (.cst (.int 6)) (.cons (.cst (.int 20)) (.cons (.cst (.int 99)) .nil))))))))) .nil))))
    (.cons (.ret (.bin .sub (.call 12 (.cons (.var 0) (.cons (.bin .add (.bin .mul (.cst (.int 2)) (.var 1)) (.cst (.int 1))) .nil))) (.var 1)))
    .nil))⟩
def i__law_far : Mi.Def := ⟨"_law_far", 1, ["_law_well_here", "_law_found", "_law_step"],
    (.cons (.asg 1 (.call 14 (.cons (.var 0) .nil)))
    (.cons (.forr (.nm 2) (.rng (.call 13 (.cons (.var 0) (.cons (.tup (.cons (.cst (.int 0)) (.cons (.cst (.int 0)) (.cons (.cst (.int 1)) (.cons (.cst (.int 3)) .nil))))) .nil)))) (.cons (.asg 1 (.bin .add (.bin .mul (.var 1) (.cst (.int 1000003))) (.call 12 (.cons (.var 0) (.cons (.cst (.int 1000003)) .nil)))))
    .nil))
    (.cons (.ret (.var 1))
    .nil)))⟩
def i__law_ratio : Mi.Def := ⟨"_law_ratio", 2, ["_law_top", "_law_under", "_law_one", "_law_two"],
    (.cons (.asgP [2, 3] (.cons (.bi .abs (.cons (.var 0) .nil)) (.cons (.bi .abs (.cons (.var 1) .nil)) .nil)))
    (.cons (.whl (.cmp .ne (.var 3) (.cst (.int 0))) (.cons (.asgP [2, 3] (.cons (.var 3) (.cons (.bin .mod (.bi .int (.cons (.var 2) .nil)) (.var 3)) .nil)))
    .nil))
    (.cons (.asg 2 (.ife (.cmp .gt (.var 1) (.cst (.int 0))) (.var 2) (.bin .sub (.cst (.int 0)) (.var 2))))
    (.cons (.ret (.tup (.cons (.bin .fdiv (.var 0) (.var 2)) (.cons (.bin .fdiv (.var 1) (.var 2)) .nil))))
    .nil))))⟩
def i__law_less : Mi.Def := ⟨"_law_less", 2, ["_law_one", "_law_two"],
    (.cons (.ret (.call 16 (.cons (.bin .sub (.bin .mul (.idx (.var 0) (.cst (.int 0))) (.idx (.var 1) (.cst (.int 1)))) (.bin .mul (.idx (.var 1) (.cst (.int 0))) (.idx (.var 0) (.cst (.int 1))))) (.cons (.bin .mul (.idx (.var 0) (.cst (.int 1))) (.idx (.var 1) (.cst (.int 1)))) .nil))))
    .nil)⟩
def i__law_by : Mi.Def := ⟨"_law_by", 2, ["_law_one", "_law_two"],
    (.cons (.ret (.call 16 (.cons (.bin .mul (.idx (.var 0) (.cst (.int 0))) (.idx (.var 1) (.cst (.int 0)))) (.cons (.bin .mul (.idx (.var 0) (.cst (.int 1))) (.idx (.var 1) (.cst (.int 1)))) .nil))))
    .nil)⟩
def i__law_times : Mi.Def := ⟨"_law_times", 2, ["_law_row_here", "_law_by_here", "_law_each"],
    (.cons (.ret (.bi .tuple (.cons (.comp (.call 18 (.cons (.var 2) (.cons (.var 1) .nil))) (.nm 2) (.seq (.var 0)) .none [("_law_each", 2)]) .nil)))
    .nil)⟩
def i__law_cross : Mi.Def := ⟨"_law_cross", 2, ["_law_one", "_law_two", "_law_found", "_law_k", "_law_here", "_law_there"],
    (.cons (.asg 2 (.ncl .nil))
    (.cons (.forr (.nm 3) (.rng (.cst (.int 3))) (.cons (.asgP [4, 5] (.cons (.bin .mod (.bi .int (.cons (.bin .add (.var 3) (.cst (.int 1))) .nil)) (.cst (.int 3))) (.cons (.bin .mod (.bi .int (.cons (.bin .add (.var 3) (.cst (.int 2))) .nil)) (.cst (.int 3))) .nil)))
    (.cons (.app 2 (.call 17 (.cons (.call 18 (.cons (.idx (.var 0) (.var 4)) (.cons (.idx (.var 1) (.var 5)) .nil))) (.cons (.call 18 (.cons (.idx (.var 0) (.var 5)) (.cons (.idx (.var 1) (.var 4)) .nil))) .nil))))
    .nil)))
    (.cons (.ret (.bi .tuple (.cons (.var 2) .nil)))
    .nil)))⟩
def i__law_nought : Mi.Def := ⟨"_law_nought", 0, [],
    (.cons (.ret (.tup (.cons (.tup (.cons (.cst (.int 0)) (.cons (.cst (.int 1)) .nil))) (.cons (.tup (.cons (.cst (.int 0)) (.cons (.cst (.int 1)) .nil))) (.cons (.tup (.cons (.cst (.int 0)) (.cons (.cst (.int 1)) .nil))) .nil)))))
    .nil)⟩
def i__law_part : Mi.Def := ⟨"_law_part", 1, ["_law_well_here"],
    (.cons (.ret (.call 16 (.cons (.call 14 (.cons (.var 0) .nil)) (.cons (.call 13 (.cons (.var 0) (.cons (.tup (.cons (.cst (.int 1)) (.cons (.cst (.int 1)) (.cons (.cst (.int 1)) (.cons (.cst (.int 1)) (.cons (.cst (.int 2)) (.cons (.cst (.int 3)) (.cons (.cst (.int 4)) (.cons (.cst (.int 7)) .nil))))))))) .nil))) .nil))))
    .nil)⟩
def i__law_row : Mi.Def := ⟨"_law_row", 1, ["_law_well_here", "_law_found", "_law_way", "_law_k"],
    (.cons (.asg 1 (.tup (.cons (.call 22 (.cons (.var 0) .nil)) (.cons (.call 22 (.cons (.var 0) .nil)) (.cons (.call 22 (.cons (.var 0) .nil)) .nil)))))
    (.cons (.asg 2 (.call 12 (.cons (.var 0) (.cons (.cst (.int 12)) .nil))))
    (.cons (.ite (.cmp .lt (.var 2) (.cst (.int 4))) (.cons (.ret (.bi .tuple (.cons (.comp (.ife (.cmp .eq (.var 3) (.var 2)) (.idx (.var 1) (.var 3)) (.tup (.cons (.cst (.int 0)) (.cons (.cst (.int 1)) .nil)))) (.nm 3) (.rng (.cst (.int 3))) .none [("_law_k", 3)]) .nil)))
    .nil) .nil)
    (.cons (.ite (.cmp .lt (.var 2) (.cst (.int 7))) (.cons (.ret (.bi .tuple (.cons (.comp (.ife (.cmp .ne (.var 3) (.bin .sub (.var 2) (.cst (.int 4)))) (.idx (.var 1) (.var 3)) (.tup (.cons (.cst (.int 0)) (.cons (.cst (.int 1)) .nil)))) (.nm 3) (.rng (.cst (.int 3))) .none [("_law_k", 3)]) .nil)))
    .nil) .nil)
    (.cons (.ret (.var 1))
    .nil)))))⟩
def i__law_wide : Mi.Def := ⟨"_law_wide", 1, ["_law_well_here", "_law_k"],
    (.cons (.ite (.cmp .gt (.call 12 (.cons (.var 0) (.cons (.cst (.int 4)) .nil))) (.cst (.int 0))) (.cons (.ret (.call 23 (.cons (.var 0) .nil)))
    .nil) .nil)
    (.cons (.ret (.bi .tuple (.cons (.comp (.call 16 (.cons (.call 15 (.cons (.var 0) .nil)) (.cons (.bin .add (.cst (.int 1)) (.bi .abs (.cons (.call 15 (.cons (.var 0) .nil)) .nil))) .nil))) (.nm 1) (.rng (.cst (.int 3))) .none [("_law_k", 1)]) .nil)))
    .nil))⟩
def i__law_some : Mi.Def := ⟨"_law_some", 1, ["_law_well_here", "_law_found"],
    (.cons (.asg 1 (.call 22 (.cons (.var 0) .nil)))
    (.cons (.ret (.ife (.cmp .ne (.var 1) (.tup (.cons (.cst (.int 0)) (.cons (.cst (.int 1)) .nil)))) (.var 1) (.tup (.cons (.neg (.cst (.int 2))) (.cons (.cst (.int 3)) .nil)))))
    .nil))⟩
def i__law_heading : Mi.Def := ⟨"_law_heading", 1, ["_law_well_here", "_law_found"],
    (.cons (.asg 1 (.call 23 (.cons (.var 0) .nil)))
    (.cons (.ite (.cmp .ne (.var 1) (.call 21 .nil)) (.cons (.ret (.var 1))
    .nil) .nil)
    (.cons (.ret (.call 13 (.cons (.var 0) (.cons (.tup (.cons (.tup (.cons (.tup (.cons (.cst (.int 1)) (.cons (.cst (.int 1)) .nil))) (.cons (.tup (.cons (.cst (.int 0)) (.cons (.cst (.int 1)) .nil))) (.cons (.tup (.cons (.cst (.int 0)) (.cons (.cst (.int 1)) .nil))) .nil)))) (.cons (.tup (.cons (.tup (.cons (.cst (.int 0)) (.cons (.cst (.int 1)) .nil))) (.cons (.tup (.cons (.neg (.cst (.int 1))) (.cons (.cst (.int 1)) .nil))) (.cons (.tup (.cons (.cst (.int 0)) (.cons (.cst (.int 1)) .nil))) .nil)))) (.cons (.tup (.cons (.tup (.cons (.cst (.int 1)) (.cons (.cst (.int 2)) .nil))) (.cons (.tup (.cons (.cst (.int 1)) (.cons (.cst (.int 1)) .nil))) (.cons (.tup (.cons (.neg (.cst (.int 1))) (.cons (.cst (.int 3)) .nil))) .nil)))) .nil)))) .nil))))
    .nil)))⟩
def i__law_lean : Mi.Def := ⟨"_law_lean", 1, ["_law_numbers", "_law_by_here", "_law_each", "_law_one", "_law_two", "_law_first"],
    (.cons (.asg 1 (.cst (.int 0)))
    (.cons (.forr (.nm 2) (.seq (.var 0)) (.cons (.asgP [3, 4] (.cons (.var 1) (.cons (.bi .abs (.cons (.var 2) .nil)) .nil)))
    (.cons (.whl (.cmp .ne (.var 4) (.cst (.int 0))) (.cons (.asgP [3, 4] (.cons (.var 4) (.cons (.bin .mod (.bi .int (.cons (.var 3) .nil)) (.var 4)) .nil)))
    .nil))
    (.cons (.asg 1 (.var 3))
    .nil))))
    (.cons (.asg 5 (.idx (.comp (.var 2) (.nm 2) (.seq (.var 0)) (.some (.cmp .ne (.var 2) (.cst (.int 0)))) [("_law_each", 2)]) (.cst (.int 0))))
    (.cons (.ret (.bi .tuple (.cons (.comp (.bin .fdiv (.var 2) (.ife (.cmp .gt (.var 5) (.cst (.int 0))) (.var 1) (.bin .sub (.cst (.int 0)) (.var 1)))) (.nm 2) (.seq (.var 0)) .none [("_law_each", 2)]) .nil)))
    .nil))))⟩
def i__law_is_whole : Mi.Def := ⟨"_law_is_whole", 1, ["_law_value"],
    (.cons (.ret (.andv (.isi (.var 0) .int) (.one (.notv (.isi (.var 0) .bool)))))
    .nil)⟩
def i__law_is_ratio : Mi.Def := ⟨"_law_is_ratio", 1, ["_law_value", "_law_each"],
    (.cons (.ite (.or (.not (.val (.isi (.var 0) .tuple))) (.or (.cmp .ne (.bi .len (.cons (.var 0) .nil)) (.cst (.int 2))) (.one (.cmp .inn (.cst (.bl false)) (.comp (.call 28 (.cons (.var 1) .nil)) (.nm 1) (.seq (.var 0)) .none [("_law_each", 1)]))))) (.cons (.ret (.cst (.bl false)))
    .nil) .nil)
    (.cons (.ret (.andv (.cmp .gt (.idx (.var 0) (.cst (.int 1))) (.cst (.int 0))) (.one (.cmp .eq (.call 16 (.cons (.idx (.var 0) (.cst (.int 0))) (.cons (.idx (.var 0) (.cst (.int 1))) .nil))) (.var 0)))))
    .nil))⟩
def i__law_are_ratios : Mi.Def := ⟨"_law_are_ratios", 2, ["_law_value", "_law_many", "_law_each"],
    (.cons (.ret (.andv (.isi (.var 0) .tuple) (.andv (.cmp .eq (.bi .len (.cons (.var 0) .nil)) (.var 1)) (.one (.cmp .nin (.cst (.bl false)) (.comp (.call 29 (.cons (.var 2) .nil)) (.nm 2) (.seq (.var 0)) .none [("_law_each", 2)]))))))
    .nil)⟩
def i__law_is_heading : Mi.Def := ⟨"_law_is_heading", 1, ["_law_value"],
    (.cons (.ret (.andv (.call 30 (.cons (.var 0) (.cons (.cst (.int 3)) .nil))) (.one (.cmp .ne (.var 0) (.call 21 .nil)))))
    .nil)⟩
def i__law_is_plain : Mi.Def := ⟨"_law_is_plain", 1, ["_law_value", "_law_numbers", "_law_each"],
    (.cons (.ite (.or (.not (.val (.call 31 (.cons (.var 0) .nil)))) (.one (.cmp .ne (.comp (.var 2) (.nm 2) (.seq (.var 0)) (.some (.cmp .ne (.idx (.var 2) (.cst (.int 1))) (.cst (.int 1)))) [("_law_each", 2)]) (.lst .nil)))) (.cons (.ret (.cst (.bl false)))
    .nil) .nil)
    (.cons (.asg 1 (.bi .tuple (.cons (.comp (.idx (.var 2) (.cst (.int 0))) (.nm 2) (.seq (.var 0)) .none [("_law_each", 2)]) .nil)))
    (.cons (.ret (.cmp .eq (.call 27 (.cons (.var 1) .nil)) (.var 1)))
    .nil)))⟩
def i__law_right : Mi.Def := ⟨"_law_right", 1, ["_law_well_here", "_law_one", "_law_two", "_law_by_here", "_law_told", "_law_is_along"],
    (.cons (.asg 1 (.call 24 (.cons (.var 0) .nil)))
    (.cons (.asg 1 (.ife (.cmp .ne (.var 1) (.call 21 .nil)) (.var 1) (.call 26 (.cons (.var 0) .nil))))
    (.cons (.asgP [2, 3] (.cons (.call 26 (.cons (.var 0) .nil)) (.cons (.call 25 (.cons (.var 0) .nil)) .nil)))
    (.cons (.asg 2 (.ife (.cmp .eq (.call 12 (.cons (.var 0) (.cons (.cst (.int 3)) .nil))) (.cst (.int 0))) (.call 19 (.cons (.var 1) (.cons (.call 25 (.cons (.var 0) .nil)) .nil))) (.var 2)))
    (.cons (.asg 4 (.call 10 (.cons (.var 1) .nil)))
    (.cons (.ite (.or (.not (.val (.call 32 (.cons (.var 4) .nil)))) (.one (.cmp .ne (.call 20 (.cons (.var 4) (.cons (.var 1) .nil))) (.call 21 .nil)))) (.cons (.ret (.cst (.bl false)))
    .nil) .nil)
    (.cons (.ite (.cmp .ne (.bi .repr (.cons (.lst (.cons (.callk 10 (.cons (.call 19 (.cons (.var 1) (.cons (.var 3) .nil))) .nil) ["direction"] [0]) (.cons (.call 10 (.cons (.var 4) .nil)) .nil))) .nil)) (.bi .repr (.cons (.lst (.cons (.var 4) (.cons (.var 4) .nil))) .nil))) (.cons (.ret (.cst (.bl false)))
    .nil) .nil)
    (.cons (.asg 5 (.cmp .eq (.call 20 (.cons (.var 1) (.cons (.var 2) .nil))) (.call 21 .nil)))
    (.cons (.ret (.cmp .eq (.cmp .eq (.bi .repr (.cons (.call 10 (.cons (.var 2) .nil)) .nil)) (.bi .repr (.cons (.var 4) .nil))) (.var 5)))
    .nil)))))))))⟩
def i_law : Mi.Def := ⟨"law", 1, ["_law_script", "_law_turn"],
    (.cons (.ret (.bi .all (.cons (.comp (.call 33 (.cons (.call 11 (.cons (.var 0) (.cons (.var 1) .nil))) .nil)) (.nm 1) (.rng (.bi .max (.cons (.cst (.int 3)) (.cons (.bi .min (.cons (.bi .len (.cons (.var 0) .nil)) (.cons (.cst (.int 8)) .nil))) .nil)))) .none [("_law_turn", 1)]) .nil)))
    .nil)⟩
def iT : List Mi.Def := [i_over_common, i_as_fractions, i_without_common, i_forward, i_is_nought, i_is_whole, i_is_fraction, i_is_triple, i_is_direction, i_check_direction, i_plain_direction, i__law_well, i__law_draw, i__law_pick, i__law_low, i__law_far, i__law_ratio, i__law_less, i__law_by, i__law_times, i__law_cross, i__law_nought, i__law_part, i__law_row, i__law_wide, i__law_some, i__law_heading, i__law_lean, i__law_is_whole, i__law_is_ratio, i__law_are_ratios, i__law_is_heading, i__law_is_plain, i__law_right, i_law]
def kwT : List (Nat × List PySem.Str × List Nat) := [(10, ["direction"], [0])]
def Tk : Nat → Option Mi.Def := fun f => iT[f]?
def Wk (F : Nat) (cs : List (Addr × Addr)) : Wld :=
  { hot := false, xm := Mi.xmOf xiT, xc := Mi.xcOf mkT, T := Tk, F := F, nm := fun f => (iT[f]?).map (·.name), gc := fun x d => gcT.any fun p => decide (p.1 = x) && Mi.dB p.2 d, mt := true,
    kw := fun f names => (kwT.find? fun q => decide (q.1 = f) && decide (q.2.1 = names)).map (·.2.2), cs := cs }
instance nhk (F : Nat) (cs : List (Addr × Addr)) : NotHot (Wk F cs) := ⟨rfl⟩
theorem top_none (f : Nat) : Tk (f + Mi.XB) = none := by
  show iT[f + Mi.XB]? = none
  rw [List.getElem?_eq_none_iff]
  exact Nat.le_trans (show iT.length ≤ Mi.XB by decide) (Nat.le_add_left _ _)
theorem ok_over_common (F : Nat) (cs : List (Addr × Addr)) : okB (Wk F cs) i_over_common.names false d_over_common.scope i_over_common.body d_over_common.body = true := by kernel_rfl
theorem ok_as_fractions (F : Nat) (cs : List (Addr × Addr)) : okB (Wk F cs) i_as_fractions.names true d_as_fractions.scope i_as_fractions.body d_as_fractions.body = true := by kernel_rfl
theorem ok_without_common (F : Nat) (cs : List (Addr × Addr)) : okB (Wk F cs) i_without_common.names false d_without_common.scope i_without_common.body d_without_common.body = true := by kernel_rfl
theorem ok_forward (F : Nat) (cs : List (Addr × Addr)) : okB (Wk F cs) i_forward.names false d_forward.scope i_forward.body d_forward.body = true := by kernel_rfl
theorem ok_is_nought (F : Nat) (cs : List (Addr × Addr)) : okB (Wk F cs) i_is_nought.names true d_is_nought.scope i_is_nought.body d_is_nought.body = true := by kernel_rfl
theorem ok_is_whole (F : Nat) (cs : List (Addr × Addr)) : okB (Wk F cs) i_is_whole.names false d_is_whole.scope i_is_whole.body d_is_whole.body = true := by kernel_rfl
theorem ok_is_fraction (F : Nat) (cs : List (Addr × Addr)) : okB (Wk F cs) i_is_fraction.names false d_is_fraction.scope i_is_fraction.body d_is_fraction.body = true := by kernel_rfl
theorem ok_is_triple (F : Nat) (cs : List (Addr × Addr)) : okB (Wk F cs) i_is_triple.names true d_is_triple.scope i_is_triple.body d_is_triple.body = true := by kernel_rfl
theorem ok_is_direction (F : Nat) (cs : List (Addr × Addr)) : okB (Wk F cs) i_is_direction.names false d_is_direction.scope i_is_direction.body d_is_direction.body = true := by kernel_rfl
theorem ok_check_direction (F : Nat) (cs : List (Addr × Addr)) : okB (Wk F cs) i_check_direction.names false d_check_direction.scope i_check_direction.body d_check_direction.body = true := by kernel_rfl
theorem ok_plain_direction (F : Nat) (cs : List (Addr × Addr)) : okB (Wk F cs) i_plain_direction.names false d_plain_direction.scope i_plain_direction.body d_plain_direction.body = true := by kernel_rfl
theorem ok__law_well (F : Nat) (cs : List (Addr × Addr)) : okB (Wk F cs) i__law_well.names false d__law_well.scope i__law_well.body d__law_well.body = true := by kernel_rfl
theorem ok__law_draw (F : Nat) (cs : List (Addr × Addr)) : okB (Wk F cs) i__law_draw.names false d__law_draw.scope i__law_draw.body d__law_draw.body = true := by kernel_rfl
theorem ok__law_pick (F : Nat) (cs : List (Addr × Addr)) : okB (Wk F cs) i__law_pick.names false d__law_pick.scope i__law_pick.body d__law_pick.body = true := by kernel_rfl
theorem ok__law_low (F : Nat) (cs : List (Addr × Addr)) : okB (Wk F cs) i__law_low.names false d__law_low.scope i__law_low.body d__law_low.body = true := by kernel_rfl
theorem ok__law_far (F : Nat) (cs : List (Addr × Addr)) : okB (Wk F cs) i__law_far.names false d__law_far.scope i__law_far.body d__law_far.body = true := by kernel_rfl
theorem ok__law_ratio (F : Nat) (cs : List (Addr × Addr)) : okB (Wk F cs) i__law_ratio.names false d__law_ratio.scope i__law_ratio.body d__law_ratio.body = true := by kernel_rfl
theorem ok__law_less (F : Nat) (cs : List (Addr × Addr)) : okB (Wk F cs) i__law_less.names false d__law_less.scope i__law_less.body d__law_less.body = true := by kernel_rfl
theorem ok__law_by (F : Nat) (cs : List (Addr × Addr)) : okB (Wk F cs) i__law_by.names false d__law_by.scope i__law_by.body d__law_by.body = true := by kernel_rfl
theorem ok__law_times (F : Nat) (cs : List (Addr × Addr)) : okB (Wk F cs) i__law_times.names false d__law_times.scope i__law_times.body d__law_times.body = true := by kernel_rfl
theorem ok__law_cross (F : Nat) (cs : List (Addr × Addr)) : okB (Wk F cs) i__law_cross.names false d__law_cross.scope i__law_cross.body d__law_cross.body = true := by kernel_rfl
theorem ok__law_nought (F : Nat) (cs : List (Addr × Addr)) : okB (Wk F cs) i__law_nought.names false d__law_nought.scope i__law_nought.body d__law_nought.body = true := by kernel_rfl
theorem ok__law_part (F : Nat) (cs : List (Addr × Addr)) : okB (Wk F cs) i__law_part.names false d__law_part.scope i__law_part.body d__law_part.body = true := by kernel_rfl
theorem ok__law_row (F : Nat) (cs : List (Addr × Addr)) : okB (Wk F cs) i__law_row.names false d__law_row.scope i__law_row.body d__law_row.body = true := by kernel_rfl
theorem ok__law_wide (F : Nat) (cs : List (Addr × Addr)) : okB (Wk F cs) i__law_wide.names false d__law_wide.scope i__law_wide.body d__law_wide.body = true := by kernel_rfl
theorem ok__law_some (F : Nat) (cs : List (Addr × Addr)) : okB (Wk F cs) i__law_some.names false d__law_some.scope i__law_some.body d__law_some.body = true := by kernel_rfl
theorem ok__law_heading (F : Nat) (cs : List (Addr × Addr)) : okB (Wk F cs) i__law_heading.names false d__law_heading.scope i__law_heading.body d__law_heading.body = true := by kernel_rfl
theorem ok__law_lean (F : Nat) (cs : List (Addr × Addr)) : okB (Wk F cs) i__law_lean.names false d__law_lean.scope i__law_lean.body d__law_lean.body = true := by kernel_rfl
theorem ok__law_is_whole (F : Nat) (cs : List (Addr × Addr)) : okB (Wk F cs) i__law_is_whole.names false d__law_is_whole.scope i__law_is_whole.body d__law_is_whole.body = true := by kernel_rfl
theorem ok__law_is_ratio (F : Nat) (cs : List (Addr × Addr)) : okB (Wk F cs) i__law_is_ratio.names false d__law_is_ratio.scope i__law_is_ratio.body d__law_is_ratio.body = true := by kernel_rfl
theorem ok__law_are_ratios (F : Nat) (cs : List (Addr × Addr)) : okB (Wk F cs) i__law_are_ratios.names false d__law_are_ratios.scope i__law_are_ratios.body d__law_are_ratios.body = true := by kernel_rfl
theorem ok__law_is_heading (F : Nat) (cs : List (Addr × Addr)) : okB (Wk F cs) i__law_is_heading.names false d__law_is_heading.scope i__law_is_heading.body d__law_is_heading.body = true := by kernel_rfl
theorem ok__law_is_plain (F : Nat) (cs : List (Addr × Addr)) : okB (Wk F cs) i__law_is_plain.names false d__law_is_plain.scope i__law_is_plain.body d__law_is_plain.body = true := by kernel_rfl
theorem ok__law_right (F : Nat) (cs : List (Addr × Addr)) : okB (Wk F cs) i__law_right.names false d__law_right.scope i__law_right.body d__law_right.body = true := by kernel_rfl
theorem ok_law (F : Nat) (cs : List (Addr × Addr)) : okB (Wk F cs) i_law.names false d_law.scope i_law.body d_law.body = true := by kernel_rfl
theorem kw_over_common (cs : List (Addr × Addr)) {F : Nat} : ∀ names perm, (Wk F cs).kw 0 names = some perm → ∀ (kV doc pm : Value) (an : Option Addr) (cdv ct : Value) (us zs : List Value), perm.mapM (fun i => us[i]?) = some zs → us.length = names.length → zs.length = (["fractions"] : List PySem.Str).length →
      bindArgs (PySem.W.fnOf d_over_common.name d_over_common.qual d_over_common.params d_over_common.body d_over_common.scope .none kV doc pm an cdv ct) ⟨[], names.zip us⟩ = pure ((["fractions"] : List PySem.Str).zip zs) := by
  intro names perm hkw kV doc pm an cdv ct us zs h1 h2 h3
  have e : (kwT.find? fun q => decide (q.1 = 0) && decide (q.2.1 = names)) = none := by
    simp [kwT]
  unfold Wk at hkw
  simp only [e, Option.map_none] at hkw
  cases hkw
theorem kw_as_fractions (cs : List (Addr × Addr)) {F : Nat} : ∀ names perm, (Wk F cs).kw 1 names = some perm → ∀ (kV doc pm : Value) (an : Option Addr) (cdv ct : Value) (us zs : List Value), perm.mapM (fun i => us[i]?) = some zs → us.length = names.length → zs.length = (["numbers"] : List PySem.Str).length →
      bindArgs (PySem.W.fnOf d_as_fractions.name d_as_fractions.qual d_as_fractions.params d_as_fractions.body d_as_fractions.scope .none kV doc pm an cdv ct) ⟨[], names.zip us⟩ = pure ((["numbers"] : List PySem.Str).zip zs) := by
  intro names perm hkw kV doc pm an cdv ct us zs h1 h2 h3
  have e : (kwT.find? fun q => decide (q.1 = 1) && decide (q.2.1 = names)) = none := by
    simp [kwT]
  unfold Wk at hkw
  simp only [e, Option.map_none] at hkw
  cases hkw
theorem kw_without_common (cs : List (Addr × Addr)) {F : Nat} : ∀ names perm, (Wk F cs).kw 2 names = some perm → ∀ (kV doc pm : Value) (an : Option Addr) (cdv ct : Value) (us zs : List Value), perm.mapM (fun i => us[i]?) = some zs → us.length = names.length → zs.length = (["numbers"] : List PySem.Str).length →
      bindArgs (PySem.W.fnOf d_without_common.name d_without_common.qual d_without_common.params d_without_common.body d_without_common.scope .none kV doc pm an cdv ct) ⟨[], names.zip us⟩ = pure ((["numbers"] : List PySem.Str).zip zs) := by
  intro names perm hkw kV doc pm an cdv ct us zs h1 h2 h3
  have e : (kwT.find? fun q => decide (q.1 = 2) && decide (q.2.1 = names)) = none := by
    simp [kwT]
  unfold Wk at hkw
  simp only [e, Option.map_none] at hkw
  cases hkw
theorem kw_forward (cs : List (Addr × Addr)) {F : Nat} : ∀ names perm, (Wk F cs).kw 3 names = some perm → ∀ (kV doc pm : Value) (an : Option Addr) (cdv ct : Value) (us zs : List Value), perm.mapM (fun i => us[i]?) = some zs → us.length = names.length → zs.length = (["numbers"] : List PySem.Str).length →
      bindArgs (PySem.W.fnOf d_forward.name d_forward.qual d_forward.params d_forward.body d_forward.scope .none kV doc pm an cdv ct) ⟨[], names.zip us⟩ = pure ((["numbers"] : List PySem.Str).zip zs) := by
  intro names perm hkw kV doc pm an cdv ct us zs h1 h2 h3
  have e : (kwT.find? fun q => decide (q.1 = 3) && decide (q.2.1 = names)) = none := by
    simp [kwT]
  unfold Wk at hkw
  simp only [e, Option.map_none] at hkw
  cases hkw
theorem kw_is_nought (cs : List (Addr × Addr)) {F : Nat} : ∀ names perm, (Wk F cs).kw 4 names = some perm → ∀ (kV doc pm : Value) (an : Option Addr) (cdv ct : Value) (us zs : List Value), perm.mapM (fun i => us[i]?) = some zs → us.length = names.length → zs.length = (["numbers"] : List PySem.Str).length →
      bindArgs (PySem.W.fnOf d_is_nought.name d_is_nought.qual d_is_nought.params d_is_nought.body d_is_nought.scope .none kV doc pm an cdv ct) ⟨[], names.zip us⟩ = pure ((["numbers"] : List PySem.Str).zip zs) := by
  intro names perm hkw kV doc pm an cdv ct us zs h1 h2 h3
  have e : (kwT.find? fun q => decide (q.1 = 4) && decide (q.2.1 = names)) = none := by
    simp [kwT]
  unfold Wk at hkw
  simp only [e, Option.map_none] at hkw
  cases hkw
theorem kw_is_whole (cs : List (Addr × Addr)) {F : Nat} : ∀ names perm, (Wk F cs).kw 5 names = some perm → ∀ (kV doc pm : Value) (an : Option Addr) (cdv ct : Value) (us zs : List Value), perm.mapM (fun i => us[i]?) = some zs → us.length = names.length → zs.length = (["value"] : List PySem.Str).length →
      bindArgs (PySem.W.fnOf d_is_whole.name d_is_whole.qual d_is_whole.params d_is_whole.body d_is_whole.scope .none kV doc pm an cdv ct) ⟨[], names.zip us⟩ = pure ((["value"] : List PySem.Str).zip zs) := by
  intro names perm hkw kV doc pm an cdv ct us zs h1 h2 h3
  have e : (kwT.find? fun q => decide (q.1 = 5) && decide (q.2.1 = names)) = none := by
    simp [kwT]
  unfold Wk at hkw
  simp only [e, Option.map_none] at hkw
  cases hkw
theorem kw_is_fraction (cs : List (Addr × Addr)) {F : Nat} : ∀ names perm, (Wk F cs).kw 6 names = some perm → ∀ (kV doc pm : Value) (an : Option Addr) (cdv ct : Value) (us zs : List Value), perm.mapM (fun i => us[i]?) = some zs → us.length = names.length → zs.length = (["value"] : List PySem.Str).length →
      bindArgs (PySem.W.fnOf d_is_fraction.name d_is_fraction.qual d_is_fraction.params d_is_fraction.body d_is_fraction.scope .none kV doc pm an cdv ct) ⟨[], names.zip us⟩ = pure ((["value"] : List PySem.Str).zip zs) := by
  intro names perm hkw kV doc pm an cdv ct us zs h1 h2 h3
  have e : (kwT.find? fun q => decide (q.1 = 6) && decide (q.2.1 = names)) = none := by
    simp [kwT]
  unfold Wk at hkw
  simp only [e, Option.map_none] at hkw
  cases hkw
theorem kw_is_triple (cs : List (Addr × Addr)) {F : Nat} : ∀ names perm, (Wk F cs).kw 7 names = some perm → ∀ (kV doc pm : Value) (an : Option Addr) (cdv ct : Value) (us zs : List Value), perm.mapM (fun i => us[i]?) = some zs → us.length = names.length → zs.length = (["value"] : List PySem.Str).length →
      bindArgs (PySem.W.fnOf d_is_triple.name d_is_triple.qual d_is_triple.params d_is_triple.body d_is_triple.scope .none kV doc pm an cdv ct) ⟨[], names.zip us⟩ = pure ((["value"] : List PySem.Str).zip zs) := by
  intro names perm hkw kV doc pm an cdv ct us zs h1 h2 h3
  have e : (kwT.find? fun q => decide (q.1 = 7) && decide (q.2.1 = names)) = none := by
    simp [kwT]
  unfold Wk at hkw
  simp only [e, Option.map_none] at hkw
  cases hkw
theorem kw_is_direction (cs : List (Addr × Addr)) {F : Nat} : ∀ names perm, (Wk F cs).kw 8 names = some perm → ∀ (kV doc pm : Value) (an : Option Addr) (cdv ct : Value) (us zs : List Value), perm.mapM (fun i => us[i]?) = some zs → us.length = names.length → zs.length = (["value"] : List PySem.Str).length →
      bindArgs (PySem.W.fnOf d_is_direction.name d_is_direction.qual d_is_direction.params d_is_direction.body d_is_direction.scope .none kV doc pm an cdv ct) ⟨[], names.zip us⟩ = pure ((["value"] : List PySem.Str).zip zs) := by
  intro names perm hkw kV doc pm an cdv ct us zs h1 h2 h3
  have e : (kwT.find? fun q => decide (q.1 = 8) && decide (q.2.1 = names)) = none := by
    simp [kwT]
  unfold Wk at hkw
  simp only [e, Option.map_none] at hkw
  cases hkw
theorem kw_check_direction (cs : List (Addr × Addr)) {F : Nat} : ∀ names perm, (Wk F cs).kw 9 names = some perm → ∀ (kV doc pm : Value) (an : Option Addr) (cdv ct : Value) (us zs : List Value), perm.mapM (fun i => us[i]?) = some zs → us.length = names.length → zs.length = (["direction"] : List PySem.Str).length →
      bindArgs (PySem.W.fnOf d_check_direction.name d_check_direction.qual d_check_direction.params d_check_direction.body d_check_direction.scope .none kV doc pm an cdv ct) ⟨[], names.zip us⟩ = pure ((["direction"] : List PySem.Str).zip zs) := by
  intro names perm hkw kV doc pm an cdv ct us zs h1 h2 h3
  have e : (kwT.find? fun q => decide (q.1 = 9) && decide (q.2.1 = names)) = none := by
    simp [kwT]
  unfold Wk at hkw
  simp only [e, Option.map_none] at hkw
  cases hkw
theorem kw_plain_direction (cs : List (Addr × Addr)) {F : Nat} : ∀ names perm, (Wk F cs).kw 10 names = some perm → ∀ (kV doc pm : Value) (an : Option Addr) (cdv ct : Value) (us zs : List Value), perm.mapM (fun i => us[i]?) = some zs → us.length = names.length → zs.length = (["direction"] : List PySem.Str).length →
      bindArgs (PySem.W.fnOf d_plain_direction.name d_plain_direction.qual d_plain_direction.params d_plain_direction.body d_plain_direction.scope .none kV doc pm an cdv ct) ⟨[], names.zip us⟩ = pure ((["direction"] : List PySem.Str).zip zs) := by
  intro names perm hkw kV doc pm an cdv ct us zs h1 h2 h3
  by_cases hn : names = (["direction"] : List PySem.Str)
  · subst hn
    have z : (Wk F cs).kw 10 (["direction"] : List PySem.Str) = some [0] := by rfl
    rw [z] at hkw
    obtain rfl : [0] = perm := Option.some.inj hkw
    match us, h2, h1 with
    | [u0], _, h1 =>
      obtain rfl : [u0] = zs := Option.some.inj (show some [u0] = some zs from h1)
      rfl
  have e : (kwT.find? fun q => decide (q.1 = 10) && decide (q.2.1 = names)) = none := by
    simp [kwT]
    try simp_all [eq_comm]
  unfold Wk at hkw
  simp only [e, Option.map_none] at hkw
  cases hkw
theorem kw__law_well (cs : List (Addr × Addr)) {F : Nat} : ∀ names perm, (Wk F cs).kw 11 names = some perm → ∀ (kV doc pm : Value) (an : Option Addr) (cdv ct : Value) (us zs : List Value), perm.mapM (fun i => us[i]?) = some zs → us.length = names.length → zs.length = (["_law_script", "_law_turn"] : List PySem.Str).length →
      bindArgs (PySem.W.fnOf d__law_well.name d__law_well.qual d__law_well.params d__law_well.body d__law_well.scope .none kV doc pm an cdv ct) ⟨[], names.zip us⟩ = pure ((["_law_script", "_law_turn"] : List PySem.Str).zip zs) := by
  intro names perm hkw kV doc pm an cdv ct us zs h1 h2 h3
  have e : (kwT.find? fun q => decide (q.1 = 11) && decide (q.2.1 = names)) = none := by
    simp [kwT]
  unfold Wk at hkw
  simp only [e, Option.map_none] at hkw
  cases hkw
theorem kw__law_draw (cs : List (Addr × Addr)) {F : Nat} : ∀ names perm, (Wk F cs).kw 12 names = some perm → ∀ (kV doc pm : Value) (an : Option Addr) (cdv ct : Value) (us zs : List Value), perm.mapM (fun i => us[i]?) = some zs → us.length = names.length → zs.length = (["_law_well_here", "_law_many"] : List PySem.Str).length →
      bindArgs (PySem.W.fnOf d__law_draw.name d__law_draw.qual d__law_draw.params d__law_draw.body d__law_draw.scope .none kV doc pm an cdv ct) ⟨[], names.zip us⟩ = pure ((["_law_well_here", "_law_many"] : List PySem.Str).zip zs) := by
  intro names perm hkw kV doc pm an cdv ct us zs h1 h2 h3
  have e : (kwT.find? fun q => decide (q.1 = 12) && decide (q.2.1 = names)) = none := by
    simp [kwT]
  unfold Wk at hkw
  simp only [e, Option.map_none] at hkw
  cases hkw
theorem kw__law_pick (cs : List (Addr × Addr)) {F : Nat} : ∀ names perm, (Wk F cs).kw 13 names = some perm → ∀ (kV doc pm : Value) (an : Option Addr) (cdv ct : Value) (us zs : List Value), perm.mapM (fun i => us[i]?) = some zs → us.length = names.length → zs.length = (["_law_well_here", "_law_some_here"] : List PySem.Str).length →
      bindArgs (PySem.W.fnOf d__law_pick.name d__law_pick.qual d__law_pick.params d__law_pick.body d__law_pick.scope .none kV doc pm an cdv ct) ⟨[], names.zip us⟩ = pure ((["_law_well_here", "_law_some_here"] : List PySem.Str).zip zs) := by
  intro names perm hkw kV doc pm an cdv ct us zs h1 h2 h3
  have e : (kwT.find? fun q => decide (q.1 = 13) && decide (q.2.1 = names)) = none := by
    simp [kwT]
  unfold Wk at hkw
  simp only [e, Option.map_none] at hkw
  cases hkw
theorem kw__law_low (cs : List (Addr × Addr)) {F : Nat} : ∀ names perm, (Wk F cs).kw 14 names = some perm → ∀ (kV doc pm : Value) (an : Option Addr) (cdv ct : Value) (us zs : List Value), perm.mapM (fun i => us[i]?) = some zs → us.length = names.length → zs.length = (["_law_well_here"] : List PySem.Str).length →
      bindArgs (PySem.W.fnOf d__law_low.name d__law_low.qual d__law_low.params d__law_low.body d__law_low.scope .none kV doc pm an cdv ct) ⟨[], names.zip us⟩ = pure ((["_law_well_here"] : List PySem.Str).zip zs) := by
  intro names perm hkw kV doc pm an cdv ct us zs h1 h2 h3
  have e : (kwT.find? fun q => decide (q.1 = 14) && decide (q.2.1 = names)) = none := by
    simp [kwT]
  unfold Wk at hkw
  simp only [e, Option.map_none] at hkw
  cases hkw
theorem kw__law_far (cs : List (Addr × Addr)) {F : Nat} : ∀ names perm, (Wk F cs).kw 15 names = some perm → ∀ (kV doc pm : Value) (an : Option Addr) (cdv ct : Value) (us zs : List Value), perm.mapM (fun i => us[i]?) = some zs → us.length = names.length → zs.length = (["_law_well_here"] : List PySem.Str).length →
      bindArgs (PySem.W.fnOf d__law_far.name d__law_far.qual d__law_far.params d__law_far.body d__law_far.scope .none kV doc pm an cdv ct) ⟨[], names.zip us⟩ = pure ((["_law_well_here"] : List PySem.Str).zip zs) := by
  intro names perm hkw kV doc pm an cdv ct us zs h1 h2 h3
  have e : (kwT.find? fun q => decide (q.1 = 15) && decide (q.2.1 = names)) = none := by
    simp [kwT]
  unfold Wk at hkw
  simp only [e, Option.map_none] at hkw
  cases hkw
theorem kw__law_ratio (cs : List (Addr × Addr)) {F : Nat} : ∀ names perm, (Wk F cs).kw 16 names = some perm → ∀ (kV doc pm : Value) (an : Option Addr) (cdv ct : Value) (us zs : List Value), perm.mapM (fun i => us[i]?) = some zs → us.length = names.length → zs.length = (["_law_top", "_law_under"] : List PySem.Str).length →
      bindArgs (PySem.W.fnOf d__law_ratio.name d__law_ratio.qual d__law_ratio.params d__law_ratio.body d__law_ratio.scope .none kV doc pm an cdv ct) ⟨[], names.zip us⟩ = pure ((["_law_top", "_law_under"] : List PySem.Str).zip zs) := by
  intro names perm hkw kV doc pm an cdv ct us zs h1 h2 h3
  have e : (kwT.find? fun q => decide (q.1 = 16) && decide (q.2.1 = names)) = none := by
    simp [kwT]
  unfold Wk at hkw
  simp only [e, Option.map_none] at hkw
  cases hkw
theorem kw__law_less (cs : List (Addr × Addr)) {F : Nat} : ∀ names perm, (Wk F cs).kw 17 names = some perm → ∀ (kV doc pm : Value) (an : Option Addr) (cdv ct : Value) (us zs : List Value), perm.mapM (fun i => us[i]?) = some zs → us.length = names.length → zs.length = (["_law_one", "_law_two"] : List PySem.Str).length →
      bindArgs (PySem.W.fnOf d__law_less.name d__law_less.qual d__law_less.params d__law_less.body d__law_less.scope .none kV doc pm an cdv ct) ⟨[], names.zip us⟩ = pure ((["_law_one", "_law_two"] : List PySem.Str).zip zs) := by
  intro names perm hkw kV doc pm an cdv ct us zs h1 h2 h3
  have e : (kwT.find? fun q => decide (q.1 = 17) && decide (q.2.1 = names)) = none := by
    simp [kwT]
  unfold Wk at hkw
  simp only [e, Option.map_none] at hkw
  cases hkw
theorem kw__law_by (cs : List (Addr × Addr)) {F : Nat} : ∀ names perm, (Wk F cs).kw 18 names = some perm → ∀ (kV doc pm : Value) (an : Option Addr) (cdv ct : Value) (us zs : List Value), perm.mapM (fun i => us[i]?) = some zs → us.length = names.length → zs.length = (["_law_one", "_law_two"] : List PySem.Str).length →
      bindArgs (PySem.W.fnOf d__law_by.name d__law_by.qual d__law_by.params d__law_by.body d__law_by.scope .none kV doc pm an cdv ct) ⟨[], names.zip us⟩ = pure ((["_law_one", "_law_two"] : List PySem.Str).zip zs) := by
  intro names perm hkw kV doc pm an cdv ct us zs h1 h2 h3
  have e : (kwT.find? fun q => decide (q.1 = 18) && decide (q.2.1 = names)) = none := by
    simp [kwT]
  unfold Wk at hkw
  simp only [e, Option.map_none] at hkw
  cases hkw
theorem kw__law_times (cs : List (Addr × Addr)) {F : Nat} : ∀ names perm, (Wk F cs).kw 19 names = some perm → ∀ (kV doc pm : Value) (an : Option Addr) (cdv ct : Value) (us zs : List Value), perm.mapM (fun i => us[i]?) = some zs → us.length = names.length → zs.length = (["_law_row_here", "_law_by_here"] : List PySem.Str).length →
      bindArgs (PySem.W.fnOf d__law_times.name d__law_times.qual d__law_times.params d__law_times.body d__law_times.scope .none kV doc pm an cdv ct) ⟨[], names.zip us⟩ = pure ((["_law_row_here", "_law_by_here"] : List PySem.Str).zip zs) := by
  intro names perm hkw kV doc pm an cdv ct us zs h1 h2 h3
  have e : (kwT.find? fun q => decide (q.1 = 19) && decide (q.2.1 = names)) = none := by
    simp [kwT]
  unfold Wk at hkw
  simp only [e, Option.map_none] at hkw
  cases hkw
theorem kw__law_cross (cs : List (Addr × Addr)) {F : Nat} : ∀ names perm, (Wk F cs).kw 20 names = some perm → ∀ (kV doc pm : Value) (an : Option Addr) (cdv ct : Value) (us zs : List Value), perm.mapM (fun i => us[i]?) = some zs → us.length = names.length → zs.length = (["_law_one", "_law_two"] : List PySem.Str).length →
      bindArgs (PySem.W.fnOf d__law_cross.name d__law_cross.qual d__law_cross.params d__law_cross.body d__law_cross.scope .none kV doc pm an cdv ct) ⟨[], names.zip us⟩ = pure ((["_law_one", "_law_two"] : List PySem.Str).zip zs) := by
  intro names perm hkw kV doc pm an cdv ct us zs h1 h2 h3
  have e : (kwT.find? fun q => decide (q.1 = 20) && decide (q.2.1 = names)) = none := by
    simp [kwT]
  unfold Wk at hkw
  simp only [e, Option.map_none] at hkw
  cases hkw
theorem kw__law_nought (cs : List (Addr × Addr)) {F : Nat} : ∀ names perm, (Wk F cs).kw 21 names = some perm → ∀ (kV doc pm : Value) (an : Option Addr) (cdv ct : Value) (us zs : List Value), perm.mapM (fun i => us[i]?) = some zs → us.length = names.length → zs.length = ([] : List PySem.Str).length →
      bindArgs (PySem.W.fnOf d__law_nought.name d__law_nought.qual d__law_nought.params d__law_nought.body d__law_nought.scope .none kV doc pm an cdv ct) ⟨[], names.zip us⟩ = pure (([] : List PySem.Str).zip zs) := by
  intro names perm hkw kV doc pm an cdv ct us zs h1 h2 h3
  have e : (kwT.find? fun q => decide (q.1 = 21) && decide (q.2.1 = names)) = none := by
    simp [kwT]
  unfold Wk at hkw
  simp only [e, Option.map_none] at hkw
  cases hkw
theorem kw__law_part (cs : List (Addr × Addr)) {F : Nat} : ∀ names perm, (Wk F cs).kw 22 names = some perm → ∀ (kV doc pm : Value) (an : Option Addr) (cdv ct : Value) (us zs : List Value), perm.mapM (fun i => us[i]?) = some zs → us.length = names.length → zs.length = (["_law_well_here"] : List PySem.Str).length →
      bindArgs (PySem.W.fnOf d__law_part.name d__law_part.qual d__law_part.params d__law_part.body d__law_part.scope .none kV doc pm an cdv ct) ⟨[], names.zip us⟩ = pure ((["_law_well_here"] : List PySem.Str).zip zs) := by
  intro names perm hkw kV doc pm an cdv ct us zs h1 h2 h3
  have e : (kwT.find? fun q => decide (q.1 = 22) && decide (q.2.1 = names)) = none := by
    simp [kwT]
  unfold Wk at hkw
  simp only [e, Option.map_none] at hkw
  cases hkw
theorem kw__law_row (cs : List (Addr × Addr)) {F : Nat} : ∀ names perm, (Wk F cs).kw 23 names = some perm → ∀ (kV doc pm : Value) (an : Option Addr) (cdv ct : Value) (us zs : List Value), perm.mapM (fun i => us[i]?) = some zs → us.length = names.length → zs.length = (["_law_well_here"] : List PySem.Str).length →
      bindArgs (PySem.W.fnOf d__law_row.name d__law_row.qual d__law_row.params d__law_row.body d__law_row.scope .none kV doc pm an cdv ct) ⟨[], names.zip us⟩ = pure ((["_law_well_here"] : List PySem.Str).zip zs) := by
  intro names perm hkw kV doc pm an cdv ct us zs h1 h2 h3
  have e : (kwT.find? fun q => decide (q.1 = 23) && decide (q.2.1 = names)) = none := by
    simp [kwT]
  unfold Wk at hkw
  simp only [e, Option.map_none] at hkw
  cases hkw
theorem kw__law_wide (cs : List (Addr × Addr)) {F : Nat} : ∀ names perm, (Wk F cs).kw 24 names = some perm → ∀ (kV doc pm : Value) (an : Option Addr) (cdv ct : Value) (us zs : List Value), perm.mapM (fun i => us[i]?) = some zs → us.length = names.length → zs.length = (["_law_well_here"] : List PySem.Str).length →
      bindArgs (PySem.W.fnOf d__law_wide.name d__law_wide.qual d__law_wide.params d__law_wide.body d__law_wide.scope .none kV doc pm an cdv ct) ⟨[], names.zip us⟩ = pure ((["_law_well_here"] : List PySem.Str).zip zs) := by
  intro names perm hkw kV doc pm an cdv ct us zs h1 h2 h3
  have e : (kwT.find? fun q => decide (q.1 = 24) && decide (q.2.1 = names)) = none := by
    simp [kwT]
  unfold Wk at hkw
  simp only [e, Option.map_none] at hkw
  cases hkw
theorem kw__law_some (cs : List (Addr × Addr)) {F : Nat} : ∀ names perm, (Wk F cs).kw 25 names = some perm → ∀ (kV doc pm : Value) (an : Option Addr) (cdv ct : Value) (us zs : List Value), perm.mapM (fun i => us[i]?) = some zs → us.length = names.length → zs.length = (["_law_well_here"] : List PySem.Str).length →
      bindArgs (PySem.W.fnOf d__law_some.name d__law_some.qual d__law_some.params d__law_some.body d__law_some.scope .none kV doc pm an cdv ct) ⟨[], names.zip us⟩ = pure ((["_law_well_here"] : List PySem.Str).zip zs) := by
  intro names perm hkw kV doc pm an cdv ct us zs h1 h2 h3
  have e : (kwT.find? fun q => decide (q.1 = 25) && decide (q.2.1 = names)) = none := by
    simp [kwT]
  unfold Wk at hkw
  simp only [e, Option.map_none] at hkw
  cases hkw
theorem kw__law_heading (cs : List (Addr × Addr)) {F : Nat} : ∀ names perm, (Wk F cs).kw 26 names = some perm → ∀ (kV doc pm : Value) (an : Option Addr) (cdv ct : Value) (us zs : List Value), perm.mapM (fun i => us[i]?) = some zs → us.length = names.length → zs.length = (["_law_well_here"] : List PySem.Str).length →
      bindArgs (PySem.W.fnOf d__law_heading.name d__law_heading.qual d__law_heading.params d__law_heading.body d__law_heading.scope .none kV doc pm an cdv ct) ⟨[], names.zip us⟩ = pure ((["_law_well_here"] : List PySem.Str).zip zs) := by
  intro names perm hkw kV doc pm an cdv ct us zs h1 h2 h3
  have e : (kwT.find? fun q => decide (q.1 = 26) && decide (q.2.1 = names)) = none := by
    simp [kwT]
  unfold Wk at hkw
  simp only [e, Option.map_none] at hkw
  cases hkw
theorem kw__law_lean (cs : List (Addr × Addr)) {F : Nat} : ∀ names perm, (Wk F cs).kw 27 names = some perm → ∀ (kV doc pm : Value) (an : Option Addr) (cdv ct : Value) (us zs : List Value), perm.mapM (fun i => us[i]?) = some zs → us.length = names.length → zs.length = (["_law_numbers"] : List PySem.Str).length →
      bindArgs (PySem.W.fnOf d__law_lean.name d__law_lean.qual d__law_lean.params d__law_lean.body d__law_lean.scope .none kV doc pm an cdv ct) ⟨[], names.zip us⟩ = pure ((["_law_numbers"] : List PySem.Str).zip zs) := by
  intro names perm hkw kV doc pm an cdv ct us zs h1 h2 h3
  have e : (kwT.find? fun q => decide (q.1 = 27) && decide (q.2.1 = names)) = none := by
    simp [kwT]
  unfold Wk at hkw
  simp only [e, Option.map_none] at hkw
  cases hkw
theorem kw__law_is_whole (cs : List (Addr × Addr)) {F : Nat} : ∀ names perm, (Wk F cs).kw 28 names = some perm → ∀ (kV doc pm : Value) (an : Option Addr) (cdv ct : Value) (us zs : List Value), perm.mapM (fun i => us[i]?) = some zs → us.length = names.length → zs.length = (["_law_value"] : List PySem.Str).length →
      bindArgs (PySem.W.fnOf d__law_is_whole.name d__law_is_whole.qual d__law_is_whole.params d__law_is_whole.body d__law_is_whole.scope .none kV doc pm an cdv ct) ⟨[], names.zip us⟩ = pure ((["_law_value"] : List PySem.Str).zip zs) := by
  intro names perm hkw kV doc pm an cdv ct us zs h1 h2 h3
  have e : (kwT.find? fun q => decide (q.1 = 28) && decide (q.2.1 = names)) = none := by
    simp [kwT]
  unfold Wk at hkw
  simp only [e, Option.map_none] at hkw
  cases hkw
theorem kw__law_is_ratio (cs : List (Addr × Addr)) {F : Nat} : ∀ names perm, (Wk F cs).kw 29 names = some perm → ∀ (kV doc pm : Value) (an : Option Addr) (cdv ct : Value) (us zs : List Value), perm.mapM (fun i => us[i]?) = some zs → us.length = names.length → zs.length = (["_law_value"] : List PySem.Str).length →
      bindArgs (PySem.W.fnOf d__law_is_ratio.name d__law_is_ratio.qual d__law_is_ratio.params d__law_is_ratio.body d__law_is_ratio.scope .none kV doc pm an cdv ct) ⟨[], names.zip us⟩ = pure ((["_law_value"] : List PySem.Str).zip zs) := by
  intro names perm hkw kV doc pm an cdv ct us zs h1 h2 h3
  have e : (kwT.find? fun q => decide (q.1 = 29) && decide (q.2.1 = names)) = none := by
    simp [kwT]
  unfold Wk at hkw
  simp only [e, Option.map_none] at hkw
  cases hkw
theorem kw__law_are_ratios (cs : List (Addr × Addr)) {F : Nat} : ∀ names perm, (Wk F cs).kw 30 names = some perm → ∀ (kV doc pm : Value) (an : Option Addr) (cdv ct : Value) (us zs : List Value), perm.mapM (fun i => us[i]?) = some zs → us.length = names.length → zs.length = (["_law_value", "_law_many"] : List PySem.Str).length →
      bindArgs (PySem.W.fnOf d__law_are_ratios.name d__law_are_ratios.qual d__law_are_ratios.params d__law_are_ratios.body d__law_are_ratios.scope .none kV doc pm an cdv ct) ⟨[], names.zip us⟩ = pure ((["_law_value", "_law_many"] : List PySem.Str).zip zs) := by
  intro names perm hkw kV doc pm an cdv ct us zs h1 h2 h3
  have e : (kwT.find? fun q => decide (q.1 = 30) && decide (q.2.1 = names)) = none := by
    simp [kwT]
  unfold Wk at hkw
  simp only [e, Option.map_none] at hkw
  cases hkw
theorem kw__law_is_heading (cs : List (Addr × Addr)) {F : Nat} : ∀ names perm, (Wk F cs).kw 31 names = some perm → ∀ (kV doc pm : Value) (an : Option Addr) (cdv ct : Value) (us zs : List Value), perm.mapM (fun i => us[i]?) = some zs → us.length = names.length → zs.length = (["_law_value"] : List PySem.Str).length →
      bindArgs (PySem.W.fnOf d__law_is_heading.name d__law_is_heading.qual d__law_is_heading.params d__law_is_heading.body d__law_is_heading.scope .none kV doc pm an cdv ct) ⟨[], names.zip us⟩ = pure ((["_law_value"] : List PySem.Str).zip zs) := by
  intro names perm hkw kV doc pm an cdv ct us zs h1 h2 h3
  have e : (kwT.find? fun q => decide (q.1 = 31) && decide (q.2.1 = names)) = none := by
    simp [kwT]
  unfold Wk at hkw
  simp only [e, Option.map_none] at hkw
  cases hkw
theorem kw__law_is_plain (cs : List (Addr × Addr)) {F : Nat} : ∀ names perm, (Wk F cs).kw 32 names = some perm → ∀ (kV doc pm : Value) (an : Option Addr) (cdv ct : Value) (us zs : List Value), perm.mapM (fun i => us[i]?) = some zs → us.length = names.length → zs.length = (["_law_value"] : List PySem.Str).length →
      bindArgs (PySem.W.fnOf d__law_is_plain.name d__law_is_plain.qual d__law_is_plain.params d__law_is_plain.body d__law_is_plain.scope .none kV doc pm an cdv ct) ⟨[], names.zip us⟩ = pure ((["_law_value"] : List PySem.Str).zip zs) := by
  intro names perm hkw kV doc pm an cdv ct us zs h1 h2 h3
  have e : (kwT.find? fun q => decide (q.1 = 32) && decide (q.2.1 = names)) = none := by
    simp [kwT]
  unfold Wk at hkw
  simp only [e, Option.map_none] at hkw
  cases hkw
theorem kw__law_right (cs : List (Addr × Addr)) {F : Nat} : ∀ names perm, (Wk F cs).kw 33 names = some perm → ∀ (kV doc pm : Value) (an : Option Addr) (cdv ct : Value) (us zs : List Value), perm.mapM (fun i => us[i]?) = some zs → us.length = names.length → zs.length = (["_law_well_here"] : List PySem.Str).length →
      bindArgs (PySem.W.fnOf d__law_right.name d__law_right.qual d__law_right.params d__law_right.body d__law_right.scope .none kV doc pm an cdv ct) ⟨[], names.zip us⟩ = pure ((["_law_well_here"] : List PySem.Str).zip zs) := by
  intro names perm hkw kV doc pm an cdv ct us zs h1 h2 h3
  have e : (kwT.find? fun q => decide (q.1 = 33) && decide (q.2.1 = names)) = none := by
    simp [kwT]
  unfold Wk at hkw
  simp only [e, Option.map_none] at hkw
  cases hkw
theorem kw_law (cs : List (Addr × Addr)) {F : Nat} : ∀ names perm, (Wk F cs).kw 34 names = some perm → ∀ (kV doc pm : Value) (an : Option Addr) (cdv ct : Value) (us zs : List Value), perm.mapM (fun i => us[i]?) = some zs → us.length = names.length → zs.length = (["_law_script"] : List PySem.Str).length →
      bindArgs (PySem.W.fnOf d_law.name d_law.qual d_law.params d_law.body d_law.scope .none kV doc pm an cdv ct) ⟨[], names.zip us⟩ = pure ((["_law_script"] : List PySem.Str).zip zs) := by
  intro names perm hkw kV doc pm an cdv ct us zs h1 h2 h3
  have e : (kwT.find? fun q => decide (q.1 = 34) && decide (q.2.1 = names)) = none := by
    simp [kwT]
  unfold Wk at hkw
  simp only [e, Option.map_none] at hkw
  cases hkw
section
variable {P : Program} {w : World} {h base : Heap} {K : PySem.W.Frag} {mg : Str → Option Value} {F : Nat}
theorem at_over_common (SX : He.SaysX fa fn [] tf ex w h K) (X : K.In h) (G : h.Ns mainGlobals mg) (TB : ∀ p ∈ (Wk F (tf.map (He.cT K))).cs, GxR.TabB base mg p.1 p.2) : DefAt (Wk F (tf.map (He.cT K))) K mg base 0 "over_common" :=
  def_at SX X G rfl TB 0 0 d_over_common i_over_common ["fractions"] false rfl rfl rfl (List.mem_of_getElem? (l := fa) (i := 0) rfl) (by decide +kernel) rfl rfl (ok_over_common _ _) (fun e => by cases e)
    (fun _ _ _ _ _ _ us hl => match us, hl with | [_], _ => rfl)
    (kw_over_common _)
theorem at_as_fractions (SX : He.SaysX fa fn [] tf ex w h K) (X : K.In h) (G : h.Ns mainGlobals mg) (TB : ∀ p ∈ (Wk F (tf.map (He.cT K))).cs, GxR.TabB base mg p.1 p.2) : DefAt (Wk F (tf.map (He.cT K))) K mg base 1 "as_fractions" :=
  def_at SX X G rfl TB 1 1 d_as_fractions i_as_fractions ["numbers"] true rfl rfl rfl (List.mem_of_getElem? (l := fa) (i := 1) rfl) (by decide +kernel) rfl rfl (ok_as_fractions _ _) (fun _ => by decide +kernel)
    (fun _ _ _ _ _ _ us hl => match us, hl with | [_], _ => rfl)
    (kw_as_fractions _)
theorem at_without_common (SX : He.SaysX fa fn [] tf ex w h K) (X : K.In h) (G : h.Ns mainGlobals mg) (TB : ∀ p ∈ (Wk F (tf.map (He.cT K))).cs, GxR.TabB base mg p.1 p.2) : DefAt (Wk F (tf.map (He.cT K))) K mg base 2 "without_common" :=
  def_at SX X G rfl TB 2 2 d_without_common i_without_common ["numbers"] false rfl rfl rfl (List.mem_of_getElem? (l := fa) (i := 2) rfl) (by decide +kernel) rfl rfl (ok_without_common _ _) (fun e => by cases e)
    (fun _ _ _ _ _ _ us hl => match us, hl with | [_], _ => rfl)
    (kw_without_common _)
theorem at_forward (SX : He.SaysX fa fn [] tf ex w h K) (X : K.In h) (G : h.Ns mainGlobals mg) (TB : ∀ p ∈ (Wk F (tf.map (He.cT K))).cs, GxR.TabB base mg p.1 p.2) : DefAt (Wk F (tf.map (He.cT K))) K mg base 3 "forward" :=
  def_at SX X G rfl TB 3 3 d_forward i_forward ["numbers"] false rfl rfl rfl (List.mem_of_getElem? (l := fa) (i := 3) rfl) (by decide +kernel) rfl rfl (ok_forward _ _) (fun e => by cases e)
    (fun _ _ _ _ _ _ us hl => match us, hl with | [_], _ => rfl)
    (kw_forward _)
theorem at_is_nought (SX : He.SaysX fa fn [] tf ex w h K) (X : K.In h) (G : h.Ns mainGlobals mg) (TB : ∀ p ∈ (Wk F (tf.map (He.cT K))).cs, GxR.TabB base mg p.1 p.2) : DefAt (Wk F (tf.map (He.cT K))) K mg base 4 "is_nought" :=
  def_at SX X G rfl TB 4 4 d_is_nought i_is_nought ["numbers"] true rfl rfl rfl (List.mem_of_getElem? (l := fa) (i := 4) rfl) (by decide +kernel) rfl rfl (ok_is_nought _ _) (fun _ => by decide +kernel)
    (fun _ _ _ _ _ _ us hl => match us, hl with | [_], _ => rfl)
    (kw_is_nought _)
theorem at_is_whole (SX : He.SaysX fa fn [] tf ex w h K) (X : K.In h) (G : h.Ns mainGlobals mg) (TB : ∀ p ∈ (Wk F (tf.map (He.cT K))).cs, GxR.TabB base mg p.1 p.2) : DefAt (Wk F (tf.map (He.cT K))) K mg base 5 "is_whole" :=
  def_at SX X G rfl TB 5 5 d_is_whole i_is_whole ["value"] false rfl rfl rfl (List.mem_of_getElem? (l := fa) (i := 5) rfl) (by decide +kernel) rfl rfl (ok_is_whole _ _) (fun e => by cases e)
    (fun _ _ _ _ _ _ us hl => match us, hl with | [_], _ => rfl)
    (kw_is_whole _)
theorem at_is_fraction (SX : He.SaysX fa fn [] tf ex w h K) (X : K.In h) (G : h.Ns mainGlobals mg) (TB : ∀ p ∈ (Wk F (tf.map (He.cT K))).cs, GxR.TabB base mg p.1 p.2) : DefAt (Wk F (tf.map (He.cT K))) K mg base 6 "is_fraction" :=
  def_at SX X G rfl TB 6 6 d_is_fraction i_is_fraction ["value"] false rfl rfl rfl (List.mem_of_getElem? (l := fa) (i := 6) rfl) (by decide +kernel) rfl rfl (ok_is_fraction _ _) (fun e => by cases e)
    (fun _ _ _ _ _ _ us hl => match us, hl with | [_], _ => rfl)
    (kw_is_fraction _)
theorem at_is_triple (SX : He.SaysX fa fn [] tf ex w h K) (X : K.In h) (G : h.Ns mainGlobals mg) (TB : ∀ p ∈ (Wk F (tf.map (He.cT K))).cs, GxR.TabB base mg p.1 p.2) : DefAt (Wk F (tf.map (He.cT K))) K mg base 7 "is_triple" :=
  def_at SX X G rfl TB 7 7 d_is_triple i_is_triple ["value"] true rfl rfl rfl (List.mem_of_getElem? (l := fa) (i := 7) rfl) (by decide +kernel) rfl rfl (ok_is_triple _ _) (fun _ => by decide +kernel)
    (fun _ _ _ _ _ _ us hl => match us, hl with | [_], _ => rfl)
    (kw_is_triple _)
theorem at_is_direction (SX : He.SaysX fa fn [] tf ex w h K) (X : K.In h) (G : h.Ns mainGlobals mg) (TB : ∀ p ∈ (Wk F (tf.map (He.cT K))).cs, GxR.TabB base mg p.1 p.2) : DefAt (Wk F (tf.map (He.cT K))) K mg base 8 "is_direction" :=
  def_at SX X G rfl TB 8 8 d_is_direction i_is_direction ["value"] false rfl rfl rfl (List.mem_of_getElem? (l := fa) (i := 8) rfl) (by decide +kernel) rfl rfl (ok_is_direction _ _) (fun e => by cases e)
    (fun _ _ _ _ _ _ us hl => match us, hl with | [_], _ => rfl)
    (kw_is_direction _)
theorem at_check_direction (SX : He.SaysX fa fn [] tf ex w h K) (X : K.In h) (G : h.Ns mainGlobals mg) (TB : ∀ p ∈ (Wk F (tf.map (He.cT K))).cs, GxR.TabB base mg p.1 p.2) : DefAt (Wk F (tf.map (He.cT K))) K mg base 9 "check_direction" :=
  def_at SX X G rfl TB 9 9 d_check_direction i_check_direction ["direction"] false rfl rfl rfl (List.mem_of_getElem? (l := fa) (i := 9) rfl) (by decide +kernel) rfl rfl (ok_check_direction _ _) (fun e => by cases e)
    (fun _ _ _ _ _ _ us hl => match us, hl with | [_], _ => rfl)
    (kw_check_direction _)
theorem at_plain_direction (SX : He.SaysX fa fn [] tf ex w h K) (X : K.In h) (G : h.Ns mainGlobals mg) (TB : ∀ p ∈ (Wk F (tf.map (He.cT K))).cs, GxR.TabB base mg p.1 p.2) : DefAt (Wk F (tf.map (He.cT K))) K mg base 10 "plain_direction" :=
  def_at SX X G rfl TB 10 10 d_plain_direction i_plain_direction ["direction"] false rfl rfl rfl (List.mem_of_getElem? (l := fa) (i := 10) rfl) (by decide +kernel) rfl rfl (ok_plain_direction _ _) (fun e => by cases e)
    (fun _ _ _ _ _ _ us hl => match us, hl with | [_], _ => rfl)
    (kw_plain_direction _)
theorem at__law_well (SX : He.SaysX fa fn [] tf ex w h K) (X : K.In h) (G : h.Ns mainGlobals mg) (TB : ∀ p ∈ (Wk F (tf.map (He.cT K))).cs, GxR.TabB base mg p.1 p.2) : DefAt (Wk F (tf.map (He.cT K))) K mg base 11 "_law_well" :=
  def_at SX X G rfl TB 11 11 d__law_well i__law_well ["_law_script", "_law_turn"] false rfl rfl rfl (List.mem_of_getElem? (l := fa) (i := 11) rfl) (by decide +kernel) rfl rfl (ok__law_well _ _) (fun e => by cases e)
    (fun _ _ _ _ _ _ us hl => match us, hl with | [_, _], _ => rfl)
    (kw__law_well _)
theorem at__law_draw (SX : He.SaysX fa fn [] tf ex w h K) (X : K.In h) (G : h.Ns mainGlobals mg) (TB : ∀ p ∈ (Wk F (tf.map (He.cT K))).cs, GxR.TabB base mg p.1 p.2) : DefAt (Wk F (tf.map (He.cT K))) K mg base 12 "_law_draw" :=
  def_at SX X G rfl TB 12 12 d__law_draw i__law_draw ["_law_well_here", "_law_many"] false rfl rfl rfl (List.mem_of_getElem? (l := fa) (i := 12) rfl) (by decide +kernel) rfl rfl (ok__law_draw _ _) (fun e => by cases e)
    (fun _ _ _ _ _ _ us hl => match us, hl with | [_, _], _ => rfl)
    (kw__law_draw _)
theorem at__law_pick (SX : He.SaysX fa fn [] tf ex w h K) (X : K.In h) (G : h.Ns mainGlobals mg) (TB : ∀ p ∈ (Wk F (tf.map (He.cT K))).cs, GxR.TabB base mg p.1 p.2) : DefAt (Wk F (tf.map (He.cT K))) K mg base 13 "_law_pick" :=
  def_at SX X G rfl TB 13 13 d__law_pick i__law_pick ["_law_well_here", "_law_some_here"] false rfl rfl rfl (List.mem_of_getElem? (l := fa) (i := 13) rfl) (by decide +kernel) rfl rfl (ok__law_pick _ _) (fun e => by cases e)
    (fun _ _ _ _ _ _ us hl => match us, hl with | [_, _], _ => rfl)
    (kw__law_pick _)
theorem at__law_low (SX : He.SaysX fa fn [] tf ex w h K) (X : K.In h) (G : h.Ns mainGlobals mg) (TB : ∀ p ∈ (Wk F (tf.map (He.cT K))).cs, GxR.TabB base mg p.1 p.2) : DefAt (Wk F (tf.map (He.cT K))) K mg base 14 "_law_low" :=
  def_at SX X G rfl TB 14 14 d__law_low i__law_low ["_law_well_here"] false rfl rfl rfl (List.mem_of_getElem? (l := fa) (i := 14) rfl) (by decide +kernel) rfl rfl (ok__law_low _ _) (fun e => by cases e)
    (fun _ _ _ _ _ _ us hl => match us, hl with | [_], _ => rfl)
    (kw__law_low _)
theorem at__law_far (SX : He.SaysX fa fn [] tf ex w h K) (X : K.In h) (G : h.Ns mainGlobals mg) (TB : ∀ p ∈ (Wk F (tf.map (He.cT K))).cs, GxR.TabB base mg p.1 p.2) : DefAt (Wk F (tf.map (He.cT K))) K mg base 15 "_law_far" :=
  def_at SX X G rfl TB 15 15 d__law_far i__law_far ["_law_well_here"] false rfl rfl rfl (List.mem_of_getElem? (l := fa) (i := 15) rfl) (by decide +kernel) rfl rfl (ok__law_far _ _) (fun e => by cases e)
    (fun _ _ _ _ _ _ us hl => match us, hl with | [_], _ => rfl)
    (kw__law_far _)
theorem at__law_ratio (SX : He.SaysX fa fn [] tf ex w h K) (X : K.In h) (G : h.Ns mainGlobals mg) (TB : ∀ p ∈ (Wk F (tf.map (He.cT K))).cs, GxR.TabB base mg p.1 p.2) : DefAt (Wk F (tf.map (He.cT K))) K mg base 16 "_law_ratio" :=
  def_at SX X G rfl TB 16 16 d__law_ratio i__law_ratio ["_law_top", "_law_under"] false rfl rfl rfl (List.mem_of_getElem? (l := fa) (i := 16) rfl) (by decide +kernel) rfl rfl (ok__law_ratio _ _) (fun e => by cases e)
    (fun _ _ _ _ _ _ us hl => match us, hl with | [_, _], _ => rfl)
    (kw__law_ratio _)
theorem at__law_less (SX : He.SaysX fa fn [] tf ex w h K) (X : K.In h) (G : h.Ns mainGlobals mg) (TB : ∀ p ∈ (Wk F (tf.map (He.cT K))).cs, GxR.TabB base mg p.1 p.2) : DefAt (Wk F (tf.map (He.cT K))) K mg base 17 "_law_less" :=
  def_at SX X G rfl TB 17 17 d__law_less i__law_less ["_law_one", "_law_two"] false rfl rfl rfl (List.mem_of_getElem? (l := fa) (i := 17) rfl) (by decide +kernel) rfl rfl (ok__law_less _ _) (fun e => by cases e)
    (fun _ _ _ _ _ _ us hl => match us, hl with | [_, _], _ => rfl)
    (kw__law_less _)
theorem at__law_by (SX : He.SaysX fa fn [] tf ex w h K) (X : K.In h) (G : h.Ns mainGlobals mg) (TB : ∀ p ∈ (Wk F (tf.map (He.cT K))).cs, GxR.TabB base mg p.1 p.2) : DefAt (Wk F (tf.map (He.cT K))) K mg base 18 "_law_by" :=
  def_at SX X G rfl TB 18 18 d__law_by i__law_by ["_law_one", "_law_two"] false rfl rfl rfl (List.mem_of_getElem? (l := fa) (i := 18) rfl) (by decide +kernel) rfl rfl (ok__law_by _ _) (fun e => by cases e)
    (fun _ _ _ _ _ _ us hl => match us, hl with | [_, _], _ => rfl)
    (kw__law_by _)
theorem at__law_times (SX : He.SaysX fa fn [] tf ex w h K) (X : K.In h) (G : h.Ns mainGlobals mg) (TB : ∀ p ∈ (Wk F (tf.map (He.cT K))).cs, GxR.TabB base mg p.1 p.2) : DefAt (Wk F (tf.map (He.cT K))) K mg base 19 "_law_times" :=
  def_at SX X G rfl TB 19 19 d__law_times i__law_times ["_law_row_here", "_law_by_here"] false rfl rfl rfl (List.mem_of_getElem? (l := fa) (i := 19) rfl) (by decide +kernel) rfl rfl (ok__law_times _ _) (fun e => by cases e)
    (fun _ _ _ _ _ _ us hl => match us, hl with | [_, _], _ => rfl)
    (kw__law_times _)
theorem at__law_cross (SX : He.SaysX fa fn [] tf ex w h K) (X : K.In h) (G : h.Ns mainGlobals mg) (TB : ∀ p ∈ (Wk F (tf.map (He.cT K))).cs, GxR.TabB base mg p.1 p.2) : DefAt (Wk F (tf.map (He.cT K))) K mg base 20 "_law_cross" :=
  def_at SX X G rfl TB 20 20 d__law_cross i__law_cross ["_law_one", "_law_two"] false rfl rfl rfl (List.mem_of_getElem? (l := fa) (i := 20) rfl) (by decide +kernel) rfl rfl (ok__law_cross _ _) (fun e => by cases e)
    (fun _ _ _ _ _ _ us hl => match us, hl with | [_, _], _ => rfl)
    (kw__law_cross _)
theorem at__law_nought (SX : He.SaysX fa fn [] tf ex w h K) (X : K.In h) (G : h.Ns mainGlobals mg) (TB : ∀ p ∈ (Wk F (tf.map (He.cT K))).cs, GxR.TabB base mg p.1 p.2) : DefAt (Wk F (tf.map (He.cT K))) K mg base 21 "_law_nought" :=
  def_at SX X G rfl TB 21 21 d__law_nought i__law_nought [] false rfl rfl rfl (List.mem_of_getElem? (l := fa) (i := 21) rfl) (by decide +kernel) rfl rfl (ok__law_nought _ _) (fun e => by cases e)
    (fun _ _ _ _ _ _ us hl => match us, hl with | [], _ => rfl)
    (kw__law_nought _)
theorem at__law_part (SX : He.SaysX fa fn [] tf ex w h K) (X : K.In h) (G : h.Ns mainGlobals mg) (TB : ∀ p ∈ (Wk F (tf.map (He.cT K))).cs, GxR.TabB base mg p.1 p.2) : DefAt (Wk F (tf.map (He.cT K))) K mg base 22 "_law_part" :=
  def_at SX X G rfl TB 22 22 d__law_part i__law_part ["_law_well_here"] false rfl rfl rfl (List.mem_of_getElem? (l := fa) (i := 22) rfl) (by decide +kernel) rfl rfl (ok__law_part _ _) (fun e => by cases e)
    (fun _ _ _ _ _ _ us hl => match us, hl with | [_], _ => rfl)
    (kw__law_part _)
theorem at__law_row (SX : He.SaysX fa fn [] tf ex w h K) (X : K.In h) (G : h.Ns mainGlobals mg) (TB : ∀ p ∈ (Wk F (tf.map (He.cT K))).cs, GxR.TabB base mg p.1 p.2) : DefAt (Wk F (tf.map (He.cT K))) K mg base 23 "_law_row" :=
  def_at SX X G rfl TB 23 23 d__law_row i__law_row ["_law_well_here"] false rfl rfl rfl (List.mem_of_getElem? (l := fa) (i := 23) rfl) (by decide +kernel) rfl rfl (ok__law_row _ _) (fun e => by cases e)
    (fun _ _ _ _ _ _ us hl => match us, hl with | [_], _ => rfl)
    (kw__law_row _)
theorem at__law_wide (SX : He.SaysX fa fn [] tf ex w h K) (X : K.In h) (G : h.Ns mainGlobals mg) (TB : ∀ p ∈ (Wk F (tf.map (He.cT K))).cs, GxR.TabB base mg p.1 p.2) : DefAt (Wk F (tf.map (He.cT K))) K mg base 24 "_law_wide" :=
  def_at SX X G rfl TB 24 24 d__law_wide i__law_wide ["_law_well_here"] false rfl rfl rfl (List.mem_of_getElem? (l := fa) (i := 24) rfl) (by decide +kernel) rfl rfl (ok__law_wide _ _) (fun e => by cases e)
    (fun _ _ _ _ _ _ us hl => match us, hl with | [_], _ => rfl)
    (kw__law_wide _)
theorem at__law_some (SX : He.SaysX fa fn [] tf ex w h K) (X : K.In h) (G : h.Ns mainGlobals mg) (TB : ∀ p ∈ (Wk F (tf.map (He.cT K))).cs, GxR.TabB base mg p.1 p.2) : DefAt (Wk F (tf.map (He.cT K))) K mg base 25 "_law_some" :=
  def_at SX X G rfl TB 25 25 d__law_some i__law_some ["_law_well_here"] false rfl rfl rfl (List.mem_of_getElem? (l := fa) (i := 25) rfl) (by decide +kernel) rfl rfl (ok__law_some _ _) (fun e => by cases e)
    (fun _ _ _ _ _ _ us hl => match us, hl with | [_], _ => rfl)
    (kw__law_some _)
theorem at__law_heading (SX : He.SaysX fa fn [] tf ex w h K) (X : K.In h) (G : h.Ns mainGlobals mg) (TB : ∀ p ∈ (Wk F (tf.map (He.cT K))).cs, GxR.TabB base mg p.1 p.2) : DefAt (Wk F (tf.map (He.cT K))) K mg base 26 "_law_heading" :=
  def_at SX X G rfl TB 26 26 d__law_heading i__law_heading ["_law_well_here"] false rfl rfl rfl (List.mem_of_getElem? (l := fa) (i := 26) rfl) (by decide +kernel) rfl rfl (ok__law_heading _ _) (fun e => by cases e)
    (fun _ _ _ _ _ _ us hl => match us, hl with | [_], _ => rfl)
    (kw__law_heading _)
theorem at__law_lean (SX : He.SaysX fa fn [] tf ex w h K) (X : K.In h) (G : h.Ns mainGlobals mg) (TB : ∀ p ∈ (Wk F (tf.map (He.cT K))).cs, GxR.TabB base mg p.1 p.2) : DefAt (Wk F (tf.map (He.cT K))) K mg base 27 "_law_lean" :=
  def_at SX X G rfl TB 27 27 d__law_lean i__law_lean ["_law_numbers"] false rfl rfl rfl (List.mem_of_getElem? (l := fa) (i := 27) rfl) (by decide +kernel) rfl rfl (ok__law_lean _ _) (fun e => by cases e)
    (fun _ _ _ _ _ _ us hl => match us, hl with | [_], _ => rfl)
    (kw__law_lean _)
theorem at__law_is_whole (SX : He.SaysX fa fn [] tf ex w h K) (X : K.In h) (G : h.Ns mainGlobals mg) (TB : ∀ p ∈ (Wk F (tf.map (He.cT K))).cs, GxR.TabB base mg p.1 p.2) : DefAt (Wk F (tf.map (He.cT K))) K mg base 28 "_law_is_whole" :=
  def_at SX X G rfl TB 28 28 d__law_is_whole i__law_is_whole ["_law_value"] false rfl rfl rfl (List.mem_of_getElem? (l := fa) (i := 28) rfl) (by decide +kernel) rfl rfl (ok__law_is_whole _ _) (fun e => by cases e)
    (fun _ _ _ _ _ _ us hl => match us, hl with | [_], _ => rfl)
    (kw__law_is_whole _)
theorem at__law_is_ratio (SX : He.SaysX fa fn [] tf ex w h K) (X : K.In h) (G : h.Ns mainGlobals mg) (TB : ∀ p ∈ (Wk F (tf.map (He.cT K))).cs, GxR.TabB base mg p.1 p.2) : DefAt (Wk F (tf.map (He.cT K))) K mg base 29 "_law_is_ratio" :=
  def_at SX X G rfl TB 29 29 d__law_is_ratio i__law_is_ratio ["_law_value"] false rfl rfl rfl (List.mem_of_getElem? (l := fa) (i := 29) rfl) (by decide +kernel) rfl rfl (ok__law_is_ratio _ _) (fun e => by cases e)
    (fun _ _ _ _ _ _ us hl => match us, hl with | [_], _ => rfl)
    (kw__law_is_ratio _)
theorem at__law_are_ratios (SX : He.SaysX fa fn [] tf ex w h K) (X : K.In h) (G : h.Ns mainGlobals mg) (TB : ∀ p ∈ (Wk F (tf.map (He.cT K))).cs, GxR.TabB base mg p.1 p.2) : DefAt (Wk F (tf.map (He.cT K))) K mg base 30 "_law_are_ratios" :=
  def_at SX X G rfl TB 30 30 d__law_are_ratios i__law_are_ratios ["_law_value", "_law_many"] false rfl rfl rfl (List.mem_of_getElem? (l := fa) (i := 30) rfl) (by decide +kernel) rfl rfl (ok__law_are_ratios _ _) (fun e => by cases e)
    (fun _ _ _ _ _ _ us hl => match us, hl with | [_, _], _ => rfl)
    (kw__law_are_ratios _)
theorem at__law_is_heading (SX : He.SaysX fa fn [] tf ex w h K) (X : K.In h) (G : h.Ns mainGlobals mg) (TB : ∀ p ∈ (Wk F (tf.map (He.cT K))).cs, GxR.TabB base mg p.1 p.2) : DefAt (Wk F (tf.map (He.cT K))) K mg base 31 "_law_is_heading" :=
  def_at SX X G rfl TB 31 31 d__law_is_heading i__law_is_heading ["_law_value"] false rfl rfl rfl (List.mem_of_getElem? (l := fa) (i := 31) rfl) (by decide +kernel) rfl rfl (ok__law_is_heading _ _) (fun e => by cases e)
    (fun _ _ _ _ _ _ us hl => match us, hl with | [_], _ => rfl)
    (kw__law_is_heading _)
theorem at__law_is_plain (SX : He.SaysX fa fn [] tf ex w h K) (X : K.In h) (G : h.Ns mainGlobals mg) (TB : ∀ p ∈ (Wk F (tf.map (He.cT K))).cs, GxR.TabB base mg p.1 p.2) : DefAt (Wk F (tf.map (He.cT K))) K mg base 32 "_law_is_plain" :=
  def_at SX X G rfl TB 32 32 d__law_is_plain i__law_is_plain ["_law_value"] false rfl rfl rfl (List.mem_of_getElem? (l := fa) (i := 32) rfl) (by decide +kernel) rfl rfl (ok__law_is_plain _ _) (fun e => by cases e)
    (fun _ _ _ _ _ _ us hl => match us, hl with | [_], _ => rfl)
    (kw__law_is_plain _)
theorem at__law_right (SX : He.SaysX fa fn [] tf ex w h K) (X : K.In h) (G : h.Ns mainGlobals mg) (TB : ∀ p ∈ (Wk F (tf.map (He.cT K))).cs, GxR.TabB base mg p.1 p.2) : DefAt (Wk F (tf.map (He.cT K))) K mg base 33 "_law_right" :=
  def_at SX X G rfl TB 33 33 d__law_right i__law_right ["_law_well_here"] false rfl rfl rfl (List.mem_of_getElem? (l := fa) (i := 33) rfl) (by decide +kernel) rfl rfl (ok__law_right _ _) (fun e => by cases e)
    (fun _ _ _ _ _ _ us hl => match us, hl with | [_], _ => rfl)
    (kw__law_right _)
theorem at_law (SX : He.SaysX fa fn [] tf ex w h K) (X : K.In h) (G : h.Ns mainGlobals mg) (TB : ∀ p ∈ (Wk F (tf.map (He.cT K))).cs, GxR.TabB base mg p.1 p.2) : DefAt (Wk F (tf.map (He.cT K))) K mg base 34 "law" :=
  def_at SX X G rfl TB 34 34 d_law i_law ["_law_script"] false rfl rfl rfl (List.mem_of_getElem? (l := fa) (i := 34) rfl) (by decide +kernel) rfl rfl (ok_law _ _) (fun e => by cases e)
    (fun _ _ _ _ _ _ us hl => match us, hl with | [_], _ => rfl)
    (kw_law _)
theorem defs_ok (SX : He.SaysX fa fn [] tf ex w h K) (X : K.In h) (G : h.Ns mainGlobals mg) (TB : ∀ p ∈ (Wk F (tf.map (He.cT K))).cs, GxR.TabB base mg p.1 p.2) : ∀ f x, (Wk F (tf.map (He.cT K))).nm f = some x → DefAt (Wk F (tf.map (He.cT K))) K mg base f x
  | 0, x, e => by
    obtain rfl : ("over_common" : PySem.Str) = x := Option.some.inj e
    exact at_over_common SX X G TB
  | 1, x, e => by
    obtain rfl : ("as_fractions" : PySem.Str) = x := Option.some.inj e
    exact at_as_fractions SX X G TB
  | 2, x, e => by
    obtain rfl : ("without_common" : PySem.Str) = x := Option.some.inj e
    exact at_without_common SX X G TB
  | 3, x, e => by
    obtain rfl : ("forward" : PySem.Str) = x := Option.some.inj e
    exact at_forward SX X G TB
  | 4, x, e => by
    obtain rfl : ("is_nought" : PySem.Str) = x := Option.some.inj e
    exact at_is_nought SX X G TB
  | 5, x, e => by
    obtain rfl : ("is_whole" : PySem.Str) = x := Option.some.inj e
    exact at_is_whole SX X G TB
  | 6, x, e => by
    obtain rfl : ("is_fraction" : PySem.Str) = x := Option.some.inj e
    exact at_is_fraction SX X G TB
  | 7, x, e => by
    obtain rfl : ("is_triple" : PySem.Str) = x := Option.some.inj e
    exact at_is_triple SX X G TB
  | 8, x, e => by
    obtain rfl : ("is_direction" : PySem.Str) = x := Option.some.inj e
    exact at_is_direction SX X G TB
  | 9, x, e => by
    obtain rfl : ("check_direction" : PySem.Str) = x := Option.some.inj e
    exact at_check_direction SX X G TB
  | 10, x, e => by
    obtain rfl : ("plain_direction" : PySem.Str) = x := Option.some.inj e
    exact at_plain_direction SX X G TB
  | 11, x, e => by
    obtain rfl : ("_law_well" : PySem.Str) = x := Option.some.inj e
    exact at__law_well SX X G TB
  | 12, x, e => by
    obtain rfl : ("_law_draw" : PySem.Str) = x := Option.some.inj e
    exact at__law_draw SX X G TB
  | 13, x, e => by
    obtain rfl : ("_law_pick" : PySem.Str) = x := Option.some.inj e
    exact at__law_pick SX X G TB
  | 14, x, e => by
    obtain rfl : ("_law_low" : PySem.Str) = x := Option.some.inj e
    exact at__law_low SX X G TB
  | 15, x, e => by
    obtain rfl : ("_law_far" : PySem.Str) = x := Option.some.inj e
    exact at__law_far SX X G TB
  | 16, x, e => by
    obtain rfl : ("_law_ratio" : PySem.Str) = x := Option.some.inj e
    exact at__law_ratio SX X G TB
  | 17, x, e => by
    obtain rfl : ("_law_less" : PySem.Str) = x := Option.some.inj e
    exact at__law_less SX X G TB
  | 18, x, e => by
    obtain rfl : ("_law_by" : PySem.Str) = x := Option.some.inj e
    exact at__law_by SX X G TB
  | 19, x, e => by
    obtain rfl : ("_law_times" : PySem.Str) = x := Option.some.inj e
    exact at__law_times SX X G TB
  | 20, x, e => by
    obtain rfl : ("_law_cross" : PySem.Str) = x := Option.some.inj e
    exact at__law_cross SX X G TB
  | 21, x, e => by
    obtain rfl : ("_law_nought" : PySem.Str) = x := Option.some.inj e
    exact at__law_nought SX X G TB
  | 22, x, e => by
    obtain rfl : ("_law_part" : PySem.Str) = x := Option.some.inj e
    exact at__law_part SX X G TB
  | 23, x, e => by
    obtain rfl : ("_law_row" : PySem.Str) = x := Option.some.inj e
    exact at__law_row SX X G TB
  | 24, x, e => by
    obtain rfl : ("_law_wide" : PySem.Str) = x := Option.some.inj e
    exact at__law_wide SX X G TB
  | 25, x, e => by
    obtain rfl : ("_law_some" : PySem.Str) = x := Option.some.inj e
    exact at__law_some SX X G TB
  | 26, x, e => by
    obtain rfl : ("_law_heading" : PySem.Str) = x := Option.some.inj e
    exact at__law_heading SX X G TB
  | 27, x, e => by
    obtain rfl : ("_law_lean" : PySem.Str) = x := Option.some.inj e
    exact at__law_lean SX X G TB
  | 28, x, e => by
    obtain rfl : ("_law_is_whole" : PySem.Str) = x := Option.some.inj e
    exact at__law_is_whole SX X G TB
  | 29, x, e => by
    obtain rfl : ("_law_is_ratio" : PySem.Str) = x := Option.some.inj e
    exact at__law_is_ratio SX X G TB
  | 30, x, e => by
    obtain rfl : ("_law_are_ratios" : PySem.Str) = x := Option.some.inj e
    exact at__law_are_ratios SX X G TB
  | 31, x, e => by
    obtain rfl : ("_law_is_heading" : PySem.Str) = x := Option.some.inj e
    exact at__law_is_heading SX X G TB
  | 32, x, e => by
    obtain rfl : ("_law_is_plain" : PySem.Str) = x := Option.some.inj e
    exact at__law_is_plain SX X G TB
  | 33, x, e => by
    obtain rfl : ("_law_right" : PySem.Str) = x := Option.some.inj e
    exact at__law_right SX X G TB
  | 34, x, e => by
    obtain rfl : ("law" : PySem.Str) = x := Option.some.inj e
    exact at_law SX X G TB
  | f + 35, x, e => by cases (show (none : Option PySem.Str) = some x from e)
end
end K03
open PySem PySem.W PySem.Calls PyProof.Rows
theorem K03.holds_of (hmath : ∀ ns : List Int, ns.length ≤ 63 → (∀ z ∈ ns, Builtin.Int.intBits z ≤ 1048576) → ∃ (F : Nat) (stF : Mi.Store), Mi.callF K03.Tk F 60 34 [.scr (ns.map Mi.D.int)] [] = some (.bl true, stF)) : PySem.Challenge.rw_sevenpins_k03_whole_plain_directions.Holds := by
  w_on; o_law
  refine HandSHeadRun.head_imp (r := OpenLaw.row PySem.Challenge.rw_sevenpins_k03_whole_plain_directions) (q := view (OpenLaw.row PySem.Challenge.rw_sevenpins_k03_whole_plain_directions).prog [0, 42]) (H := K03.hk) (ob := K03.ob) (M := 6300) (loose := K03.loose) (d := HandSHeadRun.topDef (OpenLaw.row PySem.Challenge.rw_sevenpins_k03_whole_plain_directions).prog 42) (kwd := []) K03.ob_eq
    K03.run (by kernel_rfl) (by kernel_rfl) (by kernel_rfl) (by rfl) (by first | assumption | decide +kernel) (by decide +kernel) ⟨rfl, rfl, rfl, rfl, rfl, by decide +kernel⟩ ?hw ?hc
  case hw => w_witness2
  case hc =>
    refine Att.attach_callB (l := PySem.Challenge.rw_sevenpins_k03_whole_plain_directions) (n := 63) rfl (by kernel_rfl) fun w s₀ s₁ mg mb fa o pm cd doc a vs ns G Y ho hd hcd hmg0 hobj hints hlen hbits hg => ?_
    obtain ⟨K, KX, SX⟩ := Y
    obtain ⟨F, stF, hval⟩ := hmath ns hlen hbits
    have hmg : mg ("law" : PySem.Str) = some (.ref fa) := by
      have e : (HandSHeadRun.topDef (OpenLaw.row PySem.Challenge.rw_sevenpins_k03_whole_plain_directions).prog 42).name = ("law" : PySem.Str) := by kernel_rfl
      rw [← e]
      exact hmg0
    have free : ∀ x ∈ (["len", "abs", "int", "max", "min", "repr", "str", "divmod", "tuple", "list", "sum", "all", "any", "isinstance", "bool", "range", "zip", "enumerate"] : List PySem.Str), mg x = none := fun x hx => by
      have hin : He.Fa.free x ∈ K03.fa := by
        simp only [List.mem_cons, List.not_mem_nil, or_false] at hx
        rcases hx with rfl | rfl | rfl | rfl | rfl | rfl | rfl | rfl | rfl | rfl | rfl | rfl | rfl | rfl | rfl | rfl | rfl | rfl <;> simp [K03.fa]
      exact He.free_ok KX G.T.g (SX.t.d.facts hin)
    have hex : (He.eqO (PySem.W.nsIn K mainGlobals "gcd") (some (some (.builtin "math.gcd"))) && He.eqO (PySem.W.nsIn K mainGlobals "lcm") (some (some (.builtin "math.lcm"))) && Mi.cstK K K03.gcT && Mi.smdB K && Mi.excK (PySem.Challenge.rw_sevenpins_k03_whole_plain_directions).prog K K03.mkT K03.xiT) = true := SX.more
    rw [Bool.and_eq_true, Bool.and_eq_true, Bool.and_eq_true, Bool.and_eq_true] at hex
    have S : ∀ base : Heap, K.In base → base.Ns mainGlobals mg → (∀ p ∈ (K03.Wk F (K03.tf.map (He.cT K))).cs, GxR.TabB base mg p.1 p.2) → Mi.Sys (K03.Wk F (K03.tf.map (He.cT K))) (PySem.Challenge.rw_sevenpins_k03_whole_plain_directions).prog w K mg base := fun base h1 h2 h3 =>
      Mi.sys_of SX KX G.T.g free (fun _ => PySem.W.mg_of KX G.T.g (He.eqO_ok hex.1.1.1.1)) (fun _ => PySem.W.mg_of KX G.T.g (He.eqO_ok hex.1.1.1.2)) (fun x d e => Mi.cstK_ok KX G.T.g hex.1.1.2 x d e)
        (fun c x b e => Mi.excK_xi KX G.T.g hex.2 c x b e) (fun c f e => Mi.excK_mk KX G.T.g hex.2 c f e) K03.top_none (Mi.smdB_ok hex.1.2) (K03.defs_ok SX KX G.T.g h3)
    refine Mi.law_go (W := K03.Wk F (K03.tf.map (He.cT K))) (k := 60) (f := 34) KX G.T.g G.T.b G.T.builtins G.T.nolimit hg (fun p hp => ?_) (fun p hp => ?_) (fun p hp => ?_) G.T.bmain hobj hints (Nat.le_trans hlen (by decide)) ⟨rfl, by decide +kernel, by decide +kernel⟩ (fun base h1 h2 h3 => ?_) hval
    · obtain ⟨q, hq, rfl⟩ := List.mem_map.mp hp
      exact SX.empty q hq
    · obtain ⟨q, hq, rfl⟩ := List.mem_map.mp hp
      exact SX.out q hq
    · obtain ⟨q, hq, rfl⟩ := List.mem_map.mp hp
      exact PySem.W.codeHd_of_K KX (SX.hd q hq)
    · obtain ⟨a', fd, ps, g1, _, g3, g4, _⟩ := ((S base h1 h2 h3).level 60).1 34 "law" rfl
      rw [hmg] at g1
      cases g1
      exact ⟨fd, ps, g3, g4⟩

set_option Elab.async false
set_option linter.all false
set_option maxRecDepth 100000
set_option maxHeartbeats 4000000
namespace K03
open PySem PySem.Spec PyProof.Rows L2 Mi TL
theorem call_at {F k f : Nat} {d : Mi.Def} {args : List Mi.D} {st : Mi.Store} (h : Tk f = some d) : callF Tk F (k + 1) f args st = runD (callF Tk F k) F d args st := by
  exact Mi.callF_some h args st
/-! ### numbers -/
theorem log_small {i : Int} {n : Nat} (h1 : -(2 ^ n : Int) < i) (h2 : i < 2 ^ n) : i.natAbs.log2 ≤ n := by
  by_cases h0 : i.natAbs = 0
  · rw [h0]; simp
  · have h3 : i.natAbs < 2 ^ n := by
      have : (i.natAbs : Int) < 2 ^ n := by omega
      exact_mod_cast this
    exact Nat.le_of_lt ((Nat.log2_lt h0).mpr h3)
theorem mul_ok {i j : Int} {n m : Nat} (h1 : i.natAbs.log2 ≤ n) (h2 : j.natAbs.log2 ≤ m) (h : n + m < 100000000) : bop .mul (.int i) (.int j) = some (.int (i * j)) := by
  simp only [bop]
  rw [if_pos]
  simp; omega
/-! ### stores -/
/-- nothing refers beyond the end -/
def SW (st : Mi.Store) : Prop := okC st.length st = true
theorem SW.set {st : Mi.Store} (h : SW st) (i : Nat) {xs : List Mi.D} (hx : fitDs st.length xs = true) : SW (st.set i (some xs)) := by
  unfold SW okC at *
  rw [List.length_set]
  rw [List.all_eq_true] at *
  intro c hc
  rcases List.mem_or_eq_of_mem_set hc with hc | rfl
  · exact h c hc
  · exact hx
theorem cut_int {st st' : Mi.Store} {v : Int} (h : SW st') (hl : st'.length = st.length) : Mi.cutD st.length (.int v) st' = some (.int v, st') := by
  have e : st'.take st.length = st' := by rw [← hl, List.take_length]
  simp only [Mi.cutD, fitD, e, Bool.true_and]
  rw [← hl]
  unfold SW at h
  rw [h]; rfl
/-- a well at the place n that was asked at most r times -/
structure Well (st : Mi.Store) (n : Nat) (r : Int) : Prop where
  sw : SW st
  ex : ∃ a b c : Int, st[n]? = some (some [.int a, .int b, .int c]) ∧ 0 ≤ a ∧ 0 ≤ b ∧ b < 2147483563 ∧ 0 ≤ c ∧ c ≤ r
/-- only the well has changed -/
def Turned (st : Mi.Store) (n : Nat) (st' : Mi.Store) : Prop := ∃ a b c : Int, st' = st.set n (some [.int a, .int b, .int c])
theorem Turned.trans {st st' st'' : Mi.Store} {n : Nat} (h : Turned st n st') (h' : Turned st' n st'') : Turned st n st'' := by
  obtain ⟨a, b, c, rfl⟩ := h
  obtain ⟨a', b', c', rfl⟩ := h'
  exact ⟨a', b', c', by rw [List.set_set]⟩
theorem well_set {st : Mi.Store} {n : Nat} {a b c r : Int} (hs : SW st) (hn : n < st.length) (h1 : 0 ≤ a) (h2 : 0 ≤ b) (h3 : b < 2147483563) (h4 : 0 ≤ c) (h5 : c ≤ r) : Well (st.set n (some [.int a, .int b, .int c])) n r :=
  ⟨hs.set n rfl, a, b, c, by rw [List.getElem?_set_self hn], h1, h2, h3, h4, h5⟩
theorem fm (a : Int) {b : Int} (h : 0 < b) : a.fmod b = a % b := Int.fmod_eq_emod_of_nonneg a (Int.le_of_lt h)
theorem fd (a : Int) {b : Int} (h : 0 < b) : a.fdiv b = a / b := Int.fdiv_eq_ediv_of_nonneg a (Int.le_of_lt h)
theorem draw_ok {F k n : Nat} {m r : Int} {st : Mi.Store} (hw : Well st n r) (hm : 0 < m) (hm2 : m < 1073741824) (hr : r < 2 ^ 40) :
    ∃ v st', callF Tk F (k + 1) 12 [.cell n, .int m] st = some (.int v, st') ∧ 0 ≤ v ∧ v < m ∧ Well st' n (r + 1) ∧ Turned st n st' := by
  obtain ⟨hs, a, b, c, h, ha, hb, hb2, hc, hcr⟩ := hw
  obtain ⟨hn, hg⟩ := List.getElem?_eq_some_iff.mp h
  by_cases h0 : 0 < a
  · refine ⟨a % m, st.set n (some [.int (a / m), .int b, .int c]), ?_, Int.emod_nonneg _ (by omega), Int.emod_lt_of_pos _ hm, well_set hs hn (Int.ediv_nonneg ha (by omega)) hb hb2 hc (by omega), _, _, _, rfl⟩
    rw [call_at (d := i__law_draw) rfl]
    simp [runD, i__law_draw, evSs, evS, evT, evE, evEs, cop, idxF, itemsD, hn, hg, L2.atI, L2.ixN, biF, hm, hm2, h0, asgTs, setC]
    exact cut_int (hs.set n rfl) (List.length_set)
  · have ea : a = 0 := by omega
    subst ea
    generalize hs1 : (b * 45007 + (c + 1) * 70001 + 5) % 2147483563 = s1
    have s10 : 0 ≤ s1 := by rw [← hs1]; exact Int.emod_nonneg _ (by decide)
    have s11 : s1 < 2147483563 := by rw [← hs1]; exact Int.emod_lt_of_pos _ (by decide)
    generalize hs2 : (s1 * (2 * (s1 / 17) + 30011) + (c + 1)) % 2147483563 = s2
    have s20 : 0 ≤ s2 := by rw [← hs2]; exact Int.emod_nonneg _ (by decide)
    have s21 : s2 < 2147483563 := by rw [← hs2]; exact Int.emod_lt_of_pos _ (by decide)
    have d17 : 0 ≤ s1 / 17 := Int.ediv_nonneg s10 (by decide)
    have d17' : s1 / 17 < 2147483563 := by omega
    have m1 : bop .mul (.int b) (.int 45007) = some (.int (b * 45007)) := mul_ok (n := 40) (m := 40) (log_small (by omega) (by omega)) (log_small (by decide) (by decide)) (by decide)
    have m2 : bop .mul (.int (c + 1)) (.int 70001) = some (.int ((c + 1) * 70001)) := mul_ok (n := 50) (m := 40) (log_small (by omega) (by omega)) (log_small (by decide) (by decide)) (by decide)
    have m3 : bop .mul (.int 2) (.int (s1 / 17)) = some (.int (2 * (s1 / 17))) := mul_ok (n := 40) (m := 40) (log_small (by decide) (by decide)) (log_small (by omega) (by omega)) (by decide)
    have m4 : bop .mul (.int s1) (.int (2 * (s1 / 17) + 30011)) = some (.int (s1 * (2 * (s1 / 17) + 30011))) := mul_ok (n := 40) (m := 40) (log_small (by omega) (by omega)) (log_small (by omega) (by omega)) (by decide)
    have q1 : bop .mod (.int (b * 45007 + (c + 1) * 70001 + 5)) (.int 2147483563) = some (.int s1) := by rw [← hs1, ← fm _ (by decide)]; rfl
    have q2 : bop .mod (.int (s1 * (2 * (s1 / 17) + 30011) + (c + 1))) (.int 2147483563) = some (.int s2) := by rw [← hs2, ← fm _ (by decide)]; rfl
    have q3 : bop .fdiv (.int s1) (.int 17) = some (.int (s1 / 17)) := by rw [← fd _ (by decide)]; simp [bop]; decide +kernel
    have q4 : bop .fdiv (.int s2) (.int 211) = some (.int (s2 / 211)) := by rw [← fd _ (by decide)]; simp [bop]; decide +kernel
    have q5 : bop .mod (.int (s2 / 211)) (.int m) = some (.int (s2 / 211 % m)) := by
      rw [← fm _ hm]
      simp only [bop]
      rw [if_pos (by omega)]
    have a1 : ∀ i j : Int, bop .add (.int i) (.int j) = some (.int (i + j)) := fun _ _ => rfl
    refine ⟨s2 / 211 % m, st.set n (some [.int 0, .int s2, .int (c + 1)]), ?_, Int.emod_nonneg _ (by omega), Int.emod_lt_of_pos _ hm, well_set hs hn (by decide) s20 s21 (by omega) (by omega), _, _, _, rfl⟩
    rw [call_at (d := i__law_draw) rfl]
    simp [runD, i__law_draw, evSs, evS, evT, evE, evEs, cop, idxF, itemsD, hn, hg, L2.atI, L2.ixN, biF, hm, hm2, asgTs, setC, m1, m2, m3, m4, q1, q2, q3, q4, q5, a1]
    exact cut_int (hs.set n rfl) (List.length_set)
theorem cut_pl {st st' : Mi.Store} {v : Mi.D} (hc : ∀ k, v ≠ .cell k) (hf : fitD st.length v = true) (h : SW st') (hl : st'.length = st.length) : Mi.cutD st.length v st' = some (v, st') := by
  have e : st'.take st.length = st' := by rw [← hl, List.take_length]
  have e2 : okC st.length (st'.take st.length) = true := by
    rw [e, ← hl]; exact h
  have go : (if fitD st.length v && okC st.length (st'.take st.length) then some (v, st'.take st.length) else none) = some (v, st') := by rw [hf, e2, e]; rfl
  cases v <;> first | exact absurd rfl (hc _) | exact go
theorem dEq_int (i j : Int) : dEq (.int i) (.int j) = some (decide (i = j)) := by
  have s : ∀ i : Int, SeqAt.shaped (PyData.int i) = true := fun i => rfl
  have e : PyData.eqv (.int i) (.int j) = decide (i = j) := by
    rw [Bool.eq_iff_iff]
    simp [PyData.eqv]
  simp only [dEq, flat0, pd, s, Bool.true_and, if_true, e]
theorem ne_int (i j : Int) : cop .ne (.int i) (.int j) = some (!decide (i = j)) := by
  simp only [cop, dEq_int, Option.map_some]
/-- Euclid's turns -/
theorem euclid {tf : Mi.Env → Mi.Store → Option (Bool × Mi.Store)} {bf : Mi.Env → Mi.Store → Option Mi.Fl} {x y : Option Mi.D} {st : Mi.Store}
    (ht : ∀ a b : Int, tf [x, y, some (.int a), some (.int b)] st = some (!decide (b = 0), st))
    (hb : ∀ a b : Int, 0 < b → bf [x, y, some (.int a), some (.int b)] st = some (.nxt [x, y, some (.int b), some (.int (a % b))] st)) : ∀ (B : Nat) (a b : Int), 0 ≤ a → 0 ≤ b → b.toNat < B →
    loopW tf bf B [x, y, some (.int a), some (.int b)] st = some (.nxt [x, y, some (.int (Int.gcd a b)), some (.int 0)] st)
  | 0, a, b, _, _, h => by omega
  | B + 1, a, b, ha, hb', h => by
    by_cases h0 : b = 0
    · subst h0
      simp only [loopW, ht]
      simp
      omega
    · have hpos : 0 < b := by omega
      have ih := euclid ht hb B b (a % b) hb' (Int.emod_nonneg _ h0) (by
        have := Int.emod_lt_of_pos a hpos
        have := Int.emod_nonneg a h0
        omega)
      have eg : Int.gcd b (a % b) = Int.gcd a b := by
        obtain ⟨m, rfl⟩ := Int.eq_ofNat_of_zero_le ha
        obtain ⟨n, rfl⟩ := Int.eq_ofNat_of_zero_le hb'
        rw [show ((m : Int) % (n : Int)) = ((m % n : Nat) : Int) from rfl]
        show Nat.gcd n (m % n) = Nat.gcd m n
        rw [Nat.gcd_comm n, ← Nat.gcd_rec, Nat.gcd_comm]
      simp only [loopW, ht, hb a b hpos, h0, decide_false, Bool.not_false]
      rw [ih, eg]
theorem ss_nxt {c : CallT} {F : Nat} {s : IS} {r : ISs} {env env' : Mi.Env} {st st' : Mi.Store} (h : evS c F s env st = some (.nxt env' st')) : evSs c F (.cons s r) env st = evSs c F r env' st' := by
  simp only [evSs, h]
theorem ss_ret {c : CallT} {F : Nat} {s : IS} {r : ISs} {env : Mi.Env} {st st' : Mi.Store} {v : Mi.D} (h : evS c F s env st = some (.ret v st')) : evSs c F (.cons s r) env st = some (.ret v st') := by
  simp only [evSs, h]
/-- by how much a fraction is cut -/
def cutBy (t u : Int) : Int := if u > 0 then (Int.gcd t u : Int) else 0 - (Int.gcd t u : Int)
/-- a fraction in lowest terms -/
def ratD (t u : Int) : Mi.D := .tup [.int (t / cutBy t u), .int (u / cutBy t u)]
theorem fdiv_ok {i j : Int} (h0 : j ≠ 0) (h : j.natAbs.log2 < 9000) : bop .fdiv (.int i) (.int j) = some (.int (i.fdiv j)) := by
  simp only [bop]
  rw [if_pos ⟨h0, h⟩]
theorem gcd_bound {t u : Int} (hu : u ≠ 0) (hb : u.natAbs < 2 ^ 8000) : (cutBy t u) ≠ 0 ∧ (cutBy t u).natAbs.log2 < 9000 := by
  have h1 : Int.gcd t u ≠ 0 := fun e => hu (Int.gcd_eq_zero_iff.mp e).2
  have h2 : Int.gcd t u ≤ u.natAbs := Nat.le_of_dvd (Int.natAbs_pos.mpr hu) (Nat.gcd_dvd_right _ _)
  have h3 : (cutBy t u).natAbs = Int.gcd t u := by
    unfold cutBy
    split <;> omega
  refine ⟨fun e => h1 (by rw [← h3, e]; rfl), ?_⟩
  rw [h3]
  have h4 : Int.gcd t u < 2 ^ 8000 := Nat.lt_of_le_of_lt h2 hb
  have := (Nat.log2_lt h1).mpr h4
  omega
theorem dvd_fdiv {a b : Int} (h : b ∣ a) : a.fdiv b = a / b := by
  exact Int.fdiv_eq_ediv_of_dvd h
theorem cutBy_dvd (t u : Int) : cutBy t u ∣ t ∧ cutBy t u ∣ u := by
  unfold cutBy
  have h1 := Int.gcd_dvd_left t u
  have h2 := Int.gcd_dvd_right t u
  split
  · exact ⟨h1, h2⟩
  · rw [Int.zero_sub]
    exact ⟨Int.neg_dvd.mpr h1, Int.neg_dvd.mpr h2⟩
theorem ratio_ok {F k : Nat} {t u : Int} {st : Mi.Store} (hs : SW st) (hu : u ≠ 0) (hb : u.natAbs < 2 ^ 8000) (hF : u.natAbs < F) : callF Tk F (k + 1) 16 [.int t, .int u] st = some (ratD t u, st) := by
  rw [call_at (d := i__law_ratio) rfl]
  have s1 : evS (callF Tk F k) F (.asgP [2, 3] (.cons (.bi .abs (.cons (.var 0) .nil)) (.cons (.bi .abs (.cons (.var 1) .nil)) .nil))) [some (.int t), some (.int u), none, none] st = some (.nxt [some (.int t), some (.int u), some (.int (if t < 0 then -t else t)), some (.int (if u < 0 then -u else u))] st) := by
    simp [evS, evEs, evE, biF]
  have ha : 0 ≤ (if t < 0 then -t else t) := by split <;> omega
  have hb0 : 0 ≤ (if u < 0 then -u else u) := by split <;> omega
  have hbF : (if u < 0 then -u else u).toNat < F := by split <;> omega
  have eg : Int.gcd (if t < 0 then -t else t) (if u < 0 then -u else u) = Int.gcd t u := by
    split <;> split <;> simp [Int.gcd]
  have s2 : evS (callF Tk F k) F (.whl (.cmp .ne (.var 3) (.cst (.int 0))) (.cons (.asgP [2, 3] (.cons (.var 3) (.cons (.bin .mod (.bi .int (.cons (.var 2) .nil)) (.var 3)) .nil))) .nil)) [some (.int t), some (.int u), some (.int (if t < 0 then -t else t)), some (.int (if u < 0 then -u else u))] st =
      some (.nxt [some (.int t), some (.int u), some (.int (Int.gcd t u)), some (.int 0)] st) := by
    rw [← eg]
    refine euclid (fun a b => ?_) (fun a b h => ?_) F _ _ ha hb0 hbF
    · simp only [evT, evE, List.getElem?_cons_succ, List.getElem?_cons_zero, ne_int]
    · have e : bop .mod (.int a) (.int b) = some (.int (a % b)) := by
        rw [← fm a h]
        simp only [bop]
        rw [if_pos (by omega)]
      simp [evSs, evS, evEs, evE, biF, e]
  have s3 : evS (callF Tk F k) F (.asg 2 (.ife (.cmp .gt (.var 1) (.cst (.int 0))) (.var 2) (.bin .sub (.cst (.int 0)) (.var 2)))) [some (.int t), some (.int u), some (.int (Int.gcd t u)), some (.int 0)] st = some (.nxt [some (.int t), some (.int u), some (.int (cutBy t u)), some (.int 0)] st) := by
    by_cases h : u > 0
    · simp [evS, evE, evT, cop, cutBy, h]
    · simp [evS, evE, evT, cop, cutBy, h, bop]
  obtain ⟨g1, g2⟩ := gcd_bound (t := t) hu hb
  obtain ⟨d1, d2⟩ := cutBy_dvd t u
  have s4 : evS (callF Tk F k) F (.ret (.tup (.cons (.bin .fdiv (.var 0) (.var 2)) (.cons (.bin .fdiv (.var 1) (.var 2)) .nil)))) [some (.int t), some (.int u), some (.int (cutBy t u)), some (.int 0)] st = some (.ret (ratD t u) st) := by
    have e1 := fdiv_ok (i := t) g1 g2
    have e2 := fdiv_ok (i := u) g1 g2
    rw [dvd_fdiv d1] at e1
    rw [dvd_fdiv d2] at e2
    have hz : (2 : Nat) ≤ sizeLine := by decide
    simp [evS, evE, evEs, e1, e2, ratD, hz]
  have body : evSs (callF Tk F k) F i__law_ratio.body [some (.int t), some (.int u), none, none] st = some (.ret (ratD t u) st) := by
    show evSs _ _ (.cons _ _) _ _ = _
    rw [ss_nxt s1, ss_nxt s2, ss_nxt s3, ss_ret s4]
  have hcut : Mi.cutD st.length (ratD t u) st = some (ratD t u, st) := cut_pl (fun k => by simp [ratD]) rfl hs rfl
  show (if _ then (match evSs (callF Tk F k) F i__law_ratio.body [some (.int t), some (.int u), none, none] st with
    | some (.ret v st') => Mi.cutD st.length v st'
    | some (.nxt _ st') => Mi.cutD st.length .non st'
    | _ => none) else none) = _
  rw [if_pos ⟨rfl, by decide⟩, body]
  exact hcut
theorem Turned.len {st st' : Mi.Store} {n : Nat} (h : Turned st n st') : st'.length = st.length := by
  obtain ⟨a, b, c, rfl⟩ := h
  exact List.length_set
theorem Well.lt {st : Mi.Store} {n : Nat} {r : Int} (h : Well st n r) : n < st.length := by
  obtain ⟨_, a, b, c, h, _⟩ := h
  exact (List.getElem?_eq_some_iff.mp h).1
/-- a def that only returns -/
theorem run_ret {c : CallT} {F : Nat} {d : Mi.Def} {e : IE} {args : List Mi.D} {st st' : Mi.Store} {v : Mi.D} (hd : d.body = .cons (.ret e) .nil) (hl : args.length = d.np ∧ d.np ≤ d.names.length)
    (he : evE c (args.map some ++ List.replicate (d.names.length - d.np) none) e st = some (v, st')) : runD c F d args st = Mi.cutD st.length v st' := by
  unfold runD
  rw [if_pos hl, hd, ss_ret (v := v) (st' := st') (by simp only [evS, he])]
theorem pick_ok {F k n : Nat} {r : Int} {xs : List Mi.D} {st : Mi.Store} (hw : Well st n r) (hr : r < 2 ^ 40) (h0 : xs ≠ []) (h1 : xs.length < 1000000) (hx : ∀ x ∈ xs, (∀ k, x ≠ .cell k) ∧ ∀ m, fitD m x = true) :
    ∃ x st', callF Tk F (k + 2) 13 [.cell n, .tup xs] st = some (x, st') ∧ x ∈ xs ∧ Well st' n (r + 1) ∧ Turned st n st' := by
  have hlen : 0 < xs.length := List.length_pos_iff.mpr h0
  obtain ⟨v, st', hd, v0, v1, hw', ht⟩ := draw_ok (F := F) (k := k) hw (m := (xs.length : Int)) (by omega) (by omega) hr
  have hv : v.toNat < xs.length := by omega
  have hget : xs[v.toNat]? = some xs[v.toNat] := List.getElem?_eq_getElem hv
  have hat : L2.atI xs v = some xs[v.toNat] := by
    unfold L2.atI L2.ixN
    rw [if_pos v0, if_pos (by omega)]
    exact hget
  have hmem : xs[v.toNat] ∈ xs := List.getElem_mem hv
  refine ⟨xs[v.toNat], st', ?_, hmem, hw', ht⟩
  rw [call_at (d := i__law_pick) rfl]
  refine (run_ret (v := xs[v.toNat]) (st' := st') rfl ⟨rfl, by decide⟩ ?_).trans (cut_pl (hx _ hmem).1 ((hx _ hmem).2 _) hw'.sw ht.len)
  show (match evE (callF Tk F (k + 1)) [some (.cell n), some (.tup xs)] (.var 1) st with
    | some (x, st1) => (match evE (callF Tk F (k + 1)) [some (.cell n), some (.tup xs)] (.call 12 (.cons (.var 0) (.cons (.bi .len (.cons (.var 1) .nil)) .nil))) st1 with
      | some (y, st2) => (match idxF x y st2 with
        | some z => some (z, st2)
        | none => none)
      | none => none)
    | none => none) = _
  have e2 : evE (callF Tk F (k + 1)) [some (.cell n), some (.tup xs)] (.call 12 (.cons (.var 0) (.cons (.bi .len (.cons (.var 1) .nil)) .nil))) st = some (.int v, st') := by
    simp [evE, evEs, biF, itemsD, hd]
  have e1 : evE (callF Tk F (k + 1)) [some (.cell n), some (.tup xs)] (.var 1) st = some (.tup xs, st) := rfl
  simp only [e1, e2, idxF, itemsD, Option.bind_some, hat]
/-- flat ints -/
theorem ints_flat {ns : List Int} : ∀ x ∈ ns.map Mi.D.int, (∀ k, x ≠ .cell k) ∧ ∀ m, fitD m x = true := fun x hx => by
  obtain ⟨i, _, rfl⟩ := List.mem_map.mp hx
  exact ⟨fun k e => (by cases e), fun m => rfl⟩
theorem low_ok {F k n : Nat} {r : Int} {st : Mi.Store} (hw : Well st n r) (hr : r + 1 < 2 ^ 40) :
    ∃ v st', callF Tk F (k + 3) 14 [.cell n] st = some (.int v, st') ∧ -99 ≤ v ∧ v ≤ 99 ∧ Well st' n (r + 2) ∧ Turned st n st' := by
  obtain ⟨x, st1, h1, hx, hw1, ht1⟩ := pick_ok (F := F) (k := k) hw (xs := [3, 3, 3, 2, 1, 6, 20, 99].map Mi.D.int) (by omega) (by decide) (by decide) ints_flat
  obtain ⟨i, hi, rfl⟩ := List.mem_map.mp hx
  have hi2 : 1 ≤ i ∧ i ≤ 99 := by
    simp at hi
    omega
  obtain ⟨v, st2, h2, v0, v1, hw2, ht2⟩ := draw_ok (F := F) (k := k + 1) hw1 (m := 2 * i + 1) (by omega) (by omega) hr
  refine ⟨v - i, st2, ?_, by omega, by omega, by rw [show r + 2 = r + 1 + 1 by omega]; exact hw2, ht1.trans ht2⟩
  rw [call_at (d := i__law_low) rfl]
  have s1 : evS (callF Tk F (k + 2)) F (.asg 1 (.call 13 (.cons (.var 0) (.cons (.tup (.cons (.cst (.int 3)) (.cons (.cst (.int 3)) (.cons (.cst (.int 3)) (.cons (.cst (.int 2)) (.cons (.cst (.int 1)) (.cons (.cst (.int 6)) (.cons (.cst (.int 20)) (.cons (.cst (.int 99)) .nil))))))))) .nil)))) [some (.cell n), none] st = some (.nxt [some (.cell n), some (.int i)] st1) := by
    have hz : (8 : Nat) ≤ sizeLine := by decide
    simp [evS, evE, evEs, hz]
    simp at h1
    rw [h1]
  have m1 : bop .mul (.int 2) (.int i) = some (.int (2 * i)) := mul_ok (n := 10) (m := 10) (log_small (by decide) (by decide)) (log_small (by omega) (by omega)) (by decide)
  have a1 : ∀ i j : Int, bop .add (.int i) (.int j) = some (.int (i + j)) := fun _ _ => rfl
  have b1 : ∀ i j : Int, bop .sub (.int i) (.int j) = some (.int (i - j)) := fun _ _ => rfl
  have s2 : evS (callF Tk F (k + 2)) F (.ret (.bin .sub (.call 12 (.cons (.var 0) (.cons (.bin .add (.bin .mul (.cst (.int 2)) (.var 1)) (.cst (.int 1))) .nil))) (.var 1))) [some (.cell n), some (.int i)] st1 = some (.ret (.int (v - i)) st2) := by
    simp [evS, evE, evEs, m1, a1, b1, h2]
  show (if _ then (match evSs (callF Tk F (k + 2)) F (.cons _ (.cons _ .nil)) [some (.cell n), none] st with
    | some (.ret v st') => Mi.cutD st.length v st'
    | some (.nxt _ st') => Mi.cutD st.length .non st'
    | _ => none) else none) = _
  rw [if_pos ⟨rfl, by decide⟩, ss_nxt s1, ss_ret s2]
  exact cut_int hw2.sw (ht1.trans ht2).len
theorem log_nat {i : Int} {n : Nat} (h : i.natAbs < 2 ^ n) : i.natAbs.log2 ≤ n := by
  by_cases h0 : i.natAbs = 0
  · rw [h0]; simp
  · exact Nat.le_of_lt ((Nat.log2_lt h0).mpr h)
theorem far_step {f d : Int} {B : Nat} (h : f.natAbs < 2 ^ B) (h1 : 0 ≤ d) (h2 : d < 1000003) : (f * 1000003 + d).natAbs < 2 ^ (B + 21) := by
  have e1 : (f * 1000003 + d).natAbs ≤ f.natAbs * 1000003 + d.natAbs := by
    have := Int.natAbs_add_le (f * 1000003) d
    rw [Int.natAbs_mul] at this
    exact this
  have e2 : d.natAbs < 1000003 := by omega
  have e3 : 2 ^ (B + 21) = 2 ^ B * 2097152 := by rw [Nat.pow_add]
  rw [e3]
  omega
abbrev farB : ISs := .cons (.asg 1 (.bin .add (.bin .mul (.var 1) (.cst (.int 1000003))) (.call 12 (.cons (.var 0) (.cons (.cst (.int 1000003)) .nil))))) .nil
theorem far_loop {F k n : Nat} : ∀ (xs : List Mi.D) (f : Int) (B : Nat) (st : Mi.Store) (r : Int) (s : Option Mi.D), Well st n r → f.natAbs < 2 ^ B → B + 21 * xs.length < 2000 → r + xs.length < 2 ^ 40 →
    ∃ f' st' s', loopF (fun x env st => match bindT (.nm 2) x env with
      | some env' => evSs (callF Tk F (k + 1)) F farB env' st
      | none => none) xs [some (.cell n), some (.int f), s] st = some (.nxt [some (.cell n), some (.int f'), s'] st') ∧ f'.natAbs < 2 ^ (B + 21 * xs.length) ∧ Well st' n (r + xs.length) ∧ (st' = st ∨ Turned st n st')
  | [], f, B, st, r, s, hw, hf, _, _ => ⟨f, st, s, rfl, by simpa using hf, by simpa using hw, .inl rfl⟩
  | x :: xs, f, B, st, r, s, hw, hf, hB, hr => by
    simp only [List.length_cons] at hB hr
    obtain ⟨d, st1, h1, d0, d1, hw1, ht1⟩ := draw_ok (F := F) (k := k) hw (m := 1000003) (by decide) (by decide) (by omega)
    have m1 : bop .mul (.int f) (.int 1000003) = some (.int (f * 1000003)) := mul_ok (n := B) (m := 30) (log_nat hf) (log_small (by decide) (by decide)) (by omega)
    have a1 : ∀ i j : Int, bop .add (.int i) (.int j) = some (.int (i + j)) := fun _ _ => rfl
    have s1 : evSs (callF Tk F (k + 1)) F farB [some (.cell n), some (.int f), some x] st = some (.nxt [some (.cell n), some (.int (f * 1000003 + d)), some x] st1) := by
      simp [evSs, evS, evE, evEs, m1, a1, h1]
    obtain ⟨f', st2, s', h2, hf2, hw2, ht2⟩ := far_loop xs (f * 1000003 + d) (B + 21) st1 (r + 1) (some x) hw1 (far_step hf d0 d1) (by omega) (by omega)
    refine ⟨f', st2, s', ?_, by rw [List.length_cons, show B + 21 * (xs.length + 1) = B + 21 + 21 * xs.length by omega]; exact hf2, by rw [List.length_cons, show r + ((xs.length + 1 : Nat) : Int) = r + 1 + (xs.length : Int) by omega]; exact hw2, .inr ?_⟩
    · simp only [loopF, bindT, List.set_cons_succ, List.set_cons_zero, s1]
      exact h2
    · rcases ht2 with rfl | ht2
      · exact ht1
      · exact ht1.trans ht2
theorem far_ok {F k n : Nat} {r : Int} {st : Mi.Store} (hw : Well st n r) (hr : r + 10 < 2 ^ 40) :
    ∃ v st', callF Tk F (k + 4) 15 [.cell n] st = some (.int v, st') ∧ v.natAbs < 2 ^ 80 ∧ Well st' n (r + 6) ∧ Turned st n st' := by
  obtain ⟨f, st1, h1, f0, f1, hw1, ht1⟩ := low_ok (F := F) (k := k) hw (by omega)
  obtain ⟨x, st2, h2, hx, hw2, ht2⟩ := pick_ok (F := F) (k := k + 1) hw1 (xs := [0, 0, 1, 3].map Mi.D.int) (by omega) (by decide) (by decide) ints_flat
  obtain ⟨i, hi, rfl⟩ := List.mem_map.mp hx
  have hi2 : 0 ≤ i ∧ i ≤ 3 := by
    simp at hi
    omega
  obtain ⟨v, st3, s', h3, hv, hw3, ht3⟩ := far_loop (F := F) (k := k + 2) ((List.range i.toNat).map fun j => .int (0 + (j : Nat))) f 7 st2 (r + 2 + 1) none hw2 (by omega) (by simp; omega) (by simp; omega)
  have hl : ((List.range i.toNat).map fun j : Nat => Mi.D.int (0 + (j : Nat))).length = i.toNat := by simp
  rw [hl] at hv hw3
  have hlen3 : st3.length = st.length := by
    have e1 := (ht1.trans ht2).len
    rcases ht3 with rfl | ht3
    · exact e1
    · rw [ht3.len, e1]
  have hT : Turned st n st3 := by
    rcases ht3 with rfl | ht3
    · exact ht1.trans ht2
    · exact (ht1.trans ht2).trans ht3
  refine ⟨v, st3, ?_, ?_, ?_, hT⟩
  · rw [call_at (d := i__law_far) rfl]
    have s1 : evS (callF Tk F (k + 3)) F (.asg 1 (.call 14 (.cons (.var 0) .nil))) [some (.cell n), none, none] st = some (.nxt [some (.cell n), some (.int f), none] st1) := by
      simp [evS, evE, evEs, h1]
    have s2 : evS (callF Tk F (k + 3)) F (.forr (.nm 2) (.rng (.call 13 (.cons (.var 0) (.cons (.tup (.cons (.cst (.int 0)) (.cons (.cst (.int 0)) (.cons (.cst (.int 1)) (.cons (.cst (.int 3)) .nil))))) .nil)))) farB) [some (.cell n), some (.int f), none] st1 = some (.nxt [some (.cell n), some (.int v), s'] st3) := by
      have hz : (4 : Nat) ≤ sizeLine := by decide
      have e : evI (callF Tk F (k + 3)) [some (.cell n), some (.int f), none] (.rng (.call 13 (.cons (.var 0) (.cons (.tup (.cons (.cst (.int 0)) (.cons (.cst (.int 0)) (.cons (.cst (.int 1)) (.cons (.cst (.int 3)) .nil))))) .nil)))) st1 = some ((List.range i.toNat).map fun j => .int (0 + (j : Nat)), st2) := by
        simp only [List.map_cons, List.map_nil] at h2
        simp [evI, evE, evEs, hz, h2]
        omega
      simp only [evS, e]
      exact h3
    have s3 : evS (callF Tk F (k + 3)) F (.ret (.var 1)) [some (.cell n), some (.int v), s'] st3 = some (.ret (.int v) st3) := by
      simp [evS, evE]
    show (if _ then (match evSs (callF Tk F (k + 3)) F (.cons _ (.cons _ (.cons _ .nil))) [some (.cell n), none, none] st with
      | some (.ret v st') => Mi.cutD st.length v st'
      | some (.nxt _ st') => Mi.cutD st.length .non st'
      | _ => none) else none) = _
    rw [if_pos ⟨rfl, by decide⟩, ss_nxt s1, ss_nxt s2, ss_ret s3]
    exact cut_int hw3.sw hlen3
  · exact Nat.lt_of_lt_of_le hv (Nat.pow_le_pow_right (by decide) (by omega))
  · obtain ⟨a, b, c, e, h4, h5, h6, h7, h8⟩ := hw3.ex
    exact ⟨hw3.sw, a, b, c, e, h4, h5, h6, h7, by omega⟩
/-- a number of the fractions -/
def fracD (q : Rat) : Mi.D := .tup [.int q.num, .int (q.den : Int)]
theorem ratD_eq {t u : Int} (hu : u ≠ 0) : ratD t u = fracD (Rat.divInt t u) := by
  have g1 : (Int.gcd t u : Int) ∣ t := Int.gcd_dvd_left t u
  have g2 : (Int.gcd t u : Int) ∣ u := Int.gcd_dvd_right t u
  unfold ratD fracD cutBy
  rw [Rat.num_divInt, Rat.den_divInt, if_neg hu, Int.gcd_comm u t]
  by_cases h : u > 0
  · rw [if_pos h]
    have e1 : u.sign = 1 := Int.sign_eq_one_of_pos h
    have e2 : ((u.natAbs / Int.gcd t u : Nat) : Int) = u / (Int.gcd t u : Int) := by
      rw [Int.natCast_ediv, Int.natAbs_of_nonneg (by omega)]
    rw [e1, e2, Int.one_mul]
  · rw [if_neg h]
    have hn : u < 0 := by omega
    have e1 : u.sign = -1 := Int.sign_eq_neg_one_of_neg hn
    have e2 : ((u.natAbs / Int.gcd t u : Nat) : Int) = -u / (Int.gcd t u : Int) := by
      rw [Int.natCast_ediv]
      congr 1
      omega
    rw [e1, e2, Int.zero_sub, Int.ediv_neg, Int.ediv_neg, Int.neg_ediv_of_dvd g2, show (-1 * t) = -t by omega, Int.neg_ediv_of_dvd g1]
/-- no greater than two to the B -/
def Bd (B : Nat) (q : Rat) : Prop := q.num.natAbs < 2 ^ B ∧ q.den < 2 ^ B
theorem den_ne (q : Rat) : (q.den : Int) ≠ 0 := by
  have := q.den_nz
  omega
theorem natAbs_mul_lt {a b : Int} {B : Nat} (h1 : a.natAbs < 2 ^ B) (h2 : b.natAbs < 2 ^ B) : (a * b).natAbs < 2 ^ (B + B) := by
  rw [Int.natAbs_mul, Nat.pow_add]
  exact Nat.mul_lt_mul'' h1 h2
theorem by_ok {F k B : Nat} {x y : Rat} {st : Mi.Store} (hs : SW st) (hx : Bd B x) (hy : Bd B y) (hB : B + B ≤ 8000) (hF : 2 ^ 8000 ≤ F) : callF Tk F (k + 2) 18 [fracD x, fracD y] st = some (fracD (x * y), st) := by
  rw [call_at (d := i__law_by) rfl]
  have d1 : ((x.den : Int)).natAbs < 2 ^ B := by simpa using hx.2
  have d2 : ((y.den : Int)).natAbs < 2 ^ B := by simpa using hy.2
  have m1 : bop .mul (.int x.num) (.int y.num) = some (.int (x.num * y.num)) := mul_ok (n := B) (m := B) (log_nat hx.1) (log_nat hy.1) (by omega)
  have m2 : bop .mul (.int (x.den : Int)) (.int (y.den : Int)) = some (.int ((x.den : Int) * (y.den : Int))) := mul_ok (n := B) (m := B) (log_nat d1) (log_nat d2) (by omega)
  have hu : (x.den : Int) * (y.den : Int) ≠ 0 := Int.mul_ne_zero (den_ne x) (den_ne y)
  have hb : ((x.den : Int) * (y.den : Int)).natAbs < 2 ^ 8000 := Nat.lt_of_lt_of_le (natAbs_mul_lt d1 d2) (Nat.pow_le_pow_right (by decide) hB)
  have hr := ratio_ok (F := F) (k := k) (t := x.num * y.num) hs hu hb (Nat.lt_of_lt_of_le hb hF)
  have e : Rat.divInt (x.num * y.num) ((x.den : Int) * (y.den : Int)) = x * y := by
    rw [← Rat.divInt_mul_divInt, Rat.num_divInt_den, Rat.num_divInt_den]
  rw [ratD_eq hu, e] at hr
  refine (run_ret (v := fracD (x * y)) (st' := st) rfl ⟨rfl, by decide⟩ ?_).trans (cut_pl (fun k => by simp [fracD]) rfl hs rfl)
  have i0 : ∀ q : Rat, idxF (fracD q) (.int 0) st = some (.int q.num) := fun q => rfl
  have i1 : ∀ q : Rat, idxF (fracD q) (.int 1) st = some (.int (q.den : Int)) := fun q => rfl
  show evE (callF Tk F (k + 1)) [some (fracD x), some (fracD y)] _ st = _
  simp only [evE, evEs, List.getElem?_cons_zero, List.getElem?_cons_succ, i0, i1, m1, m2, hr]
theorem less_ok {F k B : Nat} {x y : Rat} {st : Mi.Store} (hs : SW st) (hx : Bd B x) (hy : Bd B y) (hB : B + B ≤ 8000) (hF : 2 ^ 8000 ≤ F) : callF Tk F (k + 2) 17 [fracD x, fracD y] st = some (fracD (x - y), st) := by
  rw [call_at (d := i__law_less) rfl]
  have d1 : ((x.den : Int)).natAbs < 2 ^ B := by simpa using hx.2
  have d2 : ((y.den : Int)).natAbs < 2 ^ B := by simpa using hy.2
  have m1 : bop .mul (.int x.num) (.int (y.den : Int)) = some (.int (x.num * (y.den : Int))) := mul_ok (n := B) (m := B) (log_nat hx.1) (log_nat d2) (by omega)
  have m2 : bop .mul (.int y.num) (.int (x.den : Int)) = some (.int (y.num * (x.den : Int))) := mul_ok (n := B) (m := B) (log_nat hy.1) (log_nat d1) (by omega)
  have m3 : bop .mul (.int (x.den : Int)) (.int (y.den : Int)) = some (.int ((x.den : Int) * (y.den : Int))) := mul_ok (n := B) (m := B) (log_nat d1) (log_nat d2) (by omega)
  have b1 : ∀ i j : Int, bop .sub (.int i) (.int j) = some (.int (i - j)) := fun _ _ => rfl
  have hu : (x.den : Int) * (y.den : Int) ≠ 0 := Int.mul_ne_zero (den_ne x) (den_ne y)
  have hb : ((x.den : Int) * (y.den : Int)).natAbs < 2 ^ 8000 := Nat.lt_of_lt_of_le (natAbs_mul_lt d1 d2) (Nat.pow_le_pow_right (by decide) hB)
  have hr := ratio_ok (F := F) (k := k) (t := x.num * (y.den : Int) - y.num * (x.den : Int)) hs hu hb (Nat.lt_of_lt_of_le hb hF)
  have e : Rat.divInt (x.num * (y.den : Int) - y.num * (x.den : Int)) ((x.den : Int) * (y.den : Int)) = x - y := by
    rw [← Rat.divInt_sub_divInt _ _ (den_ne x) (den_ne y), Rat.num_divInt_den, Rat.num_divInt_den]
  rw [ratD_eq hu, e] at hr
  refine (run_ret (v := fracD (x - y)) (st' := st) rfl ⟨rfl, by decide⟩ ?_).trans (cut_pl (fun k => by simp [fracD]) rfl hs rfl)
  have i0 : ∀ q : Rat, idxF (fracD q) (.int 0) st = some (.int q.num) := fun q => rfl
  have i1 : ∀ q : Rat, idxF (fracD q) (.int 1) st = some (.int (q.den : Int)) := fun q => rfl
  show evE (callF Tk F (k + 1)) [some (fracD x), some (fracD y)] _ st = _
  simp only [evE, evEs, List.getElem?_cons_zero, List.getElem?_cons_succ, i0, i1, m1, m2, m3, b1, hr]
/-- three numbers -/
def triD (a b c : Rat) : Mi.D := .tup [fracD a, fracD b, fracD c]
theorem frac0 : fracD 0 = .tup [.int 0, .int 1] := rfl
theorem nought_ok {F k : Nat} {st : Mi.Store} (hs : SW st) : callF Tk F (k + 1) 21 [] st = some (triD 0 0 0, st) := by
  rw [call_at (d := i__law_nought) rfl]
  refine (run_ret (v := triD 0 0 0) (st' := st) rfl ⟨rfl, by decide⟩ ?_).trans (cut_pl (fun k => by simp [triD]) rfl hs rfl)
  have h2 : (2 : Nat) ≤ sizeLine := by decide
  have h3 : (3 : Nat) ≤ sizeLine := by decide
  simp [evE, evEs, h2, h3, triD, frac0]
theorem part_ok {F k n : Nat} {r : Int} {st : Mi.Store} (hw : Well st n r) (hr : r + 10 < 2 ^ 40) (hF : 2 ^ 8000 ≤ F) :
    ∃ q st', callF Tk F (k + 4) 22 [.cell n] st = some (fracD q, st') ∧ Bd 8 q ∧ Well st' n (r + 3) ∧ Turned st n st' := by
  obtain ⟨v, st1, h1, v0, v1, hw1, ht1⟩ := low_ok (F := F) (k := k) hw (by omega)
  obtain ⟨x, st2, h2, hx, hw2, ht2⟩ := pick_ok (F := F) (k := k + 1) hw1 (xs := [1, 1, 1, 1, 2, 3, 4, 7].map Mi.D.int) (by omega) (by decide) (by decide) ints_flat
  obtain ⟨i, hi, rfl⟩ := List.mem_map.mp hx
  have hi2 : 1 ≤ i ∧ i ≤ 7 := by
    simp at hi
    omega
  have hu : i ≠ 0 := by omega
  have hb : i.natAbs < 2 ^ 8000 := Nat.lt_of_lt_of_le (show i.natAbs < 2 ^ 3 by omega) (Nat.pow_le_pow_right (by decide) (by decide))
  have h3 := ratio_ok (F := F) (k := k + 2) (t := v) hw2.sw hu hb (Nat.lt_of_lt_of_le hb hF)
  rw [ratD_eq hu] at h3
  have hq : Bd 8 (Rat.divInt v i) := by
    constructor
    · rw [Rat.num_divInt, show i.sign = 1 from Int.sign_eq_one_of_pos (by omega), Int.one_mul]
      have := Int.natAbs_ediv_le_natAbs v (Int.gcd i v : Int)
      omega
    · rw [Rat.den_divInt, if_neg hu]
      have := Nat.div_le_self i.natAbs (Int.gcd i v)
      omega
  refine ⟨Rat.divInt v i, st2, ?_, hq, by rw [show r + 3 = r + 2 + 1 by omega]; exact hw2, ht1.trans ht2⟩
  rw [call_at (d := i__law_part) rfl]
  refine (run_ret (v := fracD (Rat.divInt v i)) (st' := st2) rfl ⟨rfl, by decide⟩ ?_).trans (cut_pl (fun k => by simp [fracD]) rfl hw2.sw (ht1.trans ht2).len)
  have hz : (8 : Nat) ≤ sizeLine := by decide
  simp only [List.map_cons, List.map_nil] at h2
  show evE (callF Tk F (k + 3)) [some (.cell n)] _ st = _
  simp [evE, evEs, hz, h1, h2, h3]
mutual
theorem fit_mono {n m : Nat} (h : n ≤ m) : ∀ {d : Mi.D}, fitD n d = true → fitD m d = true
  | .non, _ => rfl
  | .bl _, _ => rfl
  | .int _, _ => rfl
  | .str _, _ => rfl
  | .tup xs, e => by simp only [fitD] at e ⊢; exact fits_mono h e
  | .lst xs, e => by simp only [fitD] at e ⊢; exact fits_mono h e
  | .scr xs, e => by simp only [fitD] at e ⊢; exact fits_mono h e
  | .cell k, e => by simp only [fitD, decide_eq_true_eq] at e ⊢; omega
  | .dct _ vs, e => by simp only [fitD] at e ⊢; exact fits_mono h e
  | .exc _ _ vs, e => by simp only [fitD] at e ⊢; exact fits_mono h e
theorem fits_mono {n m : Nat} (h : n ≤ m) : ∀ {ds : List Mi.D}, fitDs n ds = true → fitDs m ds = true
  | [], _ => rfl
  | d :: ds, e => by
    simp only [fitDs, Bool.and_eq_true] at e ⊢
    exact ⟨fit_mono h e.1, fits_mono h e.2⟩
end
theorem fits_all {n : Nat} {ds : List Mi.D} (h : ∀ d ∈ ds, fitD n d = true) : fitDs n ds = true := by
  induction ds with
  | nil => rfl
  | cons d ds ih =>
    simp only [fitDs, Bool.and_eq_true]
    exact ⟨h d List.mem_cons_self, ih fun x hx => h x (List.mem_cons_of_mem _ hx)⟩
theorem fit_mem {n : Nat} : ∀ {ds : List Mi.D} {d : Mi.D}, fitDs n ds = true → d ∈ ds → fitD n d = true
  | x :: xs, d, h, hd => by
    simp only [fitDs, Bool.and_eq_true] at h
    rcases List.mem_cons.mp hd with rfl | hd
    · exact h.1
    · exact fit_mem h.2 hd
theorem SW.push {st : Mi.Store} (h : SW st) {xs : List Mi.D} (hx : fitDs (st.length + 1) xs = true) : SW (st ++ [some xs]) := by
  unfold SW okC at *
  rw [List.length_append, List.length_singleton, List.all_append, Bool.and_eq_true]
  refine ⟨?_, by simpa using hx⟩
  rw [List.all_eq_true] at *
  intro c hc
  have := h c hc
  cases c with
  | none => rfl
  | some ys => exact fits_mono (Nat.le_succ _) this
theorem map_pure {f : Mi.D → Mi.Store → Option (Option Mi.D × Mi.Store)} {g : Mi.D → Mi.D} {st : Mi.Store} (hs : SW st) : ∀ (xs acc : List Mi.D), (∀ x ∈ xs, (∀ st', SW st' → f x st' = some (some (g x), st')) ∧ ∀ m, fitD m (g x) = true) → fitDs (st.length + 1) acc = true → acc.length + xs.length ≤ sizeLine →
    mapSt st.length f xs (st ++ [some acc]) = some (st ++ [some (acc ++ xs.map g)])
  | [], acc, _, _, _ => by simp [mapSt]
  | x :: xs, acc, h, ha, hl => by
    have hx := h x List.mem_cons_self
    rw [List.length_cons] at hl
    have e : (st ++ [some acc])[st.length]? = some (some acc) := by simp
    have e2 : (st ++ [some acc]).set st.length (some (acc ++ [g x])) = st ++ [some (acc ++ [g x])] := by simp
    simp only [mapSt, hx.1 _ (hs.push ha), e]
    rw [if_pos (by omega), e2, map_pure hs xs (acc ++ [g x]) (fun y hy => h y (List.mem_cons_of_mem _ hy)) ?_ (by rw [List.length_append, List.length_singleton]; omega)]
    · simp
    · refine fits_all fun d hd => ?_
      rcases List.mem_append.mp hd with hd | hd
      · exact fit_mem ha hd
      · rw [List.mem_singleton.mp hd]; exact hx.2 _
/-- a comprehension of values that change nothing -/
theorem comp_pure {c : CallT} {env : Mi.Env} {elt : IE} {tg : ITg} {it : II} {own : List (PySem.Str × Nat)} {st : Mi.Store} {xs : List Mi.D} {g : Mi.D → Mi.D} (hs : SW st) (hi : evI c env it st = some (xs, st)) (ho : tgOwn tg (own.map (·.2)) = true) (hl : xs.length ≤ sizeLine)
    (h : ∀ x ∈ xs, (∀ st', SW st' → turnF c (wipeE env (own.map (·.2))) tg .none elt x st' = some (some (g x), st')) ∧ ∀ m, fitD m (g x) = true) : evE c env (.comp elt tg it .none own) st = some (.lst (xs.map g), st) := by
  have m := map_pure hs xs [] h rfl (by simpa using hl)
  rw [List.nil_append] at m
  have e : (st ++ [some (xs.map g)])[st.length]? = some (some (xs.map g)) := by simp
  have hf : fitDs st.length (xs.map g) = true := fits_all fun d hd => by
    obtain ⟨x, hx, rfl⟩ := List.mem_map.mp hd
    exact (h x hx).2 _
  have hc : Mi.cutD st.length (.lst (xs.map g)) (st ++ [some (xs.map g)]) = some (.lst (xs.map g), st) := by
    have e3 : (st ++ [some (xs.map g)]).take st.length = st := by simp
    have hs' : okC st.length st = true := hs
    show (if fitD st.length (.lst (xs.map g)) && okC st.length ((st ++ [some (xs.map g)]).take st.length) then some (Mi.D.lst (xs.map g), (st ++ [some (xs.map g)]).take st.length) else none) = _
    rw [e3, show fitD st.length (.lst (xs.map g)) = true from hf, hs']; rfl
  show (match evI c env it st with
    | some (xs, st1) => if tgOwn tg (own.map fun p : PySem.Str × Nat => p.2) then (match mapSt st1.length (turnF c (wipeE env (own.map fun p : PySem.Str × Nat => p.2)) tg .none elt) xs (st1 ++ [some []]) with
      | some st2 => (match st2[st1.length]? with
        | some (some ys) => Mi.cutD st1.length (.lst ys) st2
        | _ => none)
      | none => none) else none
    | none => none) = _
  simp only [hi, ho, if_true, m, e]
  exact hc
/-- the number of a fraction's data -/
def ratOf : Mi.D → Rat
  | .tup [.int n, .int d] => Rat.divInt n d
  | _ => 0
theorem ratOf_frac (q : Rat) : ratOf (fracD q) = q := Rat.num_divInt_den q
theorem times_ok {F k B : Nat} {a b c q : Rat} {st : Mi.Store} (hs : SW st) (ha : Bd B a) (hb : Bd B b) (hc : Bd B c) (hq : Bd B q) (hB : B + B ≤ 8000) (hF : 2 ^ 8000 ≤ F) : callF Tk F (k + 3) 19 [triD a b c, fracD q] st = some (triD (a * q) (b * q) (c * q), st) := by
  rw [call_at (d := i__law_times) rfl]
  refine (run_ret (v := triD (a * q) (b * q) (c * q)) (st' := st) rfl ⟨rfl, by decide⟩ ?_).trans (cut_pl (fun k => by simp [triD]) rfl hs rfl)
  have hz : (3 : Nat) ≤ sizeLine := by decide
  have turn : ∀ x : Rat, Bd B x → ∀ st', SW st' → turnF (callF Tk F (k + 2)) (wipeE [some (triD a b c), some (fracD q), none] [2]) (.nm 2) .none (.call 18 (.cons (.var 2) (.cons (.var 1) .nil))) (fracD x) st' = some (some (fracD (x * q)), st') := fun x hx st' hs' => by
    have e := by_ok (F := F) (k := k) hs' hx hq hB hF
    simp [turnF, bindT, wipeE, evTo, evE, evEs, e]
  have e := comp_pure (c := callF Tk F (k + 2)) (env := [some (triD a b c), some (fracD q), none]) (elt := .call 18 (.cons (.var 2) (.cons (.var 1) .nil))) (tg := .nm 2) (it := .seq (.var 0)) (own := [("_law_each", 2)]) (st := st) (xs := [fracD a, fracD b, fracD c]) (g := fun x => fracD (ratOf x * q)) hs rfl rfl hz (fun x hx => ⟨fun st' hs' => ?_, fun m => rfl⟩)
  · simp only [List.map_cons, List.map_nil, ratOf_frac] at e
    show evE (callF Tk F (k + 2)) [some (triD a b c), some (fracD q), none] (.bi .tuple (.cons _ .nil)) st = _
    show (match evEs (callF Tk F (k + 2)) [some (triD a b c), some (fracD q), none] (.cons _ .nil) st with
      | some (xs, st1) => (match biF .tuple xs st1 with
        | some z => some (z, st1)
        | none => none)
      | none => none) = _
    rw [show ∀ e : IE, evEs (callF Tk F (k + 2)) [some (triD a b c), some (fracD q), none] (.cons e .nil) st = (match evE (callF Tk F (k + 2)) [some (triD a b c), some (fracD q), none] e st with
      | some (x, st1) => some ([x], st1)
      | none => none) from fun e => rfl, e]
    rfl
  · simp only [List.mem_cons, List.not_mem_nil, or_false] at hx
    rcases hx with rfl | rfl | rfl <;> rw [ratOf_frac]
    · exact turn a ha st' hs'
    · exact turn b hb st' hs'
    · exact turn c hc st' hs'
theorem divInt_bd {t u : Int} (hu : u ≠ 0) : (Rat.divInt t u).num.natAbs ≤ t.natAbs ∧ (Rat.divInt t u).den ≤ u.natAbs := by
  constructor
  · rw [Rat.num_divInt]
    have h1 := Int.natAbs_ediv_le_natAbs (u.sign * t) (Int.gcd u t : Int)
    have h2 : (u.sign * t).natAbs = t.natAbs := by
      rw [Int.natAbs_mul, Int.natAbs_sign_of_ne_zero hu, Nat.one_mul]
    omega
  · rw [Rat.den_divInt, if_neg hu]
    exact Nat.div_le_self _ _
theorem Bd.mul {B : Nat} {x y : Rat} (hx : Bd B x) (hy : Bd B y) : Bd (B + B) (x * y) := by
  have e : x * y = Rat.divInt (x.num * y.num) ((x.den : Int) * (y.den : Int)) := by
    rw [← Rat.divInt_mul_divInt, Rat.num_divInt_den, Rat.num_divInt_den]
  have hu : (x.den : Int) * (y.den : Int) ≠ 0 := Int.mul_ne_zero (den_ne x) (den_ne y)
  obtain ⟨h1, h2⟩ := divInt_bd (t := x.num * y.num) hu
  rw [e]
  refine ⟨Nat.lt_of_le_of_lt h1 (natAbs_mul_lt hx.1 hy.1), Nat.lt_of_le_of_lt h2 (natAbs_mul_lt ?_ ?_)⟩
  · simpa using hx.2
  · simpa using hy.2
theorem Bd.mono {B C : Nat} {x : Rat} (h : Bd B x) (hc : B ≤ C) : Bd C x :=
  ⟨Nat.lt_of_lt_of_le h.1 (Nat.pow_le_pow_right (by decide) hc), Nat.lt_of_lt_of_le h.2 (Nat.pow_le_pow_right (by decide) hc)⟩
theorem cross_step {F k B : Nat} {a b c x y z : Rat} {st : Mi.Store} (hs : SW st) (hB : B ≤ 2000) (hF : 2 ^ 8000 ≤ F) :
    ∀ (i h t : Int) (p q u v : Rat) (acc : List Mi.D) (e3 e4 e5 : Option Mi.D), fitDs (st.length + 1) acc = true → acc.length < 10 → (i + 1) % 3 = h → (i + 2) % 3 = t → Bd B p → Bd B q → Bd B u → Bd B v →
      L2.atI [fracD a, fracD b, fracD c] h = some (fracD p) → L2.atI [fracD x, fracD y, fracD z] t = some (fracD q) → L2.atI [fracD a, fracD b, fracD c] t = some (fracD u) → L2.atI [fracD x, fracD y, fracD z] h = some (fracD v) →
      evSs (callF Tk F (k + 2)) F (.cons (.asgP [4, 5] (.cons (.bin .mod (.bi .int (.cons (.bin .add (.var 3) (.cst (.int 1))) .nil)) (.cst (.int 3))) (.cons (.bin .mod (.bi .int (.cons (.bin .add (.var 3) (.cst (.int 2))) .nil)) (.cst (.int 3))) .nil)))
        (.cons (.app 2 (.call 17 (.cons (.call 18 (.cons (.idx (.var 0) (.var 4)) (.cons (.idx (.var 1) (.var 5)) .nil))) (.cons (.call 18 (.cons (.idx (.var 0) (.var 5)) (.cons (.idx (.var 1) (.var 4)) .nil))) .nil)))) .nil))
        [some (triD a b c), some (triD x y z), some (.cell st.length), some (.int i), e4, e5] (st ++ [some acc]) =
      some (.nxt [some (triD a b c), some (triD x y z), some (.cell st.length), some (.int i), some (.int h), some (.int t)] (st ++ [some (acc ++ [fracD (p * q - u * v)])])) := by
    intro i h t p q u v acc e3 e4 e5 hacc hlen hh ht hp hq hu hv i1 i2 i3 i4
    have hsa := hs.push hacc
    have r1 := by_ok (F := F) (k := k) hsa hp hq (by omega) hF
    have r2 := by_ok (F := F) (k := k) hsa hu hv (by omega) hF
    have r3 := less_ok (F := F) (k := k) hsa (hp.mul hq) (hu.mul hv) (by omega) hF
    have a1 : ∀ i j : Int, bop .add (.int i) (.int j) = some (.int (i + j)) := fun _ _ => rfl
    have m1 : ∀ j : Int, bop .mod (.int j) (.int 3) = some (.int (j % 3)) := fun j => by rw [← fm j (by decide)]; rfl
    have s1 : evS (callF Tk F (k + 2)) F (.asgP [4, 5] (.cons (.bin .mod (.bi .int (.cons (.bin .add (.var 3) (.cst (.int 1))) .nil)) (.cst (.int 3))) (.cons (.bin .mod (.bi .int (.cons (.bin .add (.var 3) (.cst (.int 2))) .nil)) (.cst (.int 3))) .nil)))
        [some (triD a b c), some (triD x y z), some (.cell st.length), some (.int i), e4, e5] (st ++ [some acc]) = some (.nxt [some (triD a b c), some (triD x y z), some (.cell st.length), some (.int i), some (.int h), some (.int t)] (st ++ [some acc])) := by
      simp [evS, evEs, evE, biF, a1, m1, hh, ht]
    rw [ss_nxt s1]
    have k1 : idxF (triD a b c) (.int h) (st ++ [some acc]) = some (fracD p) := i1
    have k2 : idxF (triD x y z) (.int t) (st ++ [some acc]) = some (fracD q) := i2
    have k3 : idxF (triD a b c) (.int t) (st ++ [some acc]) = some (fracD u) := i3
    have k4 : idxF (triD x y z) (.int h) (st ++ [some acc]) = some (fracD v) := i4
    have hz : acc.length < sizeLine := Nat.lt_trans hlen (by decide)
    simp [evSs, evS, evE, evEs, k1, k2, k3, k4, r1, r2, r3, hz]
theorem cut_more {st : Mi.Store} {v : Mi.D} {c : Option (List Mi.D)} (hc : ∀ k, v ≠ .cell k) (hf : fitD st.length v = true) (h : SW st) : Mi.cutD st.length v (st ++ [c]) = some (v, st) := by
  have e : (st ++ [c]).take st.length = st := List.take_left
  have go : (if fitD st.length v && okC st.length ((st ++ [c]).take st.length) then some (v, (st ++ [c]).take st.length) else none) = some (v, st) := by
    rw [e, hf, show okC st.length st = true from h]; rfl
  cases v <;> first | exact absurd rfl (hc _) | exact go
theorem cross_ok {F k B : Nat} {a b c x y z : Rat} {st : Mi.Store} (hs : SW st) (ha : Bd B a) (hb : Bd B b) (hc : Bd B c) (hx : Bd B x) (hy : Bd B y) (hz : Bd B z) (hB : B ≤ 2000) (hF : 2 ^ 8000 ≤ F) :
    callF Tk F (k + 3) 20 [triD a b c, triD x y z] st = some (triD (b * z - c * y) (c * x - a * z) (a * y - b * x), st) := by
  rw [call_at (d := i__law_cross) rfl]
  have step := @cross_step F k B a b c x y z st hs hB hF
  have f1 : ∀ (n : Nat) (q : Rat), fitD n (fracD q) = true := fun n q => rfl
  have p0 := step 0 1 2 b z c y [] none none none rfl (by decide) rfl rfl hb hz hc hy rfl rfl rfl rfl
  have p1 := step 1 2 0 c x a z [fracD (b * z - c * y)] (some (.int 0)) (some (.int 1)) (some (.int 2)) rfl (by simp) rfl rfl hc hx ha hz rfl rfl rfl rfl
  have p2 := step 2 0 1 a y b x [fracD (b * z - c * y), fracD (c * x - a * z)] (some (.int 1)) (some (.int 2)) (some (.int 0)) rfl (by simp) rfl rfl ha hy hb hx rfl rfl rfl rfl
  have s1 : evS (callF Tk F (k + 2)) F (.asg 2 (.ncl .nil)) [some (triD a b c), some (triD x y z), none, none, none, none] st = some (.nxt [some (triD a b c), some (triD x y z), some (.cell st.length), none, none, none] (st ++ [some []])) := by
    rfl
  have sI : ∀ (env : Mi.Env) (st' : Mi.Store), evI (callF Tk F (k + 2)) env (.rng (.cst (.int 3))) st' = some ([.int 0, .int 1, .int 2], st') := fun _ _ => rfl
  have body : evSs (callF Tk F (k + 2)) F i__law_cross.body [some (triD a b c), some (triD x y z), none, none, none, none] st = some (.ret (triD (b * z - c * y) (c * x - a * z) (a * y - b * x)) (st ++ [some [fracD (b * z - c * y), fracD (c * x - a * z), fracD (a * y - b * x)]])) := by
    unfold i__law_cross
    rw [ss_nxt s1]
    refine (ss_nxt (env' := [some (triD a b c), some (triD x y z), some (.cell st.length), some (.int 2), some (.int 0), some (.int 1)]) (st' := st ++ [some [fracD (b * z - c * y), fracD (c * x - a * z), fracD (a * y - b * x)]]) ?_).trans ?_
    · simp only [evS, sI]
      simp only [loopF, bindT, List.set_cons_succ, List.set_cons_zero]
      rw [p0]
      simp only [List.nil_append, List.cons_append, List.set_cons_succ, List.set_cons_zero]
      rw [p1]
      simp only [List.nil_append, List.cons_append, List.set_cons_succ, List.set_cons_zero]
      rw [p2]
      rfl
    · simp [evSs, evS, evE, evEs, biF, itemsD, triD]
  unfold runD
  rw [if_pos ⟨rfl, by decide⟩]
  show (match evSs (callF Tk F (k + 2)) F i__law_cross.body [some (triD a b c), some (triD x y z), none, none, none, none] st with
    | some (.ret v st') => Mi.cutD st.length v st'
    | some (.nxt _ st') => Mi.cutD st.length .non st'
    | _ => none) = _
  rw [body]
  exact cut_more (fun k => by simp [triD]) rfl hs
theorem dEq_frac (x y : Rat) : dEq (fracD x) (fracD y) = some (decide (x = y)) := by
  have s : ∀ q : Rat, SeqAt.shaped (pd (fracD q)) = true := fun q => rfl
  have f : ∀ q : Rat, flat0 (fracD q) = true := fun q => rfl
  have e : PyData.eqv (pd (fracD x)) (pd (fracD y)) = decide (x = y) := by
    rw [Bool.eq_iff_iff]
    show PyData.eqv (.tuple [.int x.num, .int (x.den : Int)]) (.tuple [.int y.num, .int (y.den : Int)]) = true ↔ _
    simp only [PyData.eqv, PyData.eqvAll, Bool.and_true, Bool.and_eq_true, decide_eq_true_eq]
    constructor
    · intro h
      exact Rat.ext (by simpa using h.1) (Int.ofNat.inj (by simpa using h.2))
    · rintro rfl
      simp
  simp only [dEq, f, s, Bool.true_and, if_true, e]
theorem ne_frac (x y : Rat) : cop .ne (fracD x) (fracD y) = some (!decide (x = y)) := by
  simp only [cop, dEq_frac, Option.map_some]
theorem some_ok {F k n : Nat} {r : Int} {st : Mi.Store} (hw : Well st n r) (hr : r + 10 < 2 ^ 40) (hF : 2 ^ 8000 ≤ F) :
    ∃ q st', callF Tk F (k + 5) 25 [.cell n] st = some (fracD q, st') ∧ Bd 8 q ∧ q ≠ 0 ∧ Well st' n (r + 3) ∧ Turned st n st' := by
  obtain ⟨q, st1, h1, hq, hw1, ht1⟩ := part_ok (F := F) (k := k) hw hr hF
  have hz : (2 : Nat) ≤ sizeLine := by decide
  have main : ∀ v : Rat, (if q = 0 then Rat.divInt (-2) 3 else q) = v → callF Tk F (k + 5) 25 [.cell n] st = some (fracD v, st1) := by
    intro v hv
    rw [call_at (d := i__law_some) rfl]
    have c1 := ne_frac q 0
    rw [frac0] at c1
    have body : evSs (callF Tk F (k + 4)) F i__law_some.body [some (.cell n), none] st = some (.ret (fracD v) st1) := by
      by_cases h0 : q = 0
      · rw [if_pos h0] at hv
        subst hv
        have fv : fracD (Rat.divInt (-2) 3) = .tup [.int (-2), .int 3] := rfl
        rw [fv]
        rw [h0] at h1 c1
        simp [i__law_some, evSs, evS, evE, evEs, evT, h1, hz, c1]
      · rw [if_neg h0] at hv
        subst hv
        simp [i__law_some, evSs, evS, evE, evEs, evT, h1, hz, c1, h0]
    unfold runD
    rw [if_pos ⟨rfl, by decide⟩]
    show (match evSs (callF Tk F (k + 4)) F i__law_some.body [some (.cell n), none] st with
      | some (.ret v st') => Mi.cutD st.length v st'
      | some (.nxt _ st') => Mi.cutD st.length .non st'
      | _ => none) = _
    rw [body]
    exact cut_pl (fun k => by simp [fracD]) rfl hw1.sw ht1.len
  by_cases h0 : q = 0
  · refine ⟨Rat.divInt (-2) 3, st1, main _ (if_pos h0), ⟨by decide, by decide⟩, by decide, hw1, ht1⟩
  · exact ⟨q, st1, main _ (if_neg h0), hq, h0, hw1, ht1⟩
theorem eq_int (i j : Int) : cop .eq (.int i) (.int j) = some (decide (i = j)) := by
  simp only [cop, dEq_int, Option.map_some]
def nth3 (a b c : Rat) (i : Int) : Rat := if i = 0 then a else if i = 1 then b else c
theorem bd_zero (B : Nat) (h : 1 ≤ B) : Bd B 0 := by
  have : 2 ^ 1 ≤ 2 ^ B := Nat.pow_le_pow_right (by decide) h
  exact ⟨by show 0 < _; omega, by show 1 < _; omega⟩
/-- what the comprehension of a row gives -/
def keep (p : Int → Bool) (a b c : Rat) (x : Mi.D) : Mi.D := match x with
  | .int i => fracD (if p i then nth3 a b c i else 0)
  | x => x
theorem row_comp {cc : CallT} {n : Nat} {w : Int} {a b c : Rat} {st : Mi.Store} {t : IT} (p : Int → Bool) (hs : SW st)
    (ht : ∀ (i : Int) (st' : Mi.Store), evT cc [some (.cell n), some (triD a b c), some (.int w), some (.int i)] t st' = some (p i, st')) :
    evE cc [some (.cell n), some (triD a b c), some (.int w), none] (.bi .tuple (.cons (.comp (.ife t (.idx (.var 1) (.var 3)) (.tup (.cons (.cst (.int 0)) (.cons (.cst (.int 1)) .nil)))) (.nm 3) (.rng (.cst (.int 3))) .none [("_law_k", 3)]) .nil)) st =
      some (triD (if p 0 then a else 0) (if p 1 then b else 0) (if p 2 then c else 0), st) := by
  have hz : (3 : Nat) ≤ sizeLine := by decide
  have hz2 : (2 : Nat) ≤ sizeLine := by decide
  have i0 : ∀ st', idxF (triD a b c) (.int 0) st' = some (fracD a) := fun _ => rfl
  have i1 : ∀ st', idxF (triD a b c) (.int 1) st' = some (fracD b) := fun _ => rfl
  have i2 : ∀ st', idxF (triD a b c) (.int 2) st' = some (fracD c) := fun _ => rfl
  have e := comp_pure (c := cc) (env := [some (.cell n), some (triD a b c), some (.int w), none]) (elt := .ife t (.idx (.var 1) (.var 3)) (.tup (.cons (.cst (.int 0)) (.cons (.cst (.int 1)) .nil)))) (tg := .nm 3) (it := .rng (.cst (.int 3))) (own := [("_law_k", 3)]) (st := st) (xs := [.int 0, .int 1, .int 2]) (g := keep p a b c) hs rfl rfl hz (fun x hx => ?_)
  · have e' : evE cc [some (.cell n), some (triD a b c), some (.int w), none] (.comp (.ife t (.idx (.var 1) (.var 3)) (.tup (.cons (.cst (.int 0)) (.cons (.cst (.int 1)) .nil)))) (.nm 3) (.rng (.cst (.int 3))) .none [("_law_k", 3)]) st = some (.lst [fracD (if p 0 then a else 0), fracD (if p 1 then b else 0), fracD (if p 2 then c else 0)], st) := e
    simp only [evE, evEs] at e' ⊢
    rw [e']
    rfl
  · simp only [List.mem_cons, List.not_mem_nil, or_false] at hx
    rcases hx with rfl | rfl | rfl
    · refine ⟨fun st' _ => ?_, fun m => rfl⟩
      cases hp : p 0 <;> simp [turnF, bindT, wipeE, evTo, evE, evEs, ht, i0, hz2, keep, hp, nth3, frac0]
    · refine ⟨fun st' _ => ?_, fun m => rfl⟩
      cases hp : p 1 <;> simp [turnF, bindT, wipeE, evTo, evE, evEs, ht, i1, hz2, keep, hp, nth3, frac0]
    · refine ⟨fun st' _ => ?_, fun m => rfl⟩
      cases hp : p 2 <;> simp [turnF, bindT, wipeE, evTo, evE, evEs, ht, i2, hz2, keep, hp, nth3, frac0]
theorem bd_if {B : Nat} {p : Bool} {a : Rat} (h : Bd B a) (hB : 1 ≤ B) : Bd B (if p then a else 0) := by
  cases p
  · exact bd_zero B hB
  · exact h
theorem row_ok {F k n : Nat} {r : Int} {st : Mi.Store} (hw : Well st n r) (hr : r + 20 < 2 ^ 40) (hF : 2 ^ 8000 ≤ F) :
    ∃ a b c st', callF Tk F (k + 5) 23 [.cell n] st = some (triD a b c, st') ∧ Bd 8 a ∧ Bd 8 b ∧ Bd 8 c ∧ Well st' n (r + 10) ∧ Turned st n st' := by
  obtain ⟨a, st1, h1, ha, hw1, ht1⟩ := part_ok (F := F) (k := k) hw (by omega) hF
  obtain ⟨b, st2, h2, hb, hw2, ht2⟩ := part_ok (F := F) (k := k) hw1 (by omega) hF
  obtain ⟨c, st3, h3, hc, hw3, ht3⟩ := part_ok (F := F) (k := k) hw2 (by omega) hF
  obtain ⟨w, st4, h4, w0, w1, hw4, ht4⟩ := draw_ok (F := F) (k := k + 3) hw3 (m := 12) (by decide) (by decide) (by omega)
  have hT : Turned st n st4 := ((ht1.trans ht2).trans ht3).trans ht4
  have hW : Well st4 n (r + 10) := by rw [show r + 10 = r + 3 + 3 + 3 + 1 by omega]; exact hw4
  have hz : (3 : Nat) ≤ sizeLine := by decide
  have l4 : cop .lt (.int w) (.int 4) = some (decide (w < 4)) := rfl
  have l7 : cop .lt (.int w) (.int 7) = some (decide (w < 7)) := rfl
  have main : ∀ x y z : Rat, evSs (callF Tk F (k + 4)) F i__law_row.body [some (.cell n), none, none, none] st = some (.ret (triD x y z) st4) → callF Tk F (k + 5) 23 [.cell n] st = some (triD x y z, st4) := by
    intro x y z body
    rw [call_at (d := i__law_row) rfl]
    unfold runD
    rw [if_pos ⟨rfl, by decide⟩]
    show (match evSs (callF Tk F (k + 4)) F i__law_row.body [some (.cell n), none, none, none] st with
      | some (.ret v st') => Mi.cutD st.length v st'
      | some (.nxt _ st') => Mi.cutD st.length .non st'
      | _ => none) = _
    rw [body]
    exact cut_pl (fun k => by simp [triD]) rfl hW.sw hT.len
  have s1 : evS (callF Tk F (k + 4)) F (.asg 1 (.tup (.cons (.call 22 (.cons (.var 0) .nil)) (.cons (.call 22 (.cons (.var 0) .nil)) (.cons (.call 22 (.cons (.var 0) .nil)) .nil))))) [some (.cell n), none, none, none] st = some (.nxt [some (.cell n), some (triD a b c), none, none] st3) := by
    simp [evS, evE, evEs, h1, h2, h3, hz, triD]
  have s2 : evS (callF Tk F (k + 4)) F (.asg 2 (.call 12 (.cons (.var 0) (.cons (.cst (.int 12)) .nil)))) [some (.cell n), some (triD a b c), none, none] st3 = some (.nxt [some (.cell n), some (triD a b c), some (.int w), none] st4) := by
    simp [evS, evE, evEs, h4]
  have c1 := row_comp (cc := callF Tk F (k + 4)) (n := n) (w := w) (a := a) (b := b) (c := c) (st := st4) (t := .cmp .eq (.var 3) (.var 2)) (fun i => decide (i = w)) hW.sw (fun i st' => by simp [evT, evE, eq_int])
  have c2 := row_comp (cc := callF Tk F (k + 4)) (n := n) (w := w) (a := a) (b := b) (c := c) (st := st4) (t := .cmp .ne (.var 3) (.bin .sub (.var 2) (.cst (.int 4)))) (fun i => !decide (i = w - 4)) hW.sw (fun i st' => by
    have b1 : bop .sub (.int w) (.int 4) = some (.int (w - 4)) := rfl
    simp [evT, evE, ne_int, b1])
  have t4 : ∀ p : Bool, decide (w < 4) = p → evT (callF Tk F (k + 4)) [some (.cell n), some (triD a b c), some (.int w), none] (.cmp .lt (.var 2) (.cst (.int 4))) st4 = some (p, st4) := fun p hb => by
    simp [evT, evE, l4, hb]
  have t7 : ∀ p : Bool, decide (w < 7) = p → evT (callF Tk F (k + 4)) [some (.cell n), some (triD a b c), some (.int w), none] (.cmp .lt (.var 2) (.cst (.int 7))) st4 = some (p, st4) := fun p hb => by
    simp [evT, evE, l7, hb]
  by_cases h4' : w < 4
  · refine ⟨if (fun i => decide (i = w)) 0 then a else 0, if (fun i => decide (i = w)) 1 then b else 0, if (fun i => decide (i = w)) 2 then c else 0, st4, main _ _ _ ?_, bd_if ha (by decide), bd_if hb (by decide), bd_if hc (by decide), hW, hT⟩
    unfold i__law_row
    rw [ss_nxt s1, ss_nxt s2]
    refine ss_ret ?_
    simp only [evS]
    rw [t4 true (by simpa using h4')]
    refine ss_ret ?_
    simp only [evS]
    rw [c1]
  · by_cases h7' : w < 7
    · refine ⟨if (fun i => !decide (i = w - 4)) 0 then a else 0, if (fun i => !decide (i = w - 4)) 1 then b else 0, if (fun i => !decide (i = w - 4)) 2 then c else 0, st4, main _ _ _ ?_, bd_if ha (by decide), bd_if hb (by decide), bd_if hc (by decide), hW, hT⟩
      unfold i__law_row
      rw [ss_nxt s1, ss_nxt s2]
      refine (ss_nxt (env' := [some (.cell n), some (triD a b c), some (.int w), none]) (st' := st4) ?_).trans ?_
      · simp only [evS]
        rw [t4 false (by simpa using h4')]
        rfl
      refine ss_ret ?_
      simp only [evS]
      rw [t7 true (by simpa using h7')]
      refine ss_ret ?_
      simp only [evS]
      rw [c2]
    · refine ⟨a, b, c, st4, main _ _ _ ?_, ha, hb, hc, hW, hT⟩
      unfold i__law_row
      rw [ss_nxt s1, ss_nxt s2]
      refine (ss_nxt (env' := [some (.cell n), some (triD a b c), some (.int w), none]) (st' := st4) ?_).trans ?_
      · simp only [evS]
        rw [t4 false (by simpa using h4')]
        rfl
      refine (ss_nxt (env' := [some (.cell n), some (triD a b c), some (.int w), none]) (st' := st4) ?_).trans ?_
      · simp only [evS]
        rw [t7 false (by simpa using h7')]
        rfl
      refine ss_ret ?_
      simp [evS, evE]
theorem Well.mono {st : Mi.Store} {n : Nat} {r s : Int} (h : Well st n r) (hle : r ≤ s) : Well st n s := by
  obtain ⟨hs, a, b, c, h, ha, hb, hb2, hc, hcr⟩ := h
  exact ⟨hs, a, b, c, h, ha, hb, hb2, hc, by omega⟩
theorem dEq_tri (a b c x y z : Rat) : dEq (triD a b c) (triD x y z) = some (decide (a = x ∧ b = y ∧ c = z)) := by
  have s : ∀ a b c : Rat, SeqAt.shaped (pd (triD a b c)) = true := fun a b c => rfl
  have f : ∀ a b c : Rat, flat0 (triD a b c) = true := fun a b c => rfl
  have e1 : ∀ x y : Rat, PyData.eqv (pd (fracD x)) (pd (fracD y)) = decide (x = y) := by
    intro x y
    have h := dEq_frac x y
    simpa only [dEq, show ∀ q : Rat, flat0 (fracD q) = true from fun q => rfl, show ∀ q : Rat, SeqAt.shaped (pd (fracD q)) = true from fun q => rfl, Bool.true_and, if_true, Option.some.injEq] using h
  have e : PyData.eqv (pd (triD a b c)) (pd (triD x y z)) = decide (a = x ∧ b = y ∧ c = z) := by
    show PyData.eqvAll [pd (fracD a), pd (fracD b), pd (fracD c)] [pd (fracD x), pd (fracD y), pd (fracD z)] = _
    simp only [PyData.eqvAll, e1, Bool.and_true]
    rw [Bool.eq_iff_iff]
    simp
  simp only [dEq, f, s, Bool.true_and, if_true, e]
theorem ne_tri (a b c x y z : Rat) : cop .ne (triD a b c) (triD x y z) = some (!decide (a = x ∧ b = y ∧ c = z)) := by
  simp only [cop, dEq_tri, Option.map_some]
theorem heading_ok {F k n : Nat} {r : Int} {st : Mi.Store} (hw : Well st n r) (hr : r + 20 < 2 ^ 40) (hF : 2 ^ 8000 ≤ F) :
    ∃ a b c st', callF Tk F (k + 6) 26 [.cell n] st = some (triD a b c, st') ∧ Bd 8 a ∧ Bd 8 b ∧ Bd 8 c ∧ ¬ (a = 0 ∧ b = 0 ∧ c = 0) ∧ Well st' n (r + 11) ∧ Turned st n st' := by
  obtain ⟨a, b, c, st1, h1, ha, hb, hc, hw1, ht1⟩ := row_ok (F := F) (k := k) hw hr hF
  have hn := nought_ok (F := F) (k := k + 4) hw1.sw
  have cn := ne_tri a b c 0 0 0
  have main : ∀ (x y z : Rat) (st2 : Mi.Store), Well st2 n (r + 11) → Turned st n st2 → evSs (callF Tk F (k + 5)) F i__law_heading.body [some (.cell n), none] st = some (.ret (triD x y z) st2) → callF Tk F (k + 6) 26 [.cell n] st = some (triD x y z, st2) := by
    intro x y z st2 hW hT body
    rw [call_at (d := i__law_heading) rfl]
    unfold runD
    rw [if_pos ⟨rfl, by decide⟩]
    show (match evSs (callF Tk F (k + 5)) F i__law_heading.body [some (.cell n), none] st with
      | some (.ret v st') => Mi.cutD st.length v st'
      | some (.nxt _ st') => Mi.cutD st.length .non st'
      | _ => none) = _
    rw [body]
    exact cut_pl (fun k => by simp [triD]) rfl hW.sw hT.len
  have s1 : evS (callF Tk F (k + 5)) F (.asg 1 (.call 23 (.cons (.var 0) .nil))) [some (.cell n), none] st = some (.nxt [some (.cell n), some (triD a b c)] st1) := by
    simp [evS, evE, evEs, h1]
  have t1 : ∀ p : Bool, (!decide (a = 0 ∧ b = 0 ∧ c = 0)) = p → evT (callF Tk F (k + 5)) [some (.cell n), some (triD a b c)] (.cmp .ne (.var 1) (.call 21 .nil)) st1 = some (p, st1) := fun p hp => by
    simp only [evT, evE, evEs, List.getElem?_cons_zero, List.getElem?_cons_succ, hn, cn, hp]
  by_cases h0 : a = 0 ∧ b = 0 ∧ c = 0
  · obtain ⟨x, st2, h2, hx, hw2, ht2⟩ := pick_ok (F := F) (k := k + 3) hw1 (xs := [triD 1 0 0, triD 0 (-1) 0, triD (Rat.divInt 1 2) 1 (Rat.divInt (-1) 3)]) (by omega) (by simp) (by simp) (by
      intro x hx
      simp only [List.mem_cons, List.not_mem_nil, or_false] at hx
      rcases hx with rfl | rfl | rfl <;> exact ⟨fun k => by simp [triD], fun m => rfl⟩)
    have hW : Well st2 n (r + 11) := by rw [show r + 11 = r + 10 + 1 by omega]; exact hw2
    have hT := ht1.trans ht2
    have body : evSs (callF Tk F (k + 5)) F i__law_heading.body [some (.cell n), none] st = some (.ret x st2) := by
      unfold i__law_heading
      rw [ss_nxt s1]
      refine (ss_nxt (env' := [some (.cell n), some (triD a b c)]) (st' := st1) ?_).trans ?_
      · simp only [evS]
        rw [t1 false (by simp [h0])]
        rfl
      refine ss_ret ?_
      have hz : (3 : Nat) ≤ sizeLine := by decide
      have hz2 : (2 : Nat) ≤ sizeLine := by decide
      have fr : ∀ t u : Int, Mi.D.tup [.int t, .int u] = .tup [.int t, .int u] := fun _ _ => rfl
      have a2 : evEs (callF Tk F (k + 5)) [some (.cell n), some (triD a b c)] (.cons (.var 0) (.cons (.tup (.cons (.tup (.cons (.tup (.cons (.cst (.int 1)) (.cons (.cst (.int 1)) .nil))) (.cons (.tup (.cons (.cst (.int 0)) (.cons (.cst (.int 1)) .nil))) (.cons (.tup (.cons (.cst (.int 0)) (.cons (.cst (.int 1)) .nil))) .nil)))) (.cons (.tup (.cons (.tup (.cons (.cst (.int 0)) (.cons (.cst (.int 1)) .nil))) (.cons (.tup (.cons (.neg (.cst (.int 1))) (.cons (.cst (.int 1)) .nil))) (.cons (.tup (.cons (.cst (.int 0)) (.cons (.cst (.int 1)) .nil))) .nil)))) (.cons (.tup (.cons (.tup (.cons (.cst (.int 1)) (.cons (.cst (.int 2)) .nil))) (.cons (.tup (.cons (.cst (.int 1)) (.cons (.cst (.int 1)) .nil))) (.cons (.tup (.cons (.neg (.cst (.int 1))) (.cons (.cst (.int 3)) .nil))) .nil)))) .nil)))) .nil)) st1 =
          some ([.cell n, .tup [triD 1 0 0, triD 0 (-1) 0, triD (Rat.divInt 1 2) 1 (Rat.divInt (-1) 3)]], st1) := by
        rfl
      simp only [evS, evE]
      rw [a2]
      simp only [h2]
    simp only [List.mem_cons, List.not_mem_nil, or_false] at hx
    rcases hx with rfl | rfl | rfl
    · exact ⟨_, _, _, st2, main _ _ _ st2 hW hT body, ⟨by decide, by decide⟩, ⟨by decide, by decide⟩, ⟨by decide, by decide⟩, by decide, hW, hT⟩
    · exact ⟨_, _, _, st2, main _ _ _ st2 hW hT body, ⟨by decide, by decide⟩, ⟨by decide, by decide⟩, ⟨by decide, by decide⟩, by decide, hW, hT⟩
    · exact ⟨_, _, _, st2, main _ _ _ st2 hW hT body, ⟨by decide, by decide⟩, ⟨by decide, by decide⟩, ⟨by decide, by decide⟩, by decide, hW, hT⟩
  · have hW : Well st1 n (r + 11) := hw1.mono (by omega)
    refine ⟨a, b, c, st1, main a b c st1 hW ht1 ?_, ha, hb, hc, h0, hW, ht1⟩
    unfold i__law_heading
    rw [ss_nxt s1]
    refine ss_ret ?_
    simp only [evS]
    rw [t1 true (by simp [h0])]
    refine ss_ret ?_
    simp [evS, evE]
theorem isw_ok {F k : Nat} {i : Int} {st : Mi.Store} (hs : SW st) : callF Tk F (k + 1) 28 [.int i] st = some (.bl true, st) := by
  rw [call_at (d := i__law_is_whole) rfl]
  refine (run_ret (v := .bl true) (st' := st) rfl ⟨rfl, by decide⟩ ?_).trans (cut_pl (fun k => by simp) rfl hs rfl)
  rfl
theorem isr_ok {F k : Nat} {q : Rat} {st : Mi.Store} (hs : SW st) (hq : Bd 4000 q) (hF : 2 ^ 8000 ≤ F) : callF Tk F (k + 2) 29 [fracD q] st = some (.bl true, st) := by
  have hz : (2 : Nat) ≤ sizeLine := by decide
  have hu : (q.den : Int) ≠ 0 := den_ne q
  have d1 : ((q.den : Int)).natAbs < 2 ^ 8000 := Nat.lt_of_lt_of_le (by simpa using hq.2) (Nat.pow_le_pow_right (by decide) (by decide))
  have h3 := ratio_ok (F := F) (k := k) (t := q.num) hs hu d1 (Nat.lt_of_lt_of_le d1 hF)
  rw [ratD_eq hu, Rat.num_divInt_den] at h3
  have e := comp_pure (c := callF Tk F (k + 1)) (env := [some (fracD q), none]) (elt := .call 28 (.cons (.var 1) .nil)) (tg := .nm 1) (it := .seq (.var 0)) (own := [("_law_each", 1)]) (st := st) (xs := [.int q.num, .int (q.den : Int)]) (g := fun _ => .bl true) hs rfl rfl hz (fun x hx => ⟨fun st' hs' => ?_, fun m => rfl⟩)
  · rw [call_at (d := i__law_is_ratio) rfl]
    have i0 : ∀ st, idxF (fracD q) (.int 0) st = some (.int q.num) := fun st => rfl
    have i1 : ∀ st, idxF (fracD q) (.int 1) st = some (.int (q.den : Int)) := fun st => rfl
    have s1 : evS (callF Tk F (k + 1)) F (.ite (.or (.not (.val (.isi (.var 0) .tuple))) (.or (.cmp .ne (.bi .len (.cons (.var 0) .nil)) (.cst (.int 2))) (.one (.cmp .inn (.cst (.bl false)) (.comp (.call 28 (.cons (.var 1) .nil)) (.nm 1) (.seq (.var 0)) .none [("_law_each", 1)]))))) (.cons (.ret (.cst (.bl false))) .nil) .nil) [some (fracD q), none] st = some (.nxt [some (fracD q), none] st) := by
      have n1 : cop .inn (.bl false) (.lst [.bl true, .bl true]) = some false := by decide
      have n2 : cop .ne (.int 2) (.int 2) = some false := by rw [ne_int]; rfl
      have n3 : isiF (fracD q) .tuple = some true := rfl
      have n4 : biF .len [fracD q] st = some (.int 2) := rfl
      have gen : ∀ C : IE, evE (callF Tk F (k + 1)) [some (fracD q), none] C st = some (.lst [.bl true, .bl true], st) →
          evS (callF Tk F (k + 1)) F (.ite (.or (.not (.val (.isi (.var 0) .tuple))) (.or (.cmp .ne (.bi .len (.cons (.var 0) .nil)) (.cst (.int 2))) (.one (.cmp .inn (.cst (.bl false)) C)))) (.cons (.ret (.cst (.bl false))) .nil) .nil) [some (fracD q), none] st = some (.nxt [some (fracD q), none] st) := by
        intro C e'
        simp [evS, evT, evE, evEs, evSs, truth, e', n1, n2, n3, n4]
      exact gen _ e
    have gp : cop .gt (.int (q.den : Int)) (.int 0) = some true := by
      have := q.den_pos
      show some (decide ((0 : Int) < q.den)) = _
      simp [this]
    have ce : cop .eq (fracD q) (fracD q) = some true := by
      refine cop_eq_of ?_
      rw [dEq_frac]; simp
    have body : evSs (callF Tk F (k + 1)) F i__law_is_ratio.body [some (fracD q), none] st = some (.ret (.bl true) st) := by
      unfold i__law_is_ratio
      rw [ss_nxt s1]
      refine ss_ret ?_
      simp [evS, evE, evEs, evT, i0, i1, h3, gp, ce]
    unfold runD
    rw [if_pos ⟨rfl, by decide⟩]
    show (match evSs (callF Tk F (k + 1)) F i__law_is_ratio.body [some (fracD q), none] st with
      | some (.ret v st') => Mi.cutD st.length v st'
      | some (.nxt _ st') => Mi.cutD st.length .non st'
      | _ => none) = _
    rw [body]
    exact cut_pl (fun k => by simp) rfl hs rfl
  · simp only [List.mem_cons, List.not_mem_nil, or_false] at hx
    rcases hx with rfl | rfl <;> simp [turnF, bindT, wipeE, evTo, evE, evEs, isw_ok hs']
theorem ares_ok {F k : Nat} {a b c : Rat} {st : Mi.Store} (hs : SW st) (ha : Bd 4000 a) (hb : Bd 4000 b) (hc : Bd 4000 c) (hF : 2 ^ 8000 ≤ F) : callF Tk F (k + 3) 30 [triD a b c, .int 3] st = some (.bl true, st) := by
  have hz : (3 : Nat) ≤ sizeLine := by decide
  have e := comp_pure (c := callF Tk F (k + 2)) (env := [some (triD a b c), some (.int 3), none]) (elt := .call 29 (.cons (.var 2) .nil)) (tg := .nm 2) (it := .seq (.var 0)) (own := [("_law_each", 2)]) (st := st) (xs := [fracD a, fracD b, fracD c]) (g := fun _ => .bl true) hs rfl rfl hz (fun x hx => ⟨fun st' hs' => ?_, fun m => rfl⟩)
  · rw [call_at (d := i__law_are_ratios) rfl]
    have n1 : cop .nin (.bl false) (.lst [.bl true, .bl true, .bl true]) = some true := by decide
    have n2 : cop .eq (.int 3) (.int 3) = some true := by rw [eq_int]; rfl
    have n3 : isiF (triD a b c) .tuple = some true := rfl
    have n4 : biF .len [triD a b c] st = some (.int 3) := rfl
    have gen : ∀ C : IE, evE (callF Tk F (k + 2)) [some (triD a b c), some (.int 3), none] C st = some (.lst [.bl true, .bl true, .bl true], st) →
        evE (callF Tk F (k + 2)) [some (triD a b c), some (.int 3), none] (.andv (.isi (.var 0) .tuple) (.andv (.cmp .eq (.bi .len (.cons (.var 0) .nil)) (.var 1)) (.one (.cmp .nin (.cst (.bl false)) C)))) st = some (.bl true, st) := by
      intro C e'
      simp [evE, evEs, truth, e', n1, n2, n3, n4]
    refine (run_ret (v := .bl true) (st' := st) rfl ⟨rfl, by decide⟩ ?_).trans (cut_pl (fun k => by simp) rfl hs rfl)
    exact gen _ e
  · simp only [List.mem_cons, List.not_mem_nil, or_false] at hx
    rcases hx with rfl | rfl | rfl
    · simp [turnF, bindT, wipeE, evTo, evE, evEs, isr_ok (k := k) hs' ha hF]
    · simp [turnF, bindT, wipeE, evTo, evE, evEs, isr_ok (k := k) hs' hb hF]
    · simp [turnF, bindT, wipeE, evTo, evE, evEs, isr_ok (k := k) hs' hc hF]
theorem ish_ok {F k : Nat} {a b c : Rat} {st : Mi.Store} (hs : SW st) (ha : Bd 4000 a) (hb : Bd 4000 b) (hc : Bd 4000 c) (h0 : ¬ (a = 0 ∧ b = 0 ∧ c = 0)) (hF : 2 ^ 8000 ≤ F) : callF Tk F (k + 4) 31 [triD a b c] st = some (.bl true, st) := by
  rw [call_at (d := i__law_is_heading) rfl]
  have h1 := ares_ok (k := k) hs ha hb hc hF
  have hn := nought_ok (F := F) (k := k + 2) hs
  have cn := ne_tri a b c 0 0 0
  rw [show decide (a = 0 ∧ b = 0 ∧ c = 0) = false by simpa using h0] at cn
  refine (run_ret (v := .bl true) (st' := st) rfl ⟨rfl, by decide⟩ ?_).trans (cut_pl (fun k => by simp) rfl hs rfl)
  show evE (callF Tk F (k + 3)) [some (triD a b c)] _ st = _
  simp [evE, evEs, truth, h1, hn, cn]
theorem Well.push {st : Mi.Store} {n : Nat} {r : Int} {acc : List Mi.D} (h : Well st n r) (ha : fitDs (st.length + 1) acc = true) : Well (st ++ [some acc]) n r := by
  have hn := h.lt
  obtain ⟨hs, a, b, c, h, h2, h3, h4, h5, h6⟩ := h
  exact ⟨hs.push ha, a, b, c, by rw [List.getElem?_append_left hn]; exact h, h2, h3, h4, h5, h6⟩
theorem Turned.push {st st' : Mi.Store} {n : Nat} {acc : List Mi.D} (hn : n < st.length) (h : Turned (st ++ [some acc]) n st') : ∃ st1, Turned st n st1 ∧ st' = st1 ++ [some acc] := by
  obtain ⟨a, b, c, h⟩ := h
  exact ⟨_, ⟨a, b, c, rfl⟩, by rw [h, List.set_append_left _ _ hn]⟩
theorem Well.pop {st st1 : Mi.Store} {n : Nat} {r r' : Int} {acc : List Mi.D} (h : Well st n r) (ht : Turned st n st1) (hw : Well (st1 ++ [some acc]) n r') : Well st1 n r' := by
  have hl := ht.len
  have hn := h.lt
  have hs1 : SW st1 := by
    obtain ⟨a, b, c, e⟩ := ht
    rw [e]
    exact h.1.set n rfl
  obtain ⟨hs, a, b, c, h, h2, h3, h4, h5, h6⟩ := hw
  exact ⟨hs1, a, b, c, by rw [List.getElem?_append_left (by omega)] at h; exact h, h2, h3, h4, h5, h6⟩
/-- a comprehension whose element draws -/
theorem map_draw {f : Mi.D → Mi.Store → Option (Option Mi.D × Mi.Store)} {P : Mi.D → Prop} {n : Nat} {R : Int} {s : Nat} (hP : ∀ d, P d → ∀ m, fitD m d = true)
    (hf : ∀ x st' r, Well st' n r → r + s < R → ∃ y st1, f x st' = some (some y, st1) ∧ P y ∧ Well st1 n (r + s) ∧ Turned st' n st1) :
    ∀ (xs acc : List Mi.D) (st : Mi.Store) (r : Int), Well st n r → r + s * xs.length < R → fitDs (st.length + 1) acc = true → acc.length + xs.length ≤ sizeLine →
    ∃ ys st', mapSt st.length f xs (st ++ [some acc]) = some (st' ++ [some (acc ++ ys)]) ∧ ys.length = xs.length ∧ (∀ y ∈ ys, P y) ∧ Well st' n (r + s * xs.length) ∧ (st' = st ∨ Turned st n st')
  | [], acc, st, r, hw, _, _, _ => ⟨[], st, by simp [mapSt], rfl, by simp, by simpa using hw, .inl rfl⟩
  | x :: xs, acc, st, r, hw, hr, ha, hl => by
    rw [List.length_cons] at hl
    have e0 : (s : Int) * ((x :: xs).length : Nat) = s + s * (xs.length : Nat) := by
      rw [List.length_cons, Int.natCast_add, Int.mul_add]; simp; omega
    have hpos : (0 : Int) ≤ s * (xs.length : Nat) := Int.mul_nonneg (by omega) (by omega)
    rw [e0] at hr
    obtain ⟨y, st1, h1, hy, hw1, ht1⟩ := hf x (st ++ [some acc]) r (hw.push ha) (by omega)
    obtain ⟨st2, ht2, rfl⟩ := Turned.push hw.lt ht1
    have hw2 := hw.pop ht2 hw1
    have hlen := ht2.len
    have ha2 : fitDs (st2.length + 1) (acc ++ [y]) = true := fits_all fun d hd => by
      rcases List.mem_append.mp hd with hd | hd
      · rw [hlen]; exact fit_mem ha hd
      · rw [List.mem_singleton.mp hd]; exact hP y hy _
    obtain ⟨ys, st3, h3, hyl, hys, hw3, ht3⟩ := map_draw hP hf xs (acc ++ [y]) st2 (r + s) hw2 (by omega) ha2 (by rw [List.length_append, List.length_singleton]; omega)
    refine ⟨y :: ys, st3, ?_, by simp [hyl], ?_, by rw [e0, show r + (s + s * (xs.length : Nat)) = r + s + s * (xs.length : Nat) by omega]; exact hw3, .inr ?_⟩
    · have e : (st2 ++ [some acc])[st.length]? = some (some acc) := by rw [← hlen]; simp
      have e2 : (st2 ++ [some acc]).set st.length (some (acc ++ [y])) = st2 ++ [some (acc ++ [y])] := by rw [← hlen]; simp
      simp only [mapSt, h1, e]
      rw [if_pos (by omega), e2, ← hlen, h3]
      simp
    · intro d hd
      rcases List.mem_cons.mp hd with rfl | hd
      · exact hy
      · exact hys d hd
    · rcases ht3 with rfl | ht3
      · exact ht2
      · exact ht2.trans ht3
theorem comp_draw {c : CallT} {env : Mi.Env} {elt : IE} {tg : ITg} {it : II} {own : List (PySem.Str × Nat)} {st : Mi.Store} {xs : List Mi.D} {P : Mi.D → Prop} {n : Nat} {r R : Int} {s : Nat} (hw : Well st n r) (hi : evI c env it st = some (xs, st)) (ho : tgOwn tg (own.map (·.2)) = true) (hl : xs.length ≤ sizeLine)
    (hP : ∀ d, P d → ∀ m, fitD m d = true) (hr : r + s * xs.length < R)
    (hf : ∀ x st' r, Well st' n r → r + s < R → ∃ y st1, turnF c (wipeE env (own.map (·.2))) tg .none elt x st' = some (some y, st1) ∧ P y ∧ Well st1 n (r + s) ∧ Turned st' n st1) :
    ∃ ys st', evE c env (.comp elt tg it .none own) st = some (.lst ys, st') ∧ ys.length = xs.length ∧ (∀ y ∈ ys, P y) ∧ Well st' n (r + s * xs.length) ∧ (st' = st ∨ Turned st n st') := by
  obtain ⟨ys, st', m, hyl, hys, hw', ht⟩ := map_draw hP hf xs [] st r hw hr rfl (by simpa using hl)
  rw [List.nil_append] at m
  have hlen : st'.length = st.length := by
    rcases ht with rfl | ht
    · rfl
    · exact ht.len
  refine ⟨ys, st', ?_, hyl, hys, hw', ht⟩
  have e : (st' ++ [some ys])[st.length]? = some (some ys) := by rw [← hlen]; simp
  have hfit : fitDs st.length ys = true := fits_all fun d hd => hP d (hys d hd) _
  have hc : Mi.cutD st.length (.lst ys) (st' ++ [some ys]) = some (.lst ys, st') := by
    rw [← hlen] at hfit ⊢
    exact cut_more (fun k => by simp) hfit hw'.sw
  show (match evI c env it st with
    | some (xs, st1) => if tgOwn tg (own.map fun p : PySem.Str × Nat => p.2) then (match mapSt st1.length (turnF c (wipeE env (own.map fun p : PySem.Str × Nat => p.2)) tg .none elt) xs (st1 ++ [some []]) with
      | some st2 => (match st2[st1.length]? with
        | some (some ys) => Mi.cutD st1.length (.lst ys) st2
        | _ => none)
      | none => none) else none
    | none => none) = _
  simp only [hi, ho, if_true, m, e]
  exact hc
theorem wide_turn {F k n : Nat} {r : Int} {st : Mi.Store} {x : Mi.D} (hw : Well st n r) (hr : r + 20 < 2 ^ 40) (hF : 2 ^ 8000 ≤ F) :
    ∃ y st1, turnF (callF Tk F (k + 5)) (wipeE [some (.cell n), none] [1]) (.nm 1) .none (.call 16 (.cons (.call 15 (.cons (.var 0) .nil)) (.cons (.bin .add (.cst (.int 1)) (.bi .abs (.cons (.call 15 (.cons (.var 0) .nil)) .nil))) .nil))) x st = some (some y, st1) ∧ (∃ q, y = fracD q ∧ Bd 81 q) ∧ Well st1 n (r + (12 : Nat)) ∧ Turned st n st1 := by
  obtain ⟨v, st1, h1, hv, hw1, ht1⟩ := far_ok (F := F) (k := k + 1) hw (by omega)
  obtain ⟨w, st2, h2, hv2, hw2, ht2⟩ := far_ok (F := F) (k := k + 1) hw1 (by omega)
  have hu : (1 + (w.natAbs : Int)) ≠ 0 := by omega
  have hb0 : (1 + (w.natAbs : Int)).natAbs < 2 ^ 81 := by omega
  have hb : (1 + (w.natAbs : Int)).natAbs < 2 ^ 8000 := Nat.lt_of_lt_of_le hb0 (Nat.pow_le_pow_right (by decide) (by decide))
  have h3 := ratio_ok (F := F) (k := k + 4) (t := v) hw2.sw hu hb (Nat.lt_of_lt_of_le hb hF)
  rw [ratD_eq hu] at h3
  obtain ⟨d1, d2⟩ := divInt_bd (t := v) hu
  refine ⟨fracD (Rat.divInt v (1 + (w.natAbs : Int))), st2, ?_, ⟨_, rfl, Nat.lt_of_le_of_lt d1 (by omega), Nat.lt_of_le_of_lt d2 hb0⟩, by rw [show r + ((12 : Nat) : Int) = r + 6 + 6 by omega]; exact hw2, ht1.trans ht2⟩
  have a1 : ∀ i j : Int, bop .add (.int i) (.int j) = some (.int (i + j)) := fun _ _ => rfl
  have ab : ∀ i : Int, biF .abs [.int i] st2 = some (.int (i.natAbs : Int)) := fun i => by
    show some (Mi.D.int (if i < 0 then -i else i)) = _
    congr 2
    split <;> omega
  simp [turnF, bindT, wipeE, evTo, evE, evEs, h1, h2, a1, ab, h3]
theorem wide_ok {F k n : Nat} {r : Int} {st : Mi.Store} (hw : Well st n r) (hr : r + 70 < 2 ^ 40) (hF : 2 ^ 8000 ≤ F) :
    ∃ a b c st', callF Tk F (k + 6) 24 [.cell n] st = some (triD a b c, st') ∧ Bd 81 a ∧ Bd 81 b ∧ Bd 81 c ∧ Well st' n (r + 40) ∧ Turned st n st' := by
  obtain ⟨w, st1, h1, w0, w1, hw1, ht1⟩ := draw_ok (F := F) (k := k + 4) hw (m := 4) (by decide) (by decide) (by omega)
  have main : ∀ (x y z : Rat) (st2 : Mi.Store), Well st2 n (r + 40) → Turned st n st2 → evSs (callF Tk F (k + 5)) F i__law_wide.body [some (.cell n), none] st = some (.ret (triD x y z) st2) → callF Tk F (k + 6) 24 [.cell n] st = some (triD x y z, st2) := by
    intro x y z st2 hW hT body
    rw [call_at (d := i__law_wide) rfl]
    unfold runD
    rw [if_pos ⟨rfl, by decide⟩]
    show (match evSs (callF Tk F (k + 5)) F i__law_wide.body [some (.cell n), none] st with
      | some (.ret v st') => Mi.cutD st.length v st'
      | some (.nxt _ st') => Mi.cutD st.length .non st'
      | _ => none) = _
    rw [body]
    exact cut_pl (fun k => by simp [triD]) rfl hW.sw hT.len
  have g0 : cop .gt (.int w) (.int 0) = some (decide (0 < w)) := rfl
  have t1 : ∀ p : Bool, decide (0 < w) = p → evT (callF Tk F (k + 5)) [some (.cell n), none] (.cmp .gt (.call 12 (.cons (.var 0) (.cons (.cst (.int 4)) .nil))) (.cst (.int 0))) st = some (p, st1) := fun p hp => by
    simp only [evT, evE, evEs, List.getElem?_cons_zero, h1, g0, hp]
  by_cases h0 : 0 < w
  · obtain ⟨a, b, c, st2, h2, ha, hb, hc, hw2, ht2⟩ := row_ok (F := F) (k := k) hw1 (by omega) hF
    have hW : Well st2 n (r + 40) := hw2.mono (by omega)
    refine ⟨a, b, c, st2, main a b c st2 hW (ht1.trans ht2) ?_, ha.mono (by decide), hb.mono (by decide), hc.mono (by decide), hW, ht1.trans ht2⟩
    unfold i__law_wide
    refine ss_ret ?_
    simp only [evS]
    rw [t1 true (by simpa using h0)]
    refine ss_ret ?_
    simp [evS, evE, evEs, h2]
  · obtain ⟨ys, st2, hc, hyl, hys, hw2, ht2⟩ := comp_draw (c := callF Tk F (k + 5)) (env := [some (.cell n), none]) (elt := .call 16 (.cons (.call 15 (.cons (.var 0) .nil)) (.cons (.bin .add (.cst (.int 1)) (.bi .abs (.cons (.call 15 (.cons (.var 0) .nil)) .nil))) .nil))) (tg := .nm 1) (it := .rng (.cst (.int 3))) (own := [("_law_k", 1)]) (st := st1) (xs := [.int 0, .int 1, .int 2]) (P := fun y => ∃ q, y = fracD q ∧ Bd 81 q) (n := n) (r := r + 1) (R := 2 ^ 40 - 10) (s := 12) hw1 rfl rfl (by decide) (fun d hd m => by obtain ⟨q, rfl, _⟩ := hd; rfl) (by simp; omega) (fun x st' r' hw' hr' => wide_turn hw' (by omega) hF)
    have hT : Turned st n st2 := by
      rcases ht2 with rfl | ht2
      · exact ht1
      · exact ht1.trans ht2
    have hW : Well st2 n (r + 40) := hw2.mono (by simp; omega)
    match ys, hyl, hys with
    | [y1, y2, y3], _, hys =>
      obtain ⟨a, rfl, ha⟩ := hys y1 (by simp)
      obtain ⟨b, rfl, hb⟩ := hys y2 (by simp)
      obtain ⟨c, rfl, hc'⟩ := hys y3 (by simp)
      refine ⟨a, b, c, st2, main a b c st2 hW hT ?_, ha, hb, hc', hW, hT⟩
      unfold i__law_wide
      refine (ss_nxt (env' := [some (.cell n), none]) (st' := st1) ?_).trans ?_
      · simp only [evS]
        rw [t1 false (by simpa using h0)]
        rfl
      refine ss_ret ?_
      have gen : ∀ C : IE, evE (callF Tk F (k + 5)) [some (.cell n), none] C st1 = some (.lst [fracD a, fracD b, fracD c], st2) → evS (callF Tk F (k + 5)) F (.ret (.bi .tuple (.cons C .nil))) [some (.cell n), none] st1 = some (.ret (triD a b c) st2) := by
        intro C e'
        have b1 : biF .tuple [.lst [fracD a, fracD b, fracD c]] st2 = some (triD a b c) := rfl
        simp [evS, evE, evEs, e', b1]
      exact gen _ hc
/-- the greatest divisor of three -/
def g3 (x y z : Int) : Nat := Nat.gcd (Nat.gcd x.natAbs y.natAbs) z.natAbs
theorem g3_mul (m x y z : Int) : g3 (m * x) (m * y) (m * z) = m.natAbs * g3 x y z := by
  unfold g3
  rw [Int.natAbs_mul, Int.natAbs_mul, Int.natAbs_mul, Nat.gcd_mul_left, Nat.gcd_mul_left]
/-- the first one that is not 0 is above 0 -/
def Pos (x y z : Int) : Prop := 0 < x ∨ x = 0 ∧ (0 < y ∨ y = 0 ∧ 0 < z)
instance (x y z : Int) : Decidable (Pos x y z) := by unfold Pos; infer_instance
/-- a plain one -/
def IsPl (x y z : Int) : Prop := g3 x y z = 1 ∧ Pos x y z
theorem IsPl.ne {x y z : Int} (h : IsPl x y z) : ¬ (x = 0 ∧ y = 0 ∧ z = 0) := by
  obtain ⟨_, h⟩ := h
  unfold Pos at h
  omega
theorem pl_unique {x y z x' y' z' m n : Int} (hm : m ≠ 0) (h1 : m * x' = n * x) (h2 : m * y' = n * y) (h3 : m * z' = n * z) (h : IsPl x y z) (h' : IsPl x' y' z') : x' = x ∧ y' = y ∧ z' = z := by
  have e : m.natAbs = n.natAbs := by
    have a := g3_mul m x' y' z'
    have b := g3_mul n x y z
    rw [h1, h2, h3] at a
    rw [h.1] at b; rw [h'.1] at a
    omega
  obtain ⟨_, p⟩ := h
  obtain ⟨_, p'⟩ := h'
  unfold Pos at p p'
  rcases Int.natAbs_eq_natAbs_iff.mp e with rfl | rfl
  · exact ⟨Int.eq_of_mul_eq_mul_left hm h1, Int.eq_of_mul_eq_mul_left hm h2, Int.eq_of_mul_eq_mul_left hm h3⟩
  · have hn : n ≠ 0 := by omega
    have c : ∀ u v : Int, -n * u = n * v → v = -u := fun u v h => Int.eq_of_mul_eq_mul_left hn (by rw [← h, Int.neg_mul, Int.mul_neg])
    have c1 := c _ _ h1
    have c2 := c _ _ h2
    have c3 := c _ _ h3
    omega
theorem den_mul (q : Rat) : (q.den : Rat) * q = (q.num : Rat) := by
  have h := Rat.num_divInt_den q
  rw [Rat.divInt_eq_div] at h
  have h0 : ((q.den : Int) : Rat) ≠ 0 := by
    intro e
    have := Rat.intCast_inj.mp (e.trans Rat.intCast_zero.symm)
    have := q.den_nz
    omega
  have e : ((q.den : Int) : Rat) = (q.den : Rat) := rfl
  rw [e] at h h0
  grind
/-- along one line -/
def Along (a b c a' b' c' : Rat) : Prop := ∃ t : Rat, t ≠ 0 ∧ a' = t * a ∧ b' = t * b ∧ c' = t * c
theorem Along.symm {a b c a' b' c' : Rat} (h : Along a b c a' b' c') : Along a' b' c' a b c := by
  obtain ⟨t, h0, h1, h2, h3⟩ := h
  exact ⟨t⁻¹, by grind, by grind, by grind, by grind⟩
theorem Along.trans {a b c a' b' c' a'' b'' c'' : Rat} (h : Along a b c a' b' c') (h' : Along a' b' c' a'' b'' c'') : Along a b c a'' b'' c'' := by
  obtain ⟨t, h0, h1, h2, h3⟩ := h
  obtain ⟨t', h0', h1', h2', h3'⟩ := h'
  exact ⟨t' * t, by grind, by grind, by grind, by grind⟩
theorem Along.cross {a b c x y z : Rat} (h : Along a b c x y z) : b * z - c * y = 0 ∧ c * x - a * z = 0 ∧ a * y - b * x = 0 := by
  obtain ⟨t, h0, h1, h2, h3⟩ := h
  exact ⟨by grind, by grind, by grind⟩
theorem along_of_cross {a b c x y z : Rat} (h0 : ¬ (a = 0 ∧ b = 0 ∧ c = 0)) (h0' : ¬ (x = 0 ∧ y = 0 ∧ z = 0)) (h1 : b * z - c * y = 0) (h2 : c * x - a * z = 0) (h3 : a * y - b * x = 0) : Along a b c x y z := by
  by_cases ha : a = 0
  · by_cases hb : b = 0
    · have hc : c ≠ 0 := by grind
      exact ⟨z / c, by grind, by grind, by grind, by grind⟩
    · exact ⟨y / b, by grind, by grind, by grind, by grind⟩
  · exact ⟨x / a, by grind, by grind, by grind, by grind⟩
theorem pl_along {x y z x' y' z' : Int} (h : IsPl x y z) (h' : IsPl x' y' z') (ha : Along x y z x' y' z') : x' = x ∧ y' = y ∧ z' = z := by
  obtain ⟨t, h0, h1, h2, h3⟩ := ha
  have d := den_mul t
  have go : ∀ u v : Int, (v : Rat) = t * (u : Rat) → (t.den : Int) * v = t.num * u := fun u v e => by
    apply Rat.intCast_inj.mp
    rw [Rat.intCast_mul, Rat.intCast_mul, show (((t.den : Nat) : Int) : Rat) = (t.den : Rat) from rfl, ← d, e]
    grind
  have hd : (t.den : Int) ≠ 0 := by
    have := t.den_nz
    omega
  exact pl_unique hd (go _ _ h1) (go _ _ h2) (go _ _ h3) h h'
theorem g3_pos {x y z : Int} (h0 : ¬ (x = 0 ∧ y = 0 ∧ z = 0)) : 0 < g3 x y z := by
  rcases Nat.eq_zero_or_pos (g3 x y z) with h | h
  · unfold g3 at h
    obtain ⟨h1, h3⟩ := Nat.gcd_eq_zero_iff.mp h
    obtain ⟨h1, h2⟩ := Nat.gcd_eq_zero_iff.mp h1
    omega
  · exact h
theorem g3_dvd (x y z : Int) : (g3 x y z : Int) ∣ x ∧ (g3 x y z : Int) ∣ y ∧ (g3 x y z : Int) ∣ z := by
  unfold g3
  refine ⟨Int.ofNat_dvd_left.mpr ?_, Int.ofNat_dvd_left.mpr ?_, Int.ofNat_dvd_left.mpr (Nat.gcd_dvd_right _ _)⟩
  · exact Nat.dvd_trans (Nat.gcd_dvd_left _ _) (Nat.gcd_dvd_left _ _)
  · exact Nat.dvd_trans (Nat.gcd_dvd_left _ _) (Nat.gcd_dvd_right _ _)
/-- by what it is cut -/
def cut3 (x y z : Int) : Int := if Pos x y z then (g3 x y z : Int) else -(g3 x y z : Int)
theorem pl_of {x y z : Int} (h0 : ¬ (x = 0 ∧ y = 0 ∧ z = 0)) : cut3 x y z ≠ 0 ∧ cut3 x y z * (x / cut3 x y z) = x ∧ cut3 x y z * (y / cut3 x y z) = y ∧ cut3 x y z * (z / cut3 x y z) = z ∧ IsPl (x / cut3 x y z) (y / cut3 x y z) (z / cut3 x y z) := by
  have hg := g3_pos h0
  obtain ⟨d1, d2, d3⟩ := g3_dvd x y z
  have hc : cut3 x y z = (g3 x y z : Int) ∧ Pos x y z ∨ cut3 x y z = -(g3 x y z : Int) ∧ ¬ Pos x y z := by
    unfold cut3
    by_cases h : Pos x y z
    · exact .inl ⟨if_pos h, h⟩
    · exact .inr ⟨if_neg h, h⟩
  generalize cut3 x y z = e at hc
  have he : e ≠ 0 := by omega
  have hd : ∀ u : Int, (g3 x y z : Int) ∣ u → e * (u / e) = u := fun u hu => Int.mul_ediv_cancel' (by
    rcases hc with ⟨rfl, _⟩ | ⟨rfl, _⟩
    · exact hu
    · exact Int.neg_dvd.mpr hu)
  have e1 := hd x d1
  have e2 := hd y d2
  have e3 := hd z d3
  refine ⟨he, e1, e2, e3, ?_, ?_⟩
  · have m := g3_mul e (x / e) (y / e) (z / e)
    rw [e1, e2, e3] at m
    have ha : e.natAbs = g3 x y z := by omega
    rw [ha] at m
    exact Nat.eq_of_mul_eq_mul_left hg (by omega)
  · generalize x / e = x' at *
    generalize y / e = y' at *
    generalize z / e = z' at *
    have sg : ∀ u u' : Int, e * u' = u → (0 < e → (0 < u' ↔ 0 < u) ∧ (u' = 0 ↔ u = 0)) ∧ (e < 0 → (0 < u' ↔ u < 0) ∧ (u' = 0 ↔ u = 0)) := by
      rintro u u' rfl
      refine ⟨fun h => ⟨?_, ?_⟩, fun h => ⟨?_, ?_⟩⟩
      · constructor
        · intro h'; exact Int.mul_pos h h'
        · intro h'
          rcases Int.lt_trichotomy u' 0 with h2 | h2 | h2
          · have := Int.mul_neg_of_pos_of_neg h h2; omega
          · subst h2; omega
          · exact h2
      · rw [Int.mul_eq_zero]; omega
      · constructor
        · intro h'; exact Int.mul_neg_of_neg_of_pos h h'
        · intro h'
          rcases Int.lt_trichotomy u' 0 with h2 | h2 | h2
          · have := Int.mul_pos_of_neg_of_neg h h2; omega
          · subst h2; omega
          · exact h2
      · rw [Int.mul_eq_zero]; omega
    obtain ⟨p1, n1⟩ := sg _ _ e1
    obtain ⟨p2, n2⟩ := sg _ _ e2
    obtain ⟨p3, n3⟩ := sg _ _ e3
    clear sg hd e1 e2 e3 d1 d2 d3
    rcases hc with ⟨h, hp⟩ | ⟨h, hp⟩
    · have : 0 < e := by omega
      have q1 := p1 this; have q2 := p2 this; have q3 := p3 this
      unfold Pos at hp ⊢
      omega
    · have : e < 0 := by omega
      have q1 := n1 this; have q2 := n2 this; have q3 := n3 this
      unfold Pos at hp ⊢
      omega
theorem call_body {F k f : Nat} {d : Mi.Def} {args : List Mi.D} {st st' : Mi.Store} {v : Mi.D} (h : Tk f = some d) (hl : args.length = d.np ∧ d.np ≤ d.names.length)
    (body : evSs (callF Tk F k) F d.body (args.map some ++ List.replicate (d.names.length - d.np) none) st = some (.ret v st')) : callF Tk F (k + 1) f args st = Mi.cutD st.length v st' := by
  rw [call_at h]
  unfold runD
  rw [if_pos hl, body]
theorem call_bodyN {F k f : Nat} {d : Mi.Def} {args : List Mi.D} {st st' : Mi.Store} {env : Mi.Env} (h : Tk f = some d) (hl : args.length = d.np ∧ d.np ≤ d.names.length)
    (body : evSs (callF Tk F k) F d.body (args.map some ++ List.replicate (d.names.length - d.np) none) st = some (.nxt env st')) : callF Tk F (k + 1) f args st = Mi.cutD st.length .non st' := by
  rw [call_at h]
  unfold runD
  rw [if_pos hl, body]
/-- what all three are parts of -/
def L3 (a b c : Rat) : Nat := Nat.lcm (Nat.lcm (Nat.lcm 1 a.den) b.den) c.den
theorem L3_pos (a b c : Rat) : 0 < L3 a b c := by
  unfold L3
  refine Nat.lcm_pos (Nat.lcm_pos (Nat.lcm_pos (by decide) a.den_pos) b.den_pos) c.den_pos
theorem L3_dvd (a b c : Rat) : a.den ∣ L3 a b c ∧ b.den ∣ L3 a b c ∧ c.den ∣ L3 a b c := by
  unfold L3
  refine ⟨?_, ?_, Nat.dvd_lcm_right _ _⟩
  · exact Nat.dvd_trans (Nat.dvd_trans (Nat.dvd_lcm_right _ _) (Nat.dvd_lcm_left _ _)) (Nat.dvd_lcm_left _ _)
  · exact Nat.dvd_trans (Nat.dvd_lcm_right _ _) (Nat.dvd_lcm_left _ _)
theorem lcm_lt {m n B C : Nat} (hm : m < 2 ^ B) (hn : n < 2 ^ C) (h0 : 0 < m) (h1 : 0 < n) : Nat.lcm m n < 2 ^ (B + C) := by
  refine Nat.lt_of_le_of_lt (Nat.le_of_dvd (Nat.mul_pos h0 h1) (Nat.lcm_dvd (Nat.dvd_mul_right _ _) (Nat.dvd_mul_left _ _))) ?_
  rw [Nat.pow_add]
  exact Nat.mul_lt_mul'' hm hn
theorem log_lt {n B : Nat} (h : n < 2 ^ B) (hB : B < 13000) : n.log2 < 13000 := by
  by_cases h0 : n = 0
  · rw [h0]; simp
  · have := (Nat.log2_lt h0).mpr h
    omega
theorem lcm_ok {m n : Nat} {st : Mi.Store} (hm : m.log2 < 13000) (hn : n.log2 < 13000) : biF .lcm [.int (m : Int), .int (n : Int)] st = some (.int (Nat.lcm m n : Nat)) := by
  simp only [biF, Int.natAbs_natCast]
  rw [if_pos ⟨hm, hn⟩]
/-- a fraction by the common one -/
def upN (L : Nat) (q : Rat) : Int := q.num * ((L : Int) / (q.den : Int))
theorem upN_eq {L : Nat} {q : Rat} (h : q.den ∣ L) : (upN L q : Rat) = (L : Rat) * q := by
  obtain ⟨m, rfl⟩ := h
  have e : ((q.den * m : Nat) : Int) / (q.den : Int) = (m : Int) := by
    rw [Int.natCast_mul]
    exact Int.mul_ediv_cancel_left _ (den_ne q)
  unfold upN
  rw [e, Rat.intCast_mul, ← den_mul q]
  have e2 : ((q.den * m : Nat) : Rat) = (q.den : Rat) * (m : Rat) := by
    exact Rat.natCast_mul _ _
  have e3 : (((m : Nat) : Int) : Rat) = (m : Rat) := rfl
  rw [e2, e3]
  grind
theorem upN_lt {L B C : Nat} {q : Rat} (hL : L < 2 ^ C) (hq : Bd B q) : (upN L q).natAbs < 2 ^ (B + C) := by
  unfold upN
  rw [Int.natAbs_mul, Nat.pow_add]
  have h2 : ((L : Int) / (q.den : Int)).natAbs ≤ L := by
    have := Int.natAbs_ediv_le_natAbs (L : Int) (q.den : Int)
    simpa using this
  exact Nat.mul_lt_mul'' hq.1 (Nat.lt_of_le_of_lt h2 hL)
/-- the number of a fraction's data, by the common one -/
def upD (L : Nat) : Mi.D → Mi.D
  | .tup [.int n, .int d] => .int (n * ((L : Int) / d))
  | _ => .non
theorem upD_frac (L : Nat) (q : Rat) : upD L (fracD q) = .int (upN L q) := rfl
theorem over_ok {F k B : Nat} {a b c : Rat} {st : Mi.Store} (hs : SW st) (ha : Bd B a) (hb : Bd B b) (hc : Bd B c) (hB : B ≤ 3000) :
    callF Tk F (k + 1) 0 [triD a b c] st = some (.tup [.lst [.int (upN (L3 a b c) a), .int (upN (L3 a b c) b), .int (upN (L3 a b c) c)], .int (L3 a b c : Nat)], st) := by
  have p1 : (1 : Nat) < 2 ^ B := by
    have := ha.2
    have := a.den_pos
    omega
  have b1 : Nat.lcm 1 a.den < 2 ^ (B + B) := lcm_lt p1 ha.2 (by decide) a.den_pos
  have z1 : 0 < Nat.lcm 1 a.den := Nat.lcm_pos (by decide) a.den_pos
  have b2 : Nat.lcm (Nat.lcm 1 a.den) b.den < 2 ^ (B + B + B) := lcm_lt b1 hb.2 z1 b.den_pos
  have z2 : 0 < Nat.lcm (Nat.lcm 1 a.den) b.den := Nat.lcm_pos z1 b.den_pos
  have b3 : L3 a b c < 2 ^ (B + B + B + B) := lcm_lt b2 hc.2 z2 c.den_pos
  have l1 : biF .lcm [.int 1, .int (a.den : Int)] st = some (.int (Nat.lcm 1 a.den : Nat)) := lcm_ok (m := 1) (log_lt p1 (by omega)) (log_lt ha.2 (by omega))
  have l2 : biF .lcm [.int (Nat.lcm 1 a.den : Nat), .int (b.den : Int)] st = some (.int (Nat.lcm (Nat.lcm 1 a.den) b.den : Nat)) := lcm_ok (log_lt b1 (by omega)) (log_lt hb.2 (by omega))
  have l3 : biF .lcm [.int (Nat.lcm (Nat.lcm 1 a.den) b.den : Nat), .int (c.den : Int)] st = some (.int (L3 a b c : Nat)) := lcm_ok (log_lt b2 (by omega)) (log_lt hc.2 (by omega))
  generalize hL : L3 a b c = L at *
  generalize Nat.lcm 1 a.den = m1 at *
  generalize Nat.lcm m1 b.den = m2 at *
  obtain ⟨d1, d2, d3⟩ := L3_dvd a b c
  rw [hL] at d1 d2 d3
  have s2 : evS (callF Tk F k) F (.forr (.tp [2, 3]) (.seq (.var 0)) (.cons (.asg 1 (.bi .lcm (.cons (.var 1) (.cons (.var 3) .nil)))) .nil)) [some (triD a b c), some (.int 1), none, none, none] st =
      some (.nxt [some (triD a b c), some (.int (L : Nat)), some (.int c.num), some (.int (c.den : Int)), none] st) := by
    have e0 : ∀ env : Mi.Env, env[0]? = some (some (triD a b c)) → evI (callF Tk F k) env (.seq (.var 0)) st = some ([fracD a, fracD b, fracD c], st) := fun env h => by
      simp [evI, evE, h, triD, seqD]
    simp only [evS]
    rw [e0 _ rfl]
    simp [loopF, bindT, fracD, evSs, evS, evE, evEs, l1, l2, l3]
  have turn : ∀ q : Rat, Bd B q → q.den ∣ L → ∀ st', SW st' → turnF (callF Tk F k) (wipeE [some (triD a b c), some (.int (L : Nat)), some (.int c.num), some (.int (c.den : Int)), none] [4, 3]) (.tp [4, 3]) .none (.bin .mul (.var 4) (.bin .fdiv (.var 1) (.var 3))) (fracD q) st' = some (some (.int (upN L q)), st') := by
    intro q hq hd st' hs'
    have f1 : bop .fdiv (.int (L : Nat)) (.int (q.den : Int)) = some (.int ((L : Int) / (q.den : Int))) := by
      rw [← dvd_fdiv (Int.natCast_dvd_natCast.mpr hd)]
      refine fdiv_ok (den_ne q) ?_
      have : ((q.den : Int)).natAbs.log2 < 9000 := by
        rw [Int.natAbs_natCast]
        have := (Nat.log2_lt q.den_nz).mpr hq.2
        omega
      exact this
    have h2 : ((L : Int) / (q.den : Int)).natAbs ≤ L := by
      have := Int.natAbs_ediv_le_natAbs (L : Int) (q.den : Int)
      simpa using this
    have f2 : bop .mul (.int q.num) (.int ((L : Int) / (q.den : Int))) = some (.int (upN L q)) := mul_ok (n := B) (m := B + B + B + B) (log_nat hq.1) (log_nat (Nat.lt_of_le_of_lt h2 b3)) (by omega)
    simp [turnF, bindT, wipeE, fracD, evTo, evE, f1, f2]
  have hz : (3 : Nat) ≤ sizeLine := by decide
  have e := comp_pure (c := callF Tk F k) (env := [some (triD a b c), some (.int (L : Nat)), some (.int c.num), some (.int (c.den : Int)), none]) (elt := .bin .mul (.var 4) (.bin .fdiv (.var 1) (.var 3))) (tg := .tp [4, 3]) (it := .seq (.var 0)) (own := [("above", 4), ("below", 3)]) (st := st) (xs := [fracD a, fracD b, fracD c]) (g := upD L) hs rfl rfl hz (fun x hx => by
    simp only [List.mem_cons, List.not_mem_nil, or_false] at hx
    rcases hx with rfl | rfl | rfl
    · exact ⟨fun st' hs' => turn a ha d1 st' hs', fun m => rfl⟩
    · exact ⟨fun st' hs' => turn b hb d2 st' hs', fun m => rfl⟩
    · exact ⟨fun st' hs' => turn c hc d3 st' hs', fun m => rfl⟩)
  simp only [List.map_cons, List.map_nil, upD_frac] at e
  have body : evSs (callF Tk F k) F i_over_common.body [some (triD a b c), none, none, none, none] st = some (.ret (.tup [.lst [.int (upN L a), .int (upN L b), .int (upN L c)], .int (L : Nat)]) st) := by
    unfold i_over_common
    rw [ss_nxt (show evS (callF Tk F k) F (.asg 1 (.cst (.int 1))) _ st = some (.nxt [some (triD a b c), some (.int 1), none, none, none] st) from rfl), ss_nxt s2]
    refine ss_ret ?_
    have gen : ∀ C : IE, evE (callF Tk F k) [some (triD a b c), some (.int (L : Nat)), some (.int c.num), some (.int (c.den : Int)), none] C st = some (.lst [.int (upN L a), .int (upN L b), .int (upN L c)], st) →
        evS (callF Tk F k) F (.ret (.tup (.cons C (.cons (.var 1) .nil)))) [some (triD a b c), some (.int (L : Nat)), some (.int c.num), some (.int (c.den : Int)), none] st = some (.ret (.tup [.lst [.int (upN L a), .int (upN L b), .int (upN L c)], .int (L : Nat)]) st) := by
      intro C e'
      have hz2 : (2 : Nat) ≤ sizeLine := by decide
      simp [evS, evE, evEs, e', hz2]
    exact gen _ e
  exact (call_body (d := i_over_common) rfl ⟨rfl, by decide⟩ body).trans (cut_pl (fun k => by simp) rfl hs rfl)
/-- whole numbers in a list -/
abbrev i3 (x y z : Int) : List Mi.D := [.int x, .int y, .int z]
theorem g3_lt {x y z : Int} {B : Nat} (h0 : ¬ (x = 0 ∧ y = 0 ∧ z = 0)) (hx : x.natAbs < 2 ^ B) (hy : y.natAbs < 2 ^ B) (hz : z.natAbs < 2 ^ B) : g3 x y z < 2 ^ B := by
  obtain ⟨d1, d2, d3⟩ := g3_dvd x y z
  have go : ∀ u : Int, u ≠ 0 → (g3 x y z : Int) ∣ u → u.natAbs < 2 ^ B → g3 x y z < 2 ^ B := fun u hu hd hb =>
    Nat.lt_of_le_of_lt (Nat.le_of_dvd (Int.natAbs_pos.mpr hu) (Int.ofNat_dvd_left.mp hd)) hb
  by_cases h1 : x = 0
  · by_cases h2 : y = 0
    · exact go z (fun h3 => h0 ⟨h1, h2, h3⟩) d3 hz
    · exact go y h2 d2 hy
  · exact go x h1 d1 hx
theorem without_ok {F k : Nat} {x y z : Int} {st : Mi.Store} (hs : SW st) (h0 : ¬ (x = 0 ∧ y = 0 ∧ z = 0)) (hx : x.natAbs < 2 ^ 8000) (hy : y.natAbs < 2 ^ 8000) (hz : z.natAbs < 2 ^ 8000) :
    callF Tk F (k + 1) 2 [.lst (i3 x y z)] st = some (.lst (i3 (x / (g3 x y z : Int)) (y / (g3 x y z : Int)) (z / (g3 x y z : Int))), st) := by
  have hg := g3_pos h0
  have hgl := g3_lt h0 hx hy hz
  obtain ⟨d1, d2, d3⟩ := g3_dvd x y z
  have g1 : biF .gcd [.int 0, .int x] st = some (.int (x.natAbs : Nat)) := by simp [biF]
  have g2 : biF .gcd [.int (x.natAbs : Nat), .int y] st = some (.int (Nat.gcd x.natAbs y.natAbs : Nat)) := by simp [biF]
  have g3e : biF .gcd [.int (Nat.gcd x.natAbs y.natAbs : Nat), .int z] st = some (.int (g3 x y z : Nat)) := by simp [biF, g3]
  generalize g3 x y z = G at *
  generalize Nat.gcd x.natAbs y.natAbs = m2 at *
  generalize x.natAbs = m1 at *
  have s2 : evS (callF Tk F k) F (.forr (.nm 2) (.seq (.var 0)) (.cons (.asg 1 (.bi .gcd (.cons (.var 1) (.cons (.var 2) .nil)))) .nil)) [some (.lst (i3 x y z)), some (.int 0), none] st =
      some (.nxt [some (.lst (i3 x y z)), some (.int (G : Nat)), some (.int z)] st) := by
    simp [evS, evI, evE, seqD, loopF, bindT, evSs, evEs, g1, g2, g3e]
  have turn : ∀ u : Int, (G : Int) ∣ u → ∀ st', SW st' → turnF (callF Tk F k) (wipeE [some (.lst (i3 x y z)), some (.int (G : Nat)), some (.int z)] [2]) (.nm 2) .none (.bin .fdiv (.var 2) (.var 1)) (.int u) st' = some (some (.int (u / (G : Int))), st') := by
    intro u hd st' hs'
    have f1 : bop .fdiv (.int u) (.int (G : Nat)) = some (.int (u / (G : Int))) := by
      rw [← dvd_fdiv hd]
      refine fdiv_ok (by omega) ?_
      rw [Int.natAbs_natCast]
      have := (Nat.log2_lt (by omega)).mpr hgl
      omega
    simp [turnF, bindT, wipeE, evTo, evE, f1]
  have hz3 : (3 : Nat) ≤ sizeLine := by decide
  have e := comp_pure (c := callF Tk F k) (env := [some (.lst (i3 x y z)), some (.int (G : Nat)), some (.int z)]) (elt := .bin .fdiv (.var 2) (.var 1)) (tg := .nm 2) (it := .seq (.var 0)) (own := [("number", 2)]) (st := st) (xs := i3 x y z)
    (g := fun d => match d with
      | .int u => .int (u / (G : Int))
      | _ => .non) hs rfl rfl hz3 (fun d hd => by
    simp only [List.mem_cons, List.not_mem_nil, or_false] at hd
    rcases hd with rfl | rfl | rfl
    · exact ⟨fun st' hs' => turn x d1 st' hs', fun m => rfl⟩
    · exact ⟨fun st' hs' => turn y d2 st' hs', fun m => rfl⟩
    · exact ⟨fun st' hs' => turn z d3 st' hs', fun m => rfl⟩)
  simp only [List.map_cons, List.map_nil] at e
  have cl : cop .lt (.int (G : Nat)) (.int 2) = some (decide ((G : Int) < 2)) := rfl
  have body : evSs (callF Tk F k) F i_without_common.body [some (.lst (i3 x y z)), none, none] st = some (.ret (.lst (i3 (x / (G : Int)) (y / (G : Int)) (z / (G : Int)))) st) := by
    unfold i_without_common
    rw [ss_nxt (show evS (callF Tk F k) F (.asg 1 (.cst (.int 0))) _ st = some (.nxt [some (.lst (i3 x y z)), some (.int 0), none] st) from rfl), ss_nxt s2]
    by_cases h2 : (G : Int) < 2
    · refine ss_ret ?_
      have hG : (G : Int) = 1 := by omega
      have b1 : biF .list [.lst (i3 x y z)] st = some (.lst (i3 x y z)) := rfl
      have t1 : evT (callF Tk F k) [some (.lst (i3 x y z)), some (.int (G : Nat)), some (.int z)] (.cmp .lt (.var 1) (.cst (.int 2))) st = some (true, st) := by
        simp [evT, evE, cl, h2]
      simp only [evS, t1]
      refine ss_ret ?_
      simp [evS, evE, evEs, b1, hG]
    · refine (ss_nxt (env' := [some (.lst (i3 x y z)), some (.int (G : Nat)), some (.int z)]) (st' := st) ?_).trans (ss_ret ?_)
      · have t1 : evT (callF Tk F k) [some (.lst (i3 x y z)), some (.int (G : Nat)), some (.int z)] (.cmp .lt (.var 1) (.cst (.int 2))) st = some (false, st) := by
          simp [evT, evE, cl, h2]
        simp only [evS, t1]
        rfl
      · have gen : ∀ C : IE, evE (callF Tk F k) [some (.lst (i3 x y z)), some (.int (G : Nat)), some (.int z)] C st = some (.lst (i3 (x / (G : Int)) (y / (G : Int)) (z / (G : Int))), st) → evS (callF Tk F k) F (.ret C) [some (.lst (i3 x y z)), some (.int (G : Nat)), some (.int z)] st = some (.ret (.lst (i3 (x / (G : Int)) (y / (G : Int)) (z / (G : Int)))) st) := by
          intro C e'
          simp only [evS, e']
        exact gen _ e
  exact (call_body (d := i_without_common) rfl ⟨rfl, by decide⟩ body).trans (cut_pl (fun k => by simp) rfl hs rfl)
abbrev fwB (C : IE) : ISs := .cons (.ite (.cmp .ne (.var 2) (.cst (.int 0))) (.cons (.ret (.ife (.cmp .gt (.var 2) (.cst (.int 0))) (.var 1) C)) .nil) .nil) .nil
theorem fwd_loop {cc : CallT} {F : Nat} {C : IE} {a s : Option Mi.D} {R N : Mi.D} {st : Mi.Store} (hC : ∀ t : Int, evE cc [a, some R, some (.int t), none] C st = some (N, st)) {u v w : Int} :
    (Pos u v w → loopF (fun x env st => match bindT (.nm 2) x env with
      | some env' => evSs cc F (fwB C) env' st
      | none => none) (i3 u v w) [a, some R, s, none] st = some (.ret R st)) ∧
    (Pos (-u) (-v) (-w) → loopF (fun x env st => match bindT (.nm 2) x env with
      | some env' => evSs cc F (fwB C) env' st
      | none => none) (i3 u v w) [a, some R, s, none] st = some (.ret N st)) := by
  have b0 : evSs cc F (fwB C) [a, some R, some (.int 0), none] st = some (.nxt [a, some R, some (.int 0), none] st) := by
    simp [evSs, evS, evT, evE, ne_int]
  have g0 : ∀ t : Int, cop .gt (.int t) (.int 0) = some (decide (0 < t)) := fun t => rfl
  have b1 : ∀ t : Int, 0 < t → evSs cc F (fwB C) [a, some R, some (.int t), none] st = some (.ret R st) := fun t h => by
    have h' : t ≠ 0 := by omega
    simp [evSs, evS, evT, evE, ne_int, g0, h, h']
  have b2 : ∀ t : Int, t < 0 → evSs cc F (fwB C) [a, some R, some (.int t), none] st = some (.ret N st) := fun t h => by
    have h' : t ≠ 0 := by omega
    have h2 : ¬ 0 < t := by omega
    simp [evSs, evS, evT, evE, ne_int, g0, h2, h', hC t]
  constructor
  · rintro (h | ⟨rfl, h | ⟨rfl, h⟩⟩)
    · simp only [loopF, bindT, List.set_cons_succ, List.set_cons_zero, b1 _ h]
    · simp only [loopF, bindT, List.set_cons_succ, List.set_cons_zero, b0, b1 _ h]
    · simp only [loopF, bindT, List.set_cons_succ, List.set_cons_zero, b0, b1 _ h]
  · rintro (h | ⟨hu, h | ⟨hv, h⟩⟩)
    · simp only [loopF, bindT, List.set_cons_succ, List.set_cons_zero, b2 u (by omega)]
    · have : u = 0 := by omega
      subst this
      simp only [loopF, bindT, List.set_cons_succ, List.set_cons_zero, b0, b2 v (by omega)]
    · have : u = 0 := by omega
      subst this
      have : v = 0 := by omega
      subst this
      simp only [loopF, bindT, List.set_cons_succ, List.set_cons_zero, b0, b2 w (by omega)]
theorem forward_ok {F k : Nat} {x y z : Int} {st : Mi.Store} (hs : SW st) (h0 : ¬ (x = 0 ∧ y = 0 ∧ z = 0)) (hx : x.natAbs < 2 ^ 8000) (hy : y.natAbs < 2 ^ 8000) (hz : z.natAbs < 2 ^ 8000) :
    callF Tk F (k + 2) 3 [.lst (i3 x y z)] st = some (.lst (i3 (x / cut3 x y z) (y / cut3 x y z) (z / cut3 x y z)), st) := by
  have hw := without_ok (F := F) (k := k) hs h0 hx hy hz
  obtain ⟨hc0, _, _, _, _, hp⟩ := pl_of h0
  generalize hu : x / (g3 x y z : Int) = u at *
  generalize hv : y / (g3 x y z : Int) = v at *
  generalize hww : z / (g3 x y z : Int) = w at *
  have hz3 : (3 : Nat) ≤ sizeLine := by decide
  have e : ∀ t : Int, evE (callF Tk F (k + 1)) [some (.lst (i3 x y z)), some (.lst (i3 u v w)), some (.int t), none] (.comp (.neg (.var 3)) (.nm 3) (.seq (.var 1)) .none [("part", 3)]) st = some (.lst (i3 (-u) (-v) (-w)), st) := fun t =>
    comp_pure (c := callF Tk F (k + 1)) (env := [some (.lst (i3 x y z)), some (.lst (i3 u v w)), some (.int t), none]) (elt := .neg (.var 3)) (tg := .nm 3) (it := .seq (.var 1)) (own := [("part", 3)]) (st := st) (xs := i3 u v w)
      (g := fun d => match d with
        | .int u => .int (-u)
        | _ => .non) hs rfl rfl hz3 (fun d hd => by
      simp only [List.mem_cons, List.not_mem_nil, or_false] at hd
      rcases hd with rfl | rfl | rfl <;> exact ⟨fun st' hs' => rfl, fun m => rfl⟩)
  obtain ⟨l1, l2⟩ := fwd_loop (F := F) (s := none) e (u := u) (v := v) (w := w)
  have body : evSs (callF Tk F (k + 1)) F i_forward.body [some (.lst (i3 x y z)), none, none, none] st = some (.ret (.lst (i3 (x / cut3 x y z) (y / cut3 x y z) (z / cut3 x y z))) st) := by
    unfold i_forward
    rw [ss_nxt (show evS (callF Tk F (k + 1)) F (.asg 1 (.call 2 (.cons (.var 0) .nil))) _ st = some (.nxt [some (.lst (i3 x y z)), some (.lst (i3 u v w)), none, none] st) from by simp [evS, evE, evEs, hw])]
    refine ss_ret ?_
    have ei : evI (callF Tk F (k + 1)) [some (.lst (i3 x y z)), some (.lst (i3 u v w)), none, none] (.seq (.var 1)) st = some (i3 u v w, st) := rfl
    simp only [evS, ei]
    by_cases hP : Pos x y z
    · have ec : cut3 x y z = (g3 x y z : Int) := if_pos hP
      rw [ec, hu, hv, hww] at hp ⊢
      exact l1 hp
    · have ec : cut3 x y z = -(g3 x y z : Int) := if_neg hP
      rw [ec, Int.ediv_neg, Int.ediv_neg, Int.ediv_neg, hu, hv, hww] at hp ⊢
      exact l2 hp
  exact (call_body (d := i_forward) rfl ⟨rfl, by decide⟩ body).trans (cut_pl (fun k => by simp) rfl hs rfl)
theorem gs_all {f : Mi.D → Mi.Store → Option (Option Mi.D × Mi.Store)} {p : Mi.D → Bool} {st : Mi.Store} : ∀ xs : List Mi.D, (∀ x ∈ xs, f x st = some (some (.bl (p x)), st)) →
    ∃ ys : List Bool, mapGs .all f xs st = some (ys.map Mi.D.bl, st) ∧ ys.all id = xs.all p ∧ ys.length ≤ xs.length
  | [], _ => ⟨[], rfl, rfl, Nat.le_refl _⟩
  | x :: xs, h => by
    have hx := h x List.mem_cons_self
    by_cases hp : p x = true
    · obtain ⟨ys, h1, h2, h3⟩ := gs_all xs fun y hy => h y (List.mem_cons_of_mem _ hy)
      refine ⟨true :: ys, ?_, by simp [hp, h2], by simp; omega⟩
      simp [mapGs, hx, hp, stopG, h1]
    · have hp : p x = false := by simpa using hp
      refine ⟨[false], ?_, by simp [hp], by simp⟩
      simp [mapGs, hx, hp, stopG]
theorem bools_map : ∀ ys : List Bool, boolsD (ys.map Mi.D.bl) = some ys
  | [] => rfl
  | y :: ys => by simp [boolsD, bools_map ys]
theorem gen_all {c : CallT} {env : Mi.Env} {elt : IE} {tg : ITg} {it : II} {own : List (PySem.Str × Nat)} {st : Mi.Store} {xs : List Mi.D} {p : Mi.D → Bool} (hi : evI c env it st = some (xs, st)) (ho : tgOwn tg (own.map (·.2)) = true) (hl : xs.length ≤ sizeLine)
    (h : ∀ x ∈ xs, turnF c (wipeE env (own.map (·.2))) tg .none elt x st = some (some (.bl (p x)), st)) : evE c env (.gen .all elt tg it .none own) st = some (.bl (xs.all p), st) := by
  obtain ⟨ys, h1, h2, h3⟩ := gs_all xs h
  show (match evI c env it st with
    | some (xs, st1) => if tgOwn tg (own.map fun p : PySem.Str × Nat => p.2) then (match mapGs .all (turnF c (wipeE env (own.map fun p : PySem.Str × Nat => p.2)) tg .none elt) xs st1 with
      | some (ys, st2) => if ys.length ≤ sizeLine then (match gkF .all ys with
        | some d => some (d, st2)
        | none => none) else none
      | none => none) else none
    | none => none) = _
  have hl2 : (ys.map Mi.D.bl).length ≤ sizeLine := by rw [List.length_map]; omega
  have hg : gkF .all (ys.map Mi.D.bl) = some (.bl (xs.all p)) := by
    simp only [gkF, bools_map, Option.map_some, h2]
  simp only [hi, ho, if_true, h1, hl2, hg]
theorem gs_tup {f : Mi.D → Mi.Store → Option (Option Mi.D × Mi.Store)} {g : Mi.D → Mi.D} {st : Mi.Store} : ∀ xs : List Mi.D, (∀ x ∈ xs, f x st = some (some (g x), st)) → mapGs .tuple f xs st = some (xs.map g, st)
  | [], _ => rfl
  | x :: xs, h => by
    have hx := h x List.mem_cons_self
    have ih := gs_tup xs fun y hy => h y (List.mem_cons_of_mem _ hy)
    simp [mapGs, hx, stopG, ih]
theorem gen_tup {c : CallT} {env : Mi.Env} {elt : IE} {tg : ITg} {it : II} {own : List (PySem.Str × Nat)} {st : Mi.Store} {xs : List Mi.D} {g : Mi.D → Mi.D} (hi : evI c env it st = some (xs, st)) (ho : tgOwn tg (own.map (·.2)) = true) (hl : xs.length ≤ sizeLine)
    (h : ∀ x ∈ xs, turnF c (wipeE env (own.map (·.2))) tg .none elt x st = some (some (g x), st)) : evE c env (.gen .tuple elt tg it .none own) st = some (.tup (xs.map g), st) := by
  have h1 := gs_tup xs h
  show (match evI c env it st with
    | some (xs, st1) => if tgOwn tg (own.map fun p : PySem.Str × Nat => p.2) then (match mapGs .tuple (turnF c (wipeE env (own.map fun p : PySem.Str × Nat => p.2)) tg .none elt) xs st1 with
      | some (ys, st2) => if ys.length ≤ sizeLine then (match gkF .tuple ys with
        | some d => some (d, st2)
        | none => none) else none
      | none => none) else none
    | none => none) = _
  have hl2 : (xs.map g).length ≤ sizeLine := by rw [List.length_map]; exact hl
  have hg : gkF .tuple (xs.map g) = some (.tup (xs.map g)) := rfl
  simp only [hi, ho, if_true, h1, hl2, hg]
theorem whole_ok {F k : Nat} {i : Int} {st : Mi.Store} (hs : SW st) : callF Tk F (k + 1) 5 [.int i] st = some (.bl true, st) := by
  rw [call_at (d := i_is_whole) rfl]
  refine (run_ret (v := .bl true) (st' := st) rfl ⟨rfl, by decide⟩ ?_).trans (cut_pl (fun k => by simp) rfl hs rfl)
  rfl
theorem fraction_ok {F k : Nat} {q : Rat} {st : Mi.Store} (hs : SW st) : callF Tk F (k + 2) 6 [fracD q] st = some (.bl true, st) := by
  have w := fun i => whole_ok (F := F) (k := k) (i := i) hs
  have n1 : isiF (fracD q) .tuple = some true := rfl
  have n2 : biF .len [fracD q] st = some (.int 2) := rfl
  have n3 : cop .ne (.int 2) (.int 2) = some false := by rw [ne_int]; rfl
  have gp : cop .gt (.int (q.den : Int)) (.int 0) = some true := by
    have := q.den_pos
    show some (decide ((0 : Int) < q.den)) = _
    simp [this]
  have gg : biF .gcd [.int q.num, .int (q.den : Int)] st = some (.int 1) := by
    have := q.reduced
    simp only [biF, Int.natAbs_natCast]
    rw [show Nat.gcd q.num.natAbs q.den = 1 from this]
    rfl
  have ge : cop .eq (.int 1) (.int 1) = some true := by rw [eq_int]; rfl
  have body : evSs (callF Tk F (k + 1)) F i_is_fraction.body [some (fracD q), none, none] st = some (.ret (.bl true) st) := by
    unfold i_is_fraction
    have s1 : evS (callF Tk F (k + 1)) F (.ite (.or (.not (.val (.isi (.var 0) .tuple))) (.one (.cmp .ne (.bi .len (.cons (.var 0) .nil)) (.cst (.int 2))))) (.cons (.ret (.cst (.bl false))) .nil) .nil) [some (fracD q), none, none] st = some (.nxt [some (fracD q), none, none] st) := by
      simp [evS, evT, evE, evEs, evSs, truth, n1, n2, n3]
    have s2 : evS (callF Tk F (k + 1)) F (.asgT [.nm 1, .nm 2] (.var 0)) [some (fracD q), none, none] st = some (.nxt [some (fracD q), some (.int q.num), some (.int (q.den : Int))] st) := rfl
    rw [ss_nxt s1, ss_nxt s2]
    refine ss_ret ?_
    simp [evS, evE, evEs, w, gp, gg, ge]
  exact (call_body (d := i_is_fraction) rfl ⟨rfl, by decide⟩ body).trans (cut_pl (fun k => by simp) rfl hs rfl)
theorem triple_ok {F k : Nat} {a b c : Rat} {st : Mi.Store} (hs : SW st) : callF Tk F (k + 3) 7 [triD a b c] st = some (.bl true, st) := by
  have hz3 : (3 : Nat) ≤ sizeLine := by decide
  have e := gen_all (c := callF Tk F (k + 2)) (env := [some (triD a b c), none]) (elt := .call 6 (.cons (.var 1) .nil)) (tg := .nm 1) (it := .seq (.var 0)) (own := [("part", 1)]) (st := st) (xs := [fracD a, fracD b, fracD c]) (p := fun _ => true) rfl rfl hz3 (fun x hx => by
    simp only [List.mem_cons, List.not_mem_nil, or_false] at hx
    rcases hx with rfl | rfl | rfl <;> simp [turnF, bindT, wipeE, evTo, evE, evEs, fraction_ok (F := F) (k := k) hs])
  rw [call_at (d := i_is_triple) rfl]
  refine (run_ret (v := .bl true) (st' := st) rfl ⟨rfl, by decide⟩ ?_).trans (cut_pl (fun k => by simp) rfl hs rfl)
  have n1 : isiF (triD a b c) .tuple = some true := rfl
  have n2 : biF .len [triD a b c] st = some (.int 3) := rfl
  have n3 : cop .eq (.int 3) (.int 3) = some true := by rw [eq_int]; rfl
  have gen : ∀ C : IE, evE (callF Tk F (k + 2)) [some (triD a b c), none] C st = some (.bl true, st) → evE (callF Tk F (k + 2)) [some (triD a b c), none] (.andv (.isi (.var 0) .tuple) (.andv (.cmp .eq (.bi .len (.cons (.var 0) .nil)) (.cst (.int 3))) (.one C))) st = some (.bl true, st) := by
    intro C e'
    simp [evE, evEs, truth, n1, n2, n3, e']
  exact gen _ e
theorem num_zero {q : Rat} : q.num = 0 ↔ q = 0 := by
  constructor
  · intro h
    rw [← Rat.num_divInt_den q, h]
    simp
  · rintro rfl
    rfl
theorem isn_ok {F k : Nat} {a b c : Rat} {st : Mi.Store} (hs : SW st) (h0 : ¬ (a = 0 ∧ b = 0 ∧ c = 0)) : callF Tk F (k + 1) 4 [triD a b c] st = some (.bl false, st) := by
  have hz3 : (3 : Nat) ≤ sizeLine := by decide
  have e := gen_all (c := callF Tk F k) (env := [some (triD a b c), none]) (elt := .cmp .eq (.idx (.var 1) (.cst (.int 0))) (.cst (.int 0))) (tg := .nm 1) (it := .seq (.var 0)) (own := [("number", 1)]) (st := st) (xs := [fracD a, fracD b, fracD c])
    (p := fun d => match d with
      | .tup [.int n, _] => decide (n = 0)
      | _ => false) rfl rfl hz3 (fun x hx => by
    have i0 : ∀ q : Rat, idxF (fracD q) (.int 0) st = some (.int q.num) := fun q => rfl
    have go : ∀ q : Rat, turnF (callF Tk F k) (wipeE [some (triD a b c), none] [1]) (.nm 1) .none (.cmp .eq (.idx (.var 1) (.cst (.int 0))) (.cst (.int 0))) (fracD q) st = some (some (.bl (decide (q.num = 0))), st) := fun q => by
      simp only [turnF, bindT, wipeE, evTo, evE, List.set_cons_succ, List.set_cons_zero, List.getElem?_cons_succ, List.getElem?_cons_zero, i0, eq_int]
    simp only [List.mem_cons, List.not_mem_nil, or_false] at hx
    rcases hx with rfl | rfl | rfl
    · exact go a
    · exact go b
    · exact go c)
  have ef : ([fracD a, fracD b, fracD c].all fun d => match d with
      | .tup [.int n, _] => decide (n = 0)
      | _ => false) = false := by
    show ((decide (a.num = 0)) && ((decide (b.num = 0)) && ((decide (c.num = 0)) && true))) = false
    simp only [num_zero]
    simpa using h0
  rw [ef] at e
  rw [call_at (d := i_is_nought) rfl]
  exact (run_ret (v := .bl false) (st' := st) rfl ⟨rfl, by decide⟩ e).trans (cut_pl (fun k => by simp) rfl hs rfl)
theorem isd_ok {F k : Nat} {a b c : Rat} {st : Mi.Store} (hs : SW st) (h0 : ¬ (a = 0 ∧ b = 0 ∧ c = 0)) : callF Tk F (k + 4) 8 [triD a b c] st = some (.bl true, st) := by
  have h1 := triple_ok (F := F) (k := k) (a := a) (b := b) (c := c) hs
  have h2 := isn_ok (F := F) (k := k + 2) hs h0
  rw [call_at (d := i_is_direction) rfl]
  refine (run_ret (v := .bl true) (st' := st) rfl ⟨rfl, by decide⟩ ?_).trans (cut_pl (fun k => by simp) rfl hs rfl)
  show evE (callF Tk F (k + 3)) [some (triD a b c)] _ st = _
  simp [evE, evEs, h1, h2]
theorem chk_ok {F k : Nat} {a b c : Rat} {st : Mi.Store} (hs : SW st) (h0 : ¬ (a = 0 ∧ b = 0 ∧ c = 0)) : callF Tk F (k + 5) 9 [triD a b c] st = some (.non, st) := by
  have h1 := isd_ok (F := F) (k := k) hs h0
  have body : evSs (callF Tk F (k + 4)) F i_check_direction.body [some (triD a b c)] st = some (.nxt [some (triD a b c)] st) := by
    simp [i_check_direction, evSs, evS, evT, evE, evEs, truth, h1]
  exact (call_bodyN (d := i_check_direction) rfl ⟨rfl, by decide⟩ body).trans (cut_pl (fun k => by simp) rfl hs rfl)
theorem asfr_ok {F k : Nat} {zs : List Int} {v : Mi.D} {st : Mi.Store} (hs : SW st) (hv : seqD v = some (zs.map Mi.D.int)) (hl : zs.length ≤ sizeLine) : callF Tk F (k + 1) 1 [v] st = some (.tup (zs.map fun z => .tup [.int z, .int 1]), st) := by
  have hz2 : (2 : Nat) ≤ sizeLine := by decide
  have e := gen_tup (c := callF Tk F k) (env := [some v, none]) (elt := .tup (.cons (.var 1) (.cons (.cst (.int 1)) .nil))) (tg := .nm 1) (it := .seq (.var 0)) (own := [("number", 1)]) (st := st) (xs := zs.map Mi.D.int) (g := fun d => .tup [d, .int 1]) (by simp [evI, evE, evEs, hv]) rfl (by simpa using hl) (fun d hd => by
    simp [turnF, bindT, wipeE, evTo, evE, evEs, hz2])
  rw [List.map_map] at e
  rw [call_at (d := i_as_fractions) rfl]
  refine (run_ret (v := .tup (zs.map fun z => .tup [.int z, .int 1])) (st' := st) rfl ⟨rfl, by decide⟩ e).trans (cut_pl (fun k => by simp) ?_ hs rfl)
  simp only [fitD]
  refine fits_all fun d hd => ?_
  obtain ⟨z, _, rfl⟩ := List.mem_map.mp hd
  rfl
theorem plain_ok {F k B : Nat} {a b c : Rat} {st : Mi.Store} (hs : SW st) (ha : Bd B a) (hb : Bd B b) (hc : Bd B c) (hB : B ≤ 1500) (h0 : ¬ (a = 0 ∧ b = 0 ∧ c = 0)) :
    ∃ x y z : Int, callF Tk F (k + 6) 10 [triD a b c] st = some (triD (x : Rat) (y : Rat) (z : Rat), st) ∧ IsPl x y z ∧ Along a b c x y z ∧ x.natAbs < 2 ^ (5 * B) ∧ y.natAbs < 2 ^ (5 * B) ∧ z.natAbs < 2 ^ (5 * B) := by
  have h1 := chk_ok (F := F) (k := k) hs h0
  have h2 := over_ok (F := F) (k := k + 4) hs ha hb hc (by omega)
  have hL := L3_pos a b c
  obtain ⟨d1, d2, d3⟩ := L3_dvd a b c
  have hLb : L3 a b c < 2 ^ (B + B + B + B) := by
    have p1 : (1 : Nat) < 2 ^ B := by
      have := ha.2
      have := a.den_pos
      omega
    exact lcm_lt (lcm_lt (lcm_lt p1 ha.2 (by decide) a.den_pos) hb.2 (Nat.lcm_pos (by decide) a.den_pos) b.den_pos) hc.2 (Nat.lcm_pos (Nat.lcm_pos (by decide) a.den_pos) b.den_pos) c.den_pos
  have e1 := upN_eq d1
  have e2 := upN_eq d2
  have e3 := upN_eq d3
  have u1 := upN_lt hLb ha
  have u2 := upN_lt hLb hb
  have u3 := upN_lt hLb hc
  generalize L3 a b c = L at *
  generalize upN L a = x at *
  generalize upN L b = y at *
  generalize upN L c = z at *
  have hL0 : (L : Rat) ≠ 0 := by
    intro h
    have : ((L : Int) : Rat) = ((0 : Int) : Rat) := h
    have := Rat.intCast_inj.mp this
    omega
  have hne : ¬ (x = 0 ∧ y = 0 ∧ z = 0) := by
    rintro ⟨rfl, rfl, rfl⟩
    rw [Rat.intCast_zero] at e1 e2 e3
    exact h0 ⟨by grind, by grind, by grind⟩
  have up : ∀ u : Int, u.natAbs < 2 ^ (B + (B + B + B + B)) → u.natAbs < 2 ^ 8000 := fun u h => Nat.lt_of_lt_of_le h (Nat.pow_le_pow_right (by decide) (by omega))
  have h3 := forward_ok (F := F) (k := k + 3) hs hne (up _ u1) (up _ u2) (up _ u3)
  obtain ⟨hc0, c1, c2, c3, hp⟩ := pl_of hne
  have bd : ∀ u : Int, u.natAbs < 2 ^ (B + (B + B + B + B)) → (u / cut3 x y z).natAbs < 2 ^ (5 * B) := fun u h => by
    rw [show 5 * B = B + (B + B + B + B) by omega]
    exact Nat.lt_of_le_of_lt (Int.natAbs_ediv_le_natAbs _ _) h
  refine ⟨x / cut3 x y z, y / cut3 x y z, z / cut3 x y z, ?_, hp, ?_, bd _ u1, bd _ u2, bd _ u3⟩
  · generalize x / cut3 x y z = p at *
    generalize y / cut3 x y z = q at *
    generalize z / cut3 x y z = r at *
    have hz3 : (3 : Nat) ≤ sizeLine := by decide
    have hz2 : (2 : Nat) ≤ sizeLine := by decide
    have ft : ∀ u : Int, fracD (u : Rat) = .tup [.int u, .int 1] := fun u => by
      unfold fracD
      rw [Rat.num_intCast, Rat.den_intCast]
      rfl
    have af := asfr_ok (F := F) (k := k + 4) (zs := [p, q, r]) (v := .lst (i3 p q r)) hs rfl hz3
    have body : evSs (callF Tk F (k + 5)) F i_plain_direction.body [some (triD a b c), none, none] st = some (.ret (triD (p : Rat) (q : Rat) (r : Rat)) st) := by
      unfold i_plain_direction
      have s1 : evS (callF Tk F (k + 5)) F (.expr (.call 9 (.cons (.var 0) .nil))) [some (triD a b c), none, none] st = some (.nxt [some (triD a b c), none, none] st) := by
        simp [evS, evE, evEs, h1]
      have s2 : evS (callF Tk F (k + 5)) F (.asgT [.nm 1, .nm 2] (.call 0 (.cons (.var 0) .nil))) [some (triD a b c), none, none] st = some (.nxt [some (triD a b c), some (.lst (i3 x y z)), some (.int (L : Nat))] st) := by
        simp [evS, evE, evEs, h2, asgTs]
      rw [ss_nxt s1, ss_nxt s2]
      refine ss_ret ?_
      have h3' : callF Tk F (k + 5) 3 [.lst (i3 x y z)] st = some (.lst (i3 p q r), st) := h3
      simp only [evS, evE, evEs, List.getElem?_cons_succ, List.getElem?_cons_zero, h3', af, List.map_cons, List.map_nil, triD, ft]
    exact (call_body (d := i_plain_direction) rfl ⟨rfl, by decide⟩ body).trans (cut_pl (fun k => by simp [triD]) rfl hs rfl)
  · generalize x / cut3 x y z = p at *
    generalize y / cut3 x y z = q at *
    generalize z / cut3 x y z = r at *
    generalize cut3 x y z = e at *
    have he : (e : Rat) ≠ 0 := fun h => hc0 (Rat.intCast_inj.mp (h.trans Rat.intCast_zero.symm))
    rw [← c1, Rat.intCast_mul] at e1
    rw [← c2, Rat.intCast_mul] at e2
    rw [← c3, Rat.intCast_mul] at e3
    exact ⟨(L : Rat) / (e : Rat), by grind, by grind, by grind, by grind⟩
theorem euclidG {tf : Mi.Env → Mi.Store → Option (Bool × Mi.Store)} {bf : Mi.Env → Mi.Store → Option Mi.Fl} {E : Int → Int → Mi.Env} {st : Mi.Store}
    (ht : ∀ a b : Int, tf (E a b) st = some (!decide (b = 0), st))
    (hb : ∀ a b : Int, 0 < b → bf (E a b) st = some (.nxt (E b (a % b)) st)) : ∀ (B : Nat) (a b : Int), 0 ≤ a → 0 ≤ b → b.toNat < B →
    loopW tf bf B (E a b) st = some (.nxt (E (Int.gcd a b) 0) st)
  | 0, a, b, _, _, h => by omega
  | B + 1, a, b, ha, hb', h => by
    by_cases h0 : b = 0
    · subst h0
      simp only [loopW, ht]
      simp
      congr 1
      omega
    · have hpos : 0 < b := by omega
      have ih := euclidG ht hb B b (a % b) hb' (Int.emod_nonneg _ h0) (by
        have := Int.emod_lt_of_pos a hpos
        have := Int.emod_nonneg a h0
        omega)
      have eg : Int.gcd b (a % b) = Int.gcd a b := by
        obtain ⟨m, rfl⟩ := Int.eq_ofNat_of_zero_le ha
        obtain ⟨n, rfl⟩ := Int.eq_ofNat_of_zero_le hb'
        rw [show ((m : Int) % (n : Int)) = ((m % n : Nat) : Int) from rfl]
        show Nat.gcd n (m % n) = Nat.gcd m n
        rw [Nat.gcd_comm n, ← Nat.gcd_rec, Nat.gcd_comm]
      simp only [loopW, ht, hb a b hpos, h0, decide_false, Bool.not_false]
      rw [ih, eg]
theorem map_opt {f : Mi.D → Mi.Store → Option (Option Mi.D × Mi.Store)} {g : Mi.D → Option Mi.D} {st : Mi.Store} (hs : SW st) : ∀ (xs acc : List Mi.D), (∀ x ∈ xs, (∀ st', SW st' → f x st' = some (g x, st')) ∧ ∀ y, g x = some y → ∀ m, fitD m y = true) → fitDs (st.length + 1) acc = true → acc.length + xs.length ≤ sizeLine →
    mapSt st.length f xs (st ++ [some acc]) = some (st ++ [some (acc ++ xs.filterMap g)])
  | [], acc, _, _, _ => by simp [mapSt]
  | x :: xs, acc, h, ha, hl => by
    have hx := h x List.mem_cons_self
    rw [List.length_cons] at hl
    have e : (st ++ [some acc])[st.length]? = some (some acc) := by simp
    cases hg : g x with
    | none =>
      have h1 := hx.1 _ (hs.push ha)
      rw [hg] at h1
      simp only [mapSt, h1]
      rw [map_opt hs xs acc (fun y hy => h y (List.mem_cons_of_mem _ hy)) ha (by omega), List.filterMap_cons_none hg]
    | some y =>
      have h1 := hx.1 _ (hs.push ha)
      rw [hg] at h1
      have e2 : (st ++ [some acc]).set st.length (some (acc ++ [y])) = st ++ [some (acc ++ [y])] := by simp
      simp only [mapSt, h1, e]
      rw [if_pos (by omega), e2, map_opt hs xs (acc ++ [y]) (fun y hy => h y (List.mem_cons_of_mem _ hy)) ?_ (by rw [List.length_append, List.length_singleton]; omega), List.filterMap_cons_some hg]
      · simp
      · refine fits_all fun d hd => ?_
        rcases List.mem_append.mp hd with hd | hd
        · exact fit_mem ha hd
        · rw [List.mem_singleton.mp hd]; exact hx.2 _ hg _
/-- a comprehension with a condition, of values that change nothing -/
theorem comp_opt {c : CallT} {env : Mi.Env} {elt : IE} {tg : ITg} {it : II} {cond : ITo} {own : List (PySem.Str × Nat)} {st : Mi.Store} {xs : List Mi.D} {g : Mi.D → Option Mi.D} (hs : SW st) (hi : evI c env it st = some (xs, st)) (ho : tgOwn tg (own.map (·.2)) = true) (hl : xs.length ≤ sizeLine)
    (h : ∀ x ∈ xs, (∀ st', SW st' → turnF c (wipeE env (own.map (·.2))) tg cond elt x st' = some (g x, st')) ∧ ∀ y, g x = some y → ∀ m, fitD m y = true) : evE c env (.comp elt tg it cond own) st = some (.lst (xs.filterMap g), st) := by
  have m := map_opt hs xs [] h rfl (by simpa using hl)
  rw [List.nil_append] at m
  have e : (st ++ [some (xs.filterMap g)])[st.length]? = some (some (xs.filterMap g)) := by simp
  have hf : fitDs st.length (xs.filterMap g) = true := fits_all fun d hd => by
    obtain ⟨x, hx, hg⟩ := List.mem_filterMap.mp hd
    exact (h x hx).2 _ hg _
  have hc : Mi.cutD st.length (.lst (xs.filterMap g)) (st ++ [some (xs.filterMap g)]) = some (.lst (xs.filterMap g), st) := cut_more (fun k => by simp) hf hs
  show (match evI c env it st with
    | some (xs, st1) => if tgOwn tg (own.map fun p : PySem.Str × Nat => p.2) then (match mapSt st1.length (turnF c (wipeE env (own.map fun p : PySem.Str × Nat => p.2)) tg cond elt) xs (st1 ++ [some []]) with
      | some st2 => (match st2[st1.length]? with
        | some (some ys) => Mi.cutD st1.length (.lst ys) st2
        | _ => none)
      | none => none) else none
    | none => none) = _
  simp only [hi, ho, if_true, m, e]
  exact hc
abbrev leanB : ISs := .cons (.asgP [3, 4] (.cons (.var 1) (.cons (.bi .abs (.cons (.var 2) .nil)) .nil)))
    (.cons (.whl (.cmp .ne (.var 4) (.cst (.int 0))) (.cons (.asgP [3, 4] (.cons (.var 4) (.cons (.bin .mod (.bi .int (.cons (.var 3) .nil)) (.var 4)) .nil))) .nil))
    (.cons (.asg 1 (.var 3)) .nil))
theorem lean_step {c : CallT} {F : Nat} {a y z : Option Mi.D} {f : Option Mi.D} {st : Mi.Store} {g : Nat} {u : Int} (hF : u.natAbs < F) :
    evSs c F leanB [a, some (.int (g : Nat)), some (.int u), y, z, f] st = some (.nxt [a, some (.int (Nat.gcd g u.natAbs : Nat)), some (.int u), some (.int (Nat.gcd g u.natAbs : Nat)), some (.int 0), f] st) := by
  have ab : biF .abs [.int u] st = some (.int (u.natAbs : Int)) := by
    show some (Mi.D.int (if u < 0 then -u else u)) = _
    congr 2
    split <;> omega
  have s1 : evS c F (.asgP [3, 4] (.cons (.var 1) (.cons (.bi .abs (.cons (.var 2) .nil)) .nil))) [a, some (.int (g : Nat)), some (.int u), y, z, f] st = some (.nxt [a, some (.int (g : Nat)), some (.int u), some (.int (g : Nat)), some (.int (u.natAbs : Nat)), f] st) := by
    simp [evS, evEs, evE, ab]
  have s2 : evS c F (.whl (.cmp .ne (.var 4) (.cst (.int 0))) (.cons (.asgP [3, 4] (.cons (.var 4) (.cons (.bin .mod (.bi .int (.cons (.var 3) .nil)) (.var 4)) .nil))) .nil)) [a, some (.int (g : Nat)), some (.int u), some (.int (g : Nat)), some (.int (u.natAbs : Nat)), f] st =
      some (.nxt [a, some (.int (g : Nat)), some (.int u), some (.int (Nat.gcd g u.natAbs : Nat)), some (.int 0), f] st) := by
    refine euclidG (E := fun i j => [a, some (.int (g : Nat)), some (.int u), some (.int i), some (.int j), f]) (fun i j => ?_) (fun i j h => ?_) F _ _ (by omega) (by omega) (by omega)
    · simp only [evT, evE, List.getElem?_cons_succ, List.getElem?_cons_zero, ne_int]
    · have e : bop .mod (.int i) (.int j) = some (.int (i % j)) := by
        rw [← fm i h]
        simp only [bop]
        rw [if_pos (by omega)]
      simp [evSs, evS, evEs, evE, biF, e]
  rw [ss_nxt s1, ss_nxt s2]
  simp [evSs, evS, evE]
theorem lean_ok {F k : Nat} {x y z : Int} {st : Mi.Store} (hs : SW st) (h : IsPl x y z) (hx : x.natAbs < F) (hy : y.natAbs < F) (hz : z.natAbs < F) :
    callF Tk F (k + 1) 27 [.tup (i3 x y z)] st = some (.tup (i3 x y z), st) := by
  obtain ⟨hg, hP⟩ := h
  have s1 : evS (callF Tk F k) F (.asg 1 (.cst (.int 0))) [some (.tup (i3 x y z)), none, none, none, none, none] st = some (.nxt [some (.tup (i3 x y z)), some (.int ((0 : Nat) : Int)), none, none, none, none] st) := rfl
  have s2 : evS (callF Tk F k) F (.forr (.nm 2) (.seq (.var 0)) leanB) [some (.tup (i3 x y z)), some (.int ((0 : Nat) : Int)), none, none, none, none] st =
      some (.nxt [some (.tup (i3 x y z)), some (.int 1), some (.int z), some (.int 1), some (.int 0), none] st) := by
    have ei : evI (callF Tk F k) [some (.tup (i3 x y z)), some (.int ((0 : Nat) : Int)), none, none, none, none] (.seq (.var 0)) st = some (i3 x y z, st) := rfl
    have e3 : Nat.gcd (Nat.gcd (Nat.gcd 0 x.natAbs) y.natAbs) z.natAbs = 1 := by
      rw [Nat.gcd_zero_left]
      exact hg
    have b1 := lean_step (c := callF Tk F k) (F := F) (a := some (.tup (i3 x y z))) (y := none) (z := none) (f := none) (st := st) (g := 0) (u := x) hx
    have b2 := lean_step (c := callF Tk F k) (F := F) (a := some (.tup (i3 x y z))) (y := some (.int (Nat.gcd 0 x.natAbs : Nat))) (z := some (.int 0)) (f := none) (st := st) (g := Nat.gcd 0 x.natAbs) (u := y) hy
    have b3 := lean_step (c := callF Tk F k) (F := F) (a := some (.tup (i3 x y z))) (y := some (.int (Nat.gcd (Nat.gcd 0 x.natAbs) y.natAbs : Nat))) (z := some (.int 0)) (f := none) (st := st) (g := Nat.gcd (Nat.gcd 0 x.natAbs) y.natAbs) (u := z) hz
    rw [e3] at b3
    simp only [evS, ei]
    simp only [loopF, bindT, List.set_cons_succ, List.set_cons_zero, b1, b2, b3]
    rfl
  have first : ∃ f rest, (i3 x y z).filterMap (fun d => match d with
      | .int u => if u = 0 then none else some (Mi.D.int u)
      | _ => none) = .int f :: rest ∧ 0 < f := by
    rcases hP with h | ⟨rfl, h | ⟨rfl, h⟩⟩
    · exact ⟨x, _, by rw [List.filterMap_cons_some (b := .int x) (by simp; omega)], h⟩
    · exact ⟨y, _, by rw [List.filterMap_cons_none (by simp), List.filterMap_cons_some (b := .int y) (by simp; omega)], h⟩
    · exact ⟨z, _, by rw [List.filterMap_cons_none (by simp), List.filterMap_cons_none (by simp), List.filterMap_cons_some (b := .int z) (by simp; omega)], h⟩
  obtain ⟨f, rest, hf, hpos⟩ := first
  have hz3 : (3 : Nat) ≤ sizeLine := by decide
  have c1 := comp_opt (c := callF Tk F k) (env := [some (.tup (i3 x y z)), some (.int 1), some (.int z), some (.int 1), some (.int 0), none]) (elt := .var 2) (tg := .nm 2) (it := .seq (.var 0)) (cond := .some (.cmp .ne (.var 2) (.cst (.int 0)))) (own := [("_law_each", 2)]) (st := st) (xs := i3 x y z)
    (g := fun d => match d with
      | .int u => if u = 0 then none else some (.int u)
      | _ => none) hs rfl rfl hz3 (fun d hd => by
    have go : ∀ u : Int, (∀ st', SW st' → turnF (callF Tk F k) (wipeE [some (.tup (i3 x y z)), some (.int 1), some (.int z), some (.int 1), some (.int 0), none] [2]) (.nm 2) (.some (.cmp .ne (.var 2) (.cst (.int 0)))) (.var 2) (.int u) st' = some ((if u = 0 then none else some (.int u)), st')) ∧ ∀ y, (if u = 0 then none else some (Mi.D.int u)) = some y → ∀ m, fitD m y = true := fun u => by
      by_cases h0 : u = 0
      · simp [turnF, bindT, wipeE, evTo, evT, evE, ne_int, h0]
      · refine ⟨fun st' _ => by simp [turnF, bindT, wipeE, evTo, evT, evE, ne_int, h0], fun y hy m => ?_⟩
        rw [if_neg h0] at hy
        cases hy
        rfl
    simp only [List.mem_cons, List.not_mem_nil, or_false] at hd
    rcases hd with rfl | rfl | rfl
    · exact go x
    · exact go y
    · exact go z)
  rw [hf] at c1
  have s3 : evS (callF Tk F k) F (.asg 5 (.idx (.comp (.var 2) (.nm 2) (.seq (.var 0)) (.some (.cmp .ne (.var 2) (.cst (.int 0)))) [("_law_each", 2)]) (.cst (.int 0)))) [some (.tup (i3 x y z)), some (.int 1), some (.int z), some (.int 1), some (.int 0), none] st =
      some (.nxt [some (.tup (i3 x y z)), some (.int 1), some (.int z), some (.int 1), some (.int 0), some (.int f)] st) := by
    have ix : idxF (.lst (.int f :: rest)) (.int 0) st = some (.int f) := by
      simp [idxF, itemsD, L2.atI, L2.ixN]
    have gen : ∀ C : IE, evE (callF Tk F k) [some (.tup (i3 x y z)), some (.int 1), some (.int z), some (.int 1), some (.int 0), none] C st = some (.lst (.int f :: rest), st) →
        evS (callF Tk F k) F (.asg 5 (.idx C (.cst (.int 0)))) [some (.tup (i3 x y z)), some (.int 1), some (.int z), some (.int 1), some (.int 0), none] st = some (.nxt [some (.tup (i3 x y z)), some (.int 1), some (.int z), some (.int 1), some (.int 0), some (.int f)] st) := by
      intro C e'
      simp [evS, evE, e', ix]
    exact gen _ c1
  have c2 := comp_pure (c := callF Tk F k) (env := [some (.tup (i3 x y z)), some (.int 1), some (.int z), some (.int 1), some (.int 0), some (.int f)]) (elt := .bin .fdiv (.var 2) (.ife (.cmp .gt (.var 5) (.cst (.int 0))) (.var 1) (.bin .sub (.cst (.int 0)) (.var 1)))) (tg := .nm 2) (it := .seq (.var 0)) (own := [("_law_each", 2)]) (st := st) (xs := i3 x y z) (g := fun d => d) hs rfl rfl hz3 (fun d hd => by
    have gt : cop .gt (.int f) (.int 0) = some true := by
      show some (decide (0 < f)) = _
      simp [hpos]
    have go : ∀ u : Int, (∀ st', SW st' → turnF (callF Tk F k) (wipeE [some (.tup (i3 x y z)), some (.int 1), some (.int z), some (.int 1), some (.int 0), some (.int f)] [2]) (.nm 2) .none (.bin .fdiv (.var 2) (.ife (.cmp .gt (.var 5) (.cst (.int 0))) (.var 1) (.bin .sub (.cst (.int 0)) (.var 1)))) (.int u) st' = some (some (.int u), st')) ∧ ∀ m, fitD m (.int u) = true := fun u => by
      have f1 : bop .fdiv (.int u) (.int 1) = some (.int u) := by
        rw [fdiv_ok (by decide) (by decide), Int.fdiv_one]
      exact ⟨fun st' _ => by simp [turnF, bindT, wipeE, evTo, evT, evE, gt, f1], fun m => rfl⟩
    simp only [List.mem_cons, List.not_mem_nil, or_false] at hd
    rcases hd with rfl | rfl | rfl
    · exact go x
    · exact go y
    · exact go z)
  have body : evSs (callF Tk F k) F i__law_lean.body [some (.tup (i3 x y z)), none, none, none, none, none] st = some (.ret (.tup (i3 x y z)) st) := by
    unfold i__law_lean
    rw [ss_nxt s1, ss_nxt s2, ss_nxt s3]
    refine ss_ret ?_
    have gen : ∀ C : IE, evE (callF Tk F k) [some (.tup (i3 x y z)), some (.int 1), some (.int z), some (.int 1), some (.int 0), some (.int f)] C st = some (.lst (i3 x y z), st) →
        evS (callF Tk F k) F (.ret (.bi .tuple (.cons C .nil))) [some (.tup (i3 x y z)), some (.int 1), some (.int z), some (.int 1), some (.int 0), some (.int f)] st = some (.ret (.tup (i3 x y z)) st) := by
      intro C e'
      have b1 : biF .tuple [.lst (i3 x y z)] st = some (.tup (i3 x y z)) := rfl
      simp [evS, evE, evEs, e', b1]
    refine gen _ (c2.trans ?_)
    simp
  exact (call_body (d := i__law_lean) rfl ⟨rfl, by decide⟩ body).trans (cut_pl (fun k => by simp) rfl hs rfl)
theorem dEq_i3 (x y z : Int) : dEq (.tup (i3 x y z)) (.tup (i3 x y z)) = some true := by
  have s : SeqAt.shaped (pd (.tup (i3 x y z))) = true := rfl
  have f : flat0 (.tup (i3 x y z)) = true := rfl
  have e : PyData.eqv (pd (.tup (i3 x y z))) (pd (.tup (i3 x y z))) = true := by
    show PyData.eqv (.tuple [.int x, .int y, .int z]) (.tuple [.int x, .int y, .int z]) = true
    simp [PyData.eqv, PyData.eqvAll]
  simp only [dEq, f, s, Bool.true_and, if_true, e]
theorem frac_int (u : Int) : fracD (u : Rat) = .tup [.int u, .int 1] := by
  unfold fracD
  rw [Rat.num_intCast, Rat.den_intCast]
  rfl
theorem Bd.int {u : Int} {B : Nat} (h : u.natAbs < 2 ^ B) (hB : 0 < B) : Bd B (u : Rat) := by
  refine ⟨by rw [Rat.num_intCast]; exact h, ?_⟩
  rw [Rat.den_intCast]
  exact Nat.one_lt_two_pow (by omega)
theorem isp_ok {F k : Nat} {x y z : Int} {st : Mi.Store} (hs : SW st) (h : IsPl x y z) (hx : x.natAbs < 2 ^ 4000) (hy : y.natAbs < 2 ^ 4000) (hz : z.natAbs < 2 ^ 4000) (hF : 2 ^ 8000 ≤ F) :
    callF Tk F (k + 5) 32 [triD (x : Rat) (y : Rat) (z : Rat)] st = some (.bl true, st) := by
  have up : ∀ u : Int, u.natAbs < 2 ^ 4000 → u.natAbs < F := fun u hu => Nat.lt_of_lt_of_le hu (Nat.le_trans (Nat.pow_le_pow_right (by decide) (by decide)) hF)
  have hne : ¬ ((x : Rat) = 0 ∧ (y : Rat) = 0 ∧ (z : Rat) = 0) := by
    rintro ⟨h1, h2, h3⟩
    exact h.ne ⟨Rat.intCast_inj.mp (h1.trans Rat.intCast_zero.symm), Rat.intCast_inj.mp (h2.trans Rat.intCast_zero.symm), Rat.intCast_inj.mp (h3.trans Rat.intCast_zero.symm)⟩
  have h1 := ish_ok (F := F) (k := k) hs (Bd.int hx (by decide)) (Bd.int hy (by decide)) (Bd.int hz (by decide)) hne hF
  have h2 := lean_ok (F := F) (k := k + 3) hs h (up _ hx) (up _ hy) (up _ hz)
  have hz3 : (3 : Nat) ≤ sizeLine := by decide
  generalize hT : triD (x : Rat) (y : Rat) (z : Rat) = T at *
  have hT2 : T = .tup [.tup [.int x, .int 1], .tup [.int y, .int 1], .tup [.int z, .int 1]] := by
    rw [← hT, triD, frac_int, frac_int, frac_int]
  have ei : ∀ (w : Option Mi.D), evI (callF Tk F (k + 4)) [some T, w, none] (.seq (.var 0)) st = some ([.tup [.int x, .int 1], .tup [.int y, .int 1], .tup [.int z, .int 1]], st) := fun w => by
    rw [hT2]; rfl
  have c1 := comp_opt (c := callF Tk F (k + 4)) (env := [some T, none, none]) (elt := .var 2) (tg := .nm 2) (it := .seq (.var 0)) (cond := .some (.cmp .ne (.idx (.var 2) (.cst (.int 1))) (.cst (.int 1)))) (own := [("_law_each", 2)]) (st := st) (xs := [.tup [.int x, .int 1], .tup [.int y, .int 1], .tup [.int z, .int 1]])
    (g := fun d => none) hs (ei _) rfl hz3 (fun d hd => by
    have i1 : ∀ (u : Int) (st' : Mi.Store), idxF (.tup [.int u, .int 1]) (.int 1) st' = some (.int 1) := fun u st' => rfl
    have n1 : cop .ne (.int 1) (.int 1) = some false := by rw [ne_int]; rfl
    simp only [List.mem_cons, List.not_mem_nil, or_false] at hd
    rcases hd with rfl | rfl | rfl <;> exact ⟨fun st' _ => by simp [turnF, bindT, wipeE, evTo, evT, evE, i1, n1], fun y hy => by cases hy⟩)
  have f0 : [Mi.D.tup [.int x, .int 1], .tup [.int y, .int 1], .tup [.int z, .int 1]].filterMap (fun d => (none : Option Mi.D)) = [] := rfl
  rw [f0] at c1
  have c2 := comp_pure (c := callF Tk F (k + 4)) (env := [some T, none, none]) (elt := .idx (.var 2) (.cst (.int 0))) (tg := .nm 2) (it := .seq (.var 0)) (own := [("_law_each", 2)]) (st := st) (xs := [.tup [.int x, .int 1], .tup [.int y, .int 1], .tup [.int z, .int 1]])
    (g := fun d => match d with
      | .tup [.int u, _] => .int u
      | _ => .non) hs (ei _) rfl hz3 (fun d hd => by
    have i0 : ∀ (u : Int) (st' : Mi.Store), idxF (.tup [.int u, .int 1]) (.int 0) st' = some (.int u) := fun u st' => rfl
    simp only [List.mem_cons, List.not_mem_nil, or_false] at hd
    rcases hd with rfl | rfl | rfl <;> exact ⟨fun st' _ => by simp [turnF, bindT, wipeE, evTo, evE, i0], fun m => rfl⟩)
  simp only [List.map_cons, List.map_nil] at c2
  have s1 : evS (callF Tk F (k + 4)) F (.ite (.or (.not (.val (.call 31 (.cons (.var 0) .nil)))) (.one (.cmp .ne (.comp (.var 2) (.nm 2) (.seq (.var 0)) (.some (.cmp .ne (.idx (.var 2) (.cst (.int 1))) (.cst (.int 1)))) [("_law_each", 2)]) (.lst .nil)))) (.cons (.ret (.cst (.bl false))) .nil) .nil) [some T, none, none] st = some (.nxt [some T, none, none] st) := by
    have n0 : cop .ne (.lst []) (.lst []) = some false := by
      have : dEq (.lst []) (.lst []) = some true := by
        have s : SeqAt.shaped (pd (.lst [])) = true := rfl
        have f : flat0 (.lst []) = true := rfl
        have e : PyData.eqv (pd (.lst [])) (pd (.lst [])) = true := by
          show PyData.eqv (.list []) (.list []) = true
          simp [PyData.eqv, PyData.eqvAll]
        simp only [dEq, f, s, Bool.true_and, if_true, e]
      simp only [cop, this, Option.map_some]
      rfl
    have gen : ∀ C : IE, evE (callF Tk F (k + 4)) [some T, none, none] C st = some (.lst [], st) →
        evS (callF Tk F (k + 4)) F (.ite (.or (.not (.val (.call 31 (.cons (.var 0) .nil)))) (.one (.cmp .ne C (.lst .nil)))) (.cons (.ret (.cst (.bl false))) .nil) .nil) [some T, none, none] st = some (.nxt [some T, none, none] st) := by
      intro C e'
      have hz0 : (0 : Nat) ≤ sizeLine := by decide
      simp [evS, evT, evE, evEs, evSs, truth, h1, e', n0, hz0]
    exact gen _ c1
  have s2 : evS (callF Tk F (k + 4)) F (.asg 1 (.bi .tuple (.cons (.comp (.idx (.var 2) (.cst (.int 0))) (.nm 2) (.seq (.var 0)) .none [("_law_each", 2)]) .nil))) [some T, none, none] st = some (.nxt [some T, some (.tup (i3 x y z)), none] st) := by
    have gen : ∀ C : IE, evE (callF Tk F (k + 4)) [some T, none, none] C st = some (.lst (i3 x y z), st) →
        evS (callF Tk F (k + 4)) F (.asg 1 (.bi .tuple (.cons C .nil))) [some T, none, none] st = some (.nxt [some T, some (.tup (i3 x y z)), none] st) := by
      intro C e'
      have b1 : biF .tuple [.lst (i3 x y z)] st = some (.tup (i3 x y z)) := rfl
      simp [evS, evE, evEs, e', b1]
    exact gen _ c2
  have ce : cop .eq (.tup (i3 x y z)) (.tup (i3 x y z)) = some true := cop_eq_of (dEq_i3 x y z)
  have body : evSs (callF Tk F (k + 4)) F i__law_is_plain.body [some T, none, none] st = some (.ret (.bl true) st) := by
    unfold i__law_is_plain
    rw [ss_nxt s1, ss_nxt s2]
    refine ss_ret ?_
    simp [evS, evE, evEs, h2, ce]
  exact (call_body (d := i__law_is_plain) rfl ⟨rfl, by decide⟩ body).trans (cut_pl (fun k => by simp) rfl hs rfl)
/-! ### texts -/
/-- the signs of a whole number -/
def intL (i : Int) : List Nat := tl (Str.ofString (toString i))
theorem intL_nat (n : Nat) : intL (n : Int) = numL n := tl_num n
theorem intL_neg (n : Nat) : intL (Int.negSucc n) = 45 :: numL (n + 1) := by
  have e : (toString (Int.negSucc n) : String) = "-" ++ toString ((n + 1 : Nat) : Int) := rfl
  unfold intL
  rw [e, tl_ofString, String.toList_append, List.map_append, ← tl_ofString, ← tl_ofString, tl_num]
  rfl
theorem intL_free (i : Int) : 44 ∉ intL i := by
  cases i with
  | ofNat n =>
    rw [show Int.ofNat n = (n : Int) from rfl, intL_nat]
    exact numL_free (by omega)
  | negSucc n =>
    rw [intL_neg]
    intro h
    rcases List.mem_cons.mp h with h | h
    · omega
    · exact numL_free (by omega) h
theorem intL_inj {i j : Int} (h : intL i = intL j) : i = j := by
  have no : ∀ m n : Nat, numL m ≠ 45 :: numL n := fun m n h => by
    have : 45 ∈ numL m := by rw [h]; exact List.mem_cons_self
    exact numL_free (by omega) this
  cases i with
  | ofNat m =>
    cases j with
    | ofNat n =>
      have h' : numL m = numL n := by rw [← intL_nat, ← intL_nat]; exact h
      rw [numL_inj h']
    | negSucc n =>
      rw [show Int.ofNat m = (m : Int) from rfl, intL_nat, intL_neg] at h
      exact absurd h (no _ _)
  | negSucc m =>
    cases j with
    | ofNat n =>
      rw [show Int.ofNat n = (n : Int) from rfl, intL_nat, intL_neg] at h
      exact absurd h.symm (no _ _)
    | negSucc n =>
      rw [intL_neg, intL_neg] at h
      have := numL_inj (List.cons.inj h).2
      have : m = n := by omega
      rw [this]
theorem intL_len {i : Int} (h : i.natAbs < 10 ^ 1000) : (intL i).length ≤ 1001 := by
  cases i with
  | ofNat n =>
    rw [show Int.ofNat n = (n : Int) from rfl, intL_nat]
    have := numL_len (k := 1000) (by decide) (show n < 10 ^ 1000 from h)
    omega
  | negSucc n =>
    rw [intL_neg, List.length_cons]
    have := numL_len (k := 1000) (by decide) (show n + 1 < 10 ^ 1000 from h)
    omega
theorem cut_at {l l' r r' : List Nat} (h1 : 44 ∉ l) (h2 : 44 ∉ l') (h : l ++ 44 :: r = l' ++ 44 :: r') : l = l' ∧ r = r' := by
  induction l generalizing l' with
  | nil =>
    cases l' with
    | nil => exact ⟨rfl, (List.cons.inj h).2⟩
    | cons c l' =>
      have := (List.cons.inj h).1
      exact absurd (this ▸ List.mem_cons_self) h2
  | cons c l ih =>
    cases l' with
    | nil =>
      have := (List.cons.inj h).1
      exact absurd (this ▸ List.mem_cons_self) h1
    | cons c' l' =>
      have e := List.cons.inj h
      obtain ⟨i1, i2⟩ := ih (fun m => h1 (List.mem_cons_of_mem _ m)) (fun m => h2 (List.mem_cons_of_mem _ m)) e.2
      exact ⟨by rw [e.1, i1], i2⟩
/-- the text of a direction of whole numbers -/
def triT (x y z : Int) : List Nat := 40 :: 40 :: (intL x ++ 44 :: (32 :: 49 :: 41 :: 44 :: 32 :: 40 :: (intL y ++ 44 :: (32 :: 49 :: 41 :: 44 :: 32 :: 40 :: (intL z ++ 44 :: [32, 49, 41, 41])))))
theorem triT_inj {x y z x' y' z' : Int} (h : triT x y z = triT x' y' z') : x = x' ∧ y = y' ∧ z = z' := by
  unfold triT at h
  have h := (List.cons.inj (List.cons.inj h).2).2
  obtain ⟨h1, h⟩ := cut_at (intL_free _) (intL_free _) h
  simp only [List.cons.injEq, true_and] at h
  obtain ⟨h2, h⟩ := cut_at (intL_free _) (intL_free _) h
  simp only [List.cons.injEq, true_and] at h
  obtain ⟨h3, h⟩ := cut_at (intL_free _) (intL_free _) h
  exact ⟨intL_inj h1, intL_inj h2, intL_inj h3⟩
theorem tl_tri (x y z : Int) : tl (PyData.shown (pd (triD (x : Rat) (y : Rat) (z : Rat)))) = triT x y z := by
  rw [triD, frac_int, frac_int, frac_int]
  show tl (PyData.shown (.tuple [.tuple [.int x, .int 1], .tuple [.int y, .int 1], .tuple [.int z, .int 1]])) = _
  have i1 : List.map Char.toNat (Int.repr 1).toList = [49] := by decide +kernel
  simp only [PyData.shown, PyData.shownAll, tupleText, Str.join, List.length_cons, List.length_nil, tl_append, tl_ofString]
  simp [triT, intL, tl_ofString, i1]
theorem ok_iff (s : PySem.Str) : PyData.strOk s = true ↔ ∀ c ∈ tl s, c < 0x110000 := by
  unfold PyData.strOk
  rw [← Array.all_toList, List.all_eq_true]
  simp
theorem ok_app {s t : PySem.Str} (h1 : PyData.strOk s = true) (h2 : PyData.strOk t = true) : PyData.strOk (s ++ t) = true := by
  rw [ok_iff] at *
  rw [tl_append]
  intro c hc
  rcases List.mem_append.mp hc with hc | hc
  · exact h1 c hc
  · exact h2 c hc
theorem ok_of (s : String) : PyData.strOk (Str.ofString s) = true := by
  rw [ok_iff, tl_ofString]
  intro c hc
  obtain ⟨d, _, rfl⟩ := List.mem_map.mp hc
  have := d.valid
  rcases this with h | ⟨_, h⟩
  · show d.val.toNat < _
    omega
  · exact h
theorem dEq_str {s t : PySem.Str} (hs : PyData.strOk s = true) (ht : PyData.strOk t = true) : dEq (.str s) (.str t) = some (decide (s = t)) := by
  have s1 : ∀ s : PySem.Str, PyData.strOk s = true → SeqAt.shaped (PyData.str s) = true := fun s h => by
    have h' : (PyData.str s).canLay0 = true := by rw [PyData.canLay0]; exact h
    have hd : (PyData.str s).depth ≤ 64 := by simp [PyData.depth]
    simp only [SeqAt.shaped, h', hd, decide_true, Bool.and_self]
  have e : PyData.eqv (.str s) (.str t) = decide (s = t) := by
    rw [Bool.eq_iff_iff]
    simp [PyData.eqv]
  simp only [dEq, flat0, pd, s1 s hs, s1 t ht, Bool.true_and, if_true, e]
theorem dEq_bl (p q : Bool) : dEq (.bl p) (.bl q) = some (p == q) := by
  have s1 : ∀ p : Bool, SeqAt.shaped (PyData.bool p) = true := fun p => rfl
  have e : PyData.eqv (.bool p) (.bool q) = (p == q) := by
    cases p <;> cases q <;> simp [PyData.eqv]
  simp only [dEq, flat0, pd, s1, Bool.true_and, if_true, e]
/-- the text of a direction of whole numbers -/
def triS (x y z : Int) : PySem.Str := PyData.shown (pd (triD (x : Rat) (y : Rat) (z : Rat)))
theorem triS_inj {x y z x' y' z' : Int} : triS x y z = triS x' y' z' ↔ x = x' ∧ y = y' ∧ z = z' := by
  constructor
  · intro h
    have h2 := congrArg tl h
    unfold triS at h2
    rw [tl_tri, tl_tri] at h2
    exact triT_inj h2
  · rintro ⟨rfl, rfl, rfl⟩
    rfl
theorem triS_ok (x y z : Int) : PyData.strOk (triS x y z) = true := by
  have j : ∀ (a b : PySem.Str), PyData.strOk a = true → PyData.strOk b = true → PyData.strOk (tupleText [a, b]) = true := fun a b ha hb =>
    ok_app (ok_app (ok_of _) (ok_app (ok_app ha (ok_of _)) hb)) (ok_of _)
  have j3 : ∀ (a b c : PySem.Str), PyData.strOk a = true → PyData.strOk b = true → PyData.strOk c = true → PyData.strOk (tupleText [a, b, c]) = true := fun a b c ha hb hc =>
    ok_app (ok_app (ok_of _) (ok_app (ok_app ha (ok_of _)) (ok_app (ok_app hb (ok_of _)) hc))) (ok_of _)
  unfold triS
  rw [triD, frac_int, frac_int, frac_int]
  exact j3 _ _ _ (j _ _ (ok_of _) (ok_of _)) (j _ _ (ok_of _) (ok_of _)) (j _ _ (ok_of _) (ok_of _))
theorem triT_len {x y z : Int} (hx : x.natAbs < 2 ^ 1900) (hy : y.natAbs < 2 ^ 1900) (hz : z.natAbs < 2 ^ 1900) : (triT x y z).length ≤ 4000 := by
  have t : (2 : Nat) ^ 1900 ≤ 10 ^ 1000 := by decide +kernel
  have := intL_len (Nat.lt_of_lt_of_le hx t)
  have := intL_len (Nat.lt_of_lt_of_le hy t)
  have := intL_len (Nat.lt_of_lt_of_le hz t)
  simp only [triT, List.length_cons, List.length_append, List.length_nil]
  omega
theorem log_1920 {i : Int} (h : i.natAbs < 2 ^ 1900) : i.natAbs.log2 < 1920 := by
  by_cases h0 : i.natAbs = 0
  · rw [h0]; simp
  · have := (Nat.log2_lt h0).mpr h
    omega
theorem show_tri {x y z : Int} {st : Mi.Store} (hx : x.natAbs < 2 ^ 1900) (hy : y.natAbs < 2 ^ 1900) (hz : z.natAbs < 2 ^ 1900) : biF .repr [triD (x : Rat) (y : Rat) (z : Rat)] st = some (.str (triS x y z)) := by
  have hl : (PyData.shown (pd (triD (x : Rat) (y : Rat) (z : Rat)))).length ≤ sizeLine := by
    rw [len_tl, tl_tri]
    have := triT_len hx hy hz
    have e : sizeLine = 2 ^ 24 := rfl
    omega
  have hf : flat1 (triD (x : Rat) (y : Rat) (z : Rat)) = true := rfl
  have hd : (pd (triD (x : Rat) (y : Rat) (z : Rat))).depth ≤ 64 := by
    simp [triD, frac_int, pd, pds, PyData.depth, PyData.depthAll]
  have hsh : PyData.showable (pd (triD (x : Rat) (y : Rat) (z : Rat))) = true := by
    rw [triD, frac_int, frac_int, frac_int]
    have h1 := log_1920 hx
    have h2 := log_1920 hy
    have h3 := log_1920 hz
    have h4 : (1 : Int).natAbs.log2 < 1920 := by decide
    simp only [pd, pds, PyData.showable, PyData.showableAll, h1, h2, h3, h4, decide_true, Bool.and_self]
  have hok : showOk (triD (x : Rat) (y : Rat) (z : Rat)) = true := by
    simp only [showOk, hf, hsh, hl, hd, decide_true, Bool.and_self]
  show (if showOk _ = true then _ else none) = _
  rw [if_pos hok]
  rfl
theorem show_two {x y z : Int} (hx : x.natAbs < 2 ^ 1900) (hy : y.natAbs < 2 ^ 1900) (hz : z.natAbs < 2 ^ 1900) : ∃ s : PySem.Str, PyData.strOk s = true ∧ ∀ st, biF .repr [.lst [triD (x : Rat) (y : Rat) (z : Rat), triD (x : Rat) (y : Rat) (z : Rat)]] st = some (.str s) := by
  refine ⟨PyData.shown (pd (.lst [triD (x : Rat) (y : Rat) (z : Rat), triD (x : Rat) (y : Rat) (z : Rat)])), ?_, fun st => ?_⟩
  · exact ok_app (ok_app (ok_app (ok_app (ok_app (ok_of _) (ok_of _)) (triS_ok x y z)) (ok_of _)) (triS_ok x y z)) (ok_of _)
  have hl : (PyData.shown (pd (.lst [triD (x : Rat) (y : Rat) (z : Rat), triD (x : Rat) (y : Rat) (z : Rat)]))).length ≤ sizeLine := by
    have h1 := tl_tri x y z
    have h2 := triT_len hx hy hz
    rw [← h1, ← len_tl] at h2
    generalize triD (x : Rat) (y : Rat) (z : Rat) = T at *
    show (PyData.shown (.list [pd T, pd T])).length ≤ sizeLine
    simp only [PyData.shown, PyData.shownAll]
    generalize PyData.shown (pd T) = s at *
    rw [len_tl]
    rw [len_tl] at h2
    have e : sizeLine = 2 ^ 24 := rfl
    have t1 : ∀ s : String, (tl (Str.ofString s)).length = s.toList.length := fun s => by rw [tl_ofString, List.length_map]
    simp only [listText, textFrom, tl_append, List.length_append, t1]
    simp at h2 ⊢
    omega
  have hf : flat1 (.lst [triD (x : Rat) (y : Rat) (z : Rat), triD (x : Rat) (y : Rat) (z : Rat)]) = true := rfl
  have hd : (pd (.lst [triD (x : Rat) (y : Rat) (z : Rat), triD (x : Rat) (y : Rat) (z : Rat)])).depth ≤ 64 := by
    simp [triD, frac_int, pd, pds, PyData.depth, PyData.depthAll]
  have hsh : PyData.showable (pd (.lst [triD (x : Rat) (y : Rat) (z : Rat), triD (x : Rat) (y : Rat) (z : Rat)])) = true := by
    rw [triD, frac_int, frac_int, frac_int]
    have h1 := log_1920 hx
    have h2 := log_1920 hy
    have h3 := log_1920 hz
    have h4 : (1 : Int).natAbs.log2 < 1920 := by decide
    simp only [pd, pds, PyData.showable, PyData.showableAll, h1, h2, h3, h4, decide_true, Bool.and_self]
  have hok : showOk (.lst [triD (x : Rat) (y : Rat) (z : Rat), triD (x : Rat) (y : Rat) (z : Rat)]) = true := by
    simp only [showOk, hf, hsh, hl, hd, decide_true, Bool.and_self]
  show (if showOk _ = true then _ else none) = _
  rw [if_pos hok]
theorem Bd.add {B C : Nat} {x y : Rat} (hx : Bd B x) (hy : Bd C y) : Bd (B + C + 1) (x + y) := by
  have e : x + y = Rat.divInt (x.num * (y.den : Int) + y.num * (x.den : Int)) ((x.den : Int) * (y.den : Int)) := by
    rw [← Rat.divInt_add_divInt _ _ (den_ne x) (den_ne y), Rat.num_divInt_den, Rat.num_divInt_den]
  have hu : (x.den : Int) * (y.den : Int) ≠ 0 := Int.mul_ne_zero (den_ne x) (den_ne y)
  obtain ⟨h1, h2⟩ := divInt_bd (t := x.num * (y.den : Int) + y.num * (x.den : Int)) hu
  have m : ∀ {a b P Q : Nat}, a < 2 ^ P → b < 2 ^ Q → a * b < 2 ^ (P + Q) := fun ha hb => by
    rw [Nat.pow_add]
    exact Nat.mul_lt_mul'' ha hb
  have e1 : (x.num * (y.den : Int)).natAbs < 2 ^ (B + C) := by rw [Int.natAbs_mul, Int.natAbs_natCast]; exact m hx.1 hy.2
  have e2 : (y.num * (x.den : Int)).natAbs < 2 ^ (B + C) := by rw [Int.natAbs_mul, Int.natAbs_natCast, Nat.add_comm]; exact m hy.1 hx.2
  have e3 : ((x.den : Int) * (y.den : Int)).natAbs < 2 ^ (B + C) := by rw [Int.natAbs_mul, Int.natAbs_natCast, Int.natAbs_natCast]; exact m hx.2 hy.2
  have e4 : 2 ^ (B + C + 1) = 2 ^ (B + C) * 2 := Nat.pow_succ 2 (B + C)
  rw [e]
  have e5 := Int.natAbs_add_le (x.num * (y.den : Int)) (y.num * (x.den : Int))
  exact ⟨by omega, by omega⟩
theorem Bd.neg {B : Nat} {x : Rat} (hx : Bd B x) : Bd B (-x) := ⟨by rw [show (-x).num = -x.num from rfl, Int.natAbs_neg]; exact hx.1, by rw [show (-x).den = x.den from rfl]; exact hx.2⟩
theorem Bd.sub {B C : Nat} {x y : Rat} (hx : Bd B x) (hy : Bd C y) : Bd (B + C + 1) (x - y) := by
  rw [Rat.sub_eq_add_neg]
  exact hx.add hy.neg
theorem Bd.mul2 {B C : Nat} {x y : Rat} (hx : Bd B x) (hy : Bd C y) : Bd (B + C) (x * y) := by
  have e : x * y = Rat.divInt (x.num * y.num) ((x.den : Int) * (y.den : Int)) := by
    rw [← Rat.divInt_mul_divInt, Rat.num_divInt_den, Rat.num_divInt_den]
  have hu : (x.den : Int) * (y.den : Int) ≠ 0 := Int.mul_ne_zero (den_ne x) (den_ne y)
  obtain ⟨h1, h2⟩ := divInt_bd (t := x.num * y.num) hu
  have m : ∀ {a b P Q : Nat}, a < 2 ^ P → b < 2 ^ Q → a * b < 2 ^ (P + Q) := fun ha hb => by
    rw [Nat.pow_add]
    exact Nat.mul_lt_mul'' ha hb
  rw [e]
  refine ⟨Nat.lt_of_le_of_lt h1 ?_, Nat.lt_of_le_of_lt h2 ?_⟩
  · rw [Int.natAbs_mul]; exact m hx.1 hy.1
  · rw [Int.natAbs_mul, Int.natAbs_natCast, Int.natAbs_natCast]; exact m hx.2 hy.2
/-- three numbers in a row -/
structure V3 where
  a : Rat
  b : Rat
  c : Rat
def tD (v : V3) : Mi.D := triD v.a v.b v.c
def BV (B : Nat) (v : V3) : Prop := Bd B v.a ∧ Bd B v.b ∧ Bd B v.c
def V3.add (u v : V3) : V3 := ⟨u.a + v.a, u.b + v.b, u.c + v.c⟩
def V3.sub (u v : V3) : V3 := ⟨u.a - v.a, u.b - v.b, u.c - v.c⟩
def V3.smul (u : V3) (q : Rat) : V3 := ⟨u.a * q, u.b * q, u.c * q⟩
def V3.dot (u v : V3) : Rat := u.a * v.a + u.b * v.b + u.c * v.c
def V3.cross (u v : V3) : V3 := ⟨u.b * v.c - u.c * v.b, u.c * v.a - u.a * v.c, u.a * v.b - u.b * v.a⟩
def V3.zero : V3 := ⟨0, 0, 0⟩
theorem V3.ext' {u v : V3} (h1 : u.a = v.a) (h2 : u.b = v.b) (h3 : u.c = v.c) : u = v := by
  cases u; cases v; simp_all
theorem BV.mono {B C : Nat} {u : V3} (h : BV B u) (hc : B ≤ C) : BV C u := ⟨h.1.mono hc, h.2.1.mono hc, h.2.2.mono hc⟩
theorem BV.add {B C : Nat} {u v : V3} (h : BV B u) (h' : BV C v) : BV (B + C + 1) (u.add v) := ⟨h.1.add h'.1, h.2.1.add h'.2.1, h.2.2.add h'.2.2⟩
theorem BV.sub {B C : Nat} {u v : V3} (h : BV B u) (h' : BV C v) : BV (B + C + 1) (u.sub v) := ⟨h.1.sub h'.1, h.2.1.sub h'.2.1, h.2.2.sub h'.2.2⟩
theorem BV.smul {B C : Nat} {u : V3} {q : Rat} (h : BV B u) (h' : Bd C q) : BV (B + C) (u.smul q) := ⟨h.1.mul2 h', h.2.1.mul2 h', h.2.2.mul2 h'⟩
theorem BV.cross {B C : Nat} {u v : V3} (h : BV B u) (h' : BV C v) : BV (2 * (B + C) + 1) (u.cross v) := by
  have go : ∀ {x y z w : Rat}, Bd B x → Bd C y → Bd B z → Bd C w → Bd (2 * (B + C) + 1) (x * y - z * w) := fun hx hy hz hw => by
    rw [show 2 * (B + C) + 1 = (B + C) + (B + C) + 1 by omega]
    exact (hx.mul2 hy).sub (hz.mul2 hw)
  exact ⟨go h.2.1 h'.2.2 h.2.2 h'.2.1, go h.2.2 h'.1 h.1 h'.2.2, go h.1 h'.2.1 h.2.1 h'.1⟩
theorem BV.dot {B C : Nat} {u v : V3} (h : BV B u) (h' : BV C v) : Bd (3 * (B + C) + 2) (u.dot v) := by
  rw [show 3 * (B + C) + 2 = (B + C) + (B + C) + 1 + (B + C) + 1 by omega]
  exact ((h.1.mul2 h'.1).add (h.2.1.mul2 h'.2.1)).add (h.2.2.mul2 h'.2.2)
theorem BV.zero {B : Nat} (hB : 0 < B) : BV B V3.zero := by
  have h0 : Bd B (0 : Rat) := ⟨Nat.two_pow_pos B, Nat.one_lt_two_pow (by omega)⟩
  exact ⟨h0, h0, h0⟩
/-- a screw -/
structure Sc where
  l : V3
  m : V3
def sD (s : Sc) : Mi.D := .tup [tD s.l, tD s.m]
def BS (B : Nat) (s : Sc) : Prop := BV B s.l ∧ BV B s.m
theorem BS.mono {B C : Nat} {s : Sc} (h : BS B s) (hc : B ≤ C) : BS C s := ⟨h.1.mono hc, h.2.mono hc⟩
def Sc.pow (s t : Sc) : Rat := s.l.dot t.m + s.m.dot t.l
theorem fit_tD (n : Nat) (v : V3) : fitD n (tD v) = true := rfl
theorem fit_sD (n : Nat) (s : Sc) : fitD n (sD s) = true := rfl
theorem fit_frac (n : Nat) (q : Rat) : fitD n (fracD q) = true := rfl
/-! ### the law's own -/
/-- pairs of the numbers of two rows -/
abbrev zipV (u v : V3) : List Mi.D := [.tup [fracD u.a, fracD v.a], .tup [fracD u.b, fracD v.b], .tup [fracD u.c, fracD v.c]]
theorem evI_zip {c : CallT} {env : Mi.Env} {i j : Nat} {u v : V3} {st : Mi.Store} (h1 : env[i]? = some (some (tD u))) (h2 : env[j]? = some (some (tD v))) : evI c env (.zip (.var i) (.var j)) st = some (zipV u v, st) := by
  have z : zipD (tD u) (tD v) = some (zipV u v) := rfl
  simp only [evI, evE, h1, h2, z]
theorem zip3_mem {P : Mi.D → Prop} {u v : V3} (h : ∀ x y : Rat, (x = u.a ∧ y = v.a ∨ x = u.b ∧ y = v.b ∨ x = u.c ∧ y = v.c) → P (.tup [fracD x, fracD y])) : ∀ d ∈ zipV u v, P d := by
  intro d hd
  simp only [List.mem_cons, List.not_mem_nil, or_false] at hd
  rcases hd with rfl | rfl | rfl
  · exact h _ _ (.inl ⟨rfl, rfl⟩)
  · exact h _ _ (.inr (.inl ⟨rfl, rfl⟩))
  · exact h _ _ (.inr (.inr ⟨rfl, rfl⟩))
/-- what is told for a pair of numbers -/
def onPair (g : Rat → Rat → Mi.D) : Mi.D → Mi.D
  | .tup [x, y] => g (ratOf x) (ratOf y)
  | _ => .non
theorem onPair_eq (g : Rat → Rat → Mi.D) (x y : Rat) : onPair g (.tup [fracD x, fracD y]) = g x y := by
  simp only [onPair, ratOf_frac]
theorem lless_ok {F k : Nat} {x y : Rat} {st : Mi.Store} (hs : SW st) (hx : Bd 4000 x) (hy : Bd 4000 y) (hF : 2 ^ 8000 ≤ F) : callF Tk F (k + 2) 17 [fracD x, fracD y] st = some (fracD (x - y), st) := less_ok hs hx hy (by decide) hF
theorem lby_ok {F k : Nat} {x y : Rat} {st : Mi.Store} (hs : SW st) (hx : Bd 4000 x) (hy : Bd 4000 y) (hF : 2 ^ 8000 ≤ F) : callF Tk F (k + 2) 18 [fracD x, fracD y] st = some (fracD (x * y), st) := by_ok hs hx hy (by decide) hF
theorem ltimes_ok {F k : Nat} {u : V3} {q : Rat} {st : Mi.Store} (hs : SW st) (hu : BV 4000 u) (hq : Bd 4000 q) (hF : 2 ^ 8000 ≤ F) : callF Tk F (k + 3) 19 [tD u, fracD q] st = some (tD (u.smul q), st) := times_ok hs hu.1 hu.2.1 hu.2.2 hq (by decide) hF
theorem lcross_ok {F k : Nat} {u v : V3} {st : Mi.Store} (hs : SW st) (hu : BV 2000 u) (hv : BV 2000 v) (hF : 2 ^ 8000 ≤ F) : callF Tk F (k + 3) 20 [tD u, tD v] st = some (tD (u.cross v), st) := cross_ok hs hu.1 hu.2.1 hu.2.2 hv.1 hv.2.1 hv.2.2 (by decide) hF
theorem lnought_ok {F k : Nat} {st : Mi.Store} (hs : SW st) : callF Tk F (k + 1) 21 [] st = some (tD V3.zero, st) := nought_ok hs
theorem V3.eq_iff {u v : V3} : u = v ↔ u.a = v.a ∧ u.b = v.b ∧ u.c = v.c := by
  cases u; cases v; simp
instance : DecidableEq V3 := fun u v => decidable_of_iff _ V3.eq_iff.symm
theorem dEq_tD (u v : V3) : dEq (tD u) (tD v) = some (decide (u = v)) := by
  unfold tD
  rw [dEq_tri]
  exact congrArg some (decide_eq_decide.mpr V3.eq_iff.symm)
theorem eq_tD (u v : V3) : cop .eq (tD u) (tD v) = some (decide (u = v)) := cop_eq_of (dEq_tD u v)
theorem ne_tD (u v : V3) : cop .ne (tD u) (tD v) = some (!decide (u = v)) := by
  simp only [cop, dEq_tD, Option.map_some]
theorem eq_frac (x y : Rat) : cop .eq (fracD x) (fracD y) = some (decide (x = y)) := cop_eq_of (dEq_frac x y)
theorem lrow_ok {F k n : Nat} {r : Int} {st : Mi.Store} (hw : Well st n r) (hr : r + 20 < 2 ^ 40) (hF : 2 ^ 8000 ≤ F) :
    ∃ u st', callF Tk F (k + 5) 23 [.cell n] st = some (tD u, st') ∧ BV 8 u ∧ Well st' n (r + 10) ∧ Turned st n st' := by
  obtain ⟨a, b, c, st1, h1, ha, hb, hc, hw1, ht1⟩ := row_ok (F := F) (k := k) hw hr hF
  exact ⟨⟨a, b, c⟩, st1, h1, ⟨ha, hb, hc⟩, hw1, ht1⟩
theorem lwide_ok {F k n : Nat} {r : Int} {st : Mi.Store} (hw : Well st n r) (hr : r + 70 < 2 ^ 40) (hF : 2 ^ 8000 ≤ F) :
    ∃ u st', callF Tk F (k + 6) 24 [.cell n] st = some (tD u, st') ∧ BV 81 u ∧ Well st' n (r + 40) ∧ Turned st n st' := by
  obtain ⟨a, b, c, st1, h1, ha, hb, hc, hw1, ht1⟩ := wide_ok (F := F) (k := k) hw hr hF
  exact ⟨⟨a, b, c⟩, st1, h1, ⟨ha, hb, hc⟩, hw1, ht1⟩
theorem lheading_ok {F k n : Nat} {r : Int} {st : Mi.Store} (hw : Well st n r) (hr : r + 20 < 2 ^ 40) (hF : 2 ^ 8000 ≤ F) :
    ∃ u st', callF Tk F (k + 6) 26 [.cell n] st = some (tD u, st') ∧ BV 8 u ∧ u ≠ V3.zero ∧ Well st' n (r + 11) ∧ Turned st n st' := by
  obtain ⟨a, b, c, st1, h1, ha, hb, hc, h0, hw1, ht1⟩ := heading_ok (F := F) (k := k) hw hr hF
  exact ⟨⟨a, b, c⟩, st1, h1, ⟨ha, hb, hc⟩, fun e => h0 (V3.eq_iff.mp e), hw1, ht1⟩
/-! ### the program's own -/
theorem natAbs_mul_g {x y : Int} {B C : Nat} (hx : x.natAbs < 2 ^ B) (hy : y.natAbs < 2 ^ C) (h : B + C ≤ 8000) : (x * y).natAbs < 2 ^ 8000 := by
  refine Nat.lt_of_lt_of_le ?_ (Nat.pow_le_pow_right (by decide) h)
  rw [Int.natAbs_mul, Nat.pow_add]
  exact Nat.mul_lt_mul'' hx hy
/-- a row as whole numbers over a common one -/
abbrev upL (v : V3) : Nat := L3 v.a v.b v.c
abbrev upV (v : V3) : List Mi.D := [.int (upN (upL v) v.a), .int (upN (upL v) v.b), .int (upN (upL v) v.c)]
theorem vover_ok {F k : Nat} {u : V3} {st : Mi.Store} (hs : SW st) (hu : BV 3000 u) : callF Tk F (k + 1) 0 [tD u] st = some (.tup [.lst (upV u), .int (upL u : Nat)], st) := over_ok hs hu.1 hu.2.1 hu.2.2 (by decide)
theorem upL_lt {B : Nat} {u : V3} (hu : BV B u) : upL u < 2 ^ (4 * B) := by
  have p1 : (1 : Nat) < 2 ^ B := by
    have := hu.1.2
    have := u.a.den_pos
    omega
  rw [show 4 * B = B + B + B + B by omega]
  exact lcm_lt (lcm_lt (lcm_lt p1 hu.1.2 (by decide) u.a.den_pos) hu.2.1.2 (Nat.lcm_pos (by decide) u.a.den_pos) u.b.den_pos) hu.2.2.2 (Nat.lcm_pos (Nat.lcm_pos (by decide) u.a.den_pos) u.b.den_pos) u.c.den_pos
theorem up_eq (u : V3) : (upN (upL u) u.a : Rat) = (upL u : Rat) * u.a ∧ (upN (upL u) u.b : Rat) = (upL u : Rat) * u.b ∧ (upN (upL u) u.c : Rat) = (upL u : Rat) * u.c := by
  obtain ⟨d1, d2, d3⟩ := L3_dvd u.a u.b u.c
  exact ⟨upN_eq d1, upN_eq d2, upN_eq d3⟩
theorem up_lt {B : Nat} {u : V3} (hu : BV B u) : (upN (upL u) u.a).natAbs < 2 ^ (5 * B) ∧ (upN (upL u) u.b).natAbs < 2 ^ (5 * B) ∧ (upN (upL u) u.c).natAbs < 2 ^ (5 * B) := by
  rw [show 5 * B = B + 4 * B by omega]
  exact ⟨upN_lt (upL_lt hu) hu.1, upN_lt (upL_lt hu) hu.2.1, upN_lt (upL_lt hu) hu.2.2⟩
theorem upL_ne (u : V3) : ((upL u : Nat) : Rat) ≠ 0 := by
  intro h
  have h' : ((upL u : Int) : Rat) = ((0 : Int) : Rat) := h
  have := Rat.intCast_inj.mp h'
  have : 0 < upL u := L3_pos u.a u.b u.c
  omega
def UpB (N : Nat) (u : V3) : Prop := (upN (upL u) u.a).natAbs < 2 ^ N ∧ (upN (upL u) u.b).natAbs < 2 ^ N ∧ (upN (upL u) u.c).natAbs < 2 ^ N
theorem up_mul_g {u v : V3} (hm : upL u * upL v < 2 ^ 8000) : bop .mul (.int (upL u : Nat)) (.int (upL v : Nat)) = some (.int ((upL u : Int) * (upL v : Int))) ∧ (upL u : Int) * (upL v : Int) ≠ 0 ∧ ((upL u : Int) * (upL v : Int)).natAbs < 2 ^ 8000 := by
  have p1 : 0 < upL u := L3_pos u.a u.b u.c
  have p2 : 0 < upL v := L3_pos v.a v.b v.c
  have h1 : upL u < 2 ^ 8000 := Nat.lt_of_le_of_lt (Nat.le_mul_of_pos_right _ p2) hm
  have h2 : upL v < 2 ^ 8000 := Nat.lt_of_le_of_lt (Nat.le_mul_of_pos_left _ p1) hm
  refine ⟨mul_ok (n := 8000) (m := 8000) (log_nat (by simpa using h1)) (log_nat (by simpa using h2)) (by decide), Int.mul_ne_zero (by omega) (by omega), ?_⟩
  rw [Int.natAbs_mul, Int.natAbs_natCast, Int.natAbs_natCast]
  exact hm
theorem up_prod {u v : V3} (hu : BV 1000 u) (hv : BV 1000 v) : upL u * upL v < 2 ^ 8000 := by
  have h1 := upL_lt hu
  have h2 := upL_lt hv
  have e : (2 : Nat) ^ 8000 = 2 ^ (4 * 1000) * 2 ^ (4 * 1000) := by rw [← Nat.pow_add]
  rw [e]
  exact Nat.mul_lt_mul'' h1 h2
theorem up_mul {u v : V3} (hu : BV 1000 u) (hv : BV 1000 v) : bop .mul (.int (upL u : Nat)) (.int (upL v : Nat)) = some (.int ((upL u : Int) * (upL v : Int))) ∧ (upL u : Int) * (upL v : Int) ≠ 0 ∧ ((upL u : Int) * (upL v : Int)).natAbs < 2 ^ 8000 := by
  have h1 := upL_lt hu
  have h2 := upL_lt hv
  have p1 : 0 < upL u := L3_pos u.a u.b u.c
  have p2 : 0 < upL v := L3_pos v.a v.b v.c
  refine ⟨mul_ok (n := 4000) (m := 4000) (log_nat (by simpa using h1)) (log_nat (by simpa using h2)) (by decide), Int.mul_ne_zero (by omega) (by omega), ?_⟩
  exact natAbs_mul_lt (B := 4000) (by simpa using h1) (by simpa using h2)
theorem intsD3 (x y z : Int) : intsD [.int x, .int y, .int z] = some [x, y, z] := rfl
theorem gs_sum {f : Mi.D → Mi.Store → Option (Option Mi.D × Mi.Store)} {g : Mi.D → Mi.D} {st : Mi.Store} : ∀ xs : List Mi.D, (∀ x ∈ xs, f x st = some (some (g x), st)) → mapGs .sum f xs st = some (xs.map g, st)
  | [], _ => rfl
  | x :: xs, h => by
    have hx := h x List.mem_cons_self
    have ih := gs_sum xs fun y hy => h y (List.mem_cons_of_mem _ hy)
    simp [mapGs, hx, stopG, ih]
theorem gen_sum {c : CallT} {env : Mi.Env} {elt : IE} {tg : ITg} {it : II} {own : List (PySem.Str × Nat)} {st : Mi.Store} {xs : List Mi.D} {g : Mi.D → Mi.D} {l : List Int} (hi : evI c env it st = some (xs, st)) (ho : tgOwn tg (own.map (·.2)) = true) (hl : xs.length ≤ sizeLine)
    (h : ∀ x ∈ xs, turnF c (wipeE env (own.map (·.2))) tg .none elt x st = some (some (g x), st)) (hg : intsD (xs.map g) = some l) : evE c env (.gen .sum elt tg it .none own) st = some (.int l.sum, st) := by
  have h1 := gs_sum xs h
  show (match evI c env it st with
    | some (xs, st1) => if tgOwn tg (own.map fun p : PySem.Str × Nat => p.2) then (match mapGs .sum (turnF c (wipeE env (own.map fun p : PySem.Str × Nat => p.2)) tg .none elt) xs st1 with
      | some (ys, st2) => if ys.length ≤ sizeLine then (match gkF .sum ys with
        | some d => some (d, st2)
        | none => none) else none
      | none => none) else none
    | none => none) = _
  have hl2 : (xs.map g).length ≤ sizeLine := by rw [List.length_map]; exact hl
  have hk : gkF .sum (xs.map g) = some (.int l.sum) := by
    simp only [gkF, hg, Option.map_some]
  simp only [hi, ho, if_true, h1, hl2, hk]
theorem tri_ok {F k : Nat} {u : V3} {st : Mi.Store} (hs : SW st) : callF Tk F (k + 3) 7 [tD u] st = some (.bl true, st) := triple_ok hs
theorem chkd_ok {F k : Nat} {u : V3} {st : Mi.Store} (hs : SW st) (h0 : u ≠ V3.zero) : callF Tk F (k + 5) 9 [tD u] st = some (.non, st) := chk_ok hs fun h => h0 (V3.eq_iff.mpr h)
theorem idx_s0 (s : Sc) (st : Mi.Store) : idxF (sD s) (.int 0) st = some (tD s.l) := rfl
theorem idx_s1 (s : Sc) (st : Mi.Store) : idxF (sD s) (.int 1) st = some (tD s.m) := rfl
def Sc.add (s t : Sc) : Sc := ⟨s.l.add t.l, s.m.add t.m⟩
def Sc.smul (s : Sc) (q : Rat) : Sc := ⟨s.l.smul q, s.m.smul q⟩
def Sc.mom (s : Sc) (u : V3) : V3 := s.m.add (s.l.cross u)
theorem Sc.pow_comm (s t : Sc) : s.pow t = t.pow s := by
  unfold Sc.pow V3.dot
  grind
theorem pow_bd {B C : Nat} {s t : Sc} (h : BS B s) (h' : BS C t) : Bd (6 * (B + C) + 5) (s.pow t) := by
  have h1 := (h.1.dot h'.2).add (h.2.dot h'.1)
  exact h1.mono (by omega)
theorem mom_bd {B C : Nat} {s : Sc} {u : V3} (h : BS B s) (hu : BV C u) : BV (3 * B + 2 * C + 2) (s.mom u) := (h.2.add (h.1.cross hu)).mono (by omega)
/-! ### drawn screws -/
end K03

set_option Elab.async false
set_option linter.all false
set_option maxRecDepth 100000
set_option maxHeartbeats 4000000
namespace K03
open PySem PySem.Spec PyProof.Rows L2 Mi TL
abbrev rS1 : IS := .asg 1 (.call 24 (.cons (.var 0) .nil))
abbrev rS2 : IS := .asg 1 (.ife (.cmp .ne (.var 1) (.call 21 .nil)) (.var 1) (.call 26 (.cons (.var 0) .nil)))
abbrev rS3 : IS := .asgP [2, 3] (.cons (.call 26 (.cons (.var 0) .nil)) (.cons (.call 25 (.cons (.var 0) .nil)) .nil))
abbrev rS4 : IS := .asg 2 (.ife (.cmp .eq (.call 12 (.cons (.var 0) (.cons (.cst (.int 3)) .nil))) (.cst (.int 0))) (.call 19 (.cons (.var 1) (.cons (.call 25 (.cons (.var 0) .nil)) .nil))) (.var 2))
theorem right1 {F k n : Nat} {r : Int} {st : Mi.Store} (hw : Well st n r) (hr : r + 100 < 2 ^ 40) (hF : 2 ^ 8000 ≤ F) :
    ∃ a b c st', (∀ rest, evSs (callF Tk F (k + 8)) F (.cons rS1 (.cons rS2 rest)) [some (.cell n), none, none, none, none, none] st = evSs (callF Tk F (k + 8)) F rest [some (.cell n), some (triD a b c), none, none, none, none] st') ∧
      Bd 81 a ∧ Bd 81 b ∧ Bd 81 c ∧ ¬ (a = 0 ∧ b = 0 ∧ c = 0) ∧ Well st' n (r + 51) ∧ Turned st n st' := by
  obtain ⟨a, b, c, st1, h1, ha, hb, hc, hw1, ht1⟩ := wide_ok (F := F) (k := k + 2) hw (by omega) hF
  have s1 : evS (callF Tk F (k + 8)) F rS1 [some (.cell n), none, none, none, none, none] st = some (.nxt [some (.cell n), some (triD a b c), none, none, none, none] st1) := by
    simp [evS, evE, evEs, h1]
  have hn := nought_ok (F := F) (k := k + 7) hw1.sw
  have cn := ne_tri a b c 0 0 0
  by_cases h0 : a = 0 ∧ b = 0 ∧ c = 0
  · obtain ⟨a', b', c', st2, h2, ha', hb', hc', h0', hw2, ht2⟩ := heading_ok (F := F) (k := k + 2) hw1 (by omega) hF
    refine ⟨a', b', c', st2, fun rest => ?_, ha'.mono (by decide), hb'.mono (by decide), hc'.mono (by decide), h0', hw2.mono (by omega), ht1.trans ht2⟩
    rw [show decide (a = 0 ∧ b = 0 ∧ c = 0) = true by simpa using h0] at cn
    rw [ss_nxt s1]
    refine ss_nxt ?_
    simp [evS, evE, evEs, evT, hn, cn, h2]
  · refine ⟨a, b, c, st1, fun rest => ?_, ha, hb, hc, h0, hw1.mono (by omega), ht1⟩
    rw [show decide (a = 0 ∧ b = 0 ∧ c = 0) = false by simpa using h0] at cn
    rw [ss_nxt s1]
    refine ss_nxt ?_
    simp [evS, evE, evEs, evT, hn, cn]
theorem mul_ne {a b c q : Rat} (h : ¬ (a = 0 ∧ b = 0 ∧ c = 0)) (hq : q ≠ 0) : ¬ (a * q = 0 ∧ b * q = 0 ∧ c * q = 0) := by
  rintro ⟨h1, h2, h3⟩
  exact h ⟨by grind, by grind, by grind⟩
theorem right2 {F k n : Nat} {r : Int} {a b c : Rat} {st : Mi.Store} (hw : Well st n r) (hr : r + 100 < 2 ^ 40) (hF : 2 ^ 8000 ≤ F) (ha : Bd 81 a) (hb : Bd 81 b) (hc : Bd 81 c) (h0 : ¬ (a = 0 ∧ b = 0 ∧ c = 0)) :
    ∃ x y z q st', (∀ rest, evSs (callF Tk F (k + 8)) F (.cons rS3 (.cons rS4 rest)) [some (.cell n), some (triD a b c), none, none, none, none] st = evSs (callF Tk F (k + 8)) F rest [some (.cell n), some (triD a b c), some (triD x y z), some (fracD q), none, none] st') ∧
      Bd 162 x ∧ Bd 162 y ∧ Bd 162 z ∧ Bd 8 q ∧ q ≠ 0 ∧ ¬ (x = 0 ∧ y = 0 ∧ z = 0) ∧ Well st' n (r + 18) ∧ Turned st n st' := by
  obtain ⟨x, y, z, st1, h1, hx, hy, hz, h01, hw1, ht1⟩ := heading_ok (F := F) (k := k + 2) hw (by omega) hF
  obtain ⟨q, st2, h2, hq, hq0, hw2, ht2⟩ := some_ok (F := F) (k := k + 3) hw1 (by omega) hF
  obtain ⟨v, st3, h3, v0, v1, hw3, ht3⟩ := draw_ok (F := F) (k := k + 7) hw2 (m := 3) (by decide) (by decide) (by omega)
  have s3 : evS (callF Tk F (k + 8)) F rS3 [some (.cell n), some (triD a b c), none, none, none, none] st = some (.nxt [some (.cell n), some (triD a b c), some (triD x y z), some (fracD q), none, none] st2) := by
    simp [evS, evE, evEs, h1, h2]
  by_cases h : v = 0
  · obtain ⟨q', st4, h4, hq', hq0', hw4, ht4⟩ := some_ok (F := F) (k := k + 3) hw3 (by omega) hF
    have h5 := times_ok (F := F) (k := k + 5) hw4.sw ha hb hc (hq'.mono (C := 81) (by decide)) (by decide) hF
    refine ⟨a * q', b * q', c * q', q, st4, fun rest => ?_, ha.mul (hq'.mono (by decide)), hb.mul (hq'.mono (by decide)), hc.mul (hq'.mono (by decide)), hq, hq0, mul_ne h0 hq0', hw4.mono (by omega), ((ht1.trans ht2).trans ht3).trans ht4⟩
    rw [ss_nxt s3]
    refine ss_nxt ?_
    have ce : cop .eq (.int v) (.int 0) = some true := by rw [eq_int]; simp [h]
    simp [evS, evE, evEs, evT, h3, ce, h4, h5]
  · refine ⟨x, y, z, q, st3, fun rest => ?_, hx.mono (by decide), hy.mono (by decide), hz.mono (by decide), hq, hq0, h01, hw3.mono (by omega), (ht1.trans ht2).trans ht3⟩
    rw [ss_nxt s3]
    refine ss_nxt ?_
    have ce : cop .eq (.int v) (.int 0) = some false := by rw [eq_int]; simp [h]
    simp [evS, evE, evEs, evT, h3, ce]
theorem cast_zero3 {x y z : Int} (h : ¬ (x = 0 ∧ y = 0 ∧ z = 0)) : ¬ ((x : Rat) = 0 ∧ (y : Rat) = 0 ∧ (z : Rat) = 0) := by
  rintro ⟨h1, h2, h3⟩
  exact h ⟨Rat.intCast_inj.mp (h1.trans Rat.intCast_zero.symm), Rat.intCast_inj.mp (h2.trans Rat.intCast_zero.symm), Rat.intCast_inj.mp (h3.trans Rat.intCast_zero.symm)⟩
theorem right3 {F k n : Nat} {st st1 st2 : Mi.Store} {A X V W AQ XX Z : Mi.D} {q : Rat} {s sv sw : PySem.Str} {w : Bool}
    (h1 : ∀ rest, evSs (callF Tk F (k + 8)) F (.cons rS1 (.cons rS2 rest)) [some (.cell n), none, none, none, none, none] st = evSs (callF Tk F (k + 8)) F rest [some (.cell n), some A, none, none, none, none] st1)
    (h2 : ∀ rest, evSs (callF Tk F (k + 8)) F (.cons rS3 (.cons rS4 rest)) [some (.cell n), some A, none, none, none, none] st1 = evSs (callF Tk F (k + 8)) F rest [some (.cell n), some A, some X, some (fracD q), none, none] st2)
    (p1 : callF Tk F (k + 8) 10 [A] st2 = some (V, st2)) (hp : callF Tk F (k + 8) 32 [V] st2 = some (.bl true, st2)) (hc1 : callF Tk F (k + 8) 20 [V, A] st2 = some (Z, st2)) (hn : callF Tk F (k + 8) 21 [] st2 = some (Z, st2))
    (cz : cop .ne Z Z = some false) (ht5 : callF Tk F (k + 8) 19 [A, fracD q] st2 = some (AQ, st2)) (m1 : callF Tk F (k + 8) 10 [AQ] st2 = some (V, st2)) (n1 : callF Tk F (k + 8) 10 [V] st2 = some (V, st2))
    (hs2 : ∀ st, biF .repr [.lst [V, V]] st = some (.str s)) (cs : cop .ne (.str s) (.str s) = some false) (hc2 : callF Tk F (k + 8) 20 [A, X] st2 = some (XX, st2)) (ct : cop .eq XX Z = some w)
    (o1 : callF Tk F (k + 8) 10 [X] st2 = some (W, st2)) (hr1 : ∀ st, biF .repr [V] st = some (.str sv)) (hr2 : ∀ st, biF .repr [W] st = some (.str sw)) (cq : cop .eq (.str sw) (.str sv) = some w) (cw : cop .eq (.bl w) (.bl w) = some true) :
    evSs (callF Tk F (k + 8)) F i__law_right.body [some (.cell n), none, none, none, none, none] st = some (.ret (.bl true) st2) := by
  have hz2 : (2 : Nat) ≤ sizeLine := by decide
  unfold i__law_right
  refine (h1 _).trans ((h2 _).trans ?_)
  have s5 : evS (callF Tk F (k + 8)) F (.asg 4 (.call 10 (.cons (.var 1) .nil))) [some (.cell n), some A, some X, some (fracD q), none, none] st2 = some (.nxt [some (.cell n), some A, some X, some (fracD q), some V, none] st2) := by
    simp [evS, evE, evEs, p1]
  have s6 : evS (callF Tk F (k + 8)) F (.ite (.or (.not (.val (.call 32 (.cons (.var 4) .nil)))) (.one (.cmp .ne (.call 20 (.cons (.var 4) (.cons (.var 1) .nil))) (.call 21 .nil)))) (.cons (.ret (.cst (.bl false))) .nil) .nil) [some (.cell n), some A, some X, some (fracD q), some V, none] st2 = some (.nxt [some (.cell n), some A, some X, some (fracD q), some V, none] st2) := by
    simp [evS, evT, evE, evEs, evSs, truth, hp, hc1, hn, cz]
  have s7 : evS (callF Tk F (k + 8)) F (.ite (.cmp .ne (.bi .repr (.cons (.lst (.cons (.callk 10 (.cons (.call 19 (.cons (.var 1) (.cons (.var 3) .nil))) .nil) ["direction"] [0]) (.cons (.call 10 (.cons (.var 4) .nil)) .nil))) .nil)) (.bi .repr (.cons (.lst (.cons (.var 4) (.cons (.var 4) .nil))) .nil))) (.cons (.ret (.cst (.bl false))) .nil) .nil) [some (.cell n), some A, some X, some (fracD q), some V, none] st2 = some (.nxt [some (.cell n), some A, some X, some (fracD q), some V, none] st2) := by
    simp [evS, evT, evE, evEs, evSs, ht5, m1, n1, hz2, hs2, cs]
  have s8 : evS (callF Tk F (k + 8)) F (.asg 5 (.cmp .eq (.call 20 (.cons (.var 1) (.cons (.var 2) .nil))) (.call 21 .nil))) [some (.cell n), some A, some X, some (fracD q), some V, none] st2 = some (.nxt [some (.cell n), some A, some X, some (fracD q), some V, some (.bl w)] st2) := by
    simp [evS, evE, evEs, hc2, hn, ct]
  rw [ss_nxt s5, ss_nxt s6, ss_nxt s7, ss_nxt s8]
  refine ss_ret ?_
  simp [evS, evE, evEs, o1, hr1, hr2, cq, cw]
theorem right_ok {F k n : Nat} {r : Int} {st : Mi.Store} (hw : Well st n r) (hr : r + 1000 < 2 ^ 40) (hF : 2 ^ 8000 ≤ F) :
    ∃ st', callF Tk F (k + 9) 33 [.cell n] st = some (.bl true, st') ∧ Well st' n (r + 100) ∧ Turned st n st' := by
  obtain ⟨a, b, c, st1, h1, ha, hb, hc, h0, hw1, ht1⟩ := right1 (F := F) (k := k) hw (by omega) hF
  obtain ⟨x, y, z, q, st2, h2, hx, hy, hz, hq, hq0, h0', hw2, ht2⟩ := right2 (F := F) (k := k) hw1 (by omega) hF ha hb hc h0
  have hs := hw2.sw
  have ht := ht1.trans ht2
  obtain ⟨t1, t2, t3, p1, pl, pa, pb1, pb2, pb3⟩ := plain_ok (F := F) (k := k + 2) hs ha hb hc (by decide) h0
  have up : ∀ {B C : Nat} (u : Int), u.natAbs < 2 ^ B → B ≤ C → u.natAbs < 2 ^ C := fun u h hle => Nat.lt_of_lt_of_le h (Nat.pow_le_pow_right (by decide) hle)
  have hp := isp_ok (F := F) (k := k + 3) hs pl (up t1 pb1 (by decide)) (up t2 pb2 (by decide)) (up t3 pb3 (by decide)) hF
  have hn := nought_ok (F := F) (k := k + 7) hs
  have hT1 : Bd 405 (t1 : Rat) := Bd.int pb1 (by decide)
  have hT2 : Bd 405 (t2 : Rat) := Bd.int pb2 (by decide)
  have hT3 : Bd 405 (t3 : Rat) := Bd.int pb3 (by decide)
  have hTn := cast_zero3 pl.ne
  have hc1 := cross_ok (F := F) (k := k + 5) (B := 405) hs hT1 hT2 hT3 (ha.mono (by decide)) (hb.mono (by decide)) (hc.mono (by decide)) (by decide) hF
  obtain ⟨x1, x2, x3⟩ := pa.symm.cross
  rw [x1, x2, x3] at hc1
  -- told of a multiple
  have ht5 := times_ok (F := F) (k := k + 5) hs ha hb hc (hq.mono (C := 81) (by decide)) (by decide) hF
  obtain ⟨u1, u2, u3, m1, ml, ma, _, _, _⟩ := plain_ok (F := F) (k := k + 2) hs (ha.mul (hq.mono (by decide))) (hb.mul (hq.mono (by decide))) (hc.mul (hq.mono (by decide))) (by decide) (mul_ne h0 hq0)
  have al : Along a b c (a * q) (b * q) (c * q) := ⟨q, hq0, by grind, by grind, by grind⟩
  obtain ⟨rfl, rfl, rfl⟩ := pl_along pl ml ((pa.symm.trans al).trans ma)
  -- told of what is told
  obtain ⟨v1, v2, v3, n1, nl, na, _, _, _⟩ := plain_ok (F := F) (k := k + 2) hs hT1 hT2 hT3 (by decide) hTn
  obtain ⟨rfl, rfl, rfl⟩ := pl_along pl nl na
  -- told of the other one
  obtain ⟨w1, w2, w3, o1, ol, oa, ob1, ob2, ob3⟩ := plain_ok (F := F) (k := k + 2) hs hx hy hz (by decide) h0'
  have hc2 := cross_ok (F := F) (k := k + 5) (B := 162) hs (ha.mono (by decide)) (hb.mono (by decide)) (hc.mono (by decide)) hx hy hz (by decide) hF
  have hr1 : ∀ st, biF .repr [triD (v1 : Rat) (v2 : Rat) (v3 : Rat)] st = some (.str (triS v1 v2 v3)) := fun st => show_tri (up _ pb1 (by decide)) (up _ pb2 (by decide)) (up _ pb3 (by decide))
  have hr2 : ∀ st, biF .repr [triD (w1 : Rat) (w2 : Rat) (w3 : Rat)] st = some (.str (triS w1 w2 w3)) := fun st => show_tri (up _ ob1 (by decide)) (up _ ob2 (by decide)) (up _ ob3 (by decide))
  obtain ⟨s, so, hs2⟩ := show_two (up v1 pb1 (C := 1900) (by decide)) (up v2 pb2 (by decide)) (up v3 pb3 (by decide))
  have eqv : (triS w1 w2 w3 = triS v1 v2 v3) ↔ (b * z - c * y = 0 ∧ c * x - a * z = 0 ∧ a * y - b * x = 0) := by
    rw [triS_inj]
    constructor
    · rintro ⟨rfl, rfl, rfl⟩
      exact (pa.trans oa.symm).cross
    · rintro ⟨e1, e2, e3⟩
      exact pl_along pl ol ((pa.symm.trans (along_of_cross h0 h0' e1 e2 e3)).trans oa)
  have cz := ne_tri 0 0 0 0 0 0
  rw [show decide ((0 : Rat) = 0 ∧ (0 : Rat) = 0 ∧ (0 : Rat) = 0) = true from decide_eq_true ⟨rfl, rfl, rfl⟩] at cz
  have ct : cop .eq (triD (b * z - c * y) (c * x - a * z) (a * y - b * x)) (triD 0 0 0) = some (decide (b * z - c * y = 0 ∧ c * x - a * z = 0 ∧ a * y - b * x = 0)) := cop_eq_of (dEq_tri _ _ _ _ _ _)
  have cs : cop .ne (.str s) (.str s) = some false := by
    simp [cop, dEq_str so so]
  have cq : cop .eq (.str (triS w1 w2 w3)) (.str (triS v1 v2 v3)) = some (decide (b * z - c * y = 0 ∧ c * x - a * z = 0 ∧ a * y - b * x = 0)) := by
    refine cop_eq_of ?_
    rw [dEq_str (triS_ok _ _ _) (triS_ok _ _ _)]
    exact congrArg some (decide_eq_decide.mpr eqv)
  generalize decide (b * z - c * y = 0 ∧ c * x - a * z = 0 ∧ a * y - b * x = 0) = w at ct cq
  have cw : cop .eq (.bl w) (.bl w) = some true := by
    refine cop_eq_of ?_
    rw [dEq_bl]
    simp
  have body := right3 h1 h2 p1 hp hc1 hn cz ht5 m1 n1 hs2 cs hc2 ct o1 hr1 hr2 cq cw
  refine ⟨st2, ?_, hw2.mono (by omega), ht⟩
  exact (call_body (d := i__law_right) rfl ⟨rfl, by decide⟩ body).trans (cut_pl (fun k => by simp) rfl hs ht.len)
end K03

set_option Elab.async false
set_option linter.all false
set_option maxRecDepth 100000
set_option maxHeartbeats 4000000
set_option exponentiation.threshold 10000
namespace K03
open PySem PySem.Spec PyProof.Rows L2 Mi TL
abbrev wB : ISs := .cons (.asg 3 (.bin .mod (.bi .int (.cons (.bin .add (.bin .add (.bin .mul (.var 3) (.cst (.int 44497))) (.bin .mod (.bi .int (.cons (.var 4) .nil)) (.cst (.int 2147483549)))) (.cst (.int 13))) .nil)) (.cst (.int 2147483563)))) .nil
theorem bint (i : Int) (st : Mi.Store) : biF .int [.int i] st = some (.int i) := rfl
theorem add_ok (i j : Int) : bop .add (.int i) (.int j) = some (.int (i + j)) := rfl
theorem mod_ok {i j : Int} (h : 0 < j) : bop .mod (.int i) (.int j) = some (.int (i % j)) := by
  rw [← fm i h]
  simp only [bop]
  rw [if_pos (by omega)]
theorem well_loop {c : CallT} {F : Nat} {a b o : Option Mi.D} {st : Mi.Store} : ∀ (zs : List Int) (s : Int) (e : Option Mi.D), 0 ≤ s → s < 2147483563 →
    ∃ s' e', loopF (fun x env st => match bindT (.nm 4) x env with
      | some env' => evSs c F wB env' st
      | none => none) (zs.map Mi.D.int) [a, b, o, some (.int s), e] st = some (.nxt [a, b, o, some (.int s'), e'] st) ∧ 0 ≤ s' ∧ s' < 2147483563
  | [], s, e, h0, h1 => ⟨s, e, rfl, h0, h1⟩
  | z :: zs, s, e, h0, h1 => by
    obtain ⟨s', e', h, h2, h3⟩ := well_loop (c := c) (F := F) (a := a) (b := b) (o := o) (st := st) zs ((s * 44497 + z % 2147483549 + 13) % 2147483563) (some (.int z)) (Int.emod_nonneg _ (by decide)) (Int.emod_lt_of_pos _ (by decide))
    refine ⟨s', e', ?_, h2, h3⟩
    have m1 : bop .mul (.int s) (.int 44497) = some (.int (s * 44497)) := mul_ok (n := 40) (m := 40) (log_small (by omega) (by omega)) (log_small (by decide) (by decide)) (by decide)
    have m2 : bop .mod (.int z) (.int 2147483549) = some (.int (z % 2147483549)) := mod_ok (by decide)
    have m3 : ∀ i : Int, bop .mod (.int i) (.int 2147483563) = some (.int (i % 2147483563)) := fun i => mod_ok (by decide)
    have s1 : evSs c F wB [a, b, o, some (.int s), some (.int z)] st = some (.nxt [a, b, o, some (.int ((s * 44497 + z % 2147483549 + 13) % 2147483563)), some (.int z)] st) := by
      simp [evSs, evS, evE, evEs, bint, m1, m2, m3, add_ok]
    simp only [List.map_cons, loopF, bindT, List.set_cons_succ, List.set_cons_zero, s1]
    exact h
theorem ints_map : ∀ zs : List Int, intsD (zs.map Mi.D.int) = some zs
  | [] => rfl
  | z :: zs => by simp [intsD, ints_map zs]
theorem ints_fit (n : Nat) : ∀ zs : List Int, fitDs n (zs.map Mi.D.int) = true
  | [] => rfl
  | z :: zs => by simp [fitDs, fitD, ints_fit n zs]
theorem mkwell_ok {F k : Nat} {ns : List Int} {t : Nat} {st : Mi.Store} (hs : SW st) (ht : t < 100) :
    ∃ a b : Int, callF Tk F (k + 1) 11 [.scr (ns.map Mi.D.int), .int (t : Nat)] st = some (.cell st.length, st ++ [some [.int a, .int b, .int 0]]) ∧ 0 ≤ a ∧ 0 ≤ b ∧ b < 2147483563 := by
  have own : ∃ o : Int, evS (callF Tk F k) F (.asg 2 (.ife (.cmp .lt (.var 1) (.bi .len (.cons (.var 0) .nil))) (.bi .int (.cons (.idx (.var 0) (.var 1)) .nil)) (.bin .add (.bin .add (.bin .mul (.cst (.int 5153)) (.var 1)) (.cst (.int 70))) (.bin .mod (.bi .int (.cons (.bi .sum (.cons (.slc (.var 0) .none (.some (.cst (.int 3)))) .nil)) .nil)) (.cst (.int 999983)))))) [some (.scr (ns.map Mi.D.int)), some (.int (t : Nat)), none, none, none] st = some (.nxt [some (.scr (ns.map Mi.D.int)), some (.int (t : Nat)), some (.int o), none, none] st) := by
    have l1 : biF .len [.scr (ns.map Mi.D.int)] st = some (.int ns.length) := by simp [biF, itemsD]
    by_cases h : t < ns.length
    · have c1 : cop .lt (.int (t : Nat)) (.int ns.length) = some true := by
        show some (decide ((t : Int) < (ns.length : Int))) = _
        simp [h]
      have ix : idxF (.scr (ns.map Mi.D.int)) (.int (t : Nat)) st = some (.int ns[t]) := by
        have h1 : (t : Int) < (ns.length : Int) := by omega
        simp [idxF, itemsD, L2.atI, L2.ixN, h, h1]
      exact ⟨ns[t], by simp [evS, evE, evEs, evT, l1, c1, ix, bint]⟩
    · have c1 : cop .lt (.int (t : Nat)) (.int ns.length) = some false := by
        show some (decide ((t : Int) < (ns.length : Int))) = _
        simp; omega
      have m1 : bop .mul (.int 5153) (.int (t : Nat)) = some (.int (5153 * (t : Nat))) := mul_ok (n := 40) (m := 40) (log_small (by decide) (by decide)) (log_small (by omega) (by omega)) (by decide)
      have m2 : ∀ i : Int, bop .mod (.int i) (.int 999983) = some (.int (i % 999983)) := fun i => mod_ok (by decide)
      have sl : ∃ zs : List Int, slcF (.scr (ns.map Mi.D.int)) none (some (.int 3)) = some (.lst (zs.map Mi.D.int)) := by
        refine ⟨(ns.drop (HT.sIx ns.length 0 none)).take (HT.sIx ns.length ns.length (some 3) - HT.sIx ns.length 0 none), ?_⟩
        simp [slcF, optI, List.map_drop, List.map_take]
      obtain ⟨zs, hz⟩ := sl
      have sm : biF .sum [.lst (zs.map Mi.D.int)] st = some (.int zs.sum) := by simp [biF, ints_map]
      exact ⟨5153 * (t : Nat) + 70 + zs.sum % 999983, by simp [evS, evE, evEs, evT, evO, l1, c1, hz, sm, m1, m2, add_ok, bint]⟩
  obtain ⟨o, s1⟩ := own
  have m1 : bop .mul (.int 3023) (.int (t : Nat)) = some (.int (3023 * (t : Nat))) := mul_ok (n := 40) (m := 40) (log_small (by decide) (by decide)) (log_small (by omega) (by omega)) (by decide)
  have s2 : evS (callF Tk F k) F (.asg 3 (.bin .add (.cst (.int 24040)) (.bin .mul (.cst (.int 3023)) (.var 1)))) [some (.scr (ns.map Mi.D.int)), some (.int (t : Nat)), some (.int o), none, none] st = some (.nxt [some (.scr (ns.map Mi.D.int)), some (.int (t : Nat)), some (.int o), some (.int (24040 + 3023 * (t : Nat))), none] st) := by
    simp [evS, evE, m1, add_ok]
  have sl : ∃ zs : List Int, slcF (.scr (ns.map Mi.D.int)) none (some (.int 9)) = some (.lst (zs.map Mi.D.int)) ∧ zs.length ≤ 9 := by
    refine ⟨(ns.drop (HT.sIx ns.length 0 none)).take (HT.sIx ns.length ns.length (some 9) - HT.sIx ns.length 0 none), ?_, ?_⟩
    · simp [slcF, optI, List.map_drop, List.map_take]
    · rw [List.length_take]
      have : HT.sIx ns.length ns.length (some 9) ≤ 9 := by
        rw [show (9 : Int) = ((9 : Nat) : Int) from rfl, HT.sIx_nat]
        exact Nat.min_le_left _ _
      omega
  obtain ⟨zs, hz, hl⟩ := sl
  have hadd : bop .add (.lst (zs.map Mi.D.int)) (.lst [.int o]) = some (.lst ((zs ++ [o]).map Mi.D.int)) := by
    have e : (zs.map Mi.D.int).length + [Mi.D.int o].length ≤ sizeLine := by
      have : sizeLine = 2 ^ 24 := rfl
      simp
      omega
    show (if _ then _ else _) = _
    rw [if_pos e]
    simp
  obtain ⟨s', e', h3, h4, h5⟩ := well_loop (c := callF Tk F k) (F := F) (a := some (.scr (ns.map Mi.D.int))) (b := some (.int (t : Nat))) (o := some (.int o)) (st := st) (zs ++ [o]) (24040 + 3023 * (t : Nat)) none (by omega) (by omega)
  have hz1 : (1 : Nat) ≤ sizeLine := by decide
  have s3 : evS (callF Tk F k) F (.forr (.nm 4) (.seq (.bin .add (.slc (.var 0) .none (.some (.cst (.int 9)))) (.lst (.cons (.var 2) .nil)))) wB) [some (.scr (ns.map Mi.D.int)), some (.int (t : Nat)), some (.int o), some (.int (24040 + 3023 * (t : Nat))), none] st = some (.nxt [some (.scr (ns.map Mi.D.int)), some (.int (t : Nat)), some (.int o), some (.int s'), e'] st) := by
    have ei : evI (callF Tk F k) [some (.scr (ns.map Mi.D.int)), some (.int (t : Nat)), some (.int o), some (.int (24040 + 3023 * (t : Nat))), none] (.seq (.bin .add (.slc (.var 0) .none (.some (.cst (.int 9)))) (.lst (.cons (.var 2) .nil)))) st = some ((zs ++ [o]).map Mi.D.int, st) := by
      simp only [evI, evE, evEs, evO, List.getElem?_cons_zero, List.getElem?_cons_succ, hz]
      simp only [List.length_cons, List.length_nil, Nat.zero_add, hz1, if_true, hadd, seqD]
    simp only [evS, ei]
    exact h3
  have lastv : ∃ a : Int, 0 ≤ a ∧ evE (callF Tk F k) [some (.scr (ns.map Mi.D.int)), some (.int (t : Nat)), some (.int o), some (.int s'), e'] (.ife (.or (.cmp .lt (.var 2) (.cst (.int 0))) (.one (.cmp .ge (.var 2) (.bin .pow (.cst (.int 10)) (.cst (.int 18)))))) (.bi .abs (.cons (.var 2) .nil)) (.cst (.int 0))) st = some (.int a, st) := by
    have pw : bop .pow (.int 10) (.int 18) = some (.int (10 ^ 18)) := by rfl
    have l1 : cop .lt (.int o) (.int 0) = some (decide (o < 0)) := rfl
    have l2 : cop .ge (.int o) (.int (10 ^ 18)) = some (decide ((10 ^ 18 : Int) ≤ o)) := rfl
    have ab : biF .abs [.int o] st = some (.int (if o < 0 then -o else o)) := rfl
    by_cases h1 : o < 0
    · refine ⟨if o < 0 then -o else o, by split <;> omega, ?_⟩
      simp only [evE, evT, evEs, List.getElem?_cons_zero, List.getElem?_cons_succ, l1, h1, decide_true, ab]
    · by_cases h2 : (10 ^ 18 : Int) ≤ o
      · refine ⟨if o < 0 then -o else o, by split <;> omega, ?_⟩
        simp only [evE, evT, evEs, List.getElem?_cons_zero, List.getElem?_cons_succ, l1, h1, decide_false, pw, l2, h2, decide_true, ab]
      · refine ⟨0, by omega, ?_⟩
        simp only [evE, evT, evEs, List.getElem?_cons_zero, List.getElem?_cons_succ, l1, h1, decide_false, pw, l2, h2]
  obtain ⟨a, ha, hae⟩ := lastv
  refine ⟨a, s', ?_, ha, h4, h5⟩
  have body : evSs (callF Tk F k) F i__law_well.body [some (.scr (ns.map Mi.D.int)), some (.int (t : Nat)), none, none, none] st = some (.ret (.cell st.length) (st ++ [some [.int a, .int s', .int 0]])) := by
    unfold i__law_well
    rw [ss_nxt s1, ss_nxt s2, ss_nxt s3]
    refine ss_ret ?_
    have gen : ∀ C : IE, evE (callF Tk F k) [some (.scr (ns.map Mi.D.int)), some (.int (t : Nat)), some (.int o), some (.int s'), e'] C st = some (.int a, st) →
        evS (callF Tk F k) F (.ret (.ncl (.cons C (.cons (.var 3) (.cons (.cst (.int 0)) .nil))))) [some (.scr (ns.map Mi.D.int)), some (.int (t : Nat)), some (.int o), some (.int s'), e'] st = some (.ret (.cell st.length) (st ++ [some [.int a, .int s', .int 0]])) := by
      intro C e'
      have hz3 : (3 : Nat) ≤ sizeLine := by decide
      simp [evS, evE, evEs, e', hz3]
    exact gen _ hae
  refine (call_body (d := i__law_well) rfl ⟨rfl, by decide⟩ body).trans ?_
  have hp := hs.push (xs := [.int a, .int s', .int 0]) rfl
  have e1 : (st ++ [some [Mi.D.int a, .int s', .int 0]]).take (st.length + 1) = st ++ [some [Mi.D.int a, .int s', .int 0]] := by
    rw [List.take_of_length_le (by simp)]
  have hp2 : okC (st.length + 1) (st ++ [some [Mi.D.int a, .int s', .int 0]]) = true := by
    have := hp
    unfold SW at this
    rw [List.length_append] at this
    exact this
  show (if st.length < st.length then _ else if st.length = st.length then (if okC (st.length + 1) ((st ++ [some [Mi.D.int a, .int s', .int 0]]).take (st.length + 1)) then some (Mi.D.cell st.length, (st ++ [some [Mi.D.int a, .int s', .int 0]]).take (st.length + 1)) else none) else none) = _
  rw [if_neg (by omega), if_pos rfl, e1, hp2]
  rfl
theorem law_map {F k : Nat} {ns : List Int} (hF : 2 ^ 8000 ≤ F) : ∀ (ts : List Nat) (st : Mi.Store) (acc : List Mi.D), (∀ t ∈ ts, t < 100) → SW st → st[0]? = some (some acc) → (∀ d ∈ acc, d = .bl true) → acc.length + ts.length ≤ 1000 →
    ∃ st' acc', mapSt 0 (turnF (callF Tk F (k + 9)) (wipeE [some (.scr (ns.map Mi.D.int)), none] [1]) (.nm 1) .none (.call 33 (.cons (.call 11 (.cons (.var 0) (.cons (.var 1) .nil))) .nil))) (ts.map fun t : Nat => Mi.D.int (t : Nat)) st = some st' ∧ st'[0]? = some (some acc') ∧ (∀ d ∈ acc', d = .bl true)
  | [], st, acc, _, _, h0, ha, _ => ⟨st, acc, rfl, h0, ha⟩
  | t :: ts, st, acc, ht, hs, h0, ha, hl => by
    obtain ⟨a, b, h1, a0, b0, b1⟩ := mkwell_ok (F := F) (k := k + 8) (ns := ns) hs (ht t List.mem_cons_self)
    have hp := hs.push (xs := [.int a, .int b, .int 0]) rfl
    have hw : Well (st ++ [some [.int a, .int b, .int 0]]) st.length 0 := ⟨hp, a, b, 0, by simp, a0, b0, b1, by omega, by omega⟩
    obtain ⟨st2, h2, hw2, a', b', c', rfl⟩ := right_ok (F := F) (k := k) hw (by omega) hF
    have hlen0 : 0 < st.length := (List.getElem?_eq_some_iff.mp h0).1
    have e0 : ((st ++ [some [Mi.D.int a, .int b, .int 0]]).set st.length (some [.int a', .int b', .int c']))[0]? = some (some acc) := by
      rw [List.getElem?_set_ne (by omega), List.getElem?_append_left hlen0]
      exact h0
    generalize (st ++ [some [Mi.D.int a, .int b, .int 0]]).set st.length (some [.int a', .int b', .int c']) = st2 at *
    have tn : turnF (callF Tk F (k + 9)) (wipeE [some (.scr (ns.map Mi.D.int)), none] [1]) (.nm 1) .none (.call 33 (.cons (.call 11 (.cons (.var 0) (.cons (.var 1) .nil))) .nil)) (.int (t : Nat)) st = some (some (.bl true), st2) := by
      simp [turnF, bindT, wipeE, evTo, evE, evEs, h1, h2]
    rw [List.length_cons] at hl
    have hlen2 : 0 < st2.length := (List.getElem?_eq_some_iff.mp e0).1
    have acc2 : ∀ d ∈ acc ++ [Mi.D.bl true], d = .bl true := fun d hd => by
      rcases List.mem_append.mp hd with hd | hd
      · exact ha d hd
      · exact List.mem_singleton.mp hd
    obtain ⟨st3, acc3, h3, h4, h5⟩ := law_map (k := k) (ns := ns) hF ts (st2.set 0 (some (acc ++ [.bl true]))) (acc ++ [.bl true]) (fun u hu => ht u (List.mem_cons_of_mem _ hu)) (hw2.sw.set 0 (fits_all fun d hd => by rw [acc2 d hd]; rfl)) (List.getElem?_set_self hlen2) acc2 (by rw [List.length_append, List.length_singleton]; omega)
    refine ⟨st3, acc3, ?_, h4, h5⟩
    have : acc.length < sizeLine := by
      have : sizeLine = 2 ^ 24 := rfl
      omega
    simp only [List.map_cons, mapSt, tn, e0]
    rw [if_pos this]
    exact h3
theorem bools_true : ∀ {xs : List Mi.D}, (∀ d ∈ xs, d = .bl true) → ∃ bs : List Bool, boolsD xs = some bs ∧ bs.all id = true
  | [], _ => ⟨[], rfl, rfl⟩
  | x :: xs, h => by
    obtain ⟨bs, h1, h2⟩ := bools_true fun d hd => h d (List.mem_cons_of_mem _ hd)
    rw [h x List.mem_cons_self]
    exact ⟨true :: bs, by simp [boolsD, h1], by simp [h2]⟩
theorem law_ok (ns : List Int) (hn : ns.length ≤ 63) : ∃ (F : Nat) (stF : Mi.Store), Mi.callF Tk F 60 34 [.scr (ns.map Mi.D.int)] [] = some (.bl true, stF) := by
  refine ⟨2 ^ 8000, ?_⟩
  obtain ⟨m, hm, hm2⟩ : ∃ m : Nat, biF .max [.int 3, .int (if (8 : Int) < ns.length then 8 else ns.length)] [] = some (.int (m : Int)) ∧ m ≤ 50 := by
    have e : ∀ j : Int, biF .max [.int 3, .int j] [] = some (.int (if j > 3 then j else 3)) := fun j => rfl
    by_cases h8 : (8 : Int) < ns.length
    · rw [if_pos h8, e]
      by_cases h3 : (8 : Int) > 3
      · exact ⟨8, by rw [if_pos h3]; rfl, by omega⟩
      · exact ⟨3, by rw [if_neg h3]; rfl, by omega⟩
    · rw [if_neg h8, e]
      by_cases h3 : (ns.length : Int) > 3
      · exact ⟨ns.length, by rw [if_pos h3], by omega⟩
      · exact ⟨3, by rw [if_neg h3]; rfl, by omega⟩
  obtain ⟨st', acc', h1, h2, h3⟩ := law_map (F := 2 ^ 8000) (k := 50) (ns := ns) (Nat.le_refl _) (List.range m) [some []] [] (fun t ht => by have := List.mem_range.mp ht; omega) rfl rfl (fun d hd => by cases hd) (by simp; omega)
  obtain ⟨bs, hb, hb2⟩ := bools_true h3
  have l1 : biF .len [.scr (ns.map Mi.D.int)] [] = some (.int ns.length) := by simp [biF, itemsD]
  have l2 : biF .min [.int ns.length, .int 8] [] = some (.int (if (8 : Int) < ns.length then 8 else ns.length)) := rfl
  have ei : evI (callF Tk (2 ^ 8000) 59) [some (.scr (ns.map Mi.D.int)), none] (.rng (.bi .max (.cons (.cst (.int 3)) (.cons (.bi .min (.cons (.bi .len (.cons (.var 0) .nil)) (.cons (.cst (.int 8)) .nil))) .nil)))) [] = some ((List.range m).map fun t : Nat => Mi.D.int (t : Nat), []) := by
    have e0 : (List.range m).map (fun i : Nat => Mi.D.int (0 + (i : Nat))) = (List.range m).map fun t : Nat => Mi.D.int (t : Nat) := by simp
    have hm3 : -1000000 < (m : Int) ∧ (m : Int) < 1000000 := by omega
    simp only [evI, evE, evEs, List.getElem?_cons_zero, l1, l2, hm, if_pos hm3, Int.toNat_natCast, e0]
  have ec : evE (callF Tk (2 ^ 8000) 59) [some (.scr (ns.map Mi.D.int)), none] (.comp (.call 33 (.cons (.call 11 (.cons (.var 0) (.cons (.var 1) .nil))) .nil)) (.nm 1) (.rng (.bi .max (.cons (.cst (.int 3)) (.cons (.bi .min (.cons (.bi .len (.cons (.var 0) .nil)) (.cons (.cst (.int 8)) .nil))) .nil)))) .none [("_law_turn", 1)]) [] = some (.lst acc', []) := by
    have ho : tgOwn (.nm 1) ([(("_law_turn" : PySem.Str), 1)].map fun p : PySem.Str × Nat => p.2) = true := rfl
    have hcut : Mi.cutD 0 (.lst acc') st' = some (.lst acc', []) := by
      have hf : fitD 0 (.lst acc') = true := fits_all fun d hd => by rw [h3 d hd]; rfl
      show (if fitD 0 (.lst acc') && okC 0 (st'.take 0) then some (Mi.D.lst acc', st'.take 0) else none) = _
      rw [hf, List.take_zero]
      rfl
    show (match evI (callF Tk (2 ^ 8000) 59) [some (.scr (ns.map Mi.D.int)), none] (.rng (.bi .max (.cons (.cst (.int 3)) (.cons (.bi .min (.cons (.bi .len (.cons (.var 0) .nil)) (.cons (.cst (.int 8)) .nil))) .nil)))) [] with
      | some (xs, st1) => if tgOwn (.nm 1) ([(("_law_turn" : PySem.Str), 1)].map fun p : PySem.Str × Nat => p.2) then (match mapSt st1.length (turnF (callF Tk (2 ^ 8000) 59) (wipeE [some (.scr (ns.map Mi.D.int)), none] ([(("_law_turn" : PySem.Str), 1)].map fun p : PySem.Str × Nat => p.2)) (.nm 1) .none (.call 33 (.cons (.call 11 (.cons (.var 0) (.cons (.var 1) .nil))) .nil))) xs (st1 ++ [some []]) with
        | some st2 => (match st2[st1.length]? with
          | some (some ys) => Mi.cutD st1.length (.lst ys) st2
          | _ => none)
        | none => none) else none
      | none => none) = _
    rw [ei]
    show (match mapSt 0 (turnF (callF Tk (2 ^ 8000) 59) (wipeE [some (.scr (ns.map Mi.D.int)), none] [1]) (.nm 1) .none (.call 33 (.cons (.call 11 (.cons (.var 0) (.cons (.var 1) .nil))) .nil))) ((List.range m).map fun t : Nat => Mi.D.int (t : Nat)) [some []] with
        | some st2 => (match st2[0]? with
          | some (some ys) => Mi.cutD 0 (.lst ys) st2
          | _ => none)
        | none => none) = _
    rw [h1]
    show (match st'[0]? with
          | some (some ys) => Mi.cutD 0 (.lst ys) st'
          | _ => none) = _
    rw [h2]
    exact hcut
  have hall : biF .all [.lst acc'] [] = some (.bl true) := by
    simp only [biF, hb, Option.map_some, hb2]
  refine ⟨[], ?_⟩
  rw [call_at (k := 59) (d := i_law) rfl]
  refine (run_ret (v := .bl true) (st' := []) rfl ⟨rfl, by decide⟩ ?_).trans rfl
  have gen : ∀ C : IE, evE (callF Tk (2 ^ 8000) 59) [some (.scr (ns.map Mi.D.int)), none] C [] = some (.lst acc', []) → evE (callF Tk (2 ^ 8000) 59) [some (.scr (ns.map Mi.D.int)), none] (.bi .all (.cons C .nil)) [] = some (.bl true, []) := by
    intro C e'
    simp only [evE, evEs, e', hall]
  exact gen _ ec
theorem holds : PySem.Challenge.rw_sevenpins_k03_whole_plain_directions.Holds := holds_of fun ns hn _ => law_ok ns hn
end K03

theorem PySem.Challenge.cw_sevenpins_k03_whole_plain_directions_holds : PySem.Challenge.rw_sevenpins_k03_whole_plain_directions.Holds := by
  exact K03.holds
