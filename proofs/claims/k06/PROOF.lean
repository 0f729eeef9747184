import PyProof.Rows.All
import HandS.ForMost
import HandS.Gcd
import HandS.Wide
import HandS.IsInst
import HandS.AnyAll
import HandS.GenList
import HandS.TupAny
import HandS.List
import HandS.Comp
import HandS.GenCall
import PyProof.TupleOfGen
import PyProof.SumAny
import HandS.Iter
import HandS.Zip
import HandS.Style
import HandS.NoneIn
import HandS.Defaults
import HandS.EndTab
import HandS.HeadHook4
import HandS.NestedK
import HandS.Head3
import HandS.Head4
import PySem.Challenge.RW_sevenpins_k06_whole_placings_joined_and
import HandS.WordsExc
import HandS.HeadWalk
import HandS.EndBits
import HandS.Text
set_option Elab.async false
set_option linter.all false
set_option maxRecDepth 100000
set_option maxHeartbeats 4000000
/-! Mi1: data, stores, how they lie in the abstract heap. -/
namespace Mi
open PySem PySem.Spec PyProof.Rows L2

/-- data: tuples and lists by value; cell n: the list that the store has at n -/
inductive D where
  | non | bl (b : Bool) | int (i : Int) | str (s : Str)
  | tup (xs : List D) | lst (xs : List D) | scr (xs : List D) | cell (n : Nat)
  | dct (ks : List Key) (vs : List D)
  deriving Inhabited

abbrev Store := List (Option (List D))
abbrev Env := List (Option D)

/-- a list of the written part -/
def KL (K : PySem.W.Frag) (a : Addr) (xs : List V) : Prop :=
  ∃ (o : Obj) (its : Array Value) (n : Nat), K.lookup a = some o ∧ o.cls = .type "list" ∧ o.dict = none ∧ o.data = .seq its n ∧ its.size ≤ sizeLine ∧ Vals xs its.toList
/-- a list that is only read -/
def SqF (K : PySem.W.Frag) (L : Addr → Prop) (H : Hp) (a : Addr) (xs : List V) : Prop :=
  (∃ o, H a = some (.frz o (.lst xs))) ∨ (H a = some (.lst xs) ∧ ¬ L a) ∨ KL K a xs
theorem SqF.sqL {K : PySem.W.Frag} {L : Addr → Prop} {H : Hp} {a : Addr} {xs : List V} (h : SqF K L H a xs) : SqL K H a xs := by
  rcases h with ⟨o, h⟩ | ⟨h, _⟩ | h
  · exact .inl (.inr ⟨o, h⟩)
  · exact .inl (.inl h)
  · exact .inr h
/-- a is where a live cell stands -/
def Lv (m : List Addr) (st : Store) (a : Addr) : Prop := ∃ (n : Nat) (xs : List D), st[n]? = some (some xs) ∧ m[n]? = some a

mutual
def Rep (K : PySem.W.Frag) (m : List Addr) (L : Addr → Prop) (H : Hp) : D → V → Prop
  | .non, v => v = .non
  | .bl b, v => v = .bl b
  | .int i, v => v = .int i
  | .str s, v => v = .str s
  | .tup xs, v => ∃ a ys, v = .ref a ∧ SqT K H a ys ∧ Reps K m L H xs ys
  | .lst xs, v => ∃ a ys, v = .ref a ∧ H a = some (.lst ys) ∧ ¬ L a ∧ Reps K m L H xs ys
  | .scr xs, v => ∃ a ys, v = .ref a ∧ SqF K L H a ys ∧ Reps K m L H xs ys
  | .cell n, v => ∃ a, v = .ref a ∧ m[n]? = some a
  | .dct ks vs, v => ∃ a ys, v = .ref a ∧ Rd H a (.dK (ks.zip ys)) ∧ ks.length = ys.length ∧ Reps K m L H vs ys
def Reps (K : PySem.W.Frag) (m : List Addr) (L : Addr → Prop) (H : Hp) : List D → List V → Prop
  | [], ys => ys = []
  | x :: xs, ys => ∃ y r, ys = y :: r ∧ Rep K m L H x y ∧ Reps K m L H xs r
end

theorem Reps.length {K m L H} : ∀ {xs : List D} {ys : List V}, Reps K m L H xs ys → xs.length = ys.length
  | [], ys, h => by simp only [Reps] at h; subst h; rfl
  | x :: xs, ys, h => by
    simp only [Reps] at h
    obtain ⟨y, r, rfl, _, h2⟩ := h
    simp [Reps.length h2]
theorem Reps.get {K m L H} : ∀ {xs : List D} {ys : List V} {i : Nat} {x : D}, Reps K m L H xs ys → xs[i]? = some x → ∃ y, ys[i]? = some y ∧ Rep K m L H x y
  | [], ys, i, x, h, e => by simp at e
  | x :: xs, ys, i, z, h, e => by
    simp only [Reps] at h
    obtain ⟨y, r, rfl, h1, h2⟩ := h
    cases i with
    | zero => simp at e; subst e; exact ⟨y, rfl, h1⟩
    | succ i =>
      obtain ⟨y', e', h'⟩ := Reps.get (i := i) h2 (by simpa using e)
      exact ⟨y', by simpa using e', h'⟩
theorem Reps.get' {K m L H} : ∀ {xs : List D} {ys : List V} {i : Nat} {y : V}, Reps K m L H xs ys → ys[i]? = some y → ∃ x, xs[i]? = some x ∧ Rep K m L H x y
  | [], ys, i, x, h, e => by simp only [Reps] at h; subst h; simp at e
  | x :: xs, ys, i, z, h, e => by
    simp only [Reps] at h
    obtain ⟨y, r, rfl, h1, h2⟩ := h
    cases i with
    | zero => simp at e; subst e; exact ⟨x, rfl, h1⟩
    | succ i =>
      obtain ⟨y', e', h'⟩ := Reps.get' (i := i) h2 (by simpa using e)
      exact ⟨y', by simpa using e', h'⟩
theorem Reps.append {K m L H} : ∀ {xs : List D} {ys : List V} {xs' : List D} {ys' : List V}, Reps K m L H xs ys → Reps K m L H xs' ys' → Reps K m L H (xs ++ xs') (ys ++ ys')
  | [], ys, xs', ys', h, h' => by simp only [Reps] at h; subst h; simpa using h'
  | x :: xs, ys, xs', ys', h, h' => by
    simp only [Reps] at h
    obtain ⟨y, r, rfl, h1, h2⟩ := h
    simp only [List.cons_append, Reps]
    exact ⟨y, r ++ ys', rfl, h1, Reps.append h2 h'⟩
theorem Reps.nil {K m L H} : Reps K m L H [] [] := by simp [Reps]
theorem Reps.cons {K m L H} {x : D} {y : V} {xs : List D} {ys : List V} (h : Rep K m L H x y) (h2 : Reps K m L H xs ys) : Reps K m L H (x :: xs) (y :: ys) := by
  simp only [Reps]; exact ⟨y, ys, rfl, h, h2⟩
theorem Reps.one {K m L H} {x : D} {ys : List V} (h : Reps K m L H [x] ys) : ∃ y, ys = [y] ∧ Rep K m L H x y := by
  simp only [Reps] at h
  obtain ⟨y, r, rfl, h1, rfl⟩ := h
  exact ⟨y, rfl, h1⟩
theorem Reps.two {K m L H} {x x' : D} {ys : List V} (h : Reps K m L H [x, x'] ys) : ∃ y y', ys = [y, y'] ∧ Rep K m L H x y ∧ Rep K m L H x' y' := by
  simp only [Reps] at h
  obtain ⟨y, r, rfl, h1, y', r', rfl, h2, rfl⟩ := h
  exact ⟨y, y', rfl, h1, h2⟩
theorem Reps.take {K m L H} : ∀ {xs : List D} {ys : List V} (n : Nat), Reps K m L H xs ys → Reps K m L H (xs.take n) (ys.take n)
  | [], ys, n, h => by simp only [Reps] at h; subst h; simp [Reps]
  | x :: xs, ys, n, h => by
    simp only [Reps] at h
    obtain ⟨y, r, rfl, h1, h2⟩ := h
    cases n with
    | zero => simp [Reps]
    | succ n => simp only [List.take_succ_cons]; exact Reps.cons h1 (Reps.take n h2)
theorem Reps.drop {K m L H} : ∀ {xs : List D} {ys : List V} (n : Nat), Reps K m L H xs ys → Reps K m L H (xs.drop n) (ys.drop n)
  | [], ys, n, h => by simp only [Reps] at h; subst h; simp [Reps]
  | x :: xs, ys, n, h => by
    cases n with
    | zero => simpa using h
    | succ n =>
      simp only [Reps] at h
      obtain ⟨y, r, rfl, h1, h2⟩ := h
      simpa using Reps.drop n h2
theorem Reps.set {K m L H} {x : D} {y : V} (r : Rep K m L H x y) : ∀ {xs : List D} {ys : List V} (i : Nat), Reps K m L H xs ys → Reps K m L H (xs.set i x) (ys.set i y)
  | [], ys, i, h => by simp only [Reps] at h; subst h; simp [Reps]
  | z :: xs, ys, i, h => by
    simp only [Reps] at h
    obtain ⟨y', rs, rfl, h1, h2⟩ := h
    cases i with
    | zero => simp only [List.set_cons_zero]; exact Reps.cons r h2
    | succ i => simp only [List.set_cons_succ]; exact Reps.cons h1 (Reps.set r i h2)

/-- what a step keeps: the cells' places, all that is tracked but the live cells and the tables; live cells are old ones or new addresses -/
structure Ext (m : List Addr) (st : Store) (H : Hp) (m' : List Addr) (st' : Store) (H' : Hp) : Prop where
  pre : ∀ (n : Nat) (a : Addr), m[n]? = some a → m'[n]? = some a
  keep : ∀ b o, H b = some o → ¬ Lv m st b → (∀ ps, o ≠ .tbl ps) → H' b = some o
  tbl : ∀ b ps, H b = some (.tbl ps) → ∃ more, H' b = some (.tbl (ps ++ more))
  new : ∀ a, Lv m' st' a → Lv m st a ∨ H a = none
theorem Ext.refl {m st H} : Ext m st H m st H := ⟨fun _ _ h => h, fun _ _ h _ _ => h, fun _ ps h => ⟨#[], by simpa using h⟩, fun _ h => .inl h⟩
/-- the live cells are lists -/
def CellsL (m : List Addr) (st : Store) (H : Hp) : Prop := ∀ a, Lv m st a → ∃ ys, H a = some (.lst ys)
theorem Ext.trans {m st H m1 st1 H1 m2 st2 H2} (a : Ext m st H m1 st1 H1) (b : Ext m1 st1 H1 m2 st2 H2) : Ext m st H m2 st2 H2 where
  pre := fun n x h => b.pre n x (a.pre n x h)
  keep := fun c o h nl nt => b.keep c o (a.keep c o h nl nt) (fun l => by
    rcases a.new c l with z | z
    · exact nl z
    · rw [z] at h; cases h) nt
  tbl := fun c ps h => by
    obtain ⟨m1, e1⟩ := a.tbl c ps h
    obtain ⟨m2, e2⟩ := b.tbl c _ e1
    exact ⟨m1 ++ m2, by rw [e2, Array.append_assoc]⟩
  new := fun c l => by
    rcases b.new c l with z | z
    · exact a.new c z
    · cases q : H c with
      | none => exact .inr rfl
      | some o =>
        refine .inl (Classical.byContradiction fun nl => ?_)
        cases o with
        | tbl ps => obtain ⟨more, e⟩ := a.tbl c ps q; rw [z] at e; cases e
        | _ => have e := a.keep c _ q nl (fun ps h => by cases h); rw [z] at e; cases e

theorem rd_keep {m st H m' st' H'} (e : Ext m st H m' st' H') {a : Addr} {o : HO} (h : Rd H a o) (nl : ¬ Lv m st a) (nt : ∀ ps, o ≠ .tbl ps) : Rd H' a o := by
  rcases h with h | ⟨ob, h⟩
  · exact .inl (e.keep a o h nl nt)
  · exact .inr ⟨ob, e.keep a _ h nl (fun ps z => by cases z)⟩
theorem sqT_keep {K : PySem.W.Frag} {m st H m' st' H'} (c : CellsL m st H) (e : Ext m st H m' st' H') {a : Addr} {xs : List V} (h : SqT K H a xs) : SqT K H' a xs := by
  rcases h with h | h
  · refine .inl (rd_keep e h (fun l => ?_) (fun ps z => by cases z))
    obtain ⟨ys, q⟩ := c a l
    rcases h with h | ⟨o, h⟩ <;> (rw [q] at h; cases h)
  · exact .inr h
mutual
theorem Rep.ext {K : PySem.W.Frag} {m st H m' st' H'} (c : CellsL m st H) (e : Ext m st H m' st' H') : ∀ {d : D} {v : V}, Rep K m (Lv m st) H d v → Rep K m' (Lv m' st') H' d v
  | .non, v, h => by simpa only [Rep] using h
  | .bl b, v, h => by simpa only [Rep] using h
  | .int i, v, h => by simpa only [Rep] using h
  | .str s, v, h => by simpa only [Rep] using h
  | .tup xs, v, h => by
    simp only [Rep] at h ⊢
    obtain ⟨a, ys, e1, h1, h2⟩ := h
    exact ⟨a, ys, e1, sqT_keep c e h1, Reps.ext c e h2⟩
  | .lst xs, v, h => by
    simp only [Rep] at h ⊢
    obtain ⟨a, ys, e1, h1, nl, h2⟩ := h
    refine ⟨a, ys, e1, e.keep a _ h1 nl (fun ps z => by cases z), fun l => ?_, Reps.ext c e h2⟩
    rcases e.new a l with z | z
    · exact nl z
    · rw [z] at h1; cases h1
  | .scr xs, v, h => by
    simp only [Rep] at h ⊢
    obtain ⟨a, ys, e1, h1, h2⟩ := h
    refine ⟨a, ys, e1, ?_, Reps.ext c e h2⟩
    rcases h1 with ⟨o, h1⟩ | ⟨h1, nl⟩ | h1
    · refine .inl ⟨o, e.keep a _ h1 (fun l => ?_) (fun ps z => by cases z)⟩
      obtain ⟨ws, q⟩ := c a l
      rw [h1] at q; cases q
    · refine .inr (.inl ⟨e.keep a _ h1 nl (fun ps z => by cases z), fun l => ?_⟩)
      rcases e.new a l with z | z
      · exact nl z
      · rw [z] at h1; cases h1
    · exact .inr (.inr h1)
  | .cell n, v, h => by
    simp only [Rep] at h ⊢
    obtain ⟨a, e1, h1⟩ := h
    exact ⟨a, e1, e.pre n a h1⟩
  | .dct ks vs, v, h => by
    simp only [Rep] at h ⊢
    obtain ⟨a, ys, e1, h1, hl, h2⟩ := h
    refine ⟨a, ys, e1, rd_keep e h1 (fun l => ?_) (fun ps z => by cases z), hl, Reps.ext c e h2⟩
    obtain ⟨ys', q⟩ := c a l
    rcases h1 with h1 | ⟨o, h1⟩ <;> (rw [q] at h1; cases h1)
theorem Reps.ext {K : PySem.W.Frag} {m st H m' st' H'} (c : CellsL m st H) (e : Ext m st H m' st' H') : ∀ {xs : List D} {ys : List V}, Reps K m (Lv m st) H xs ys → Reps K m' (Lv m' st') H' xs ys
  | [], ys, h => by simpa only [Reps] using h
  | x :: xs, ys, h => by
    simp only [Reps] at h ⊢
    obtain ⟨y, r, e1, h1, h2⟩ := h
    exact ⟨y, r, e1, Rep.ext c e h1, Reps.ext c e h2⟩
end

/-- the store in the abstract heap; cs: the defs' code objects and their tables -/
structure SC (K : PySem.W.Frag) (cs : List (Addr × Addr)) (m : List Addr) (st : Store) (H : Hp) : Prop where
  len : m.length = st.length
  cell : ∀ (n : Nat) (xs : List D), st[n]? = some (some xs) → ∃ a ys, m[n]? = some a ∧ H a = some (.lst ys) ∧ Reps K m (Lv m st) H xs ys
  inj : ∀ (i j : Nat) (a : Addr) (xs ys : List D), st[i]? = some (some xs) → st[j]? = some (some ys) → m[i]? = some a → m[j]? = some a → i = j
  tab : ∀ p ∈ cs, GxR.TabG H p.2
theorem SC.cells {K cs m st H} (s : SC K cs m st H) : CellsL m st H := fun a ⟨n, xs, h1, h2⟩ => by
  obtain ⟨a', ys, e, h, _⟩ := s.cell n xs h1
  rw [h2] at e; cases e
  exact ⟨ys, h⟩

/-- slots -/
structure EnvR (K : PySem.W.Frag) (m : List Addr) (st : Store) (H : Hp) (env : Env) (σ : L2.St) : Prop where
  len : env.length = σ.length
  get : ∀ (i : Nat) (d : D), env[i]? = some (some d) → ∃ v : V, σ[i]? = some (some v) ∧ Rep K m (Lv m st) H d v
theorem EnvR.ext {K m st H m' st' H' env σ} (c : CellsL m st H) (e : Ext m st H m' st' H') (r : EnvR K m st H env σ) : EnvR K m' st' H' env σ :=
  ⟨r.len, fun i d h => let ⟨v, h1, h2⟩ := r.get i d h; ⟨v, h1, h2.ext c e⟩⟩
theorem EnvR.set {K m st H env σ} (r : EnvR K m st H env σ) {i : Nat} {d : D} {v : V} (h : Rep K m (Lv m st) H d v) : EnvR K m st H (env.set i (some d)) (σ.set i (some v)) where
  len := by simp [r.len]
  get := fun j d' e => by
    by_cases hj : i = j
    · subst hj
      by_cases hl : i < env.length
      · rw [List.getElem?_set_self hl] at e
        cases e
        exact ⟨v, by rw [List.getElem?_set_self (by rw [← r.len]; exact hl)], h⟩
      · rw [List.getElem?_eq_none (by simpa using hl)] at e; cases e
    · rw [List.getElem?_set_ne hj] at e
      obtain ⟨v', h1, h2⟩ := r.get j d' e
      exact ⟨v', by rw [List.getElem?_set_ne hj]; exact h1, h2⟩
def wipeE (env : Env) : List Nat → Env
  | [] => env
  | v :: vs => (wipeE env vs).set v none
theorem EnvR.setN {K m st H env σ} (r : EnvR K m st H env σ) (i : Nat) : EnvR K m st H (env.set i none) (σ.set i none) where
  len := by simp [r.len]
  get := fun j d' e => by
    by_cases hj : i = j
    · subst hj
      by_cases hl : i < env.length
      · rw [List.getElem?_set_self hl] at e; cases e
      · rw [List.getElem?_eq_none (by simpa using hl)] at e; cases e
    · rw [List.getElem?_set_ne hj] at e
      obtain ⟨v', h1, h2⟩ := r.get j d' e
      exact ⟨v', by rw [List.getElem?_set_ne hj]; exact h1, h2⟩
theorem EnvR.wipe {K m st H env σ} (r : EnvR K m st H env σ) : ∀ vs : List Nat, EnvR K m st H (wipeE env vs) (wipe σ vs)
  | [] => r
  | v :: vs => by unfold wipeE L2.wipe; exact (r.wipe vs).setN v

/-! ### how the heap grows -/
theorem ext_new {m st H} {p : Addr} {o : HO} (hp : H p = none) : Ext m st H m st (upd H p o) where
  pre := fun _ _ h => h
  keep := fun b u h _ _ => by rw [upd_ne (ne_of_none h hp)]; exact h
  tbl := fun b ps h => ⟨#[], by rw [upd_ne (ne_of_none h hp)]; simpa using h⟩
  new := fun _ h => .inl h
theorem tabG_ext {m st H m' st' H'} (e : Ext m st H m' st' H') (nt : ∀ P, ∀ ps, H P = some (.tbl ps) → H' P = some (.tbl ps)) {P : Addr} (h : GxR.TabG H P) : GxR.TabG H' P := by
  obtain ⟨ps, h1, h2⟩ := h
  exact ⟨ps, nt P ps h1, h2⟩
theorem SC.new {K cs m st H} (s : SC K cs m st H) {p : Addr} {o : HO} (hp : H p = none) : SC K cs m st (upd H p o) where
  len := s.len
  cell := fun n xs h => by
    obtain ⟨a, ys, h1, h2, h3⟩ := s.cell n xs h
    exact ⟨a, ys, h1, by rw [upd_ne (ne_of_none h2 hp)]; exact h2, h3.ext s.cells (ext_new hp)⟩
  inj := s.inj
  tab := fun q hq => tabG_ext (ext_new (m := m) (st := st) (o := o) hp) (fun P ps h => by rw [upd_ne (ne_of_none h hp)]; exact h) (s.tab q hq)
/-- a new tuple -/
theorem rep_tup {K cs m st H} (s : SC K cs m st H) {p : Addr} {xs : List D} {ys : List V} (hp : H p = none) (r : Reps K m (Lv m st) H xs ys) :
    Rep K m (Lv m st) (upd H p (.tup ys)) (.tup xs) (.ref p) := by
  simp only [Rep]
  exact ⟨p, ys, rfl, .inl (.inl upd_same), r.ext s.cells (ext_new hp)⟩
/-- a new list, by value -/
theorem rep_lst {K cs m st H} (s : SC K cs m st H) {p : Addr} {xs : List D} {ys : List V} (hp : H p = none) (r : Reps K m (Lv m st) H xs ys) :
    Rep K m (Lv m st) (upd H p (.lst ys)) (.lst xs) (.ref p) := by
  simp only [Rep]
  refine ⟨p, ys, rfl, upd_same, fun l => ?_, r.ext s.cells (ext_new hp)⟩
  obtain ⟨zs, q⟩ := s.cells p l
  rw [hp] at q; cases q
/-- a new cell -/
theorem lv_push {m st} (hl : m.length = st.length) {p a : Addr} {xs : List D} : Lv (m ++ [p]) (st ++ [some xs]) a ↔ Lv m st a ∨ a = p := by
  constructor
  · rintro ⟨n, ys, h1, h2⟩
    by_cases hn : n < st.length
    · rw [List.getElem?_append_left hn] at h1
      rw [List.getElem?_append_left (by omega)] at h2
      exact .inl ⟨n, ys, h1, h2⟩
    · rw [List.getElem?_append_right (by omega)] at h1 h2
      rw [hl] at h2
      have : n - st.length = 0 := by
        cases q : n - st.length with
        | zero => rfl
        | succ k => rw [q] at h1; simp at h1
      rw [this] at h2
      simp at h2
      exact .inr h2.symm
  · rintro (⟨n, ys, h1, h2⟩ | rfl)
    · exact ⟨n, ys, by rw [List.getElem?_append_left (List.getElem?_eq_some_iff.mp h1).1]; exact h1, by rw [List.getElem?_append_left (List.getElem?_eq_some_iff.mp h2).1]; exact h2⟩
    · exact ⟨st.length, xs, by simp, by rw [← hl]; simp⟩
theorem ext_cell {m st H} (hl : m.length = st.length) {p : Addr} {xs : List D} {o : HO} (hp : H p = none) : Ext m st H (m ++ [p]) (st ++ [some xs]) (upd H p o) where
  pre := fun n a h => by rw [List.getElem?_append_left (List.getElem?_eq_some_iff.mp h).1]; exact h
  keep := fun b u h _ _ => by rw [upd_ne (ne_of_none h hp)]; exact h
  tbl := fun b ps h => ⟨#[], by rw [upd_ne (ne_of_none h hp)]; simpa using h⟩
  new := fun a h => by
    rcases (lv_push hl).mp h with h | rfl
    · exact .inl h
    · exact .inr hp
theorem SC.push {K cs m st H} (s : SC K cs m st H) {p : Addr} {xs : List D} {ys : List V} (hp : H p = none) (r : Reps K m (Lv m st) H xs ys) :
    SC K cs (m ++ [p]) (st ++ [some xs]) (upd H p (.lst ys)) where
  len := by simp [s.len]
  cell := fun n zs h => by
    by_cases hn : n < st.length
    · rw [List.getElem?_append_left hn] at h
      obtain ⟨a, ws, h1, h2, h3⟩ := s.cell n zs h
      exact ⟨a, ws, (ext_cell (xs := xs) (o := HO.lst ys) s.len hp).pre n a h1, by rw [upd_ne (ne_of_none h2 hp)]; exact h2, h3.ext s.cells (ext_cell s.len hp)⟩
    · rw [List.getElem?_append_right (by omega)] at h
      have : n - st.length = 0 := by
        cases q : n - st.length with
        | zero => rfl
        | succ k => rw [q] at h; simp at h
      rw [this] at h
      simp at h
      subst h
      have : n = m.length := by have := s.len; omega
      subst this
      exact ⟨p, ys, by simp, upd_same, r.ext s.cells (ext_cell s.len hp)⟩
  inj := fun i j a xs' ys' h1 h2 h3 h4 => by
    have key : ∀ {i zs}, (st ++ [some xs])[i]? = some (some zs) → (m ++ [p])[i]? = some a → (i < st.length ∧ st[i]? = some (some zs) ∧ m[i]? = some a) ∨ (i = st.length ∧ a = p) := fun {i zs} h1 h3 => by
      by_cases hi : i < st.length
      · exact .inl ⟨hi, by rw [List.getElem?_append_left hi] at h1; exact h1, by rw [List.getElem?_append_left (by rw [s.len]; exact hi)] at h3; exact h3⟩
      · have h1' := h1
        rw [List.getElem?_append_right (by omega)] at h1'
        have e0 : i - st.length = 0 := by
          cases q : i - st.length with
          | zero => rfl
          | succ k => rw [q] at h1'; simp at h1'
        have ei : i = st.length := by omega
        refine .inr ⟨ei, ?_⟩
        rw [ei, ← s.len] at h3
        simp at h3
        exact h3.symm
    have notp : ∀ {i zs}, st[i]? = some (some zs) → m[i]? = some a → a ≠ p := fun {i zs} h1 h3 e => by
      obtain ⟨ws, q⟩ := s.cells a ⟨i, zs, h1, h3⟩
      rw [e, hp] at q; cases q
    rcases key h1 h3 with ⟨_, a1, a2⟩ | ⟨e1, e2⟩ <;> rcases key h2 h4 with ⟨_, b1, b2⟩ | ⟨e3, e4⟩
    · exact s.inj i j a _ _ a1 b1 a2 b2
    · exact absurd e4 (notp a1 a2)
    · exact absurd e2 (notp b1 b2)
    · omega
  tab := fun q hq => tabG_ext (ext_new (m := m) (st := st) (o := .lst ys) hp) (fun P ps h => by rw [upd_ne (ne_of_none h hp)]; exact h) (s.tab q hq)
end Mi

set_option Elab.async false
set_option linter.all false
set_option maxRecDepth 100000
set_option maxHeartbeats 4000000
/-! Mi2: a small language of expressions and statements over slots, and what they do with data. -/
namespace Mi
open PySem PySem.Spec PyProof.Rows L2

inductive BOp where | add | sub | mul | fdiv | mod | pow
  deriving DecidableEq
inductive COp where | eq | ne | lt | le | gt | ge | is | isn | inn | nin
  deriving DecidableEq
inductive BI where | len | abs | int | gcd | lcm | max | min | repr | str | divmod | tuple | list | sum | all | any
  deriving DecidableEq
inductive Ty where | int | bool | tuple
  deriving DecidableEq
inductive GK where | tuple | all | any | sum
  deriving DecidableEq
inductive ITg where | nm (i : Nat) | tp (is : List Nat)

mutual
inductive IE where
  | var (i : Nat) | frz (i : Nat) | cst (d : D) | gcn (x : Str) (d : D)
  | tup (es : IEs) | lst (es : IEs) | ncl (es : IEs)
  | bin (o : BOp) (a b : IE) | neg (a : IE) | cmp (o : COp) (a b : IE)
  | andv (a b : IE) | orv (a b : IE) | one (a : IE) | notv (a : IE)
  | ife (t : IT) (a b : IE)
  | call (f : Nat) (es : IEs) | callk (f : Nat) (es : IEs) (names : List Str) (perm : List Nat)
  | bi (b : BI) (es : IEs) | isi (a : IE) (t : Ty)
  | idx (a b : IE) | slc (a : IE) (lo hi : IEo)
  | comp (elt : IE) (tg : ITg) (it : II) (cond : ITo) (own : List (Str × Nat))
  | gen (k : GK) (elt : IE) (tg : ITg) (it : II) (cond : ITo) (own : List (Str × Nat))
inductive IEs where
  | nil | cons (e : IE) (es : IEs)
inductive IEo where
  | none | some (e : IE)
inductive IT where
  | val (e : IE) | cmp (o : COp) (a b : IE) | and (a b : IT) | or (a b : IT) | one (a : IT) | not (a : IT)
inductive ITo where
  | none | some (t : IT)
inductive II where
  | seq (e : IE) | rng (e : IE) | rng2 (a b : IE) | zip (a b : IE) | enum (a : IE) | zip3 (a b c : IE)
end

inductive Tgt where
  | nm (i : Nat) | tp (ts : List Tgt) | sub (o i : IE)
mutual
inductive IS where
  | asg (i : Nat) (e : IE)
  | asgT (ts : List Tgt) (e : IE)
  | asgP (is : List Nat) (es : IEs)
  | asgS (o ix : IE) (e : IE)
  | aug (i : Nat) (o : BOp) (e : IE)
  | app (i : Nat) (e : IE)
  | expr (e : IE) | ret (e : IE) | retN | pass | brk | cnt | rse
  | ite (t : IT) (a b : ISs)
  | forr (tg : ITg) (it : II) (b : ISs)
  | whl (t : IT) (b : ISs)
inductive ISs where
  | nil | cons (s : IS) (r : ISs)
end

/-! ### data -/
mutual
def pd : D → PyData
  | .non => .none
  | .bl b => .bool b
  | .int i => .int i
  | .str s => .str s
  | .tup xs => .tuple (pds xs)
  | .lst xs => .list (pds xs)
  | .scr _ => .none
  | .cell _ => .none
  | .dct ks vs => .dict ((ks.map fun k => match k with | .inl i => PyData.int i | .inr s => PyData.str s).zip (pds vs))
def pds : List D → List PyData
  | [] => []
  | x :: xs => pd x :: pds xs
end
mutual
/-- no cell within, no dict -/
def flat0 : D → Bool
  | .non | .bl _ | .int _ | .str _ => true
  | .tup xs => flat0s xs
  | .lst xs => flat0s xs
  | .scr _ => false
  | .cell _ => false
  | .dct _ _ => false
def flat0s : List D → Bool
  | [] => true
  | x :: xs => flat0 x && flat0s xs
end
mutual
/-- the cells within are below n -/
def fitD (n : Nat) : D → Bool
  | .non | .bl _ | .int _ | .str _ => true
  | .tup xs => fitDs n xs
  | .lst xs => fitDs n xs
  | .scr xs => fitDs n xs
  | .cell k => decide (k < n)
  | .dct _ vs => fitDs n vs
def fitDs (n : Nat) : List D → Bool
  | [] => true
  | x :: xs => fitD n x && fitDs n xs
end
/-- == -/
def dEq (x y : D) : Option Bool :=
  if flat0 x && flat0 y && SeqAt.shaped (pd x) && SeqAt.shaped (pd y) then some (PyData.eqv (pd x) (pd y)) else none
/-- x in xs for flat things -/
def flatD : D → Bool
  | .non | .bl _ | .int _ | .str _ => true
  | _ => false
def toV : D → V
  | .non => .non
  | .bl b => .bl b
  | .int i => .int i
  | .str s => .str s
  | _ => .non
def dIn (x : D) (xs : List D) : Option Bool :=
  if flatD x && xs.all flatD then some (inV (toV x) (xs.map toV)) else none
def truth : D → Option Bool
  | .non => some false
  | .bl b => some b
  | .int i => some (i != 0)
  | .tup xs => some (!xs.isEmpty)
  | .lst xs => some (!xs.isEmpty)
  | _ => none
/-- no content refers to a place from n on -/
def okC (n : Nat) (st : Store) : Bool := st.all fun c => match c with
  | some xs => fitDs n xs
  | none => true
def cutD (n : Nat) (v : D) (st : Store) : Option (D × Store) :=
  match v with
  | .cell k => if k < n then (if okC n (st.take n) then some (v, st.take n) else none) else if k = n then (if okC (n + 1) (st.take (n + 1)) then some (v, st.take (n + 1)) else none) else none
  | v => if fitD n v && okC n (st.take n) then some (v, st.take n) else none
def showOk (d : D) : Bool := flat0 d && PyData.showable (pd d) && decide ((PyData.shown (pd d)).length ≤ sizeLine) && decide ((pd d).depth ≤ 64)

def bop (o : BOp) (x y : D) : Option D :=
  match o, x, y with
  | .add, .int i, .int j => some (.int (i + j))
  | .add, .tup a, .tup b => if a.isEmpty then some (.tup b) else if a.length + b.length ≤ sizeLine then some (.tup (a ++ b)) else none
  | .add, .lst a, .lst b => if a.length + b.length ≤ sizeLine then some (.lst (a ++ b)) else none
  | .sub, .int i, .int j => some (.int (i - j))
  | .mul, .int i, .int j => if (decide (i.natAbs.log2 + j.natAbs.log2 < 100000000)) then some (.int (i * j)) else none
  | .mul, .lst a, .int j => if 0 ≤ j ∧ j < 1000000 ∧ a.length * j.toNat ≤ sizeLine then some (.lst (List.replicate j.toNat a).flatten) else none
  | .fdiv, .int i, .int j => if j ≠ 0 ∧ j.natAbs.log2 < 9000 then some (.int (i.fdiv j)) else none
  | .mod, .int i, .int j => if j ≠ 0 then some (.int (i.fmod j)) else none
  | .pow, .int i, .int j => if 0 ≤ j ∧ j ≤ 1000000 ∧ i.natAbs < 2 ^ 64 then some (.int (i ^ j.toNat)) else none
  | _, _, _ => none
def isNonD : D → Bool
  | .non => true
  | _ => false
/-- x == () -/
def eqE : D → D → Option Bool
  | .tup xs, .tup [] => some xs.isEmpty
  | _, _ => none
def cop (o : COp) (x y : D) : Option Bool :=
  match o, x, y with
  | .eq, x, y => (match dEq x y with
    | some b => some b
    | none => eqE x y)
  | .ne, x, y => (dEq x y).map (!·)
  | .lt, .int i, .int j => some (decide (i < j))
  | .le, .int i, .int j => some (decide (i ≤ j))
  | .gt, .int i, .int j => some (decide (j < i))
  | .ge, .int i, .int j => some (decide (j ≤ i))
  | .is, x, .non => if flat0 x then some (isNonD x) else none
  | .isn, x, .non => if flat0 x then some (!isNonD x) else none
  | .inn, x, .lst xs => dIn x xs
  | .inn, x, .tup xs => dIn x xs
  | .nin, x, .lst xs => (dIn x xs).map (!·)
  | .nin, x, .tup xs => (dIn x xs).map (!·)
  | _, _, _ => none
theorem cop_eq_of {x y : D} {b : Bool} (h : dEq x y = some b) : cop .eq x y = some b := by
  simp only [cop, h]
def itemsD : D → Store → Option (List D)
  | .tup xs, _ => some xs
  | .lst xs, _ => some xs
  | .scr xs, _ => some xs
  | .cell n, st => match st[n]? with
    | some (some xs) => some xs
    | _ => none
  | _, _ => none
def intsD : List D → Option (List Int)
  | [] => some []
  | .int i :: r => (intsD r).map (i :: ·)
  | _ :: _ => none
def boolsD : List D → Option (List Bool)
  | [] => some []
  | .bl b :: r => (boolsD r).map (b :: ·)
  | _ :: _ => none
def biF (b : BI) (xs : List D) (st : Store) : Option D :=
  match b, xs with
  | .len, [x] => (match x with
    | .str _ => none
    | x => (itemsD x st).map fun l => .int l.length)
  | .abs, [.int i] => some (.int (if i < 0 then -i else i))
  | .int, [.int i] => some (.int i)
  | .int, [.bl k] => some (.int (if k then 1 else 0))
  | .gcd, [.int a, .int b] => some (.int (Nat.gcd a.natAbs b.natAbs : Nat))
  | .lcm, [.int a, .int b] => if a.natAbs.log2 < 13000 ∧ b.natAbs.log2 < 13000 then some (.int (Nat.lcm a.natAbs b.natAbs : Nat)) else none
  | .max, [.int i, .int j] => some (.int (if j > i then j else i))
  | .min, [.int i, .int j] => some (.int (if j < i then j else i))
  | .repr, [x] => if showOk x then some (.str (PyData.shown (pd x))) else none
  | .str, [.int i] => if i.natAbs.log2 < 1920 then some (.str (toString i : String)) else none
  | .divmod, [.int i, .int j] => if 0 < j ∧ j < 1073741824 then some (.tup [.int (i / j), .int (i % j)]) else none
  | .tuple, [x] => (itemsD x st).map .tup
  | .list, [x] => (itemsD x st).map .lst
  | .sum, [.lst xs] => (intsD xs).map fun l => .int l.sum
  | .all, [.lst xs] => (boolsD xs).map fun l => .bl (l.all id)
  | .any, [.lst xs] => (boolsD xs).map fun l => .bl (l.any id)
  | .any, [.tup xs] => (intsD xs).map fun l => .bl (l.any fun i => decide (i ≠ 0))
  | _, _ => none
def isiF (x : D) (t : Ty) : Option Bool :=
  match x, t with
  | .cell _, _ => none
  | .scr _, _ => none
  | .int _, .int => some true
  | .bl _, .int => some true
  | .bl _, .bool => some true
  | .tup _, .tuple => some true
  | _, _ => some false
def idxF (x : D) (y : D) (st : Store) : Option D :=
  match y with
  | .int i => (itemsD x st).bind fun l => atI l i
  | _ => none
def optI : Option D → Option (Option Int)
  | none => some none
  | some (.int i) => some (some i)
  | _ => none
def slcF (x : D) (lo hi : Option D) : Option D :=
  match optI lo, optI hi, x with
  | some l, some h, .tup xs => some (.tup ((xs.drop (HT.sIx xs.length 0 l)).take (HT.sIx xs.length xs.length h - HT.sIx xs.length 0 l)))
  | some l, some h, .scr xs => some (.lst ((xs.drop (HT.sIx xs.length 0 l)).take (HT.sIx xs.length xs.length h - HT.sIx xs.length 0 l)))
  | some l, some h, .lst xs => some (.lst ((xs.drop (HT.sIx xs.length 0 l)).take (HT.sIx xs.length xs.length h - HT.sIx xs.length 0 l)))
  | _, _, _ => none
def bindT (tg : ITg) (x : D) (env : Env) : Option Env :=
  match tg, x with
  | .nm i, x => some (env.set i (some x))
  | .tp is, .tup xs => if is.length = xs.length then some ((is.zip xs).foldl (fun e p => e.set p.1 (some p.2)) env) else none
  | _, _ => none
def tgOwn (tg : ITg) (own : List Nat) : Bool :=
  match tg with
  | .nm i => own.contains i
  | .tp is => is.all own.contains
/-- what a comprehension lays into the place n -/
def mapSt (n : Nat) (f : D → Store → Option (Option D × Store)) : List D → Store → Option Store
  | [], st => some st
  | x :: xs, st => match f x st with
    | some (none, st1) => mapSt n f xs st1
    | some (some y, st1) => (match st1[n]? with
      | some (some acc) => if acc.length < sizeLine then mapSt n f xs (st1.set n (some (acc ++ [y]))) else none
      | _ => none)
    | none => none
def gkF (k : GK) (xs : List D) : Option D :=
  match k with
  | .tuple => some (.tup xs)
  | .all => (boolsD xs).map fun l => .bl (l.all id)
  | .any => (boolsD xs).map fun l => .bl (l.any id)
  | .sum => (intsD xs).map fun l => .int l.sum
/-- these end a walk early -/
def stopG : GK → D → Bool
  | .all, .bl false => true
  | .any, .bl true => true
  | _, _ => false
/-- what a consumer draws -/
def mapGs (k : GK) (f : D → Store → Option (Option D × Store)) : List D → Store → Option (List D × Store)
  | [], st => some ([], st)
  | x :: xs, st => match f x st with
    | some (none, st1) => mapGs k f xs st1
    | some (some y, st1) => if stopG k y = true then some ([y], st1) else (match mapGs k f xs st1 with
      | some (ys, st2) => some (y :: ys, st2)
      | none => none)
    | none => none

def seqD : D → Option (List D)
  | .tup xs => some xs
  | .lst xs => some xs
  | .scr xs => some xs
  | _ => none
def lstD : D → Option (List D)
  | .lst xs => some xs
  | .scr xs => some xs
  | _ => none
def tupD : D → Option (List D)
  | .tup xs => some xs
  | _ => none
def zipD (x y : D) : Option (List D) :=
  match lstD x, lstD y with
  | some xs, some ys => some ((xs.zip ys).map fun p => .tup [p.1, p.2])
  | _, _ => (match tupD x, tupD y with
    | some xs, some ys => some ((xs.zip ys).map fun p => .tup [p.1, p.2])
    | _, _ => none)
/-- a list, a tuple, a list of one length -/
def zip3D (x y z : D) : Option (List D) :=
  match lstD x, tupD y, lstD z with
  | some xs, some ys, some zs => if xs.length = ys.length ∧ xs.length = zs.length then some ((xs.zip (ys.zip zs)).map fun p => .tup [p.1, p.2.1, p.2.2]) else none
  | _, _, _ => none
abbrev CallT := Nat → List D → Store → Option (D × Store)

mutual
def evE (c : CallT) (env : Env) : IE → Store → Option (D × Store)
  | .var i, st => match env[i]? with
    | some (some d) => some (d, st)
    | _ => none
  | .frz i, st => match env[i]? with
    | some (some (.cell n)) => (match st[n]? with
      | some (some xs) => some (.lst xs, st.set n none)
      | _ => none)
    | _ => none
  | .cst d, st => some (d, st)
  | .gcn _ d, st => some (d, st)
  | .tup es, st => match evEs c env es st with
    | some (xs, st1) => if xs.length ≤ sizeLine then some (.tup xs, st1) else none
    | none => none
  | .lst es, st => match evEs c env es st with
    | some (xs, st1) => if xs.length ≤ sizeLine then some (.lst xs, st1) else none
    | none => none
  | .ncl es, st => match evEs c env es st with
    | some (xs, st1) => if xs.length ≤ sizeLine then some (.cell st1.length, st1 ++ [some xs]) else none
    | none => none
  | .bin o a b, st => match evE c env a st with
    | some (x, st1) => (match evE c env b st1 with
      | some (y, st2) => (match bop o x y with
        | some z => some (z, st2)
        | none => none)
      | none => none)
    | none => none
  | .neg a, st => match evE c env a st with
    | some (.int i, st1) => some (.int (-i), st1)
    | _ => none
  | .cmp o a b, st => match evE c env a st with
    | some (x, st1) => (match evE c env b st1 with
      | some (y, st2) => (match cop o x y with
        | some z => some (.bl z, st2)
        | none => none)
      | none => none)
    | none => none
  | .andv a b, st => match evE c env a st with
    | some (.bl true, st1) => evE c env b st1
    | some (.bl false, st1) => some (.bl false, st1)
    | _ => none
  | .orv a b, st => match evE c env a st with
    | some (.bl true, st1) => some (.bl true, st1)
    | some (.bl false, st1) => evE c env b st1
    | _ => none
  | .one a, st => evE c env a st
  | .notv a, st => match evE c env a st with
    | some (.bl b, st1) => some (.bl (!b), st1)
    | _ => none
  | .ife t a b, st => match evT c env t st with
    | some (true, st1) => evE c env a st1
    | some (false, st1) => evE c env b st1
    | none => none
  | .call f es, st => match evEs c env es st with
    | some (xs, st1) => c f xs st1
    | none => none
  | .callk f es _ perm, st => match evEs c env es st with
    | some (xs, st1) => (match perm.mapM (fun i => xs[i]?) with
      | some zs => c f zs st1
      | none => none)
    | none => none
  | .bi b es, st => match evEs c env es st with
    | some (xs, st1) => (match biF b xs st1 with
      | some z => some (z, st1)
      | none => none)
    | none => none
  | .isi a t, st => match evE c env a st with
    | some (x, st1) => (match isiF x t with
      | some z => some (.bl z, st1)
      | none => none)
    | none => none
  | .idx a b, st => match evE c env a st with
    | some (x, st1) => (match evE c env b st1 with
      | some (y, st2) => (match idxF x y st2 with
        | some z => some (z, st2)
        | none => none)
      | none => none)
    | none => none
  | .slc a lo hi, st => match evE c env a st with
    | some (x, st1) => (match evO c env lo st1 with
      | some (l, st2) => (match evO c env hi st2 with
        | some (h, st3) => (match slcF x l h with
          | some z => some (z, st3)
          | none => none)
        | none => none)
      | none => none)
    | none => none
  | .comp elt tg it cond own, st => match evI c env it st with
    | some (xs, st1) => if tgOwn tg (own.map (·.2)) then (match mapSt st1.length (fun x s => match bindT tg x (wipeE env (own.map (·.2))) with
        | some env' => (match evTo c env' cond s with
          | some (true, s1) => (match evE c env' elt s1 with
            | some (y, s2) => some (some y, s2)
            | none => none)
          | some (false, s1) => some (none, s1)
          | none => none)
        | none => none) xs (st1 ++ [some []]) with
      | some st2 => (match st2[st1.length]? with
        | some (some ys) => cutD st1.length (.lst ys) st2
        | _ => none)
      | none => none) else none
    | none => none
  | .gen k elt tg it cond own, st => match evI c env it st with
    | some (xs, st1) => if tgOwn tg (own.map (·.2)) then (match mapGs k (fun x s => match bindT tg x (wipeE env (own.map (·.2))) with
        | some env' => (match evTo c env' cond s with
          | some (true, s1) => (match evE c env' elt s1 with
            | some (y, s2) => some (some y, s2)
            | none => none)
          | some (false, s1) => some (none, s1)
          | none => none)
        | none => none) xs st1 with
      | some (ys, st2) => if ys.length ≤ sizeLine then (match gkF k ys with
        | some d => some (d, st2)
        | none => none) else none
      | none => none) else none
    | none => none
def evEs (c : CallT) (env : Env) : IEs → Store → Option (List D × Store)
  | .nil, st => some ([], st)
  | .cons e es, st => match evE c env e st with
    | some (x, st1) => (match evEs c env es st1 with
      | some (xs, st2) => some (x :: xs, st2)
      | none => none)
    | none => none
def evO (c : CallT) (env : Env) : IEo → Store → Option (Option D × Store)
  | .none, st => some (none, st)
  | .some e, st => match evE c env e st with
    | some (x, st1) => some (some x, st1)
    | none => none
def evT (c : CallT) (env : Env) : IT → Store → Option (Bool × Store)
  | .val e, st => match evE c env e st with
    | some (x, st1) => (match truth x with
      | some b => some (b, st1)
      | none => none)
    | none => none
  | .cmp o a b, st => match evE c env a st with
    | some (x, st1) => (match evE c env b st1 with
      | some (y, st2) => (match cop o x y with
        | some z => some (z, st2)
        | none => none)
      | none => none)
    | none => none
  | .and a b, st => match evT c env a st with
    | some (true, st1) => evT c env b st1
    | some (false, st1) => some (false, st1)
    | none => none
  | .or a b, st => match evT c env a st with
    | some (true, st1) => some (true, st1)
    | some (false, st1) => evT c env b st1
    | none => none
  | .one a, st => evT c env a st
  | .not a, st => match evT c env a st with
    | some (b, st1) => some (!b, st1)
    | none => none
def evTo (c : CallT) (env : Env) : ITo → Store → Option (Bool × Store)
  | .none, st => some (true, st)
  | .some t, st => evT c env t st
def evI (c : CallT) (env : Env) : II → Store → Option (List D × Store)
  | .seq e, st => match evE c env e st with
    | some (x, st1) => (match seqD x with
      | some xs => some (xs, st1)
      | none => none)
    | none => none
  | .rng e, st => match evE c env e st with
    | some (.int n, st1) => if -1000000 < n ∧ n < 1000000 then some ((List.range n.toNat).map fun i => .int (0 + (i : Nat)), st1) else none
    | _ => none
  | .rng2 a b, st => match evE c env a st with
    | some (.int lo, st1) => (match evE c env b st1 with
      | some (.int hi, st2) => if -1000000 < lo ∧ lo < 1000000 ∧ hi < 1000000 ∧ -1000000 < hi then some ((List.range (hi - lo).toNat).map fun i => .int (lo + (i : Nat)), st2) else none
      | _ => none)
    | _ => none
  | .zip a b, st => match evE c env a st with
    | some (x, st1) => (match evE c env b st1 with
      | some (y, st2) => (match zipD x y with
        | some l => some (l, st2)
        | none => none)
      | none => none)
    | none => none
  | .zip3 a b d, st => match evE c env a st with
    | some (x, st1) => (match evE c env b st1 with
      | some (y, st2) => (match evE c env d st2 with
        | some (z, st3) => (match zip3D x y z with
          | some l => some (l, st3)
          | none => none)
        | none => none)
      | none => none)
    | none => none
  | .enum a, st => match evE c env a st with
    | some (x, st1) => (match lstD x with
      | some xs => some (xs.zipIdx.map fun p => .tup [.int (p.2 : Nat), p.1], st1)
      | none => none)
    | none => none
end

inductive Fl where
  | nxt (env : Env) (st : Store) | ret (d : D) (st : Store) | brk (env : Env) (st : Store) | cnt (env : Env) (st : Store)

def loopF (b : D → Env → Store → Option Fl) : List D → Env → Store → Option Fl
  | [], env, st => some (.nxt env st)
  | x :: xs, env, st => match b x env st with
    | some (.nxt env' st') => loopF b xs env' st'
    | some (.cnt env' st') => loopF b xs env' st'
    | some (.brk env' st') => some (.nxt env' st')
    | some (.ret d st') => some (.ret d st')
    | none => none
def loopW (t : Env → Store → Option (Bool × Store)) (b : Env → Store → Option Fl) : Nat → Env → Store → Option Fl
  | 0, _, _ => none
  | n + 1, env, st => match t env st with
    | some (true, st1) => (match b env st1 with
      | some (.nxt env' st') => loopW t b n env' st'
      | some (.cnt env' st') => loopW t b n env' st'
      | some (.brk env' st') => some (.nxt env' st')
      | some (.ret d st') => some (.ret d st')
      | none => none)
    | some (false, st1) => some (.nxt env st1)
    | none => none
/-- x[i] = v of a cell -/
def setC (x y v : D) (st : Store) : Option Store :=
  match x, y with
  | .cell n, .int i => (match st[n]? with
    | some (some xs) => (match ixN xs.length i with
      | some j => some (st.set n (some (xs.set j v)))
      | none => none)
    | _ => none)
  | _, _ => none
/-- (t1, t2, ..) = the itemsD, from the left -/
def asgTs (c : CallT) : List Tgt → List D → Env → Store → Option (Env × Store)
  | [], [], env, st => some (env, st)
  | .nm i :: ts, x :: xs, env, st => asgTs c ts xs (env.set i (some x)) st
  | .sub o ix :: ts, x :: xs, env, st => match evE c env o st with
    | some (ov, st1) => (match evE c env ix st1 with
      | some (iv, st2) => (match setC ov iv x st2 with
        | some st3 => asgTs c ts xs env st3
        | none => none)
      | none => none)
    | none => none
  | _, _, _, _ => none
mutual
def evS (c : CallT) (F : Nat) : IS → Env → Store → Option Fl
  | .asg i e, env, st => match evE c env e st with
    | some (x, st1) => some (.nxt (env.set i (some x)) st1)
    | none => none
  | .asgT ts e, env, st => match evE c env e st with
    | some (.tup xs, st1) => (match asgTs c ts xs env st1 with
      | some (env', st') => some (.nxt env' st')
      | none => none)
    | some (.lst xs, st1) => (match asgTs c ts xs env st1 with
      | some (env', st') => some (.nxt env' st')
      | none => none)
    | _ => none
  | .asgP is es, env, st => match evEs c env es st with
    | some (xs, st1) => if is.length = xs.length then some (.nxt ((is.zip xs).foldl (fun e p => e.set p.1 (some p.2)) env) st1) else none
    | none => none
  | .asgS o ix e, env, st => match evE c env e st with
    | some (x, st1) => (match evE c env o st1 with
      | some (ov, st2) => (match evE c env ix st2 with
        | some (iv, st3) => (match setC ov iv x st3 with
          | some st4 => some (.nxt env st4)
          | none => none)
        | none => none)
      | none => none)
    | none => none
  | .aug i o e, env, st => match env[i]? with
    | some (some x) => (match evE c env e st with
      | some (y, st1) => (match o, x, y with
        | .add, .int a, .int b => some (.nxt (env.set i (some (.int (a + b)))) st1)
        | .sub, .int a, .int b => some (.nxt (env.set i (some (.int (a - b)))) st1)
        | _, _, _ => none)
      | none => none)
    | _ => none
  | .app i e, env, st => match env[i]? with
    | some (some (.cell n)) => (match st[n]? with
      | some (some _) => (match evE c env e st with
        | some (y, st1) => (match st1[n]? with
          | some (some xs) => if xs.length < sizeLine then some (.nxt env (st1.set n (some (xs ++ [y])))) else none
          | _ => none)
        | none => none)
      | _ => none)
    | _ => none
  | .expr e, env, st => match evE c env e st with
    | some (_, st1) => some (.nxt env st1)
    | none => none
  | .ret e, env, st => match evE c env e st with
    | some (x, st1) => some (.ret x st1)
    | none => none
  | .retN, _, st => some (.ret .non st)
  | .pass, env, st => some (.nxt env st)
  | .brk, env, st => some (.brk env st)
  | .cnt, env, st => some (.cnt env st)
  | .rse, _, _ => none
  | .ite t a b, env, st => match evT c env t st with
    | some (true, st1) => evSs c F a env st1
    | some (false, st1) => evSs c F b env st1
    | none => none
  | .forr tg it b, env, st => match evI c env it st with
    | some (xs, st1) => loopF (fun x env st => match bindT tg x env with
      | some env' => evSs c F b env' st
      | none => none) xs env st1
    | none => none
  | .whl t b, env, st => loopW (fun env st => evT c env t st) (fun env st => evSs c F b env st) F env st
def evSs (c : CallT) (F : Nat) : ISs → Env → Store → Option Fl
  | .nil, env, st => some (.nxt env st)
  | .cons s r, env, st => match evS c F s env st with
    | some (.nxt env' st') => evSs c F r env' st'
    | x => x
end
structure Def where
  name : Str
  np : Nat
  names : List Str
  body : ISs
def runD (c : CallT) (F : Nat) (d : Def) (args : List D) (st : Store) : Option (D × Store) :=
  if args.length = d.np ∧ d.np ≤ d.names.length then
    match evSs c F d.body (args.map some ++ List.replicate (d.names.length - d.np) none) st with
    | some (.ret v st') => cutD st.length v st'
    | some (.nxt _ st') => cutD st.length .non st'
    | _ => none
  else none
def callF (T : Nat → Option Def) (F : Nat) : Nat → CallT
  | 0, _, _, _ => none
  | k + 1, f, args, st => match T f with
    | some d => runD (callF T F k) F d args st
    | none => none
end Mi

set_option Elab.async false
set_option linter.all false
set_option maxRecDepth 100000
set_option maxHeartbeats 4000000
set_option autoImplicit true
/-! Mi3: the text matches, the triples. -/
namespace Mi
open PySem PySem.Spec PyProof.Rows L2

/-! ### the widest readings -/
section
variable (X : Cx)
def tE (e : Expr) : TE := fun σ H Q => ∀ pins s, Inv X pins σ H s → wpAny (model X.prog X.w) X.A (eval e X.env) (EP X pins σ Q) X.xe s
def tT (e : Expr) : TT := fun σ H Q => ∀ pins s, Inv X pins σ H s → wpAny (model X.prog X.w) X.A (isTrue e X.env (eval e X.env)) (TP X pins σ Q) X.xe s
def tW (e : Expr) : TT := fun σ H Q => ∀ whole pins s, Inv X pins σ H s → wpAny (model X.prog X.w) X.A (isTrue e X.env whole) (TP X pins σ Q) X.xe s
def tA (es : List Expr) : TA := fun σ H Q => ∀ (pos : Pos) pins s, Inv X pins σ H s → wpAny (model X.prog X.w) X.A (spliced (backTo pos (starEach es X.env))) (AP X pins σ Q) X.xe s
def tK (ks : List Keyword) : TA := fun σ H Q => ∀ (pos : Pos) pins s, Inv X pins σ H s → wpAny (model X.prog X.w) X.A (evalAll ((backToKw pos (keywordEach ks X.env)).map (·.2))) (AP X pins σ Q) X.xe s
def tS (st : Stmt) : TS := fun D σ H => ∀ pins s, Inv X pins σ H s → wpAny (model X.prog X.w) X.A (exec st X.env) (SP X pins D) X.xe s
def tSs (st : List Stmt) : TS := fun D σ H => ∀ pins s, Inv X pins σ H s → wpAny (model X.prog X.w) X.A (execs st X.env) (SP X pins D) X.xe s
def tGt (tg : Expr) : TG := fun v σ H Q => ∀ pins s u, Inv X pins σ H s → RelV v u → wpAny (model X.prog X.w) X.A (assign tg X.env u) (fun _ s' => ∃ σ' H', Inv X pins σ' H' s' ∧ Q σ' H') X.xe s
def tIt (tg iter : Expr) : TI := fun σ H R => ∀ pins s, Inv X pins σ H s → wpAny (model X.prog X.w) X.A (eval iter X.env) (fun v s1 => wpAny (model X.prog X.w) X.A (pyIter v) (PIE X pins σ tg R) X.xe s1) X.xe s
def tO (e : Option Expr) : TO := fun σ H Q => ∀ pins s, Inv X pins σ H s → wpAny (model X.prog X.w) X.A (evalPart e X.env) (fun u s' => ∃ o H', Inv X pins σ H' s' ∧ IsPart u o ∧ Q o H') X.xe s
end
section
variable {X : Cx} {e : Expr} {es : List Expr} {σ : L2.St} {H : Hp}
theorem peE : PE X e (tE X e) := ⟨fun pins s σ H Q I h => h pins s I⟩
theorem ptT : PT X e (tT X e) := ⟨fun pins s σ H Q I h => h pins s I⟩
theorem pwW : PW X e (tW X e) := ⟨fun w pins s σ H Q I h => h w pins s I⟩
theorem paA : PA X es (tA X es) := ⟨fun pos pins s σ H Q I h => h pos pins s I⟩
theorem pkK {ks : List Keyword} : PK X ks (tK X ks) := ⟨fun pos pins s σ H Q I h => h pos pins s I⟩
theorem psS {st : Stmt} : PS X st (tS X st) := ⟨fun pins s σ H D I h => h pins s I⟩
theorem pssS {st : List Stmt} : PSs X st (tSs X st) := ⟨fun pins s σ H D I h => h pins s I⟩
theorem pgG {tg : Expr} : PG X tg (tGt X tg) := ⟨fun pins s σ H v u Q I r h => h pins s u I r⟩
theorem piI {tg iter : Expr} : PI X tg iter (tIt X tg iter) := ⟨fun pins s σ H R I h => h pins s I⟩
theorem poO {o : Option Expr} : PO X o (tO X o) := ⟨fun pins s σ H Q I h => h pins s I⟩
theorem useE {t : TE} {Q : VK} (h : PE X e t) (q : t σ H Q) : tE X e σ H Q := fun pins s I => h.run pins s σ H Q I q
theorem useT {t : TT} {Q : Bool → Hp → Prop} (h : PT X e t) (q : t σ H Q) : tT X e σ H Q := fun pins s I => h.run pins s σ H Q I q
theorem useW {t : TT} {Q : Bool → Hp → Prop} (h : PW X e t) (q : t σ H Q) : tW X e σ H Q := fun w pins s I => h.run w pins s σ H Q I q
theorem useA {t : TA} {Q : List V → Hp → Prop} (h : PA X es t) (q : t σ H Q) : tA X es σ H Q := fun pos pins s I => h.run pos pins s σ H Q I q
theorem useK {ks : List Keyword} {t : TA} {Q : List V → Hp → Prop} (h : PK X ks t) (q : t σ H Q) : tK X ks σ H Q := fun pos pins s I => h.run pos pins s σ H Q I q
theorem useS {st : Stmt} {t : TS} {D : Ends} (h : PS X st t) (q : t D σ H) : tS X st D σ H := fun pins s I => h.run pins s σ H D I q
theorem useSs {st : List Stmt} {t : TS} {D : Ends} (h : PSs X st t) (q : t D σ H) : tSs X st D σ H := fun pins s I => h.run pins s σ H D I q
theorem useG {tg : Expr} {t : TG} {v : V} {Q : L2.St → Hp → Prop} (h : PG X tg t) (q : t v σ H Q) : tGt X tg v σ H Q := fun pins s u I r => h.run pins s σ H v u Q I r q
theorem useI {tg iter : Expr} {t : TI} {R : It → Hp → Prop} (h : PI X tg iter t) (q : t σ H R) : tIt X tg iter σ H R := fun pins s I => h.run pins s σ H R I q
theorem useO {o : Option Expr} {t : TO} {Q : Option Int → Hp → Prop} (h : PO X o t) (q : t σ H Q) : tO X o σ H Q := fun pins s I => h.run pins s σ H Q I q
theorem tE_mono {Q Q' : VK} (h : tE X e σ H Q) (f : ∀ v H', Q v H' → Q' v H') : tE X e σ H Q' := fun pins s I => thn (h pins s I) fun u s' ⟨v, H', I', r, q⟩ => ⟨v, H', I', r, f v H' q⟩
end

/-! ### the text -/
def isStar : Expr → Bool
  | .Starred _ _ => true
  | _ => false
theorem starEach_cons {e : Expr} {es : List Expr} {env : PySem.Env} (h : isStar e = false) : starEach (e :: es) env = (false, eval e env) :: starEach es env := by
  cases e <;> first | rfl | cases h
def noStars : List Expr → Bool
  | [] => true
  | e :: es => !isStar e && noStars es
theorem noStars_any {es : List Expr} {env : PySem.Env} {pos : Pos} (h : noStars es = true) : (backTo pos (starEach es env)).any (·.1) = false := by
  induction es with
  | nil => rfl
  | cons e es ih =>
    simp only [noStars, Bool.and_eq_true, Bool.not_eq_true'] at h
    rw [starEach_cons h.1]
    show (false || (backTo pos (starEach es env)).any (·.1)) = false
    rw [ih h.2]; rfl
def isSlice : Expr → Bool
  | .Slice _ _ _ _ => true
  | _ => false
theorem plainIx_of {e : Expr} (h : isSlice e = false) : PlainIx e := by
  intro o i
  cases e <;> first | rfl | cases h
def visB (sc : Scope) (x : Str) : Bool := match sc.names.lookup x with
  | some .local => true
  | some .cell => true
  | some .free => true
  | _ => false
def locB (sc : Scope) (x : Str) : Bool := match sc.names.lookup x with
  | some .local => true
  | some .cell => true
  | _ => false
def glB (sc : Scope) (x : Str) : Bool := decide (sc.names.lookup x = some .globalImplicit)
def plainX (x : Str) : Bool := !(x == ("__debug__" : Str)) && !(x == ("__classdict__" : Str)) && decide (x ≠ "__name__")
theorem visB_ok {sc : Scope} {x : Str} (h : visB sc x = true) : Vis sc x := by
  unfold visB at h
  split at h <;> first | exact .inl (by assumption) | exact .inr (.inl (by assumption)) | exact .inr (.inr (by assumption)) | cases h
theorem locB_ok {sc : Scope} {x : Str} (h : locB sc x = true) : Loc sc x := by
  unfold locB at h
  split at h <;> first | exact .inl (by assumption) | exact .inr (by assumption) | cases h
theorem plainX_ok {x : Str} (h : plainX x = true) : (x == ("__debug__" : Str)) = false ∧ (x == ("__classdict__" : Str)) = false ∧ x ≠ "__name__" := by
  simp only [plainX, Bool.and_eq_true, Bool.not_eq_true', decide_eq_true_eq] at h
  exact ⟨h.1.1, h.1.2, h.2⟩
def bopB : BOp → Operator → Bool
  | .add, .Add => true | .sub, .Sub => true | .mul, .Mult => true | .fdiv, .FloorDiv => true | .mod, .Mod => true | .pow, .Pow => true
  | _, _ => false
def copB : COp → CmpOp → Bool
  | .eq, .Eq => true | .ne, .NotEq => true | .lt, .Lt => true | .le, .LtE => true | .gt, .Gt => true | .ge, .GtE => true
  | .is, .Is => true | .isn, .IsNot => true | .inn, .In => true | .nin, .NotIn => true
  | _, _ => false
def cstB : D → Const → Bool
  | .non, .none => true
  | .bl b, .bool c => b == c
  | .int i, .int j => decide (i = j)
  | .str s, .str t => decide (s = t)
  | _, _ => false
def biN : BI → Str
  | .len => "len" | .abs => "abs" | .int => "int" | .gcd => "gcd" | .lcm => "lcm" | .max => "max" | .min => "min" | .repr => "repr" | .str => "str"
  | .divmod => "divmod" | .tuple => "tuple" | .list => "list" | .sum => "sum" | .all => "all" | .any => "any"
def tyN : Ty → Str
  | .int => "int" | .bool => "bool" | .tuple => "tuple"
def gkN : GK → Str
  | .tuple => "tuple" | .all => "all" | .any => "any" | .sum => "sum"
def nmB (sc : Scope) (N : List Str) (i : Nat) : Expr → Bool
  | .Name x _ => decide (N[i]? = some x) && locB sc x && plainX x
  | _ => false
def nmsB (sc : Scope) (N : List Str) : List Nat → List Expr → Bool
  | [], [] => true
  | i :: is, e :: es => nmB sc N i e && nmsB sc N is es
  | _, _ => false
def tgB (sc : Scope) (N : List Str) : ITg → Expr → Bool
  | .nm i, e => nmB sc N i e
  | .tp is, .Tuple es _ _ => nmsB sc N is es
  | _, _ => false
end Mi

set_option Elab.async false
set_option linter.all false
set_option maxRecDepth 100000
set_option maxHeartbeats 4000000
/-! Mi4: single steps of expressions. -/
namespace Mi
open PySem PySem.Spec PyProof.Rows L2

/-- how a def is kept: with nothing guarded, it ends in a value -/
structure FnG (P : Program) (w : World) (K : PySem.W.Frag) (mg : Str → Option Value) (base : Heap) (k : Nat) (f : Addr) (fd : FuncData) (ps : List Str) (sp : List V → Hp → VK → Prop) : Prop where
  len : ∀ vs H Q, sp vs H Q → vs.length = ps.length
  go : ∀ (A : Around) (around : List PySem.Env) (s : Shared) (H : Hp) (args : Args) (us : List Value) (vs : List V) (Q : VK), Room k A → A.guards = some [] → Env0 P w K mg base A around s H →
    BindsTo s fd args (ps.zip us) → Vals vs us → sp vs H Q → codeAny (model P w) A (.call (.ref f) args) (fun r s' => ∃ u, r = .ok (.ret u) ∧ CE around P w H s Q u s') s
/-- a def's promise: what callF gives -/
def spOf (T : Nat → Option Def) (F : Nat) (K : PySem.W.Frag) (cs : List (Addr × Addr)) (k : Nat) (f : Nat) : List V → Hp → VK → Prop := fun vs H Q =>
  ∃ m st ds d st', SC K cs m st H ∧ Reps K m (Lv m st) H ds vs ∧ callF T F k f ds st = some (d, st') ∧
    ∀ m' v H', Ext m st H m' st' H' → SC K cs m' st' H' → Rep K m' (Lv m' st') H' d v → Q v H'

structure Wld where
  T : Nat → Option Def
  F : Nat
  nm : Nat → Option Str
  gc : Str → D → Bool
  mt : Bool
  kw : Nat → List Str → Option (List Nat)
  cs : List (Addr × Addr)
/-- how a call by names alone binds -/
def KwB (K : PySem.W.Frag) (fd : FuncData) (ps names : List Str) (perm : List Nat) : Prop :=
  ∀ (s : Shared) (us zs : List Value), K.In s.heap → perm.mapM (fun i => us[i]?) = some zs → us.length = names.length → zs.length = ps.length → BindsTo s fd ⟨[], names.zip us⟩ (ps.zip zs)

/-- what the module gives to a body whose calls go k deep -/
structure Mdl (W : Wld) (k : Nat) (X : Cx) : Prop where
  free : ∀ x ∈ (["len", "abs", "int", "max", "min", "repr", "str", "divmod", "tuple", "list", "sum", "all", "any", "isinstance", "bool", "range", "zip", "enumerate"] : List Str), X.mg x = none
  gcd : W.mt = true → X.mg "gcd" = some (.builtin "math.gcd")
  lcm : W.mt = true → X.mg "lcm" = some (.builtin "math.lcm")
  fns : ∀ f x, W.nm f = some x → ∃ a fd ps, X.mg x = some (.ref a) ∧ PySem.W.keepIn X.K (.ref a) = true ∧
    FnG X.prog X.w X.K X.mg X.base k a fd ps (spOf W.T W.F X.K W.cs k f) ∧ Binds X.K fd ps [] ∧ ∀ names perm, W.kw f names = some perm → KwB X.K fd ps names perm
  gcs : ∀ x d, W.gc x d = true → ∃ u v, X.mg x = some u ∧ RelV v u ∧ ∀ m L H, Rep X.K m L H d v
/-- where a body's piece stands -/
structure Cxt (W : Wld) (k : Nat) (N : List Str) (sc : Scope) (X : Cx) : Prop where
  hsc : X.env.scope = sc
  hN : X.N = N
  nd : N.Nodup
  calm : X.calm = true
  room : Room k X.A
  grd : X.A.guards = some []
  mdl : Mdl W k X
/-- these names may be stored -/
def Sto (tl : Str → Bool) (X : Cx) : Prop := ∀ x, tl x = true → Loc X.env.scope x ∧ (X.fn x = true ∨ X.env.scope.names.lookup x = some .local)

section
variable {W : Wld} {k : Nat} {N : List Str} {sc : Scope} {X : Cx}
theorem Cxt.gl (C : Cxt W k N sc X) {x : Str} (h : glB sc x = true) : Gl X x := by
  unfold glB at h
  have h := of_decide_eq_true h
  show X.env.scope.names.lookup x = _
  rw [C.hsc]; exact h
theorem Cxt.units (C : Cxt W k N sc X) : X.A.units + 64 < cLine := by have := C.room.un; omega

/-- what is wanted behind a value -/
abbrev Aft (X : Cx) (cs : List (Addr × Addr)) (m : List Addr) (st : Store) (H : Hp) (d : D) (st' : Store) (Q : VK) : Prop :=
  ∀ m' v H', Ext m st H m' st' H' → SC X.K cs m' st' H' → Rep X.K m' (Lv m' st') H' d v → Q v H'
def EOk (X : Cx) (cs : List (Addr × Addr)) (e : Expr) (env : Env) (st : Store) (r : Option (D × Store)) : Prop :=
  ∀ d st', r = some (d, st') → ∀ m σ H Q, SC X.K cs m st H → EnvR X.K m st H env σ → Aft X cs m st H d st' Q → tE X e σ H Q
def AOk (X : Cx) (cs : List (Addr × Addr)) (es : List Expr) (env : Env) (st : Store) (r : Option (List D × Store)) : Prop :=
  ∀ ds st', r = some (ds, st') → ∀ m σ H (Q : List V → Hp → Prop), SC X.K cs m st H → EnvR X.K m st H env σ →
    (∀ m' vs H', Ext m st H m' st' H' → SC X.K cs m' st' H' → Reps X.K m' (Lv m' st') H' ds vs → Q vs H') → tA X es σ H Q
def OOk (X : Cx) (cs : List (Addr × Addr)) (e : Option Expr) (env : Env) (st : Store) (r : Option (Option D × Store)) : Prop :=
  ∀ d st' i, r = some (d, st') → optI d = some i → ∀ m σ H (Q : Option Int → Hp → Prop), SC X.K cs m st H → EnvR X.K m st H env σ →
    (∀ m' H', Ext m st H m' st' H' → SC X.K cs m' st' H' → Q i H') → tO X e σ H Q
def TOk (X : Cx) (cs : List (Addr × Addr)) (e : Expr) (env : Env) (st : Store) (r : Option (Bool × Store)) : Prop :=
  ∀ b st', r = some (b, st') → ∀ m σ H (Q : Bool → Hp → Prop), SC X.K cs m st H → EnvR X.K m st H env σ →
    (∀ m' H', Ext m st H m' st' H' → SC X.K cs m' st' H' → Q b H') → tT X e σ H Q
def WOk (X : Cx) (cs : List (Addr × Addr)) (e : Expr) (env : Env) (st : Store) (r : Option (Bool × Store)) : Prop :=
  ∀ b st', r = some (b, st') → ∀ m σ H (Q : Bool → Hp → Prop), SC X.K cs m st H → EnvR X.K m st H env σ →
    (∀ m' H', Ext m st H m' st' H' → SC X.K cs m' st' H' → Q b H') → tW X e σ H Q

theorem s_var (C : Cxt W k N sc X) {i : Nat} {x : Str} {p : Pos} {env st} (h1 : N[i]? = some x) (h2 : visB sc x = true) (h3 : plainX x = true) :
    EOk X W.cs (.Name x p) env st (match env[i]? with | some (some d) => some (d, st) | _ => none) := by
  intro d st' e m σ H Q hs hr hq
  split at e
  · rename_i d' he
    cases e
    obtain ⟨v, hv, rep⟩ := hr.get i d he
    obtain ⟨p1, p2, _⟩ := plainX_ok h3
    exact useE (pe_var (by rw [C.hN]; exact h1) (by rw [C.hsc]; exact visB_ok h2) p1 p2) ⟨v, hv, hq m v H Ext.refl hs rep⟩
  · cases e
theorem SC.setNone {K cs m st H} (s : SC K cs m st H) {n : Nat} : SC K cs m (st.set n none) H where
  len := by rw [List.length_set]; exact s.len
  cell := fun j xs h => by
    have hj : j ≠ n := fun e => by
      subst e
      by_cases hl : j < st.length
      · rw [List.getElem?_set_self hl] at h; cases h
      · rw [List.getElem?_eq_none (by simpa using hl)] at h; cases h
    rw [List.getElem?_set_ne (Ne.symm hj)] at h
    obtain ⟨a, ys, h1, h2, h3⟩ := s.cell j xs h
    refine ⟨a, ys, h1, h2, h3.ext s.cells ?_⟩
    exact ⟨fun _ _ z => z, fun _ _ z _ _ => z, fun _ ps z => ⟨#[], by simpa using z⟩, fun a ⟨i, zs, q1, q2⟩ => .inl ⟨i, zs, by
      by_cases hi : i = n
      · subst hi
        by_cases hl : i < st.length
        · rw [List.getElem?_set_self hl] at q1; cases q1
        · rw [List.getElem?_eq_none (by simpa using hl)] at q1; cases q1
      · rw [List.getElem?_set_ne (Ne.symm hi)] at q1; exact q1, q2⟩⟩
  inj := fun i j a xs ys h1 h2 h3 h4 => by
    have key : ∀ {i zs}, (st.set n none)[i]? = some (some zs) → st[i]? = some (some zs) := fun {i zs} q => by
      by_cases hi : i = n
      · subst hi
        by_cases hl : i < st.length
        · rw [List.getElem?_set_self hl] at q; cases q
        · rw [List.getElem?_eq_none (by simpa using hl)] at q; cases q
      · rw [List.getElem?_set_ne (Ne.symm hi)] at q; exact q
    exact s.inj i j a _ _ (key h1) (key h2) h3 h4
  tab := s.tab
theorem lv_setNone {m : List Addr} {st : Store} {n : Nat} {a : Addr} (h : Lv m (st.set n none) a) : Lv m st a ∧ ∃ i zs, i ≠ n ∧ st[i]? = some (some zs) ∧ m[i]? = some a := by
  obtain ⟨i, zs, q1, q2⟩ := h
  have hi : i ≠ n := fun e => by
    subst e
    by_cases hl : i < st.length
    · rw [List.getElem?_set_self hl] at q1; cases q1
    · rw [List.getElem?_eq_none (by simpa using hl)] at q1; cases q1
  rw [List.getElem?_set_ne (Ne.symm hi)] at q1
  exact ⟨⟨i, zs, q1, q2⟩, i, zs, hi, q1, q2⟩
theorem ext_setNone {m : List Addr} {st : Store} {H : Hp} {n : Nat} : Ext m st H m (st.set n none) H :=
  ⟨fun _ _ z => z, fun _ _ z _ _ => z, fun _ ps z => ⟨#[], by simpa using z⟩, fun _ l => .inl (lv_setNone l).1⟩
theorem s_frz (C : Cxt W k N sc X) {i : Nat} {x : Str} {p : Pos} {env st} (h1 : N[i]? = some x) (h2 : visB sc x = true) (h3 : plainX x = true) :
    EOk X W.cs (.Name x p) env st (match env[i]? with
    | some (some (.cell n)) => (match st[n]? with
      | some (some xs) => some (.lst xs, st.set n none)
      | _ => none)
    | _ => none) := by
  intro d st' e m σ H Q hs hr hq
  split at e
  · rename_i n he
    split at e
    · rename_i xs hst
      cases e
      obtain ⟨v, hv, rep⟩ := hr.get i _ he
      obtain ⟨p1, p2, _⟩ := plainX_ok h3
      simp only [Rep] at rep
      obtain ⟨a, rfl, ha⟩ := rep
      obtain ⟨a', ys, q1, q2, q3⟩ := hs.cell n xs hst
      rw [ha] at q1; cases q1
      refine useE (pe_var (by rw [C.hN]; exact h1) (by rw [C.hsc]; exact visB_ok h2) p1 p2) ⟨.ref a, hv, hq m _ H ext_setNone hs.setNone ?_⟩
      simp only [Rep]
      refine ⟨a, ys, rfl, q2, fun l => ?_, q3.ext hs.cells ext_setNone⟩
      obtain ⟨_, j, zs, hj, z1, z2⟩ := lv_setNone l
      exact hj (hs.inj j n a _ _ z1 hst z2 ha)
    · cases e
  · cases e
theorem s_cst {d0 : D} {c : Const} {j p env st} (h : cstB d0 c = true) : EOk X W.cs (.Constant c j p) env st (some (d0, st)) := by
  intro d st' e m σ H Q hs hr hq
  cases e
  cases d0 <;> cases c <;> try (cases h)
  · exact useE pe_non (hq m _ H Ext.refl hs (by simp only [Rep]))
  · rename_i b b'
    have e : b = b' := by simpa [cstB] using h
    subst e
    exact useE pe_bl (hq m _ H Ext.refl hs (by simp only [Rep]))
  · rename_i i i'
    have e : i = i' := by simpa [cstB] using h
    subst e
    exact useE pe_int (hq m _ H Ext.refl hs (by simp only [Rep]))
  · rename_i z z'
    have e : z = z' := by simpa [cstB] using h
    subst e
    exact useE pe_str (hq m _ H Ext.refl hs (by simp only [Rep]))
/-- {} -/
theorem s_dic0 {p env st} : EOk X W.cs (.Dict [] [] p) env st (some (.dct [] [], st)) := by
  intro d st' e m σ H Q hs hr hq
  cases e
  refine useE pe_dnewK (fun q hp => hq m _ _ (ext_new hp) (hs.new hp) ?_)
  simp only [Rep]
  exact ⟨q, [], rfl, .inl upd_same, rfl, Reps.nil⟩
/-- {k: i} of a text and a whole number -/
theorem s_dic1 {z : Str} {i : Int} {jk jv pk pv p env st} : EOk X W.cs (.Dict [some (.Constant (.str z) jk pk)] [.Constant (.int i) jv pv] p) env st (some (.dct [.inr z] [.int i], st)) := by
  intro d st' e m σ H Q hs hr hq
  cases e
  refine useE (pe_disp (pps_cons pe_str pe_int pps_nil) rfl rfl (by simp) (by simp)) (fun q hp => ?_)
  refine ⟨upd_same, [(.inr z, .int i)], rfl, by simp, ?_⟩
  have e : upd (upd H q (.dK [])) q (.dK (mergeK [] [((.inr z : Key), V.int i)])) = upd H q (.dK [((.inr z : Key), V.int i)]) := by
    funext b
    by_cases h : b = q
    · subst h; rw [upd_same, upd_same]; rfl
    · rw [upd_ne h, upd_ne h, upd_ne h]
  rw [e]
  refine hq m _ _ (ext_new hp) (hs.new hp) ?_
  simp only [Rep, Reps]
  exact ⟨q, [.int i], rfl, .inl upd_same, rfl, .int i, [], rfl, rfl, rfl⟩
theorem s_gcn (C : Cxt W k N sc X) {d0 : D} {x : Str} {p env st} (h1 : glB sc x = true) (h2 : plainX x = true) (h3 : W.gc x d0 = true) : EOk X W.cs (.Name x p) env st (some (d0, st)) := by
  intro d st' e m σ H Q hs hr hq
  cases e
  obtain ⟨u, v, g1, g2, g3⟩ := C.mdl.gcs x d0 h3
  exact useE (pe_glob (C.gl h1) g1 g2 (plainX_ok h2).1) (hq m v H Ext.refl hs (g3 _ _ _))
theorem s_anil {env st} : AOk X W.cs [] env st (some ([], st)) := by
  intro ds st' e m σ H Q hs hr hq
  cases e
  exact useA pa_nil (hq m _ H Ext.refl hs Reps.nil)
theorem s_acons {e : Expr} {es : List Expr} {env st} {r1 : Option (D × Store)} {r2 : Store → Option (List D × Store)} (hst : isStar e = false) (he : EOk X W.cs e env st r1) (hes : ∀ st1, AOk X W.cs es env st1 (r2 st1)) :
    AOk X W.cs (e :: es) env st (match (generalizing := false) r1 with
    | some (x, st1) => (match r2 st1 with
      | some (xs, st2) => some (x :: xs, st2)
      | none => none)
    | none => none) := by
  intro ds st' e0 m σ H Q hs hr hq
  cases r1 with
  | none => cases e0
  | some p1 =>
    obtain ⟨x, st1⟩ := p1
    cases h2 : r2 st1 with
    | none => simp only [h2] at e0; cases e0
    | some p2 =>
      obtain ⟨xs, st2⟩ := p2
      simp only [h2] at e0
      cases e0
      refine useA (pa_cons peE paA (starEach_cons hst)) ?_
      refine he x st1 rfl m σ H _ hs hr fun m1 v1 H1 x1 s1 p1 => ?_
      refine hes st1 xs _ h2 m1 σ H1 _ s1 (hr.ext hs.cells x1) fun m2 vs H2 x2 s2 p2 => ?_
      exact hq m2 _ H2 (x1.trans x2) s2 (Reps.cons (p1.ext s1.cells x2) p2)
theorem s_tup {es : List Expr} {kk p env st} {r : Option (List D × Store)} (ha : AOk X W.cs es env st r) : EOk X W.cs (.Tuple es kk p) env st (match (generalizing := false) r with
    | some (xs, st1) => if xs.length ≤ sizeLine then some (.tup xs, st1) else none
    | none => none) := by
  intro d st' e m σ H Q hs hr hq
  cases r with
  | none => cases e
  | some p =>
    obtain ⟨xs, st1⟩ := p
    simp only at e
    split at e
    · rename_i hz
      cases e
      refine useE (pe_tup paA) (ha xs _ rfl m σ H _ hs hr fun m1 vs H1 x1 s1 p1 => ⟨by rw [← p1.length]; exact hz, fun p hp => ?_⟩)
      exact hq m1 _ _ (x1.trans (ext_new hp)) (s1.new hp) (rep_tup s1 hp p1)
    · cases e
theorem s_lst {es : List Expr} {p env st} {r : Option (List D × Store)} (ha : AOk X W.cs es env st r) : EOk X W.cs (.List es p) env st (match (generalizing := false) r with
    | some (xs, st1) => if xs.length ≤ sizeLine then some (.lst xs, st1) else none
    | none => none) := by
  intro d st' e m σ H Q hs hr hq
  cases r with
  | none => cases e
  | some p =>
    obtain ⟨xs, st1⟩ := p
    simp only at e
    split at e
    · rename_i hz
      cases e
      refine useE (pe_lst paA) (ha xs _ rfl m σ H _ hs hr fun m1 vs H1 x1 s1 p1 => ⟨by rw [← p1.length]; exact hz, fun p hp => ?_⟩)
      exact hq m1 _ _ (x1.trans (ext_new hp)) (s1.new hp) (rep_lst s1 hp p1)
    · cases e
theorem s_ncl {es : List Expr} {p env st} {r : Option (List D × Store)} (ha : AOk X W.cs es env st r) : EOk X W.cs (.List es p) env st (match (generalizing := false) r with
    | some (xs, st1) => if xs.length ≤ sizeLine then some (.cell st1.length, st1 ++ [some xs]) else none
    | none => none) := by
  intro d st' e m σ H Q hs hr hq
  cases r with
  | none => cases e
  | some p =>
    obtain ⟨xs, st1⟩ := p
    simp only at e
    split at e
    · rename_i hz
      cases e
      refine useE (pe_lst paA) (ha xs _ rfl m σ H _ hs hr fun m1 vs H1 x1 s1 p1 => ⟨by rw [← p1.length]; exact hz, fun p hp => ?_⟩)
      refine hq (m1 ++ [p]) _ _ (x1.trans (ext_cell s1.len hp)) (s1.push hp p1) ?_
      simp only [Rep]
      exact ⟨p, rfl, by rw [← s1.len]; simp⟩
    · cases e

/-! ### operators -/
/-- two in a row, then a step by values -/
theorem s_two {e : Expr} {a b : Expr} {env st} {ra : Option (D × Store)} {rb : Store → Option (D × Store)} {f : D → D → Store → Option D} {r : R2}
    (hp : ∀ {ta tb}, PE X a ta → PE X b tb → PE X e (tOp r ta tb)) (ha : EOk X W.cs a env st ra) (hb : ∀ st1, EOk X W.cs b env st1 (rb st1))
    (hf : ∀ x y st z m H v u Q, f x y st = some z → SC X.K W.cs m st H → Rep X.K m (Lv m st) H x v → Rep X.K m (Lv m st) H y u → Aft X W.cs m st H z st Q → r v u H Q) :
    EOk X W.cs e env st (match (generalizing := false) ra with
    | some (x, st1) => (match rb st1 with
      | some (y, st2) => (match f x y st2 with
        | some z => some (z, st2)
        | none => none)
      | none => none)
    | none => none) := by
  intro d st' e0 m σ H Q hs hr hq
  cases ra with
  | none => cases e0
  | some p1 =>
    obtain ⟨x, st1⟩ := p1
    cases h2 : rb st1 with
    | none => simp only [h2] at e0; cases e0
    | some p2 =>
      obtain ⟨y, st2⟩ := p2
      cases h3 : f x y st2 with
      | none => simp only [h2, h3] at e0; cases e0
      | some z =>
        simp only [h2, h3] at e0
        cases e0
        refine useE (hp peE peE) ?_
        refine ha x st1 rfl m σ H _ hs hr fun m1 v1 H1 x1 s1 p1 => ?_
        refine hb st1 y _ h2 m1 σ H1 _ s1 (hr.ext hs.cells x1) fun m2 v2 H2 x2 s2 p2 => ?_
        exact hf x y _ _ m2 H2 v1 v2 Q h3 s2 (p1.ext s1.cells x2) p2 fun m3 v3 H3 x3 s3 p3 => hq m3 v3 H3 ((x1.trans x2).trans x3) s3 p3
theorem bop_int {o : BOp} {i j : Int} {z : D} (h : bop o (.int i) (.int j) = some z) : ∃ n, z = .int n := by
  cases o <;> simp only [bop] at h
  · cases h; exact ⟨_, rfl⟩
  · cases h; exact ⟨_, rfl⟩
  all_goals (split at h <;> first | (cases h; exact ⟨_, rfl⟩) | cases h)
/-- what a step over data asks of values -/
def rBop (X : Cx) (cs : List (Addr × Addr)) (o : BOp) : R2 := fun v u H Q => ∃ x y z m st, bop o x y = some z ∧ SC X.K cs m st H ∧ Rep X.K m (Lv m st) H x v ∧ Rep X.K m (Lv m st) H y u ∧ Aft X cs m st H z st Q
def bopO : BOp → Operator
  | .add => .Add | .sub => .Sub | .mul => .Mult | .fdiv => .FloorDiv | .mod => .Mod | .pow => .Pow
def CMulM (i j : Int) : Prop := i.natAbs.log2 + j.natAbs.log2 < 100000000
theorem CMulM.ok {i j : Int} (h : CMulM i j) : IntMulOk i j := by
  have b : ∀ x : Int, Builtin.Int.intBits x ≤ x.natAbs.log2 + 1 := fun x => by
    unfold Builtin.Int.intBits
    split <;> omega
  have h1 := b i
  have h2 := b j
  have h3 : i.natAbs.log2 + j.natAbs.log2 < 100000000 := h
  have e : bitsLine = 134217728 := by decide
  unfold IntMulOk
  intro z
  rw [Bool.and_eq_true] at z
  have z2 := z.2
  unfold Builtin.Int.intTooBig at z2
  have z3 := of_decide_eq_true z2
  rw [e] at z3
  omega
/-- () + b is b -/
theorem op_catT0 : OpR X (binaryOp .Add) (fun x y H Q => ∃ a b ys, x = .ref a ∧ y = .ref b ∧ SqT X.K H a [] ∧ SqT X.K H b ys ∧ Q (.ref b) H) := by
  intro pins s σ H x y v u Q I rx ry h
  obtain ⟨a, b, ys, rfl, rfl, ha, hb, q⟩ := h
  cases rx
  cases ry
  obtain ⟨its, r1, p1, _⟩ := I.tuple ha
  obtain ⟨its2, r2, p2, _⟩ := I.tuple hb
  have e : its = [] := r1.nil_iff.mpr rfl
  subst e
  obtain ⟨⟨cls, dd, data, sl⟩, ho, hc, n, hd⟩ := id p1
  obtain ⟨⟨cls2, dd2, data2, sl2⟩, ho2, hc2, n2, hd2⟩ := id p2
  simp only at hc hd hc2 hd2
  subst hc hd hc2 hd2
  exact concat_meets ⟨_, ho, rfl⟩ ⟨_, ho2, rfl⟩ noFill_tuple_add seq_tuple_add PySem.F.slot_tuple_add PySem.F.entry_tuple_add (PySem.F.args_tuple_add_2 _ _)
    (tuple_addW0 a b _ its2.toArray n n2 dd dd2 sl sl2 (by simp)) ⟨ho, ho2, ⟨.ref b, H, I, rfl, q⟩⟩
theorem op_bop (o : BOp) : OpR X (binaryOp (bopO o)) (rBop X W.cs o) := by
  intro pins s σ H v u v' u' Q I rv ru h
  obtain ⟨x, y, z, m, st, hz, hs, rx, ry, hq⟩ := h
  have fin : ∀ {n : Int} {tk : Nat}, z = .int n → EP X pins σ Q (.int n s.toks) { s with toks := tk } := fun {n tk} e => by
    subst e
    exact ⟨.int n, H, I.tok _, ⟨_, rfl⟩, hq m _ H Ext.refl hs (by simp only [Rep])⟩
  cases x <;> cases y <;> (try (cases o <;> cases hz)) <;> simp only [Rep] at rx ry
  · -- ints
    rename_i i j
    subst rx; subst ry
    obtain ⟨t, rfl⟩ := rv
    obtain ⟨t', rfl⟩ := ru
    cases o <;> simp only [bop] at hz
    · cases hz; exact add_int (fin rfl)
    · cases hz; exact sub_int (fin rfl)
    · split at hz
      · rename_i hc
        cases hz
        exact mul_int (fin rfl) (CMulM.ok (by unfold CMulM; simpa using hc))
      · cases hz
    · split at hz
      · rename_i hc
        cases hz
        exact floordiv_int hc.1 (fin rfl) (.inl (PyProof.noPylong_of_log2 hc.2))
      · cases hz
    · split at hz
      · rename_i hc
        cases hz
        exact mod_int' hc (fin rfl)
      · cases hz
    · split at hz
      · rename_i hc
        cases hz
        exact pow_int_small hc.1 hc.2.1 hc.2.2 (fin rfl)
      · cases hz
  · -- tuples
    rename_i xs ys
    cases o <;> simp only [bop] at hz <;> try (cases hz)
    obtain ⟨a, vs, e1, h1, r1⟩ := rx
    obtain ⟨b, us, e2, h2, r2⟩ := ry
    split at hz
    · rename_i he
      cases hz
      have he' : xs = [] := by simpa using he
      subst he'
      simp only [Reps] at r1
      subst e1; subst e2; subst r1
      exact op_catT0 pins s σ H (.ref a) (.ref b) _ _ Q I rv ru ⟨a, b, us, rfl, rfl, h1, h2, hq m _ H Ext.refl hs (by simp only [Rep]; exact ⟨b, us, rfl, h2, r2⟩)⟩
    · rename_i hne
      split at hz
      · rename_i hz'
        cases hz
        subst e1; subst e2
        have hv : vs ≠ [] := fun e => by
          subst e
          have := r1.length
          simp at this
          subst this
          simp at hne
        refine op_catT pins s σ H (.ref a) (.ref b) _ _ Q I rv ru ⟨a, b, vs, us, rfl, rfl, h1, h2, hv, by rw [← r1.length, ← r2.length]; exact hz', fun e => ?_, fun hne p hp => ?_⟩
        · subst e
          have := r2.length
          simp at this
          subst this
          refine hq m _ H Ext.refl hs ?_
          simp only [Rep]
          exact ⟨a, vs, rfl, h1, by simpa using r1⟩
        · exact hq m _ _ (ext_new hp) (hs.new hp) (rep_tup hs hp (r1.append r2))
      · cases hz
  · -- lists
    rename_i xs j
    cases o <;> simp only [bop] at hz <;> try (cases hz)
    obtain ⟨a, vs, e1, h1, nl, r1⟩ := rx
    subst e1; subst ry
    split at hz
    · rename_i hc
      cases hz
      refine op_rep pins s σ H (.ref a) (.int j) _ _ Q I rv ru ⟨a, j, vs, rfl, rfl, h1, by omega, by omega, by rw [← r1.length]; exact hc.2.2, fun p hp => ?_⟩
      refine hq m _ _ (ext_new hp) (hs.new hp) (rep_lst hs hp ?_)
      generalize j.toNat = n
      induction n with
      | zero => simp [Reps]
      | succ n ih => rw [List.replicate_succ, List.replicate_succ, List.flatten_cons, List.flatten_cons]; exact r1.append ih
    · cases hz
  · rename_i xs ys
    cases o <;> simp only [bop] at hz <;> try (cases hz)
    obtain ⟨a, vs, e1, h1, nl, r1⟩ := rx
    obtain ⟨b, us, e2, h2, nl2, r2⟩ := ry
    split at hz
    · rename_i hz'
      cases hz
      subst e1; subst e2
      exact op_cat pins s σ H (.ref a) (.ref b) _ _ Q I rv ru ⟨a, b, vs, us, rfl, rfl, h1, h2, by rw [← r1.length, ← r2.length]; exact hz', fun p hp => hq m _ _ (ext_new hp) (hs.new hp) (rep_lst hs hp (r1.append r2))⟩
    · cases hz
theorem s_bin {o : BOp} {op : Operator} {a b : Expr} {p env st} {ra : Option (D × Store)} {rb : Store → Option (D × Store)} (h : bopB o op = true) (ha : EOk X W.cs a env st ra) (hb : ∀ st1, EOk X W.cs b env st1 (rb st1)) :
    EOk X W.cs (.BinOp a op b p) env st (match (generalizing := false) ra with
    | some (x, st1) => (match rb st1 with
      | some (y, st2) => (match bop o x y with
        | some z => some (z, st2)
        | none => none)
      | none => none)
    | none => none) := by
  have e : op = bopO o := by cases o <;> cases op <;> first | rfl | cases h
  subst e
  exact s_two (W := W) (f := fun x y _ => bop o x y) (r := rBop X W.cs o) (fun h1 h2 => pe_op (op_bop o) h1 h2) ha hb fun x y st z m H v u Q hz hs rx ry hq => ⟨x, y, z, m, st, hz, hs, rx, ry, hq⟩
end
end Mi

set_option Elab.async false
set_option linter.all false
set_option maxRecDepth 100000
set_option maxHeartbeats 4000000
/-! Mi5: further steps of expressions. -/
namespace Mi
open PySem PySem.Spec PyProof.Rows L2

section
variable {W : Wld} {k : Nat} {N : List Str} {sc : Scope} {X : Cx}

theorem s_neg {a : Expr} {p env st} {r : Option (D × Store)} (ha : EOk X W.cs a env st r) : EOk X W.cs (.UnaryOp .USub a p) env st (match (generalizing := false) r with
    | some (.int i, st1) => some (.int (-i), st1)
    | _ => none) := by
  intro d st' e m σ H Q hs hr hq
  cases r with
  | none => cases e
  | some p0 =>
    obtain ⟨x, st1⟩ := p0
    cases x <;> simp only at e <;> cases e
    refine useE (pe_un un_neg peE) (ha _ _ rfl m σ H _ hs hr fun m1 v1 H1 x1 s1 p1 => ?_)
    simp only [Rep] at p1
    subst p1
    exact ⟨_, rfl, hq m1 _ H1 x1 s1 (by simp only [Rep])⟩

/-! ### data for == and the like -/
mutual
theorem dp_of {K m L H} : ∀ {d : D} {v : V}, flat0 d = true → Rep K m L H d v → Dp K H v (pd d)
  | .non, v, _, h => by simp only [Rep] at h; subst h; exact .non
  | .bl b, v, _, h => by simp only [Rep] at h; subst h; exact .bl b
  | .int i, v, _, h => by simp only [Rep] at h; subst h; exact .int i
  | .str s, v, _, h => by simp only [Rep] at h; subst h; exact .str s
  | .tup xs, v, f, h => by
    simp only [Rep] at h
    simp only [flat0] at f
    obtain ⟨a, ys, rfl, h1, h2⟩ := h
    simp only [pd]
    exact .tup h1 (dps_of f h2)
  | .lst xs, v, f, h => by
    simp only [Rep] at h
    simp only [flat0] at f
    obtain ⟨a, ys, rfl, h1, _, h2⟩ := h
    simp only [pd]
    exact .lst (.inl (.inl h1)) (dps_of f h2)
  | .scr _, _, f, _ => by simp [flat0] at f
  | .cell _, _, f, _ => by simp [flat0] at f
  | .dct _ _, _, f, _ => by simp [flat0] at f
theorem dps_of {K m L H} : ∀ {ds : List D} {vs : List V}, flat0s ds = true → Reps K m L H ds vs → DpAll K H vs (pds ds)
  | [], vs, _, h => by simp only [Reps] at h; subst h; simp only [pds]; exact .nil
  | d :: ds, vs, f, h => by
    simp only [Reps] at h
    simp only [flat0s, Bool.and_eq_true] at f
    obtain ⟨y, r, rfl, h1, h2⟩ := h
    simp only [pds]
    exact .cons (dp_of f.1 h1) (dps_of f.2 h2)
end
theorem toV_rep {K m L H} {d : D} {v : V} (f : flatD d = true) (r : Rep K m L H d v) : v = toV d ∧ flatV v = true := by
  cases d <;> simp only [flatD, Bool.false_eq_true] at f <;> simp only [Rep] at r <;> subst r <;> exact ⟨rfl, rfl⟩
theorem toV_reps {K m L H} : ∀ {ds : List D} {vs : List V}, ds.all flatD = true → Reps K m L H ds vs → vs = ds.map toV ∧ vs.all flatV = true
  | [], vs, _, h => by simp only [Reps] at h; subst h; exact ⟨rfl, rfl⟩
  | d :: ds, vs, f, h => by
    simp only [Reps] at h
    simp only [List.all_cons, Bool.and_eq_true] at f
    obtain ⟨y, r, rfl, h1, h2⟩ := h
    obtain ⟨e1, e2⟩ := toV_rep f.1 h1
    obtain ⟨e3, e4⟩ := toV_reps f.2 h2
    exact ⟨by rw [List.map_cons, ← e1, ← e3], by simp [e2, e4]⟩
def copO : COp → CmpOp
  | .eq => .Eq | .ne => .NotEq | .lt => .Lt | .le => .LtE | .gt => .Gt | .ge => .GtE | .is => .Is | .isn => .IsNot | .inn => .In | .nin => .NotIn
def rCop (X : Cx) (cs : List (Addr × Addr)) (o : COp) : R2 := fun v u H Q => ∃ x y z m st, cop o x y = some z ∧ SC X.K cs m st H ∧ Rep X.K m (Lv m st) H x v ∧ Rep X.K m (Lv m st) H y u ∧ Aft X cs m st H (.bl z) st Q
theorem flat0_non {K m L H} {d : D} {v : V} (f : flat0 d = true) (r : Rep K m L H d v) : decide (v = .non) = isNonD d := by
  cases d <;> simp only [flat0, Bool.false_eq_true] at f <;> simp only [Rep] at r
  · subst r; rfl
  · subst r; rfl
  · subst r; rfl
  · subst r; rfl
  · obtain ⟨a, ys, rfl, _⟩ := r; rfl
  · obtain ⟨a, ys, rfl, _⟩ := r; rfl
/-- x == () for a tuple x -/
theorem op_eqT0 (hu : X.A.units + 64 < cLine) : OpR X (compareOp .Eq) (fun x y H Q => ∃ a b ys, x = .ref a ∧ y = .ref b ∧ SqT X.K H a ys ∧ SqT X.K H b [] ∧ Q (.bl ys.isEmpty) H) := by
  intro pins s σ H x y v u Q I rx ry h
  obtain ⟨a, b, ys, rfl, rfl, ha, hb, q⟩ := h
  cases rx
  cases ry
  obtain ⟨its, r1, p1, _⟩ := I.tuple ha
  obtain ⟨its2, r2, p2, _⟩ := I.tuple hb
  have e : its2 = [] := r2.nil_iff.mpr rfl
  subst e
  refine SeqAt.eq_tupleAt (e := fun _ => true) p1 p2 (by omega) (fun j h1 h2 => absurd h2 (by simp)) ?_
  have hl := r1.length
  have e2 : ((List.range (min its.toArray.size (#[] : Array Value).size)).all (fun _ => true) && its.toArray.size == (#[] : Array Value).size) = ys.isEmpty := by
    cases ys <;> cases its <;> simp_all
  refine ⟨.bl ys.isEmpty, H, I, ?_, q⟩
  show Value.bool _ = Value.bool _
  rw [e2]
theorem op_cop (C : Cxt W k N sc X) (o : COp) : OpR X (compareOp (copO o)) (rCop X W.cs o) := by
  intro pins s σ H v u v' u' Q I rv ru h
  obtain ⟨x, y, z, m, st, hz, hs, rx, ry, hq⟩ := h
  have fin : Q (.bl z) H := hq m _ H Ext.refl hs (by simp only [Rep])
  have eqs : ∀ {b : Bool}, dEq x y = some b → ∃ d e, Dp X.K H v d ∧ Dp X.K H u e ∧ SeqAt.shaped d = true ∧ SeqAt.shaped e = true ∧ PyData.eqv d e = b := fun {b} h => by
    unfold dEq at h
    split at h
    · rename_i hc
      simp only [Bool.and_eq_true] at hc
      cases h
      exact ⟨_, _, dp_of hc.1.1.1 rx, dp_of hc.1.1.2 ry, hc.1.2, hc.2, rfl⟩
    · cases h
  have ins : ∀ {xs : List D} {p : Addr} {ys : List V} {b : Bool}, dIn x xs = some b → (SqL X.K H p ys ∨ SqT X.K H p ys) → Reps X.K m (Lv m st) H xs ys → (SqL X.K H p ys ∨ SqT X.K H p ys) ∧ flatV v = true ∧ ys.all flatV = true ∧ inV v ys = b := fun {xs p ys b} h hp hrs => by
    unfold dIn at h
    split at h
    · rename_i hc
      simp only [Bool.and_eq_true] at hc
      cases h
      obtain ⟨e1, e2⟩ := toV_rep hc.1 rx
      obtain ⟨e3, e4⟩ := toV_reps hc.2 hrs
      exact ⟨hp, e2, e4, by rw [e1, e3]⟩
    · cases h
  cases o
  · simp only [cop] at hz
    split at hz
    · rename_i b hb
      cases hz
      obtain ⟨d, e, h1, h2, h3, h4, h5⟩ := eqs hb
      exact op_eqD C.units pins s σ H v u v' u' Q I rv ru ⟨d, e, h1, h2, h3, h4, by rw [h5]; exact fin⟩
    · unfold eqE at hz
      split at hz
      · rename_i xs _
        cases hz
        simp only [Rep] at rx ry
        obtain ⟨a, ys, e1, h1, r1⟩ := rx
        obtain ⟨b, zs, e2, h2, r2⟩ := ry
        simp only [Reps] at r2
        subst e1; subst e2; subst r2
        refine op_eqT0 C.units pins s σ H (.ref a) (.ref b) _ _ Q I rv ru ⟨a, b, ys, rfl, rfl, h1, h2, ?_⟩
        have e : ys.isEmpty = xs.isEmpty := by
          have := r1.length
          cases xs <;> cases ys <;> simp_all
        rw [e]
        exact fin
      · cases hz
  · simp only [cop, Option.map_eq_some_iff] at hz
    obtain ⟨b, hb, rfl⟩ := hz
    obtain ⟨d, e, h1, h2, h3, h4, h5⟩ := eqs hb
    exact op_neD C.units pins s σ H v u v' u' Q I rv ru ⟨d, e, h1, h2, h3, h4, by rw [h5]; exact fin⟩
  case is =>
    cases y <;> simp only [cop] at hz <;> try (cases hz)
    split at hz
    · rename_i hf
      cases hz
      simp only [Rep] at ry
      subst ry
      exact op_isN pins s σ H v _ v' u' Q I rv ru ⟨rfl, by rw [flat0_non hf rx]; exact fin⟩
    · cases hz
  case isn =>
    cases y <;> simp only [cop] at hz <;> try (cases hz)
    split at hz
    · rename_i hf
      cases hz
      simp only [Rep] at ry
      subst ry
      exact op_notN pins s σ H v _ v' u' Q I rv ru ⟨rfl, by rw [flat0_non hf rx]; exact fin⟩
    · cases hz
  case inn =>
    cases y <;> simp only [cop] at hz <;> (try (cases hz; done)) <;> simp only [Rep] at ry
    · obtain ⟨p, ys, rfl, h1, h2⟩ := ry
      obtain ⟨g1, g2, g3, g4⟩ := ins hz (.inr h1) h2
      exact op_in_seq pins s σ H v _ v' u' Q I rv ru ⟨p, ys, rfl, g1, g2, g3, by rw [if_neg (by decide), g4]; exact fin⟩
    · obtain ⟨p, ys, rfl, h1, _, h2⟩ := ry
      obtain ⟨g1, g2, g3, g4⟩ := ins hz (.inl (.inl (.inl h1))) h2
      exact op_in_seq pins s σ H v _ v' u' Q I rv ru ⟨p, ys, rfl, g1, g2, g3, by rw [if_neg (by decide), g4]; exact fin⟩
  case nin =>
    cases y <;> simp only [cop] at hz <;> (try (cases hz; done)) <;> simp only [Rep] at ry <;> simp only [Option.map_eq_some_iff] at hz <;> obtain ⟨b, hb, rfl⟩ := hz
    · obtain ⟨p, ys, rfl, h1, h2⟩ := ry
      obtain ⟨g1, g2, g3, g4⟩ := ins hb (.inr h1) h2
      exact op_notIn_seq pins s σ H v _ v' u' Q I rv ru ⟨p, ys, rfl, g1, g2, g3, by rw [if_pos rfl, g4]; exact fin⟩
    · obtain ⟨p, ys, rfl, h1, _, h2⟩ := ry
      obtain ⟨g1, g2, g3, g4⟩ := ins hb (.inl (.inl (.inl h1))) h2
      exact op_notIn_seq pins s σ H v _ v' u' Q I rv ru ⟨p, ys, rfl, g1, g2, g3, by rw [if_pos rfl, g4]; exact fin⟩
  all_goals (cases x <;> cases y <;> simp only [cop] at hz <;> cases hz)
  all_goals (simp only [Rep] at rx ry; subst rx; subst ry)
  · exact op_lt pins s σ H _ _ v' u' Q I rv ru ⟨_, _, rfl, rfl, fin⟩
  · exact op_le pins s σ H _ _ v' u' Q I rv ru ⟨_, _, rfl, rfl, fin⟩
  · exact op_gt pins s σ H _ _ v' u' Q I rv ru ⟨_, _, rfl, rfl, fin⟩
  · exact op_ge pins s σ H _ _ v' u' Q I rv ru ⟨_, _, rfl, rfl, fin⟩
theorem s_cmp (C : Cxt W k N sc X) {o : COp} {op : CmpOp} {a b : Expr} {p env st} {ra : Option (D × Store)} {rb : Store → Option (D × Store)} (h : copB o op = true) (hm : behindInMarks op b = false) (ha : EOk X W.cs a env st ra) (hb : ∀ st1, EOk X W.cs b env st1 (rb st1)) :
    EOk X W.cs (.Compare a [op] [b] p) env st (match (generalizing := false) ra with
    | some (x, st1) => (match rb st1 with
      | some (y, st2) => (match cop o x y with
        | some z => some (.bl z, st2)
        | none => none)
      | none => none)
    | none => none) := by
  have e : op = copO o := by cases o <;> cases op <;> first | rfl | cases h
  subst e
  have z := s_two (W := W) (env := env) (st := st) (f := fun x y _ => (cop o x y).map .bl) (r := rCop X W.cs o) (e := .Compare a [copO o] [b] p) (fun h1 h2 => pe_cmpR (op_cop C o) h1 h2 hm) ha hb (fun x y st z m H v u Q hz hs rx ry hq => by
    simp only [Option.map_eq_some_iff] at hz
    obtain ⟨b', hb', rfl⟩ := hz
    exact ⟨x, y, b', m, st, hb', hs, rx, ry, hq⟩)
  intro d st' e
  refine z d st' ?_
  rw [← e]
  cases ra with
  | none => rfl
  | some p1 =>
    obtain ⟨x, st1⟩ := p1
    simp only
    cases rb st1 with
    | none => rfl
    | some p2 =>
      obtain ⟨y, st2⟩ := p2
      simp only
      cases cop o x y <;> rfl
/-! ### tests -/
theorem t_cmp (C : Cxt W k N sc X) {o : COp} {op : CmpOp} {a b : Expr} {p env st} {ra : Option (D × Store)} {rb : Store → Option (D × Store)} (h : copB o op = true) (hm : behindInMarks op b = false) (ha : EOk X W.cs a env st ra) (hb : ∀ st1, EOk X W.cs b env st1 (rb st1)) :
    TOk X W.cs (.Compare a [op] [b] p) env st (match (generalizing := false) ra with
    | some (x, st1) => (match rb st1 with
      | some (y, st2) => (match cop o x y with
        | some z => some (z, st2)
        | none => none)
      | none => none)
    | none => none) := by
  have e : op = copO o := by cases o <;> cases op <;> first | rfl | cases h
  subst e
  intro d st' e0 m σ H Q hs hr hq
  cases ra with
  | none => cases e0
  | some p1 =>
    obtain ⟨x, st1⟩ := p1
    cases h2 : rb st1 with
    | none => simp only [h2] at e0; cases e0
    | some p2 =>
      obtain ⟨y, st2⟩ := p2
      cases h3 : cop o x y with
      | none => simp only [h2, h3] at e0; cases e0
      | some z =>
        simp only [h2, h3] at e0
        cases e0
        refine useT (pt_cmpR (op_cop (W := W) C o) peE peE hm) ?_
        refine ha x st1 rfl m σ H _ hs hr fun m1 v1 H1 x1 s1 p1 => ?_
        refine hb st1 y _ h2 m1 σ H1 _ s1 (hr.ext hs.cells x1) fun m2 v2 H2 x2 s2 p2 => ?_
        refine ⟨x, y, _, m2, _, h3, s2, p1.ext s1.cells x2, p2, fun m3 v3 H3 x3 s3 p3 => ?_⟩
        simp only [Rep] at p3
        exact ⟨_, p3, hq m3 H3 ((x1.trans x2).trans x3) s3⟩
theorem truV_of {K : PySem.W.Frag} {m : List Addr} {L : Addr → Prop} {H : Hp} {x : D} {v : V} {b : Bool} (h : truth x = some b) (r : Rep K m L H x v) : TruV K v H b := by
  cases x <;> simp only [truth] at h <;> first | (cases h; done) | skip
  all_goals (cases h; simp only [Rep] at r)
  · subst r; rfl
  · subst r; rfl
  · subst r; rfl
  · rename_i xs
    obtain ⟨a, ys, rfl, h1, h2⟩ := r
    refine .inr (.inl ⟨ys, h1, ?_⟩)
    have := h2.length
    cases xs <;> cases ys <;> simp_all
  · rename_i xs
    obtain ⟨a, ys, rfl, h1, _, h2⟩ := r
    refine .inl ⟨ys, .inl (.inl h1), ?_⟩
    have := h2.length
    cases xs <;> cases ys <;> simp_all
theorem t_val {e : Expr} {env st} {r : Option (D × Store)} (hf : ∀ whole, isTrue e X.env whole = (do let v ← whole; standAt e.pos; holding [v] (truthy v))) (ha : EOk X W.cs e env st r) :
    TOk X W.cs e env st (match (generalizing := false) r with
    | some (x, st1) => (match truth x with
      | some b => some (b, st1)
      | none => none)
    | none => none) := by
  intro b st' e0 m σ H Q hs hr hq
  cases r with
  | none => cases e0
  | some p1 =>
    obtain ⟨x, st1⟩ := p1
    cases h2 : truth x with
    | none => simp only [h2] at e0; cases e0
    | some b' =>
      simp only [h2] at e0
      cases e0
      refine useT (pt_truth peE hf) (ha x _ rfl m σ H _ hs hr fun m1 v1 H1 x1 s1 p1 => ?_)
      exact ⟨_, truV_of h2 p1, hq m1 H1 x1 s1⟩
theorem w_and1 {a : Expr} {p env st} {r : Option (Bool × Store)} (ha : TOk X W.cs a env st r) : WOk X W.cs (.BoolOp .And [a] p) env st r := by
  intro b st' e m σ H Q hs hr hq
  exact useW (pw_and1 ptT) (ha b st' e m σ H _ hs hr hq)
theorem w_or1 {a : Expr} {p env st} {r : Option (Bool × Store)} (ha : TOk X W.cs a env st r) : WOk X W.cs (.BoolOp .Or [a] p) env st r := by
  intro b st' e m σ H Q hs hr hq
  exact useW (pw_or1 ptT) (ha b st' e m σ H _ hs hr hq)
theorem w_and {a b : Expr} {rest : List Expr} {p env st} {r1 : Option (Bool × Store)} {r2 : Store → Option (Bool × Store)} (ha : TOk X W.cs a env st r1) (hb : ∀ st1, WOk X W.cs (.BoolOp .And (b :: rest) p) env st1 (r2 st1)) :
    WOk X W.cs (.BoolOp .And (a :: b :: rest) p) env st (match (generalizing := false) r1 with
    | some (true, st1) => r2 st1
    | some (false, st1) => some (false, st1)
    | none => none) := by
  intro c st' e m σ H Q hs hr hq
  cases r1 with
  | none => cases e
  | some p1 =>
    obtain ⟨x, st1⟩ := p1
    cases x with
    | true =>
      refine useW (pw_and ptT pwW) (ha true _ rfl m σ H _ hs hr fun m1 H1 x1 s1 => ?_)
      rw [if_pos rfl]
      exact hb st1 c st' e m1 σ H1 _ s1 (hr.ext hs.cells x1) fun m2 H2 x2 s2 => hq m2 H2 (x1.trans x2) s2
    | false =>
      cases e
      refine useW (pw_and ptT pwW) (ha false _ rfl m σ H _ hs hr fun m1 H1 x1 s1 => ?_)
      rw [if_neg (by decide)]
      exact hq m1 H1 x1 s1
theorem w_or {a b : Expr} {rest : List Expr} {p env st} {r1 : Option (Bool × Store)} {r2 : Store → Option (Bool × Store)} (ha : TOk X W.cs a env st r1) (hb : ∀ st1, WOk X W.cs (.BoolOp .Or (b :: rest) p) env st1 (r2 st1)) :
    WOk X W.cs (.BoolOp .Or (a :: b :: rest) p) env st (match (generalizing := false) r1 with
    | some (true, st1) => some (true, st1)
    | some (false, st1) => r2 st1
    | none => none) := by
  intro c st' e m σ H Q hs hr hq
  cases r1 with
  | none => cases e
  | some p1 =>
    obtain ⟨x, st1⟩ := p1
    cases x with
    | false =>
      refine useW (pw_or ptT pwW) (ha false _ rfl m σ H _ hs hr fun m1 H1 x1 s1 => ?_)
      rw [if_neg (by decide)]
      exact hb st1 c st' e m1 σ H1 _ s1 (hr.ext hs.cells x1) fun m2 H2 x2 s2 => hq m2 H2 (x1.trans x2) s2
    | true =>
      cases e
      refine useW (pw_or ptT pwW) (ha true _ rfl m σ H _ hs hr fun m1 H1 x1 s1 => ?_)
      rw [if_pos rfl]
      exact hq m1 H1 x1 s1
theorem t_of_w {e : Expr} {env st} {r : Option (Bool × Store)} (h : WOk X W.cs e env st r) : TOk X W.cs e env st r := by
  intro b st' e0 m σ H Q hs hr hq
  exact useT (PW.pt pwW) (h b st' e0 m σ H Q hs hr hq)
theorem t_not {a : Expr} {p env st} {r : Option (Bool × Store)} (ha : TOk X W.cs a env st r) : TOk X W.cs (.UnaryOp .Not a p) env st (match (generalizing := false) r with
    | some (b, st1) => some (!b, st1)
    | none => none) := by
  intro b st' e m σ H Q hs hr hq
  cases r with
  | none => cases e
  | some p1 =>
    obtain ⟨x, st1⟩ := p1
    cases e
    exact useT (pt_not ptT) (ha x _ rfl m σ H _ hs hr fun m1 H1 x1 s1 => hq m1 H1 x1 s1)
/-! ### and, or, not, if as values -/
theorem s_andv {a b : Expr} {rest : List Expr} {p env st} {r1 : Option (D × Store)} {r2 : Store → Option (D × Store)} (ha : EOk X W.cs a env st r1) (hb : ∀ st1, EOk X W.cs (.BoolOp .And (b :: rest) p) env st1 (r2 st1)) :
    EOk X W.cs (.BoolOp .And (a :: b :: rest) p) env st (match (generalizing := false) r1 with
    | some (.bl true, st1) => r2 st1
    | some (.bl false, st1) => some (.bl false, st1)
    | _ => none) := by
  intro d st' e m σ H Q hs hr hq
  cases r1 with
  | none => cases e
  | some p1 =>
    obtain ⟨x, st1⟩ := p1
    cases x with
    | bl c =>
      refine useE (pe_and peE peE) (ha _ _ rfl m σ H _ hs hr fun m1 v1 H1 x1 s1 p1 => ?_)
      simp only [Rep] at p1
      refine ⟨c, p1, ?_⟩
      cases c with
      | true =>
        rw [if_pos rfl]
        exact hb st1 d st' e m1 σ H1 _ s1 (hr.ext hs.cells x1) fun m2 v2 H2 x2 s2 p2 => hq m2 v2 H2 (x1.trans x2) s2 p2
      | false =>
        cases e
        rw [if_neg (by decide)]
        exact hq m1 _ H1 x1 s1 (by simp only [Rep])
    | _ => cases e
theorem s_orv {a b : Expr} {rest : List Expr} {p env st} {r1 : Option (D × Store)} {r2 : Store → Option (D × Store)} (ha : EOk X W.cs a env st r1) (hb : ∀ st1, EOk X W.cs (.BoolOp .Or (b :: rest) p) env st1 (r2 st1)) :
    EOk X W.cs (.BoolOp .Or (a :: b :: rest) p) env st (match (generalizing := false) r1 with
    | some (.bl true, st1) => some (.bl true, st1)
    | some (.bl false, st1) => r2 st1
    | _ => none) := by
  intro d st' e m σ H Q hs hr hq
  cases r1 with
  | none => cases e
  | some p1 =>
    obtain ⟨x, st1⟩ := p1
    cases x with
    | bl c =>
      refine useE (pe_or peE peE) (ha _ _ rfl m σ H _ hs hr fun m1 v1 H1 x1 s1 p1 => ?_)
      simp only [Rep] at p1
      refine ⟨c, p1, ?_⟩
      cases c with
      | false =>
        rw [if_neg (by decide)]
        exact hb st1 d st' e m1 σ H1 _ s1 (hr.ext hs.cells x1) fun m2 v2 H2 x2 s2 p2 => hq m2 v2 H2 (x1.trans x2) s2 p2
      | true =>
        cases e
        rw [if_pos rfl]
        exact hq m1 _ H1 x1 s1 (by simp only [Rep])
    | _ => cases e
theorem s_one {a : Expr} {op : BoolOp} {p env st} {r : Option (D × Store)} (ha : EOk X W.cs a env st r) : EOk X W.cs (.BoolOp op [a] p) env st r := by
  intro d st' e m σ H Q hs hr hq
  exact useE (pe_one peE) (ha d st' e m σ H _ hs hr hq)
theorem s_notv {a : Expr} {p env st} {r : Option (D × Store)} (ha : EOk X W.cs a env st r) : EOk X W.cs (.UnaryOp .Not a p) env st (match (generalizing := false) r with
    | some (.bl b, st1) => some (.bl (!b), st1)
    | _ => none) := by
  intro d st' e m σ H Q hs hr hq
  cases r with
  | none => cases e
  | some p1 =>
    obtain ⟨x, st1⟩ := p1
    cases x with
    | bl c =>
      cases e
      refine useE (pe_not peE) (ha _ _ rfl m σ H _ hs hr fun m1 v1 H1 x1 s1 p1 => ?_)
      simp only [Rep] at p1
      exact ⟨c, p1, hq m1 _ H1 x1 s1 (by simp only [Rep])⟩
    | _ => cases e
theorem s_ife {c a b : Expr} {p env st} {rt : Option (Bool × Store)} {ra rb : Store → Option (D × Store)} (ht : TOk X W.cs c env st rt) (ha : ∀ st1, EOk X W.cs a env st1 (ra st1)) (hb : ∀ st1, EOk X W.cs b env st1 (rb st1)) :
    EOk X W.cs (.IfExp c a b p) env st (match (generalizing := false) rt with
    | some (true, st1) => ra st1
    | some (false, st1) => rb st1
    | none => none) := by
  intro d st' e m σ H Q hs hr hq
  cases rt with
  | none => cases e
  | some p1 =>
    obtain ⟨x, st1⟩ := p1
    refine useE (pe_ifExp ptT peE peE) (ht x _ rfl m σ H _ hs hr fun m1 H1 x1 s1 => ?_)
    cases x with
    | true =>
      rw [if_pos rfl]
      exact ha st1 d st' e m1 σ H1 _ s1 (hr.ext hs.cells x1) fun m2 v2 H2 x2 s2 p2 => hq m2 v2 H2 (x1.trans x2) s2 p2
    | false =>
      rw [if_neg (by decide)]
      exact hb st1 d st' e m1 σ H1 _ s1 (hr.ext hs.cells x1) fun m2 v2 H2 x2 s2 p2 => hq m2 v2 H2 (x1.trans x2) s2 p2
end
end Mi

set_option Elab.async false
set_option linter.all false
set_option maxRecDepth 100000
set_option maxHeartbeats 4000000
/-! Mi6: calls, built-ins, items. -/
namespace Mi
open PySem PySem.Spec PyProof.Rows L2

section
variable {W : Wld} {k : Nat} {N : List Str} {sc : Scope} {X : Cx}

/-- the callee runs -/
theorem go_fn {a : Addr} {fd : FuncData} {ps : List Str} {sp : List V → Hp → VK → Prop} {pins : List (Addr × Obj)} {σ : L2.St} {H : Hp} {s : Shared} {Q : VK} {us : List Value} {vs : List V}
    (G : FnG X.prog X.w X.K X.mg X.base k a fd ps sp) (hr : Room k X.A) (hg : X.A.guards = some []) (hb : Binds X.K fd ps []) (I : Inv X pins σ H s) (r : Vals vs us) (h : sp vs H Q) :
    wpAny (model X.prog X.w) X.A (call (.ref a) us) (EP X pins σ Q) X.xe s := by
  have hl : (us ++ []).length = ps.length := by rw [List.append_nil, ← r.length]; exact G.len _ _ _ h
  have b := hb s us I.kIn hl
  rw [List.append_nil] at b
  refine wpAny_call (codeAny_mono (G.go X.A X.stack s H ⟨us, []⟩ us vs Q hr hg I.env0 b r h) fun r s' hq => ?_)
  obtain ⟨u, rfl, ce⟩ := hq
  exact I.after ce
theorem s_call (C : Cxt W k N sc X) {f : Nat} {x : Str} {es : List Expr} {px p env st} {r : Option (List D × Store)} (hf : W.nm f = some x) (hg : glB sc x = true) (hp : plainX x = true) (hs : noStars es = true)
    (h0 : es = [] → r = some ([], st)) (ha : AOk X W.cs es env st r) : EOk X W.cs (.Call (.Name x px) es [] p) env st (match (generalizing := false) r with
    | some (xs, st1) => callF W.T W.F k f xs st1
    | none => none) := by
  intro d st' e m σ H Q hs0 hr hq
  cases r with
  | none => cases e
  | some p1 =>
    obtain ⟨xs, st1⟩ := p1
    obtain ⟨a, fd, ps, g1, g2, g3, g4, _⟩ := C.mdl.fns f x hf
    intro pins s I
    have base := ha xs st1 rfl m σ H (fun vs H1 => spOf W.T W.F X.K W.cs k f vs H1 Q) hs0 hr fun m1 vs H1 x1 s1 p1 =>
      ⟨m1, st1, xs, d, st', s1, p1, e, fun m2 v2 H2 x2 s2 p2 => hq m2 v2 H2 (x1.trans x2) s2 p2⟩
    refine wpAny_Call_Name_kw (ld_glob I (C.gl hg) g1 ?_ (plainX_ok hp).1)
    cases es with
    | nil =>
      have e1 := h0 rfl
      cases e1
      refine PySem.W.callWith_K0 I.kIn g2 ?_
      exact go_fn (us := []) g3 C.room C.grd g4 I .nil ⟨m, st, [], d, st', hs0, Reps.nil, e, fun m2 v2 H2 x2 s2 p2 => hq m2 v2 H2 x2 s2 p2⟩
    | cons y ys =>
      simp only [noStars, Bool.and_eq_true, Bool.not_eq_true'] at hs
      refine PySem.W.callWith_K (h₀ := X.base) I.ok.mod.kin g2 (thn (base p pins s I) fun us s1 ⟨vs, H1, I1, r1, q1⟩ => ⟨I1.kIn, ?_⟩) (starEach_cons hs.1) (noStars_any hs.2)
      exact go_fn g3 C.room C.grd g4 I1 r1 q1

/-! ### calls by names -/
def KOk (X : Cx) (cs : List (Addr × Addr)) (ks : List Keyword) (env : Env) (st : Store) (r : Option (List D × Store)) : Prop :=
  ∀ ds st', r = some (ds, st') → ∀ m σ H (Q : List V → Hp → Prop), SC X.K cs m st H → EnvR X.K m st H env σ →
    (∀ m' vs H', Ext m st H m' st' H' → SC X.K cs m' st' H' → Reps X.K m' (Lv m' st') H' ds vs → Q vs H') → tK X ks σ H Q
theorem k_nil {env st} : KOk X W.cs [] env st (some ([], st)) := by
  intro ds st' e m σ H Q hs hr hq
  cases e
  exact useK pk_nil (hq m _ H Ext.refl hs Reps.nil)
theorem k_cons {nm : Option Str} {e : Expr} {kp : Pos} {ks : List Keyword} {env st} {r1 : Option (D × Store)} {r2 : Store → Option (List D × Store)} (he : EOk X W.cs e env st r1) (hes : ∀ st1, KOk X W.cs ks env st1 (r2 st1)) :
    KOk X W.cs (⟨nm, e, kp⟩ :: ks) env st (match (generalizing := false) r1 with
    | some (x, st1) => (match r2 st1 with
      | some (xs, st2) => some (x :: xs, st2)
      | none => none)
    | none => none) := by
  intro ds st' e0 m σ H Q hs hr hq
  cases r1 with
  | none => cases e0
  | some p1 =>
    obtain ⟨x, st1⟩ := p1
    cases h2 : r2 st1 with
    | none => simp only [h2] at e0; cases e0
    | some p2 =>
      obtain ⟨xs, st2⟩ := p2
      simp only [h2] at e0
      cases e0
      refine useK (pk_cons peE pkK) ?_
      refine he x st1 rfl m σ H _ hs hr fun m1 v1 H1 x1 s1 p1 => ?_
      refine hes st1 xs _ h2 m1 σ H1 _ s1 (hr.ext hs.cells x1) fun m2 vs H2 x2 s2 p2 => ?_
      exact hq m2 _ H2 (x1.trans x2) s2 (Reps.cons (p1.ext s1.cells x2) p2)
theorem reps_perm {K : PySem.W.Frag} {m : List Addr} {L : Addr → Prop} {H : Hp} {xs : List D} {vs : List V} (r : Reps K m L H xs vs) : ∀ {perm : List Nat} {zs : List D}, perm.mapM (fun i => xs[i]?) = some zs → ∃ ws, perm.mapM (fun i => vs[i]?) = some ws ∧ Reps K m L H zs ws
  | [], zs, h => by
    simp only [List.mapM_nil] at h
    cases h
    exact ⟨[], rfl, Reps.nil⟩
  | i :: perm, zs, h => by
    simp only [List.mapM_cons, Option.bind_eq_bind, Option.bind_eq_some_iff] at h
    obtain ⟨x, h1, ys, h2, h3⟩ := h
    cases h3
    obtain ⟨w, w1, w2⟩ := r.get h1
    obtain ⟨ws, z1, z2⟩ := reps_perm r h2
    exact ⟨w :: ws, by simp only [List.mapM_cons, Option.bind_eq_bind, w1, z1, Option.bind_some]; rfl, Reps.cons w2 z2⟩
theorem vals_perm {vs : List V} {us : List Value} (r : Vals vs us) : ∀ {perm : List Nat} {ws : List V}, perm.mapM (fun i => vs[i]?) = some ws → ∃ zs, perm.mapM (fun i => us[i]?) = some zs ∧ Vals ws zs
  | [], zs, h => by
    simp only [List.mapM_nil] at h
    cases h
    exact ⟨[], rfl, .nil⟩
  | i :: perm, zs, h => by
    simp only [List.mapM_cons, Option.bind_eq_bind, Option.bind_eq_some_iff] at h
    obtain ⟨x, h1, ys, h2, h3⟩ := h
    cases h3
    obtain ⟨w, w1, w2⟩ := r.get h1
    obtain ⟨ws, z1, z2⟩ := vals_perm r h2
    exact ⟨w :: ws, by simp only [List.mapM_cons, Option.bind_eq_bind, w1, z1, Option.bind_some]; rfl, .cons w2 z2⟩
theorem kws_names {env : PySem.Env} {pos : Pos} : ∀ {ks : List Keyword} {names : List Str}, ks.map (·.arg) = names.map some → (backToKw pos (keywordEach ks env)).all (·.1.isSome) = true ∧ (backToKw pos (keywordEach ks env)).filterMap (·.1) = names ∧ (backToKw pos (keywordEach ks env)).any (·.1.isNone) = false
  | [], [], _ => ⟨rfl, rfl, rfl⟩
  | [], _ :: _, h => by simp at h
  | _ :: _, [], h => by simp at h
  | ⟨nm, e, kp⟩ :: ks, n :: names, h => by
    simp only [List.map_cons, List.cons.injEq] at h
    obtain ⟨h1, h2⟩ := h
    subst h1
    obtain ⟨z1, z2, z3⟩ := kws_names (env := env) (pos := pos) h2
    refine ⟨?_, ?_, ?_⟩
    · show (true && (backToKw pos (keywordEach ks env)).all (·.1.isSome)) = true
      rw [z1]; rfl
    · show n :: (backToKw pos (keywordEach ks env)).filterMap (·.1) = _
      rw [z2]
    · show (false || (backToKw pos (keywordEach ks env)).any (·.1.isNone)) = false
      rw [z3]; rfl
theorem s_callk (C : Cxt W k N sc X) {f : Nat} {x : Str} {ks : List Keyword} {names : List Str} {perm : List Nat} {px p env st} {r : Option (List D × Store)} (hf : W.nm f = some x) (hg : glB sc x = true) (hp : plainX x = true) (hk : W.kw f names = some perm) (hn : ks.map (·.arg) = names.map some) (hl : ∀ ds st', r = some (ds, st') → ds.length = names.length)
    (ha : KOk X W.cs ks env st r) : EOk X W.cs (.Call (.Name x px) [] ks p) env st (match (generalizing := false) r with
    | some (xs, st1) => (match perm.mapM (fun i => xs[i]?) with
      | some zs => callF W.T W.F k f zs st1
      | none => none)
    | none => none) := by
  intro d st' e m σ H Q hs0 hr hq
  cases r with
  | none => cases e
  | some p1 =>
    obtain ⟨xs, st1⟩ := p1
    simp only at e
    split at e
    · rename_i zs hz
      obtain ⟨a, fd, ps, g1, g2, g3, g4, g5⟩ := C.mdl.fns f x hf
      obtain ⟨k1, k2, k3⟩ := kws_names (env := X.env) (pos := p) hn
      intro pins s I
      have base := ha xs st1 rfl m σ H (fun vs H1 => vs.length = names.length ∧ ∃ ws, perm.mapM (fun i => vs[i]?) = some ws ∧ spOf W.T W.F X.K W.cs k f ws H1 Q) hs0 hr fun m1 vs H1 x1 s1 p1 => by
        obtain ⟨ws, w1, w2⟩ := reps_perm p1 hz
        exact ⟨by rw [← p1.length]; exact hl _ _ rfl, ws, w1, m1, st1, zs, d, st', s1, w2, e, fun m2 v2 H2 x2 s2 p2 => hq m2 v2 H2 (x1.trans x2) s2 p2⟩
      refine wpAny_Call_Name_kw (ld_glob I (C.gl hg) g1 ?_ (plainX_ok hp).1)
      refine PySem.W.callWith_KW0 (h₀ := X.base) I.ok.mod.kin g2 k1 (thn (base p pins s I) fun us s1 ⟨vs, H1, I1, r1, q0, ws, q1, q2⟩ => ⟨I1.kIn, ?_⟩) (by rw [k3]; rfl)
      rw [k2]
      obtain ⟨zus, z1, z2⟩ := vals_perm r1 q1
      have b := g5 names perm hk s1 us zus I1.kIn z1 (by rw [← r1.length]; exact q0) (by rw [← z2.length]; exact g3.len _ _ _ q2)
      refine wpAny_call (codeAny_mono (g3.go X.A X.stack s1 H1 ⟨[], names.zip us⟩ zus ws Q C.room C.grd I1.env0 b z2 q2) fun r s' hq' => ?_)
      obtain ⟨u, rfl, ce⟩ := hq'
      exact I1.after ce
    · cases e
/-! ### built-ins by values -/
/-- what can be walked, measured, indexed -/
theorem items_of {K cs m st H} {x : D} {v : V} {l : List D} (hs : SC K cs m st H) (h : itemsD x st = some l) (r : Rep K m (Lv m st) H x v) :
    ∃ p ys, v = .ref p ∧ (SqL K H p ys ∨ SqT K H p ys) ∧ Reps K m (Lv m st) H l ys := by
  cases x <;> simp only [itemsD] at h <;> first | (cases h; done) | skip
  · cases h
    simp only [Rep] at r
    obtain ⟨a, ys, e, h1, h2⟩ := r
    exact ⟨a, ys, e, .inr h1, h2⟩
  · cases h
    simp only [Rep] at r
    obtain ⟨a, ys, e, h1, _, h2⟩ := r
    exact ⟨a, ys, e, .inl (.inl (.inl h1)), h2⟩
  · cases h
    simp only [Rep] at r
    obtain ⟨a, ys, e, h1, h2⟩ := r
    exact ⟨a, ys, e, .inl h1.sqL, h2⟩
  · simp only [Rep] at r
    obtain ⟨a, e, h1⟩ := r
    split at h
    · rename_i xs hst
      cases h
      obtain ⟨a', ys, q1, q2, q3⟩ := hs.cell _ _ hst
      rw [h1] at q1; cases q1
      exact ⟨a, ys, e, .inl (.inl (.inl q2)), q3⟩
    · cases h
def rBi (X : Cx) (cs : List (Addr × Addr)) (b : BI) : List V → Hp → VK → Prop := fun vs H Q => ∃ xs z m st, biF b xs st = some z ∧ SC X.K cs m st H ∧ Reps X.K m (Lv m st) H xs vs ∧ Aft X cs m st H z st Q
theorem ints_of {K m L H} : ∀ {xs : List D} {ys : List V} {ns : List Int}, intsD xs = some ns → Reps K m L H xs ys → ys = ns.map V.int
  | [], ys, ns, h, r => by simp only [intsD] at h; cases h; simp only [Reps] at r; subst r; rfl
  | x :: xs, ys, ns, h, r => by
    cases x <;> simp only [intsD] at h <;> try (cases h)
    simp only [Option.map_eq_some_iff] at h
    obtain ⟨l, hl, rfl⟩ := h
    simp only [Reps, Rep] at r
    obtain ⟨y, rr, rfl, rfl, h2⟩ := r
    rw [ints_of hl h2]; rfl
theorem showOk_split {d : D} (h : showOk d = true) : flat0 d = true ∧ PyData.showable (pd d) = true ∧ (PyData.shown (pd d)).length ≤ sizeLine ∧ (pd d).depth ≤ 64 := by
  simp only [showOk, Bool.and_eq_true, decide_eq_true_eq] at h
  exact ⟨h.1.1.1, h.1.1.2, h.1.2, h.2⟩
mutual
theorem noDict : ∀ {d : D}, flat0 d = true → (pd d).hasDict = false
  | .non, _ => rfl
  | .bl _, _ => rfl
  | .int _, _ => rfl
  | .str _, _ => rfl
  | .tup xs, f => by simp only [pd, PyData.hasDict]; exact noDicts (by simpa [flat0] using f)
  | .lst xs, f => by simp only [pd, PyData.hasDict]; exact noDicts (by simpa [flat0] using f)
  | .scr _, f => by simp [flat0] at f
  | .cell _, f => by simp [flat0] at f
  | .dct _ _, f => by simp [flat0] at f
theorem noDicts : ∀ {ds : List D}, flat0s ds = true → PyData.hasDictAll (pds ds) = false
  | [], _ => rfl
  | d :: ds, f => by
    simp only [flat0s, Bool.and_eq_true] at f
    simp only [pds, PyData.hasDictAll, noDict f.1, noDicts f.2, Bool.or_self]
end
theorem call_repr (C : Cxt W k N sc X) : CallR X (.builtin "repr") (rBi X W.cs .repr) := by
  intro pins s σ H vs us Q I rv h
  obtain ⟨xs, z, m, st, hz, hs, rx, hq⟩ := h
  cases xs with
  | nil => simp [biF] at hz
  | cons x r =>
    cases r with
    | cons _ _ => simp [biF] at hz
    | nil =>
      simp only [biF] at hz
      split at hz
      · rename_i hok
        cases hz
        obtain ⟨v, rfl, rv1⟩ := rx.one
        obtain ⟨u, rfl, ru⟩ := vals1 rv
        obtain ⟨f0, f1, f2, f3⟩ := showOk_split hok
        have fin : ∀ (h' : Heap) (tk : Tok) (n : Nat), (∀ b o, s.heap.get? b = some o → h'.get? b = some o) → EP X pins σ Q (.str (pd x).shown tk) { s with heap := h', toks := n } := fun h' tk n kp =>
          ⟨.str _, H, I.kept (t' := n) kp, ⟨_, rfl⟩, hq m _ H Ext.refl hs (by simp only [Rep])⟩
        have hd := dp_of f0 rv1
        obtain ⟨as, hr⟩ := Dp.reads I (pd x) v u hd ru
        have big : ∀ a, u = .ref a → wpAny (model X.prog X.w) X.A (call (.builtin "repr") [u]) (EP X pins σ Q) X.xe s := fun a e => by
          subst e
          refine repr_of_reads' hr f1 (fun z => by rw [noDict f0] at z; cases z) C.grd ?_ (fun _ _ e => e) (fun h' u tk kp => fin h' u tk kp) f2
          have := C.room.un
          omega
        cases x <;> simp only [flat0, Bool.false_eq_true] at f0 <;> simp only [Rep] at rv1
        · subst rv1; cases ru
          exact PySem.P.repr_of_none (fin s.heap _ _ fun _ _ e => e)
        · subst rv1; cases ru
          exact PySem.P.repr_of_bool (fin s.heap _ _ fun _ _ e => e)
        · subst rv1; obtain ⟨t, rfl⟩ := ru
          refine PySem.P.repr_of_int ?_ (fin s.heap _ _ fun _ _ e => e)
          simpa [pd, PyData.showable] using f1
        · subst rv1; obtain ⟨t, rfl⟩ := ru
          exact PySem.P.repr_of_str (fin s.heap _ _ fun _ _ e => e) (by simpa [pd, PyData.shown] using f2)
        · obtain ⟨a, ys, rfl, _⟩ := rv1; cases ru; exact big a rfl
        · obtain ⟨a, ys, rfl, _⟩ := rv1; cases ru; exact big a rfl
      · cases hz
end
end Mi

set_option Elab.async false
set_option linter.all false
set_option maxRecDepth 100000
set_option maxHeartbeats 4000000
/-! Mi7: built-ins, isinstance, items, slices. -/
namespace Mi
open PySem PySem.Spec PyProof.Rows L2
theorem truth_ints {prog : Program} {w : World} {A : Around} {bs : List Int} {its : List Value} (r : Vals (bs.map V.int) its) :
    TruthOf prog w A (fun i v => its.toArray[i]? = some v) (fun i => decide (bs.getD i 0 ≠ 0)) := fun i v s Q E hv hq => by
  have hv' : its[i]? = some v := by simpa using hv
  have hl : i < its.length := (List.getElem?_eq_some_iff.mp hv').1
  have hl2 : i < bs.length := by
    have := r.length
    rw [List.length_map] at this
    omega
  have hb : bs[i]? = some bs[i] := List.getElem?_eq_getElem hl2
  obtain ⟨u, hu, ru⟩ := r.get (show (bs.map V.int)[i]? = some (V.int bs[i]) by rw [List.getElem?_map, hb]; rfl)
  rw [hv'] at hu
  cases hu
  obtain ⟨t, rfl⟩ := ru
  have hg : bs.getD i 0 = bs[i] := by rw [List.getD_eq_getElem?_getD, hb] <;> rfl
  have hq' : Q (decide (bs.getD i 0 ≠ 0)) s := hq
  rw [hg] at hq'
  refine truthy_int ?_
  have e : (bs[i] != 0) = decide (bs[i] ≠ 0) := by
    rw [Bool.eq_iff_iff]
    simp
  rw [e]
  exact hq'
theorem any_rangeI : ∀ bs : List Int, (List.range bs.length).any (fun i => decide (bs.getD i 0 ≠ 0)) = bs.any fun b => decide (b ≠ 0)
  | [] => rfl
  | b :: bs => by
    rw [List.length_cons, List.range_succ_eq_map, List.any_cons, List.any_map, List.any_cons, ← any_rangeI bs]
    all_goals rfl
section
variable {X : Cx}
theorem cr_anyT (hc : X.calm = true) : CallR X (.builtin "any") (fun vs H Q => ∃ (a : Addr) (bs : List Int), vs = [V.ref a] ∧ SqT X.K H a (bs.map V.int) ∧ Q (.bl (bs.any fun b => decide (b ≠ 0))) H) := by
  intro pins s σ H vs us Q I r h
  obtain ⟨a, bs, rfl, hs, q⟩ := h
  obtain ⟨its, rv, p, _⟩ := I.tuple hs
  rw [Vals.ref1 r]
  have ht : s.heap.IsTuple a its.toArray := p
  obtain ⟨o, ho, _⟩ := id p
  have hlt : a < s.heap.objs.size := Heap.lt_size ho
  refine call_any_walk (wpAny_pyIter_tuple ht ?_)
  refine ⟨_, _, _, _, _, _, _, rfl, Walks.tuple (A := X.A.in1) (I.ok.hd hc) _ a (Nat.ne_of_lt hlt) its.toArray, ⟨⟨_, Heap.get?_push_size _ rfl, rfl, rfl⟩, ht.push _⟩, truth_ints rv, fun h' tk hk => ?_⟩
  refine ⟨.bl _, H, I.kept fun b o eo => hk b o (fun hmem => ?_) (Heap.get?_push_of_some _ eo), ?_, q⟩
  · rcases List.mem_cons.mp hmem with e1 | hmem
    · exact absurd (e1 ▸ Heap.lt_size eo) (Nat.lt_irrefl _)
    · cases hmem
  · show Value.bool _ = Value.bool _
    have := rv.length
    rw [List.length_map] at this
    rw [← any_rangeI, List.size_toArray, ← this]
end

section
variable {W : Wld} {k : Nat} {N : List Str} {sc : Scope} {X : Cx}

theorem bools_of {K m L H} : ∀ {xs : List D} {ys : List V} {bs : List Bool}, boolsD xs = some bs → Reps K m L H xs ys → ys = bs.map V.bl
  | [], ys, ns, h, r => by simp only [boolsD] at h; cases h; simp only [Reps] at r; subst r; rfl
  | x :: xs, ys, ns, h, r => by
    cases x <;> simp only [boolsD] at h <;> try (cases h)
    simp only [Option.map_eq_some_iff] at h
    obtain ⟨l, hl, rfl⟩ := h
    simp only [Reps, Rep] at r
    obtain ⟨y, rr, rfl, rfl, h2⟩ := r
    rw [bools_of hl h2]; rfl
theorem one_arg {b : BI} {xs : List D} {st : Store} {z : D} (h : biF b xs st = some z) (hb : b ∈ ([.len, .abs, .int, .repr, .str, .tuple, .list, .sum, .all, .any] : List BI)) : ∃ x, xs = [x] := by
  cases xs with
  | nil => cases b <;> simp [biF] at h
  | cons x r =>
    cases r with
    | nil => exact ⟨x, rfl⟩
    | cons y r => cases b <;> first | (simp [biF] at h; done) | (simp at hb; done)
theorem two_arg {b : BI} {xs : List D} {st : Store} {z : D} (h : biF b xs st = some z) (hb : b ∈ ([.gcd, .lcm, .max, .min, .divmod] : List BI)) : ∃ i j, xs = [.int i, .int j] := by
  rcases xs with _ | ⟨x, _ | ⟨y, _ | ⟨w, r⟩⟩⟩
  · cases b <;> first | (simp [biF] at h; done) | (simp at hb; done)
  · cases b <;> cases x <;> first | (simp [biF] at h; done) | (simp at hb; done)
  · cases x <;> cases y <;> first | exact ⟨_, _, rfl⟩ | (cases b <;> first | (simp [biF] at h; done) | (simp at hb; done))
  · cases b <;> cases x <;> cases y <;> first | (simp [biF] at h; done) | (simp at hb; done)
theorem lcm_run (a : Int) (t : Tok) (b : Int) (u : Tok) {M : Model} {A : Around} {E : Value → Shared → Prop} {s : Shared} {prog : Program} {w : World} {Q : Value → Shared → Prop} (ha : a.natAbs.log2 < 13000) (hb : b.natAbs.log2 < 13000)
    (h : Q (.int ((Nat.lcm a.natAbs b.natAbs : Nat) : Int) s.toks) { s with toks := s.toks + 1 }) : wpAny (model prog w) A (call (.builtin "math.lcm") [.int a t, .int b u]) Q E s := by
  have la : a.natAbs < 2 ^ 13000 := by
    by_cases h0 : a.natAbs = 0
    · rw [h0]; exact Nat.two_pow_pos _
    · exact (Nat.log2_lt h0).mp ha
  have lb : b.natAbs < 2 ^ 13000 := by
    by_cases h0 : b.natAbs = 0
    · rw [h0]; exact Nat.two_pow_pos _
    · exact (Nat.log2_lt h0).mp hb
  have e1 : Nat.lcm 1 a.natAbs = a.natAbs := Nat.lcm_one_left _
  have log_le : ∀ n : Nat, n < 2 ^ 13000 → n.log2 < 13000 := fun n hn => by
    by_cases h0 : n = 0
    · rw [h0, Nat.log2_zero]; decide
    · exact (Nat.log2_lt h0).mpr hn
  have sz : ((((Nat.lcm 1 a.natAbs).lcm b.natAbs : Nat) : Int)).natAbs.log2 < bitsLine := by
    rw [e1, Int.natAbs_natCast]
    have le : Nat.lcm a.natAbs b.natAbs ≤ a.natAbs * b.natAbs := by
      unfold Nat.lcm
      exact Nat.div_le_self _ _
    have l2 : Nat.lcm a.natAbs b.natAbs < 2 ^ 26000 := by
      refine Nat.lt_of_le_of_lt le ?_
      have e : (2 : Nat) ^ 26000 = 2 ^ 13000 * 2 ^ 13000 := by rw [← Nat.pow_add]
      rw [e]
      exact Nat.mul_lt_mul'' la lb
    have e2 : bitsLine = 134217728 := by decide
    rw [e2]
    by_cases h0 : Nat.lcm a.natAbs b.natAbs = 0
    · rw [h0, Nat.log2_zero]; decide
    · have := (Nat.log2_lt h0).mpr l2; omega
  have q := PySem.W.mg_run_lcm a t b u (by
      have h1 : (max 1 a.natAbs) < 2 ^ 13000 := by
        have : 1 < 2 ^ 13000 := Nat.one_lt_two_pow (by decide)
        exact Nat.max_lt.mpr ⟨this, la⟩
      have := log_le _ h1
      omega) (by
      have := log_le _ (Nat.max_lt.mpr ⟨la, lb⟩)
      omega) sz
  rw [e1] at q
  exact call_function_meets PySem.W.MGF.kind_lcm PySem.W.MGF.plain_lcm PySem.W.MGF.entry_lcm (PySem.W.MGF.args_lcm _ _) q.meets h
/-- the callee's value -/
def biV : BI → Value
  | .gcd => .builtin "math.gcd" | .lcm => .builtin "math.lcm"
  | .int => .type "int" | .str => .type "str" | .tuple => .type "tuple" | .list => .type "list"
  | .len => .builtin "len" | .abs => .builtin "abs" | .max => .builtin "max" | .min => .builtin "min" | .repr => .builtin "repr"
  | .divmod => .builtin "divmod" | .sum => .builtin "sum" | .all => .builtin "all" | .any => .builtin "any"
theorem call_bi (C : Cxt W k N sc X) (b : BI) : CallR X (biV b) (rBi X W.cs b) := by
  intro pins s σ H vs us Q I rv h
  have h0 := h
  obtain ⟨xs, z, m, st, hz, hs, rx, hq⟩ := h
  have self : ∀ v, Rep X.K m (Lv m st) H z v → Q v H := fun v r => hq m v H Ext.refl hs r
  cases b
  case len =>
    obtain ⟨x, rfl⟩ := one_arg hz (by simp)
    obtain ⟨v, rfl, rv1⟩ := rx.one
    have hz' : ∃ l, itemsD x st = some l ∧ z = .int l.length := by
      cases x <;> simp only [biF, Option.map_eq_some_iff] at hz <;> first | (obtain ⟨l, h1, h2⟩ := hz; exact ⟨l, h1, h2.symm⟩) | (cases hz)
    obtain ⟨l, hl, rfl⟩ := hz'
    obtain ⟨p, ys, rfl, h1, h2⟩ := items_of hs hl rv1
    refine call_len pins s σ H _ us Q I rv ⟨.ref p, ys.length, rfl, ?_, self _ (by simp only [Rep, h2.length])⟩
    rcases h1 with h1 | h1
    · exact .inl ⟨ys, h1, rfl⟩
    · exact .inr ⟨ys, h1, rfl⟩
  case abs =>
    obtain ⟨x, rfl⟩ := one_arg hz (by simp)
    cases x <;> simp only [biF] at hz <;> cases hz
    simp only [Reps, Rep] at rx
    obtain ⟨_, _, rfl, rfl, rfl⟩ := rx
    exact call_abs pins s σ H _ us Q I rv ⟨_, rfl, self _ (by simp only [Rep])⟩
  case int =>
    obtain ⟨x, rfl⟩ := one_arg hz (by simp)
    cases x <;> simp only [biF] at hz <;> cases hz
    · simp only [Reps, Rep] at rx
      obtain ⟨_, _, rfl, rfl, rfl⟩ := rx
      exact call_int1 pins s σ H _ us Q I rv (.inr ⟨_, rfl, self _ (by simp only [Rep])⟩)
    · simp only [Reps, Rep] at rx
      obtain ⟨_, _, rfl, rfl, rfl⟩ := rx
      exact call_int1 pins s σ H _ us Q I rv (.inl ⟨_, rfl, self _ (by simp only [Rep])⟩)
  case gcd =>
    obtain ⟨i, j, rfl⟩ := two_arg hz (by simp)
    simp only [biF] at hz
    cases hz
    simp only [Reps, Rep] at rx
    obtain ⟨_, _, rfl, rfl, _, _, rfl, rfl, rfl⟩ := rx
    exact cr_gcd pins s σ H _ us Q I rv ⟨i, j, rfl, self _ (by simp only [Rep])⟩
  case lcm =>
    obtain ⟨i, j, rfl⟩ := two_arg hz (by simp)
    simp only [biF] at hz
    split at hz
    · rename_i hc
      cases hz
      simp only [Reps, Rep] at rx
      obtain ⟨_, _, rfl, rfl, _, _, rfl, rfl, rfl⟩ := rx
      obtain ⟨t, u, rfl⟩ := Vals.int2 rv
      exact lcm_run (M := model X.prog X.w) i t j u hc.1 hc.2 ⟨.int _, H, I.tok _, ⟨_, rfl⟩, self _ (by simp only [Rep])⟩
    · cases hz
  case max =>
    obtain ⟨i, j, rfl⟩ := two_arg hz (by simp)
    simp only [biF] at hz
    cases hz
    simp only [Reps, Rep] at rx
    obtain ⟨_, _, rfl, rfl, _, _, rfl, rfl, rfl⟩ := rx
    exact call_max2 C.calm pins s σ H _ us Q I rv ⟨i, j, rfl, self _ (by simp only [Rep])⟩
  case min =>
    obtain ⟨i, j, rfl⟩ := two_arg hz (by simp)
    simp only [biF] at hz
    cases hz
    simp only [Reps, Rep] at rx
    obtain ⟨_, _, rfl, rfl, _, _, rfl, rfl, rfl⟩ := rx
    exact call_min2 C.calm pins s σ H _ us Q I rv ⟨i, j, rfl, self _ (by simp only [Rep])⟩
  case repr => exact call_repr C pins s σ H _ us Q I rv h0
  case str =>
    obtain ⟨x, rfl⟩ := one_arg hz (by simp)
    cases x <;> simp only [biF] at hz <;> (try (cases hz; done))
    split at hz
    · rename_i hc
      cases hz
      simp only [Reps, Rep] at rx
      obtain ⟨_, _, rfl, rfl, rfl⟩ := rx
      exact call_str_int pins s σ H _ us Q I rv ⟨_, rfl, hc, self _ (by simp only [Rep])⟩
    · cases hz
  case divmod =>
    obtain ⟨i, j, rfl⟩ := two_arg hz (by simp)
    simp only [biF] at hz
    split at hz
    · rename_i hc
      cases hz
      simp only [Reps, Rep] at rx
      obtain ⟨_, _, rfl, rfl, _, _, rfl, rfl, rfl⟩ := rx
      refine call_divmod pins s σ H _ us Q I rv ⟨i, j, rfl, hc, fun p hp => hq m _ _ (ext_new hp) (hs.new hp) (rep_tup hs hp ?_)⟩
      exact Reps.cons (by simp only [Rep]) (Reps.cons (by simp only [Rep]) Reps.nil)
    · cases hz
  case tuple =>
    obtain ⟨x, rfl⟩ := one_arg hz (by simp)
    obtain ⟨v, rfl, rv1⟩ := rx.one
    simp only [biF, Option.map_eq_some_iff] at hz
    obtain ⟨l, hl, rfl⟩ := hz
    obtain ⟨p, ys, rfl, h1, h2⟩ := items_of hs hl rv1
    refine call_tuple_of pins s σ H _ us Q I rv ⟨p, ys, rfl, ?_⟩
    rcases h1 with h1 | h1
    · exact .inl ⟨h1, fun l hl => hq m _ _ (ext_new hl) (hs.new hl) (rep_tup hs hl h2)⟩
    · exact .inr ⟨h1, self _ (by simp only [Rep]; exact ⟨p, ys, rfl, h1, h2⟩)⟩
  case list =>
    obtain ⟨x, rfl⟩ := one_arg hz (by simp)
    obtain ⟨v, rfl, rv1⟩ := rx.one
    simp only [biF, Option.map_eq_some_iff] at hz
    obtain ⟨l, hl, rfl⟩ := hz
    obtain ⟨p, ys, rfl, h1, h2⟩ := items_of hs hl rv1
    exact call_list_of pins s σ H _ us Q I rv ⟨p, ys, rfl, h1, fun l hl => hq m _ _ (ext_new hl) (hs.new hl) (rep_lst hs hl h2)⟩
  case sum =>
    obtain ⟨x, rfl⟩ := one_arg hz (by simp)
    cases x <;> simp only [biF, Option.map_eq_some_iff] at hz <;> (try (cases hz; done))
    obtain ⟨l, hl, rfl⟩ := hz
    simp only [Reps, Rep] at rx
    obtain ⟨_, _, rfl, ⟨a, ys, rfl, h1, _, h2⟩, rfl⟩ := rx
    have e := ints_of hl h2
    subst e
    exact cr_sum C.calm pins s σ H _ us Q I rv ⟨a, l, rfl, .inl (.inl h1), self _ (by simp only [Rep])⟩
  case all =>
    obtain ⟨x, rfl⟩ := one_arg hz (by simp)
    cases x <;> simp only [biF, Option.map_eq_some_iff] at hz <;> (try (cases hz; done))
    obtain ⟨l, hl, rfl⟩ := hz
    simp only [Reps, Rep] at rx
    obtain ⟨_, _, rfl, ⟨a, ys, rfl, h1, _, h2⟩, rfl⟩ := rx
    have e := bools_of hl h2
    subst e
    exact cr_all C.calm pins s σ H _ us Q I rv ⟨a, l, rfl, .inl (.inl h1), self _ (by simp only [Rep])⟩
  case any =>
    obtain ⟨x, rfl⟩ := one_arg hz (by simp)
    cases x <;> simp only [biF, Option.map_eq_some_iff] at hz <;> (try (cases hz; done))
    · obtain ⟨l, hl, rfl⟩ := hz
      simp only [Reps, Rep] at rx
      obtain ⟨_, _, rfl, ⟨a, ys, rfl, h1, h2⟩, rfl⟩ := rx
      have e := ints_of hl h2
      subst e
      exact cr_anyT C.calm pins s σ H _ us Q I rv ⟨a, l, rfl, h1, self _ (by simp only [Rep])⟩
    · obtain ⟨l, hl, rfl⟩ := hz
      simp only [Reps, Rep] at rx
      obtain ⟨_, _, rfl, ⟨a, ys, rfl, h1, _, h2⟩, rfl⟩ := rx
      have e := bools_of hl h2
      subst e
      exact cr_any C.calm pins s σ H _ us Q I rv ⟨a, l, rfl, .inl (.inl h1), self _ (by simp only [Rep])⟩
theorem s_bi (C : Cxt W k N sc X) {b : BI} {x : Str} {y : Expr} {ys : List Expr} {px p env st} {r : Option (List D × Store)} (hb : biN b = x) (hg : glB sc x = true) (hst : noStars (y :: ys) = true) (hmath : b = .gcd ∨ b = .lcm → X.mg x = some (biV b))
    (ha : AOk X W.cs (y :: ys) env st r) : EOk X W.cs (.Call (.Name x px) (y :: ys) [] p) env st (match (generalizing := false) r with
    | some (xs, st1) => (match biF b xs st1 with
      | some z => some (z, st1)
      | none => none)
    | none => none) := by
  intro d st' e m σ H Q hs hr hq
  simp only [noStars, Bool.and_eq_true, Bool.not_eq_true'] at hst
  cases r with
  | none => cases e
  | some p1 =>
    obtain ⟨xs, st1⟩ := p1
    cases h2 : biF b xs st1 with
    | none => simp only [h2] at e; cases e
    | some z =>
      simp only [h2] at e
      cases e
      have args : tCB (rBi X W.cs b) (tA X (y :: ys)) σ H Q := ha xs _ rfl m σ H _ hs hr fun m1 vs H1 x1 s1 p1 => ⟨xs, _, m1, _, h2, s1, p1, fun m2 v2 H2 x2 s2 p2 => hq m2 v2 H2 (x1.trans x2) s2 p2⟩
      have free : x ∈ (["len", "abs", "int", "max", "min", "repr", "str", "divmod", "tuple", "list", "sum", "all", "any", "isinstance", "bool", "range", "zip", "enumerate"] : List Str) → X.mg x = none := C.mdl.free x
      subst hb
      cases b
      case gcd => exact useE (pe_callBfun (call_bi C .gcd) (C.gl hg) (hmath (.inl rfl)) paA (by decide) (starEach_cons hst.1) (noStars_any hst.2)) args
      case lcm => exact useE (pe_callBfun (call_bi C .lcm) (C.gl hg) (hmath (.inr rfl)) paA (by decide) (starEach_cons hst.1) (noStars_any hst.2)) args
      case len => exact useE (pe_callB (call_bi C .len) (C.gl hg) (free (by decide)) PySem.boot_len paA (by decide) (by decide) (starEach_cons hst.1) (noStars_any hst.2)) args
      case abs => exact useE (pe_callB (call_bi C .abs) (C.gl hg) (free (by decide)) (by decide +kernel) paA (by decide) (by decide) (starEach_cons hst.1) (noStars_any hst.2)) args
      case max => exact useE (pe_callB (call_bi C .max) (C.gl hg) (free (by decide)) (by decide +kernel) paA (by decide) (by decide) (starEach_cons hst.1) (noStars_any hst.2)) args
      case min => exact useE (pe_callB (call_bi C .min) (C.gl hg) (free (by decide)) (by decide +kernel) paA (by decide) (by decide) (starEach_cons hst.1) (noStars_any hst.2)) args
      case repr => exact useE (pe_callB (call_bi C .repr) (C.gl hg) (free (by decide)) (by decide +kernel) paA (by decide) (by decide) (starEach_cons hst.1) (noStars_any hst.2)) args
      case divmod => exact useE (pe_callB (call_bi C .divmod) (C.gl hg) (free (by decide)) (by decide +kernel) paA (by decide) (by decide) (starEach_cons hst.1) (noStars_any hst.2)) args
      case sum => exact useE (pe_callB (call_bi C .sum) (C.gl hg) (free (by decide)) (by decide +kernel) paA (by decide) (by decide) (starEach_cons hst.1) (noStars_any hst.2)) args
      case all => exact useE (pe_callB (call_bi C .all) (C.gl hg) (free (by decide)) (by decide +kernel) paA (by decide) (by decide) (starEach_cons hst.1) (noStars_any hst.2)) args
      case any => exact useE (pe_callB (call_bi C .any) (C.gl hg) (free (by decide)) (by decide +kernel) paA (by decide) (by decide) (starEach_cons hst.1) (noStars_any hst.2)) args
      case int => exact useE (pe_callTy (call_bi C .int) (C.gl hg) (free (by decide)) (by decide +kernel) paA (by decide) (by decide) (starEach_cons hst.1) (noStars_any hst.2)) args
      case str => exact useE (pe_callTy (call_bi C .str) (C.gl hg) (free (by decide)) (by decide +kernel) paA (by decide) (by decide) (starEach_cons hst.1) (noStars_any hst.2)) args
      case tuple => exact useE (pe_callTy (call_bi C .tuple) (C.gl hg) (free (by decide)) (by decide +kernel) paA (by decide) (by decide) (starEach_cons hst.1) (noStars_any hst.2)) args
      case list => exact useE (pe_callTy (call_bi C .list) (C.gl hg) (free (by decide)) (by decide +kernel) paA (by decide) (by decide) (starEach_cons hst.1) (noStars_any hst.2)) args
end
end Mi

set_option Elab.async false
set_option linter.all false
set_option maxRecDepth 100000
set_option maxHeartbeats 4000000
/-! Mi8: isinstance, indexes, slices. -/
namespace Mi
open PySem PySem.Spec PyProof.Rows L2

section
variable {W : Wld} {k : Nat} {N : List Str} {sc : Scope} {X : Cx}

theorem reps_take {K : PySem.W.Frag} {m : List Addr} {L : Addr → Prop} {H : Hp} : ∀ {xs : List D} {ys : List V} (n : Nat), Reps K m L H xs ys → Reps K m L H (xs.take n) (ys.take n)
  | [], ys, n, h => by simp only [Reps] at h; subst h; simp [Reps]
  | x :: xs, ys, n, h => by
    cases n with
    | zero => simp [Reps]
    | succ n =>
      simp only [Reps] at h
      obtain ⟨y, r, rfl, h1, h2⟩ := h
      simp only [List.take_succ_cons, Reps]
      exact ⟨y, _, rfl, h1, reps_take n h2⟩
theorem tyx_of {K : PySem.W.Frag} {m : List Addr} {L : Addr → Prop} {H : Hp} {x : D} {v : V} {t : Ty} {b : Bool} (h : isiF x t = some b) (r : Rep K m L H x v) :
    ∃ T, TyX K H v (.type T) ∧ kitB T (tyN t).toString = some b := by
  have tups : ∀ {a : Addr} {ys : List V}, SqT K H a ys → TyX K H (.ref a) (.type "tuple") := fun h => by
    rcases h with (h | ⟨o, h⟩) | ⟨o, its, n, h1, h2, _⟩
    · exact .base (.tup h)
    · exact .fTuple h
    · exact .kTuple h1 h2
  cases x <;> simp only [Rep] at r
  · subst r; refine ⟨"NoneType", .base .non, ?_⟩
    cases t <;> simp only [isiF, Option.some.injEq] at h <;> subst h <;> decide +kernel
  · subst r; refine ⟨"bool", .base (.bl _), ?_⟩
    cases t <;> simp only [isiF, Option.some.injEq] at h <;> subst h <;> decide +kernel
  · subst r; refine ⟨"int", .base (.int _), ?_⟩
    cases t <;> simp only [isiF, Option.some.injEq] at h <;> subst h <;> decide +kernel
  · subst r; refine ⟨"str", .base (.str _), ?_⟩
    cases t <;> simp only [isiF, Option.some.injEq] at h <;> subst h <;> decide +kernel
  · obtain ⟨a, ys, rfl, h1, _⟩ := r; refine ⟨"tuple", tups h1, ?_⟩
    cases t <;> simp only [isiF, Option.some.injEq] at h <;> subst h <;> decide +kernel
  · obtain ⟨a, ys, rfl, h1, _⟩ := r; refine ⟨"list", .base (.lst h1), ?_⟩
    cases t <;> simp only [isiF, Option.some.injEq] at h <;> subst h <;> decide +kernel
  · simp only [isiF] at h; cases h
  · simp only [isiF] at h; cases h
  · obtain ⟨a, ys, rfl, h1, _⟩ := r
    rcases h1 with h1 | ⟨o, h1⟩
    · refine ⟨"dict", .base (.dK h1), ?_⟩
      cases t <;> simp only [isiF, Option.some.injEq] at h <;> subst h <;> decide +kernel
    · refine ⟨"dict", .fDict h1, ?_⟩
      cases t <;> simp only [isiF, Option.some.injEq] at h <;> subst h <;> decide +kernel
def tyS : Ty → String
  | .int => "int" | .bool => "bool" | .tuple => "tuple"
theorem s_isi (C : Cxt W k N sc X) {a : Expr} {t : Ty} {x z : Str} {px pz p env st} {r : Option (D × Store)} (hx : x = "isinstance") (hz : tyN t = z) (hg : glB sc x = true) (hgz : glB sc z = true) (hst : isStar a = false) (ha : EOk X W.cs a env st r) :
    EOk X W.cs (.Call (.Name x px) [a, .Name z pz] [] p) env st (match (generalizing := false) r with
    | some (y, st1) => (match isiF y t with
      | some b => some (.bl b, st1)
      | none => none)
    | none => none) := by
  intro d st' e m σ H Q hs hr hq
  cases r with
  | none => cases e
  | some p1 =>
    obtain ⟨y, st1⟩ := p1
    cases h2 : isiF y t with
    | none => simp only [h2] at e; cases e
    | some b =>
      simp only [h2] at e
      cases e
      subst hx hz
      have ty : PE X (.Name (tyN t) pz) (tC (.ty (tyS t))) := by
        cases t
        · exact pe_bltn (u := .type "int") (C.gl hgz) (C.mdl.free _ (by decide)) (by decide +kernel) rfl
        · exact pe_bltn (u := .type "bool") (C.gl hgz) (C.mdl.free _ (by decide)) (by decide +kernel) rfl
        · exact pe_bltn (u := .type "tuple") (C.gl hgz) (C.mdl.free _ (by decide)) (by decide +kernel) rfl
      refine useE (pe_callB call_isi (C.gl hg) (C.mdl.free _ (by decide)) (by decide +kernel) (pa_cons peE (pa_cons ty pa_nil (starEach_cons rfl)) (starEach_cons hst)) (by decide) (by decide) (starEach_cons hst) (noStars_any (by rfl))) ?_
      refine ha y _ rfl m σ H _ hs hr fun m1 v1 H1 x1 s1 p1 => ?_
      obtain ⟨T, t1, t2⟩ := tyx_of h2 p1
      refine ⟨v1, .ty (tyS t), .type T, .type (tyS t), b, rfl, .ty _, t1, kit_ty ?_, hq m1 _ H1 x1 s1 (by simp only [Rep])⟩
      rw [← t2]; cases t <;> rfl

/-! ### indexes -/
theorem reps_at {K : PySem.W.Frag} {m : List Addr} {L : Addr → Prop} {H : Hp} {xs : List D} {ys : List V} {i : Int} {x : D} (r : Reps K m L H xs ys) (h : atI xs i = some x) : ∃ y, atI ys i = some y ∧ Rep K m L H x y := by
  unfold atI at h ⊢
  rw [← r.length]
  cases hj : ixN xs.length i with
  | none => rw [hj] at h; cases h
  | some j =>
    rw [hj] at h
    obtain ⟨y, h1, h2⟩ := r.get (show xs[j]? = some x from h)
    exact ⟨y, h1, h2⟩
theorem s_idx {a b : Expr} {p env st} {ra : Option (D × Store)} {rb : Store → Option (D × Store)} (hb0 : isSlice b = false) (ha : EOk X W.cs a env st ra) (hb : ∀ st1, EOk X W.cs b env st1 (rb st1)) :
    EOk X W.cs (.Subscript a b p) env st (match (generalizing := false) ra with
    | some (x, st1) => (match rb st1 with
      | some (y, st2) => (match idxF x y st2 with
        | some z => some (z, st2)
        | none => none)
      | none => none)
    | none => none) := by
  refine s_two (W := W) (f := idxF) (r := fun x y H Q => rIxL X.K x y H Q ∨ rIxT X.K x y H Q) (fun h1 h2 => pe_ix (ix_list.or ix_tup) h1 h2 (plainIx_of hb0)) ha hb fun x y st z m H v u Q hz hs rx ry hq => ?_
  cases y <;> simp only [idxF] at hz <;> try (cases hz; done)
  rename_i i
  simp only [Option.bind_eq_some_iff] at hz
  obtain ⟨l, hl, hz⟩ := hz
  obtain ⟨p, ys, rfl, h1, h2⟩ := items_of hs hl rx
  obtain ⟨w, h3, h4⟩ := reps_at h2 hz
  simp only [Rep] at ry
  rcases h1 with h1 | h1
  · exact .inl ⟨p, ys, i, w, rfl, ry, h1, h3, hq m w H Ext.refl hs h4⟩
  · exact .inr ⟨p, ys, i, w, rfl, ry, h1, h3, hq m w H Ext.refl hs h4⟩

/-! ### slices -/
theorem o_none {env st} : OOk X W.cs none env st (some (none, st)) := by
  intro d st' i e hi m σ H Q hs hr hq
  cases e
  cases hi
  exact useO po_none (hq m H Ext.refl hs)
theorem o_some {a : Expr} {env st} {r : Option (D × Store)} (ha : EOk X W.cs a env st r) : OOk X W.cs (some a) env st (match (generalizing := false) r with
    | some (x, st1) => some (some x, st1)
    | none => none) := by
  intro d st' i e hi m σ H Q hs hr hq
  cases r with
  | none => cases e
  | some p1 =>
    obtain ⟨x, st1⟩ := p1
    cases e
    refine useO (po_some peE) (ha x _ rfl m σ H _ hs hr fun m1 v1 H1 x1 s1 p1 => ?_)
    cases x <;> simp only [optI] at hi <;> cases hi
    simp only [Rep] at p1
    exact ⟨_, p1, hq m1 H1 x1 s1⟩
theorem optI_some {d : Option D} (h : ∃ i, optI d = some i) : ∃ i, optI d = some i := h
theorem s_slc {a : Expr} {lo hi : Option Expr} {p p2 env st} {ra : Option (D × Store)} {rl rh : Store → Option (Option D × Store)} (ha : EOk X W.cs a env st ra) (hl : ∀ st1, OOk X W.cs lo env st1 (rl st1)) (hh : ∀ st1, OOk X W.cs hi env st1 (rh st1)) :
    EOk X W.cs (.Subscript a (.Slice lo hi none p2) p) env st (match (generalizing := false) ra with
    | some (x, st1) => (match rl st1 with
      | some (l, st2) => (match rh st2 with
        | some (h, st3) => (match slcF x l h with
          | some z => some (z, st3)
          | none => none)
        | none => none)
      | none => none)
    | none => none) := by
  intro d st' e m σ H Q hs hr hq
  cases ra with
  | none => cases e
  | some p1 =>
    obtain ⟨x, st1⟩ := p1
    cases h2 : rl st1 with
    | none => simp only [h2] at e; cases e
    | some p2 =>
      obtain ⟨l, st2⟩ := p2
      cases h3 : rh st2 with
      | none => simp only [h2, h3] at e; cases e
      | some p3 =>
        obtain ⟨h, st3⟩ := p3
        cases h4 : slcF x l h with
        | none => simp only [h2, h3, h4] at e; cases e
        | some z =>
          simp only [h2, h3, h4] at e
          cases e
          have ol : ∃ i, optI l = some i := by
            unfold slcF at h4
            split at h4 <;> first | exact ⟨_, by assumption⟩ | cases h4
          have oh : ∃ j, optI h = some j := by
            unfold slcF at h4
            split at h4 <;> first | exact ⟨_, by assumption⟩ | cases h4
          obtain ⟨i, hi'⟩ := ol
          obtain ⟨j, hj'⟩ := oh
          refine useE (pe_slice (sl_list.or sl_tupA) peE poO poO) ?_
          refine ha x st1 rfl m σ H _ hs hr fun m1 v1 H1 x1 s1 p1 => ?_
          refine hl st1 l _ i h2 hi' m1 σ H1 _ s1 (hr.ext hs.cells x1) fun m2 H2 x2 s2 => ?_
          refine hh st2 h _ j h3 hj' m2 σ H2 _ s2 ((hr.ext hs.cells x1).ext s1.cells x2) fun m3 H3 x3 s3 => ?_
          have p3 := (p1.ext s1.cells x2).ext s2.cells x3
          have xx := (x1.trans x2).trans x3
          unfold slcF at h4
          rw [hi', hj'] at h4
          have cut : ∀ {xs : List D} {ys : List V}, Reps X.K m3 (Lv m3 st') H3 xs ys → Reps X.K m3 (Lv m3 st') H3 ((xs.drop (HT.sIx xs.length 0 i)).take (HT.sIx xs.length xs.length j - HT.sIx xs.length 0 i)) (cutV ys i j) := fun {xs ys} r => by
            unfold cutV
            rw [← r.length]
            exact reps_take _ (r.drop _)
          cases x <;> simp only at h4 <;> (try (cases h4; done)) <;> simp only [Rep] at p3
          · cases h4
            rename_i xs
            obtain ⟨q, ys, rfl, g1, g2⟩ := p3
            refine .inr ⟨q, ys, rfl, g1, fun hw => ?_, fun hw p hp => ?_⟩
            · refine hq m3 _ H3 xx s3 ?_
              simp only [Rep]
              refine ⟨q, ys, rfl, g1, ?_⟩
              rw [← g2.length] at hw
              rw [hw.1, hw.2]
              simpa using g2
            · exact hq m3 _ _ (xx.trans (ext_new hp)) (s3.new hp) (rep_tup s3 hp (cut g2))
          · cases h4
            obtain ⟨q, ys, rfl, g1, _, g2⟩ := p3
            exact .inl ⟨q, ys, rfl, .inl (.inl g1), fun p hp => hq m3 _ _ (xx.trans (ext_new hp)) (s3.new hp) (rep_lst s3 hp (cut g2))⟩
          · cases h4
            obtain ⟨q, ys, rfl, g1, g2⟩ := p3
            exact .inl ⟨q, ys, rfl, g1.sqL, fun p hp => hq m3 _ _ (xx.trans (ext_new hp)) (s3.new hp) (rep_lst s3 hp (cut g2))⟩
end
end Mi

set_option Elab.async false
set_option linter.all false
set_option maxRecDepth 100000
set_option maxHeartbeats 4000000
/-! Mi9: a generator expression's own frame. -/
namespace Mi
open PySem PySem.Spec PyProof.Rows L2

/-- where a generator expression's pieces run -/
abbrev gx (X : Cx) (s : Shared) (H : Hp) (cenv : PySem.Env) (A : Around) (fp : List Addr) (pn : List (Addr × Obj)) : Cx :=
  { X with s_0 := s, H_0 := H, env := cenv, A := A, outer := X.stack, stack := cenv :: X.stack, ex := fp, fn := fun _ => false, pn := pn, xe := fun _ _ => False }
structure GenSc (scope : Scope) : Prop where
  kind : scope.kind = .function
  co : scope.isCoroutine = false
  cell : ∀ y ∈ scope.names, y.2 ≠ .cell
  dot : scope.names.lookup (".0" : Str) = some NameKind.local
section
variable {X : Cx} {pins : List (Addr × Obj)} {σ : L2.St} {H : Hp} {s : Shared}
theorem gen_start {scope : Scope} {own : List (Str × Nat)} {fp : List Addr} {code : Value} {A : Around} {h' : Heap} {it : Value} {go : Obj} {G : Array GenState} {tk : Nat}
    (I : Inv X pins σ H s) (ok : BlkOk X.N X.env.scope scope own) (S : GenSc scope) (hN : X.N.Nodup) (hfp : ∀ b ∈ fp, FpOk X pins H b ∧ b < s.heap.objs.size)
    (hA : A.frames = some (genEnv scope (cloFrom X.env.cells scope.names []) s.heap.objs.size code builtinsNs X.env :: X.stack)) (hh : X.calm = true → A.handled = none)
    (hn : h'.Ns s.heap.objs.size (fun y => if y = ".0" then some it else none)) (hs : Heap.SameBut s.heap.objs.size (s.heap.push { cls := .type "frame", data := .dict #[] }) h')
    (hgo : ∀ v, go.data ≠ .cell v) (hfz : ∀ h : Heap, (h.push go).get? h.objs.size = some go) (hG : AllBare G) :
    Inv (gx X s H (genEnv scope (cloFrom X.env.cells scope.names []) s.heap.objs.size code builtinsNs X.env) A fp [(h'.objs.size, go)]) [] (wipe σ (own.map (·.2))) H { s with gens := G, toks := tk, heap := h'.push go } := by
  have hfree : ∀ y ∈ scope.names, y.2 = .free → ∃ c, X.env.cells.lookup y.1 = some c := fun y hy e => by
    rcases ok.free y hy e with k | k
    · exact I.ok.has _ (.inl k)
    · exact I.ok.has _ (.inr k)
  have hsz : h'.objs.size = s.heap.objs.size + 1 := by rw [hs.1, Heap.size_push]
  have kp1 : ∀ b o, s.heap.get? b = some o → h'.get? b = some o := fun b o e => hs.extBut b o (Nat.ne_of_lt (Heap.lt_size e)) (Heap.get?_push_of_some _ e)
  have kp : ∀ b o, s.heap.get? b = some o → (h'.push go).get? b = some o := fun b o e => Heap.get?_push_of_some _ (kp1 b o e)
  generalize hce : genEnv scope (cloFrom X.env.cells scope.names []) s.heap.objs.size code builtinsNs X.env = cenv at hA ⊢
  have hL : cenv.locals = s.heap.objs.size := by rw [← hce]; rfl
  have hcl : cenv.cells = cloFrom X.env.cells scope.names [] := by rw [← hce]; rfl
  have hsc : cenv.scope = scope := by rw [← hce]; rfl
  have mem : ∀ {y c}, cenv.cells.lookup y = some c → X.env.cells.lookup y = some c ∧ c < s.heap.objs.size := fun {y c} e => by
    rw [hcl] at e
    rcases cloFrom_mem (PySem.mem_of_lookup e) with hm | ⟨h1, rfl⟩
    · cases hm
    · obtain ⟨c, hc⟩ := hfree _ h1 rfl
      rw [hc]
      obtain ⟨w, z⟩ := I.cell _ _ hc
      exact ⟨rfl, z.lt⟩
  have look : ∀ {y}, scope.names.lookup y = some .free → ∃ c, cenv.cells.lookup y = some c ∧ X.env.cells.lookup y = some c := fun {y} hl => by
    have hy : (y, NameKind.free) ∈ scope.names := PySem.mem_of_lookup hl
    obtain ⟨c', e'⟩ := mem_lookup (cloFrom_has (cells := X.env.cells) (acc := []) hy)
    rw [← hcl] at e'
    exact ⟨c', e', (mem e').1⟩
  have okB : (gx X s H cenv A fp [(h'.objs.size, go)]).Ok := by
    refine ⟨I.ok.mod, by show cenv.scope.kind = _; rw [hsc]; exact ok.kind, by show cenv.globals = _; rw [← hce]; exact I.ok.glob, by show cenv.builtins = _; rw [← hce]; rfl, by show s.heap.objs.size ≤ cenv.locals; rw [hL]; exact Nat.le_refl _,
      fun y z c e1 e2 => I.ok.inj y z c (mem e1).1 (mem e2).1, fun y hy => ?_, fun y c z e => ?_, hh, hA, .inr ⟨rfl, by show cenv.frame = some cenv.locals; rw [← hce]; rfl⟩, fun b hb => ⟨?_, fun y c e z => ?_⟩, I.bs, Nat.le_trans I.ok.bsz I.sz, fun b o e hb => ?_, fun b hb z => ?_, I.stack, I.stkFree⟩
    · show ∃ c, cenv.cells.lookup y = some c
      rcases hy with hy | hy
      · have hy : scope.names.lookup y = some .cell := by rw [← hsc]; exact hy
        exact absurd rfl (S.cell _ (PySem.mem_of_lookup hy))
      · have hy : scope.names.lookup y = some .free := by rw [← hsc]; exact hy
        obtain ⟨c, h1, _⟩ := look hy
        exact ⟨c, h1⟩
    · cases z
    · show b ≠ cenv.locals
      rw [hL]; exact Nat.ne_of_lt (hfp b hb).2
    · exact (hfp b hb).1.2.2.2.2.1 y c (mem e).1 z
    · rcases (hfp b hb).1.2.2.2.1 with z | z
      · exact I.ok.noex b o e z
      · exact absurd (Nat.lt_of_lt_of_le (Heap.lt_size e) (Nat.le_trans I.ok.bsz z)) (Nat.lt_irrefl _)
    · rcases List.mem_cons.mp (I.stkSub b z) with z | z
      · exact (hfp b hb).1.2.1 z
      · exact (hfp b hb).1.2.2.1 z
  refine ⟨okB, rfl, hG, Un.kept kp, ⟨(fun y => if y = ".0" then some it else none), ?_, fun i y av e1 e2 e3 => ?_⟩, fun y c e => ?_, ?_, fun y c e => ?_, fun p hp => ?_, I.hok.kept kp, by rw [wipe_length]; exact I.len⟩
  · show Heap.Ns _ cenv.locals _
    rw [hL]
    exact hn.push _
  · obtain ⟨e2, hne⟩ := wipe_some e2
    have no : ∀ k, scope.names.lookup y = some k → (k = .local ∨ k = .cell) → False := fun k hk hh => by
      rcases ok.own _ (PySem.mem_of_lookup hk) hh with e' | e'
      · obtain ⟨p, hp, hpy⟩ := List.mem_map.mp e'
        have e3 := ok.ix p hp
        have : p.1 = y := hpy
        rw [this] at e3
        exact hne (List.mem_map.mpr ⟨p, hp, nodup_ix hN e3 e1⟩)
      · exact e' (List.mem_of_getElem? e1)
    have hfr : scope.names.lookup y = some .free := by
      have e3 : Vis cenv.scope y := e3
      rw [hsc] at e3
      rcases e3 with e3 | e3 | e3
      · exact absurd (.inl rfl) (no _ e3)
      · exact absurd (.inr rfl) (no _ e3)
      · exact e3
    obtain ⟨m, _, hl⟩ := I.loc
    have hvis : Vis X.env.scope y := (ok.free _ (PySem.mem_of_lookup hfr) rfl).elim (fun k => .inr (.inl k)) (fun k => .inr (.inr k))
    obtain ⟨w, r, q⟩ := hl i y av e1 e2 hvis
    have hk : cenv.kindOf y = some .free := by show cenv.scope.names.lookup y = _; rw [hsc]; exact hfr
    refine ⟨w, r, .inr ⟨.inr hk, ?_⟩⟩
    obtain ⟨c, h1, h2⟩ := look hfr
    rcases q with ⟨k, _⟩ | ⟨_, c', e', z⟩
    · have k : X.env.scope.names.lookup y = some .local := k
      rcases ok.free _ (PySem.mem_of_lookup hfr) rfl with k' | k' <;> rw [show X.env.scope.names.lookup y = _ from k'] at k <;> cases k
    · rw [h2] at e'; cases e'
      exact ⟨c, h1, z.keeps kp⟩
  · obtain ⟨w, z⟩ := I.cell y c (mem e).1
    exact ⟨w, z.keeps kp⟩
  · show H cenv.locals = none
    rw [hL]; exact I.hok.fresh (Nat.le_refl _)
  · exact I.freeC y c (mem e).1
  · rw [List.append_nil] at hp
    have e : p = (h'.objs.size, go) := List.mem_singleton.mp hp
    subst e
    refine ⟨hfz _, I.hok.fresh (by rw [hsz]; exact Nat.le_succ _), by show h'.objs.size ≠ cenv.locals; rw [hL, hsz]; exact Nat.succ_ne_self _, fun z => ?_, hgo⟩
    rcases List.mem_cons.mp (I.stkSub _ z) with z | z
    · have := I.lt
      rw [← z, hsz] at this
      exact absurd (Nat.lt_of_succ_lt this) (Nat.lt_irrefl _)
    · exact I.nofs (by rw [hsz]; exact Nat.le_succ _) z
/-- back in the caller's context -/
theorem gen_out {H3 H' : Hp} {cenv : PySem.Env} {A : Around} {fp : List Addr} {pn pins' : List (Addr × Obj)} {σ' : L2.St} {s' : Shared} (I : Inv X pins σ H3 s) (hfp : ∀ b ∈ fp, FpOk X pins H3 b) (J : Inv (gx X s H3 cenv A fp pn) pins' σ' H' s') : Inv X pins σ H' s' :=
  I.call' (ch := fp) J.os J.base J.hok J.bare fun b hb => ⟨(hfp b hb).2.2.2.1, (hfp b hb).2.1, (hfp b hb).2.2.2.2.1, (hfp b hb).2.2.2.2.2⟩
end
end Mi

set_option Elab.async false
set_option linter.all false
set_option maxRecDepth 100000
set_option maxHeartbeats 4000000
/-! Mi10: a generator expression's turns. -/
namespace Mi
open PySem PySem.Spec PyProof.Rows L2

/-- what a source hands out -/
def Items (K : PySem.W.Frag) (cs : List (Addr × Addr)) (m : List Addr) (st : Store) (H : Hp) (ds : List D) (J : It) : Prop :=
  ∀ m' st' H', Ext m st H m' st' H' → SC K cs m' st' H' →
    (∀ i d, ds[i]? = some d → J.go i H' ∧ ∀ x H'', J.yld i H' x H'' → Ext m' st' H' m' st' H'' ∧ SC K cs m' st' H'' ∧ Rep K m' (Lv m' st') H'' d x) ∧ J.stop ds.length H'
/-- a target takes a value -/
def tgS (tg : ITg) (v : V) (vs : List V) (σ : L2.St) : L2.St :=
  match tg with
  | .nm i => σ.set i (some v)
  | .tp is => (is.zip vs).foldl (fun σ p => σ.set p.1 (some p.2)) σ
def TgOk (X : Cx) (cs : List (Addr × Addr)) (tg : ITg) (tge : Expr) : Prop :=
  ∀ (m : List Addr) (st : Store) (H : Hp) (d : D) (env env' : Env) (σ : L2.St) (v : V) (Q : L2.St → Hp → Prop), bindT tg d env = some env' → SC X.K cs m st H → EnvR X.K m st H env σ → Rep X.K m (Lv m st) H d v →
    (∀ vs, EnvR X.K m st H env' (tgS tg v vs σ) → Q (tgS tg v vs σ) H) → tGt X tge v σ H Q
def tTs (X : Cx) (ifs : List Expr) : TT := fun σ H Q => ∀ pins s, Inv X pins σ H s →
  wpAny (model X.prog X.w) X.A (forIn ifs true fun c r => if r = true then do let ok ← isTrue c X.env (eval c X.env); pure (ForInStep.yield ok) else pure (ForInStep.yield r)) (TP X pins σ Q) X.xe s
def TsOk (X : Cx) (cs : List (Addr × Addr)) (ifs : List Expr) (env : Env) (st : Store) (r : Option (Bool × Store)) : Prop :=
  ∀ b st', r = some (b, st') → ∀ m σ H (Q : Bool → Hp → Prop), SC X.K cs m st H → EnvR X.K m st H env σ →
    (∀ m' H', Ext m st H m' st' H' → SC X.K cs m' st' H' → Q b H') → tTs X ifs σ H Q
theorem ts_none {X : Cx} {cs : List (Addr × Addr)} {env st} : TsOk X cs [] env st (some (true, st)) := by
  intro b st' e m σ H Q hs hr hq
  cases e
  exact fun pins s I => pts_nil.run pins s σ H Q I (hq m H Ext.refl hs)
theorem ts_some {X : Cx} {cs : List (Addr × Addr)} {c : Expr} {env st} {r : Option (Bool × Store)} (h : TOk X cs c env st r) : TsOk X cs [c] env st r := by
  intro b st' e m σ H Q hs hr hq
  exact fun pins s I => (pts_one ptT).run pins s σ H Q I (h b st' e m σ H Q hs hr hq)
/-- one turn's data -/
def turnF (c : CallT) (env0 : Env) (tg : ITg) (cond : ITo) (elt : IE) (x : D) (s : Store) : Option (Option D × Store) :=
  match bindT tg x env0 with
  | some env' => (match evTo c env' cond s with
    | some (true, s1) => (match evE c env' elt s1 with
      | some (y, s2) => some (some y, s2)
      | none => none)
    | some (false, s1) => some (none, s1)
    | none => none)
  | none => none
/-- the consumer's own list -/
structure Con where
  at_ : List Addr
  cont : List V → Obj → Prop
def SleptC (C : Con) (vs : List V) (s s' : Shared) : Prop :=
  s'.os = s.os ∧ AllBare s'.gens ∧ (∀ b o, b ∉ C.at_ → s.heap.get? b = some o → s'.heap.get? b = some o) ∧ ∀ b ∈ C.at_, ∃ o, s'.heap.get? b = some o ∧ C.cont vs o ∧ ∀ v, o.data ≠ .cell v
theorem wokenC {X : Cx} {ps pl : List (Addr × Obj)} {σ : L2.St} {H : Hp} {s s' : Shared} {C : Con} {vs : List V} (I : Inv X (ps ++ pl) σ H s) (hc : ∀ b ∈ C.at_, ∃ o, (b, o) ∈ ps)
    (ok : ∀ b ∈ C.at_, X.s_0.heap.objs.size ≤ b ∧ b ≠ X.env.locals ∧ (∀ x c, X.env.cells.lookup x = some c → c ≠ b) ∧ ∀ p ∈ X.pn ++ pl, p.1 ≠ b) (z : SleptC C vs s s') :
    Inv X (pinsAt C.at_ s'.heap ++ pl) σ H s' := by
  obtain ⟨z1, z2, z3, z4⟩ := z
  have I0 : Inv X pl σ H s := I.pins_of fun p hp => I.pin p (List.mem_append_right _ (List.mem_append_right _ hp))
  have hn : ∀ b ∈ C.at_, H b = none ∧ b ≠ X.env.locals ∧ b ∉ X.fs := fun b hb => by
    obtain ⟨o, ho⟩ := hc b hb
    obtain ⟨_, h2, h3, h4, _⟩ := I.pin (b, o) (List.mem_append_right _ (List.mem_append_left _ ho))
    exact ⟨h2, h3, h4⟩
  have nt : ∀ b u, H b = some u → b ∉ C.at_ := fun b u q hb => by rw [(hn b hb).1] at q; cases q
  have J : Inv X pl σ H s' := by
    refine I0.call' (ch := C.at_) z1 ⟨fun b o q _ _ hb => z3 b o hb q, fun b o q _ _ hb => ⟨o.slots, z3 b o hb q⟩, fun _ _ _ n _ => n, fun b o q hb => ⟨o, z3 b o hb q⟩, fun _ _ q => q, fun _ _ _ q => q, fun b qs q => ⟨#[], by rw [q]; simp⟩⟩ (fun b u q => ?_) z2
      (fun b hb => ⟨.inr (ok b hb).1, (ok b hb).2.1, (ok b hb).2.2.1, (ok b hb).2.2.2⟩)
    refine (I0.hok b u q).stay (fun c v hc y => z3 c v ?_ y) (fun _ y => y) fun _ _ y => y
    rcases hc with y | y
    · rw [y]; exact nt b u q
    · exact nt c _ y
  refine J.pins_of fun p hp => ?_
  rcases List.mem_append.mp hp with hp | hp
  · obtain ⟨hb, e⟩ := of_pinsAt hp
    obtain ⟨o, e', _, hd⟩ := z4 p.1 hb
    rw [e] at e'; cases e'
    exact ⟨e, (hn p.1 hb).1, (hn p.1 hb).2.1, (hn p.1 hb).2.2, hd⟩
  · exact J.pin p (List.mem_append_right _ hp)

section
variable (X : Cx) (pins : List (Addr × Obj)) (σ : L2.St) (cs : List (Addr × Addr)) (m0 : List Addr) (st0 : Store) (H0 : Hp) (C : Con) (a : Addr) (g : Nat) (k : GK) (tot : List D) (stF : Store)
/-- an item comes out -/
def YC : Protocol := fun n _ v s kap => ∃ ds d es vs x st m H, tot = ds ++ d :: es ∧ es.length + 1 = n ∧ RelV x v ∧ Inv X pins σ H s ∧ SC X.K cs m st H ∧ Ext m0 st0 H0 m st H ∧ Reps X.K m (Lv m st) H (ds ++ [d]) (vs ++ [x]) ∧
  (∀ b ∈ C.at_, H b = none ∧ ∃ o, s.heap.get? b = some o ∧ C.cont vs o) ∧ s.heap.IsGen a g ∧ (stopG k d = true → st = stF ∧ es = []) ∧ (stopG k d = false → ∀ s', SleptC C (vs ++ [x]) s s' → kap (.send .none) s')
/-- it is at its end -/
def PC (n : Nat) (_ : Shared) (s : Shared) : Prop := n = 1 ∧ ∃ vs m H, Inv X pins σ H s ∧ SC X.K cs m stF H ∧ Ext m0 st0 H0 m stF H ∧ Reps X.K m (Lv m stF) H tot vs ∧
  (∀ b ∈ C.at_, H b = none ∧ ∃ o, s.heap.get? b = some o ∧ C.cont vs o) ∧ s.heap.IsGen a g
abbrev RC : GenEnd := fun n s₀ r s => r = .ok .next ∧ PC X pins σ cs m0 st0 H0 C a g tot stF n s₀ s
end
/-- the slots behind a target -/
theorem wipe_tgS {tg : ITg} {v : V} {vs : List V} {σ : L2.St} {own : List Nat} (h : tgOwn tg own = true) : wipe (tgS tg v vs σ) own = wipe σ own := by
  have one : ∀ {i : Nat} {w : V} {σ : L2.St} {own : List Nat}, i ∈ own → wipe (σ.set i (some w)) own = wipe σ own := by
    intro i w σ own hi
    induction own generalizing σ with
    | nil => cases hi
    | cons o r ih =>
      unfold wipe
      by_cases e : i ∈ r
      · rw [ih e]
      · have e2 : i = o := by
          rcases List.mem_cons.mp hi with z | z
          · exact z
          · exact absurd z e
        subst e2
        have out : ∀ {r : List Nat} {σ : L2.St}, i ∉ r → wipe (σ.set i (some w)) r = (wipe σ r).set i (some w) := by
          intro r
          induction r with
          | nil => intro σ _; rfl
          | cons q r ih2 =>
            intro σ hn
            simp only [List.mem_cons, not_or] at hn
            unfold wipe
            rw [ih2 hn.2, List.set_comm _ _ hn.1]
        rw [out e, List.set_set]
  cases tg with
  | nm i => exact one (by simpa [tgOwn] using h)
  | tp is =>
    simp only [tgOwn, List.all_eq_true, List.contains_iff_mem] at h
    show wipe ((is.zip vs).foldl (fun σ p => σ.set p.1 (some p.2)) σ) own = _
    induction is generalizing σ vs with
    | nil => simp
    | cons i r ih =>
      cases vs with
      | nil => simp
      | cons w ws =>
        simp only [List.zip_cons_cons, List.foldl_cons]
        rw [ih fun j hj => h j (List.mem_cons_of_mem _ hj)]
        exact one (h i List.mem_cons_self)

section
variable {X : Cx} {pins : List (Addr × Obj)} {σ : L2.St} {cs : List (Addr × Addr)} {m0 : List Addr} {st0 : Store} {H0 H3 : Hp} {s3 : Shared} {C : Con} {a : Addr} {g : Nat} {k : GK} {tot : List D} {stF : Store}
theorem seg_gx {elt tge iter : Expr} {ifs : List Expr} {scope : Scope} {pos : Pos} {it : Addr} {fp : List Addr} {tn : Nat → Heap → Prop} {J : It} {cenv : PySem.Env} {A : Around} {go : Obj} {c : CallT} {env0 : Env} {tg : ITg} {cond : ITo} {eltI : IE} {own : List Nat} {items : List D} {wσ : L2.St}
    (I3 : Inv X pins σ H3 s3) (hfp : ∀ b ∈ fp, FpOk X pins H3 b)
    (G : Cx) (hG : G = gx X s3 H3 cenv (A.over (.compLoop (.GeneratorExp elt [⟨tge, iter, ifs, 0⟩] scope pos) 0 (.ref it) .none cenv) []) fp [(a, go)])
    (hco : cenv.scope.isCoroutine = false) (hcalm : X.calm = true) (hgo : ∀ h : Heap, h.get? a = some go → h.IsGen a g)
    (T : Turn X.prog X.w X.K tge J fp it tn) (hI : Items X.K cs m0 st0 H0 items J)
    (hT : TgOk G cs tg tge) (hC : ∀ env st, TsOk G cs ifs env st (evTo c env cond st)) (hE : ∀ env st, EOk G cs elt env st (evE c env eltI st))
    (haf : a ∉ fp) (hown : tgOwn tg own = true) (hw : wipe wσ own = wσ)
    (hCon : ∀ b ∈ C.at_, s3.heap.objs.size ≤ b ∧ b ≠ cenv.locals ∧ (∀ x c, cenv.cells.lookup x = some c → c ≠ b) ∧ b ≠ a ∧ b ∉ fp) :
    ∀ (rest : List D) (i : Nat) (ds ys : List D) (vs : List V) (st : Store) (m : List Addr) (H : Hp) (s₀ s : Shared) (ps : List (Addr × Obj)), items.drop i = rest → i + rest.length = items.length → mapGs k (turnF c env0 tg cond eltI) rest st = some (ys, stF) → tot = ds ++ ys →
      Inv G ps wσ H s → tn i s.heap → (∀ b ∈ fp, H b = none) → SC X.K cs m st H → Ext m0 st0 H0 m st H → EnvR X.K m st H env0 wσ → Reps X.K m (Lv m st) H ds vs →
      (∀ p ∈ ps, p.1 ∈ C.at_) → (∀ b ∈ C.at_, ∃ o, (b, o) ∈ ps ∧ C.cont vs o) →
      Seg (model X.prog X.w) A (RC X pins σ cs m0 st0 H0 C a g tot stF) (YC X pins σ cs m0 st0 H0 C a g k tot stF) (ys.length + 1) s₀
        (.compLoop (.GeneratorExp elt [⟨tge, iter, ifs, 0⟩] scope pos) 0 (.ref it) .none cenv)
        ((model X.prog X.w).den (.compLoop (.GeneratorExp elt [⟨tge, iter, ifs, 0⟩] scope pos) 0 (.ref it) .none cenv)) [] s := by
  have hGp : G.prog = X.prog := by rw [hG]
  have hGw : G.w = X.w := by rw [hG]
  have hGK : G.K = X.K := by rw [hG]
  have hGc : G.calm = true := by rw [hG]; exact hcalm
  have hGA : (A.over (.compLoop (.GeneratorExp elt [⟨tge, iter, ifs, 0⟩] scope pos) 0 (.ref it) .none cenv) []) = G.A := by rw [hG]
  have hGe : G.env = cenv := by rw [hG]
  have hGx : G.xe = fun _ _ => False := by rw [hG]
  have hGs : G.s_0 = s3 := by rw [hG]
  have hGpn : G.pn = [(a, go)] := by rw [hG]
  have out : ∀ {ps' σ' H' s'}, Inv G ps' σ' H' s' → Inv X pins σ H' s' := fun {ps' σ' H' s'} J => by
    rw [hG] at J
    exact gen_out I3 hfp J
  have gen : ∀ {ps' σ' H' s'}, Inv G ps' σ' H' s' → s'.heap.IsGen a g := fun {ps' σ' H' s'} J => by
    have := (J.pin (a, go) (List.mem_append_left _ (by rw [hG]; exact List.mem_singleton.mpr rfl))).1
    exact hgo _ this
  have stat : ∀ {ps' : List (Addr × Obj)} {σ' : L2.St} {H' : Hp} {s' : Shared}, Inv G ps' σ' H' s' → (∀ p ∈ ps', p.1 ∈ C.at_) → (∀ b ∈ fp, H' b = none) → ∀ b ∈ fp, FpOk G ps' H' b := fun {ps' σ' H' s'} I' hps hn b hb => by
    have hex : b ∈ G.ex := by rw [hG]; exact hb
    refine ⟨hn b hb, (I'.ok.exf b hex).1, I'.ok.exfs b hex, .inl hex, fun x c e => (I'.ok.exf b hex).2 x c e, fun p hp z => ?_⟩
    rcases List.mem_append.mp hp with hp | hp
    · have e : p = (a, go) := by rw [hG] at hp; exact List.mem_singleton.mp hp
      subst e
      exact haf (by rw [show a = b from z]; exact hb)
    · exact (hCon p.1 (hps p hp)).2.2.2.2 (by rw [z]; exact hb)
  have fini : ∀ {ps' ds' st' m' H' s'} {vs' : List V}, Inv G ps' wσ H' s' → SC X.K cs m' st' H' → Ext m0 st0 H0 m' st' H' → Reps X.K m' (Lv m' st') H' ds' vs' → (∀ b ∈ C.at_, ∃ o, (b, o) ∈ ps' ∧ C.cont vs' o) →
      st' = stF → tot = ds' → ∀ s₀, PC X pins σ cs m0 st0 H0 C a g tot stF 1 s₀ s' := by
    intro ps' ds' st' m' H' s' vs' I' q1 q2 q3 q4 e1 e2 s₀
    subst e1 e2
    refine ⟨rfl, vs', m', H', out I', q1, q2, q3, fun b hb => ?_, gen I'⟩
    obtain ⟨o, ho, hc⟩ := q4 b hb
    obtain ⟨z1, z2, _⟩ := I'.pin (b, o) (List.mem_append_right _ ho)
    exact ⟨z2, o, z1, hc⟩
  intro rest
  induction rest with
  | nil =>
    intro i ds ys vs st m H s₀ s ps hd hi hm ht I st1 hn hs hx hr hv hp1 hp2
    simp only [mapGs, Option.some.injEq, Prod.mk.injEq] at hm
    obtain ⟨rfl, rfl⟩ := hm
    rw [List.append_nil] at ht
    show Seg _ A _ _ _ s₀ _ ((compTurn (.GeneratorExp elt [⟨tge, iter, ifs, 0⟩] scope pos) 0 (.ref it) .none cenv).onRaise (leaving cenv)) [] s
    rw [compTurn_gen, Sem.onRaise_eq_wrap]
    refine seg_bind_wrap (wpAny_standAt ?_)
    have hstop : J.stop i H := by
      have z := (hI m st H hx hs).2
      have e : i = items.length := by simpa using hi
      rw [e]; exact z
    have td := T.done G hGp hGw hGK hGc i ps s _ H (fun _ _ => False) I (stat I hp1 hn) st1 hstop
    refine seg_bind_wrap ?_
    rw [hGA]
    refine thnF td fun r s6 ⟨hr', I6⟩ => ?_
    subst hr'
    exact seg_end (.ok .next) ⟨rfl, fini I6 hs hx hv hp2 rfl ht s₀⟩
  | cons d rest ih =>
    intro i ds ys vs st m H s₀ s ps hd hi hm ht I st1 hn hs hx hr hv hp1 hp2
    have hat : items[i]? = some d := by
      have := congrArg List.head? hd
      rw [List.head?_drop] at this
      simpa using this
    have hd' : items.drop (i + 1) = rest := by
      have := congrArg List.tail hd
      rw [List.tail_drop] at this
      simpa using this
    have hi' : i + 1 + rest.length = items.length := by
      rw [List.length_cons] at hi; omega
    show Seg _ A _ _ _ s₀ _ ((compTurn (.GeneratorExp elt [⟨tge, iter, ifs, 0⟩] scope pos) 0 (.ref it) .none cenv).onRaise (leaving cenv)) [] s
    rw [compTurn_gen, Sem.onRaise_eq_wrap]
    refine seg_bind_wrap (wpAny_standAt ?_)
    have zi := (hI m st H hx hs).1 i d hat
    have ti := T.item G hGp hGw hGK hGc i ps s _ H (fun _ _ => False) I (stat I hp1 hn) st1 zi.1
    refine seg_bind_wrap ?_
    rw [hGA]
    refine thnF ti fun r s6 ⟨u, hr', h6⟩ => ?_
    subst hr'
    refine seg_bind_wrap ?_
    rw [hGA]
    refine thnF h6 fun _ s7 ⟨x, H7, I7, r7, y7, st7, n7⟩ => ?_
    obtain ⟨x7, sc7, rp7⟩ := zi.2 x H7 y7
    have I7' := I7.pinned (stat I7 hp1 n7) (T.obj _ _ st7)
    have back : ∀ {σ8 : L2.St} {H' : Hp} {s' : Shared} {vs' : List V}, σ8 = tgS tg x vs' wσ → Inv G (ps ++ pinsAt fp s7.heap) σ8 H' s' → Inv G ps wσ H' s' ∧ tn (i + 1) s'.heap ∧ ∀ b ∈ fp, H' b = none := by
      intro σ8 H' s' vs' e I'
      have hw8 : wipe σ8 own = wσ := by rw [e, wipe_tgS hown, hw]
      have pin' : ∀ b ∈ fp, ∀ o, s7.heap.get? b = some o → s'.heap.get? b = some o ∧ H' b = none := fun b hb o e =>
        let z := I'.pin (b, o) (List.mem_append_right _ (List.mem_append_right _ (mem_pinsAt hb e)))
        ⟨z.1, z.2.1⟩
      have hl : wσ.length = σ8.length := by rw [← hw8, wipe_length]
      refine ⟨(I'.unpinned (pins := ps)).weak hl (fun j v e => ?_), T.keep _ _ _ st7 fun b hb o e => (pin' b hb o e).1, fun b hb => ?_⟩
      · rw [← hw8] at e
        exact (wipe_some e).1
      · obtain ⟨o, e, _⟩ := T.obj _ _ st7 b hb
        exact (pin' b hb o e).2
    cases hb : bindT tg d env0 with
    | none =>
      simp only [mapGs, turnF, hb] at hm
      cases hm
    | some env' =>
      have hA := hT m st H7 d env0 env' wσ x (fun σ8 H8 => H8 = H7 ∧ ∃ vs', σ8 = tgS tg x vs' wσ ∧ EnvR G.K m st H7 env' σ8) hb (by rw [hGK]; exact sc7) (by rw [hGK]; exact hr.ext hs.cells x7) (by rw [hGK]; exact rp7)
        (fun vs' er => ⟨rfl, vs', rfl, er⟩) _ s7 u I7' r7
      rw [hGp, hGw, hGe, hGx] at hA
      refine seg_bind_wrap ?_
      rw [hGA]
      refine thnF hA fun _ s8 ⟨σ8, H8, I8, eH, vs', eσ, er⟩ => ?_
      subst eH
      cases hc : evTo c env' cond st with
      | none =>
        simp only [mapGs, turnF, hb, hc] at hm
        cases hm
      | some p =>
        obtain ⟨b, st2⟩ := p
        have hB := hC env' st b st2 hc m σ8 H8 (fun b' H9 => b' = b ∧ ∃ m9, Ext m st H8 m9 st2 H9 ∧ SC G.K cs m9 st2 H9) (by rw [hGK]; exact sc7) er (fun m9 H9 x9 s9 => ⟨rfl, m9, x9, s9⟩) _ s8 I8
        rw [hGp, hGw, hGe, hGx] at hB
        refine seg_bind_wrap ?_
        rw [hGA]
        refine thnF hB fun b' s9 ⟨H9, I9, eb, m9, x9, sc9⟩ => ?_
        subst eb
        rw [hGK] at sc9 er
        have x79 := x7.trans x9
        cases b' with
        | false =>
          simp only [mapGs, turnF, hb, hc] at hm
          simp only [Bool.false_eq_true, if_false]
          obtain ⟨k1, k2, k3⟩ := back eσ I9
          exact seg_again rfl (ih (i + 1) ds ys vs st2 m9 H9 s₀ s9 ps hd' hi' hm ht k1 k2 k3 sc9 (hx.trans x79) (hr.ext hs.cells x79) (hv.ext hs.cells x79) hp1 hp2)
        | true =>
          simp only [if_true]
          cases he : evE c env' eltI st2 with
          | none =>
            simp only [mapGs, turnF, hb, hc, he] at hm
            cases hm
          | some q =>
            obtain ⟨y, st3⟩ := q
            simp only [mapGs, turnF, hb, hc, he] at hm
            have hy : ∀ v, yieldOut cenv v = yieldValue v := fun v => by simp only [yieldOut, hco, Bool.false_eq_true, if_false]
            simp only [hy]
            rw [Sem.bind_eq_wrap', Sem.bind_eq_wrap', Sem.wrap_wrap, Sem.wrap_wrap]
            refine seg_wrap ?_
            rw [hGA]
            have er9 : EnvR G.K m9 st2 H9 env' σ8 := by rw [hGK]; exact er.ext sc7.cells x9
            have hEv := hE env' st2 y st3 he m9 σ8 H9 (fun v H10 => ∃ m10, Ext m9 st2 H9 m10 st3 H10 ∧ SC G.K cs m10 st3 H10 ∧ Rep G.K m10 (Lv m10 st3) H10 y v) (by rw [hGK]; exact sc9) er9 (fun m10 v H10 x10 s10 p10 => ⟨m10, x10, s10, p10⟩) _ s9 I9
            rw [hGp, hGw, hGe, hGx] at hEv
            refine thnF hEv fun w s10 ⟨v, H10, I10, rv, m10, x10, sc10, p10⟩ => ?_
            rw [hGK] at sc10 p10
            have x710 := x79.trans x10
            obtain ⟨k1, k2, k3⟩ := back eσ I10
            have hvs : Reps X.K m10 (Lv m10 st3) H10 (ds ++ [y]) (vs ++ [v]) := (hv.ext hs.cells x710).append (by simp only [Reps]; exact ⟨v, [], rfl, p10, rfl⟩)
            have hcont : ∀ b ∈ C.at_, H10 b = none ∧ ∃ o, s10.heap.get? b = some o ∧ C.cont vs o := fun b hb' => by
              obtain ⟨o, ho, hcc⟩ := hp2 b hb'
              obtain ⟨z1, z2, _⟩ := k1.pin (b, o) (List.mem_append_right _ ho)
              exact ⟨z2, o, z1, hcc⟩
            cases hst : stopG k y with
            | true =>
              rw [hst, if_pos rfl] at hm
              simp only [Option.some.injEq, Prod.mk.injEq] at hm
              obtain ⟨rfl, rfl⟩ := hm
              refine seg_at (seg_yield rfl rfl rfl ⟨ds, y, [], vs, v, st3, m10, H10, ht, rfl, rv, out I10, sc10, hx.trans x710, hvs, hcont, gen I10, fun _ => ⟨rfl, rfl⟩, fun e => ?_⟩)
              rw [hst] at e; cases e
            | false =>
              rw [hst, if_neg Bool.false_ne_true] at hm
              cases hm2 : mapGs k (turnF c env0 tg cond eltI) rest st3 with
              | none => rw [hm2] at hm; cases hm
              | some q2 =>
                obtain ⟨ys2, st4⟩ := q2
                rw [hm2] at hm
                simp only [Option.some.injEq, Prod.mk.injEq] at hm
                obtain ⟨rfl, rfl⟩ := hm
                refine seg_at (seg_yield rfl rfl rfl ⟨ds, y, ys2, vs, v, st3, m10, H10, ht, rfl, rv, out I10, sc10, hx.trans x710, hvs, hcont, gen I10, fun e => ?_, fun _ s' hsl => ?_⟩)
                · rw [hst] at e; cases e
                · have I11 := wokenC (pl := pinsAt fp s7.heap) (vs := vs ++ [v]) I10 (fun b hb' => by
                    obtain ⟨o, ho, _⟩ := hp2 b hb'
                    exact ⟨o, ho⟩) (fun b hb' => by
                    obtain ⟨c1, c2, c3, c4, c5⟩ := hCon b hb'
                    rw [hGs, hGe, hGpn]
                    refine ⟨c1, Ne.symm (Ne.symm c2), c3, fun p hp z => ?_⟩
                    rcases List.mem_append.mp hp with hp | hp
                    · have e : p = (a, go) := List.mem_singleton.mp hp
                      subst e
                      exact c4 z.symm
                    · exact c5 (by rw [← z]; exact (of_pinsAt hp).1)) hsl
                  have keep11 : ∀ b ∈ fp, ∀ o, s7.heap.get? b = some o → s'.heap.get? b = some o ∧ H10 b = none := fun b hb' o e =>
                    let z := I11.pin (b, o) (List.mem_append_right _ (List.mem_append_right _ (mem_pinsAt hb' e)))
                    ⟨z.1, z.2.1⟩
                  have hw8 : wipe σ8 own = wσ := by rw [eσ, wipe_tgS hown, hw]
                  have hl : wσ.length = σ8.length := by rw [← hw8, wipe_length]
                  have J11 : Inv G (pinsAt C.at_ s'.heap) wσ H10 s' := (I11.unpinned (pins := pinsAt C.at_ s'.heap)).weak hl (fun j v e => by
                    rw [← hw8] at e
                    exact (wipe_some e).1)
                  refine seg_again rfl (ih (i + 1) (ds ++ [y]) ys2 (vs ++ [v]) st3 m10 H10 s' s' (pinsAt C.at_ s'.heap) hd' hi' hm2 (by rw [ht]; simp) J11 (T.keep _ _ _ st7 fun b hb' o e => (keep11 b hb' o e).1) k3 sc10 (hx.trans x710) (hr.ext hs.cells x710) hvs
                    (fun p hp => (of_pinsAt hp).1) (fun b hb' => ?_))
                  obtain ⟨o, o1, o2, _⟩ := hsl.2.2.2 b hb'
                  exact ⟨o, mem_pinsAt hb' o1, o2⟩
end
end Mi

set_option Elab.async false
set_option linter.all false
set_option maxRecDepth 100000
set_option maxHeartbeats 4000000
/-! Mi11: a generator expression is made. -/
namespace Mi
open PySem PySem.Spec PyProof.Rows L2

/-- room for one frame more and a builtin over it -/
structure RoomG (k : Nat) (A : Around) : Prop where
  dp : A.depth + 3 * k + 7 < recursionLimit
  un : A.units + 16 * k + 212 < cLine
/-- a generator expression that has not begun; Q: how its turns go -/
def Made (X : Cx) (pins : List (Addr × Obj)) (σ : L2.St) (cs : List (Addr × Addr)) (k : Nat) (gk : GK) (tot : List D) (m : List Addr) (st : Store) (stF : Store) (H : Hp) (u : Value) (s : Shared) : Prop :=
  ∃ (a : Addr) (g : Nat) (c : Code), u = .ref a ∧ a < s.heap.objs.size ∧ s.heap.IsGen a g ∧ s.gens[g]? = some (.fresh c) ∧ Inv X pins σ H s ∧ SC X.K cs m st H ∧
    ∀ (A : Around) (C : Con) (s2 : Shared), A.frames = some X.stack → A.handled = none → A.guards = some [] → A.depth + 3 * k + 6 < recursionLimit → A.units + 16 * k + 203 < cLine →
      (∀ b ∈ C.at_, s.heap.objs.size ≤ b) → s2.os = s.os → AllBare s2.gens → (∀ b o, s.heap.get? b = some o → s2.heap.get? b = some o) → (∀ b ∈ C.at_, ∃ o, s2.heap.get? b = some o ∧ C.cont [] o ∧ ∀ v, o.data ≠ .cell v) →
      Seg (model X.prog X.w) A (RC X pins σ cs m st H C a g tot stF) (YC X pins σ cs m st H C a g gk tot stF) (tot.length + 1) s2 c ((model X.prog X.w).den c) [] s2
theorem ext_tab {m : List Addr} {st : Store} {H : Hp} {P : Addr} {ps more : Array Value} (hP : H P = some (.tbl ps)) : Ext m st H m st (upd H P (.tbl (ps ++ more))) where
  pre := fun _ _ h => h
  keep := fun b o h _ nt => by
    have hb : b ≠ P := fun e => by rw [e, hP] at h; exact nt ps (Option.some.inj h).symm
    rw [upd_ne hb]; exact h
  tbl := fun b qs h => by
    by_cases hb : b = P
    · subst hb
      rw [hP] at h; cases h
      exact ⟨more, upd_same⟩
    · exact ⟨#[], by rw [upd_ne hb]; simpa using h⟩
  new := fun _ h => .inl h
theorem SC.tabbed {K : PySem.W.Frag} {cs : List (Addr × Addr)} {m : List Addr} {st : Store} {H : Hp} {P : Addr} {ps more : Array Value} (s : SC K cs m st H) (hP : H P = some (.tbl ps)) (ht : TriplesOk (ps ++ more).toList) : SC K cs m st (upd H P (.tbl (ps ++ more))) where
  len := s.len
  cell := fun n xs h => by
    obtain ⟨a, ys, h1, h2, h3⟩ := s.cell n xs h
    have ha : a ≠ P := fun e => by rw [e, hP] at h2; cases h2
    exact ⟨a, ys, h1, by rw [upd_ne ha]; exact h2, h3.ext s.cells (ext_tab hP)⟩
  inj := s.inj
  tab := fun q hq => by
    by_cases hb : q.2 = P
    · rw [hb]
      exact ⟨ps ++ more, upd_same, ht⟩
    · obtain ⟨qs, h1, h2⟩ := s.tab q hq
      exact ⟨qs, by rw [upd_ne hb]; exact h1, h2⟩
def IOk (X : Cx) (cs : List (Addr × Addr)) (tge iter : Expr) (env : Env) (st : Store) (r : Option (List D × Store)) : Prop :=
  ∀ ds st', r = some (ds, st') → ∀ m σ H (R : It → Hp → Prop), SC X.K cs m st H → EnvR X.K m st H env σ →
    (∀ m' J H', Ext m st H m' st' H' → SC X.K cs m' st' H' → Items X.K cs m' st' H' ds J → R J H') → tIt X tge iter σ H R
theorem over_start {A : Around} {elt : Expr} {gs : List Comprehension} {scope : Scope} {pos : Pos} {it acc : Value} {cenv : PySem.Env} {fr : List PySem.Env} (hf : A.frames = some fr) :
    (A.over (.compLoop (.GeneratorExp elt gs scope pos) 0 it acc cenv) []).frames = some (cenv :: fr) := by
  obtain ⟨hd, d, fr', gs, u⟩ := A
  simp only at hf
  subst hf
  rfl
theorem over_guards {A : Around} {e : Expr} {it acc : Value} {cenv : PySem.Env} (hf : A.guards = some []) :
    (A.over (.compLoop e 0 it acc cenv) []).guards = some [] := by
  obtain ⟨hd, d, fr', gs, u⟩ := A
  simp only at hf
  subst hf
  rfl
theorem wipe_wipe {σ : L2.St} {own : List Nat} : wipe (wipe σ own) own = wipe σ own := by
  have out : ∀ {r : List Nat} {σ : L2.St} {o : Nat}, wipe (σ.set o none) r = (wipe σ r).set o none := by
    intro r
    induction r with
    | nil => intro σ o; rfl
    | cons q r ih =>
      intro σ o
      unfold wipe
      rw [ih]
      by_cases e : o = q
      · subst e; rfl
      · rw [List.set_comm _ _ e]
  induction own generalizing σ with
  | nil => rfl
  | cons o r ih =>
    show (wipe ((wipe σ r).set o none) r).set o none = (wipe σ r).set o none
    rw [out, ih, List.set_set]
section
variable {W : Wld} {k : Nat} {N : List Str} {sc : Scope} {X : Cx}
theorem Cxt.gx (C : Cxt W k N sc X) {s : Shared} {H : Hp} {cenv : PySem.Env} {A : Around} {fp : List Addr} {pn : List (Addr × Obj)} (hr : Room k A) (hg : A.guards = some []) : Cxt W k N cenv.scope (gx X s H cenv A fp pn) :=
  ⟨rfl, C.hN, C.nd, C.calm, hr, hg, ⟨C.mdl.free, C.mdl.gcd, C.mdl.lcm, C.mdl.fns, C.mdl.gcs⟩⟩
theorem sto_gx {s : Shared} {H : Hp} {cenv : PySem.Env} {A : Around} {fp : List Addr} {pn : List (Addr × Obj)} (S : GenSc cenv.scope) : Sto (locB cenv.scope) (Mi.gx X s H cenv A fp pn) := fun x hx =>
  ⟨locB_ok hx, by
    rcases locB_ok hx with h | h
    · exact .inr h
    · exact absurd rfl (S.cell _ (PySem.mem_of_lookup h))⟩
theorem gen_made (C : Cxt W k N sc X) (RG : RoomG k X.A) {c P : Addr} (TB : GxR.TabB X.base X.mg c P) (hcode : X.env.code = .ref c) (hcs : (c, P) ∈ W.cs)
    {elt tge iter : Expr} {ifs : List Expr} {scope : Scope} {own : List (Str × Nat)} {gpos : Pos} {tg : ITg} {cond : ITo} {eltI : IE} {gk : GK} {env : Env} {st : Store} {r : Option (List D × Store)}
    (ok : BlkOk N sc scope own) (S : GenSc scope) (hi : IOk X W.cs tge iter env st r) (hfold : ∀ v, genFold iter X.env v = pure v) (hown : tgOwn tg (own.map (·.2)) = true)
    (hB : ∀ G, Cxt W k N scope G → Sto (locB scope) G → TgOk G W.cs tg tge ∧ (∀ env st, TsOk G W.cs ifs env st (evTo (callF W.T W.F k) env cond st)) ∧ ∀ env st, EOk G W.cs elt env st (evE (callF W.T W.F k) env eltI st))
    {items : List D} {st1 stF : Store} {tot : List D} (hr : r = some (items, st1)) (hm : mapGs gk (turnF (callF W.T W.F k) (wipeE env (own.map (·.2))) tg cond eltI) items st1 = some (tot, stF))
    {m : List Addr} {σ : L2.St} {H : Hp} {pins : List (Addr × Obj)} {s : Shared} {Q' : Value → Shared → Prop} (hs : SC X.K W.cs m st H) (he : EnvR X.K m st H env σ) (I : Inv X pins σ H s)
    (hQ : ∀ u s5 m5 H5, Ext m st H m5 st1 H5 → Made X pins σ W.cs k gk tot m5 st1 stF H5 u s5 → Q' u s5) :
    wpAny (model X.prog X.w) X.A (eval (.GeneratorExp elt [⟨tge, iter, ifs, 0⟩] scope gpos) X.env) Q' X.xe s := by
  have hfree : ∀ y ∈ scope.names, y.2 = .free → ∃ c, X.env.cells.lookup y.1 = some c := fun y hy e => by
    have z := ok.free y hy e
    rw [← C.hsc] at z
    rcases z with z | z
    · exact I.ok.has _ (.inl z)
    · exact I.ok.has _ (.inr z)
  refine wpAny_GeneratorExp_make S.co (closure_ok hfree) S.cell S.dot S.kind (by have := RG.dp; omega) ?_ hfold
  refine thn (hi items st1 hr m σ H (fun J H' => ∃ m', Ext m st H m' st1 H' ∧ SC X.K W.cs m' st1 H' ∧ Items X.K W.cs m' st1 H' items J) hs he (fun m' J H' a b c => ⟨m', a, b, c⟩) pins s I) fun xv s1 h1 => thn h1 fun itv s2 h2 => ?_
  obtain ⟨it, fp, tn, J, H2, e, I2, T, st2, f2, m2, x2, sc2, hit⟩ := h2
  subst e
  refine ⟨I2.nolimit, ?_⟩
  obtain ⟨ps, hP, ht⟩ := sc2.tab (c, P) hcs
  have hPs : s2.heap.get? P = some { cls := .none, data := .fields ps } := I2.hok P _ hP
  have cd : PySem.W.CodeHd s2.heap c P := TB.code.keeps fun b u e => I2.bk b u e
  have cont : ∀ (code : Value) (h3 : Heap) (tk : Nat) (more : Array Value), Heap.ExtBut P s2.heap h3 → h3.get? P = some { cls := .none, data := .fields (ps ++ more) } → TriplesOk (ps ++ more).toList →
      wpAny (model X.prog X.w) X.A (builtinsFor X.env.globals X.env.builtins) (fun bi s₄ => ∀ h', h'.Ns s₄.heap.objs.size (fun y => if y = ".0" then some (.ref it) else none) → Heap.SameBut s₄.heap.objs.size (s₄.heap.push { cls := .type "frame", data := .dict #[] }) h' →
          Q' (.ref h'.objs.size) { s₄ with
            gens := s₄.gens.push (.fresh (.compStart (.GeneratorExp elt [⟨tge, iter, ifs, 0⟩] scope gpos) 0 (.ref it) .none (genEnv scope (cloFrom X.env.cells scope.names []) s₄.heap.objs.size code bi X.env))),
            toks := s₄.toks + 1 + 1 + 1,
            heap := h'.push { cls := .type "generator", data := .fields #[.int s₄.gens.size 0, .str "<genexpr>" (s₄.toks + 1), .str (X.env.qual ++ "<genexpr>") (s₄.toks + 1 + 1)] } }) X.xe { s2 with heap := h3, toks := tk } := by
    intro code h3 tk more hx hP3 ht3
    obtain ⟨bm, ob, e1, e2, e3, e4, e5, e6, e7, e8⟩ := TB.bm
    have keep3 : ∀ b u, b ≠ P → s2.heap.get? b = some u → h3.get? b = some u := fun b u hb e => hx b u hb e
    refine wpAny_builtinsFor (m := X.mg) (by rw [I2.ok.glob]; exact (I2.mod.glob.keeps I2.bk).extBut hx TB.gP) e1 e2 (keep3 _ _ e4 (I2.bk _ _ e5)) e6 e7 e8 ?_
    have I3 : Inv X pins σ (upd H2 P (.tbl (ps ++ more))) { s2 with heap := h3, toks := tk } := GxR.inv_tab (g' := s2.gens) (d' := s2.drawn) I2 hP keep3 hP3 I2.bare
    have x3 := ext_tab (m := m2) (st := st1) (more := more) hP
    have sc3 := sc2.tabbed (more := more) hP ht3
    have nP : ∀ b ∈ fp, b ≠ P := fun b hb e => by
      have := (f2 b hb).1
      rw [e, hP] at this; cases this
    have st3 : tn 0 h3 := T.keep _ _ _ st2 fun b hb o e => keep3 b o (nP b hb) e
    generalize hH3 : upd H2 P (.tbl (ps ++ more)) = H3 at I3 x3 sc3
    generalize hs3 : ({ s2 with heap := h3, toks := tk } : Shared) = s3 at I3 ⊢
    have st3' : tn 0 s3.heap := by rw [← hs3]; exact st3
    have f3 : ∀ b ∈ fp, FpOk X pins H3 b ∧ b < s3.heap.objs.size := fun b hb => by
      obtain ⟨q0, q⟩ := f2 b hb
      refine ⟨⟨by rw [← hH3, upd_ne (nP b hb)]; exact q0, q⟩, ?_⟩
      obtain ⟨o, e, _⟩ := T.obj _ _ st3' b hb
      exact Heap.lt_size e
    intro h' hn' hs'
    have hsz : h'.objs.size = s3.heap.objs.size + 1 := by rw [hs'.1, Heap.size_push]
    generalize hgo : ({ cls := .type "generator", data := .fields #[.int s3.gens.size 0, .str "<genexpr>" (s3.toks + 1), .str (X.env.qual ++ "<genexpr>") (s3.toks + 1 + 1)] } : Obj) = go
    have hgd : ∀ v, go.data ≠ .cell v := fun v q => by rw [← hgo] at q; cases q
    have hfz : ∀ h : Heap, (h.push go).get? h.objs.size = some go := fun h => Heap.get?_push_size _ (by rw [← hgo]; rfl)
    have hgen : ∀ h : Heap, h.get? h'.objs.size = some go → h.IsGen h'.objs.size s3.gens.size := fun h e => ⟨go, _, _, e, by rw [← hgo], by rw [← hgo], by rw [← hgo]⟩
    generalize hce : genEnv scope (cloFrom X.env.cells scope.names []) s3.heap.objs.size code builtinsNs X.env = cenv
    have hcsc : cenv.scope = scope := by rw [← hce]; rfl
    have kp5 : ∀ b o, s3.heap.get? b = some o → (h'.push go).get? b = some o := fun b o e => Heap.get?_push_of_some _ (hs'.extBut b o (Nat.ne_of_lt (Heap.lt_size e)) (Heap.get?_push_of_some _ e))
    have hG5 : AllBare (s3.gens.push (.fresh (.compStart (.GeneratorExp elt [⟨tge, iter, ifs, 0⟩] scope gpos) 0 (.ref it) .none cenv))) := AllBare.push I3.bare rfl
    have I5 : Inv X pins σ H3 { s3 with gens := s3.gens.push (.fresh (.compStart (.GeneratorExp elt [⟨tge, iter, ifs, 0⟩] scope gpos) 0 (.ref it) .none cenv)), toks := s3.toks + 1 + 1 + 1, heap := h'.push go } :=
      I3.call' (ch := []) rfl (Un.kept kp5) (I3.hok.kept kp5) hG5 fun b z => by simp at z
    refine hQ _ _ m2 H3 (x2.trans x3) ⟨_, _, _, rfl, ?_, hgen _ (hfz _), Array.getElem?_push_size .., I5, sc3, ?_⟩
    · show h'.objs.size < (h'.push go).objs.size
      rw [Heap.size_push]; exact Nat.lt_succ_self _
    intro A Cn s6 hAf hAh hAg hAd hAu hCb hos hba hkp hcon
    have hAf' := over_start (elt := elt) (gs := [⟨tge, iter, ifs, 0⟩]) (scope := scope) (pos := gpos) (it := .ref it) (acc := .none) (cenv := cenv) hAf
    have hcxt : Cxt W k N scope (gx X s3 H3 cenv (A.over (.compLoop (.GeneratorExp elt [⟨tge, iter, ifs, 0⟩] scope gpos) 0 (.ref it) .none cenv) []) fp [(h'.objs.size, go)]) := by
      have := C.gx (s := s3) (H := H3) (cenv := cenv) (A := A.over (.compLoop (.GeneratorExp elt [⟨tge, iter, ifs, 0⟩] scope gpos) 0 (.ref it) .none cenv) []) (fp := fp) (pn := [(h'.objs.size, go)])
        ⟨hAh, by show A.depth + 1 + 3 * k + 5 < _; omega, by show A.units + 3 + 16 * k + 200 < _; omega⟩ (over_guards hAg)
      rw [hcsc] at this
      exact this
    have hsto := sto_gx (X := X) (s := s3) (H := H3) (cenv := cenv) (A := A.over (.compLoop (.GeneratorExp elt [⟨tge, iter, ifs, 0⟩] scope gpos) 0 (.ref it) .none cenv) []) (fp := fp) (pn := [(h'.objs.size, go)]) (by rw [hcsc]; exact S)
    rw [hcsc] at hsto
    obtain ⟨hT, hC, hE⟩ := hB _ hcxt hsto
    have J5 := gen_start (own := own) (code := code) (it := .ref it) (go := go) (tk := s3.toks + 1 + 1 + 1) (A := A.over (.compLoop (.GeneratorExp elt [⟨tge, iter, ifs, 0⟩] scope gpos) 0 (.ref it) .none cenv) []) I3 (by rw [C.hN, C.hsc]; exact ok) S (by rw [C.hN]; exact C.nd) f3
      (by rw [hce]; exact hAf') (fun _ => hAh) hn' hs' hgd hfz hG5
    rw [hce] at J5
    have J6 := J5.call' (s' := s6) (ch := []) hos (Un.kept hkp) (J5.hok.kept hkp) hba fun b z => by simp at z
    have young : ∀ b ∈ Cn.at_, s3.heap.objs.size + 2 ≤ b := fun b hb => by
      have q : (h'.push go).objs.size ≤ b := hCb b hb
      rw [Heap.size_push, hsz] at q
      exact q
    have hcenvL : cenv.locals = s3.heap.objs.size := by rw [← hce]; rfl
    have J7 := J6.pins_of (pins' := pinsAt Cn.at_ s6.heap) fun p hp => by
      obtain ⟨hb, e⟩ := of_pinsAt hp
      obtain ⟨o, e', _, hd⟩ := hcon p.1 hb
      rw [e] at e'; cases e'
      have y := young p.1 hb
      have q : (h'.push go).objs.size ≤ p.1 := hCb p.1 hb
      refine ⟨e, J5.hok.fresh q, ?_, J5.nofs q, hd⟩
      show p.1 ≠ cenv.locals
      rw [hcenvL]
      exact Nat.ne_of_gt (Nat.lt_of_lt_of_le (Nat.lt_add_of_pos_right (by decide)) y)
    have loop := seg_gx (X := X) (pins := pins) (σ := σ) (cs := W.cs) (m0 := m2) (st0 := st1) (H0 := H3) (C := Cn) (k := gk) (tot := tot) (stF := stF) (own := own.map (·.2)) (items := items) (wσ := wipe σ (own.map (·.2))) (env0 := wipeE env (own.map (·.2))) (g := s3.gens.size)
      I3 (fun b hb => (f3 b hb).1) _ rfl (by rw [hcsc]; exact S.co) C.calm hgen T (fun m' st' H' x s => hit m' st' H' (x3.trans x) s) hT hC hE (fun hb => by
        have := (f3 _ hb).2
        rw [hsz] at this
        exact absurd (Nat.lt_of_succ_lt this) (Nat.lt_irrefl _)) hown wipe_wipe (fun b hb => ?_)
      items 0 [] tot [] st1 m2 H3 s6 s6 (pinsAt Cn.at_ s6.heap) rfl (by simp) hm rfl J7 (T.keep _ _ _ st3' fun b _ o e => hkp b o (kp5 b o e)) (fun b hb => (f3 b hb).1.1) sc3 Ext.refl (((he.ext hs.cells x2).ext sc2.cells x3).wipe _) (by simp [Reps]) (fun p hp => (of_pinsAt hp).1) (fun b hb => ?_)
    · show Seg _ A _ _ _ s6 _ ((compStart (.GeneratorExp elt [⟨tge, iter, ifs, 0⟩] scope gpos) 0 (.ref it) .none cenv).onRaise (leaving cenv)) [] s6
      have st6 : tn 0 s6.heap := T.keep _ _ _ st3' fun b _ o e => hkp b o (kp5 b o e)
      unfold compStart
      rw [Sem.onRaise_eq_wrap]
      show Seg _ A _ _ _ s6 _ ((ask >>= _).wrap _ _ _ _) [] s6
      refine seg_bind_wrap (wpAny_askSetting ?_)
      split
      · exact seg_again rfl loop
      · first
          | exact seg_bind_wrap (wpAny_rule (seg_bind_wrap (wpAny_standAt (seg_bind_wrap (T.self _ 0 s6 _ _ st6 (seg_again rfl loop))))))
          | (refine seg_bind_wrap (wpAny_rule ?_); show Seg _ A _ _ _ s6 _ ((standAt iter.pos >>= _).wrap _ _ _ _) [] s6; exact seg_bind_wrap (wpAny_standAt (seg_bind_wrap (T.self _ 0 s6 _ _ st6 (seg_again rfl loop)))))
    · have y := young b hb
      have y1 : s3.heap.objs.size < b := Nat.lt_of_lt_of_le (Nat.lt_add_of_pos_right (by decide)) y
      refine ⟨Nat.le_of_lt y1, by rw [hcenvL]; exact Nat.ne_of_gt y1, fun y c e z => ?_, fun z => ?_, fun z => ?_⟩
      · have e : cenv.cells.lookup y = some c := e
        rw [← hce] at e
        have e : (cloFrom X.env.cells scope.names []).lookup y = some c := e
        rcases cloFrom_mem (PySem.mem_of_lookup e) with hm | ⟨h1, rfl⟩
        · cases hm
        · obtain ⟨c, hc⟩ := hfree _ h1 rfl
          rw [hc] at z
          obtain ⟨w, q⟩ := I3.cell _ _ hc
          have z : c = b := z
          rw [← z] at y1
          exact absurd (Nat.lt_trans y1 q.lt) (Nat.lt_irrefl _)
      · have q : (h'.push go).objs.size ≤ b := hCb b hb
        rw [Heap.size_push, z] at q
        exact absurd q (Nat.not_succ_le_self _)
      · exact absurd (Nat.lt_trans y1 (f3 b z).2) (Nat.lt_irrefl _)
    · obtain ⟨o, o1, o2, _⟩ := hcon b hb
      exact ⟨o, mem_pinsAt hb o1, o2⟩
  cases hf : codeAmong gpos ps.toList with
  | none =>
    refine wpAny_genexprCodeX hcode (cd.code hPs ht) (cd.tab hPs) hf fun c' h' tk hx hge hlt hco' _ htab' _ => ?_
    obtain ⟨o1, vs, f1, tf, fl, tg, inF, tx, tt, op, _, _, _, _, _, _, _, _, _, htr, _⟩ := hco'
    exact cont _ h' tk _ hx htab'.2 htr
  | some cv =>
    refine wpAny_genexprCode_hit hcode (cd.code hPs ht) hf ?_
    exact cont cv s2.heap s2.toks #[] (Heap.ExtBut.refl _ _) (by simpa using hPs) (by simpa using ht)
end
end Mi

set_option Elab.async false
set_option linter.all false
set_option maxRecDepth 100000
set_option maxHeartbeats 4000000
/-! Mi12: who walks a generator expression: all, any, sum. -/
namespace Mi
open PySem PySem.Spec PyProof.Rows L2 GenW

theorem inv_setG {X : Cx} {pins : List (Addr × Obj)} {σ : L2.St} {H : Hp} {s : Shared} {g : Nat} {x : GenState} (I : Inv X pins σ H s) (hx : x.bare = true) : Inv X pins σ H (s.setGen g x) :=
  I.call' (s' := s.setGen g x) (ch := []) rfl (Un.kept fun _ _ e => e) I.hok (allBare_setGen I.bare hx) fun b z => by simp at z
section
variable (X : Cx) (pins : List (Addr × Obj)) (σ : L2.St) (cs : List (Addr × Addr)) (m0 : List Addr) (st0 : Store) (H0 : Hp) (C : Con) (a : Addr) (g : Nat) (k : GK) (tot : List D) (stF : Store)
/-- ready for the next turn, n items are left -/
def GenR (A : Around) (n : Nat) (s : Shared) : Prop :=
  s.heap.IsGen a g ∧ s.heap.NoLimit ∧ g < s.gens.size ∧ ∃ gs, s.gens[g]? = some gs ∧ gs.Goes (model X.prog X.w) A.in1 (RC X pins σ cs m0 st0 H0 C a g tot stF) (YC X pins σ cs m0 st0 H0 C a g k tot stF) n (.send .none) (s.setGen g .running)
/-- an item is out -/
def Got (A : Around) (n : Nat) (v : Value) (s : Shared) : Prop := ∃ ds d es vs x st m H, tot = ds ++ d :: es ∧ es.length + 1 = n ∧ RelV x v ∧ Inv X pins σ H s ∧ SC X.K cs m st H ∧ Ext m0 st0 H0 m st H ∧ Reps X.K m (Lv m st) H (ds ++ [d]) (vs ++ [x]) ∧
  (∀ b ∈ C.at_, H b = none ∧ ∃ o, s.heap.get? b = some o ∧ C.cont vs o) ∧ (stopG k d = true → st = stF ∧ es = []) ∧ (stopG k d = false → ∀ s', SleptC C (vs ++ [x]) s s' → s'.gens = s.gens → GenR X pins σ cs m0 st0 H0 C a g k tot stF A n s')
/-- at its end -/
def Ended (s : Shared) : Prop := ∃ vs m H, Inv X pins σ H s ∧ SC X.K cs m stF H ∧ Ext m0 st0 H0 m stF H ∧ Reps X.K m (Lv m stF) H tot vs ∧ (∀ b ∈ C.at_, H b = none ∧ ∃ o, s.heap.get? b = some o ∧ C.cont vs o)
end
section
variable {X : Cx} {pins : List (Addr × Obj)} {σ : L2.St} {cs : List (Addr × Addr)} {m0 : List Addr} {st0 : Store} {H0 : Hp} {C : Con} {a : Addr} {g : Nat} {k : GK} {tot : List D} {stF : Store}
theorem gnext {A : Around} {n : Nat} {s : Shared} {Q : Option Value → Shared → Prop} {E : Value → Shared → Prop} (hh : A.handled = none) (hd : A.depth < recursionLimit) (hca : a ∉ C.at_) (hcs : cStatics ∉ C.at_)
    (h : GenR X pins σ cs m0 st0 H0 C a g k tot stF A n s) (hY : ∀ m v s', n = m + 1 → Got X pins σ cs m0 st0 H0 C a g k tot stF A m v s' → Q (some v) s')
    (hN : ∀ s', n = 1 → Ended X pins σ cs m0 st0 H0 C tot stF s' → Q none s') : wpAny (model X.prog X.w) A (pyNext (.ref a)) Q E s := by
  obtain ⟨hg, hl, hgl, gs, hgs, hgo⟩ := h
  refine wpAny_gsz (n := g + 1) hgl (wpAny_pyNext_genexpQ (P := PC X pins σ cs m0 st0 H0 C a g tot stF) hh hl hd hg hgs hgo (fun v s₁ gs' hbare hv => ?_) (fun s₁ hp h' hk => ?_))
  · intro hsz
    obtain ⟨ds, d, es, vs, x, st, m, H, t1, t2, t3, t4, t5, t6, t7, t8, t9, t10, t11⟩ := hv
    have hsz1 : g < s₁.gens.size := by
      have q : (s₁.setGen g gs').gens.size = s₁.gens.size := setGen_size _ _ _
      have hsz' : g + 1 ≤ (s₁.setGen g gs').gens.size := hsz
      omega
    cases n with
    | zero =>
      have t2 : es.length + 1 = 0 - 1 := t2
      omega
    | succ n =>
      refine hY n v _ rfl ⟨ds, d, es, vs, x, st, m, H, t1, t2, t3, inv_setG t4 hbare, t5, t6, t7, t8, t10, fun hst s' hsl hgens => ?_⟩
      have hb : ∀ b o, b ∉ C.at_ → s₁.heap.get? b = some o → s'.heap.get? b = some o := hsl.2.2.1
      refine ⟨?_, ?_, by rw [hgens]; show g < (s₁.setGen g gs').gens.size; rw [setGen_size]; exact hsz1, gs', by rw [hgens]; exact setGen_at hsz1, ?_⟩
      · obtain ⟨o, nm, qn, ho, r⟩ := t9
        exact ⟨o, nm, qn, hb a o hca ho, r⟩
      · obtain ⟨mc, hns, hnn⟩ := t4.nolimit
        exact ⟨mc, hns.at' fun o e => hb _ o hcs e, hnn⟩
      · exact t11 hst _ ⟨hsl.1, allBare_setGen hsl.2.1 rfl, hsl.2.2.1, hsl.2.2.2⟩
  · intro _
    obtain ⟨hn, vs, m, H, t4, t5, t6, t7, t8, t9⟩ := hp
    refine hN _ hn ⟨vs, m, H, ?_, t5, t6, t7, fun b hb => ?_⟩
    · have J := inv_setG (g := g) (x := .finished) t4 rfl
      exact J.call' (s' := { s₁.setGen g .finished with heap := h' }) (ch := []) rfl (Un.kept hk) (J.hok.kept hk) J.bare fun b z => by simp at z
    · obtain ⟨q1, o, q2, q3⟩ := t8 b hb
      exact ⟨q1, o, hk _ _ q2, q3⟩
theorem bools_map : ∀ {xs : List D} {bs : List Bool}, boolsD xs = some bs → xs = bs.map D.bl
  | [], bs, h => by simp only [boolsD, Option.some.injEq] at h; subst h; rfl
  | x :: xs, bs, h => by
    cases x <;> simp only [boolsD] at h <;> try (cases h; done)
    simp only [Option.map_eq_some_iff] at h
    obtain ⟨l, hl, rfl⟩ := h
    rw [List.map_cons, bools_map hl]
theorem ints_map : ∀ {xs : List D} {ns : List Int}, intsD xs = some ns → xs = ns.map D.int
  | [], ns, h => by simp only [intsD, Option.some.injEq] at h; subst h; rfl
  | x :: xs, ns, h => by
    cases x <;> simp only [intsD] at h <;> try (cases h; done)
    simp only [Option.map_eq_some_iff] at h
    obtain ⟨l, hl, rfl⟩ := h
    rw [List.map_cons, ints_map hl]
/-- nothing of the consumer's own -/
abbrev Con.no : Con := ⟨[], fun _ _ => True⟩
theorem slept0 {vs : List V} {s : Shared} (h : AllBare s.gens) : SleptC Con.no vs s s := ⟨rfl, h, fun _ _ _ e => e, fun b hb => by simp at hb⟩
/-- what is known when a walk ends -/
def Fin0 (X : Cx) (pins : List (Addr × Obj)) (σ : L2.St) (cs : List (Addr × Addr)) (m0 : List Addr) (st0 : Store) (H0 : Hp) (stF : Store) (s : Shared) : Prop := ∃ m H, Inv X pins σ H s ∧ SC X.K cs m stF H ∧ Ext m0 st0 H0 m stF H
theorem all_loop {A : Around} {R : Result → Shared → Prop} {bs : List Bool} (hh : A.handled = none) (hd : A.depth < recursionLimit) (hb : tot = bs.map D.bl)
    (hR : ∀ s', Fin0 X pins σ cs m0 st0 H0 stF s' → R (.ok (.ret (.bool (bs.all id)))) s') :
    ∀ (n : Nat) (s : Shared), n ≤ tot.length + 1 → (∀ b ∈ bs.take (tot.length + 1 - n), b = true) → GenR X pins σ cs m0 st0 H0 Con.no a g .all tot stF A.in1 n s →
      codeAny (model X.prog X.w) A (.builtin "all.loop" ⟨[.ref a], []⟩) R s := by
  have hlen : tot.length = bs.length := by rw [hb]; simp
  intro n
  induction n with
  | zero =>
    intro s hn ht h
    refine codeAny_builtin F.entry_all_loop ?_
    rw [Around.under_plainId F.plain_all_loop _]
    show wpAny _ A.in1 (pyNext (.ref a) >>= _) _ _ s
    exact wpAny_bind (gnext (A := A.in1) hh hd (by simp) (by simp) h (fun m v s' e _ => by omega) fun s' e _ => by omega)
  | succ n ih =>
    intro s hn ht h
    refine codeAny_builtin F.entry_all_loop ?_
    rw [Around.under_plainId F.plain_all_loop _]
    show wpAny _ A.in1 (pyNext (.ref a) >>= _) _ _ s
    refine wpAny_bind (gnext (A := A.in1) hh hd (by simp) (by simp) h (fun m v s' e hg => ?_) fun s' e hg => ?_)
    · have e : n = m := by omega
      subst e
      obtain ⟨ds, d, es, vs, x, st, mm, H, t1, t2, t3, t4, t5, t6, t7, t8, t10, t11⟩ := hg
      have hl := congrArg List.length t1
      simp only [List.length_append, List.length_cons] at hl
      have hdl : ds.length = tot.length + 1 - (n + 1) := by omega
      have hbd : ∃ b, bs[ds.length]? = some b ∧ d = .bl b := by
        have z : tot[ds.length]? = some d := by rw [t1]; simp
        rw [hb, List.getElem?_map] at z
        cases q : bs[ds.length]? with
        | none => rw [q] at z; cases z
        | some b => rw [q] at z; cases z; exact ⟨b, rfl, rfl⟩
      obtain ⟨b, hb1, rfl⟩ := hbd
      have hx : x = .bl b := by
        have z := t7.get (i := ds.length) (x := D.bl b) (by simp)
        have z2 := t7.length
        simp only [List.length_append, List.length_cons, List.length_nil] at z2
        obtain ⟨y, y1, y2⟩ := z
        simp only [Rep] at y2
        have e3 : vs.length = ds.length := by omega
        rw [← e3] at y1
        simp at y1
        rw [y1]; exact y2
      subst hx
      obtain rfl : v = .bool b := t3
      refine wpAny_bind (wpAny_holding (wpAny_truthy_bool ?_))
      refine wpAny_bind (wpAny_letGo ?_)
      cases b with
      | true =>
        simp only [if_true]
        refine wpAny_pure ⟨plainId_quiet F.plain_all_loop _, ih s' (by omega) (fun b hb' => ?_) (t11 rfl s' (slept0 t4.bare) rfl)⟩
        have e4 : tot.length + 1 - n = ds.length + 1 := by omega
        rw [e4, List.take_succ, hb1] at hb'
        rcases List.mem_append.mp hb' with z | z
        · exact ht b (by rw [← hdl]; exact z)
        · simpa using z
      | false =>
        simp only [Bool.false_eq_true, if_false]
        refine wpAny_bind (wpAny_rule (wpAny_pure ?_))
        obtain ⟨e5, e6⟩ := t10 rfl
        subst e5
        have e7 : bs.all id = false := by
          rw [List.all_eq_false]
          exact ⟨false, List.mem_of_getElem? hb1, by simp⟩
        have := hR s' ⟨mm, H, t4, t5, t6⟩
        rw [e7] at this
        exact this
    · have e : n = 0 := by omega
      subst e
      obtain ⟨vs, mm, H, t4, t5, t6, _⟩ := hg
      refine wpAny_bind (wpAny_rule (wpAny_pure ?_))
      have e7 : bs.all id = true := by
        rw [List.all_eq_true]
        intro b hb'
        have := ht b (by rw [show tot.length + 1 - (0 + 1) = bs.length by omega, List.take_length]; exact hb')
        rw [this]; rfl
      have := hR s' ⟨mm, H, t4, t5, t6⟩
      rw [e7] at this
      exact this
theorem any_loop {A : Around} {R : Result → Shared → Prop} {bs : List Bool} (hh : A.handled = none) (hd : A.depth < recursionLimit) (hb : tot = bs.map D.bl)
    (hR : ∀ s', Fin0 X pins σ cs m0 st0 H0 stF s' → R (.ok (.ret (.bool (bs.any id)))) s') :
    ∀ (n : Nat) (s : Shared), n ≤ tot.length + 1 → (∀ b ∈ bs.take (tot.length + 1 - n), b = false) → GenR X pins σ cs m0 st0 H0 Con.no a g .any tot stF A.in1 n s →
      codeAny (model X.prog X.w) A (.builtin "any.loop" ⟨[.ref a], []⟩) R s := by
  have hlen : tot.length = bs.length := by rw [hb]; simp
  intro n
  induction n with
  | zero =>
    intro s hn ht h
    refine codeAny_builtin F.entry_any_loop ?_
    rw [Around.under_plainId F.plain_any_loop _]
    show wpAny _ A.in1 (pyNext (.ref a) >>= _) _ _ s
    exact wpAny_bind (gnext (A := A.in1) hh hd (by simp) (by simp) h (fun m v s' e _ => by omega) fun s' e _ => by omega)
  | succ n ih =>
    intro s hn ht h
    refine codeAny_builtin F.entry_any_loop ?_
    rw [Around.under_plainId F.plain_any_loop _]
    show wpAny _ A.in1 (pyNext (.ref a) >>= _) _ _ s
    refine wpAny_bind (gnext (A := A.in1) hh hd (by simp) (by simp) h (fun m v s' e hg => ?_) fun s' e hg => ?_)
    · have e : n = m := by omega
      subst e
      obtain ⟨ds, d, es, vs, x, st, mm, H, t1, t2, t3, t4, t5, t6, t7, t8, t10, t11⟩ := hg
      have hl := congrArg List.length t1
      simp only [List.length_append, List.length_cons] at hl
      have hdl : ds.length = tot.length + 1 - (n + 1) := by omega
      have hbd : ∃ b, bs[ds.length]? = some b ∧ d = .bl b := by
        have z : tot[ds.length]? = some d := by rw [t1]; simp
        rw [hb, List.getElem?_map] at z
        cases q : bs[ds.length]? with
        | none => rw [q] at z; cases z
        | some b => rw [q] at z; cases z; exact ⟨b, rfl, rfl⟩
      obtain ⟨b, hb1, rfl⟩ := hbd
      have hx : x = .bl b := by
        have z := t7.get (i := ds.length) (x := D.bl b) (by simp)
        have z2 := t7.length
        simp only [List.length_append, List.length_cons, List.length_nil] at z2
        obtain ⟨y, y1, y2⟩ := z
        simp only [Rep] at y2
        have e3 : vs.length = ds.length := by omega
        rw [← e3] at y1
        simp at y1
        rw [y1]; exact y2
      subst hx
      obtain rfl : v = .bool b := t3
      refine wpAny_bind (wpAny_holding (wpAny_truthy_bool ?_))
      refine wpAny_bind (wpAny_letGo ?_)
      cases b with
      | false =>
        simp only [Bool.false_eq_true, if_false]
        refine wpAny_pure ⟨plainId_quiet F.plain_any_loop _, ih s' (by omega) (fun b hb' => ?_) (t11 rfl s' (slept0 t4.bare) rfl)⟩
        have e4 : tot.length + 1 - n = ds.length + 1 := by omega
        rw [e4, List.take_succ, hb1] at hb'
        rcases List.mem_append.mp hb' with z | z
        · exact ht b (by rw [← hdl]; exact z)
        · simpa using z
      | true =>
        simp only [if_true]
        refine wpAny_bind (wpAny_rule (wpAny_pure ?_))
        obtain ⟨e5, e6⟩ := t10 rfl
        subst e5
        have e7 : bs.any id = true := by
          rw [List.any_eq_true]
          exact ⟨true, List.mem_of_getElem? hb1, by simp⟩
        have := hR s' ⟨mm, H, t4, t5, t6⟩
        rw [e7] at this
        exact this
    · have e : n = 0 := by omega
      subst e
      obtain ⟨vs, mm, H, t4, t5, t6, _⟩ := hg
      refine wpAny_bind (wpAny_rule (wpAny_pure ?_))
      have e7 : bs.any id = false := by
        rw [List.any_eq_false]
        intro b hb'
        have := ht b (by rw [show tot.length + 1 - (0 + 1) = bs.length by omega, List.take_length]; exact hb')
        rw [this]; simp
      have := hR s' ⟨mm, H, t4, t5, t6⟩
      rw [e7] at this
      exact this
end
end Mi

set_option Elab.async false
set_option linter.all false
set_option maxRecDepth 100000
set_option maxHeartbeats 4000000
/-! Mi13: sum, tuple of a generator expression. -/
namespace Mi
open PySem PySem.Spec PyProof.Rows L2 GenW

theorem intsD_map (ns : List Int) : intsD (ns.map D.int) = some ns := by
  induction ns with
  | nil => rfl
  | cons n ns ih => simp [intsD, ih]
theorem map_int_inj : ∀ {a b : List Int}, a.map V.int = b.map V.int → a = b
  | [], [], _ => rfl
  | [], _ :: _, h => by simp at h
  | _ :: _, [], h => by simp at h
  | x :: a, y :: b, h => by
    simp only [List.map_cons, List.cons.injEq, V.int.injEq] at h
    rw [h.1, map_int_inj h.2]
/-- the sum's own list -/
abbrev Con.sum (S : Addr) : Con := ⟨[S], fun vs o => ∃ (ns : List Int) (t : Tok) (c : Nat), vs = ns.map V.int ∧ o = lstObj #[.int ns.sum t] c⟩
section
variable {X : Cx} {pins : List (Addr × Obj)} {σ : L2.St} {cs : List (Addr × Addr)} {m0 : List Addr} {st0 : Store} {H0 : Hp} {a : Addr} {g : Nat} {tot : List D} {stF : Store}
theorem sum_loop {A : Around} {R : Result → Shared → Prop} {ns : List Int} {S : Addr} (hh : A.handled = none) (hd : A.depth < recursionLimit) (hb : tot = ns.map D.int) (hSa : S ≠ a) (hSc : S ≠ cStatics)
    (hR : ∀ s' t, Fin0 X pins σ cs m0 st0 H0 stF s' → R (.ok (.ret (.int ns.sum t))) s') :
    ∀ (n : Nat) (s : Shared) (tA : Tok) (c : Nat) (stage : Int), (stage = 0 ∨ stage = 2) → n ≤ tot.length + 1 → s.heap.get? S = some (lstObj #[.int (ns.take (tot.length + 1 - n)).sum tA] c) → GenR X pins σ cs m0 st0 H0 (Con.sum S) a g .sum tot stF A.in1 n s →
      codeAny (model X.prog X.w) A (.builtin "sum.loop" ⟨[.ref a, .ref S, rawInt stage, rawInt 0], []⟩) R s := by
  have hlen : tot.length = ns.length := by rw [hb]; simp
  have hca : a ∉ (Con.sum S).at_ := by simp; exact Ne.symm hSa
  have hcc : cStatics ∉ (Con.sum S).at_ := by simp; exact Ne.symm hSc
  intro n
  induction n with
  | zero =>
    intro s tA c stage hst hn hS h
    refine codeAny_builtin F.entry_sum_loop ?_
    rw [Around.under_plainId F.plain_sum_loop _]
    show wpAny _ A.in1 (seqItems? (.ref S) >>= _) _ _ s
    refine wpAny_bind (wpAny_seqItems hS rfl ?_)
    show wpAny _ A.in1 (tryCatch (pyNext (.ref a)) _ >>= _) _ _ s
    exact wpAny_bind (wpAny_tryCatch (gnext (A := A.in1) hh hd hca hcc h (fun m v s' e _ => by omega) fun s' e _ => by omega))
  | succ n ih =>
    intro s tA c stage hst hn hS h
    generalize hacc : (ns.take (tot.length + 1 - (n + 1))).sum = acc at hS
    refine codeAny_builtin F.entry_sum_loop ?_
    rw [Around.under_plainId F.plain_sum_loop _]
    show wpAny _ A.in1 (seqItems? (.ref S) >>= _) _ _ s
    refine wpAny_bind (wpAny_seqItems hS rfl ?_)
    show wpAny _ A.in1 (tryCatch (pyNext (.ref a)) _ >>= _) _ _ s
    refine wpAny_bind (wpAny_tryCatch (gnext (A := A.in1) hh hd hca hcc h (fun m v s' e hg => ?_) fun s' e hg => ?_))
    · have e : n = m := by omega
      subst e
      obtain ⟨ds, d, es, vs, x, st, mm, H, t1, t2, t3, t4, t5, t6, t7, t8, t10, t11⟩ := hg
      have hl := congrArg List.length t1
      simp only [List.length_append, List.length_cons] at hl
      have hdl : ds.length = tot.length + 1 - (n + 1) := by omega
      have hds : ds = (ns.take ds.length).map D.int := by
        have z := congrArg (List.take ds.length) t1
        rw [List.take_left, hb, ← List.map_take] at z
        exact z.symm
      have hbd : ∃ i, ns[ds.length]? = some i ∧ d = .int i := by
        have z : tot[ds.length]? = some d := by rw [t1]; simp
        rw [hb, List.getElem?_map] at z
        cases q : ns[ds.length]? with
        | none => rw [q] at z; cases z
        | some b => rw [q] at z; cases z; exact ⟨b, rfl, rfl⟩
      obtain ⟨i, hb1, rfl⟩ := hbd
      have e4 : tot.length + 1 - n = ds.length + 1 := by omega
      have htk : ns.take (ds.length + 1) = ns.take ds.length ++ [i] := by rw [List.take_succ, hb1]; rfl
      have hvx : vs ++ [x] = (ns.take ds.length ++ [i]).map V.int := by
        have e9 : ds ++ [D.int i] = (ns.take ds.length ++ [i]).map D.int := by rw [List.map_append, ← hds]; rfl
        exact ints_of (by rw [e9]; exact intsD_map _) t7
      have hsum : (ns.take (ds.length + 1)).sum = (ns.take ds.length).sum + i := by rw [htk]; simp
      have hx : x = .int i := by
        have := congrArg List.getLast? hvx
        simpa using this
      subst hx
      obtain ⟨tv, rfl⟩ := (show ∃ tk, v = Value.int i tk from t3)
      obtain ⟨hS0, o, hSo, _⟩ := t8 S (by simp)
      obtain ⟨hns, o2, hSo2, ns2, t22, c2, hvs, ho2⟩ := t8 S (by simp)
      rw [← hdl] at hacc
      have cont : ∀ (h' : Heap) (tk : Nat) (c' : Nat) (tt : Tok) (stage' : Int), (stage' = 0 ∨ stage' = 2) → (∀ b o, b ≠ S → s'.heap.get? b = some o → h'.get? b = some o) → h'.get? S = some (lstObj #[.int (acc + i) tt] c') →
          codeAny (model X.prog X.w) A (.builtin "sum.loop" ⟨[.ref a, .ref S, rawInt stage', rawInt 0], []⟩) R { s' with heap := h', toks := tk } := fun h' tk c' tt stage' hs' hk hS' => by
        refine ih _ tt c' stage' hs' (by omega) (by rw [e4, hsum, hacc]; exact hS') (t11 rfl _ ⟨rfl, t4.bare, fun b o hb' e => hk b o (by simpa using hb') e, fun b hb' => ?_⟩ rfl)
        have e : b = S := by simpa using hb'
        subst e
        exact ⟨_, hS', ⟨ns.take ds.length ++ [i], tt, c', hvx, by rw [show (ns.take ds.length ++ [i]).sum = acc + i by rw [← hacc]; simp]⟩, fun v q => by cases q⟩
      have oth : ∀ {h : Heap} {f : Obj → Obj} {b : Addr} {o : Obj}, b ≠ S → h.get? b = some o → (h.update S f).get? b = some o := fun hb' e => (Heap.get?_update_other _ _ (Ne.symm hb')).trans e
      subst ho2
      rcases hst with rfl | rfl
      · show wpAny _ A.in1 (if (_ : Bool) = true then (mkInt (acc + i) >>= _) else _) _ _ _
        split
        · refine wpAny_bind (wpAny_mkInt ?_)
          show wpAny _ A.in1 (updateSeq S (fun _ => #[.int (acc + i) s'.toks]) >>= _) _ _ _
          refine wpAny_bind ?_
          refine wpAny_updateSeq hSo2 rfl (wpAny_pure ⟨plainId_quiet F.plain_sum_loop _, ?_⟩)
          exact cont _ _ _ s'.toks 0 (.inl rfl) (fun b o hb' e => oth hb' e) (Heap.get?_update_self _ hSo2 rfl)
        · refine wpAny_bind (wpAny_rule ?_)
          refine wpAny_bind (wpAny_attempt (wpAny_holding (wpAny_add_int ?_)))
          show wpAny _ A.in1 (updateSeq S (fun _ => #[.int (acc + i) s'.toks]) >>= _) _ _ _
          refine wpAny_bind (wpAny_updateSeq hSo2 rfl ?_)
          have hS₂ := Heap.get?_update_self (Obj.mapSeq fun _ => #[Value.int (acc + i) s'.toks]) hSo2 rfl
          refine wpAny_bind (wpAny_letGo ?_)
          refine wpAny_bind (wpAny_updateSeq hS₂ rfl (wpAny_pure ⟨plainId_quiet F.plain_sum_loop _, ?_⟩))
          exact cont _ _ _ s'.toks 2 (.inr rfl) (fun b o hb' e => oth hb' (oth hb' e)) (Heap.get?_update_self _ hS₂ rfl)
      · show wpAny _ A.in1 ((holding [Value.int i tv] (binaryOp .Add (.int acc tA) (.int i tv))).attempt >>= _) _ _ _
        refine wpAny_bind (wpAny_attempt (wpAny_holding (wpAny_add_int ?_)))
        show wpAny _ A.in1 (updateSeq S (fun _ => #[.int (acc + i) s'.toks]) >>= _) _ _ _
        refine wpAny_bind (wpAny_updateSeq hSo2 rfl ?_)
        have hS₂ := Heap.get?_update_self (Obj.mapSeq fun _ => #[Value.int (acc + i) s'.toks]) hSo2 rfl
        refine wpAny_bind (wpAny_letGo ?_)
        refine wpAny_bind (wpAny_updateSeq hS₂ rfl (wpAny_pure ⟨plainId_quiet F.plain_sum_loop _, ?_⟩))
        exact cont _ _ _ s'.toks 2 (.inr rfl) (fun b o hb' e => oth hb' (oth hb' e)) (Heap.get?_update_self _ hS₂ rfl)
    · have e : n = 0 := by omega
      subst e
      obtain ⟨vs, mm, H, t4, t5, t6, _⟩ := hg
      have e9 : ns.take (tot.length + 1 - (0 + 1)) = ns := by rw [show tot.length + 1 - (0 + 1) = ns.length by omega, List.take_length]
      refine wpAny_pure ?_
      rw [e9] at hacc
      rw [← hacc]
      exact hR s' tA ⟨mm, H, t4, t5, t6⟩
end
end Mi

set_option Elab.async false
set_option linter.all false
set_option maxRecDepth 100000
set_option maxHeartbeats 4000000
/-! Mi14: all, any, sum, tuple of a generator expression, as expressions. -/
namespace Mi
open PySem PySem.Spec PyProof.Rows L2 GenW

/-- the list that a tuple is made of -/
abbrev Con.col (S : Addr) : Con := ⟨[S], fun vs o => ∃ (acc : Array Value) (c : Nat), o = lstObj acc c ∧ Vals vs acc.toList⟩
section
variable {X : Cx} {pins : List (Addr × Obj)} {σ : L2.St} {cs : List (Addr × Addr)} {m0 : List Addr} {st0 : Store} {H0 : Hp} {a : Addr} {g : Nat} {tot : List D} {stF : Store}
/-- all is collected -/
def FinC (X : Cx) (pins : List (Addr × Obj)) (σ : L2.St) (cs : List (Addr × Addr)) (m0 : List Addr) (st0 : Store) (H0 : Hp) (tot : List D) (stF : Store) (acc : Array Value) (s : Shared) : Prop :=
  ∃ vs m H, Inv X pins σ H s ∧ SC X.K cs m stF H ∧ Ext m0 st0 H0 m stF H ∧ Reps X.K m (Lv m stF) H tot vs ∧ Vals vs acc.toList
theorem col_loop {A : Around} {R : Result → Shared → Prop} {S : Addr} {res : Value} (hh : A.handled = none) (hd : A.depth < recursionLimit) (hSa : S ≠ a) (hSc : S ≠ cStatics) (hz : tot.length ≤ sizeLine)
    (hR : ∀ s' acc c, s'.heap.get? S = some (lstObj acc c) → FinC X pins σ cs m0 st0 H0 tot stF acc s' → R (.ok (.ret res)) s') :
    ∀ (n : Nat) (s : Shared), n ≤ tot.length + 1 → GenR X pins σ cs m0 st0 H0 (Con.col S) a g .tuple tot stF A.in1 n s →
      codeAny (model X.prog X.w) A (.builtin "list.extend.loop" ⟨[.ref S, .ref a, res], []⟩) R s := by
  have hca : a ∉ (Con.col S).at_ := by simp; exact Ne.symm hSa
  have hcc : cStatics ∉ (Con.col S).at_ := by simp; exact Ne.symm hSc
  intro n
  induction n with
  | zero =>
    intro s hn h
    refine codeAny_builtin F.entry_extend_loop ?_
    rw [Around.under_plainId F.plain_extend_loop _]
    show wpAny _ A.in1 (pyNext (.ref a) >>= _) _ _ s
    exact wpAny_bind (gnext (A := A.in1) hh hd hca hcc h (fun m v s' e _ => by omega) fun s' e _ => by omega)
  | succ n ih =>
    intro s hn h
    refine codeAny_builtin F.entry_extend_loop ?_
    rw [Around.under_plainId F.plain_extend_loop _]
    show wpAny _ A.in1 (pyNext (.ref a) >>= _) _ _ s
    refine wpAny_bind (gnext (A := A.in1) hh hd hca hcc h (fun m v s' e hg => ?_) fun s' e hg => ?_)
    · have e : n = m := by omega
      subst e
      obtain ⟨ds, d, es, vs, x, st, mm, H, t1, t2, t3, t4, t5, t6, t7, t8, t10, t11⟩ := hg
      have hl := congrArg List.length t1
      simp only [List.length_append, List.length_cons] at hl
      obtain ⟨hS0, o, hSo, acc, c, rfl, hv⟩ := t8 S (by simp)
      have hvl := t7.length
      have hva := hv.length
      simp only [List.length_append, List.length_cons, List.length_nil, Array.length_toList] at hvl hva
      have hasz : acc.size < sizeLine := by omega
      show wpAny _ A.in1 (updateSeq S (·.push v) >>= _) _ _ _
      refine wpAny_bind ?_
      refine wpAny_updateSeq hSo rfl (wpAny_pure ⟨plainId_quiet F.plain_extend_loop _, ?_⟩) (Nat.le_of_lt hasz) (by show (acc.push v).size ≤ sizeLine + 1; rw [Array.size_push]; omega)
      refine ih _ (by omega) (t11 rfl _ ⟨rfl, t4.bare, fun b o hb e => (Heap.get?_update_other _ _ (fun h : S = b => hb (by rw [h]; exact List.mem_singleton.mpr rfl))).trans e, fun b hb' => ?_⟩ rfl)
      have e : b = S := by simpa using hb'
      subst e
      exact ⟨_, Heap.get?_update_self _ hSo rfl, ⟨acc.push v, _, rfl, by rw [Array.toList_push]; exact hv.append (.cons t3 .nil)⟩, fun v q => by cases q⟩
    · have e : n = 0 := by omega
      subst e
      obtain ⟨vs, mm, H, t4, t5, t6, t7, t8⟩ := hg
      obtain ⟨hS0, o, hSo, acc, c, rfl, hv⟩ := t8 S (by simp)
      exact wpAny_pure (hR s' acc c hSo ⟨vs, mm, H, t4, t5, t6, t7, hv⟩)
/-- what the making gives, to a consumer at A -/
theorem Made.ready {W : Wld} {k : Nat} {gk : GK} {u : Value} {s s2 : Shared} {A : Around} {C : Con} (h : Made X pins σ cs k gk tot m0 st0 stF H0 u s) (hAf : A.frames = some X.stack) (hAh : A.handled = none) (hAg : A.guards = some [])
    (hAd : A.depth + 3 * k + 6 < recursionLimit) (hAu : A.units + 1 + 16 * k + 203 < cLine) (hC : ∀ b ∈ C.at_, s.heap.objs.size ≤ b) (hos : s2.os = s.os) (hg2 : s2.gens = s.gens) (hk : ∀ b o, s.heap.get? b = some o → s2.heap.get? b = some o)
    (hcon : ∀ b ∈ C.at_, ∃ o, s2.heap.get? b = some o ∧ C.cont [] o ∧ ∀ v, o.data ≠ .cell v) :
    ∃ a g, u = .ref a ∧ a < s.heap.objs.size ∧ s.heap.IsGen a g ∧ cStatics < s.heap.objs.size ∧ Inv X pins σ H0 s ∧ GenR X pins σ cs m0 st0 H0 C a g gk tot stF A (tot.length + 1) s2 := by
  obtain ⟨a, g, c, e, ha, hg, hgs, I, sc, wake⟩ := h
  have hb2 : AllBare s2.gens := by rw [hg2]; exact I.bare
  have hcl : cStatics < s.heap.objs.size := let ⟨_, hn, _⟩ := I.nolimit; hn.lt
  refine ⟨a, g, e, ha, hg, hcl, I, hg.keeps hk, I.nolimit.keeps hk, by rw [hg2]; exact (Array.getElem?_eq_some_iff.mp hgs).1, .fresh c, by rw [hg2]; exact hgs, rfl, ?_⟩
  exact wake A.in1 C (s2.setGen g .running) hAf hAh hAg hAd (by show A.units + 1 + 16 * k + 203 < _; omega) hC hos (allBare_setGen hb2 rfl) hk hcon
end
section
variable {W : Wld} {k : Nat} {N : List Str} {sc : Scope} {X : Cx} {pins : List (Addr × Obj)} {σ : L2.St} {m0 : List Addr} {st0 : Store} {H0 : Hp} {tot : List D} {stF : Store} {u : Value} {s : Shared} {Q' : Value → Shared → Prop} {E : Value → Shared → Prop}
theorem go_all (C : Cxt W k N sc X) (RG : RoomG k X.A) {bs : List Bool} (hb : boolsD tot = some bs) (h : Made X pins σ W.cs k .all tot m0 st0 stF H0 u s) (hQ : ∀ s', Fin0 X pins σ W.cs m0 st0 H0 stF s' → Q' (.bool (bs.all id)) s') :
    wpAny (model X.prog X.w) X.A (call (.builtin "all") [u]) Q' E s := by
  have hf : X.A.frames = some X.stack := by obtain ⟨_, _, _, _, _, _, _, I, _⟩ := h; exact I.ok.frames
  obtain ⟨a, g, rfl, ha, hg, hcl, I, R⟩ := h.ready (W := W) (A := X.A.in1) (C := Con.no) (s2 := s) hf C.room.hd C.grd (by have := RG.dp; show X.A.depth + 3 * k + 6 < _; omega) (by have := RG.un; show X.A.units + 1 + 1 + 16 * k + 203 < _; omega) (by simp) rfl rfl (fun _ _ e => e) (by simp)
  refine call_function_tree F.kind_all F.plain_all F.entry_all (F.args_all1 _) ?_
  unfold Builtin.«all»
  refine wpAny_bind (m := oneArg "all" _) (wpAny_pure ?_)
  refine wpAny_bind (wpAny_pyIter_gen hg ?_)
  exact wpAny_pure ⟨plainId_quiet F.plain_all_loop _, all_loop C.room.hd (by have := RG.dp; show X.A.depth < _; omega) (bools_map hb) hQ _ s (Nat.le_refl _) (by simp) R⟩
theorem go_any (C : Cxt W k N sc X) (RG : RoomG k X.A) {bs : List Bool} (hb : boolsD tot = some bs) (h : Made X pins σ W.cs k .any tot m0 st0 stF H0 u s) (hQ : ∀ s', Fin0 X pins σ W.cs m0 st0 H0 stF s' → Q' (.bool (bs.any id)) s') :
    wpAny (model X.prog X.w) X.A (call (.builtin "any") [u]) Q' E s := by
  have hf : X.A.frames = some X.stack := by obtain ⟨_, _, _, _, _, _, _, I, _⟩ := h; exact I.ok.frames
  obtain ⟨a, g, rfl, ha, hg, hcl, I, R⟩ := h.ready (W := W) (A := X.A.in1) (C := Con.no) (s2 := s) hf C.room.hd C.grd (by have := RG.dp; show X.A.depth + 3 * k + 6 < _; omega) (by have := RG.un; show X.A.units + 1 + 1 + 16 * k + 203 < _; omega) (by simp) rfl rfl (fun _ _ e => e) (by simp)
  refine call_function_tree F.kind_any F.plain_any F.entry_any (F.args_any1 _) ?_
  unfold Builtin.«any»
  refine wpAny_bind (m := oneArg "any" _) (wpAny_pure ?_)
  refine wpAny_bind (wpAny_pyIter_gen hg ?_)
  exact wpAny_pure ⟨plainId_quiet F.plain_any_loop _, any_loop C.room.hd (by have := RG.dp; show X.A.depth < _; omega) (bools_map hb) hQ _ s (Nat.le_refl _) (by simp) R⟩
theorem go_sum (C : Cxt W k N sc X) (RG : RoomG k X.A) {ns : List Int} (hb : intsD tot = some ns) (h : Made X pins σ W.cs k .sum tot m0 st0 stF H0 u s) (hQ : ∀ s' t, Fin0 X pins σ W.cs m0 st0 H0 stF s' → Q' (.int ns.sum t) s') :
    wpAny (model X.prog X.w) X.A (call (.builtin "sum") [u]) Q' E s := by
  have hf : X.A.frames = some X.stack := by obtain ⟨_, _, _, _, _, _, _, I, _⟩ := h; exact I.ok.frames
  obtain ⟨a, g, c, e, ha, hg, hgs, I, sc', wake⟩ := id h
  subst e
  refine call_function_tree F.kind_sum F.plain_sum F.entry_sum (F.args_sum1 _) ?_
  unfold Builtin.«sum»
  simp only [List.length_cons, List.length_nil]
  rw [if_neg (by decide)]
  refine wpAny_bind (wpAny_of_eq (show Builtin.Builtins.bindParams "sum" ["start"] 0 { } = pure [none] from rfl) ?_)
  refine wpAny_bind (wpAny_pyIter_gen hg ?_)
  refine wpAny_bind (wpAny_mkInt ?_)
  refine wpAny_bind (wpAny_pure ?_)
  simp only [List.forIn_cons, List.forIn_nil]
  refine wpAny_bind (wpAny_bind (wpAny_bind (wpAny_isInstance (T := "int") (b := false) (typeIs_int _ _ _) PySem.sub_int_str ?_)))
  simp only [Bool.false_eq_true, if_false]
  refine wpAny_pure (wpAny_bind (wpAny_bind (wpAny_isInstance (T := "int") (b := false) (typeIs_int _ _ _) PySem.sub_int_bytes ?_)))
  simp only [Bool.false_eq_true, if_false]
  refine wpAny_pure (wpAny_bind (wpAny_bind (wpAny_isInstance (T := "int") (b := false) (typeIs_int _ _ _) PySem.sub_int_bytearray ?_)))
  simp only [Bool.false_eq_true, if_false]
  refine wpAny_pure (wpAny_pure ?_)
  refine wpAny_bind (wpAny_newObj_type ?_)
  have kp : ∀ (o : Obj), ∀ b u, s.heap.get? b = some u → (s.heap.push o).get? b = some u := fun o b u e => Heap.get?_push_of_some _ e
  obtain ⟨a', g', e', ha', hg', hcl, I', R⟩ := h.ready (W := W) (A := X.A.in1) (C := Con.sum s.heap.objs.size) (s2 := { s with heap := s.heap.push (lstObj #[.int 0 s.toks] 0), toks := s.toks + 1 }) hf C.room.hd C.grd (by have := RG.dp; show X.A.depth + 3 * k + 6 < _; omega) (by have := RG.un; show X.A.units + 1 + 1 + 16 * k + 203 < _; omega) (by simp) rfl rfl (kp _) (fun b hb' => by
    have e : b = s.heap.objs.size := by simpa using hb'
    subst e
    exact ⟨_, Heap.get?_push_size _ rfl, ⟨[], _, _, rfl, rfl⟩, fun v q => by cases q⟩)
  cases e'
  refine wpAny_pure ⟨plainId_quiet F.plain_sum_loop _, sum_loop C.room.hd (by have := RG.dp; show X.A.depth < _; omega) (ints_map hb) (Nat.ne_of_gt ha) (Nat.ne_of_gt hcl) hQ _ _ s.toks 0 0 (.inl rfl) (Nat.le_refl _) (by simp; exact Heap.get?_push_size _ rfl) R⟩
end
end Mi

set_option Elab.async false
set_option linter.all false
set_option maxRecDepth 100000
set_option maxHeartbeats 4000000
/-! Mi15: tuple of a generator expression; the expressions. -/
namespace Mi
open PySem PySem.Spec PyProof.Rows L2 GenW

section
variable {W : Wld} {k : Nat} {N : List Str} {sc : Scope} {X : Cx} {pins : List (Addr × Obj)} {σ : L2.St} {m0 : List Addr} {st0 : Store} {H0 : Hp} {tot : List D} {stF : Store} {u : Value} {s : Shared} {Q' : Value → Shared → Prop} {E : Value → Shared → Prop}
theorem go_collect {Q : List Value → Shared → Prop} {a : Addr} (C : Cxt W k N sc X) (RG : RoomG k X.A) (hz : tot.length ≤ sizeLine) (h : Made X pins σ W.cs k .tuple tot m0 st0 stF H0 (.ref a) s)
    (hQ : ∀ s' acc, FinC X pins σ W.cs m0 st0 H0 tot stF acc s' → Q acc.toList s') : wpAny (model X.prog X.w) X.A.in1.in1 (collect (.ref a)) Q E s := by
  have hf : X.A.frames = some X.stack := by obtain ⟨_, _, _, _, _, _, _, I, _⟩ := h; exact I.ok.frames
  obtain ⟨a', g, c, e, ha, hg, hgs, I, sc', wake⟩ := id h
  cases e
  have hSI : s.heap.objs.size ≠ a := Nat.ne_of_gt ha
  have kp : ∀ (o : Obj), ∀ b u, s.heap.get? b = some u → (s.heap.push o).get? b = some u := fun o b u e => Heap.get?_push_of_some _ e
  unfold collect
  refine wpAny_bind (wpAny_runValue (codeAny_builtin F.entry_proto_collect ?_))
  rw [Around.under_plainId F.plain_proto_collect _]
  show wpAny _ X.A.in1.in1.in1 (newList [] >>= fun l => again (.builtin "list.__iadd__" ⟨[l, .ref a], []⟩)) _ _ s
  refine wpAny_bind (wpAny_newObj_type ?_)
  refine wpAny_pure ⟨plainId_quiet F.plain_list_iadd _, codeAny_builtin F.entry_list_iadd ?_⟩
  rw [Around.under_plainId F.plain_list_iadd _]
  show wpAny _ X.A.in1.in1.in1 (Builtin.List.listExtendWith (.ref s.heap.objs.size) (.ref a) (.ref s.heap.objs.size)) _ _ _
  unfold Builtin.List.listExtendWith
  have gty : ∀ {h : Heap}, (∀ b o, s.heap.get? b = some o → h.get? b = some o) → h.IsGen a g := fun {h} q => hg.keeps q
  refine wpAny_bind (wpAny_typeOf (Heap.IsGen.typeIs (s := { s with heap := _ }) (gty (kp _))) ?_)
  have h1 : Builtin.List.listSameRef (.ref s.heap.objs.size) (.ref a) = false := by simp [Builtin.List.listSameRef, hSI]
  have h2 : (Value.type "generator" == Value.type "list") = false := by decide
  have h3 : (Value.type "generator" == Value.type "tuple") = false := by decide
  simp only [h1, h2, h3, Bool.or_false, Bool.false_eq_true, if_false]
  refine wpAny_bind (wpAny_pyIter_gen (s := { s with heap := _ }) (gty (kp _)) ?_)
  refine wpAny_bind (wpAny_holding ?_)
  unfold Builtin.List.listLengthHint
  refine wpAny_bind (wpAny_specialOf (Heap.IsGen.typeIs (s := { s with heap := _ }) (gty (kp _))) F.gen_no_len ?_)
  show wpAny _ X.A.in1.in1.in1 (specialOf (Value.ref a) (Str.ofString "__length_hint__") >>= _) _ _ _
  refine wpAny_bind (wpAny_specialOf (Heap.IsGen.typeIs (s := { s with heap := _ }) (gty (kp _))) F.gen_no_hint ?_)
  refine wpAny_pure ?_
  show wpAny _ X.A.in1.in1.in1 (rule "list.extend.makes-room" >>= fun _ => Builtin.List.listTouch (.ref s.heap.objs.size) >>= fun _ =>
    again (.builtin "list.extend.loop" ⟨[.ref s.heap.objs.size, .ref a, .ref s.heap.objs.size], []⟩)) _ _ _
  refine wpAny_bind (wpAny_rule ?_)
  have hS₁ : (s.heap.push { cls := .type "list", data := .seq ([] : List Value).toArray }).get? s.heap.objs.size = some { cls := .type "list", data := .seq ([] : List Value).toArray } := Heap.get?_push_size _ rfl
  refine wpAny_bind ?_
  show wpAny _ X.A.in1.in1.in1 (updateSeq s.heap.objs.size (·.push .none) >>= fun _ => updateSeq s.heap.objs.size (·.pop)) _ _ _
  refine wpAny_bind (wpAny_updateSeq hS₁ rfl ?_)
  have hS₂ := Heap.get?_update_self (Obj.mapSeq (·.push Value.none)) hS₁ rfl
  refine wpAny_updateSeq hS₂ rfl ?_
  have hS₃ := Heap.get?_update_self (Obj.mapSeq (·.pop)) hS₂ rfl
  have oth : ∀ b o, s.heap.get? b = some o →
      (((s.heap.push { cls := .type "list", data := .seq ([] : List Value).toArray }).update s.heap.objs.size (Obj.mapSeq (·.push Value.none))).update s.heap.objs.size (Obj.mapSeq (·.pop))).get? b = some o :=
    fun b o e => have hb : b ≠ s.heap.objs.size := Nat.ne_of_lt (Heap.lt_size e)
      (Heap.get?_update_other _ _ (Ne.symm hb)).trans ((Heap.get?_update_other _ _ (Ne.symm hb)).trans (kp _ b o e))
  obtain ⟨a', g', e', ha', hg', hcl, I', R⟩ := h.ready (W := W) (A := X.A.in1.in1.in1) (C := Con.col s.heap.objs.size)
    (s2 := { s with heap := ((s.heap.push { cls := .type "list", data := .seq ([] : List Value).toArray }).update s.heap.objs.size (Obj.mapSeq (·.push Value.none))).update s.heap.objs.size (Obj.mapSeq (·.pop)) })
    hf C.room.hd C.grd (by have := RG.dp; show X.A.depth + 3 * k + 6 < _; omega) (by have := RG.un; show X.A.units + 1 + 1 + 1 + 1 + 16 * k + 203 < _; omega) (by simp) rfl rfl oth (fun b hb' => by
    have e : b = s.heap.objs.size := by simpa using hb'
    subst e
    exact ⟨_, hS₃, ⟨#[], _, rfl, .nil⟩, fun v q => by cases q⟩)
  cases e'
  have hh1 : X.A.in1.in1.handled = none := C.room.hd
  have hd1 : X.A.in1.in1.depth < recursionLimit := by have := RG.dp; show X.A.depth < _; omega
  refine wpAny_pure ⟨plainId_quiet F.plain_extend_loop _, col_loop (A := X.A.in1.in1) hh1 hd1 hSI (Nat.ne_of_gt hcl) hz (fun s' acc c hS hfin => ?_) _ _ (Nat.le_refl _) R⟩
  show wpAny _ X.A.in1.in1 (load s.heap.objs.size >>= _) _ _ s'
  refine wpAny_bind (wpAny_load hS ?_)
  exact wpAny_pure (hQ s' acc hfin)
theorem go_tuple (C : Cxt W k N sc X) (RG : RoomG k X.A) (hz : tot.length ≤ sizeLine) (h : Made X pins σ W.cs k .tuple tot m0 st0 stF H0 u s)
    (hQ : ∀ s' acc, FinC X pins σ W.cs m0 st0 H0 tot stF acc s' → Q' (.ref s'.heap.objs.size) { s' with heap := s'.heap.push { cls := .type "tuple", data := .seq acc } }) : wpAny (model X.prog X.w) X.A (call (.type "tuple") [u]) Q' E s := by
  obtain ⟨a, g, c, e, ha, hg, hgs, I, sc', wake⟩ := id h
  subst e
  refine callType_codes (Q₁ := fun obj s₁ => s₁.TypeIs obj "tuple" ∧ Q' obj s₁) F.called_tuple (F.typeCall_tuple_1 _) F.entry_object_init ?_ fun obj s₁ h₁ => ?_
  · refine codeAny_of_tree ?_
    show wpAny _ X.A.in1.in1 (do checkBuiltinCall "tuple.__new__" ⟨[.type "tuple", .ref a], []⟩; again (.builtin "tuple.__new__" ⟨[.type "tuple", .ref a], []⟩)) _ _ s
    refine wpAny_bind (wpAny_of_eq (F.newCall_tuple_1 _) (wpAny_pure ⟨plainId_quiet F.plain_tuple_new _, codeAny_builtin F.entry_tuple_new ?_⟩))
    rw [Around.under_plainId F.plain_tuple_new _]
    have hsub := sub_tuple_self
    have hinit := init_tuple_lookup
    have hmh := madeHere_tuple
    have hTI : s.TypeIs (.ref a) "generator" := hg.typeIs
    wp_walk using wpAny_typeOf hTI, go_collect C RG hz h
    intro s' acc hfin
    have hsz : acc.size ≤ sizeLine := by
      obtain ⟨vs, m, H, _, _, _, r, v⟩ := hfin
      have e1 := r.length
      have e2 := v.length
      simp only [Array.length_toList] at e2
      omega
    show wpAny _ _ (Builtin.Tuple.tupleExact acc.toList.toArray >>= fun v => ret v) _ _ _
    unfold Builtin.Tuple.tupleExact
    refine wpAny_bind (wpAny_newObj_type ?_ (by show acc.toList.toArray.size ≤ sizeLine; simp only [Array.toArray_toList]; exact hsz))
    refine wpAny_pure ?_
    have e : acc.toList.toArray = acc := by simp
    rw [e]
    exact ⟨⟨_, Heap.get?_push_size _ rfl, rfl⟩, hQ s' acc hfin⟩
  · exact ⟨h₁.1, F.args_object_init_2 obj _, object_init_meets F.called_tuple.init.lookup F.called_tuple.made (by decide) X.prog X.w X.A.in1 _ s₁ ⟨h₁.1, rfl, h₁.2⟩⟩
end
end Mi

set_option Elab.async false
set_option linter.all false
set_option maxRecDepth 100000
set_option maxHeartbeats 4000000
/-! Mi16: generator expressions as expressions. -/
namespace Mi
open PySem PySem.Spec PyProof.Rows L2 GenW

def foldB : Expr → Bool
  | .List _ _ => false
  | .Set _ _ _ => false
  | _ => true
theorem foldB_set {e : Expr} {env : PySem.Env} (h : foldB e = true) (v : Value) : foldedSetIterable e env v = pure v := by
  cases e <;> first | rfl | cases h
/-- what a for-statement walks as it stands -/
def foldSB : Expr → Bool
  | .Set _ _ _ => false
  | _ => true
theorem foldSB_set {e : Expr} {env : PySem.Env} (h : foldSB e = true) (v : Value) : foldedSetIterable e env v = pure v := by
  cases e <;> first | rfl | cases h
theorem foldB_gen {e : Expr} {env : PySem.Env} (h : foldB e = true) (v : Value) : genFold e env v = pure v := by
  cases e <;> first | rfl | cases h
/-- where generator expressions may stand -/
structure GenCx (W : Wld) (k : Nat) (X : Cx) : Prop where
  room : RoomG k X.A
  code : ∃ c P, GxR.TabB X.base X.mg c P ∧ X.env.code = .ref c ∧ (c, P) ∈ W.cs
section
variable {W : Wld} {k : Nat} {N : List Str} {sc : Scope} {X : Cx}
theorem s_gen (C : Cxt W k N sc X) (GC : GenCx W k X) {gk : GK} {x : Str} {px p gpos : Pos} {elt tge iter : Expr} {ifs : List Expr} {scope : Scope} {own : List (Str × Nat)} {tg : ITg} {cond : ITo} {eltI : IE} {env : Env} {st : Store} {r : Option (List D × Store)}
    (hx : gkN gk = x) (hg : glB sc x = true) (ok : BlkOk N sc scope own) (S : GenSc scope) (hi : IOk X W.cs tge iter env st r) (hfold : foldB iter = true)
    (hB : ∀ G, Cxt W k N scope G → Sto (locB scope) G → TgOk G W.cs tg tge ∧ (∀ env st, TsOk G W.cs ifs env st (evTo (callF W.T W.F k) env cond st)) ∧ ∀ env st, EOk G W.cs elt env st (evE (callF W.T W.F k) env eltI st)) :
    EOk X W.cs (.Call (.Name x px) [.GeneratorExp elt [⟨tge, iter, ifs, 0⟩] scope gpos] [] p) env st (match (generalizing := false) r with
    | some (xs, st1) => if tgOwn tg (own.map (·.2)) then (match mapGs gk (turnF (callF W.T W.F k) (wipeE env (own.map (·.2))) tg cond eltI) xs st1 with
      | some (ys, st2) => if ys.length ≤ sizeLine then (match gkF gk ys with
        | some d => some (d, st2)
        | none => none) else none
      | none => none) else none
    | none => none) := by
  intro d st' e m σ H Q hs hr hq
  cases r with
  | none => cases e
  | some p1 =>
    obtain ⟨xs, st1⟩ := p1
    simp only at e
    split at e
    · rename_i hown
      split at e
      · rename_i ys st2 hm
        split at e
        · rename_i hz
          split at e
          · rename_i d' hgk
            cases e
            obtain ⟨c, P, TB, hcode, hcs⟩ := GC.code
            intro pins s I
            have free : ∀ {y : Str}, y ∈ (["len", "abs", "int", "max", "min", "repr", "str", "divmod", "tuple", "list", "sum", "all", "any", "isinstance", "bool", "range", "zip", "enumerate"] : List Str) → X.mg y = none := fun {y} h => C.mdl.free y h
            have hest : starEach [.GeneratorExp elt [⟨tge, iter, ifs, 0⟩] scope gpos] X.env = (false, eval (.GeneratorExp elt [⟨tge, iter, ifs, 0⟩] scope gpos) X.env) :: starEach [] X.env := rfl
            subst hx
            have fin : ∀ {s' : Shared} {m5 : List Addr} {H5 : Hp} {v : V} {u : Value}, Ext m st H m5 st1 H5 → Fin0 X pins σ W.cs m5 st1 H5 st' s' → (∀ m' H', Rep X.K m' (Lv m' st') H' d v) → RelV v u → EP X pins σ Q u s' := by
              intro s' m5 H5 v u x5 hf hv hu
              obtain ⟨m6, H6, I6, sc6, x6⟩ := hf
              exact ⟨v, H6, I6, hu, hq m6 v H6 (x5.trans x6) sc6 (hv _ _)⟩
            cases gk with
            | tuple =>
              simp only [gkF, Option.some.injEq] at hgk
              subst hgk
              refine wpAny_Call_Name_kw (ld_blt I (C.gl hg) (free (by decide)) PyProof.Rows.boot_tuple ?_)
              refine PyProof.Rows.callWith_type1 ?_ hest (by rfl)
              rw [hest]
              show wpAny _ _ (spliced ((false, eval (.GeneratorExp elt [⟨tge, iter, ifs, 0⟩] scope gpos) X.env) :: backTo p (starEach [] X.env))) _ _ s
              refine Calls.spliced_cons (gen_made C GC.room TB hcode hcs ok S hi (foldB_gen hfold) hown hB rfl hm hs hr I fun u s5 m5 H5 x5 md => ?_)
              refine Calls.spliced_nil ?_
              refine go_tuple C GC.room hz md fun s' acc hf => ?_
              obtain ⟨vs, m6, H6, I6, sc6, x6, r6, v6⟩ := hf
              have hl : vs.length ≤ sizeLine := by rw [← r6.length]; exact hz
              have hn := I6.hok.fresh (Nat.le_refl s'.heap.objs.size)
              have e9 : ({ cls := .type "tuple", data := .seq acc } : Obj) = { cls := .type "tuple", data := .seq acc.toList.toArray } := by simp
              refine ⟨.ref s'.heap.objs.size, _, ?_, rfl, hq m6 _ _ ((x5.trans x6).trans (ext_new hn)) (sc6.new hn) (rep_tup sc6 hn r6)⟩
              rw [e9]
              exact I6.laid (t' := s'.toks) (o := .tup vs) (fun b ob q => Heap.get?_push_of_some _ q) (Nat.le_refl _) ⟨hl, _, v6, IsTup.new _ _⟩
            | all =>
              simp only [gkF, Option.map_eq_some_iff] at hgk
              obtain ⟨bs, hbs, rfl⟩ := hgk
              refine wpAny_Call_Name_kw (ld_blt I (C.gl hg) (free (by decide)) PyProof.Rows.boot_all ?_)
              refine PyProof.Rows.callWith_builtin1 ?_ hest (by rfl)
              rw [hest]
              show wpAny _ _ (spliced ((false, eval (.GeneratorExp elt [⟨tge, iter, ifs, 0⟩] scope gpos) X.env) :: backTo p (starEach [] X.env))) _ _ s
              refine Calls.spliced_cons (gen_made C GC.room TB hcode hcs ok S hi (foldB_gen hfold) hown hB rfl hm hs hr I fun u s5 m5 H5 x5 md => ?_)
              refine Calls.spliced_nil ?_
              exact go_all C GC.room hbs md fun s' hf => fin x5 hf (v := .bl (bs.all id)) (fun _ _ => by simp only [Rep]) rfl
            | any =>
              simp only [gkF, Option.map_eq_some_iff] at hgk
              obtain ⟨bs, hbs, rfl⟩ := hgk
              refine wpAny_Call_Name_kw (ld_blt I (C.gl hg) (free (by decide)) PyProof.Rows.boot_any ?_)
              refine PyProof.Rows.callWith_builtin1 ?_ hest (by rfl)
              rw [hest]
              show wpAny _ _ (spliced ((false, eval (.GeneratorExp elt [⟨tge, iter, ifs, 0⟩] scope gpos) X.env) :: backTo p (starEach [] X.env))) _ _ s
              refine Calls.spliced_cons (gen_made C GC.room TB hcode hcs ok S hi (foldB_gen hfold) hown hB rfl hm hs hr I fun u s5 m5 H5 x5 md => ?_)
              refine Calls.spliced_nil ?_
              exact go_any C GC.room hbs md fun s' hf => fin x5 hf (v := .bl (bs.any id)) (fun _ _ => by simp only [Rep]) rfl
            | sum =>
              simp only [gkF, Option.map_eq_some_iff] at hgk
              obtain ⟨ns, hns, rfl⟩ := hgk
              refine wpAny_Call_Name_kw (ld_blt I (C.gl hg) (free (by decide)) PyProof.Rows.boot_sum ?_)
              refine PyProof.Rows.callWith_builtin1 ?_ hest (by rfl)
              rw [hest]
              show wpAny _ _ (spliced ((false, eval (.GeneratorExp elt [⟨tge, iter, ifs, 0⟩] scope gpos) X.env) :: backTo p (starEach [] X.env))) _ _ s
              refine Calls.spliced_cons (gen_made C GC.room TB hcode hcs ok S hi (foldB_gen hfold) hown hB rfl hm hs hr I fun u s5 m5 H5 x5 md => ?_)
              refine Calls.spliced_nil ?_
              exact go_sum C GC.room hns md fun s' t hf => fin x5 hf (v := .int ns.sum) (fun _ _ => by simp only [Rep]) ⟨t, rfl⟩
          · cases e
        · cases e
      · cases e
    · cases e
end
end Mi

set_option Elab.async false
set_option linter.all false
set_option maxRecDepth 100000
set_option maxHeartbeats 4000000
/-! Mi17: stores are cut; comprehensions. -/
namespace Mi
open PySem PySem.Spec PyProof.Rows L2 GenW

theorem lv_take {m : List Addr} {st : Store} {n : Nat} {a : Addr} (h : Lv (m.take n) (st.take n) a) : Lv m st a := by
  obtain ⟨i, xs, h1, h2⟩ := h
  rw [List.getElem?_take] at h1 h2
  split at h1
  · rename_i hi
    rw [if_pos hi] at h2
    exact ⟨i, xs, h1, h2⟩
  · cases h1
mutual
theorem rep_take {K : PySem.W.Frag} {m : List Addr} {st : Store} {H : Hp} {n : Nat} : ∀ {d : D} {v : V}, fitD n d = true → Rep K m (Lv m st) H d v → Rep K (m.take n) (Lv (m.take n) (st.take n)) H d v
  | .non, v, _, h => by simpa only [Rep] using h
  | .bl b, v, _, h => by simpa only [Rep] using h
  | .int i, v, _, h => by simpa only [Rep] using h
  | .str s, v, _, h => by simpa only [Rep] using h
  | .tup xs, v, f, h => by
    simp only [Rep] at h ⊢
    simp only [fitD] at f
    obtain ⟨a, ys, e, h1, h2⟩ := h
    exact ⟨a, ys, e, h1, reps_takeC f h2⟩
  | .lst xs, v, f, h => by
    simp only [Rep] at h ⊢
    simp only [fitD] at f
    obtain ⟨a, ys, e, h1, nl, h2⟩ := h
    exact ⟨a, ys, e, h1, fun l => nl (lv_take l), reps_takeC f h2⟩
  | .scr xs, v, f, h => by
    simp only [Rep] at h ⊢
    simp only [fitD] at f
    obtain ⟨a, ys, e, h1, h2⟩ := h
    refine ⟨a, ys, e, ?_, reps_takeC f h2⟩
    rcases h1 with h1 | ⟨h1, nl⟩ | h1
    · exact .inl h1
    · exact .inr (.inl ⟨h1, fun l => nl (lv_take l)⟩)
    · exact .inr (.inr h1)
  | .cell k, v, f, h => by
    simp only [Rep] at h ⊢
    simp only [fitD, decide_eq_true_eq] at f
    obtain ⟨a, e, h1⟩ := h
    exact ⟨a, e, by rw [List.getElem?_take, if_pos f]; exact h1⟩
  | .dct ks vs, v, f, h => by
    simp only [Rep] at h ⊢
    simp only [fitD] at f
    obtain ⟨a, ys, e, h1, h3, h2⟩ := h
    exact ⟨a, ys, e, h1, h3, reps_takeC f h2⟩
theorem reps_takeC {K : PySem.W.Frag} {m : List Addr} {st : Store} {H : Hp} {n : Nat} : ∀ {ds : List D} {vs : List V}, fitDs n ds = true → Reps K m (Lv m st) H ds vs → Reps K (m.take n) (Lv (m.take n) (st.take n)) H ds vs
  | [], vs, _, h => by simpa only [Reps] using h
  | d :: ds, vs, f, h => by
    simp only [Reps] at h ⊢
    simp only [fitDs, Bool.and_eq_true] at f
    obtain ⟨y, r, e, h1, h2⟩ := h
    exact ⟨y, r, e, rep_take f.1 h1, reps_takeC f.2 h2⟩
end
theorem SC.cut {K : PySem.W.Frag} {cs : List (Addr × Addr)} {m : List Addr} {st : Store} {H : Hp} {n : Nat} (s : SC K cs m st H) (h : okC n (st.take n) = true) : SC K cs (m.take n) (st.take n) H where
  len := by rw [List.length_take, List.length_take, s.len]
  cell := fun i xs e => by
    have e0 := e
    rw [List.getElem?_take] at e
    split at e
    · rename_i hi
      obtain ⟨a, ys, h1, h2, h3⟩ := s.cell i xs e
      refine ⟨a, ys, by rw [List.getElem?_take, if_pos hi]; exact h1, h2, reps_takeC ?_ h3⟩
      unfold okC at h
      rw [List.all_eq_true] at h
      exact h (some xs) (List.mem_of_getElem? e0)
    · cases e
  inj := fun i j a xs ys h1 h2 h3 h4 => by
    rw [List.getElem?_take] at h1 h2 h3 h4
    split at h1
    · rename_i hi
      rw [if_pos hi] at h3
      split at h2
      · rename_i hj
        rw [if_pos hj] at h4
        exact s.inj i j a xs ys h1 h2 h3 h4
      · cases h2
    · cases h1
  tab := s.tab
theorem ext_cut {m m' : List Addr} {st st' : Store} {H H' : Hp} {n : Nat} (x : Ext m st H m' st' H') (hl : m.length ≤ n) : Ext m st H (m'.take n) (st'.take n) H' where
  pre := fun i a h => by
    have := (List.getElem?_eq_some_iff.mp h).1
    rw [List.getElem?_take, if_pos (by omega)]
    exact x.pre i a h
  keep := x.keep
  tbl := x.tbl
  new := fun a l => x.new a (lv_take l)
/-- at an exit -/
theorem cut_ok {K : PySem.W.Frag} {cs : List (Addr × Addr)} {m0 m : List Addr} {st0 st : Store} {H0 H : Hp} {d d' : D} {v : V} {st' : Store} (h : cutD st0.length d st = some (d', st')) (hl : m0.length = st0.length) (x : Ext m0 st0 H0 m st H) (s : SC K cs m st H) (r : Rep K m (Lv m st) H d v) :
    d' = d ∧ ∃ m', Ext m0 st0 H0 m' st' H ∧ SC K cs m' st' H ∧ Rep K m' (Lv m' st') H d v := by
  have gen : ∀ {n : Nat}, st0.length ≤ n → fitD n d = true → okC n (st.take n) = true → d' = d → st' = st.take n → d' = d ∧ ∃ m', Ext m0 st0 H0 m' st' H ∧ SC K cs m' st' H ∧ Rep K m' (Lv m' st') H d v := by
    intro n hn f o e1 e2
    subst e2
    exact ⟨e1, m.take n, ext_cut x (by omega), s.cut o, rep_take f r⟩
  have easy : ∀ (hk : (if fitD st0.length d && okC st0.length (st.take st0.length) then some (d, st.take st0.length) else none) = some (d', st')), d' = d ∧ ∃ m', Ext m0 st0 H0 m' st' H ∧ SC K cs m' st' H ∧ Rep K m' (Lv m' st') H d v := fun hk => by
    split at hk
    · rename_i hc
      simp only [Bool.and_eq_true] at hc
      cases hk
      exact gen (Nat.le_refl _) hc.1 hc.2 rfl rfl
    · cases hk
  cases d with
  | cell k =>
    simp only [cutD] at h
    split at h
    · rename_i hk
      split at h
      · rename_i ho
        cases h
        exact gen (Nat.le_refl _) (by simp only [fitD, decide_eq_true_eq]; exact hk) ho rfl rfl
      · cases h
    · split at h
      · rename_i hk
        split at h
        · rename_i ho
          cases h
          exact gen (Nat.le_succ _) (by simp only [fitD, decide_eq_true_eq]; omega) ho rfl rfl
        · cases h
      · cases h
  | _ => exact easy h
end Mi

set_option Elab.async false
set_option linter.all false
set_option maxRecDepth 100000
set_option maxHeartbeats 4000000
/-! Mi18: comprehensions; targets. -/
namespace Mi
open PySem PySem.Spec PyProof.Rows L2 GenW

section
variable {W : Wld} {k : Nat} {N : List Str} {sc : Scope} {X : Cx}
/-- a comprehension's own names, as they stand -/
theorem sto_blk {scope : Scope} {s : Shared} {H : Hp} {c : Addr} {cl : List (Str × Addr)} {fp : List Addr} : Sto (locB scope) (X.blk s H scope (compEnvC scope cl c X.env) fp) := fun x hx => by
  have keep : ∀ {kd : NameKind}, kd ≠ .free → scope.names.lookup x = some kd → (relS scope X.env.scope).names.lookup x = some kd := fun h1 h2 => lookup_relS_keep h1 h2
  rcases locB_ok hx with h | h
  · exact ⟨.inl (keep (by decide) h), .inr (keep (by decide) h)⟩
  · refine ⟨.inr (keep (by decide) h), .inl ?_⟩
    show (scope.names.lookup x == some NameKind.cell) = true
    rw [h]; rfl
theorem Cxt.blk (C : Cxt W k N sc X) {scope : Scope} {s : Shared} {H : Hp} {c : Addr} {cl : List (Str × Addr)} {fp : List Addr} : Cxt W k N (relS scope sc) (X.blk s H scope (compEnvC scope cl c X.env) fp) :=
  ⟨by show relS scope X.env.scope = _; rw [C.hsc], C.hN, C.nd, C.calm, C.room, C.grd, ⟨C.mdl.free, C.mdl.gcd, C.mdl.lcm, C.mdl.fns, C.mdl.gcs⟩⟩
theorem GenCx.blk (G : GenCx W k X) {scope : Scope} {s : Shared} {H : Hp} {c : Addr} {cl : List (Str × Addr)} {fp : List Addr} : GenCx W k (X.blk s H scope (compEnvC scope cl c X.env) fp) :=
  ⟨G.room, G.code⟩
theorem set_append_last {α : Type} {l : List α} {x y : α} : (l ++ [x]).set l.length y = l ++ [y] := by simp
/-- one cell's content changes -/
theorem ext_set {K : PySem.W.Frag} {cs : List (Addr × Addr)} {m : List Addr} {st : Store} {H : Hp} {n : Nat} {a : Addr} {xs ys : List D} {vs : List V} (s : SC K cs m st H) (h1 : st[n]? = some (some xs)) (h2 : m[n]? = some a) :
    Ext m st H m (st.set n (some ys)) (upd H a (.lst vs)) where
  pre := fun _ _ h => h
  keep := fun b o h nl _ => by
    have hb : b ≠ a := fun e => nl ⟨n, xs, h1, by rw [e]; exact h2⟩
    rw [upd_ne hb]; exact h
  tbl := fun b ps h => by
    have hb : b ≠ a := fun e => by
      obtain ⟨a', ws, q1, q2, _⟩ := s.cell n xs h1
      rw [h2] at q1; cases q1
      rw [e, q2] at h; cases h
    exact ⟨#[], by rw [upd_ne hb]; simpa using h⟩
  new := fun b ⟨i, zs, q1, q2⟩ => by
    by_cases hi : i = n
    · subst hi
      exact .inl ⟨i, xs, h1, q2⟩
    · rw [List.getElem?_set_ne (Ne.symm hi)] at q1
      exact .inl ⟨i, zs, q1, q2⟩
theorem SC.setc {K : PySem.W.Frag} {cs : List (Addr × Addr)} {m : List Addr} {st : Store} {H : Hp} {n : Nat} {a : Addr} {xs ys : List D} {vs : List V} (s : SC K cs m st H) (h1 : st[n]? = some (some xs)) (h2 : m[n]? = some a) (r : Reps K m (Lv m st) H ys vs) :
    SC K cs m (st.set n (some ys)) (upd H a (.lst vs)) := by
  have x : Ext m st H m (st.set n (some ys)) (upd H a (.lst vs)) := ext_set s h1 h2
  refine ⟨by rw [List.length_set]; exact s.len, fun i zs e => ?_, fun i j b us ws q1 q2 q3 q4 => ?_, fun q hq => ?_⟩
  · by_cases hi : i = n
    · subst hi
      have hl : i < st.length := (List.getElem?_eq_some_iff.mp h1).1
      rw [List.getElem?_set_self hl] at e
      cases e
      exact ⟨a, vs, h2, upd_same, r.ext s.cells x⟩
    · rw [List.getElem?_set_ne (Ne.symm hi)] at e
      obtain ⟨b, ws, q1, q2, q3⟩ := s.cell i zs e
      have hb : b ≠ a := fun e2 => hi (s.inj i n a _ _ e h1 (by rw [← e2]; exact q1) h2)
      exact ⟨b, ws, q1, by rw [upd_ne hb]; exact q2, q3.ext s.cells x⟩
  · have key : ∀ {i : Nat} {us : List D}, (st.set n (some ys))[i]? = some (some us) → ∃ us', st[i]? = some (some us') := fun {i us} q => by
      by_cases hi : i = n
      · exact ⟨xs, by rw [hi]; exact h1⟩
      · rw [List.getElem?_set_ne (Ne.symm hi)] at q; exact ⟨us, q⟩
    obtain ⟨_, q1'⟩ := key q1
    obtain ⟨_, q2'⟩ := key q2
    exact s.inj i j b _ _ q1' q2' q3 q4
  · obtain ⟨ps, e1, e2⟩ := s.tab q hq
    have hb : q.2 ≠ a := fun e => by
      obtain ⟨a', ws, z1, z2, _⟩ := s.cell n xs h1
      rw [h2] at z1; cases z1
      rw [e, z2] at e1; cases e1
    exact ⟨ps, by rw [upd_ne hb]; exact e1, e2⟩
end
end Mi

set_option Elab.async false
set_option linter.all false
set_option maxRecDepth 100000
set_option maxHeartbeats 4000000
/-! Mi19: comprehensions as expressions. -/
namespace Mi
open PySem PySem.Spec PyProof.Rows L2 GenW

section
variable {W : Wld} {k : Nat} {N : List Str} {sc : Scope} {X : Cx}
/-- a walk's state ahead of the turn i -/
def WalkS (K : PySem.W.Frag) (cs : List (Addr × Addr)) (m1 : List Addr) (st1 : Store) (H1 : Hp) (L : Addr) (f : D → Store → Option (Option D × Store)) (xs : List D) (st2 : Store) (i mm : Nat) (H' : Hp) : Prop :=
  ∃ m' st3, i + mm = xs.length ∧ Ext m1 st1 H1 m' st3 H' ∧ SC K cs m' st3 H' ∧ m'[st1.length]? = some L ∧ mapSt st1.length f (xs.drop i) st3 = some st2
theorem comp_core (C : Cxt W k N sc X) {elt tge iter : Expr} {ifs : List Expr} {scope : Scope} {own : List (Str × Nat)} {tg : ITg} {cond : ITo} {eltI : IE} {env : Env} {st : Store} {xs ys : List D} {st1 st2 : Store}
    (hi : IOk X W.cs tge iter env st (some (xs, st1)))
    (hB : ∀ G, Cxt W k N (relS scope sc) G → Sto (locB scope) G → (GenCx W k X → GenCx W k G) → TgOk G W.cs tg tge ∧ (∀ env st, TsOk G W.cs ifs env st (evTo (callF W.T W.F k) env cond st)) ∧ ∀ env st, EOk G W.cs elt env st (evE (callF W.T W.F k) env eltI st))
    (hown : tgOwn tg (own.map (·.2)) = true) (hm : mapSt st1.length (turnF (callF W.T W.F k) (wipeE env (own.map (·.2))) tg cond eltI) xs (st1 ++ [some []]) = some st2) (hys : st2[st1.length]? = some (some ys))
    {d : D} {st' : Store} (hcut : cutD st1.length (.lst ys) st2 = some (d, st')) {m : List Addr} {σ : L2.St} {H : Hp} {Q : VK} (hs : SC X.K W.cs m st H) (hr : EnvR X.K m st H env σ) (hq : Aft X W.cs m st H d st' Q) :
    tLc (tIt X tge iter) (fun v σ H Q => ∀ s0 H0 c cl fp, tGt (X.blk s0 H0 scope (compEnvC scope cl c X.env) fp) tge v σ H Q) (fun σ H Q => ∀ s0 H0 c cl fp, tTs (X.blk s0 H0 scope (compEnvC scope cl c X.env) fp) ifs σ H Q)
      (fun σ H Q => ∀ s0 H0 c cl fp, tE (X.blk s0 H0 scope (compEnvC scope cl c X.env) fp) elt σ H Q) (own.map (·.2)) σ H Q := by
  have inst : ∀ s0 H0 c cl fp, TgOk (X.blk s0 H0 scope (compEnvC scope cl c X.env) fp) W.cs tg tge ∧ (∀ env st, TsOk (X.blk s0 H0 scope (compEnvC scope cl c X.env) fp) W.cs ifs env st (evTo (callF W.T W.F k) env cond st)) ∧ ∀ env st, EOk (X.blk s0 H0 scope (compEnvC scope cl c X.env) fp) W.cs elt env st (evE (callF W.T W.F k) env eltI st) :=
    fun s0 H0 c cl fp => hB _ C.blk sto_blk fun g => g.blk
  refine hi xs st1 rfl m σ H _ hs hr fun m1 J H1 x1 s1 items => ?_
  intro L hL
  have hl1 : m1.length = st1.length := s1.len
  refine ⟨WalkS X.K W.cs m1 st1 H1 L (turnF (callF W.T W.F k) (wipeE env (own.map (·.2))) tg cond eltI) xs st2, ⟨xs.length, m1 ++ [L], st1 ++ [some []], by omega, ext_cell hl1 hL, s1.push hL (by simp only [Reps]), by rw [← hl1]; simp, by simpa using hm⟩, ?_⟩
  intro i mm H' ⟨m', st3, him, x3, s3, hmL, hmap⟩
  have it := items m' st3 H' x3 s3
  cases mm with
  | zero =>
    left
    have e : i = xs.length := by omega
    rw [e] at hmap ⊢
    rw [List.drop_length] at hmap
    simp only [mapSt, Option.some.injEq] at hmap
    subst hmap
    refine ⟨it.2, ?_⟩
    simp only [cutD] at hcut
    split at hcut
    · rename_i hc
      simp only [Bool.and_eq_true, fitD] at hc
      cases hcut
      obtain ⟨a, vs, q1, q2, q3⟩ := s3.cell _ _ hys
      rw [hmL] at q1; cases q1
      have hml : m.length ≤ st1.length := by
        rw [← hl1]
        by_cases z : m.length ≤ m1.length
        · exact z
        · have z2 : m1.length < m.length := by omega
          have z3 := x1.pre m1.length _ (List.getElem?_eq_getElem z2)
          rw [List.getElem?_eq_none (Nat.le_refl _)] at z3; cases z3
      refine hq (m'.take st1.length) (.ref L) H' (ext_cut (x1.trans x3) hml) (s3.cut hc.2) ?_
      · simp only [Rep]
        refine ⟨L, vs, rfl, q2, fun l => ?_, reps_takeC hc.1 q3⟩
        obtain ⟨j, zs, z1, z2⟩ := l
        rw [List.getElem?_take] at z1 z2
        split at z1
        · rename_i hj
          rw [if_pos hj] at z2
          have := s3.inj j st1.length L zs ys z1 hys z2 hmL
          omega
        · cases z1
    · cases hcut
  | succ mm =>
    right
    have hlt : i < xs.length := by omega
    have hat : xs[i]? = some xs[i] := List.getElem?_eq_getElem hlt
    have hdrop : xs.drop i = xs[i] :: xs.drop (i + 1) := List.drop_eq_getElem_cons hlt
    generalize hxe : xs[i] = x at hat hdrop
    rw [hdrop] at hmap
    have zi := it.1 i x hat
    refine ⟨zi.1, WalkS X.K W.cs m1 st1 H1 L (turnF (callF W.T W.F k) (wipeE env (own.map (·.2))) tg cond eltI) xs st2 (i + 1) mm, fun H'' w => ⟨mm, Nat.lt_succ_self _, w⟩, fun x' H'' y7 => ?_⟩
    obtain ⟨x7, s7, r7⟩ := zi.2 x' H'' y7
    cases hb : bindT tg x (wipeE env (own.map (·.2))) with
    | none =>
      simp only [mapSt, turnF, hb] at hmap
      cases hmap
    | some env' =>
      have er : EnvR X.K m' st3 H'' (wipeE env (own.map (·.2))) (wipe σ (own.map (·.2))) := (((hr.ext hs.cells x1).ext s1.cells x3).ext s3.cells x7).wipe _
      intro s0 H0 c0 cl0 fp0
      refine (inst s0 H0 c0 cl0 fp0).1 m' st3 H'' x _ env' _ x' _ hb s7 er r7 fun vs' er' => ⟨by rw [wipe_tgS hown, wipe_wipe], ?_⟩
      intro s0 H0 c0 cl0 fp0
      cases hc : evTo (callF W.T W.F k) env' cond st3 with
      | none =>
        simp only [mapSt, turnF, hb, hc] at hmap
        cases hmap
      | some p =>
        obtain ⟨b, st4⟩ := p
        refine (inst s0 H0 c0 cl0 fp0).2.1 env' st3 b st4 hc m' _ H'' _ s7 er' fun m9 H9 x9 s9 => ?_
        have x79 := x7.trans x9
        cases b with
        | false =>
          simp only [mapSt, turnF, hb, hc] at hmap
          rw [if_neg Bool.false_ne_true]
          exact ⟨m9, st4, by omega, x3.trans x79, s9, x79.pre _ _ hmL, hmap⟩
        | true =>
          rw [if_pos rfl]
          intro s0 H0 c0 cl0 fp0
          cases he : evE (callF W.T W.F k) env' eltI st4 with
          | none =>
            simp only [mapSt, turnF, hb, hc, he] at hmap
            cases hmap
          | some q =>
            obtain ⟨y, st5⟩ := q
            simp only [mapSt, turnF, hb, hc, he] at hmap
            refine (inst s0 H0 c0 cl0 fp0).2.2 env' st4 y st5 he m9 _ H9 _ s9 (er'.ext s7.cells x9) fun m10 v H10 x10 s10 p10 => ?_
            have x710 := x79.trans x10
            split at hmap
            · rename_i acc hacc
              split at hmap
              · rename_i hz
                have hmL' := x710.pre _ _ hmL
                obtain ⟨a, vs, q1, q2, q3⟩ := s10.cell _ _ hacc
                rw [hmL'] at q1; cases q1
                have r2 : Reps X.K m10 (Lv m10 st5) H10 (acc ++ [y]) (vs ++ [v]) := q3.append (by simp only [Reps]; exact ⟨v, [], rfl, p10, rfl⟩)
                refine ⟨vs, q2, by rw [← q3.length]; exact hz, m10, _, by omega, (x3.trans x710).trans (ext_set (K := X.K) (cs := W.cs) s10 hacc hmL'), s10.setc hacc hmL' r2, hmL', hmap⟩
              · cases hmap
            · cases hmap
theorem s_comp (C : Cxt W k N sc X) {elt tge iter : Expr} {ifs : List Expr} {scope : Scope} {own : List (Str × Nat)} {pos : Pos} {tg : ITg} {cond : ITo} {eltI : IE} {env : Env} {st : Store} {r : Option (List D × Store)}
    (ok : BlkOk N sc scope own) (hi : IOk X W.cs tge iter env st r) (hfold : foldB iter = true)
    (hB : ∀ G, Cxt W k N (relS scope sc) G → Sto (locB scope) G → (GenCx W k X → GenCx W k G) → TgOk G W.cs tg tge ∧ (∀ env st, TsOk G W.cs ifs env st (evTo (callF W.T W.F k) env cond st)) ∧ ∀ env st, EOk G W.cs elt env st (evE (callF W.T W.F k) env eltI st)) :
    EOk X W.cs (.ListComp elt [⟨tge, iter, ifs, 0⟩] scope pos) env st (match (generalizing := false) r with
    | some (xs, st1) => if tgOwn tg (own.map (·.2)) then (match mapSt st1.length (turnF (callF W.T W.F k) (wipeE env (own.map (·.2))) tg cond eltI) xs (st1 ++ [some []]) with
      | some st2 => (match st2[st1.length]? with
        | some (some ys) => cutD st1.length (.lst ys) st2
        | _ => none)
      | none => none) else none
    | none => none) := by
  intro d st' e m σ H Q hs hr hq
  cases r with
  | none => cases e
  | some p1 =>
    obtain ⟨xs, st1⟩ := p1
    simp only at e
    split at e
    · rename_i hown
      split at e
      · rename_i st2 hm
        split at e
        · rename_i ys hys
          refine useE (pe_lc (g := fun v σ H Q => ∀ s0 H0 c cl fp, tGt (X.blk s0 H0 scope (compEnvC scope cl c X.env) fp) tge v σ H Q) (tt := fun σ H Q => ∀ s0 H0 c cl fp, tTs (X.blk s0 H0 scope (compEnvC scope cl c X.env) fp) ifs σ H Q)
            (te := fun σ H Q => ∀ s0 H0 c cl fp, tE (X.blk s0 H0 scope (compEnvC scope cl c X.env) fp) elt σ H Q) C.calm (by rw [C.hN]; exact C.nd) piI (by rw [C.hN, C.hsc]; exact ok)
            (fun s0 H0 c cl fp => ⟨fun pins s σ H v u Q I rr h => h s0 H0 c cl fp pins s u I rr⟩) (fun s0 H0 c cl fp => ⟨fun pins s σ H Q I h => h s0 H0 c cl fp pins s I⟩)
            (fun s0 H0 c cl fp => ⟨fun pins s σ H Q I h => h s0 H0 c cl fp pins s I⟩) (foldB_set hfold)) ?_
          exact comp_core C hi hB hown hm hys e hs hr hq
        · cases e
      · cases e
    · cases e

/-! ### targets -/
theorem assignEach_len {es : List Expr} {env : PySem.Env} {N : List Str} {sc : Scope} : ∀ {is : List Nat}, nmsB sc N is es = true → (assignEach es env).length = es.length ∧ (assignEach es env).findIdx? (·.1) = none ∧ is.length = es.length := by
  induction es with
  | nil => intro is h; cases is <;> first | exact ⟨rfl, rfl, rfl⟩ | cases h
  | cons e es ih =>
    intro is h
    cases is with
    | nil => cases h
    | cons i is =>
      simp only [nmsB, Bool.and_eq_true] at h
      obtain ⟨h1, h2, h3⟩ := ih h.2
      cases e <;> simp only [nmB, Bool.false_eq_true, false_and] at h
      rename_i x p
      refine ⟨?_, ?_, ?_⟩
      · show ((false, assign (.Name x p) env) :: assignEach es env).length = _
        rw [List.length_cons, h1, List.length_cons]
      · show ((false, assign (.Name x p) env) :: assignEach es env).findIdx? (·.1) = none
        rw [List.findIdx?_cons]
        simp [h2]
      · rw [List.length_cons, h3, List.length_cons]
def gNames : List Nat → TGs
  | [] => gNil
  | i :: is => gCons (gName i) (gNames is)
theorem pgs_names {G : Cx} {scope sc' : Scope} (C : Cxt W k N sc' G) (S : Sto (locB scope) G) : ∀ {es : List Expr} {is : List Nat}, nmsB scope N is es = true → PGs G es (gNames is)
  | [], [], _ => pgs_nil
  | [], _ :: _, h => by simp [nmsB] at h
  | e :: es, [], h => by simp [nmsB] at h
  | e :: es, i :: is, h => by
    simp only [nmsB, Bool.and_eq_true] at h
    cases e <;> simp only [nmB, Bool.false_eq_true, false_and, Bool.and_eq_true, decide_eq_true_eq] at h
    rename_i x p
    obtain ⟨h1, h2⟩ := S x h.1.1.2
    exact pgs_cons (pg_name (by rw [C.hN]; exact C.nd) (by rw [C.hN]; exact h.1.1.1) h1 h2) (pgs_names C S h.2)
theorem names_go {K : PySem.W.Frag} {m : List Addr} {st : Store} {H : Hp} : ∀ {is : List Nat} {xs : List D} {vs : List V} {env : Env} {σ : L2.St} {Q : L2.St → Hp → Prop}, is.length = xs.length → EnvR K m st H env σ → Reps K m (Lv m st) H xs vs →
    (EnvR K m st H ((is.zip xs).foldl (fun e p => e.set p.1 (some p.2)) env) ((is.zip vs).foldl (fun σ p => σ.set p.1 (some p.2)) σ) → Q ((is.zip vs).foldl (fun σ p => σ.set p.1 (some p.2)) σ) H) → gNames is vs σ H Q
  | [], [], vs, env, σ, Q, _, er, r, h => by
    simp only [Reps] at r
    subst r
    exact ⟨rfl, h er⟩
  | [], _ :: _, _, _, _, _, hl, _, _, _ => by simp at hl
  | _ :: _, [], _, _, _, _, hl, _, _, _ => by simp at hl
  | i :: is, x :: xs, vs, env, σ, Q, hl, er, r, h => by
    simp only [Reps] at r
    obtain ⟨y, rr, rfl, r1, r2⟩ := r
    exact ⟨y, rr, rfl, names_go (by simpa using hl) (er.set r1) r2 h⟩
theorem tg_ok {G : Cx} {scope sc' : Scope} (C : Cxt W k N sc' G) (S : Sto (locB scope) G) {tg : ITg} {e : Expr} (h : tgB scope N tg e = true) : TgOk G W.cs tg e := by
  intro m st H d env env' σ v Q hb hs er rr hq
  cases tg with
  | nm i =>
    cases e <;> simp only [tgB, nmB, Bool.false_eq_true, Bool.and_eq_true, decide_eq_true_eq] at h
    rename_i x p
    obtain ⟨h1, h2⟩ := S x h.1.2
    simp only [bindT, Option.some.injEq] at hb
    subst hb
    exact useG (pg_name (by rw [C.hN]; exact C.nd) (by rw [C.hN]; exact h.1.1) h1 h2) (hq [] (er.set rr))
  | tp is =>
    cases e <;> simp only [tgB, Bool.false_eq_true] at h
    rename_i es kk p
    cases d <;> simp only [bindT] at hb <;> try (cases hb; done)
    rename_i xs
    split at hb
    · rename_i hl
      simp only [Option.some.injEq] at hb
      subst hb
      simp only [Rep] at rr
      obtain ⟨a, ys, rfl, q1, q2⟩ := rr
      obtain ⟨l1, l2, l3⟩ := assignEach_len (env := G.env) h
      refine useG (pg_tup (n := es.length) C.calm (pgs_names C S h) l1 l2) ⟨a, ys, rfl, q1, by rw [← q2.length, ← hl, l3], names_go hl er q2 fun er' => hq ys er'⟩
    · cases hb
end
end Mi

set_option Elab.async false
set_option linter.all false
set_option maxRecDepth 100000
set_option maxHeartbeats 4000000
/-! zip of a list, a tuple and a list -/
namespace Mi
open PySem PySem.Spec PyProof.Rows L2
open PySem.Sem (wp)

abbrev IsTri (h : Heap) (T : Addr) (a b c : Value) : Prop := h.get? T = some { cls := .type "tuple", data := .seq #[a, b, c] }
structure ZipA3 (z TI TO i1 i2 i3 l1 l2 l3 : Addr) : Prop where
  TIz : TI ≠ z
  TOz : TO ≠ z
  i1z : i1 ≠ z
  i2z : i2 ≠ z
  i3z : i3 ≠ z
  TITO : TI ≠ TO
  TIi1 : TI ≠ i1
  TIi2 : TI ≠ i2
  TIi3 : TI ≠ i3
  TOi1 : TO ≠ i1
  TOi2 : TO ≠ i2
  TOi3 : TO ≠ i3
  i12 : i1 ≠ i2
  i13 : i1 ≠ i3
  i23 : i2 ≠ i3
  l1z : l1 ≠ z
  l1TO : l1 ≠ TO
  l1i1 : l1 ≠ i1
  l1i2 : l1 ≠ i2
  l1i3 : l1 ≠ i3
  l2z : l2 ≠ z
  l2TO : l2 ≠ TO
  l2i1 : l2 ≠ i1
  l2i2 : l2 ≠ i2
  l2i3 : l2 ≠ i3
  l3z : l3 ≠ z
  l3TO : l3 ≠ TO
  l3i1 : l3 ≠ i1
  l3i2 : l3 ≠ i2
  l3i3 : l3 ≠ i3
section
variable {prog : Program} {w : World} {A : Around} {E : Value → Shared → Prop} {s : Shared}
theorem updateSeq_tri {T : Addr} {a b c x : Value} {k : Nat} {Q : Unit → Shared → Prop} (hT : IsTri s.heap T a b c)
    (h : ∀ h', h'.get? T = some { cls := .type "tuple", data := .seq ((#[a, b, c] : Array Value).setIfInBounds k x) } → Heap.SameBut T s.heap h' → Q () { s with heap := h' }) :
    wpAny (model prog w) A (updateSeq T (·.setIfInBounds k x)) Q E s := by
  refine wpAny_updateSeq hT rfl (h _ ?_ (Heap.SameBut.update ..))
  rw [Heap.get?_update_self _ hT rfl]
  simp [Obj.mapSeq]
theorem zip3_next_item {z TI TO i1 i2 i3 l1 l2 l3 : Addr} {k1 k2 k3 : Nat} {xs ys zs : Array Value} {x y v a b c : Value} {Q : Value → Shared → Prop} (D : ZipA3 z TI TO i1 i2 i3 l1 l2 l3)
    (hz : IsZip s.heap z TI TO .none) (hTI : IsTri s.heap TI (.ref i1) (.ref i2) (.ref i3)) (hTO : IsTri s.heap TO a b c)
    (h1 : s.heap.IsListIter i1 l1 k1) (h2 : s.heap.IsTupleIter i2 l2 k2) (h3 : s.heap.IsListIter i3 l3 k3) (hl1 : s.heap.IsList l1 xs) (hl2 : s.heap.IsTuple l2 ys) (hl3 : s.heap.IsList l3 zs)
    (hx : xs[k1]? = some x) (hy : ys[k2]? = some y) (hv : zs[k3]? = some v)
    (hQ : ∀ h', IsZip h' z TI TO (rawInt s.heap.objs.size) → IsTri h' TO x y v → h'.IsListIter i1 l1 (k1 + 1) → h'.IsTupleIter i2 l2 (k2 + 1) → h'.IsListIter i3 l3 (k3 + 1) → IsTri h' s.heap.objs.size x y v → h'.objs.size = s.heap.objs.size + 1 →
      (∀ c o, c ≠ z → c ≠ TO → c ≠ i1 → c ≠ i2 → c ≠ i3 → s.heap.get? c = some o → h'.get? c = some o) → Q (.ref s.heap.objs.size) { s with heap := h' }) :
    wpAny (model prog w) A (Builtin.«zip.__next__» ⟨[.ref z], []⟩) (fun fin s' => ∃ v, fin = .done (.ret v) ∧ Q v s') E s := by
  show wpAny _ _ (field (.ref z) 2 >>= _) _ _ _
  refine wpAny_bind (wpAny_field hz rfl (x := .bool false) rfl ?_)
  show wpAny _ _ (field (.ref z) 3 >>= _) _ _ _
  refine wpAny_bind (wpAny_field hz rfl (x := .ref TI) rfl ?_)
  refine wpAny_bind (wpAny_seqItems hTI rfl ?_)
  show wpAny _ _ (Builtin.SmallTypes.ownedTupleIsFree (.ref z) >>= _) _ _ _
  refine wpAny_bind ?_
  unfold Builtin.SmallTypes.ownedTupleIsFree
  refine wpAny_bind (wpAny_field hz rfl (x := .none) rfl (wpAny_pure ?_))
  simp only [if_true]
  refine wpAny_bind (wpAny_rule ?_)
  refine wpAny_bind (wpAny_field hz rfl (x := .ref TO) rfl ?_)
  refine wpAny_bind (wpAny_setField_rec hz (by simp) fun h₁ hz₁ hs₁ => ?_)
  replace hz₁ : IsZip h₁ z TI TO .ellipsis := hz₁
  refine wpAny_bind ?_
  simp only [List.zipIdx_cons, List.zipIdx_nil, List.forIn_cons, List.forIn_nil]
  refine wpAny_bind (wpAny_bind (wpAny_onRaise ?_))
  show wpAny _ _ (Builtin.SmallTypes.nextOf (.ref i1) >>= _) _ _ _
  refine wpAny_bind (wpAny_nextOf_list_item (h1.extBut hs₁.extBut D.i1z) (hl1.extBut hs₁.extBut D.l1z) hx fun h₂ h1₂ hs₂ => wpAny_pure ?_)
  have hTO₂ : IsTri h₂ TO a b c := hs₂.extBut _ _ D.TOi1 (hs₁.extBut _ _ D.TOz hTO)
  refine wpAny_bind (wpAny_seqItems hTO₂ rfl ?_)
  refine wpAny_bind (updateSeq_tri hTO₂ fun h₃ hTO₃ hs₃ => ?_)
  replace hTO₃ : IsTri h₃ TO x b c := hTO₃
  refine wpAny_bind (wpAny_letGo (wpAny_pure ?_))
  refine wpAny_bind (wpAny_bind (wpAny_onRaise ?_))
  show wpAny _ _ (Builtin.SmallTypes.nextOf (.ref i2) >>= _) _ _ _
  refine wpAny_bind (RZ.nextOf_tuple_item (((h2.extBut hs₁.extBut D.i2z).extBut hs₂.extBut D.i12.symm).extBut hs₃.extBut D.TOi2.symm)
    (((hl2.extBut hs₁.extBut D.l2z).extBut hs₂.extBut D.l2i1).extBut hs₃.extBut D.l2TO) hy fun h₄ h2₄ hs₄ => wpAny_pure ?_)
  have hTO₄ : IsTri h₄ TO x b c := hs₄.extBut _ _ D.TOi2 hTO₃
  refine wpAny_bind (wpAny_seqItems hTO₄ rfl ?_)
  refine wpAny_bind (updateSeq_tri hTO₄ fun h₅ hTO₅ hs₅ => ?_)
  replace hTO₅ : IsTri h₅ TO x y c := hTO₅
  refine wpAny_bind (wpAny_letGo (wpAny_pure ?_))
  refine wpAny_bind (wpAny_bind (wpAny_onRaise ?_))
  show wpAny _ _ (Builtin.SmallTypes.nextOf (.ref i3) >>= _) _ _ _
  refine wpAny_bind (wpAny_nextOf_list_item (((((h3.extBut hs₁.extBut D.i3z).extBut hs₂.extBut D.i13.symm).extBut hs₃.extBut D.TOi3.symm).extBut hs₄.extBut D.i23.symm).extBut hs₅.extBut D.TOi3.symm)
    (((((hl3.extBut hs₁.extBut D.l3z).extBut hs₂.extBut D.l3i1).extBut hs₃.extBut D.l3TO).extBut hs₄.extBut D.l3i2).extBut hs₅.extBut D.l3TO) hv fun h₆ h3₆ hs₆ => wpAny_pure ?_)
  have hTO₆ : IsTri h₆ TO x y c := hs₆.extBut _ _ D.TOi3 hTO₅
  refine wpAny_bind (wpAny_seqItems hTO₆ rfl ?_)
  refine wpAny_bind (updateSeq_tri hTO₆ fun h₇ hTO₇ hs₇ => ?_)
  replace hTO₇ : IsTri h₇ TO x y v := hTO₇
  refine wpAny_bind (wpAny_letGo (wpAny_pure (wpAny_pure ?_)))
  refine wpAny_bind (wpAny_seqItems hTO₇ rfl ?_)
  refine wpAny_bind (wpAny_newTuple ?_)
  have hsz : h₇.objs.size = s.heap.objs.size := by rw [hs₇.1, hs₆.1, hs₅.1, hs₄.1, hs₃.1, hs₂.1, hs₁.1]
  have hz₇ : IsZip h₇ z TI TO .ellipsis := hs₇.extBut _ _ D.TOz.symm (hs₆.extBut _ _ D.i3z.symm (hs₅.extBut _ _ D.TOz.symm (hs₄.extBut _ _ D.i2z.symm (hs₃.extBut _ _ D.TOz.symm (hs₂.extBut _ _ D.i1z.symm hz₁)))))
  have hk₇ : ∀ c o, c ≠ z → c ≠ TO → c ≠ i1 → c ≠ i2 → c ≠ i3 → s.heap.get? c = some o → h₇.get? c = some o := fun c o c1 c2 c3 c4 c5 e =>
    hs₇.extBut _ _ c2 (hs₆.extBut _ _ c5 (hs₅.extBut _ _ c2 (hs₄.extBut _ _ c4 (hs₃.extBut _ _ c2 (hs₂.extBut _ _ c3 (hs₁.extBut _ _ c1 e))))))
  have h1₇ : h₇.IsListIter i1 l1 (k1 + 1) := ((((h1₂.extBut hs₃.extBut D.TOi1.symm).extBut hs₄.extBut D.i12).extBut hs₅.extBut D.TOi1.symm).extBut hs₆.extBut D.i13).extBut hs₇.extBut D.TOi1.symm
  have h2₇ : h₇.IsTupleIter i2 l2 (k2 + 1) := ((h2₄.extBut hs₅.extBut D.TOi2.symm).extBut hs₆.extBut D.i23).extBut hs₇.extBut D.TOi2.symm
  have h3₇ : h₇.IsListIter i3 l3 (k3 + 1) := h3₆.extBut hs₇.extBut D.TOi3.symm
  have hzlt : z < h₇.objs.size := Heap.lt_size hz₇
  have hTOlt : TO < h₇.objs.size := Heap.lt_size hTO₇
  show wpAny _ _ (Builtin.SmallTypes.ownedTupleHandOut (.ref z) (.ref h₇.objs.size) >>= _) _ _ _
  refine wpAny_bind ?_
  unfold Builtin.SmallTypes.ownedTupleHandOut
  have hz₈ : IsZip (h₇.push { cls := .type "tuple", data := .seq #[x, y, v] }) z TI TO .ellipsis := Heap.get?_push_of_some _ hz₇
  refine wpAny_bind (wpAny_setField_rec hz₈ (by simp) fun h₉ hz₉ hs₉ => ?_)
  replace hz₉ : IsZip h₉ z TI TO (rawInt h₇.objs.size) := hz₉
  refine wpAny_setField_rec hz₉ (by simp) fun hA hzA hsA => ?_
  replace hzA : IsZip hA z TI TO (rawInt h₇.objs.size) := hzA
  have up : ∀ c o, c ≠ z → h₇.get? c = some o → hA.get? c = some o := fun c o c1 e => hsA.extBut _ _ c1 (hs₉.extBut _ _ c1 (Heap.get?_push_of_some _ e))
  have hTA : IsTri hA h₇.objs.size x y v := hsA.extBut _ _ (Nat.ne_of_gt hzlt) (hs₉.extBut _ _ (Nat.ne_of_gt hzlt) (Heap.get?_push_size _ rfl))
  have hzz : hA.objs.size = h₇.objs.size + 1 := by rw [hsA.1, hs₉.1, Heap.size_push]
  rw [hsz] at hzA hTA hzz
  refine wpAny_pure ⟨_, rfl, ?_⟩
  show Q (.ref h₇.objs.size) _
  rw [hsz]
  exact hQ hA hzA (up _ _ D.TOz hTO₇) (h1₇.at fun o e => up _ o D.i1z e) (h2₇.at fun o e => up _ o D.i2z e) (h3₇.at fun o e => up _ o D.i3z e) hTA hzz fun c o c1 c2 c3 c4 c5 e => up c o c1 (hk₇ c o c1 c2 c3 c4 c5 e)
theorem zip3_next_end {z TI TO i1 i2 i3 l1 l2 l3 : Addr} {k1 k2 k3 : Nat} {xs ys zs : Array Value} {a b c : Value} {Q : Fin → Shared → Prop} (hh : A.handled = none) (D : ZipA3 z TI TO i1 i2 i3 l1 l2 l3)
    (hz : IsZip s.heap z TI TO .none) (hTI : IsTri s.heap TI (.ref i1) (.ref i2) (.ref i3)) (hTO : IsTri s.heap TO a b c)
    (h1 : s.heap.IsListIter i1 l1 k1) (hl1 : s.heap.IsList l1 xs) (hx : xs[k1]? = none)
    (hE : ∀ h' e, (∀ c o, c ≠ z → c ≠ TO → c ≠ i1 → c ≠ i2 → c ≠ i3 → s.heap.get? c = some o → h'.get? c = some o) → (∃ o, h'.get? e = some o ∧ o.cls = .type "StopIteration") → E (.ref e) { s with heap := h' }) :
    wpAny (model prog w) A (Builtin.«zip.__next__» ⟨[.ref z], []⟩) Q E s := by
  show wpAny _ _ (field (.ref z) 2 >>= _) _ _ _
  refine wpAny_bind (wpAny_field hz rfl (x := .bool false) rfl ?_)
  show wpAny _ _ (field (.ref z) 3 >>= _) _ _ _
  refine wpAny_bind (wpAny_field hz rfl (x := .ref TI) rfl ?_)
  refine wpAny_bind (wpAny_seqItems hTI rfl ?_)
  show wpAny _ _ (Builtin.SmallTypes.ownedTupleIsFree (.ref z) >>= _) _ _ _
  refine wpAny_bind ?_
  unfold Builtin.SmallTypes.ownedTupleIsFree
  refine wpAny_bind (wpAny_field hz rfl (x := .none) rfl (wpAny_pure ?_))
  simp only [if_true]
  refine wpAny_bind (wpAny_rule ?_)
  refine wpAny_bind (wpAny_field hz rfl (x := .ref TO) rfl ?_)
  refine wpAny_bind (wpAny_setField_rec hz (by simp) fun h₁ hz₁ hs₁ => ?_)
  replace hz₁ : IsZip h₁ z TI TO .ellipsis := hz₁
  refine wpAny_bind ?_
  simp only [List.zipIdx_cons, List.zipIdx_nil, List.forIn_cons, List.forIn_nil]
  refine wpAny_bind (wpAny_bind (wpAny_onRaise ?_))
  show wpAny _ _ (Builtin.SmallTypes.nextOf (.ref i1) >>= _) _ _ _
  refine wpAny_bind (wpAny_nextOf_list_end hh (h1.extBut hs₁.extBut D.i1z) (hl1.extBut hs₁.extBut D.l1z) hx fun h₂ e hs₂ he => ?_)
  obtain ⟨oe, hoe, hce⟩ := he
  have hz₂ : IsZip h₂ z TI TO .ellipsis := hs₂ _ _ D.i1z.symm hz₁
  have hez : e ≠ z := fun x => by subst x; rw [hz₂] at hoe; cases hoe; simp at hce
  refine wpAny_setField_rec hz₂ (by simp) fun h₃ _ hs₃ => hE h₃ e (fun c o c1 _ c3 _ _ x => hs₃.extBut _ _ c1 (hs₂ _ _ c3 (hs₁.extBut _ _ c1 x))) ⟨oe, hs₃.extBut _ _ hez hoe, hce⟩
theorem pyNext_zip3_item {z TI TO i1 i2 i3 l1 l2 l3 : Addr} {k1 k2 k3 : Nat} {xs ys zs : Array Value} {x y v a b c : Value} {Q : Option Value → Shared → Prop} (D : ZipA3 z TI TO i1 i2 i3 l1 l2 l3)
    (hz : IsZip s.heap z TI TO .none) (hTI : IsTri s.heap TI (.ref i1) (.ref i2) (.ref i3)) (hTO : IsTri s.heap TO a b c)
    (h1 : s.heap.IsListIter i1 l1 k1) (h2 : s.heap.IsTupleIter i2 l2 k2) (h3 : s.heap.IsListIter i3 l3 k3) (hl1 : s.heap.IsList l1 xs) (hl2 : s.heap.IsTuple l2 ys) (hl3 : s.heap.IsList l3 zs)
    (hx : xs[k1]? = some x) (hy : ys[k2]? = some y) (hv : zs[k3]? = some v)
    (hQ : ∀ h', IsZip h' z TI TO (rawInt s.heap.objs.size) → IsTri h' TO x y v → h'.IsListIter i1 l1 (k1 + 1) → h'.IsTupleIter i2 l2 (k2 + 1) → h'.IsListIter i3 l3 (k3 + 1) → IsTri h' s.heap.objs.size x y v → h'.objs.size = s.heap.objs.size + 1 →
      (∀ c o, c ≠ z → c ≠ TO → c ≠ i1 → c ≠ i2 → c ≠ i3 → s.heap.get? c = some o → h'.get? c = some o) → Q (some (.ref s.heap.objs.size)) { s with heap := h' }) :
    wpAny (model prog w) A (pyNext (.ref z)) Q E s := by
  have hT : s.TypeIs (.ref z) "zip" := ⟨_, hz, rfl⟩
  unfold pyNext
  exact wpAny_bind (wpAny_attempt (wpAny_callSpecial?_slot (name := Str.ofString "__next__") hT F.slot_zip_next
    (wpAny_call_entry F.slot_zip_next hT F.entry_zip_next
      (zip3_next_item D hz hTI hTO h1 h2 h3 hl1 hl2 hl3 hx hy hv fun h' a1 a2 a3 a4 a5 a6 a7 a8 => wpAny_pure (hQ h' a1 a2 a3 a4 a5 a6 a7 a8)) (F.args_zip_next_1 _))))
theorem pyNext_zip3_end {z TI TO i1 i2 i3 l1 l2 l3 : Addr} {k1 k2 k3 : Nat} {xs : Array Value} {a b c : Value} {Q : Option Value → Shared → Prop} (hh : A.handled = none) (D : ZipA3 z TI TO i1 i2 i3 l1 l2 l3)
    (hz : IsZip s.heap z TI TO .none) (hTI : IsTri s.heap TI (.ref i1) (.ref i2) (.ref i3)) (hTO : IsTri s.heap TO a b c)
    (h1 : s.heap.IsListIter i1 l1 k1) (hl1 : s.heap.IsList l1 xs) (hx : xs[k1]? = none)
    (hQ : ∀ h', (∀ c o, c ≠ z → c ≠ TO → c ≠ i1 → c ≠ i2 → c ≠ i3 → s.heap.get? c = some o → h'.get? c = some o) → Q none { s with heap := h' }) : wpAny (model prog w) A (pyNext (.ref z)) Q E s := by
  have hT : s.TypeIs (.ref z) "zip" := ⟨_, hz, rfl⟩
  unfold pyNext
  refine wpAny_bind (wpAny_attempt (wpAny_callSpecial?_slot (name := Str.ofString "__next__") hT F.slot_zip_next
    (wpAny_call_entry F.slot_zip_next hT F.entry_zip_next (zip3_next_end (k2 := k2) (k3 := k3) (ys := #[]) (zs := #[]) hh D hz hTI hTO h1 hl1 hx fun h' e hk he => ?_) (F.args_zip_next_1 _))))
  obtain ⟨o, ho, hc⟩ := he
  refine wpAny_bind (wpAny_isInstance (T := "StopIteration") (b := true) ⟨o, ho, hc⟩ isSubtype_stop ?_)
  exact wpAny_pure (hQ _ hk)
end
abbrev z3H1 (h : Heap) (l1 : Addr) : Heap := h.push { cls := .type "list_iterator", data := .fields #[.ref l1, .int 0 0] }
abbrev z3H2 (h : Heap) (l1 l2 : Addr) : Heap := (z3H1 h l1).push { cls := .type "tuple_iterator", data := .fields #[.ref l2, .int 0 0] }
abbrev z3H3 (h : Heap) (l1 l2 l3 : Addr) : Heap := (z3H2 h l1 l2).push { cls := .type "list_iterator", data := .fields #[.ref l3, .int 0 0] }
abbrev z3H4 (h : Heap) (l1 l2 l3 : Addr) : Heap := (z3H3 h l1 l2 l3).push { cls := .type "tuple", data := .seq #[.ref h.objs.size, .ref (z3H1 h l1).objs.size, .ref (z3H2 h l1 l2).objs.size] }
abbrev z3H5 (h : Heap) (l1 l2 l3 : Addr) : Heap := (z3H4 h l1 l2 l3).push { cls := .type "tuple", data := .seq #[.none, .none, .none] }
abbrev z3H6 (h : Heap) (l1 l2 l3 : Addr) : Heap := (z3H5 h l1 l2 l3).push { cls := .type "zip", data := .fields #[.none, .bool false, .bool false, .ref (z3H3 h l1 l2 l3).objs.size, .ref (z3H4 h l1 l2 l3).objs.size] }
theorem typeCall_zip_3 (a b c : Value) : checkTypeCall "zip" ⟨[a, b, c], []⟩ = pure () := by kernel_rfl
theorem newCall_zip_3 (a b c : Value) : checkBuiltinCall "zip.__new__" ⟨[.type "zip", a, b, c], []⟩ = pure () := by kernel_rfl
theorem args_object_init_4 (a b c d : Value) : argsOk "object.__init__" ⟨[a, b, c, d], []⟩ := by
  unfold argsOk; rw [signature?_of (id := "object.__init__") (n := ['_', '_', 't', 'i', 'n', 'i', '_', '_']) (o := ['t', 'c', 'e', 'j', 'b', 'o']) (by kernel_rfl) F.owner_object]; kernel_rfl
theorem meets_zip3_new (l1 l2 l3 : Addr) (xs ys zs : Array Value) :
    Meets (Builtin.«zip.__new__» ⟨[.type "zip", .ref l1, .ref l2, .ref l3], []⟩) (fun _ R s => s.heap.IsList l1 xs ∧ s.heap.IsTuple l2 ys ∧ s.heap.IsList l3 zs ∧
      R (.ok (.ret (.ref (z3H5 s.heap l1 l2 l3).objs.size))) { s with heap := z3H6 s.heap l1 l2 l3 }) :=
  .of_wp fun prog w A R s h => by
    obtain ⟨hp, g, d, tk, os⟩ := s; obtain ⟨hl1, hl2, hl3, h⟩ := h
    have hsub := sub_zip
    have hL1 : Heap.IsList (Shared.heap ⟨hp, g, d, tk, os⟩) l1 xs := hl1
    have hL2 : Heap.IsTuple (Shared.heap ⟨hp.push { cls := .type "list_iterator", data := .fields #[.ref l1, .int 0 0] }, g, d, tk, os⟩) l2 ys := Heap.IsTuple.push hl2 _
    have hL3 : Heap.IsList (Shared.heap ⟨(hp.push { cls := .type "list_iterator", data := .fields #[.ref l1, .int 0 0] }).push { cls := .type "tuple_iterator", data := .fields #[.ref l2, .int 0 0] }, g, d, tk, os⟩) l3 zs := Heap.IsList.push (Heap.IsList.push hl3 _) _
    wp_walk using wpAny_pyIter_list hL1, wpAny_pyIter_tuple hL2, wpAny_pyIter_list hL3
    exact ⟨_, rfl, h⟩
section
variable {prog : Program} {w : World} {A : Around} {E : Value → Shared → Prop} {s : Shared}
theorem call_zip3 {l1 l2 l3 : Addr} {xs ys zs : Array Value} {Q : Value → Shared → Prop} (hl1 : s.heap.IsList l1 xs) (hl2 : s.heap.IsTuple l2 ys) (hl3 : s.heap.IsList l3 zs)
    (h : ∀ h', IsZip h' (s.heap.objs.size + 5) (s.heap.objs.size + 3) (s.heap.objs.size + 4) .none → IsTri h' (s.heap.objs.size + 3) (.ref s.heap.objs.size) (.ref (s.heap.objs.size + 1)) (.ref (s.heap.objs.size + 2)) →
      IsTri h' (s.heap.objs.size + 4) .none .none .none → h'.IsListIter s.heap.objs.size l1 0 → h'.IsTupleIter (s.heap.objs.size + 1) l2 0 → h'.IsListIter (s.heap.objs.size + 2) l3 0 → h'.objs.size = s.heap.objs.size + 6 →
      (∀ c o, s.heap.get? c = some o → h'.get? c = some o) → Q (.ref (s.heap.objs.size + 5)) { s with heap := h' }) :
    wpAny (model prog w) A (call (.type "zip") [.ref l1, .ref l2, .ref l3]) Q E s := by
  refine callType_new F.called_zip (by decide) (typeCall_zip_3 _ _ _) (newCall_zip_3 _ _ _) (fun obj => args_object_init_4 obj _ _ _) F.entry_zip_new
    (meets_zip3_new l1 l2 l3 xs ys zs) ⟨hl1, hl2, hl3, ?_⟩
  have z1 : (z3H1 s.heap l1).objs.size = s.heap.objs.size + 1 := Heap.size_push ..
  have z2 : (z3H2 s.heap l1 l2).objs.size = s.heap.objs.size + 2 := by rw [Heap.size_push, z1]
  have z3 : (z3H3 s.heap l1 l2 l3).objs.size = s.heap.objs.size + 3 := by rw [Heap.size_push, z2]
  have z4 : (z3H4 s.heap l1 l2 l3).objs.size = s.heap.objs.size + 4 := by rw [Heap.size_push, z3]
  have z5 : (z3H5 s.heap l1 l2 l3).objs.size = s.heap.objs.size + 5 := by rw [Heap.size_push, z4]
  have z6 : (z3H6 s.heap l1 l2 l3).objs.size = s.heap.objs.size + 6 := by rw [Heap.size_push, z5]
  have g6 : (z3H6 s.heap l1 l2 l3).get? (z3H5 s.heap l1 l2 l3).objs.size = some _ := Heap.get?_push_size _ rfl
  have g5 : (z3H6 s.heap l1 l2 l3).get? (z3H4 s.heap l1 l2 l3).objs.size = some _ := Heap.get?_push_of_some _ (Heap.get?_push_size _ rfl)
  have g4 : (z3H6 s.heap l1 l2 l3).get? (z3H3 s.heap l1 l2 l3).objs.size = some _ := Heap.get?_push_of_some _ (Heap.get?_push_of_some _ (Heap.get?_push_size _ rfl))
  have g3 : (z3H6 s.heap l1 l2 l3).get? (z3H2 s.heap l1 l2).objs.size = some _ := Heap.get?_push_of_some _ (Heap.get?_push_of_some _ (Heap.get?_push_of_some _ (Heap.get?_push_size _ rfl)))
  have g2 : (z3H6 s.heap l1 l2 l3).get? (z3H1 s.heap l1).objs.size = some _ := Heap.get?_push_of_some _ (Heap.get?_push_of_some _ (Heap.get?_push_of_some _ (Heap.get?_push_of_some _ (Heap.get?_push_size _ rfl))))
  have g1 : (z3H6 s.heap l1 l2 l3).get? s.heap.objs.size = some _ := Heap.get?_push_of_some _ (Heap.get?_push_of_some _ (Heap.get?_push_of_some _ (Heap.get?_push_of_some _ (Heap.get?_push_of_some _ (Heap.get?_push_size _ rfl)))))
  show _ ∧ _
  rw [z3, z4, z5] at g6
  rw [z1, z2, z3] at g4
  rw [z4] at g5
  rw [z2] at g3
  rw [z1] at g2
  rw [z5]
  exact ⟨⟨_, g6, rfl⟩, h _ g6 g4 g5 ⟨_, g1, rfl, rfl⟩ ⟨_, g2, rfl, rfl⟩ ⟨_, g3, rfl, rfl⟩ z6 fun c o x =>
    Heap.get?_push_of_some _ (Heap.get?_push_of_some _ (Heap.get?_push_of_some _ (Heap.get?_push_of_some _ (Heap.get?_push_of_some _ (Heap.get?_push_of_some _ x)))))⟩
end
theorem neN3 {a b : Nat} (h : a ≠ b) : a ≠ b := h
theorem zipA3_new {n l1 l2 l3 : Nat} (h1 : l1 < n) (h2 : l2 < n) (h3 : l3 < n) : ZipA3 (n + 5) (n + 3) (n + 4) n (n + 1) (n + 2) l1 l2 l3 := by
  constructor <;> (refine neN3 ?_; omega)
/-- a list, a tuple and a list as they stand at each turn, the items in new triples -/
def Itz3 (K : PySem.W.Frag) (a b c : Addr) : It :=
  ⟨fun i H => ∃ (xs ys zs : List V) (x y z : V), SqL K H a xs ∧ SqT K H b ys ∧ SqL K H c zs ∧ xs[i]? = some x ∧ ys[i]? = some y ∧ zs[i]? = some z,
    fun i H v H' => ∃ T x y z, v = .ref T ∧ H T = none ∧ H' = upd H T (.tup [x, y, z]) ∧ (∀ xs, SqL K H a xs → xs[i]? = some x) ∧ (∀ ys, SqT K H b ys → ys[i]? = some y) ∧ ∀ zs, SqL K H c zs → zs[i]? = some z,
    fun i H => ∃ xs : List V, SqL K H a xs ∧ xs.length ≤ i⟩
theorem turn_zip3 {P : Program} {w : World} {K : PySem.W.Frag} {elts : List Expr} {kk : Nat} {tpos : Pos} {a b c z TI TO i1 i2 i3 : Addr} (D : ZipA3 z TI TO i1 i2 i3 a b c) :
    Turn P w K (.Tuple elts kk tpos) (Itz3 K a b c) [z, TI, TO, i1, i2, i3] z (fun i h => IsZip h z TI TO .none ∧ IsTri h TI (.ref i1) (.ref i2) (.ref i3) ∧ (∃ x y v, IsTri h TO x y v) ∧ h.IsListIter i1 a i ∧ h.IsTupleIter i2 b i ∧ h.IsListIter i3 c i) where
  mem := by simp
  obj := fun i h st c hc => by
    obtain ⟨hz, hTI, ⟨x, y, v, hTO⟩, ⟨o1, e1, _, d1⟩, ⟨o2, e2, _, d2⟩, ⟨o3, e3, _, d3⟩⟩ := st
    have e' : c = z ∨ c = TI ∨ c = TO ∨ c = i1 ∨ c = i2 ∨ c = i3 := by simpa using hc
    rcases e' with q | q | q | q | q | q
    · rw [q]; exact ⟨_, hz, fun v q => nomatch q⟩
    · rw [q]; exact ⟨_, hTI, fun v q => nomatch q⟩
    · rw [q]; exact ⟨_, hTO, fun v q => nomatch q⟩
    · rw [q]; exact ⟨o1, e1, fun v q => by rw [d1] at q; cases q⟩
    · rw [q]; exact ⟨o2, e2, fun v q => by rw [d2] at q; cases q⟩
    · rw [q]; exact ⟨o3, e3, fun v q => by rw [d3] at q; cases q⟩
  keep := fun i h h' st k => by
    obtain ⟨hz, hTI, ⟨x, y, v, hTO⟩, h1, h2, h3⟩ := st
    exact ⟨k z (by simp) _ hz, k TI (by simp) _ hTI, ⟨x, y, v, k TO (by simp) _ hTO⟩, h1.at fun o q => k i1 (by simp) o q, h2.at fun o q => k i2 (by simp) o q, h3.at fun o q => k i3 (by simp) o q⟩
  item := by
    intro X hP hw hK hc i pins s σ H E I hf st hg
    subst hP hw hK
    obtain ⟨hz, hTI, ⟨x0, y0, v0, hTO⟩, h1, h2, h3⟩ := st
    obtain ⟨xs, ys, zs, x, y, v, hqx, hqy, hqv, hx, hy, hv⟩ := hg
    obtain ⟨its, rv, p, _⟩ := I.list hqx
    obtain ⟨its2, rv2, p2, _⟩ := I.tuple hqy
    obtain ⟨its3, rv3, p3, _⟩ := I.list hqv
    obtain ⟨u, hu, ru⟩ := rv.get hx
    obtain ⟨u2, hu2, ru2⟩ := rv2.get hy
    obtain ⟨u3, hu3, ru3⟩ := rv3.get hv
    have hzl : z < s.heap.objs.size := Heap.lt_size hz
    refine pyNext_zip3_item D hz hTI hTO h1 h2 h3 p.isList p2 p3.isList (x := u) (y := u2) (v := u3) (by simpa using hu) (by simpa using hu2) (by simpa using hu3) fun h' z' TO' h1' h2' h3' hT hsz hk => ?_
    refine ⟨_, rfl, wpAny_letOwnedTupleGo_zip (s := { s with heap := h' }) z' fun h'' z'' sb => ?_⟩
    have hT2 : h''.get? s.heap.objs.size = some { cls := .type "tuple", data := .seq #[u, u2, u3] } := (sb.2 _ (Nat.ne_of_gt hzl)).trans hT
    have new : ObjOk X.prog X.w (upd H s.heap.objs.size (.tup [x, y, v])) h'' s.heap.objs.size (.tup [x, y, v]) :=
      ⟨by show 3 ≤ sizeLine; decide, [u, u2, u3], .cons ru (.cons ru2 (.cons ru3 .nil)), ⟨_, hT2, rfl, _, rfl⟩⟩
    have I1 : Inv X pins σ (upd H s.heap.objs.size (.tup [x, y, v])) { s with heap := h'' } :=
      I.turnedNew (t' := s.toks) (ch := [z, TI, TO, i1, i2, i3]) (fun c o hb q => (sb.2 c (fun q' => hb (by simp [q']))).trans (hk c o (fun q' => hb (by simp [q'])) (fun q' => hb (by simp [q'])) (fun q' => hb (by simp [q'])) (fun q' => hb (by simp [q'])) (fun q' => hb (by simp [q'])) q)) hf (Nat.le_refl _) new
    refine ⟨.ref s.heap.objs.size, _, I1, rfl, ⟨_, x, y, v, rfl, I.hok.fresh (Nat.le_refl _), rfl, fun l hl => by rw [I.list_inj hl hqx]; exact hx, fun l hl => by rw [I.tuple_inj hl hqy]; exact hy, fun l hl => by rw [I.list_inj hl hqv]; exact hv⟩, ⟨z'', ?_, ⟨u, u2, u3, ?_⟩, ?_, ?_, ?_⟩, fun c hcm => ?_⟩
    · exact (sb.2 _ D.TIz).trans (hk _ _ D.TIz D.TITO D.TIi1 D.TIi2 D.TIi3 hTI)
    · exact (sb.2 _ D.TOz).trans TO'
    · exact h1'.at fun o q => (sb.2 _ D.i1z).trans q
    · exact h2'.at fun o q => (sb.2 _ D.i2z).trans q
    · exact h3'.at fun o q => (sb.2 _ D.i3z).trans q
    · have hlt : c < s.heap.objs.size := by
        have e' : c = z ∨ c = TI ∨ c = TO ∨ c = i1 ∨ c = i2 ∨ c = i3 := by simpa using hcm
        rcases e' with q | q | q | q | q | q
        · rw [q]; exact hzl
        · rw [q]; exact Heap.lt_size hTI
        · rw [q]; exact Heap.lt_size hTO
        · rw [q]; obtain ⟨_, e1, _⟩ := h1; exact Heap.lt_size e1
        · rw [q]; obtain ⟨_, e2, _⟩ := h2; exact Heap.lt_size e2
        · rw [q]; obtain ⟨_, e3, _⟩ := h3; exact Heap.lt_size e3
      rw [upd_ne (Nat.ne_of_lt hlt)]
      exact (hf c hcm).1
  done := by
    intro X hP hw hK hc i pins s σ H E I hf st hg
    subst hP hw hK
    obtain ⟨hz, hTI, ⟨x0, y0, v0, hTO⟩, h1, h2, h3⟩ := st
    obtain ⟨xs, hqx, hend⟩ := hg
    obtain ⟨its, rv, p, _⟩ := I.list hqx
    have l1 := rv.length
    exact pyNext_zip3_end (k2 := i) (k3 := i) (I.ok.hd hc) D hz hTI hTO h1 p.isList (by simp; omega) fun h' hk => ⟨rfl, I.turnedL (t' := s.toks) (ch := [z, TI, TO, i1, i2, i3]) (fun c o hb q =>
      hk c o (fun q' => hb (by simp [q'])) (fun q' => hb (by simp [q'])) (fun q' => hb (by simp [q'])) (fun q' => hb (by simp [q'])) (fun q' => hb (by simp [q'])) q) hf⟩
  self := fun A i s Q E st h => wpAny_pyIter_zip st.1 h
def iZip3 (K : PySem.W.Frag) (ta : TA) : TI := fun σ H R => ta σ H fun vs H1 => ∃ a b c xs ys zs, vs = [.ref a, .ref b, .ref c] ∧ SqL K H1 a xs ∧ SqT K H1 b ys ∧ SqL K H1 c zs ∧ R (Itz3 K a b c) H1
theorem pi_zip3 {X : Cx} {e e2 e3 : Expr} {ta : TA} {p pos tpos : Pos} {elts : List Expr} {kk : Nat} (hg : Gl X "zip") (hm : X.mg "zip" = none) (ha : PA X [e, e2, e3] ta)
    (hs : starEach [e, e2, e3] X.env = (false, eval e X.env) :: starEach [e2, e3] X.env := by rfl) (hpl : (backTo pos (starEach [e2, e3] X.env)).any (·.1) = false := by rfl) :
    PI X (.Tuple elts kk tpos) (.Call (.Name "zip" p) [e, e2, e3] [] pos) (iZip3 X.K ta) := by
  refine ⟨fun pins s σ H R I h => ?_⟩
  refine Call_ (ld_blt I hg hm PyProof.Rows.boot_zip (PyProof.Rows.callWith_type1 (thn (ha.run pos pins s σ H _ I h) fun us s1 ⟨vs, H1, I1, r1, q1⟩ => ?_) hs hpl))
  obtain ⟨a, b, c, xs, ys, zs, ex, hqx, hqy, hqz, q⟩ := q1
  subst ex
  cases r1 with
  | cons r rr =>
    cases rr with
    | cons r' rr =>
      cases rr with
      | cons r'' rr =>
        cases rr
        cases r
        cases r'
        cases r''
        have fresh6 : ∀ c, c ∈ [s1.heap.objs.size + 5, s1.heap.objs.size + 3, s1.heap.objs.size + 4, s1.heap.objs.size, s1.heap.objs.size + 1, s1.heap.objs.size + 2] → FpOk X pins H1 c := fun c hcm => by
          have hle : s1.heap.objs.size ≤ c := by
            simp only [List.mem_cons, List.not_mem_nil, or_false] at hcm
            rcases hcm with z | z | z | z | z | z <;> rw [z] <;> first | exact Nat.le_add_right _ _ | exact Nat.le_refl _
          exact I1.fpOk hle (I1.hok.fresh hle)
        obtain ⟨its, rv, p1, _⟩ := I1.list hqx
        obtain ⟨its2, rv2, p2, _⟩ := I1.tuple hqy
        obtain ⟨its3, rv3, p3, _⟩ := I1.list hqz
        obtain ⟨o2, ho2, _⟩ := id p2
        refine call_zip3 p1.isList (show s1.heap.IsTuple b its2.toArray from p2) p3.isList fun h' hz hTI hTO h1 h2 h3 hsz hk => wpAny_pyIter_zip hz ?_
        have I2 : Inv X pins σ H1 { s1 with heap := h' } := I1.kept (t' := s1.toks) hk
        exact ⟨s1.heap.objs.size + 5, [s1.heap.objs.size + 5, s1.heap.objs.size + 3, s1.heap.objs.size + 4, s1.heap.objs.size, s1.heap.objs.size + 1, s1.heap.objs.size + 2], _, _, H1, rfl, I2, turn_zip3 (zipA3_new p1.lt (Heap.lt_size ho2) p3.lt), ⟨hz, hTI, ⟨_, _, _, hTO⟩, h1, h2, h3⟩, fresh6, q⟩
end Mi
/-! Mi20: what is walked. -/
namespace Mi
open PySem PySem.Spec PyProof.Rows L2 GenW

section
variable {W : Wld} {k : Nat} {N : List Str} {sc : Scope} {X : Cx}
theorem lst_of {K : PySem.W.Frag} {m : List Addr} {L : Addr → Prop} {H : Hp} {x : D} {v : V} {l : List D} (h : lstD x = some l) (r : Rep K m L H x v) : ∃ p ys, v = .ref p ∧ SqL K H p ys ∧ Reps K m L H l ys := by
  cases x <;> simp only [lstD] at h <;> (try (cases h; done)) <;> cases h <;> simp only [Rep] at r
  · obtain ⟨a, ys, e, h1, _, h2⟩ := r
    exact ⟨a, ys, e, .inl (.inl h1), h2⟩
  · obtain ⟨a, ys, e, h1, h2⟩ := r
    exact ⟨a, ys, e, h1.sqL, h2⟩
theorem tup_of {K : PySem.W.Frag} {m : List Addr} {L : Addr → Prop} {H : Hp} {x : D} {v : V} {l : List D} (h : tupD x = some l) (r : Rep K m L H x v) : ∃ p ys, v = .ref p ∧ SqT K H p ys ∧ Reps K m L H l ys := by
  cases x <;> simp only [tupD] at h <;> (try (cases h; done)) <;> cases h <;> simp only [Rep] at r
  obtain ⟨a, ys, e, h1, h2⟩ := r
  exact ⟨a, ys, e, h1, h2⟩
theorem seqD_cases {x : D} {l : List D} (h : seqD x = some l) : lstD x = some l ∨ tupD x = some l := by
  cases x <;> simp only [seqD] at h <;> (try (cases h; done)) <;> first | exact .inl h | exact .inr h
theorem ref_inj {a b : Addr} (h : V.ref a = V.ref b) : a = b := by cases h; rfl
theorem items_list {cs : List (Addr × Addr)} {m : List Addr} {st : Store} {H : Hp} {x : D} {p : Addr} {l : List D} (hs : SC X.K cs m st H) (h : lstD x = some l) (r : Rep X.K m (Lv m st) H x (.ref p)) : Items X.K cs m st H l (Itl X.K p) := by
  intro m' st' H' e s'
  obtain ⟨q, ys, e1, h1, h2⟩ := lst_of h (r.ext hs.cells e)
  obtain rfl := ref_inj e1
  refine ⟨fun i d hd => ?_, ys, h1, by rw [h2.length]; exact Nat.le_refl _⟩
  obtain ⟨y, y1, y2⟩ := h2.get hd
  refine ⟨⟨ys, y, h1, y1⟩, fun z H'' hy => ?_⟩
  obtain ⟨rfl, hy⟩ := hy
  have := hy ys h1
  rw [y1] at this; cases this
  exact ⟨Ext.refl, s', y2⟩
theorem items_tup {cs : List (Addr × Addr)} {m : List Addr} {st : Store} {H : Hp} {x : D} {p : Addr} {l : List D} (hs : SC X.K cs m st H) (h : tupD x = some l) (r : Rep X.K m (Lv m st) H x (.ref p)) : Items X.K cs m st H l (Itt X.K p) := by
  intro m' st' H' e s'
  obtain ⟨q, ys, e1, h1, h2⟩ := tup_of h (r.ext hs.cells e)
  obtain rfl := ref_inj e1
  refine ⟨fun i d hd => ?_, ys, h1, by rw [h2.length]; exact Nat.le_refl _⟩
  obtain ⟨y, y1, y2⟩ := h2.get hd
  refine ⟨⟨ys, y, h1, y1⟩, fun z H'' hy => ?_⟩
  obtain ⟨rfl, hy⟩ := hy
  have := hy ys h1
  rw [y1] at this; cases this
  exact ⟨Ext.refl, s', y2⟩
theorem items_rng {cs : List (Addr × Addr)} {m : List Addr} {st : Store} {H : Hp} {lo : Int} {n : Nat} : Items X.K cs m st H ((List.range n).map fun i => .int (lo + (i : Nat))) (Itr lo n) := by
  intro m' st' H' e s'
  refine ⟨fun i d hd => ?_, by show n ≤ _; simp⟩
  rw [List.getElem?_map] at hd
  cases q : (List.range n)[i]? with
  | none => rw [q] at hd; cases hd
  | some j =>
    rw [q] at hd; cases hd
    obtain ⟨h1, h2⟩ := List.getElem?_eq_some_iff.mp q
    rw [List.getElem_range] at h2
    subst h2
    refine ⟨by show i < n; simpa using h1, fun z H'' hy => ?_⟩
    obtain ⟨rfl, rfl⟩ := hy
    exact ⟨Ext.refl, s', by simp only [Rep]⟩
theorem i_seq {tge e : Expr} {env st} {r : Option (D × Store)} (he : EOk X W.cs e env st r) : IOk X W.cs tge e env st (match (generalizing := false) r with
    | some (x, st1) => (match seqD x with
      | some xs => some (xs, st1)
      | none => none)
    | none => none) := by
  intro ds st' e0 m σ H R hs hr hq
  cases r with
  | none => cases e0
  | some p1 =>
    obtain ⟨x, st1⟩ := p1
    cases h : seqD x with
    | none => simp only [h] at e0; cases e0
    | some l =>
      simp only [h] at e0
      cases e0
      rcases seqD_cases h with h | h
      · refine useI (pi_list peE) (he x _ rfl m σ H _ hs hr fun m1 v1 H1 x1 s1 p1 => ?_)
        obtain ⟨p, ys, rfl, h1, h2⟩ := lst_of h p1
        exact ⟨p, rfl, ⟨ys, h1⟩, hq m1 _ H1 x1 s1 (items_list s1 h p1)⟩
      · refine useI (pi_tup peE) (he x _ rfl m σ H _ hs hr fun m1 v1 H1 x1 s1 p1 => ?_)
        obtain ⟨p, ys, rfl, h1, h2⟩ := tup_of h p1
        exact ⟨p, rfl, ⟨ys, h1⟩, hq m1 _ H1 x1 s1 (items_tup s1 h p1)⟩
theorem i_rng (C : Cxt W k N sc X) {tge e : Expr} {px p env st} {r : Option (D × Store)} (hg : glB sc "range" = true) (hst : isStar e = false) (he : EOk X W.cs e env st r) : IOk X W.cs tge (.Call (.Name "range" px) [e] [] p) env st (match (generalizing := false) r with
    | some (.int n, st1) => if -1000000 < n ∧ n < 1000000 then some ((List.range n.toNat).map fun i => .int (0 + (i : Nat)), st1) else none
    | _ => none) := by
  intro ds st' e0 m σ H R hs hr hq
  cases r with
  | none => cases e0
  | some p1 =>
    obtain ⟨x, st1⟩ := p1
    cases x <;> simp only at e0 <;> try (cases e0; done)
    rename_i n
    split at e0
    · rename_i hn
      cases e0
      refine useI (pi_range1 (C.gl hg) (C.mdl.free _ (by decide)) (pa_cons peE pa_nil (starEach_cons hst)) (starEach_cons hst)) (he _ _ rfl m σ H _ hs hr fun m1 v1 H1 x1 s1 p1 => ?_)
      simp only [Rep] at p1
      subst p1
      exact ⟨n, rfl, by omega, by omega, hq m1 _ H1 x1 s1 items_rng⟩
    · cases e0
theorem i_rng2 (C : Cxt W k N sc X) {tge a b : Expr} {px p env st} {ra : Option (D × Store)} {rb : Store → Option (D × Store)} (hg : glB sc "range" = true) (ha0 : isStar a = false) (hb0 : isStar b = false) (ha : EOk X W.cs a env st ra) (hb : ∀ st1, EOk X W.cs b env st1 (rb st1)) :
    IOk X W.cs tge (.Call (.Name "range" px) [a, b] [] p) env st (match (generalizing := false) ra with
    | some (.int lo, st1) => (match rb st1 with
      | some (.int hi, st2) => if -1000000 < lo ∧ lo < 1000000 ∧ hi < 1000000 ∧ -1000000 < hi then some ((List.range (hi - lo).toNat).map fun i => .int (lo + (i : Nat)), st2) else none
      | _ => none)
    | _ => none) := by
  intro ds st' e0 m σ H R hs hr hq
  cases ra with
  | none => cases e0
  | some p1 =>
    obtain ⟨x, st1⟩ := p1
    cases x <;> simp only at e0 <;> try (cases e0; done)
    rename_i lo
    cases h2 : rb st1 with
    | none => simp only [h2] at e0; cases e0
    | some p2 =>
      obtain ⟨y, st2⟩ := p2
      cases y <;> simp only [h2] at e0 <;> try (cases e0; done)
      rename_i hi
      split at e0
      · rename_i hn
        cases e0
        refine useI (pi_range2 (C.gl hg) (C.mdl.free _ (by decide)) (pa_cons peE (pa_cons peE pa_nil (starEach_cons hb0)) (starEach_cons ha0)) (by rw [starEach_cons ha0, starEach_cons hb0]; rfl) (by rw [starEach_cons hb0]; rfl)) ?_
        refine ha _ _ rfl m σ H _ hs hr fun m1 v1 H1 x1 s1 p1 => ?_
        refine hb st1 _ _ h2 m1 σ H1 _ s1 (hr.ext hs.cells x1) fun m2 v2 H2 x2 s2 p2 => ?_
        simp only [Rep] at p1 p2
        subst p1 p2
        exact ⟨lo, hi, rfl, ⟨by omega, by omega, by omega, by omega⟩, hq m2 _ H2 (x1.trans x2) s2 items_rng⟩
      · cases e0
theorem zip_get {xs ys : List D} {i : Nat} {d : D} (h : ((xs.zip ys).map fun p => D.tup [p.1, p.2])[i]? = some d) : ∃ a b, xs[i]? = some a ∧ ys[i]? = some b ∧ d = .tup [a, b] := by
  rw [List.getElem?_map] at h
  cases q : (xs.zip ys)[i]? with
  | none => rw [q] at h; cases h
  | some p =>
    rw [q] at h; cases h
    obtain ⟨a, b⟩ := p
    rw [List.getElem?_zip_eq_some] at q
    exact ⟨a, b, q.1, q.2, rfl⟩
theorem pair_ok {K : PySem.W.Frag} {cs : List (Addr × Addr)} {m : List Addr} {st : Store} {H : Hp} {T : Addr} {a b : D} {x y : V} (s : SC K cs m st H) (hT : H T = none) (r1 : Rep K m (Lv m st) H a x) (r2 : Rep K m (Lv m st) H b y) :
    Ext m st H m st (upd H T (.tup [x, y])) ∧ SC K cs m st (upd H T (.tup [x, y])) ∧ Rep K m (Lv m st) (upd H T (.tup [x, y])) (.tup [a, b]) (.ref T) :=
  ⟨ext_new hT, s.new hT, rep_tup s hT (by simp only [Reps]; exact ⟨x, [y], rfl, r1, y, [], rfl, r2, rfl⟩)⟩
theorem i_zip (C : Cxt W k N sc X) {a b : Expr} {elts : List Expr} {kk : Nat} {tpos : Pos} {px p env st} {ra : Option (D × Store)} {rb : Store → Option (D × Store)} (hg : glB sc "zip" = true) (ha0 : isStar a = false) (hb0 : isStar b = false) (ha : EOk X W.cs a env st ra) (hb : ∀ st1, EOk X W.cs b env st1 (rb st1)) :
    IOk X W.cs (.Tuple elts kk tpos) (.Call (.Name "zip" px) [a, b] [] p) env st (match (generalizing := false) ra with
    | some (x, st1) => (match rb st1 with
      | some (y, st2) => (match zipD x y with
        | some l => some (l, st2)
        | none => none)
      | none => none)
    | none => none) := by
  intro ds st' e0 m σ H R hs hr hq
  cases ra with
  | none => cases e0
  | some p1 =>
    obtain ⟨x, st1⟩ := p1
    cases h2 : rb st1 with
    | none => simp only [h2] at e0; cases e0
    | some p2 =>
      obtain ⟨y, st2⟩ := p2
      cases h3 : zipD x y with
      | none => simp only [h2, h3] at e0; cases e0
      | some l =>
        simp only [h2, h3] at e0
        cases e0
        refine useI (RZ.pi_zipA (C.gl hg) (C.mdl.free _ (by decide)) (pa_cons peE (pa_cons peE pa_nil (starEach_cons hb0)) (starEach_cons ha0)) (starEach_cons ha0) (noStars_any (by simp [noStars, hb0]))) ?_
        refine ha _ _ rfl m σ H _ hs hr fun m1 v1 H1 x1 s1 p1 => ?_
        refine hb st1 _ _ h2 m1 σ H1 _ s1 (hr.ext hs.cells x1) fun m2 v2 H2 x2 s2 p2 => ?_
        have p1' := p1.ext s1.cells x2
        have xx := x1.trans x2
        unfold zipD at h3
        split at h3
        · rename_i xs ys e1 e2
          cases h3
          obtain ⟨q1, zs, rfl, g1, g2⟩ := lst_of e1 p1'
          obtain ⟨q2, ws, rfl, g3, g4⟩ := lst_of e2 p2
          refine ⟨q1, q2, zs, ws, rfl, .inl ⟨g1, g3, hq m2 _ H2 xx s2 ?_⟩⟩
          intro m' st' H' e s'
          obtain ⟨q1', zs', ez, k1, k2⟩ := lst_of e1 (p1'.ext s2.cells e)
          obtain ⟨q2', ws', ew, k3, k4⟩ := lst_of e2 (p2.ext s2.cells e)
          obtain rfl := ref_inj ez
          obtain rfl := ref_inj ew
          refine ⟨fun i d hd => ?_, zs', ws', k1, k3, ?_⟩
          · obtain ⟨a, b, i1, i2, rfl⟩ := zip_get hd
            obtain ⟨z1, z2, z3⟩ := k2.get i1
            obtain ⟨w1, w2, w3⟩ := k4.get i2
            refine ⟨⟨zs', ws', z1, w1, k1, k3, z2, w2⟩, fun v H'' hy => ?_⟩
            obtain ⟨T, x', y', rfl, hT, rfl, hx', hy'⟩ := hy
            have := hx' zs' k1
            rw [z2] at this; cases this
            have := hy' ws' k3
            rw [w2] at this; cases this
            exact pair_ok s' hT z3 w3
          · have := k2.length
            have := k4.length
            simp
            omega
        · split at h3
          · rename_i xs ys e1 e2
            cases h3
            obtain ⟨q1, zs, rfl, g1, g2⟩ := tup_of e1 p1'
            obtain ⟨q2, ws, rfl, g3, g4⟩ := tup_of e2 p2
            refine ⟨q1, q2, zs, ws, rfl, .inr ⟨g1, g3, hq m2 _ H2 xx s2 ?_⟩⟩
            intro m' st' H' e s'
            obtain ⟨q1', zs', ez, k1, k2⟩ := tup_of e1 (p1'.ext s2.cells e)
            obtain ⟨q2', ws', ew, k3, k4⟩ := tup_of e2 (p2.ext s2.cells e)
            obtain rfl := ref_inj ez
            obtain rfl := ref_inj ew
            refine ⟨fun i d hd => ?_, zs', ws', k1, k3, ?_⟩
            · obtain ⟨a, b, i1, i2, rfl⟩ := zip_get hd
              obtain ⟨z1, z2, z3⟩ := k2.get i1
              obtain ⟨w1, w2, w3⟩ := k4.get i2
              refine ⟨⟨zs', ws', z1, w1, k1, k3, z2, w2⟩, fun v H'' hy => ?_⟩
              obtain ⟨T, x', y', rfl, hT, rfl, hx', hy'⟩ := hy
              have := hx' zs' k1
              rw [z2] at this; cases this
              have := hy' ws' k3
              rw [w2] at this; cases this
              exact pair_ok s' hT z3 w3
            · have := k2.length
              have := k4.length
              simp
              omega
          · cases h3
theorem zip3_get {xs ys zs : List D} {i : Nat} {d : D} (h : ((xs.zip (ys.zip zs)).map fun p => D.tup [p.1, p.2.1, p.2.2])[i]? = some d) : ∃ a b c, xs[i]? = some a ∧ ys[i]? = some b ∧ zs[i]? = some c ∧ d = .tup [a, b, c] := by
  rw [List.getElem?_map] at h
  cases q : (xs.zip (ys.zip zs))[i]? with
  | none => rw [q] at h; cases h
  | some p =>
    rw [q] at h; cases h
    obtain ⟨a, b, c⟩ := p
    rw [List.getElem?_zip_eq_some] at q
    have q2 := q.2
    rw [List.getElem?_zip_eq_some] at q2
    exact ⟨a, b, c, q.1, q2.1, q2.2, rfl⟩
theorem three_ok {K : PySem.W.Frag} {cs : List (Addr × Addr)} {m : List Addr} {st : Store} {H : Hp} {T : Addr} {a b c : D} {x y z : V} (s : SC K cs m st H) (hT : H T = none) (r1 : Rep K m (Lv m st) H a x) (r2 : Rep K m (Lv m st) H b y) (r3 : Rep K m (Lv m st) H c z) :
    Ext m st H m st (upd H T (.tup [x, y, z])) ∧ SC K cs m st (upd H T (.tup [x, y, z])) ∧ Rep K m (Lv m st) (upd H T (.tup [x, y, z])) (.tup [a, b, c]) (.ref T) :=
  ⟨ext_new hT, s.new hT, rep_tup s hT (by simp only [Reps]; exact ⟨x, [y, z], rfl, r1, y, [z], rfl, r2, z, [], rfl, r3, rfl⟩)⟩
theorem i_zip3 (C : Cxt W k N sc X) {a b c : Expr} {elts : List Expr} {kk : Nat} {tpos : Pos} {px p env st} {ra : Option (D × Store)} {rb rc : Store → Option (D × Store)} (hg : glB sc "zip" = true) (ha0 : isStar a = false) (hb0 : isStar b = false) (hc0 : isStar c = false) (ha : EOk X W.cs a env st ra) (hb : ∀ st1, EOk X W.cs b env st1 (rb st1)) (hc : ∀ st2, EOk X W.cs c env st2 (rc st2)) :
    IOk X W.cs (.Tuple elts kk tpos) (.Call (.Name "zip" px) [a, b, c] [] p) env st (match (generalizing := false) ra with
    | some (x, st1) => (match rb st1 with
      | some (y, st2) => (match rc st2 with
        | some (z, st3) => (match zip3D x y z with
          | some l => some (l, st3)
          | none => none)
        | none => none)
      | none => none)
    | none => none) := by
  intro ds st' e0 m σ H R hs hr hq
  cases ra with
  | none => cases e0
  | some p1 =>
    obtain ⟨x, st1⟩ := p1
    cases h2 : rb st1 with
    | none => simp only [h2] at e0; cases e0
    | some p2 =>
      obtain ⟨y, st2⟩ := p2
      cases h4 : rc st2 with
      | none => simp only [h2, h4] at e0; cases e0
      | some p3 =>
        obtain ⟨z, st3⟩ := p3
        cases h3 : zip3D x y z with
        | none => simp only [h2, h4, h3] at e0; cases e0
        | some l =>
          simp only [h2, h4, h3] at e0
          cases e0
          refine useI (pi_zip3 (C.gl hg) (C.mdl.free _ (by decide)) (pa_cons peE (pa_cons peE (pa_cons peE pa_nil (starEach_cons hc0)) (starEach_cons hb0)) (starEach_cons ha0)) (starEach_cons ha0) (noStars_any (by simp [noStars, hb0, hc0]))) ?_
          refine ha _ _ rfl m σ H _ hs hr fun m1 v1 H1 x1 s1 p1 => ?_
          refine hb st1 _ _ h2 m1 σ H1 _ s1 (hr.ext hs.cells x1) fun m2 v2 H2 x2 s2 p2 => ?_
          refine hc st2 _ _ h4 m2 σ H2 _ s2 ((hr.ext hs.cells x1).ext s1.cells x2) fun m3 v3 H3 x3 s3 p3 => ?_
          have p1' := (p1.ext s1.cells x2).ext s2.cells x3
          have p2' := p2.ext s2.cells x3
          have xx := (x1.trans x2).trans x3
          unfold zip3D at h3
          split at h3
          · rename_i xs ys zs e1 e2 e3
            split at h3
            · rename_i hl
              cases h3
              obtain ⟨q1, as, rfl, g1, g2⟩ := lst_of e1 p1'
              obtain ⟨q2, bs, rfl, g3, g4⟩ := tup_of e2 p2'
              obtain ⟨q3, cs, rfl, g5, g6⟩ := lst_of e3 p3
              refine ⟨q1, q2, q3, as, bs, cs, rfl, g1, g3, g5, hq m3 _ H3 xx s3 ?_⟩
              intro m' st' H' e s'
              obtain ⟨q1', as', ez, k1, k2⟩ := lst_of e1 (p1'.ext s3.cells e)
              obtain ⟨q2', bs', ew, k3, k4⟩ := tup_of e2 (p2'.ext s3.cells e)
              obtain ⟨q3', cs', ev, k5, k6⟩ := lst_of e3 (p3.ext s3.cells e)
              obtain rfl := ref_inj ez
              obtain rfl := ref_inj ew
              obtain rfl := ref_inj ev
              refine ⟨fun i d hd => ?_, as', k1, ?_⟩
              · obtain ⟨a, b, c, i1, i2, i3, rfl⟩ := zip3_get hd
                obtain ⟨z1, z2, z3⟩ := k2.get i1
                obtain ⟨w1, w2, w3⟩ := k4.get i2
                obtain ⟨u1, u2, u3⟩ := k6.get i3
                refine ⟨⟨as', bs', cs', z1, w1, u1, k1, k3, k5, z2, w2, u2⟩, fun v H'' hy => ?_⟩
                obtain ⟨T, x', y', z', rfl, hT, rfl, hx', hy', hz'⟩ := hy
                have := hx' as' k1
                rw [z2] at this; cases this
                have := hy' bs' k3
                rw [w2] at this; cases this
                have := hz' cs' k5
                rw [u2] at this; cases this
                exact three_ok s' hT z3 w3 u3
              · have := k2.length
                simp
                omega
            · cases h3
          · cases h3
theorem i_enum (C : Cxt W k N sc X) {a : Expr} {elts : List Expr} {kk : Nat} {tpos : Pos} {px p env st} {ra : Option (D × Store)} (hg : glB sc "enumerate" = true) (ha0 : isStar a = false) (ha : EOk X W.cs a env st ra) :
    IOk X W.cs (.Tuple elts kk tpos) (.Call (.Name "enumerate" px) [a] [] p) env st (match (generalizing := false) ra with
    | some (x, st1) => (match lstD x with
      | some xs => some (xs.zipIdx.map fun p => .tup [.int (p.2 : Nat), p.1], st1)
      | none => none)
    | none => none) := by
  intro ds st' e0 m σ H R hs hr hq
  cases ra with
  | none => cases e0
  | some p1 =>
    obtain ⟨x, st1⟩ := p1
    cases h : lstD x with
    | none => simp only [h] at e0; cases e0
    | some l =>
      simp only [h] at e0
      cases e0
      refine useI (pi_enum (C.gl hg) (C.mdl.free _ (by decide)) (pa_cons peE pa_nil (starEach_cons ha0)) (starEach_cons ha0)) (ha x _ rfl m σ H _ hs hr fun m1 v1 H1 x1 s1 p1 => ?_)
      obtain ⟨q1, zs, rfl, g1, g2⟩ := lst_of h p1
      refine ⟨q1, zs, rfl, g1, hq m1 _ H1 x1 s1 ?_⟩
      intro m' st' H' e s'
      obtain ⟨q1', zs', ez, k1, k2⟩ := lst_of h (p1.ext s1.cells e)
      obtain rfl := ref_inj ez
      refine ⟨fun i d hd => ?_, zs', k1, by rw [← k2.length]; simp⟩
      rw [List.getElem?_map, List.getElem?_zipIdx] at hd
      cases q : l[i]? with
      | none => rw [q] at hd; cases hd
      | some y =>
        rw [q] at hd; cases hd
        obtain ⟨z1, z2, z3⟩ := k2.get q
        refine ⟨⟨zs', z1, k1, z2⟩, fun v H'' hy => ?_⟩
        obtain ⟨T, x', rfl, hT, rfl, hx'⟩ := hy
        have := hx' zs' k1
        rw [z2] at this; cases this
        have := pair_ok (a := .int ((0 + i : Nat) : Int)) (x := .int ((i : Nat) : Int)) s' hT (by simp [Rep]) z3
        simpa using this
end
end Mi

set_option Elab.async false
set_option linter.all false
set_option maxRecDepth 100000
set_option maxHeartbeats 4000000
/-! Mi21: statements. -/
namespace Mi
open PySem PySem.Spec PyProof.Rows L2 GenW

/-- where statements stand -/
structure StC (sc : Scope) (X : Cx) : Prop where
  kind : X.env.scope.kind = .function
  nev : X.xe = fun _ _ => False
  sto : Sto (locB sc) X
def notLc : Expr → Bool
  | .ListComp .. => false
  | .SetComp .. => false
  | .DictComp .. => false
  | _ => true
theorem swaps_no {e : Expr} {t : Option Expr} {line : Nat} {env : PySem.Env} (h : notLc e = true) : swapsWith e t line env = pure false := by
  cases e <;> first | rfl | cases h
theorem swaps_tgt {e t : Expr} {line : Nat} {env : PySem.Env} (h : ∀ x p, t ≠ .Name x p) : swapsWith e (some t) line env = pure false := by
  cases e <;> cases t <;> first | rfl | exact absurd rfl (h _ _)
def lcSw (sc : Scope) (scope : Scope) (p : Pos) (t : Str) (pos : Pos) : Bool := decide (sc.names.lookup t = some .local) && pos.line == p.line && !(scope.names.any fun (n, k) => n == t && (k == .local || k == .cell))
theorem swaps_lc {elt : Expr} {gens : List Comprehension} {scope : Scope} {p pos : Pos} {t : Str} {line : Nat} {env : PySem.Env} (hk : env.scope.kind = .function) :
    swapsWith (.ListComp elt gens scope p) (some (.Name t pos)) line env = pure (lcSw env.scope scope p t pos) := by
  have hb : env.blockKind = .function := by
    unfold Env.blockKind
    rw [hk]; rfl
  unfold swapsWith lcSw
  simp only [hb]
  have e : (env.kindOf t == some NameKind.local) = decide (env.scope.names.lookup t = some .local) := by
    unfold Env.kindOf
    by_cases h : List.lookup t env.scope.names = some .local
    · simp [h]
    · simp [h]
  rw [e]
  rfl
def FlAft (X : Cx) (cs : List (Addr × Addr)) (m : List Addr) (st : Store) (H : Hp) (D : Ends) : Fl → Prop
  | .nxt env' st' => ∀ m' σ' H', Ext m st H m' st' H' → SC X.K cs m' st' H' → EnvR X.K m' st' H' env' σ' → D.nx σ' H'
  | .ret d st' => ∀ m' v H', Ext m st H m' st' H' → SC X.K cs m' st' H' → Rep X.K m' (Lv m' st') H' d v → D.rt v H'
  | .brk env' st' => ∀ m' σ' H', Ext m st H m' st' H' → SC X.K cs m' st' H' → EnvR X.K m' st' H' env' σ' → D.bk σ' H'
  | .cnt env' st' => ∀ m' σ' H', Ext m st H m' st' H' → SC X.K cs m' st' H' → EnvR X.K m' st' H' env' σ' → D.ct σ' H'
theorem FlAft.ext {X : Cx} {cs : List (Addr × Addr)} {m m1 : List Addr} {st st1 : Store} {H H1 : Hp} {D : Ends} {fl : Fl} (x : Ext m st H m1 st1 H1) (h : FlAft X cs m st H D fl) : FlAft X cs m1 st1 H1 D fl := by
  cases fl with
  | nxt env' st' => exact fun m' σ' H' a b c => h m' σ' H' (x.trans a) b c
  | ret d st' => exact fun m' σ' H' a b c => h m' σ' H' (x.trans a) b c
  | brk env' st' => exact fun m' σ' H' a b c => h m' σ' H' (x.trans a) b c
  | cnt env' st' => exact fun m' σ' H' a b c => h m' σ' H' (x.trans a) b c
def SOk (X : Cx) (cs : List (Addr × Addr)) (s : Stmt) (env : Env) (st : Store) (r : Option Fl) : Prop :=
  ∀ fl, r = some fl → ∀ m σ H D, SC X.K cs m st H → EnvR X.K m st H env σ → FlAft X cs m st H D fl → tS X s D σ H
def SsOk (X : Cx) (cs : List (Addr × Addr)) (s : List Stmt) (env : Env) (st : Store) (r : Option Fl) : Prop :=
  ∀ fl, r = some fl → ∀ m σ H D, SC X.K cs m st H → EnvR X.K m st H env σ → FlAft X cs m st H D fl → tSs X s D σ H
section
variable {W : Wld} {k : Nat} {N : List Str} {sc : Scope} {X : Cx}
theorem ss_nil {env st} : SsOk X W.cs [] env st (some (.nxt env st)) := by
  intro fl e m σ H D hs hr hq
  cases e
  exact useSs pss_nil (hq m σ H Ext.refl hs hr)
theorem ss_cons {s : Stmt} {rest : List Stmt} {env st} {r : Option Fl} {r2 : Env → Store → Option Fl} (h1 : SOk X W.cs s env st r) (h2 : ∀ env' st', SsOk X W.cs rest env' st' (r2 env' st')) :
    SsOk X W.cs (s :: rest) env st (match (generalizing := false) r with
    | some (.nxt env' st') => r2 env' st'
    | x => x) := by
  intro fl e m σ H D hs hr hq
  refine useSs (pss_cons psS pssS) ?_
  cases r with
  | none => cases e
  | some f =>
    refine h1 f rfl m σ H _ hs hr ?_
    cases f with
    | nxt env' st' =>
      intro m' σ' H' x s' er
      exact h2 env' st' fl e m' σ' H' D s' er (hq.ext x)
    | ret d st' => cases e; exact hq
    | brk env' st' => cases e; exact hq
    | cnt env' st' => cases e; exact hq
theorem st_asg (C : Cxt W k N sc X) (S : StC sc X) {i : Nat} {x : Str} {e : Expr} {p' pos : Pos} {env st} {r : Option (D × Store)} (hi : N[i]? = some x) (hl : locB sc x = true) (hn : swapsWith e (some (.Name x p')) pos.line X.env = pure false) (he : EOk X W.cs e env st r) :
    SOk X W.cs (.Assign [.Name x p'] e pos) env st (match (generalizing := false) r with
    | some (y, st1) => some (.nxt (env.set i (some y)) st1)
    | none => none) := by
  intro fl e0 m σ H D hs hr hq
  cases r with
  | none => cases e0
  | some p1 =>
    obtain ⟨y, st1⟩ := p1
    cases e0
    obtain ⟨h1, h2⟩ := S.sto x hl
    refine useS (ps_set (by rw [C.hN]; exact C.nd) (by rw [C.hN]; exact hi) h1 peE hn h2) (he y _ rfl m σ H _ hs hr fun m1 v1 H1 x1 s1 p1 => ?_)
    exact hq m1 _ H1 x1 s1 ((hr.ext hs.cells x1).set p1)
theorem st_asgLc (C : Cxt W k N sc X) (S : StC sc X) {i : Nat} {x : Str} {p' pos lpos : Pos} {elt tge iter : Expr} {ifs : List Expr} {scope : Scope} {own : List (Str × Nat)} {tg : ITg} {cond : ITo} {eltI : IE} {env : Env} {st : Store} {r : Option (List D × Store)}
    (hi0 : N[i]? = some x) (hl : locB sc x = true) (ok : BlkOk N sc scope own) (hi : IOk X W.cs tge iter env st r) (hfold : foldB iter = true)
    (hB : ∀ G, Cxt W k N (relS scope sc) G → Sto (locB scope) G → (GenCx W k X → GenCx W k G) → TgOk G W.cs tg tge ∧ (∀ env st, TsOk G W.cs ifs env st (evTo (callF W.T W.F k) env cond st)) ∧ ∀ env st, EOk G W.cs elt env st (evE (callF W.T W.F k) env eltI st)) :
    SOk X W.cs (.Assign [.Name x p'] (.ListComp elt [⟨tge, iter, ifs, 0⟩] scope lpos) pos) env st (match (match (generalizing := false) r with
    | some (xs, st1) => if tgOwn tg (own.map (·.2)) then (match mapSt st1.length (turnF (callF W.T W.F k) (wipeE env (own.map (·.2))) tg cond eltI) xs (st1 ++ [some []]) with
      | some st2 => (match st2[st1.length]? with
        | some (some ys) => cutD st1.length (.lst ys) st2
        | _ => none)
      | none => none) else none
    | none => none) with
    | some (y, st1) => some (.nxt (env.set i (some y)) st1)
    | none => none) := by
  have hsw := swaps_lc (elt := elt) (gens := [⟨tge, iter, ifs, 0⟩]) (scope := scope) (p := lpos) (pos := p') (t := x) (line := pos.line) S.kind
  cases hb : lcSw X.env.scope scope lpos x p' with
  | false =>
    rw [hb] at hsw
    exact st_asg C S hi0 hl hsw (s_comp C ok hi hfold hB)
  | true =>
    rw [hb] at hsw
    intro fl e0 m σ H D hs hr hq
    cases r with
    | none => cases e0
    | some p1 =>
      obtain ⟨xs, st1⟩ := p1
      simp only at e0
      split at e0
      · rename_i y st1' e
        cases e0
        split at e
        · rename_i hown
          split at e
          · rename_i st2 hm
            split at e
            · rename_i ys hys
              have hloc : X.env.scope.names.lookup x = some .local := by
                unfold lcSw at hb
                simp only [Bool.and_eq_true, decide_eq_true_eq] at hb
                exact hb.1.1
              refine useS (ps_setLc (g := fun v σ H Q => ∀ s0 H0 c cl fp, tGt (X.blk s0 H0 scope (compEnvC scope cl c X.env) fp) tge v σ H Q) (tt := fun σ H Q => ∀ s0 H0 c cl fp, tTs (X.blk s0 H0 scope (compEnvC scope cl c X.env) fp) ifs σ H Q)
                (te := fun σ H Q => ∀ s0 H0 c cl fp, tE (X.blk s0 H0 scope (compEnvC scope cl c X.env) fp) elt σ H Q) C.calm (by rw [C.hN]; exact C.nd) (by rw [C.hN]; exact hi0) hloc hsw piI (by rw [C.hN, C.hsc]; exact ok)
                (fun s0 H0 c cl fp => ⟨fun pins s σ H v u Q I rr h => h s0 H0 c cl fp pins s u I rr⟩) (fun s0 H0 c cl fp => ⟨fun pins s σ H Q I h => h s0 H0 c cl fp pins s I⟩)
                (fun s0 H0 c cl fp => ⟨fun pins s σ H Q I h => h s0 H0 c cl fp pins s I⟩) (foldB_set hfold)) ?_
              exact comp_core C hi hB hown hm hys e hs hr fun m1 v1 H1 x1 s1 p1 => hq m1 _ H1 x1 s1 ((hr.ext hs.cells x1).set p1)
            · cases e
          · cases e
        · cases e
      · cases e0
theorem st_expr {e : Expr} {pos : Pos} {env st} {r : Option (D × Store)} (hn : notLc e = true) (he : EOk X W.cs e env st r) : SOk X W.cs (.Expr e pos) env st (match (generalizing := false) r with
    | some (_, st1) => some (.nxt env st1)
    | none => none) := by
  intro fl e0 m σ H D hs hr hq
  cases r with
  | none => cases e0
  | some p1 =>
    obtain ⟨y, st1⟩ := p1
    cases e0
    exact useS (ps_expr peE (swaps_no hn)) (he y _ rfl m σ H _ hs hr fun m1 v1 H1 x1 s1 p1 => hq m1 σ H1 x1 s1 (hr.ext hs.cells x1))
theorem st_ret {e : Expr} {pos : Pos} {env st} {r : Option (D × Store)} (he : EOk X W.cs e env st r) : SOk X W.cs (.Return (some e) pos) env st (match (generalizing := false) r with
    | some (x, st1) => some (.ret x st1)
    | none => none) := by
  intro fl e0 m σ H D hs hr hq
  cases r with
  | none => cases e0
  | some p1 =>
    obtain ⟨y, st1⟩ := p1
    cases e0
    exact useS (ps_ret peE) (he y _ rfl m σ H _ hs hr fun m1 v1 H1 x1 s1 p1 => hq m1 v1 H1 x1 s1 p1)
theorem st_retN {pos : Pos} {env st} : SOk X W.cs (.Return none pos) env st (some (.ret .non st)) := by
  intro fl e0 m σ H D hs hr hq
  cases e0
  exact useS ps_retN (hq m _ H Ext.refl hs (by simp only [Rep]))
theorem st_pass {pos : Pos} {env st} : SOk X W.cs (.Pass pos) env st (some (.nxt env st)) := by
  intro fl e0 m σ H D hs hr hq
  cases e0
  exact useS ps_pass (hq m σ H Ext.refl hs hr)
theorem st_doc {x : Str} {j p pos} {env st} : SOk X W.cs (.Expr (.Constant (.str x) j p) pos) env st (some (.nxt env st)) := by
  intro fl e0 m σ H D hs hr hq
  cases e0
  exact useS ps_doc (hq m σ H Ext.refl hs hr)
theorem st_brk {pos : Pos} {env st} : SOk X W.cs (.Break pos) env st (some (.brk env st)) := by
  intro fl e0 m σ H D hs hr hq
  cases e0
  exact useS ps_break (hq m σ H Ext.refl hs hr)
theorem st_cnt {pos : Pos} {env st} : SOk X W.cs (.Continue pos) env st (some (.cnt env st)) := by
  intro fl e0 m σ H D hs hr hq
  cases e0
  exact useS ps_continue (hq m σ H Ext.refl hs hr)
theorem st_if {c : Expr} {a b : List Stmt} {pos : Pos} {env st} {rt : Option (Bool × Store)} {ra rb : Store → Option Fl} (ht : TOk X W.cs c env st rt) (ha : ∀ st1, SsOk X W.cs a env st1 (ra st1)) (hb : ∀ st1, SsOk X W.cs b env st1 (rb st1)) :
    SOk X W.cs (.If c a b pos) env st (match (generalizing := false) rt with
    | some (true, st1) => ra st1
    | some (false, st1) => rb st1
    | none => none) := by
  intro fl e m σ H D hs hr hq
  cases rt with
  | none => cases e
  | some p1 =>
    obtain ⟨x, st1⟩ := p1
    refine useS (ps_if ptT pssS pssS) (ht x _ rfl m σ H _ hs hr fun m1 H1 x1 s1 => ?_)
    cases x with
    | true =>
      rw [if_pos rfl]
      exact ha st1 fl e m1 σ H1 D s1 (hr.ext hs.cells x1) (hq.ext x1)
    | false =>
      rw [if_neg (by decide)]
      exact hb st1 fl e m1 σ H1 D s1 (hr.ext hs.cells x1) (hq.ext x1)
theorem st_for (C : Cxt W k N sc X) (S : StC sc X) {tge iter : Expr} {body : List Stmt} {pos : Pos} {tg : ITg} {env st} {r : Option (List D × Store)} {rb : Env → Store → Option Fl} (hi : IOk X W.cs tge iter env st r) (hfold : foldSB iter = true) (hT : TgOk X W.cs tg tge)
    (hb : ∀ env' st', SsOk X W.cs body env' st' (rb env' st')) :
    SOk X W.cs (.For tge iter body [] pos) env st (match (generalizing := false) r with
    | some (xs, st1) => loopF (fun x env st => match bindT tg x env with
      | some env' => rb env' st
      | none => none) xs env st1
    | none => none) := by
  intro fl e m σ H D hs hr hq
  cases r with
  | none => cases e
  | some p1 =>
    obtain ⟨xs, st1⟩ := p1
    simp only at e
    refine useS (ps_for (by rw [S.nev]; exact PassesOwn.never) C.calm piI pgG pssS (foldSB_set hfold)) ?_
    refine hi xs st1 rfl m σ H _ hs hr fun m1 J H1 x1 s1 items => ?_
    refine ⟨fun i mm σ' H' => ∃ m' env' st', i + mm = xs.length ∧ Ext m1 st1 H1 m' st' H' ∧ SC X.K W.cs m' st' H' ∧ EnvR X.K m' st' H' env' σ' ∧ loopF (fun x env st => match bindT tg x env with
      | some env' => rb env' st
      | none => none) (xs.drop i) env' st' = some fl, ⟨xs.length, m1, env, st1, by omega, Ext.refl, s1, hr.ext hs.cells x1, e⟩, ?_⟩
    intro i mm σ' H' ⟨m', env', st', him, x', s', er', hl⟩
    have it := items m' st' H' x' s'
    cases mm with
    | zero =>
      left
      have e1 : i = xs.length := by omega
      rw [e1] at hl ⊢
      rw [List.drop_length] at hl
      simp only [loopF, Option.some.injEq] at hl
      subst hl
      exact ⟨it.2, hq m' σ' H' (x1.trans x') s' er'⟩
    | succ mm =>
      right
      have hlt : i < xs.length := by omega
      have hat : xs[i]? = some xs[i] := List.getElem?_eq_getElem hlt
      have hdrop : xs.drop i = xs[i] :: xs.drop (i + 1) := List.drop_eq_getElem_cons hlt
      generalize hxe : xs[i] = x at hat hdrop
      rw [hdrop] at hl
      have zi := it.1 i x hat
      refine ⟨zi.1, _, fun σ2 H2 w => ⟨mm, Nat.lt_succ_self _, w⟩, fun v H'' y7 => ?_⟩
      obtain ⟨x7, s7, r7⟩ := zi.2 v H'' y7
      cases hbt : bindT tg x env' with
      | none =>
        simp only [loopF, hbt] at hl
        cases hl
      | some env2 =>
        refine hT m' st' H'' x env' env2 σ' v _ hbt s7 (er'.ext s'.cells x7) r7 fun vs er2 => ?_
        simp only [loopF, hbt] at hl
        cases hf : rb env2 st' with
        | none => simp only [hf] at hl; cases hl
        | some f1 =>
          simp only [hf] at hl
          refine hb env2 st' f1 hf m' _ H'' _ s7 er2 ?_
          have xx : Ext m st H m' st' H'' := (x1.trans x').trans x7
          cases f1 with
          | nxt env3 st3 => exact fun m3 σ3 H3 a b c => ⟨m3, env3, st3, by omega, (x'.trans x7).trans a, b, c, hl⟩
          | cnt env3 st3 => exact fun m3 σ3 H3 a b c => ⟨m3, env3, st3, by omega, (x'.trans x7).trans a, b, c, hl⟩
          | brk env3 st3 => cases hl; exact fun m3 σ3 H3 a b c => hq m3 σ3 H3 (xx.trans a) b c
          | ret d st3 => cases hl; exact fun m3 v3 H3 a b c => hq m3 v3 H3 (xx.trans a) b c
theorem st_while (S : StC sc X) {c : Expr} {body : List Stmt} {pos : Pos} {F : Nat} {env st} {rt : Env → Store → Option (Bool × Store)} {rb : Env → Store → Option Fl} (ht : ∀ env st, TOk X W.cs c env st (rt env st)) (hb : ∀ env' st', SsOk X W.cs body env' st' (rb env' st')) :
    SOk X W.cs (.While c body [] pos) env st (loopW rt rb F env st) := by
  intro fl e m σ H D hs hr hq
  refine useS (ps_while (by rw [S.nev]; exact PassesOwn.never) ptT pssS) ?_
  refine ⟨fun mm σ' H' => ∃ m' env' st', Ext m st H m' st' H' ∧ SC X.K W.cs m' st' H' ∧ EnvR X.K m' st' H' env' σ' ∧ loopW rt rb mm env' st' = some fl, ⟨F, m, env, st, Ext.refl, hs, hr, e⟩, ?_⟩
  intro mm σ' H' ⟨m', env', st', x', s', er', hl⟩
  cases mm with
  | zero => simp only [loopW] at hl; cases hl
  | succ mm =>
    simp only [loopW] at hl
    cases h1 : rt env' st' with
    | none => simp only [h1] at hl; cases hl
    | some p =>
      obtain ⟨b, st1⟩ := p
      refine ht env' st' b st1 h1 m' σ' H' _ s' er' fun m1 H1 x1 s1 => ?_
      cases b with
      | false =>
        simp only [h1] at hl
        cases hl
        rw [if_neg (by decide)]
        exact hq m1 σ' H1 (x'.trans x1) s1 (er'.ext s'.cells x1)
      | true =>
        simp only [h1] at hl
        rw [if_pos rfl]
        refine ⟨_, fun σ2 H2 w => ⟨mm, Nat.lt_succ_self _, w⟩, ?_⟩
        cases hf : rb env' st1 with
        | none => simp only [hf] at hl; cases hl
        | some f1 =>
          simp only [hf] at hl
          refine hb env' st1 f1 hf m1 _ H1 _ s1 (er'.ext s'.cells x1) ?_
          have xx := x'.trans x1
          cases f1 with
          | nxt env3 st3 => exact fun m3 σ3 H3 a b c => ⟨m3, env3, st3, xx.trans a, b, c, hl⟩
          | cnt env3 st3 => exact fun m3 σ3 H3 a b c => ⟨m3, env3, st3, xx.trans a, b, c, hl⟩
          | brk env3 st3 => cases hl; exact fun m3 σ3 H3 a b c => hq m3 σ3 H3 (xx.trans a) b c
          | ret d st3 => cases hl; exact fun m3 v3 H3 a b c => hq m3 v3 H3 (xx.trans a) b c
end
end Mi

set_option Elab.async false
set_option linter.all false
set_option maxRecDepth 100000
set_option maxHeartbeats 4000000
/-! Mi22: stores. -/
namespace Mi
open PySem PySem.Spec PyProof.Rows L2 GenW

def tGs (X : Cx) (es : List Expr) : TGs := fun vs σ H Q => ∀ pins s us, Inv X pins σ H s → Vals vs us →
  wpAny (model X.prog X.w) X.A (assignInOrder ((assignEach es X.env).map (·.2)) us) (fun _ s' => ∃ σ' H', Inv X pins σ' H' s' ∧ Q σ' H') X.xe s
theorem pgsG {X : Cx} {es : List Expr} : PGs X es (tGs X es) := ⟨fun pins s σ H vs us Q I r h => h pins s us I r⟩
def isTg : Expr → Bool
  | .Name _ _ => true
  | .Subscript _ i _ => !isSlice i
  | _ => false
theorem assignEach_cons {e : Expr} {es : List Expr} {env : PySem.Env} (h : isTg e = true) : assignEach (e :: es) env = (false, assign e env) :: assignEach es env := by
  cases e <;> first | rfl | cases h
theorem assignEach_tg {es : List Expr} {env : PySem.Env} (h : es.all isTg = true) : (assignEach es env).length = es.length ∧ (assignEach es env).findIdx? (·.1) = none := by
  induction es with
  | nil => exact ⟨rfl, rfl⟩
  | cons e es ih =>
    simp only [List.all_cons, Bool.and_eq_true] at h
    obtain ⟨h1, h2⟩ := ih h.2
    rw [assignEach_cons h.1]
    refine ⟨by rw [List.length_cons, h1, List.length_cons], ?_⟩
    rw [List.findIdx?_cons]
    simp [h2]
section
variable {W : Wld} {k : Nat} {N : List Str} {sc : Scope} {X : Cx}
theorem pg_subX {o i : Expr} {pos : Pos} (hi : isSlice i = false) : PG X (.Subscript o i pos) (gSub (tE X o) (tE X i) rSetL) := by
  refine pg_sub peE peE set_list ?_
  intro v
  cases i <;> first | rfl | cases hi
/-- a store into a cell, by values -/
theorem set_ok {x y v : D} {st st' : Store} {m : List Addr} {H : Hp} {ov iv vv : V} {cs : List (Addr × Addr)} {Q : Hp → Prop} (h : setC x y v st = some st') (hs : SC X.K cs m st H) (r1 : Rep X.K m (Lv m st) H x ov) (r2 : Rep X.K m (Lv m st) H y iv) (r3 : Rep X.K m (Lv m st) H v vv)
    (hq : ∀ H', Ext m st H m st' H' → SC X.K cs m st' H' → Q H') : rSetL ov iv vv H Q := by
  cases x <;> simp only [setC] at h <;> try (cases h; done)
  rename_i n
  cases y <;> simp only at h <;> try (cases h; done)
  rename_i i
  simp only [Rep] at r1 r2
  obtain ⟨a, rfl, ha⟩ := r1
  split at h
  · rename_i xs hx
    split at h
    · rename_i j hj
      cases h
      obtain ⟨a', ys, q1, q2, q3⟩ := hs.cell _ _ hx
      rw [ha] at q1; cases q1
      exact ⟨a, ys, i, j, rfl, r2, q2, by rw [← q3.length]; exact hj, hq _ (ext_set (K := X.K) (cs := cs) hs hx ha) (hs.setc hx ha (q3.set r3 j))⟩
    · cases h
  · cases h
def GsOk (X : Cx) (cs : List (Addr × Addr)) (es : List Expr) (c : CallT) (ts : List Tgt) : Prop :=
  ∀ xs env st env' st', asgTs c ts xs env st = some (env', st') → ∀ m σ H vs (Q : L2.St → Hp → Prop), SC X.K cs m st H → EnvR X.K m st H env σ → Reps X.K m (Lv m st) H xs vs →
    (∀ m' σ' H', Ext m st H m' st' H' → SC X.K cs m' st' H' → EnvR X.K m' st' H' env' σ' → Q σ' H') → tGs X es vs σ H Q
theorem gs_nil {c : CallT} : GsOk X W.cs [] c [] := by
  intro xs env st env' st' h m σ H vs Q hs hr rr hq
  cases xs with
  | nil =>
    simp only [asgTs, Option.some.injEq, Prod.mk.injEq] at h
    obtain ⟨rfl, rfl⟩ := h
    simp only [Reps] at rr
    exact fun pins s us I r => pgs_nil.run pins s σ H vs us Q I r ⟨rr, hq m σ H Ext.refl hs hr⟩
  | cons x xs => simp only [asgTs] at h; cases h
theorem gs_nm {c : CallT} (C : Cxt W k N sc X) (S : StC sc X) {i : Nat} {e : Expr} {es : List Expr} {ts : List Tgt} (h0 : nmB sc N i e = true) (ht : GsOk X W.cs es c ts) : GsOk X W.cs (e :: es) c (.nm i :: ts) := by
  intro xs env st env' st' h m σ H vs Q hs hr rr hq
  cases e <;> simp only [nmB, Bool.false_eq_true, Bool.and_eq_true, decide_eq_true_eq] at h0
  rename_i x p
  obtain ⟨h1, h2⟩ := S.sto x h0.1.2
  cases xs with
  | nil => simp only [asgTs] at h; cases h
  | cons y ys =>
    simp only [asgTs] at h
    simp only [Reps] at rr
    obtain ⟨v, r, rfl, r1, r2⟩ := rr
    intro pins s us I rv
    refine (pgs_cons (pg_name (i := i) (by rw [C.hN]; exact C.nd) (by rw [C.hN]; exact h0.1.1) h1 h2) pgsG (by rw [assignEach_cons rfl]; rfl)).run pins s σ H _ us Q I rv ⟨v, r, rfl, ?_⟩
    exact ht ys _ st env' st' h m _ H r Q hs (hr.set r1) r2 hq
theorem gs_sub {c : CallT} (C : Cxt W k N sc X) {o ix : IE} {x y : Expr} {p : Pos} {es : List Expr} {ts : List Tgt} (hi : isSlice y = false) (ho : ∀ env st, EOk X W.cs x env st (evE c env o st)) (hy : ∀ env st, EOk X W.cs y env st (evE c env ix st)) (ht : GsOk X W.cs es c ts) :
    GsOk X W.cs (.Subscript x y p :: es) c (.sub o ix :: ts) := by
  intro xs env st env' st' h m σ H vs Q hs hr rr hq
  cases xs with
  | nil => simp only [asgTs] at h; cases h
  | cons z zs =>
    simp only [asgTs] at h
    simp only [Reps] at rr
    obtain ⟨v, r, rfl, r1, r2⟩ := rr
    cases h1 : evE c env o st with
    | none => simp only [h1] at h; cases h
    | some p1 =>
      obtain ⟨ov, st1⟩ := p1
      cases h2 : evE c env ix st1 with
      | none => simp only [h1, h2] at h; cases h
      | some p2 =>
        obtain ⟨iv, st2⟩ := p2
        cases h3 : setC ov iv z st2 with
        | none => simp only [h1, h2, h3] at h; cases h
        | some st3 =>
          simp only [h1, h2, h3] at h
          intro pins s us I rv
          refine (pgs_cons (pg_subX hi) pgsG (by rw [assignEach_cons (by simp [isTg, hi])]; rfl)).run pins s σ H _ us Q I rv ⟨v, r, rfl, ?_⟩
          refine ho env st ov st1 h1 m σ H _ hs hr fun m1 v1 H1 x1 s1 p1 => ?_
          refine hy env st1 iv st2 h2 m1 σ H1 _ s1 (hr.ext hs.cells x1) fun m2 v2 H2 x2 s2 p2 => ?_
          have x12 := x1.trans x2
          refine set_ok h3 s2 (p1.ext s1.cells x2) p2 (r1.ext hs.cells x12) fun H3 x3 s3 => ?_
          have x13 := x12.trans x3
          exact ht zs env st3 env' st' h m2 σ H3 r Q s3 (hr.ext hs.cells x13) (r2.ext hs.cells x13) fun m' σ' H' a b d => hq m' σ' H' (x13.trans a) b d
def notTup : Expr → Bool
  | .Tuple .. => false
  | _ => true
theorem sw_none {ts : List Expr} {kk : Nat} {tp : Pos} {e : Expr} {env : PySem.Env} (h : notTup e = true) : swappedStores [.Tuple ts kk tp] e env = pure none := by
  cases e <;> first | rfl | cases h
theorem sw_none4 {ts vs : List Expr} {kk k2 : Nat} {tp p2 : Pos} {env : PySem.Env} (h : (ts.length == 2 || ts.length == 3) = false) : swappedStores [.Tuple ts kk tp] (.Tuple vs k2 p2) env = pure none := by
  unfold swappedStores
  simp only [h]
  rfl
theorem sw_noneC {ts vs : List Expr} {kk k2 : Nat} {tp p2 : Pos} {env : PySem.Env} (hs : vs.any isStar = false) (h : vs.all (foldedForSure 8) = true) : swappedStores [.Tuple ts kk tp] (.Tuple vs k2 p2) env = pure none := by
  unfold swappedStores
  simp only [h, if_true]
  repeat' split
  all_goals rfl
theorem asgTs_len {c : CallT} : ∀ {ts : List Tgt} {xs : List D} {env : Env} {st : Store} {r : Env × Store}, asgTs c ts xs env st = some r → xs.length = ts.length
  | [], [], _, _, _, _ => rfl
  | [], _ :: _, _, _, _, h => by simp only [asgTs] at h; cases h
  | t :: ts, [], _, _, _, h => by cases t <;> (simp only [asgTs] at h; cases h)
  | t :: ts, x :: xs, env, st, r, h => by
    cases t with
    | nm i =>
      simp only [asgTs] at h
      rw [List.length_cons, List.length_cons, asgTs_len h]
    | tp l => simp only [asgTs] at h; cases h
    | sub o ix =>
      simp only [asgTs] at h
      split at h
      · split at h
        · split at h
          · rw [List.length_cons, List.length_cons, asgTs_len h]
          · cases h
        · cases h
      · cases h
theorem st_asgT (C : Cxt W k N sc X) {c : CallT} {es : List Expr} {ts : List Tgt} {kk : Nat} {tp pos : Pos} {e : Expr} {env st} {r : Option (D × Store)} (hes : es.all isTg = true) (hw : swappedStores [.Tuple es kk tp] e X.env = pure none) (he : EOk X W.cs e env st r) (hg : GsOk X W.cs es c ts) (hl : es.length = ts.length) :
    SOk X W.cs (.Assign [.Tuple es kk tp] e pos) env st (match (generalizing := false) r with
    | some (.tup xs, st1) => (match asgTs c ts xs env st1 with
      | some (env', st') => some (.nxt env' st')
      | none => none)
    | some (.lst xs, st1) => (match asgTs c ts xs env st1 with
      | some (env', st') => some (.nxt env' st')
      | none => none)
    | _ => none) := by
  intro fl e0 m σ H D hs hr hq
  cases r with
  | none => cases e0
  | some p1 =>
    obtain ⟨y, st1⟩ := p1
    cases y <;> simp only at e0 <;> try (cases e0; done)
    case tup xs =>
      cases h : asgTs c ts xs env st1 with
      | none => simp only [h] at e0; cases e0
      | some p2 =>
        obtain ⟨env', st'⟩ := p2
        simp only [h] at e0
        cases e0
        obtain ⟨l1, l2⟩ := assignEach_tg (env := X.env) hes
        have hxl := asgTs_len h
        refine useS (ps_asg (g := gTup X.K es.length (tGs X es)) peE (pg_tup C.calm pgsG l1 l2) (show swapsWith e (some (.Tuple es kk tp)) pos.line X.env = pure false from swaps_tgt (fun x p z => by cases z)) hw rfl) (he _ _ rfl m σ H _ hs hr fun m1 v1 H1 x1 s1 p1 => ?_)
        simp only [Rep] at p1
        obtain ⟨a, vs, rfl, q1, q2⟩ := p1
        exact ⟨a, vs, rfl, q1, by rw [← q2.length, hxl, hl], hg xs env st1 env' st' h m1 σ H1 vs _ s1 (hr.ext hs.cells x1) q2 fun m' σ' H' a b d => hq m' σ' H' (x1.trans a) b d⟩
    case lst xs =>
      cases h : asgTs c ts xs env st1 with
      | none => simp only [h] at e0; cases e0
      | some p2 =>
        obtain ⟨env', st'⟩ := p2
        simp only [h] at e0
        cases e0
        obtain ⟨l1, l2⟩ := assignEach_tg (env := X.env) hes
        have hxl := asgTs_len h
        refine useS (ps_asg (g := gUnl X.K es.length (tGs X es)) peE (pg_unl C.calm pgsG l1 l2) (show swapsWith e (some (.Tuple es kk tp)) pos.line X.env = pure false from swaps_tgt (fun x p z => by cases z)) hw rfl) (he _ _ rfl m σ H _ hs hr fun m1 v1 H1 x1 s1 p1 => ?_)
        obtain ⟨a, vs, rfl, q1, q2⟩ := lst_of (x := .lst xs) rfl p1
        exact ⟨a, vs, rfl, q1, by rw [← q2.length, hxl, hl], hg xs env st1 env' st' h m1 σ H1 vs _ s1 (hr.ext hs.cells x1) q2 fun m' σ' H' a b d => hq m' σ' H' (x1.trans a) b d⟩
theorem st_asgS (C : Cxt W k N sc X) {c : CallT} {o ix : IE} {x y e : Expr} {p pos : Pos} {env st} {r : Option (D × Store)} (hi : isSlice y = false) (he : EOk X W.cs e env st r) (ho : ∀ env st, EOk X W.cs x env st (evE c env o st)) (hy : ∀ env st, EOk X W.cs y env st (evE c env ix st)) :
    SOk X W.cs (.Assign [.Subscript x y p] e pos) env st (match (generalizing := false) r with
    | some (z, st1) => (match evE c env o st1 with
      | some (ov, st2) => (match evE c env ix st2 with
        | some (iv, st3) => (match setC ov iv z st3 with
          | some st4 => some (.nxt env st4)
          | none => none)
        | none => none)
      | none => none)
    | none => none) := by
  intro fl e0 m σ H D hs hr hq
  cases r with
  | none => cases e0
  | some p1 =>
    obtain ⟨z, st1⟩ := p1
    cases h1 : evE c env o st1 with
    | none => simp only [h1] at e0; cases e0
    | some p1 =>
      obtain ⟨ov, st2⟩ := p1
      cases h2 : evE c env ix st2 with
      | none => simp only [h1, h2] at e0; cases e0
      | some p2 =>
        obtain ⟨iv, st3⟩ := p2
        cases h3 : setC ov iv z st3 with
        | none => simp only [h1, h2, h3] at e0; cases e0
        | some st4 =>
          simp only [h1, h2, h3] at e0
          cases e0
          refine useS (ps_asg peE (pg_subX hi) (show swapsWith e (some (.Subscript x y p)) pos.line X.env = pure false from swaps_tgt (fun x p z => by cases z)) rfl rfl) (he _ _ rfl m σ H _ hs hr fun m1 v1 H1 x1 s1 p1 => ?_)
          refine ho env st1 ov st2 h1 m1 σ H1 _ s1 (hr.ext hs.cells x1) fun m2 v2 H2 x2 s2 p2 => ?_
          refine hy env st2 iv st3 h2 m2 σ H2 _ s2 ((hr.ext hs.cells x1).ext s1.cells x2) fun m3 v3 H3 x3 s3 p3 => ?_
          have x13 := (x1.trans x2).trans x3
          refine set_ok h3 s3 (p2.ext s2.cells x3) p3 (p1.ext s1.cells (x2.trans x3)) fun H4 x4 s4 => ?_
          exact hq m3 σ H4 (x13.trans x4) s4 (hr.ext hs.cells (x13.trans x4))
end
end Mi

set_option Elab.async false
set_option linter.all false
set_option maxRecDepth 100000
set_option maxHeartbeats 4000000
/-! Mi23: pairs and triples of names, +=, append. -/
namespace Mi
open PySem PySem.Spec PyProof.Rows L2 GenW

theorem star_fun : (fun e : Expr => match e with | .Starred .. => true | _ => false) = isStar := by
  funext e
  cases e <;> rfl
theorem blockK {env : PySem.Env} (hk : env.scope.kind = .function) : env.blockKind = .function := by
  unfold Env.blockKind
  rw [hk]; rfl
theorem kindL {env : PySem.Env} {x : Str} (h : env.scope.names.lookup x = some .local) : (env.kindOf x == some NameKind.local) = true := by
  unfold Env.kindOf
  rw [h]; rfl
theorem sw_par2 {x y : Str} {px py pt p2 : Pos} {kt k2 : Nat} {a b : Expr} {env : PySem.Env} (hk : env.scope.kind = .function) (hx : env.scope.names.lookup x = some .local) (hy : env.scope.names.lookup y = some .local)
    (hl : (py.line == px.line) = true) (hxy : x ≠ y) (hst : [a, b].any isStar = false) (hf : [a, b].all (foldedForSure 8) = false) (hc : [a, b].all (constantsAlone 8) = false) :
    swappedStores [.Tuple [.Name x px, .Name y py] kt pt] (.Tuple [a, b] k2 p2) env = pure (some [x, y]) := by
  have hst2 : ([a, b].any fun e => match e with | .Starred .. => true | _ => false) = false := by rw [star_fun]; exact hst
  have hd : ([x, y].eraseDups.length != [x, y].length) = false := by
    have e : (y == x) = false := by simpa using Ne.symm hxy
    simp [List.eraseDups_cons, e, Ne.symm hxy]
  unfold swappedStores
  simp only [hf, hc, blockK hk, List.filterMap_cons, List.filterMap_nil, kindL hx, kindL hy, Expr.pos, List.head?_cons, Option.map_some, Option.getD_some, hl, beq_self_eq_true, Bool.and_true, if_true, Bool.true_and]
  simp only [hd]
  split
  · rename_i z; simp at z
  · split
    · rename_i z
      exact absurd (hst2.symm.trans z) (by decide)
    · rfl
theorem sw_par3 {x y z : Str} {px py pz pt p2 : Pos} {kt k2 : Nat} {a b c : Expr} {env : PySem.Env} (hk : env.scope.kind = .function) (hx : env.scope.names.lookup x = some .local) (hy : env.scope.names.lookup y = some .local) (hz : env.scope.names.lookup z = some .local)
    (hl : (py.line == px.line) = true) (hl2 : (pz.line == px.line) = true) (hxy : x ≠ y) (hxz : x ≠ z) (hyz : y ≠ z) (hst : [a, b, c].any isStar = false) (hf : [a, b, c].all (foldedForSure 8) = false) (hc : [a, b, c].all (constantsAlone 8) = false) :
    swappedStores [.Tuple [.Name x px, .Name y py, .Name z pz] kt pt] (.Tuple [a, b, c] k2 p2) env = pure (some [x, y, z]) := by
  have hst2 : ([a, b, c].any fun e => match e with | .Starred .. => true | _ => false) = false := by rw [star_fun]; exact hst
  have hd : ([x, y, z].eraseDups.length != [x, y, z].length) = false := by
    simp [List.eraseDups_cons, Ne.symm hxy, Ne.symm hxz, Ne.symm hyz]
  unfold swappedStores
  simp only [hf, hc, blockK hk, List.filterMap_cons, List.filterMap_nil, kindL hx, kindL hy, kindL hz, Expr.pos, List.head?_cons, Option.map_some, Option.getD_some, hl, hl2, beq_self_eq_true, Bool.and_true, if_true, Bool.true_and]
  simp only [hd]
  split
  · rename_i z; simp at z
  · split
    · rename_i z
      exact absurd (hst2.symm.trans z) (by decide)
    · rfl
section
variable {W : Wld} {k : Nat} {N : List Str} {sc : Scope} {X : Cx}
theorem st_par2 (C : Cxt W k N sc X) (S : StC sc X) {i j : Nat} {x y : Str} {px py pt p2 pos : Pos} {kt k2 : Nat} {a b : Expr} {env st} {r : Option (List D × Store)} (hi : N[i]? = some x) (hj : N[j]? = some y) (hij : i ≠ j) (hxy : x ≠ y) (hx : sc.names.lookup x = some .local) (hy : sc.names.lookup y = some .local)
    (hl : (py.line == px.line) = true) (hst : [a, b].any isStar = false) (hf : [a, b].all (foldedForSure 8) = false) (hc : [a, b].all (constantsAlone 8) = false) (he : AOk X W.cs [a, b] env st r) :
    SOk X W.cs (.Assign [.Tuple [.Name x px, .Name y py] kt pt] (.Tuple [a, b] k2 p2) pos) env st (match (generalizing := false) r with
    | some (xs, st1) => if [i, j].length = xs.length then some (.nxt (([i, j].zip xs).foldl (fun e p => e.set p.1 (some p.2)) env) st1) else none
    | none => none) := by
  intro fl e m σ H D hs hr hq
  rw [← C.hsc] at hx hy
  cases r with
  | none => cases e
  | some p1 =>
    obtain ⟨xs, st1⟩ := p1
    simp only at e
    split at e
    · rename_i hlen
      cases e
      refine useS (ps_par C.calm (by rw [C.hN]; exact C.nd) (by rw [C.hN]; exact hi) (by rw [C.hN]; exact hj) hij hx hy paA (sw_par2 S.kind hx hy hl hxy hst hf hc) rfl) (he xs _ rfl m σ H _ hs hr fun m1 vs H1 x1 s1 p1 => ?_)
      match xs, hlen, p1, hq with
      | [u, w], _, p1, hq =>
        simp only [Reps] at p1
        obtain ⟨v1, _, rfl, q1, v2, _, rfl, q2, rfl⟩ := p1
        exact ⟨v1, v2, rfl, hq m1 _ H1 x1 s1 (((hr.ext hs.cells x1).set q1).set q2)⟩
    · cases e
theorem st_par3 (C : Cxt W k N sc X) (S : StC sc X) {i j l : Nat} {x y z : Str} {px py pz pt p2 pos : Pos} {kt k2 : Nat} {a b c : Expr} {env st} {r : Option (List D × Store)} (hi : N[i]? = some x) (hj : N[j]? = some y) (hlz : N[l]? = some z) (hij : i ≠ j) (hil : i ≠ l) (hjl : j ≠ l) (hxy : x ≠ y) (hxz : x ≠ z) (hyz : y ≠ z)
    (hx : sc.names.lookup x = some .local) (hy : sc.names.lookup y = some .local) (hz : sc.names.lookup z = some .local)
    (hl : (py.line == px.line) = true) (hl2 : (pz.line == px.line) = true) (hst : [a, b, c].any isStar = false) (hf : [a, b, c].all (foldedForSure 8) = false) (hc : [a, b, c].all (constantsAlone 8) = false) (he : AOk X W.cs [a, b, c] env st r) :
    SOk X W.cs (.Assign [.Tuple [.Name x px, .Name y py, .Name z pz] kt pt] (.Tuple [a, b, c] k2 p2) pos) env st (match (generalizing := false) r with
    | some (xs, st1) => if [i, j, l].length = xs.length then some (.nxt (([i, j, l].zip xs).foldl (fun e p => e.set p.1 (some p.2)) env) st1) else none
    | none => none) := by
  intro fl e m σ H D hs hr hq
  rw [← C.hsc] at hx hy hz
  cases r with
  | none => cases e
  | some p1 =>
    obtain ⟨xs, st1⟩ := p1
    simp only at e
    split at e
    · rename_i hlen
      cases e
      refine useS (ps_par3 C.calm (by rw [C.hN]; exact C.nd) (by rw [C.hN]; exact hi) (by rw [C.hN]; exact hj) (by rw [C.hN]; exact hlz) hij hil hjl hx hy hz paA (sw_par3 S.kind hx hy hz hl hl2 hxy hxz hyz hst hf hc) rfl) (he xs _ rfl m σ H _ hs hr fun m1 vs H1 x1 s1 p1 => ?_)
      match xs, hlen, p1, hq with
      | [u, w, t], _, p1, hq =>
        simp only [Reps] at p1
        obtain ⟨v1, _, rfl, q1, v2, _, rfl, q2, v3, _, rfl, q3, rfl⟩ := p1
        exact ⟨v1, v2, v3, rfl, hq m1 _ H1 x1 s1 ((((hr.ext hs.cells x1).set q1).set q2).set q3)⟩
    · cases e
theorem st_aug (C : Cxt W k N sc X) (S : StC sc X) {i : Nat} {x : Str} {o : BOp} {op : Operator} {e : Expr} {p' pos : Pos} {env st} {re : Option (D × Store)} (hi : N[i]? = some x) (hl : locB sc x = true) (hop : bopB o op = true) (he : EOk X W.cs e env st re) :
    SOk X W.cs (.AugAssign (.Name x p') op e pos) env st (match env[i]? with
    | some (some x) => (match (generalizing := false) re with
      | some (y, st1) => (match (generalizing := false) o, x, y with
        | .add, .int a, .int b => some (.nxt (env.set i (some (.int (a + b)))) st1)
        | .sub, .int a, .int b => some (.nxt (env.set i (some (.int (a - b)))) st1)
        | _, _, _ => none)
      | none => none)
    | _ => none) := by
  intro fl e0 m σ H D hs hr hq
  obtain ⟨h1, h2⟩ := S.sto x hl
  split at e0
  · rename_i dx hx
    obtain ⟨v, hv, rv⟩ := hr.get i dx hx
    cases re with
    | none => cases e0
    | some p1 =>
      obtain ⟨y, st1⟩ := p1
      have intsG : ∀ {f : Int → Int → Int} {a b : Int}, PIp X op (ipI f) → EOk X W.cs e env st (some (.int b, st1)) → v = .int a → FlAft X W.cs m st H D (.nxt (env.set i (some (.int (f a b)))) st1) → tS X (.AugAssign (.Name x p') op e pos) D σ H := by
        intro f a b hip he hva hq
        subst hva
        refine useS (ps_aug (by rw [C.hN]; exact C.nd) (by rw [C.hN]; exact hi) h1 peE hip h2) ⟨.int a, hv, he _ _ rfl m σ H _ hs hr fun m1 v1 H1 x1 s1 p1 => ?_⟩
        simp only [Rep] at p1
        subst p1
        exact ⟨a, b, rfl, rfl, hq m1 _ H1 x1 s1 ((hr.ext hs.cells x1).set (by simp only [Rep]))⟩
      cases o with
      | add =>
        have e : op = .Add := by cases op <;> first | rfl | cases hop
        subst e
        cases dx <;> simp only at e0 <;> try (cases e0; done)
        cases y <;> simp only at e0 <;> try (cases e0; done)
        cases e0
        exact intsG ip_add he (by simpa only [Rep] using rv) hq
      | sub =>
        have e : op = .Sub := by cases op <;> first | rfl | cases hop
        subst e
        cases dx <;> simp only at e0 <;> try (cases e0; done)
        cases y <;> simp only at e0 <;> try (cases e0; done)
        cases e0
        exact intsG ip_sub he (by simpa only [Rep] using rv) hq
      | _ => cases dx <;> cases y <;> (simp only at e0; cases e0)
  · cases e0
theorem st_app (C : Cxt W k N sc X) {i : Nat} {x : Str} {p1 apos cpos pos : Pos} {e : Expr} {env st} {re : Option (D × Store)} (hi : N[i]? = some x) (hv : visB sc x = true) (hp : plainX x = true) (hst : isStar e = false) (hline : (apos.endLine == cpos.line) = true) (he : EOk X W.cs e env st re) :
    SOk X W.cs (.Expr (.Call (.Attribute (.Name x p1) "append" apos) [e] [] cpos) pos) env st (match env[i]? with
    | some (some (.cell n)) => (match st[n]? with
      | some (some _) => (match (generalizing := false) re with
        | some (y, st1) => (match st1[n]? with
          | some (some xs) => if xs.length < sizeLine then some (.nxt env (st1.set n (some (xs ++ [y])))) else none
          | _ => none)
        | none => none)
      | _ => none)
    | _ => none) := by
  intro fl e0 m σ H D hs hr hq
  split at e0
  · rename_i n hx
    split at e0
    · rename_i xs0 hx0
      cases re with
      | none => cases e0
      | some q1 =>
        obtain ⟨y, st1⟩ := q1
        simp only at e0
        split at e0
        · rename_i xs hxs
          split at e0
          · rename_i hz
            cases e0
            obtain ⟨v, hv1, rv⟩ := hr.get i _ hx
            simp only [Rep] at rv
            obtain ⟨a, rfl, ha⟩ := rv
            obtain ⟨pp1, pp2, _⟩ := plainX_ok hp
            obtain ⟨a0, ys0, z1, z2, _⟩ := hs.cell _ _ hx0
            rw [ha] at z1; cases z1
            refine useS (ps_expr (pe_bm PySem.F.plainAttrs_list PySem.F.slot_list_append PySem.F.type_list_append mt_append (pe_var (i := i) (by rw [C.hN]; exact hi) (by rw [C.hsc]; exact visB_ok hv) pp1 pp2) (pa_cons peE pa_nil (starEach_cons hst)) rfl (by rw [starEach_cons hst]; rfl) hline (starEach_cons hst) (by rfl)) rfl) ?_
            refine ⟨.ref a, hv1, .inl ⟨rfl, ys0, .inl (.inl z2)⟩, ?_⟩
            refine he y st1 rfl m σ H _ hs hr fun m1 v1 H1 x1 s1 p1 => ?_
            obtain ⟨a1, ys1, w1, w2, w3⟩ := s1.cell _ _ hxs
            have ha1 := x1.pre _ _ ha
            rw [ha1] at w1; cases w1
            have r2 : Reps X.K m1 (Lv m1 st1) H1 (xs ++ [y]) (ys1 ++ [v1]) := w3.append (by simp only [Reps]; exact ⟨v1, [], rfl, p1, rfl⟩)
            refine ⟨a, ys1, v1, rfl, rfl, w2, by rw [← w3.length]; exact hz, ?_⟩
            have xx := x1.trans (ext_set (K := X.K) (cs := W.cs) (vs := ys1 ++ [v1]) (ys := xs ++ [y]) s1 hxs ha1)
            exact hq m1 σ _ xx (s1.setc hxs ha1 r2) (hr.ext hs.cells xx)
          · cases e0
        · cases e0
    · cases e0
  · cases e0
end
end Mi

set_option Elab.async false
set_option linter.all false
set_option maxRecDepth 100000
set_option maxHeartbeats 4000000
/-! Mi24: the text fits the language: expressions. -/
namespace Mi
open PySem PySem.Spec PyProof.Rows L2 GenW

def genC (scope : Scope) : Bool := decide (scope.kind = .function) && !scope.isCoroutine && scope.names.all (fun y => !decide (y.2 = .cell)) && decide (scope.names.lookup (".0" : Str) = some NameKind.local)
theorem genC_ok {scope : Scope} (h : genC scope = true) : GenSc scope := by
  unfold genC at h
  simp only [Bool.and_eq_true, Bool.not_eq_true', decide_eq_true_eq, List.all_eq_true, decide_eq_false_iff_not] at h
  exact ⟨h.1.1.1, h.1.1.2, h.1.2, h.2⟩
def plainT : Expr → Bool
  | .Name .. => true
  | .Call .. => true
  | .Subscript .. => true
  | _ => false
theorem plainT_ok {e : Expr} {env : PySem.Env} (h : plainT e = true) : ∀ whole, isTrue e env whole = (do let v ← whole; standAt e.pos; holding [v] (truthy v)) := by
  intro whole
  cases e <;> first | rfl | cases h
section
variable (W : Wld) (N : List Str)
def dicB0 : D → Bool
  | .dct ks vs => ks.isEmpty && vs.isEmpty
  | _ => false
theorem dicB0_ok {d : D} (h : dicB0 d = true) : d = .dct [] [] := by
  cases d <;> simp only [dicB0] at h <;> (try (cases h; done))
  simp only [Bool.and_eq_true, List.isEmpty_iff] at h
  rw [h.1, h.2]
def dicB1 (z : Str) (i : Int) : D → Bool
  | .dct [.inr y] [.int j] => decide (y = z) && decide (j = i)
  | _ => false
theorem dicB1_ok {z : Str} {i : Int} {d : D} (h : dicB1 z i d = true) : d = .dct [.inr z] [.int i] := by
  unfold dicB1 at h
  split at h
  · simp only [Bool.and_eq_true, decide_eq_true_eq] at h
    rw [h.1, h.2]
  · cases h
mutual
def okE (g : Bool) (sc : Scope) : IE → Expr → Bool
  | .var i, x => (match x with
    | .Name x _ => decide (N[i]? = some x) && visB sc x && plainX x
    | _ => false)
  | .frz i, x => (match x with
    | .Name x _ => decide (N[i]? = some x) && visB sc x && plainX x
    | _ => false)
  | .cst d, x => (match x with
    | .Constant c _ _ => cstB d c
    | .Dict [] [] _ => dicB0 d
    | .Dict [some (.Constant (.str z) _ _)] [.Constant (.int i) _ _] _ => dicB1 z i d
    | _ => false)
  | .gcn x d, e => (match e with
    | .Name y _ => decide (x = y) && glB sc y && plainX y && W.gc x d
    | _ => false)
  | .tup es, x => (match x with
    | .Tuple xs _ _ => okEs g sc es xs
    | _ => false)
  | .lst es, x => (match x with
    | .List xs _ => okEs g sc es xs
    | _ => false)
  | .ncl es, x => (match x with
    | .List xs _ => okEs g sc es xs
    | _ => false)
  | .bin o a b, x => (match x with
    | .BinOp x op y _ => bopB o op && okE g sc a x && okE g sc b y
    | _ => false)
  | .neg a, x => (match x with
    | .UnaryOp .USub x _ => okE g sc a x
    | _ => false)
  | .cmp o a b, x => (match x with
    | .Compare x [op] [y] _ => copB o op && (!behindInMarks op y) && okE g sc a x && okE g sc b y
    | _ => false)
  | .andv a b, x => (match x with
    | .BoolOp .And (x :: y :: r) pos => okE g sc a x && okE g sc b (.BoolOp .And (y :: r) pos)
    | _ => false)
  | .orv a b, x => (match x with
    | .BoolOp .Or (x :: y :: r) pos => okE g sc a x && okE g sc b (.BoolOp .Or (y :: r) pos)
    | _ => false)
  | .one a, x => (match x with
    | .BoolOp _ [x] _ => okE g sc a x
    | _ => false)
  | .notv a, x => (match x with
    | .UnaryOp .Not x _ => okE g sc a x
    | _ => false)
  | .ife t a b, x => (match x with
    | .IfExp c x y _ => okT g sc t c && okE g sc a x && okE g sc b y
    | _ => false)
  | .call f es, x => (match x with
    | .Call (.Name x _) xs [] _ => decide (W.nm f = some x) && glB sc x && plainX x && okEs g sc es xs
    | _ => false)
  | .callk f es names perm, x => (match x with
    | .Call (.Name x _) [] ks _ => decide (W.nm f = some x) && glB sc x && plainX x && decide (W.kw f names = some perm) && okKs g sc es names ks
    | _ => false)
  | .bi b es, x => (match x with
    | .Call (.Name x _) (y :: ys) [] _ => decide (biN b = x) && glB sc x && (W.mt || !(decide (b = .gcd) || decide (b = .lcm))) && okEs g sc es (y :: ys)
    | _ => false)
  | .isi a t, x => (match x with
    | .Call (.Name x _) [y, .Name z _] [] _ => decide (x = "isinstance") && glB sc x && decide (tyN t = z) && glB sc z && okE g sc a y && !isStar y
    | _ => false)
  | .idx a b, x => (match x with
    | .Subscript x y _ => !isSlice y && okE g sc a x && okE g sc b y
    | _ => false)
  | .slc a lo hi, x => (match x with
    | .Subscript x (.Slice l h none _) _ => okE g sc a x && okO g sc lo l && okO g sc hi h
    | _ => false)
  | .comp elt tg it cond own, x => (match x with
    | .ListComp x [⟨tge, iter, ifs, isA⟩] scope _ => decide (isA = 0) && blkC N sc scope own && tgB scope N tg tge && okI g sc it tge iter && foldB iter && okTo g (relS scope sc) cond ifs && okE g (relS scope sc) elt x
    | _ => false)
  | .gen k elt tg it cond own, x => (match x with
    | .Call (.Name y _) [.GeneratorExp x [⟨tge, iter, ifs, isA⟩] scope _] [] _ => g && decide (gkN k = y) && glB sc y && decide (isA = 0) && blkC N sc scope own && genC scope && tgB scope N tg tge && okI g sc it tge iter && foldB iter && okTo false scope cond ifs && okE false scope elt x
    | _ => false)
def okEs (g : Bool) (sc : Scope) : IEs → List Expr → Bool
  | .nil, xs => xs.isEmpty
  | .cons e es, xs => (match xs with
    | x :: xs => !isStar x && okE g sc e x && okEs g sc es xs
    | [] => false)
def okKs (g : Bool) (sc : Scope) : IEs → List Str → List Keyword → Bool
  | .nil, names, ks => names.isEmpty && ks.isEmpty
  | .cons e es, names, ks => (match names, ks with
    | n :: names, ⟨nm, v, _⟩ :: ks => decide (nm = some n) && okE g sc e v && okKs g sc es names ks
    | _, _ => false)
def okO (g : Bool) (sc : Scope) : IEo → Option Expr → Bool
  | .none, x => x.isNone
  | .some e, x => (match x with
    | some x => okE g sc e x
    | none => false)
def okT (g : Bool) (sc : Scope) : IT → Expr → Bool
  | .val e, x => okE g sc e x && plainT x
  | .cmp o a b, x => (match x with
    | .Compare x [op] [y] _ => copB o op && (!behindInMarks op y) && okE g sc a x && okE g sc b y
    | _ => false)
  | .and a b, x => (match x with
    | .BoolOp .And (x :: y :: r) pos => okT g sc a x && okT g sc b (.BoolOp .And (y :: r) pos) && okBn b
    | _ => false)
  | .or a b, x => (match x with
    | .BoolOp .Or (x :: y :: r) pos => okT g sc a x && okT g sc b (.BoolOp .Or (y :: r) pos) && okBn b
    | _ => false)
  | .one a, x => (match x with
    | .BoolOp _ [x] _ => okT g sc a x
    | _ => false)
  | .not a, x => (match x with
    | .UnaryOp .Not x _ => okT g sc a x
    | _ => false)
def okBn : IT → Bool
  | .and _ _ => true
  | .or _ _ => true
  | .one _ => true
  | _ => false
def okTo (g : Bool) (sc : Scope) : ITo → List Expr → Bool
  | .none, xs => xs.isEmpty
  | .some t, xs => (match xs with
    | [x] => okT g sc t x
    | _ => false)
def okI (g : Bool) (sc : Scope) : II → Expr → Expr → Bool
  | .seq e, _, x => okE g sc e x
  | .rng e, _, x => (match x with
    | .Call (.Name y _) [x] [] _ => decide (y = "range") && glB sc y && !isStar x && okE g sc e x
    | _ => false)
  | .rng2 a b, _, x => (match x with
    | .Call (.Name y _) [x, z] [] _ => decide (y = "range") && glB sc y && !isStar x && !isStar z && okE g sc a x && okE g sc b z
    | _ => false)
  | .zip a b, tge, x => (match tge, x with
    | .Tuple _ _ _, .Call (.Name y _) [x, z] [] _ => decide (y = "zip") && glB sc y && !isStar x && !isStar z && okE g sc a x && okE g sc b z
    | _, _ => false)
  | .zip3 a b c, tge, x => (match tge, x with
    | .Tuple _ _ _, .Call (.Name y _) [x, z, u] [] _ => decide (y = "zip") && glB sc y && !isStar x && !isStar z && !isStar u && okE g sc a x && okE g sc b z && okE g sc c u
    | _, _ => false)
  | .enum a, tge, x => (match tge, x with
    | .Tuple _ _ _, .Call (.Name y _) [x] [] _ => decide (y = "enumerate") && glB sc y && !isStar x && okE g sc a x
    | _, _ => false)
end
end
end Mi

set_option Elab.async false
set_option linter.all false
set_option maxRecDepth 100000
set_option maxHeartbeats 4000000
/-! Mi25: what fits is right: expressions. -/
namespace Mi
open PySem PySem.Spec PyProof.Rows L2 GenW

section
variable {W : Wld} {k : Nat} {N : List Str}
theorem noStars_of {g : Bool} {sc : Scope} : ∀ {es : IEs} {xs : List Expr}, okEs W N g sc es xs = true → noStars xs = true
  | .nil, xs, h => by
    simp only [okEs, List.isEmpty_iff] at h
    subst h; rfl
  | .cons e es, xs, h => by
    simp only [okEs] at h
    split at h
    · rename_i x xs
      simp only [Bool.and_eq_true, Bool.not_eq_true'] at h
      simp only [noStars, Bool.and_eq_true, Bool.not_eq_true']
      exact ⟨h.1.1, noStars_of h.2⟩
    · cases h
theorem nil_of {g : Bool} {sc : Scope} {c : CallT} {env : Env} {st : Store} : ∀ {es : IEs} {xs : List Expr}, okEs W N g sc es xs = true → xs = [] → evEs c env es st = some ([], st)
  | .nil, xs, h, _ => rfl
  | .cons e es, xs, h, e0 => by
    subst e0
    simp only [okEs] at h
    cases h
def lenEs : IEs → Nat
  | .nil => 0
  | .cons _ es => lenEs es + 1
theorem evEs_len {c : CallT} {env : Env} : ∀ {es : IEs} {st : Store} {ds : List D} {st' : Store}, evEs c env es st = some (ds, st') → ds.length = lenEs es
  | .nil, st, ds, st', h => by simp only [evEs] at h; cases h; rfl
  | .cons e es, st, ds, st', h => by
    simp only [evEs] at h
    split at h
    · split at h
      · rename_i h2
        cases h
        rw [List.length_cons, evEs_len h2]; rfl
      · cases h
    · cases h
theorem ks_names {g : Bool} {sc : Scope} : ∀ {es : IEs} {names : List Str} {ks : List Keyword}, okKs W N g sc es names ks = true → ks.map (·.arg) = names.map some ∧ lenEs es = names.length
  | .nil, names, ks, h => by
    simp only [okKs, Bool.and_eq_true, List.isEmpty_iff] at h
    obtain ⟨rfl, rfl⟩ := h
    exact ⟨rfl, rfl⟩
  | .cons e es, names, ks, h => by
    simp only [okKs] at h
    split at h
    · simp only [Bool.and_eq_true, decide_eq_true_eq] at h
      obtain ⟨z1, z2⟩ := ks_names h.2
      exact ⟨by rw [List.map_cons, List.map_cons, z1, h.1.1], by rw [lenEs, z2, List.length_cons]⟩
    · cases h
mutual
theorem snd_E : ∀ (e : IE) (x : Expr) (g : Bool) (sc : Scope) (X : Cx), okE W N g sc e x = true → Cxt W k N sc X → (g = true → GenCx W k X) → ∀ env st, EOk X W.cs x env st (evE (callF W.T W.F k) env e st)
  | .var i, x, g, sc, X, h, C, G, env, st => by
    simp only [okE] at h
    split at h
    · simp only [Bool.and_eq_true, decide_eq_true_eq] at h
      exact s_var C h.1.1 h.1.2 h.2
    · cases h
  | .frz i, x, g, sc, X, h, C, G, env, st => by
    simp only [okE] at h
    split at h
    · simp only [Bool.and_eq_true, decide_eq_true_eq] at h
      exact s_frz C h.1.1 h.1.2 h.2
    · cases h
  | .cst d, x, g, sc, X, h, C, G, env, st => by
    simp only [okE] at h
    split at h
    · exact s_cst h
    · rw [dicB0_ok h]
      exact s_dic0
    · rw [dicB1_ok h]
      exact s_dic1
    · cases h
  | .gcn y d, x, g, sc, X, h, C, G, env, st => by
    simp only [okE] at h
    split at h
    · simp only [Bool.and_eq_true, decide_eq_true_eq] at h
      obtain ⟨⟨⟨rfl, h1⟩, h2⟩, h3⟩ := h
      exact s_gcn C h1 h2 h3
    · cases h
  | .tup es, x, g, sc, X, h, C, G, env, st => by
    simp only [okE] at h
    split at h
    · exact s_tup (snd_Es es _ g sc X h C G env st)
    · cases h
  | .lst es, x, g, sc, X, h, C, G, env, st => by
    simp only [okE] at h
    split at h
    · exact s_lst (snd_Es es _ g sc X h C G env st)
    · cases h
  | .ncl es, x, g, sc, X, h, C, G, env, st => by
    simp only [okE] at h
    split at h
    · exact s_ncl (snd_Es es _ g sc X h C G env st)
    · cases h
  | .bin o a b, x, g, sc, X, h, C, G, env, st => by
    simp only [okE] at h
    split at h
    · simp only [Bool.and_eq_true] at h
      exact s_bin h.1.1 (snd_E a _ g sc X h.1.2 C G env st) (fun st1 => snd_E b _ g sc X h.2 C G env st1)
    · cases h
  | .neg a, x, g, sc, X, h, C, G, env, st => by
    simp only [okE] at h
    split at h
    · exact s_neg (snd_E a _ g sc X h C G env st)
    · cases h
  | .cmp o a b, x, g, sc, X, h, C, G, env, st => by
    simp only [okE] at h
    split at h
    · simp only [Bool.and_eq_true, Bool.not_eq_true'] at h
      exact s_cmp C h.1.1.1 h.1.1.2 (snd_E a _ g sc X h.1.2 C G env st) (fun st1 => snd_E b _ g sc X h.2 C G env st1)
    · cases h
  | .andv a b, x, g, sc, X, h, C, G, env, st => by
    simp only [okE] at h
    split at h
    · simp only [Bool.and_eq_true] at h
      exact s_andv (snd_E a _ g sc X h.1 C G env st) (fun st1 => snd_E b _ g sc X h.2 C G env st1)
    · cases h
  | .orv a b, x, g, sc, X, h, C, G, env, st => by
    simp only [okE] at h
    split at h
    · simp only [Bool.and_eq_true] at h
      exact s_orv (snd_E a _ g sc X h.1 C G env st) (fun st1 => snd_E b _ g sc X h.2 C G env st1)
    · cases h
  | .one a, x, g, sc, X, h, C, G, env, st => by
    simp only [okE] at h
    split at h
    · exact s_one (snd_E a _ g sc X h C G env st)
    · cases h
  | .notv a, x, g, sc, X, h, C, G, env, st => by
    simp only [okE] at h
    split at h
    · exact s_notv (snd_E a _ g sc X h C G env st)
    · cases h
  | .ife t a b, x, g, sc, X, h, C, G, env, st => by
    simp only [okE] at h
    split at h
    · simp only [Bool.and_eq_true] at h
      exact s_ife (snd_T t _ g sc X h.1.1 C G env st).1 (fun st1 => snd_E a _ g sc X h.1.2 C G env st1) (fun st1 => snd_E b _ g sc X h.2 C G env st1)
    · cases h
  | .call f es, x, g, sc, X, h, C, G, env, st => by
    simp only [okE] at h
    split at h
    · simp only [Bool.and_eq_true, decide_eq_true_eq] at h
      exact s_call C h.1.1.1 h.1.1.2 h.1.2 (noStars_of h.2) (fun e => nil_of h.2 e) (snd_Es es _ g sc X h.2 C G env st)
    · cases h
  | .callk f es names perm, x, g, sc, X, h, C, G, env, st => by
    simp only [okE] at h
    split at h
    · simp only [Bool.and_eq_true, decide_eq_true_eq] at h
      obtain ⟨n1, n2⟩ := ks_names h.2
      exact s_callk C h.1.1.1.1 h.1.1.1.2 h.1.1.2 h.1.2 n1 (fun ds st' e => by rw [evEs_len e, n2]) (snd_Ks es names _ g sc X h.2 C G env st)
    · cases h
  | .bi b es, x, g, sc, X, h, C, G, env, st => by
    simp only [okE] at h
    split at h
    · simp only [Bool.and_eq_true, decide_eq_true_eq] at h
      obtain ⟨⟨⟨h1, h2⟩, h3⟩, h4⟩ := h
      refine s_bi C h1 h2 (noStars_of h4) (fun hb => ?_) (snd_Es es _ g sc X h4 C G env st)
      subst h1
      rcases hb with rfl | rfl
      · exact C.mdl.gcd (by simpa using h3)
      · exact C.mdl.lcm (by simpa using h3)
    · cases h
  | .isi a t, x, g, sc, X, h, C, G, env, st => by
    simp only [okE] at h
    split at h
    · simp only [Bool.and_eq_true, decide_eq_true_eq, Bool.not_eq_true'] at h
      obtain ⟨⟨⟨⟨⟨h1, h2⟩, h3⟩, h4⟩, h5⟩, h6⟩ := h
      exact s_isi C h1 h3 h2 h4 h6 (snd_E a _ g sc X h5 C G env st)
    · cases h
  | .idx a b, x, g, sc, X, h, C, G, env, st => by
    simp only [okE] at h
    split at h
    · simp only [Bool.and_eq_true, Bool.not_eq_true'] at h
      exact s_idx h.1.1 (snd_E a _ g sc X h.1.2 C G env st) (fun st1 => snd_E b _ g sc X h.2 C G env st1)
    · cases h
  | .slc a lo hi, x, g, sc, X, h, C, G, env, st => by
    simp only [okE] at h
    split at h
    · simp only [Bool.and_eq_true] at h
      exact s_slc (snd_E a _ g sc X h.1.1 C G env st) (fun st1 => snd_O lo _ g sc X h.1.2 C G env st1) (fun st1 => snd_O hi _ g sc X h.2 C G env st1)
    · cases h
  | .comp elt tg it cond own, x, g, sc, X, h, C, G, env, st => by
    simp only [okE] at h
    split at h
    · simp only [Bool.and_eq_true, decide_eq_true_eq] at h
      obtain ⟨⟨⟨⟨⟨⟨rfl, h2⟩, h3⟩, h4⟩, h5⟩, h6⟩, h7⟩ := h
      exact s_comp C (blkOk_by h2) (snd_I it _ _ g sc X h4 C G env st) h5 (fun G' CG SG GG => ⟨tg_ok CG SG h3, fun env st => snd_To cond _ g _ G' h6 CG (fun e => GG (G e)) env st, fun env st => snd_E elt _ g _ G' h7 CG (fun e => GG (G e)) env st⟩)
    · cases h
  | .gen gk elt tg it cond own, x, g, sc, X, h, C, G, env, st => by
    simp only [okE] at h
    split at h
    · simp only [Bool.and_eq_true, decide_eq_true_eq] at h
      obtain ⟨⟨⟨⟨⟨⟨⟨⟨⟨⟨hg, h0⟩, h1⟩, rfl⟩, h2⟩, hgc⟩, h3⟩, h4⟩, h5⟩, h6⟩, h7⟩ := h
      exact s_gen C (G hg) h0 h1 (blkOk_by h2) (genC_ok hgc) (snd_I it _ _ g sc X h4 C G env st) h5 (fun G' CG SG => ⟨tg_ok CG SG h3, fun env st => snd_To cond _ false _ G' h6 CG (fun e => by cases e) env st, fun env st => snd_E elt _ false _ G' h7 CG (fun e => by cases e) env st⟩)
    · cases h
theorem snd_Es : ∀ (es : IEs) (xs : List Expr) (g : Bool) (sc : Scope) (X : Cx), okEs W N g sc es xs = true → Cxt W k N sc X → (g = true → GenCx W k X) → ∀ env st, AOk X W.cs xs env st (evEs (callF W.T W.F k) env es st)
  | .nil, xs, g, sc, X, h, C, G, env, st => by
    simp only [okEs, List.isEmpty_iff] at h
    subst h
    exact s_anil
  | .cons e es, xs, g, sc, X, h, C, G, env, st => by
    simp only [okEs] at h
    split at h
    · simp only [Bool.and_eq_true, Bool.not_eq_true'] at h
      exact s_acons h.1.1 (snd_E e _ g sc X h.1.2 C G env st) (fun st1 => snd_Es es _ g sc X h.2 C G env st1)
    · cases h
theorem snd_Ks : ∀ (es : IEs) (names : List Str) (ks : List Keyword) (g : Bool) (sc : Scope) (X : Cx), okKs W N g sc es names ks = true → Cxt W k N sc X → (g = true → GenCx W k X) → ∀ env st, KOk X W.cs ks env st (evEs (callF W.T W.F k) env es st)
  | .nil, names, ks, g, sc, X, h, C, G, env, st => by
    simp only [okKs, Bool.and_eq_true, List.isEmpty_iff] at h
    obtain ⟨rfl, rfl⟩ := h
    exact k_nil
  | .cons e es, names, ks, g, sc, X, h, C, G, env, st => by
    simp only [okKs] at h
    split at h
    · simp only [Bool.and_eq_true] at h
      exact k_cons (snd_E e _ g sc X h.1.2 C G env st) (fun st1 => snd_Ks es _ _ g sc X h.2 C G env st1)
    · cases h
theorem snd_O : ∀ (o : IEo) (x : Option Expr) (g : Bool) (sc : Scope) (X : Cx), okO W N g sc o x = true → Cxt W k N sc X → (g = true → GenCx W k X) → ∀ env st, OOk X W.cs x env st (evO (callF W.T W.F k) env o st)
  | .none, x, g, sc, X, h, C, G, env, st => by
    simp only [okO, Option.isNone_iff_eq_none] at h
    subst h
    exact o_none
  | .some e, x, g, sc, X, h, C, G, env, st => by
    simp only [okO] at h
    split at h
    · exact o_some (snd_E e _ g sc X h C G env st)
    · cases h
theorem snd_T : ∀ (t : IT) (x : Expr) (g : Bool) (sc : Scope) (X : Cx), okT W N g sc t x = true → Cxt W k N sc X → (g = true → GenCx W k X) → ∀ env st, TOk X W.cs x env st (evT (callF W.T W.F k) env t st) ∧ (okBn W N t = true → WOk X W.cs x env st (evT (callF W.T W.F k) env t st))
  | .val e, x, g, sc, X, h, C, G, env, st => by
    simp only [okT, Bool.and_eq_true] at h
    exact ⟨t_val (plainT_ok h.2) (snd_E e _ g sc X h.1 C G env st), fun z => by cases z⟩
  | .cmp o a b, x, g, sc, X, h, C, G, env, st => by
    simp only [okT] at h
    split at h
    · simp only [Bool.and_eq_true, Bool.not_eq_true'] at h
      exact ⟨t_cmp C h.1.1.1 h.1.1.2 (snd_E a _ g sc X h.1.2 C G env st) (fun st1 => snd_E b _ g sc X h.2 C G env st1), fun z => by cases z⟩
    · cases h
  | .and a b, x, g, sc, X, h, C, G, env, st => by
    simp only [okT] at h
    split at h
    · simp only [Bool.and_eq_true] at h
      have w : WOk X W.cs _ env st (evT (callF W.T W.F k) env (.and a b) st) := w_and (snd_T a _ g sc X h.1.1 C G env st).1 (fun st1 => (snd_T b _ g sc X h.1.2 C G env st1).2 h.2)
      exact ⟨t_of_w w, fun _ => w⟩
    · cases h
  | .or a b, x, g, sc, X, h, C, G, env, st => by
    simp only [okT] at h
    split at h
    · simp only [Bool.and_eq_true] at h
      have w : WOk X W.cs _ env st (evT (callF W.T W.F k) env (.or a b) st) := w_or (snd_T a _ g sc X h.1.1 C G env st).1 (fun st1 => (snd_T b _ g sc X h.1.2 C G env st1).2 h.2)
      exact ⟨t_of_w w, fun _ => w⟩
    · cases h
  | .one a, x, g, sc, X, h, C, G, env, st => by
    simp only [okT] at h
    split at h
    · rename_i op x p
      have w : WOk X W.cs (.BoolOp op [x] p) env st (evT (callF W.T W.F k) env (.one a) st) := by
        cases op
        · exact w_and1 (snd_T a _ g sc X h C G env st).1
        · exact w_or1 (snd_T a _ g sc X h C G env st).1
      exact ⟨t_of_w w, fun _ => w⟩
    · cases h
  | .not a, x, g, sc, X, h, C, G, env, st => by
    simp only [okT] at h
    split at h
    · exact ⟨t_not (snd_T a _ g sc X h C G env st).1, fun z => by cases z⟩
    · cases h
theorem snd_To : ∀ (t : ITo) (xs : List Expr) (g : Bool) (sc : Scope) (X : Cx), okTo W N g sc t xs = true → Cxt W k N sc X → (g = true → GenCx W k X) → ∀ env st, TsOk X W.cs xs env st (evTo (callF W.T W.F k) env t st)
  | .none, xs, g, sc, X, h, C, G, env, st => by
    simp only [okTo, List.isEmpty_iff] at h
    subst h
    exact ts_none
  | .some t, xs, g, sc, X, h, C, G, env, st => by
    simp only [okTo] at h
    split at h
    · exact ts_some (snd_T t _ g sc X h C G env st).1
    · cases h
theorem snd_I : ∀ (i : II) (tge x : Expr) (g : Bool) (sc : Scope) (X : Cx), okI W N g sc i tge x = true → Cxt W k N sc X → (g = true → GenCx W k X) → ∀ env st, IOk X W.cs tge x env st (evI (callF W.T W.F k) env i st)
  | .seq e, tge, x, g, sc, X, h, C, G, env, st => by
    simp only [okI] at h
    exact i_seq (snd_E e _ g sc X h C G env st)
  | .rng e, tge, x, g, sc, X, h, C, G, env, st => by
    simp only [okI] at h
    split at h
    · simp only [Bool.and_eq_true, decide_eq_true_eq, Bool.not_eq_true'] at h
      obtain ⟨⟨⟨rfl, h1⟩, h2⟩, h3⟩ := h
      exact i_rng C h1 h2 (snd_E e _ g sc X h3 C G env st)
    · cases h
  | .rng2 a b, tge, x, g, sc, X, h, C, G, env, st => by
    simp only [okI] at h
    split at h
    · simp only [Bool.and_eq_true, decide_eq_true_eq, Bool.not_eq_true'] at h
      obtain ⟨⟨⟨⟨⟨rfl, h1⟩, h2⟩, h3⟩, h4⟩, h5⟩ := h
      exact i_rng2 C h1 h2 h3 (snd_E a _ g sc X h4 C G env st) (fun st1 => snd_E b _ g sc X h5 C G env st1)
    · cases h
  | .zip a b, tge, x, g, sc, X, h, C, G, env, st => by
    simp only [okI] at h
    split at h
    · simp only [Bool.and_eq_true, decide_eq_true_eq, Bool.not_eq_true'] at h
      obtain ⟨⟨⟨⟨⟨rfl, h1⟩, h2⟩, h3⟩, h4⟩, h5⟩ := h
      exact i_zip C h1 h2 h3 (snd_E a _ g sc X h4 C G env st) (fun st1 => snd_E b _ g sc X h5 C G env st1)
    · cases h
  | .zip3 a b c, tge, x, g, sc, X, h, C, G, env, st => by
    simp only [okI] at h
    split at h
    · simp only [Bool.and_eq_true, decide_eq_true_eq, Bool.not_eq_true'] at h
      obtain ⟨⟨⟨⟨⟨⟨⟨rfl, h1⟩, h2⟩, h3⟩, h4⟩, h5⟩, h6⟩, h7⟩ := h
      exact i_zip3 C h1 h2 h3 h4 (snd_E a _ g sc X h5 C G env st) (fun st1 => snd_E b _ g sc X h6 C G env st1) (fun st2 => snd_E c _ g sc X h7 C G env st2)
    · cases h
  | .enum a, tge, x, g, sc, X, h, C, G, env, st => by
    simp only [okI] at h
    split at h
    · simp only [Bool.and_eq_true, decide_eq_true_eq, Bool.not_eq_true'] at h
      obtain ⟨⟨⟨rfl, h1⟩, h2⟩, h3⟩ := h
      exact i_enum C h1 h2 (snd_E a _ g sc X h3 C G env st)
    · cases h
end
end
end Mi

set_option Elab.async false
set_option linter.all false
set_option maxRecDepth 100000
set_option maxHeartbeats 4000000
/-! Mi26: what fits is right: statements. -/
namespace Mi
open PySem PySem.Spec PyProof.Rows L2 GenW

def swOk (es : List Expr) (v : Expr) : Bool := match v with
  | .Tuple vs _ _ => !(es.length == 2 || es.length == 3) || (!(vs.any isStar) && vs.all (foldedForSure 8))
  | _ => true
theorem swOk_ok {es : List Expr} {kk : Nat} {tp : Pos} {v : Expr} {env : PySem.Env} (h : swOk es v = true) : swappedStores [.Tuple es kk tp] v env = pure none := by
  cases v <;> try (exact sw_none rfl)
  rename_i vs k2 p2
  simp only [swOk, Bool.or_eq_true, Bool.not_eq_true', Bool.and_eq_true] at h
  rcases h with h | h
  · exact sw_none4 h
  · exact sw_noneC h.1 h.2
def locD (sc : Scope) (x : Str) : Bool := decide (sc.names.lookup x = some .local)
def nonL (sc : Scope) : Expr → Bool
  | .Name x _ => !locD sc x
  | _ => true
def swOkL (sc : Scope) (es : List Expr) (v : Expr) : Bool := swOk es v || es.any (nonL sc)
theorem sw_noneL {ts vs : List Expr} {kk k2 : Nat} {tp p2 : Pos} {env : PySem.Env} (h : ts.any (nonL env.scope) = true) : swappedStores [.Tuple ts kk tp] (.Tuple vs k2 p2) env = pure none := by
  have key : ∀ f : Expr → Option Str, (∀ x, nonL env.scope x = true → f x = none) → ((ts.filterMap f).length != ts.length) = true := by
    intro f hf
    rw [bne_iff_ne]
    intro e
    obtain ⟨x, hx, hn⟩ := List.any_eq_true.mp h
    have hall := List.filterMap_length_eq_length.mp e x hx
    rw [hf x hn] at hall
    cases hall
  unfold swappedStores
  dsimp only
  split
  · rfl
  · split
    · rfl
    · rw [key _ (fun x hx => by
        cases x <;> try rfl
        rename_i id pos
        simp only [nonL, locD, Bool.not_eq_true', decide_eq_false_iff_not] at hx
        have hk : (env.kindOf id == some NameKind.local) = false := by
          show (env.scope.names.lookup id == some NameKind.local) = false
          exact beq_eq_false_iff_ne.mpr hx
        simp only [hk, Bool.false_and]
        rfl)]
      rfl
theorem swOkL_ok {sc : Scope} {es : List Expr} {kk : Nat} {tp : Pos} {v : Expr} {env : PySem.Env} (hsc : env.scope = sc) (h : swOkL sc es v = true) : swappedStores [.Tuple es kk tp] v env = pure none := by
  subst hsc
  simp only [swOkL, Bool.or_eq_true] at h
  rcases h with h | h
  · exact swOk_ok h
  · cases v <;> try (exact sw_none rfl)
    exact sw_noneL h
section
variable (W : Wld) (N : List Str)
def okTs (g : Bool) (sc : Scope) : List Tgt → List Expr → Bool
  | [], [] => true
  | .nm i :: ts, e :: es => nmB sc N i e && okTs g sc ts es
  | .sub o ix :: ts, .Subscript x y _ :: es => !isSlice y && okE W N g sc o x && okE W N g sc ix y && okTs g sc ts es
  | _, _ => false
def okAsg (g : Bool) (sc : Scope) (e : IE) (p' : Pos) (v : Expr) : Bool :=
  match e, v with
  | .comp elt tg it cond own, .ListComp x [⟨tge, iter, ifs, isA⟩] scope _ => decide (isA = 0) && blkC N sc scope own && tgB scope N tg tge && okI W N g sc it tge iter && foldB iter && okTo W N g (relS scope sc) cond ifs && okE W N g (relS scope sc) elt x
  | e, v => notLc v && okE W N g sc e v
mutual
def okS (g : Bool) (sc : Scope) : IS → Stmt → Bool
  | .asg i e, s => (match s with
    | .Assign [.Name x p'] v _ => decide (N[i]? = some x) && locB sc x && okAsg W N g sc e p' v
    | _ => false)
  | .asgT ts e, s => (match s with
    | .Assign [.Tuple es _ _] v _ => es.all isTg && okTs W N g sc ts es && decide (es.length = ts.length) && swOkL sc es v && okE W N g sc e v
    | _ => false)
  | .asgP is es, s => (match s with
    | .Assign [.Tuple [.Name x px, .Name y py] _ _] (.Tuple [a, b] _ _) _ => (match is with
      | [i, j] => decide (N[i]? = some x) && decide (N[j]? = some y) && decide (i ≠ j) && decide (x ≠ y) && locD sc x && locD sc y && (py.line == px.line) && !([a, b].any isStar) && !([a, b].all (foldedForSure 8)) && !([a, b].all (constantsAlone 8)) && okEs W N g sc es [a, b]
      | _ => false)
    | .Assign [.Tuple [.Name x px, .Name y py, .Name z pz] _ _] (.Tuple [a, b, c] _ _) _ => (match is with
      | [i, j, l] => decide (N[i]? = some x) && decide (N[j]? = some y) && decide (N[l]? = some z) && decide (i ≠ j) && decide (i ≠ l) && decide (j ≠ l) && decide (x ≠ y) && decide (x ≠ z) && decide (y ≠ z) && locD sc x && locD sc y && locD sc z && (py.line == px.line) && (pz.line == px.line) &&
          !([a, b, c].any isStar) && !([a, b, c].all (foldedForSure 8)) && !([a, b, c].all (constantsAlone 8)) && okEs W N g sc es [a, b, c]
      | _ => false)
    | _ => false)
  | .asgS o ix e, s => (match s with
    | .Assign [.Subscript x y _] v _ => !isSlice y && okE W N g sc e v && okE W N g sc o x && okE W N g sc ix y
    | _ => false)
  | .aug i o e, s => (match s with
    | .AugAssign (.Name x _) op v _ => decide (N[i]? = some x) && locB sc x && bopB o op && okE W N g sc e v
    | _ => false)
  | .app i e, s => (match s with
    | .Expr (.Call (.Attribute (.Name x _) nm apos) [y] [] cpos) _ => decide (nm = "append") && decide (N[i]? = some x) && visB sc x && plainX x && !isStar y && (apos.endLine == cpos.line) && okE W N g sc e y
    | _ => false)
  | .expr e, s => (match s with
    | .Expr v _ => notLc v && okE W N g sc e v
    | _ => false)
  | .ret e, s => (match s with
    | .Return (some v) _ => okE W N g sc e v
    | _ => false)
  | .retN, s => (match s with
    | .Return none _ => true
    | _ => false)
  | .pass, s => (match s with
    | .Pass _ => true
    | .Expr (.Constant (.str _) _ _) _ => true
    | _ => false)
  | .brk, s => (match s with
    | .Break _ => true
    | _ => false)
  | .cnt, s => (match s with
    | .Continue _ => true
    | _ => false)
  | .rse, _ => true
  | .ite t a b, s => (match s with
    | .If c p q _ => okT W N g sc t c && okSs g sc a p && okSs g sc b q
    | _ => false)
  | .forr tg it b, s => (match s with
    | .For tge iter body [] _ => tgB sc N tg tge && okI W N g sc it tge iter && foldSB iter && okSs g sc b body
    | _ => false)
  | .whl t b, s => (match s with
    | .While c body [] _ => okT W N g sc t c && okSs g sc b body
    | _ => false)
def okSs (g : Bool) (sc : Scope) : ISs → List Stmt → Bool
  | .nil, xs => xs.isEmpty
  | .cons s r, xs => (match xs with
    | x :: xs => okS g sc s x && okSs g sc r xs
    | [] => false)
end
end
section
variable {W : Wld} {k : Nat} {N : List Str}
theorem snd_Ts {g : Bool} {sc : Scope} {X : Cx} (C : Cxt W k N sc X) (S : StC sc X) (G : g = true → GenCx W k X) : ∀ {ts : List Tgt} {es : List Expr}, okTs W N g sc ts es = true → GsOk X W.cs es (callF W.T W.F k) ts
  | [], [], _ => gs_nil
  | [], _ :: _, h => by simp [okTs] at h
  | .nm i :: ts, [], h => by simp [okTs] at h
  | .sub o ix :: ts, [], h => by simp [okTs] at h
  | .tp l :: ts, es, h => by simp [okTs] at h
  | .nm i :: ts, e :: es, h => by
    simp only [okTs, Bool.and_eq_true] at h
    exact gs_nm C S h.1 (snd_Ts C S G h.2)
  | .sub o ix :: ts, e :: es, h => by
    cases e <;> simp only [okTs, Bool.false_eq_true, Bool.and_eq_true, Bool.not_eq_true'] at h
    exact gs_sub C h.1.1.1 (fun env st => snd_E o _ g sc X h.1.1.2 C G env st) (fun env st => snd_E ix _ g sc X h.1.2 C G env st) (snd_Ts C S G h.2)
theorem snd_asg {g : Bool} {sc : Scope} {X : Cx} (C : Cxt W k N sc X) (S : StC sc X) (G : g = true → GenCx W k X) {i : Nat} {e : IE} {x : Str} {p' pos : Pos} {v : Expr} {env : Env} {st : Store} (hi : N[i]? = some x) (hl : locB sc x = true) (h : okAsg W N g sc e p' v = true) :
    SOk X W.cs (.Assign [.Name x p'] v pos) env st (evS (callF W.T W.F k) W.F (.asg i e) env st) := by
  unfold okAsg at h
  split at h
  · simp only [Bool.and_eq_true, decide_eq_true_eq] at h
    obtain ⟨⟨⟨⟨⟨⟨rfl, h2⟩, h3⟩, h4⟩, h5⟩, h6⟩, h7⟩ := h
    rename_i elt tg it cond own x' tge iter ifs scope lpos
    exact st_asgLc C S hi hl (blkOk_by h2) (snd_I it _ _ g sc X h4 C G env st) h5 (fun G' CG SG GG => ⟨tg_ok CG SG h3, fun env st => snd_To cond _ g _ G' h6 CG (fun e => GG (G e)) env st, fun env st => snd_E elt _ g _ G' h7 CG (fun e => GG (G e)) env st⟩)
  · simp only [Bool.and_eq_true] at h
    exact st_asg C S hi hl (swaps_no h.1) (snd_E e _ g sc X h.2 C G env st)
theorem st_never {X : Cx} {cs : List (Addr × Addr)} {s : Stmt} {env : Env} {st : Store} : SOk X cs s env st none := fun _ e => by cases e
mutual
theorem snd_S : ∀ (s : IS) (x : Stmt) (g : Bool) (sc : Scope) (X : Cx), okS W N g sc s x = true → Cxt W k N sc X → StC sc X → (g = true → GenCx W k X) → ∀ env st, SOk X W.cs x env st (evS (callF W.T W.F k) W.F s env st)
  | .asg i e, x, g, sc, X, h, C, S, G, env, st => by
    simp only [okS] at h
    split at h
    · simp only [Bool.and_eq_true, decide_eq_true_eq] at h
      exact snd_asg C S G h.1.1 h.1.2 h.2
    · cases h
  | .asgT ts e, x, g, sc, X, h, C, S, G, env, st => by
    simp only [okS] at h
    split at h
    · simp only [Bool.and_eq_true, decide_eq_true_eq] at h
      exact st_asgT C h.1.1.1.1 (swOkL_ok C.hsc h.1.2) (snd_E e _ g sc X h.2 C G env st) (snd_Ts C S G h.1.1.1.2) h.1.1.2
    · cases h
  | .asgP is es, x, g, sc, X, h, C, S, G, env, st => by
    simp only [okS] at h
    split at h
    · split at h
      · simp only [Bool.and_eq_true, decide_eq_true_eq, Bool.not_eq_true', locD] at h
        obtain ⟨⟨⟨⟨⟨⟨⟨⟨⟨⟨h1, h2⟩, h3⟩, h4⟩, h5⟩, h6⟩, h7⟩, h8⟩, h9⟩, h10⟩, h11⟩ := h
        exact st_par2 C S h1 h2 h3 h4 h5 h6 h7 h8 h9 h10 (snd_Es es _ g sc X h11 C G env st)
      · cases h
    · split at h
      · simp only [Bool.and_eq_true, decide_eq_true_eq, Bool.not_eq_true', locD] at h
        obtain ⟨⟨⟨⟨⟨⟨⟨⟨⟨⟨⟨⟨⟨⟨⟨⟨⟨h1, h2⟩, h3⟩, h4⟩, h5⟩, h6⟩, h7⟩, h8⟩, h9⟩, h10⟩, h11⟩, h12⟩, h13⟩, h14⟩, h15⟩, h16⟩, h17⟩, h18⟩ := h
        exact st_par3 C S h1 h2 h3 h4 h5 h6 h7 h8 h9 h10 h11 h12 h13 h14 h15 h16 h17 (snd_Es es _ g sc X h18 C G env st)
      · cases h
    · cases h
  | .asgS o ix e, x, g, sc, X, h, C, S, G, env, st => by
    simp only [okS] at h
    split at h
    · simp only [Bool.and_eq_true, Bool.not_eq_true'] at h
      exact st_asgS C h.1.1.1 (snd_E e _ g sc X h.1.1.2 C G env st) (fun env st => snd_E o _ g sc X h.1.2 C G env st) (fun env st => snd_E ix _ g sc X h.2 C G env st)
    · cases h
  | .aug i o e, x, g, sc, X, h, C, S, G, env, st => by
    simp only [okS] at h
    split at h
    · simp only [Bool.and_eq_true, decide_eq_true_eq] at h
      exact st_aug C S h.1.1.1 h.1.1.2 h.1.2 (snd_E e _ g sc X h.2 C G env st)
    · cases h
  | .app i e, x, g, sc, X, h, C, S, G, env, st => by
    simp only [okS] at h
    split at h
    · simp only [Bool.and_eq_true, decide_eq_true_eq, Bool.not_eq_true'] at h
      obtain ⟨⟨⟨⟨⟨⟨rfl, h1⟩, h2⟩, h3⟩, h4⟩, h5⟩, h6⟩ := h
      exact st_app C h1 h2 h3 h4 h5 (snd_E e _ g sc X h6 C G env st)
    · cases h
  | .expr e, x, g, sc, X, h, C, S, G, env, st => by
    simp only [okS] at h
    split at h
    · simp only [Bool.and_eq_true] at h
      exact st_expr h.1 (snd_E e _ g sc X h.2 C G env st)
    · cases h
  | .ret e, x, g, sc, X, h, C, S, G, env, st => by
    simp only [okS] at h
    split at h
    · exact st_ret (snd_E e _ g sc X h C G env st)
    · cases h
  | .retN, x, g, sc, X, h, C, S, G, env, st => by
    simp only [okS] at h
    split at h
    · exact st_retN
    · cases h
  | .pass, x, g, sc, X, h, C, S, G, env, st => by
    simp only [okS] at h
    split at h
    · exact st_pass
    · exact st_doc
    · cases h
  | .brk, x, g, sc, X, h, C, S, G, env, st => by
    simp only [okS] at h
    split at h
    · exact st_brk
    · cases h
  | .cnt, x, g, sc, X, h, C, S, G, env, st => by
    simp only [okS] at h
    split at h
    · exact st_cnt
    · cases h
  | .rse, x, g, sc, X, h, C, S, G, env, st => st_never
  | .ite t a b, x, g, sc, X, h, C, S, G, env, st => by
    simp only [okS] at h
    split at h
    · simp only [Bool.and_eq_true] at h
      exact st_if (snd_T t _ g sc X h.1.1 C G env st).1 (fun st1 => snd_Ss a _ g sc X h.1.2 C S G env st1) (fun st1 => snd_Ss b _ g sc X h.2 C S G env st1)
    · cases h
  | .forr tg it b, x, g, sc, X, h, C, S, G, env, st => by
    simp only [okS] at h
    split at h
    · simp only [Bool.and_eq_true] at h
      exact st_for C S (snd_I it _ _ g sc X h.1.1.2 C G env st) h.1.2 (tg_ok C S.sto h.1.1.1) (fun env' st' => snd_Ss b _ g sc X h.2 C S G env' st')
    · cases h
  | .whl t b, x, g, sc, X, h, C, S, G, env, st => by
    simp only [okS] at h
    split at h
    · simp only [Bool.and_eq_true] at h
      exact st_while S (fun env st => (snd_T t _ g sc X h.1 C G env st).1) (fun env' st' => snd_Ss b _ g sc X h.2 C S G env' st')
    · cases h
theorem snd_Ss : ∀ (s : ISs) (xs : List Stmt) (g : Bool) (sc : Scope) (X : Cx), okSs W N g sc s xs = true → Cxt W k N sc X → StC sc X → (g = true → GenCx W k X) → ∀ env st, SsOk X W.cs xs env st (evSs (callF W.T W.F k) W.F s env st)
  | .nil, xs, g, sc, X, h, C, S, G, env, st => by
    simp only [okSs, List.isEmpty_iff] at h
    subst h
    exact ss_nil
  | .cons s r, xs, g, sc, X, h, C, S, G, env, st => by
    simp only [okSs] at h
    split at h
    · simp only [Bool.and_eq_true] at h
      exact ss_cons (snd_S s _ g sc X h.1 C S G env st) (fun env' st' => snd_Ss r _ g sc X h.2 C S G env' st')
    · cases h
end
end
end Mi

set_option Elab.async false
set_option linter.all false
set_option maxRecDepth 100000
set_option maxHeartbeats 4000000
/-! Mi27: a def keeps what its program gives. -/
namespace Mi
open PySem PySem.Spec PyProof.Rows L2 GenW

section
variable {W : Wld} {P : Program} {w : World} {K : PySem.W.Frag} {mg : Str → Option Value} {base : Heap} {k : Nat}
def CXn : CXT := fun _ _ _ _ _ _ => False
def En : XK := fun _ _ _ => False
theorem envR_start {m : List Addr} {st : Store} {H : Hp} {ds : List D} {vs : List V} {n j : Nat} (r : Reps K m (Lv m st) H ds vs) (hn : n = ds.length) : EnvR K m st H (ds.map some ++ List.replicate (j - n) none) (vs.map some ++ List.replicate (j - vs.length) none) := by
  have hl := r.length
  refine ⟨by simp; omega, fun i d e => ?_⟩
  by_cases hi : i < ds.length
  · rw [List.getElem?_append_left (by simpa using hi), List.getElem?_map] at e
    cases q : ds[i]? with
    | none => rw [q] at e; cases e
    | some d' =>
      rw [q] at e; cases e
      obtain ⟨y, y1, y2⟩ := r.get q
      refine ⟨y, ?_, y2⟩
      rw [List.getElem?_append_left (by simp; omega), List.getElem?_map, y1]; rfl
  · rw [List.getElem?_append_right (by simp; omega), List.getElem?_replicate] at e
    split at e <;> cases e
theorem fnG_of {f : Nat} {a : Addr} {fd : FuncData} {ps N : List Str} {d : Def} {x qual : Str} {params : Arguments} {body : List Stmt} {scope : Scope} {dvs : List V} {kws : List (Str × V)} {g : Bool} (F : FunD K x qual params body scope dvs kws a fd) (S : FnScope N ps scope)
    (hT : W.T f = some d) (hnp : d.np = ps.length) (hnm : d.names.length = N.length) (hok : okSs W N g scope d.body body = true) (hgen : g = true → ∀ c, fd.code = .ref c → ∃ T, GxR.TabB base mg c T ∧ (c, T) ∈ W.cs)
    (M : ∀ X : Cx, X.prog = P → X.w = w → X.K = K → X.mg = mg → X.base = base → Mdl W k X) : FnG P w K mg base (k + 1) a fd ps (spOf W.T W.F K W.cs (k + 1) f) := by
  obtain ⟨oc, od, dV, kV, doc, pm, an, cdv, ct, osl, rfl, lk, hcd, _, _⟩ := F.ex
  have hlen : ∀ vs H Q, spOf W.T W.F K W.cs (k + 1) f vs H Q → vs.length = ps.length := by
    intro vs H Q ⟨m, st, ds, d0, st', hs, hr, hc, _⟩
    have hc : (match W.T f with
      | some d => runD (callF W.T W.F k) W.F d ds st
      | none => none) = some (d0, st') := hc
    rw [hT] at hc
    simp only [runD] at hc
    split at hc
    · rename_i h1
      rw [← hr.length, h1.1, hnp]
    · cases hc
  refine ⟨hlen, fun A outer s H args us vs Q hr hg e0 hb r hsp => ?_⟩
  have hl := hlen _ _ _ hsp
  obtain ⟨m, st, ds, d0, st', hs, hrs, hc, hq⟩ := hsp
  have hc : (match W.T f with
    | some d => runD (callF W.T W.F k) W.F d ds st
    | none => none) = some (d0, st') := hc
  rw [hT] at hc
  simp only [runD] at hc
  split at hc
  · rename_i hnn
    have KX : K.In s.heap := e0.mod.kin.keeps fun b o e => (e0.bs b o e).1
    have lim : s.heap.NoLimit := e0.mod.nolimit.keeps fun b o e => (e0.bs b o e).1
    have hkind : ∀ y ∈ ps.zip us, scope.names.lookup y.1 = some .local ∨ (scope.names.lookup y.1 = some .cell ∧ ((cellsFrom (s.heap.objs.size + 1) scope.names []).lookup y.1).isSome = true) := fun ⟨n, v⟩ hy => by
      rcases S.par n (List.of_mem_zip hy).1 with q | q
      · exact .inl q
      · exact .inr ⟨q, PySem.W.cellsFrom_some _ _ _ (.inl q)⟩
    refine codeAny_call_function (by have := hr.dp; omega) (KX _ _ lk) rfl S.co S.gen rfl (PySem.W.codeRec_of KX hcd) (hb _ _ _ _ ?_)
    refine wpAny_newFunctionEnv_cells S.kind hkind fun env he s1 x => ?_
    subst he
    refine ⟨lim.keeps x.toInCall.keep, codeAny_func ?_⟩
    have I0 : Inv (cxOf CXn P w K mg base N qual scope a cdv A outer s H En) [] (start N vs) H s1 := inv_start S hr.hd e0 hl r x
    have I : Inv (cxOf CXn P w K mg base N qual scope a cdv A outer s H En).nox [] (start N vs) H s1 := I0.wish _
    have C : Cxt W k N scope (cxOf CXn P w K mg base N qual scope a cdv A outer s H En).nox := ⟨rfl, rfl, S.nd, rfl, hr.deeper _, hg, M _ rfl rfl rfl rfl rfl⟩
    have SC0 : StC scope (cxOf CXn P w K mg base N qual scope a cdv A outer s H En).nox := ⟨S.kind, rfl, fun y hy => ⟨locB_ok hy, .inl rfl⟩⟩
    have GC : g = true → GenCx W k (cxOf CXn P w K mg base N qual scope a cdv A outer s H En).nox := fun hg1 => by
      refine ⟨⟨?_, ?_⟩, ?_⟩
      · have := hr.dp
        show A.depth + 1 + 3 * k + 7 < _
        omega
      · have := hr.un
        show A.units + 3 + 16 * k + 212 < _
        omega
      · have hcr : ∃ c, cdv = .ref c := by
          cases cdv with
          | ref c => exact ⟨c, rfl⟩
          | _ => cases hcd
        obtain ⟨c, rfl⟩ := hcr
        obtain ⟨T, t1, t2⟩ := hgen hg1 c rfl
        exact ⟨c, T, t1, rfl, t2⟩
    have er : EnvR K m st H (ds.map some ++ List.replicate (d.names.length - d.np) none) (start N vs) := by
      have := envR_start (j := d.names.length) hrs hnn.1.symm
      rw [hnm] at this ⊢
      exact this
    cases hfl : evSs (callF W.T W.F k) W.F d.body (ds.map some ++ List.replicate (d.names.length - d.np) none) st with
    | none => rw [hfl] at hc; cases hc
    | some fl =>
      rw [hfl] at hc
      have fin : ∀ {m1 : List Addr} {st1 : Store} {H1 : Hp} {dd : D} {v : V}, cutD st.length dd st1 = some (d0, st') → Ext m st H m1 st1 H1 → SC K W.cs m1 st1 H1 → Rep K m1 (Lv m1 st1) H1 dd v → Q v H1 := by
        intro m1 st1 H1 dd v h1 h2 h3 h4
        obtain ⟨e1, m2, z1, z2, z3⟩ := cut_ok h1 hs.len h2 h3 h4
        subst e1
        exact hq m2 v H1 z1 z2 z3
      have run := snd_Ss d.body body g scope (cxOf CXn P w K mg base N qual scope a cdv A outer s H En).nox hok C SC0 GC _ st fl hfl m (start N vs) H { nx := fun _ H' => Q .non H', rt := Q } hs er (by
        cases fl with
        | nxt env' st1 => exact fun m' σ' H' h1 h2 h3 => fin hc h1 h2 (by simp only [Rep])
        | ret dd st1 => exact fun m' v H' h1 h2 h3 => fin hc h1 h2 h3
        | brk env' st1 => cases hc
        | cnt env' st1 => cases hc) [] s1 I
      refine wpAny_mono run (fun fl' s' hs' => ?_) fun e s' hs' => False.elim hs'
      cases fl' with
      | ret u =>
        obtain ⟨v, σ', H', J, rv, q⟩ := hs'
        exact ⟨u, rfl, v, H', J.os, J.bare, J.base, J.hok, rv, q⟩
      | next =>
        obtain ⟨σ', H', J, q⟩ := hs'
        exact ⟨.none, rfl, .non, H', J.os, J.bare, J.base, J.hok, rfl, q⟩
      | brk => obtain ⟨_, _, _, q⟩ := hs'; exact False.elim q
      | cont => obtain ⟨_, _, _, q⟩ := hs'; exact False.elim q
  · cases hc
end
end Mi

set_option Elab.async false
set_option linter.all false
set_option maxRecDepth 100000
set_option maxHeartbeats 4000000
/-! Mi28: the whole program; a law's end. -/
namespace Mi
open PySem PySem.Spec PyProof.Rows L2 GenW

/-- a program whose defs fit the language -/
structure Sys (W : Wld) (P : Program) (w : World) (K : PySem.W.Frag) (mg : Str → Option Value) (base : Heap) : Prop where
  free : ∀ x ∈ (["len", "abs", "int", "max", "min", "repr", "str", "divmod", "tuple", "list", "sum", "all", "any", "isinstance", "bool", "range", "zip", "enumerate"] : List Str), mg x = none
  gcd : W.mt = true → mg "gcd" = some (.builtin "math.gcd")
  lcm : W.mt = true → mg "lcm" = some (.builtin "math.lcm")
  gcs : ∀ x d, W.gc x d = true → ∃ u v, mg x = some u ∧ RelV v u ∧ ∀ m L H, Rep K m L H d v
  defs : ∀ f x, W.nm f = some x → ∃ (a : Addr) (fd : FuncData) (ps N : List Str) (d : Def) (y qual : Str) (params : Arguments) (body : List Stmt) (scope : Scope) (dvs : List V) (kws : List (Str × V)) (g : Bool),
    FunD K y qual params body scope dvs kws a fd ∧ FnScope N ps scope ∧ W.T f = some d ∧ d.np = ps.length ∧ d.names.length = N.length ∧ okSs W N g scope d.body body = true ∧ (g = true → ∀ c, fd.code = .ref c → ∃ T, GxR.TabB base mg c T ∧ (c, T) ∈ W.cs) ∧
    mg x = some (.ref a) ∧ Binds K fd ps [] ∧ ∀ names perm, W.kw f names = some perm → KwB K fd ps names perm
section
variable {W : Wld} {P : Program} {w : World} {K : PySem.W.Frag} {mg : Str → Option Value} {base : Heap}
theorem Sys.level (S : Sys W P w K mg base) (k : Nat) : ∀ (f : Nat) (x : Str), W.nm f = some x → ∃ a fd ps, mg x = some (.ref a) ∧ PySem.W.keepIn K (.ref a) = true ∧ FnG P w K mg base k a fd ps (spOf W.T W.F K W.cs k f) ∧ Binds K fd ps [] ∧ ∀ names perm, W.kw f names = some perm → KwB K fd ps names perm := by
  induction k with
  | zero =>
    intro f x h
    obtain ⟨a, fd, ps, N, d, y, qual, params, body, scope, dvs, kws, g, F, FS, hT, hnp, hnm, hok, hg, hm, hb⟩ := S.defs f x h
    have no : ∀ {vs H Q}, spOf W.T W.F K W.cs 0 f vs H Q → False := fun ⟨m, st, ds, d, st', _, _, hc, _⟩ => by cases hc
    exact ⟨a, fd, ps, hm, F.kp, ⟨fun vs H Q h => (no h).elim, fun A ar s H args us vs Q _ _ _ _ _ h => (no h).elim⟩, hb⟩
  | succ k ih =>
    intro f x h
    obtain ⟨a, fd, ps, N, d, y, qual, params, body, scope, dvs, kws, g, F, FS, hT, hnp, hnm, hok, hg, hm, hb⟩ := S.defs f x h
    refine ⟨a, fd, ps, hm, F.kp, fnG_of F FS hT hnp hnm hok hg fun X e1 e2 e3 e4 e5 => ?_, hb⟩
    subst e1 e2 e3 e4 e5
    exact ⟨S.free, S.gcd, S.lcm, fun f x h => ih f x h, S.gcs⟩
/-- the law's call on a script -/
theorem law_go {k f : Nat} {fa a : Addr} {mb : Str → Option Value} {s₁ : Shared} {vs : List Value} {ns : List Int} {stF : Store}
    (KX : K.In s₁.heap) (hns : s₁.heap.Ns mainGlobals mg) (hb : s₁.heap.Ns builtinsNs mb) (hbb : ∀ x : Str, x ≠ "__name__" → mb x = bootBuiltins x) (hlim : s₁.heap.NoLimit) (hg : s₁.gens = #[])
    (hT : ∀ p ∈ W.cs, s₁.heap.get? p.2 = some { cls := .none, data := .fields #[] }) (nT : ∀ p ∈ W.cs, K.lookup p.2 = none) (hC : ∀ p ∈ W.cs, PySem.W.CodeHd s₁.heap p.1 p.2)
    (hbm : ∃ (bm : Addr) (ob : Obj), mg "__builtins__" = some (.ref bm) ∧ bm ≠ builtinsNs ∧ s₁.heap.get? bm = some ob ∧ ob.cls = .type "module" ∧ ob.dict = some builtinsNs ∧ ob.data = .plain)
    (ha : s₁.heap.get? a = some { cls := .type "list", data := .seq vs.toArray }) (hi : IntsAre vs ns) (hl : ns.length ≤ sizeLine) (hr : Room k callerA)
    (F : ∀ base : Heap, K.In base → base.Ns mainGlobals mg → (∀ p ∈ W.cs, GxR.TabB base mg p.1 p.2) → ∃ fd ps, FnG P w K mg base k fa fd ps (spOf W.T W.F K W.cs k f) ∧ Binds K fd ps [])
    (hval : callF W.T W.F k f [.scr (ns.map D.int)] [] = some (.bl true, stF)) :
    codeAny (model P w) callerA (.call (.ref fa) ⟨[.ref a], []⟩) (fun r s' => r = .ok (.ret (.bool true)) ∧ OldK s₁.heap s'.heap ∧ s'.os = s₁.os ∧ AllBare s'.gens) s₁ := by
  have rv := vals_ints hi
  have lenV := hi.length
  have tabAt : ∀ b, b ∈ W.cs.map (·.2) → s₁.heap.get? b = some { cls := .none, data := .fields #[] } ∧ K.lookup b = none := fun b hb => by
    obtain ⟨p, hp, rfl⟩ := List.mem_map.mp hb
    exact ⟨hT p hp, nT p hp⟩
  have aOut : a ∉ W.cs.map (·.2) := fun z => by
    have q := (tabAt a z).1
    rw [ha] at q
    cases congrArg Obj.data (Option.some.inj q)
  have inT : ∀ p ∈ W.cs, p.2 ∈ W.cs.map (·.2) := fun p hp => List.mem_map.mpr ⟨p, hp, rfl⟩
  -- the abstract heap: the tables, the script where the written part lacks it
  obtain ⟨H, hHt, hHa, hHo, hHn⟩ : ∃ H : Hp, (∀ b ∈ W.cs.map (·.2), H b = some (.tbl #[])) ∧ (K.lookup a = none → H a = some (.frz { cls := .type "list", data := .seq vs.toArray } (.lst (ns.map V.int)))) ∧ (K.lookup a ≠ none → H a = none) ∧ (∀ b, b ∉ W.cs.map (·.2) → b ≠ a → H b = none) := by
    refine ⟨fun b => if b ∈ W.cs.map (·.2) then some (.tbl #[]) else if b = a ∧ (K.lookup a).isNone = true then some (.frz { cls := .type "list", data := .seq vs.toArray } (.lst (ns.map V.int))) else none, fun b hb => if_pos hb, fun h => ?_, fun h => ?_, fun b h1 h2 => ?_⟩
    · show (if a ∈ _ then _ else _) = _
      rw [if_neg aOut, if_pos ⟨rfl, by rw [h]; rfl⟩]
    · show (if a ∈ _ then _ else _) = _
      rw [if_neg aOut, if_neg (fun z => by
        cases q : K.lookup a with
        | none => exact h q
        | some o => rw [q] at z; cases z.2)]
    · show (if b ∈ _ then _ else _) = _
      rw [if_neg h1, if_neg (fun z => h2 z.1)]
  have cases3 : ∀ b u, H b = some u → (b ∈ W.cs.map (·.2) ∧ u = .tbl #[]) ∨ (b = a ∧ K.lookup a = none ∧ u = .frz { cls := .type "list", data := .seq vs.toArray } (.lst (ns.map V.int))) := fun b u e => by
    by_cases h1 : b ∈ W.cs.map (·.2)
    · rw [hHt b h1] at e; cases e; exact .inl ⟨h1, rfl⟩
    · by_cases h2 : b = a
      · subst h2
        by_cases h3 : K.lookup b = none
        · rw [hHa h3] at e; cases e; exact .inr ⟨rfl, h3, rfl⟩
        · rw [hHo h3] at e; cases e
      · rw [hHn b h1 h2] at e; cases e
  -- objects of no such kind are not tracked
  have untr : ∀ {b : Addr} {o : Obj}, s₁.heap.get? b = some o → (∀ vs n, o.data ≠ .seq vs n) → o.data ≠ .fields #[] → H b = none := fun {b o} e h1 h2 => by
    cases q : H b with
    | none => rfl
    | some u =>
      rcases cases3 b u q with ⟨e', _⟩ | ⟨rfl, _⟩
      · rw [(tabAt b e').1] at e; cases e; exact (h2 rfl).elim
      · rw [ha] at e; cases e; exact (h1 _ _ rfl).elim
  have dic : ∀ {b : Addr} {m : Str → Option Value}, s₁.heap.Ns b m → (hidT s₁.heap H).Ns b m := fun {b m} ⟨o, es, ep, e, d, r⟩ =>
    ⟨o, es, ep, hidT_get e (untr e (fun vs n z => by rw [d] at z; cases z) (fun z => by rw [d] at z; cases z)), d, r⟩
  have hKb : K.In (hidT s₁.heap H) := fun b o e => hidT_get (KX b o e) (by
    cases q : H b with
    | none => rfl
    | some u =>
      rcases cases3 b u q with ⟨e', _⟩ | ⟨rfl, e', _⟩
      · rw [(tabAt b e').2] at e; cases e
      · rw [e'] at e; cases e)
  have hM : L2.Mod K mg (hidT s₁.heap H) := ⟨hKb, dic hns, ⟨mb, dic hb, hbb⟩, let ⟨mc, h1, h2⟩ := hlim; ⟨mc, dic h1, h2⟩⟩
  have TB : ∀ p ∈ W.cs, GxR.TabB (hidT s₁.heap H) mg p.1 p.2 := fun p hp => by
    obtain ⟨gm, es, ep, e1, e2, _⟩ := hns
    refine ⟨?_, ?_, fun z => ?_⟩
    · obtain ⟨o, us, file, tf, flags, tg, inF, text, tt, c1, c2, c3, c4, c5⟩ := hC p hp
      refine ⟨o, us, file, tf, flags, tg, inF, text, tt, hidT_get c1 (untr c1 (fun vs n z => ?_) fun z => ?_), c2, c3, c4, c5⟩
      · rw [c3] at z; cases z
      · rw [c3] at z; cases z; simp at c4
    · obtain ⟨bm, ob, b1, b2, b3, b4, b5, b6⟩ := hbm
      refine ⟨bm, ob, b1, b2, fun q => ?_, fun q => ?_, hidT_get b3 (untr b3 (fun vs n z => ?_) fun z => ?_), b4, b5, b6⟩
      · rw [q, e1] at b3; cases b3; rw [e2] at b6; cases b6
      · rw [q, hT p hp] at b3; cases b3; cases b6
      · rw [b6] at z; cases z
      · rw [b6] at z; cases z
    · rw [z, hT p hp] at e1; cases e1; cases e2
  have hok : HOk P w H s₁.heap := fun b u e => by
    rcases cases3 b u e with ⟨e', rfl⟩ | ⟨rfl, _, rfl⟩
    · exact (tabAt b e').1
    · exact ⟨ha, by rw [List.length_map]; exact hl, vs, _, rv, ha⟩
  have e0 : Env0 P w K mg (hidT s₁.heap H) callerA [] s₁ H := ⟨rfl, hM, fun b o e => of_hidT e, Nat.le_of_eq (hidT_size _ _), trivial, fun b hb => absurd (show b ∈ ([] : List Addr) from hb) (by simp), hok, .of_eq hg⟩
  have hSC : SC K W.cs [] [] H := ⟨rfl, fun n xs e => by simp at e, fun i j a xs ys e => by simp at e, fun p hp => ⟨#[], hHt _ (inT p hp), trivial⟩⟩
  have hInts : Reps K [] (Lv [] []) H (ns.map D.int) (ns.map V.int) := by
    clear hval hi rv lenV hl hHa cases3 hok
    induction ns with
    | nil => simp [Reps]
    | cons n ns ih => simp only [List.map_cons, Reps, Rep]; exact ⟨_, _, rfl, rfl, ih⟩
  have hrep : Reps K [] (Lv [] []) H [D.scr (ns.map D.int)] [.ref a] := by
    simp only [Reps, Rep]
    refine ⟨.ref a, [], rfl, ⟨a, ns.map V.int, rfl, ?_, hInts⟩, rfl⟩
    cases q : K.lookup a with
    | none => exact .inl ⟨_, hHa q⟩
    | some o =>
      have e := KX a o q
      rw [ha] at e; cases e
      exact .inr (.inr ⟨_, vs.toArray, _, q, rfl, rfl, rfl, by rw [List.size_toArray, lenV]; exact hl, by simpa using rv⟩)
  obtain ⟨fd, ps, FF, hbd⟩ := F _ hKb (dic hns) TB
  have hsp : spOf W.T W.F K W.cs k f [.ref a] H (fun v _ => v = .bl true) := ⟨[], [], _, _, stF, hSC, hrep, hval, fun m' v H' _ _ r => by simpa only [Rep] using r⟩
  have hbind := hbd s₁ [.ref a] KX (by simpa using FF.len _ _ _ hsp)
  rw [List.append_nil] at hbind
  refine codeAny_mono (FF.go callerA [] s₁ H ⟨[.ref a], []⟩ [.ref a] [.ref a] (fun v _ => v = .bl true) hr rfl e0 hbind (.cons rfl .nil) hsp) fun r s' h => ?_
  obtain ⟨u, rfl, v, H', os, bare, un, hok', r', q'⟩ := h
  subst q'
  obtain rfl : u = Value.bool true := r'
  have still : ∀ b o, b ∉ W.cs.map (·.2) → s₁.heap.get? b = some o → s'.heap.get? b = some o := fun b o nb e => by
    cases q : H b with
    | none => exact un.keep b o e q (by intro z; exact absurd (show b ∈ ([] : List Addr) from z) (by simp)) (by simp)
    | some u =>
      rcases cases3 b u q with ⟨e', _⟩ | ⟨rfl, _, rfl⟩
      · exact absurd e' nb
      · have z2 := un.frzs b _ _ q
        obtain ⟨e1, _⟩ := hok b _ q
        obtain ⟨e2, _⟩ := hok' b _ z2
        rw [e] at e1; cases e1
        exact e2
  refine ⟨rfl, ⟨fun b o e => ?_, fun b o e => ?_⟩, os, bare⟩
  · by_cases hbt : b ∈ W.cs.map (·.2)
    · obtain ⟨p, hp, rfl⟩ := List.mem_map.mp hbt
      obtain ⟨more, z⟩ := un.tbls p.2 #[] (hHt _ hbt)
      have hm := hok' p.2 _ z
      rw [hT p hp] at e
      cases e
      exact .inr (.inl ⟨((hC p hp).tab (hT p hp)).isCodeTable, rfl, #[], more, rfl, hm⟩)
    · exact .inl (still b o hbt e)
  · by_cases hbt : b ∈ W.cs.map (·.2)
    · obtain ⟨more, z⟩ := un.tbls b #[] (hHt _ hbt)
      exact ⟨_, hok' b _ z⟩
    · exact ⟨o, still b o hbt e⟩
end
end Mi

set_option Elab.async false
set_option linter.all false
set_option maxRecDepth 100000
set_option maxHeartbeats 4000000
/-! Mi29: the head's word gives a fitting program. -/
namespace Mi
open PySem PySem.Spec PyProof.Rows L2 GenW

section
variable {fa : List He.Fa} {fn : List He.DefD} {ts : List He.Tab} {tf : List He.Defn} {ex : PySem.W.Frag → Bool} {w : World} {h base : Heap} {K : PySem.W.Frag} {mg : Str → Option Value} {W : Wld}
/-- what Sys wants of one def -/
def DefAt (W : Wld) (K : PySem.W.Frag) (mg : Str → Option Value) (base : Heap) (f : Nat) (x : Str) : Prop :=
  ∃ (a : Addr) (fd : FuncData) (ps N : List Str) (d : Def) (y qual : Str) (params : Arguments) (body : List Stmt) (scope : Scope) (dvs : List V) (kws : List (Str × V)) (g : Bool),
    FunD K y qual params body scope dvs kws a fd ∧ FnScope N ps scope ∧ W.T f = some d ∧ d.np = ps.length ∧ d.names.length = N.length ∧ okSs W N g scope d.body body = true ∧ (g = true → ∀ c, fd.code = .ref c → ∃ T, GxR.TabB base mg c T ∧ (c, T) ∈ W.cs) ∧
    mg x = some (.ref a) ∧ Binds K fd ps [] ∧ ∀ names perm, W.kw f names = some perm → KwB K fd ps names perm
theorem def_at (SX : He.SaysX fa fn ts tf ex w h K) (X : K.In h) (G : h.Ns mainGlobals mg) (hcs : W.cs = tf.map (He.cT K)) (TB : ∀ p ∈ W.cs, GxR.TabB base mg p.1 p.2) (j f : Nat) (d : He.DefD) (di : Def) (ps : List Str) (g : Bool)
    (hd : fn[j]? = some d) (hat : d.at_ = (d.name, none)) (hdf : d.dfl = []) (hglo : He.Fa.glo d.name ∈ fa) (hsc : C8.scC di.names ps d.scope = true) (hT : W.T f = some di) (hnp : di.np = ps.length) (hok : okSs W di.names g d.scope di.body d.body = true) (hg : g = true → (d.name, none) ∈ tf)
    (hb : ∀ (kV doc pm : Value) (an : Option Addr) (cdv ct : Value) (us : List Value), us.length = ps.length → bindArgs (PySem.W.fnOf d.name d.qual d.params d.body d.scope .none kV doc pm an cdv ct) ⟨us, []⟩ = pure (ps.zip us))
    (hk : ∀ names perm, W.kw f names = some perm → ∀ (kV doc pm : Value) (an : Option Addr) (cdv ct : Value) (us zs : List Value), perm.mapM (fun i => us[i]?) = some zs → us.length = names.length → zs.length = ps.length →
      bindArgs (PySem.W.fnOf d.name d.qual d.params d.body d.scope .none kV doc pm an cdv ct) ⟨[], names.zip us⟩ = pure (ps.zip zs)) : DefAt W K mg base f d.name := by
  obtain ⟨fd, F⟩ := SX.t.d.def_ j hd
  have e1 : He.fAd K d.at_ = He.ga K d.name := by rw [hat]; rfl
  have hdv : d.dvs K = [] := by unfold He.DefD.dvs; rw [hdf]; rfl
  have F' := F
  rw [hdv] at F
  refine ⟨He.fAd K d.at_, fd, ps, di.names, di, d.name, d.qual, d.params, d.body, d.scope, [], d.kws K, g, F, C8.fnScope_by hsc, hT, hnp, rfl, hok, fun hg1 c hc => ?_, ?_, F.bindsN hb, fun names perm hkw s us zs KI h1 h2 h3 => ?_⟩
  · obtain ⟨oc, od, dV, kV, doc, pm, an, cdv, ct, osl, e, lk, hcd, _, _⟩ := F.ex
    have ec : He.codeOf K d.at_ = c := He.codeOf_eq lk hc
    have hin : (c, He.tabOf K c) ∈ W.cs := by
      rw [hcs]
      refine List.mem_map.mpr ⟨(d.name, none), hg hg1, ?_⟩
      show (He.codeOf K (d.name, none), He.tabOf K (He.codeOf K (d.name, none))) = _
      rw [← hat, ec]
    exact ⟨_, TB _ hin, hin⟩
  · rw [e1]
    exact He.glo_ok X G (SX.t.d.facts hglo)
  · obtain ⟨oc, od, dV, kV, doc, pm, an, cdv, ct, osl, rfl, lk, hcd, hD, _⟩ := F.ex
    rcases hD with ⟨_, rfl⟩ | ⟨e, _⟩
    · exact .of_eq (hk names perm hkw kV doc pm an cdv ct us zs h1 h2 h3)
    · exact absurd rfl e
theorem sys_of {P : Program} (SX : He.SaysX fa fn ts tf ex w h K) (X : K.In h) (G : h.Ns mainGlobals mg) (hfree : ∀ x ∈ (["len", "abs", "int", "max", "min", "repr", "str", "divmod", "tuple", "list", "sum", "all", "any", "isinstance", "bool", "range", "zip", "enumerate"] : List Str), mg x = none)
    (hgcd : W.mt = true → mg "gcd" = some (.builtin "math.gcd")) (hlcm : W.mt = true → mg "lcm" = some (.builtin "math.lcm")) (hgc : ∀ x d, W.gc x d = true → ∃ u v, mg x = some u ∧ RelV v u ∧ ∀ m L H, Rep K m L H d v)
    (hdefs : ∀ f x, W.nm f = some x → DefAt W K mg base f x) : Sys W P w K mg base := ⟨hfree, hgcd, hlcm, hgc, hdefs⟩
end
end Mi

set_option Elab.async false
set_option linter.all false
set_option maxRecDepth 100000
set_option maxHeartbeats 4000000
/-! Mi30: a module's constants. -/
namespace Mi
open PySem PySem.Spec PyProof.Rows L2 GenW

mutual
/-- the same numbers and tuples -/
def dB : D → D → Bool
  | .int i, y => (match y with
    | .int j => decide (i = j)
    | _ => false)
  | .tup xs, y => (match y with
    | .tup ys => dBs xs ys
    | _ => false)
  | _, _ => false
def dBs : List D → List D → Bool
  | [], ys => ys.isEmpty
  | x :: xs, ys => (match ys with
    | y :: ys => dB x y && dBs xs ys
    | [] => false)
end
mutual
theorem dB_eq : ∀ {x y : D}, dB x y = true → x = y
  | .int i, y, h => by
    simp only [dB] at h
    split at h
    · rw [of_decide_eq_true h]
    · cases h
  | .tup xs, y, h => by
    simp only [dB] at h
    split at h
    · rw [dBs_eq h]
    · cases h
  | .non, _, h => by simp [dB] at h
  | .bl _, _, h => by simp [dB] at h
  | .str _, _, h => by simp [dB] at h
  | .lst _, _, h => by simp [dB] at h
  | .scr _, _, h => by simp [dB] at h
  | .cell _, _, h => by simp [dB] at h
  | .dct _ _, _, h => by simp [dB] at h
theorem dBs_eq : ∀ {xs ys : List D}, dBs xs ys = true → xs = ys
  | [], ys, h => by
    simp only [dBs, List.isEmpty_iff] at h
    rw [h]
  | x :: xs, ys, h => by
    simp only [dBs] at h
    split at h
    · simp only [Bool.and_eq_true] at h
      rw [dB_eq h.1, dBs_eq h.2]
    · cases h
end
mutual
/-- the value u of the written part is d -/
def repK (K : PySem.W.Frag) : D → Value → Bool
  | .int i, u => (match u with
    | .int j _ => decide (i = j)
    | _ => false)
  | .tup xs, u => (match u with
    | .ref a => (match K.lookup a with
      | some ⟨.type c, _, .seq its _, _⟩ => decide (c = "tuple") && decide (its.size ≤ sizeLine) && repsK K xs its.toList
      | _ => false)
    | _ => false)
  | _, _ => false
def repsK (K : PySem.W.Frag) : List D → List Value → Bool
  | [], us => us.isEmpty
  | x :: xs, us => (match us with
    | u :: us => repK K x u && repsK K xs us
    | [] => false)
end
mutual
theorem repK_ok {K : PySem.W.Frag} : ∀ {d : D} {u : Value}, repK K d u = true → ∃ v, RelV v u ∧ ∀ m L H, Rep K m L H d v
  | .int i, u, h => by
    simp only [repK] at h
    split at h
    · rename_i j t
      rw [of_decide_eq_true h]
      exact ⟨.int j, ⟨t, rfl⟩, fun m L H => by simp only [Rep]⟩
    · cases h
  | .tup xs, u, h => by
    simp only [repK] at h
    split at h
    · rename_i a
      split at h
      · rename_i c dd its n sl hl
        simp only [Bool.and_eq_true, decide_eq_true_eq] at h
        obtain ⟨⟨rfl, h2⟩, h3⟩ := h
        obtain ⟨vs, z1, z2⟩ := repsK_ok h3
        refine ⟨.ref a, rfl, fun m L H => ?_⟩
        simp only [Rep]
        exact ⟨a, vs, rfl, .inr ⟨_, its, n, hl, rfl, rfl, h2, z1⟩, z2 m L H⟩
      · cases h
    · cases h
  | .non, _, h => by simp [repK] at h
  | .bl _, _, h => by simp [repK] at h
  | .str _, _, h => by simp [repK] at h
  | .lst _, _, h => by simp [repK] at h
  | .scr _, _, h => by simp [repK] at h
  | .cell _, _, h => by simp [repK] at h
  | .dct _ _, _, h => by simp [repK] at h
theorem repsK_ok {K : PySem.W.Frag} : ∀ {ds : List D} {us : List Value}, repsK K ds us = true → ∃ vs, Vals vs us ∧ ∀ m L H, Reps K m L H ds vs
  | [], us, h => by
    simp only [repsK, List.isEmpty_iff] at h
    subst h
    exact ⟨[], .nil, fun m L H => by simp only [Reps]⟩
  | d :: ds, us, h => by
    simp only [repsK] at h
    split at h
    · simp only [Bool.and_eq_true] at h
      obtain ⟨v, z1, z2⟩ := repK_ok h.1
      obtain ⟨vs, z3, z4⟩ := repsK_ok h.2
      exact ⟨v :: vs, .cons z1 z3, fun m L H => by simp only [Reps]; exact ⟨v, vs, rfl, z2 m L H, z4 m L H⟩⟩
    · cases h
end
/-- the constants stand in the written part -/
def cstK (K : PySem.W.Frag) (gc : List (Str × D)) : Bool := gc.all fun p => match PySem.W.nsIn K mainGlobals p.1 with
  | some (some u) => repK K p.2 u
  | _ => false
theorem cstK_ok {K : PySem.W.Frag} {gc : List (Str × D)} {h : Heap} {mg : Str → Option Value} (X : K.In h) (G : h.Ns mainGlobals mg) (hc : cstK K gc = true) (x : Str) (d : D) (e : (gc.any fun p => decide (p.1 = x) && dB p.2 d) = true) :
    ∃ u v, mg x = some u ∧ RelV v u ∧ ∀ m L H, Rep K m L H d v := by
  rw [List.any_eq_true] at e
  obtain ⟨p, hp, he⟩ := e
  simp only [Bool.and_eq_true, decide_eq_true_eq] at he
  obtain ⟨rfl, e2⟩ := he
  have := dB_eq e2
  subst this
  have q := List.all_eq_true.mp hc p hp
  split at q
  · rename_i u hu
    obtain ⟨v, z1, z2⟩ := repK_ok q
    exact ⟨u, v, PySem.W.mg_of X G hu, z1, z2⟩
  · cases q
end Mi

set_option Elab.async false
set_option linter.all false
set_option maxRecDepth 100000
set_option maxHeartbeats 4000000
/-! Mi31: the head's run in pieces, each of which a kernel can hold. -/
namespace Mi
open PySem PySem.Spec PyProof.Rows L2
open HandSHeadRun PySem.W PySem.Calls in
/-- the whole run with one look at its end -/
def RunP (r : PySem.W.OpenRow) (M : Nat) (w : World) {β : Type} (f : Shared × SharedT → β) (v : β) : Prop :=
  (wholeF (fun p => stepQ (denQ tabQ) p w) fenceQ M r.prog).map f = some v
theorem map_two {α β γ : Type} {o : Option α} {f : α → β} {g : α → γ} {b : β} {c : γ} (h1 : o.map f = some b) (h2 : o.map g = some c) : o.map (fun x => (f x, g x)) = some (b, c) := by
  cases o with
  | none => cases h1
  | some x => cases h1; cases h2; rfl
theorem obs_app {n : Nat} {fa1 fa2 : List He.Fa} {fn1 fn2 : List He.DefD} {tf1 tf2 : List He.Defn} {ex1 ex2 : PySem.W.Frag → Bool} {w : World} {g : Addr → Option Obj}
    (h1 : He.obsX n fa1 fn1 [] tf1 ex1 g = He.valX fn1 [] w) (h2 : He.obsX n fa2 fn2 [] tf2 ex2 g = He.valX fn2 [] w) :
    He.obsX n (fa1 ++ fa2) (fn1 ++ fn2) [] (tf1 ++ tf2) (fun K => ex1 K && ex2 K) g = He.valX (fn1 ++ fn2) [] w := by
  simp only [He.obsX, He.valX, He.obsT, He.valT, He.obsD, He.valD, Prod.mk.injEq, Bool.and_eq_true, He.tabsB, List.all_append, List.map_append, List.map_nil, and_true] at h1 h2 ⊢
  obtain ⟨⟨⟨a1, b1⟩, c1⟩, d1, e1⟩ := h1
  obtain ⟨⟨⟨a2, b2⟩, c2⟩, d2, e2⟩ := h2
  exact ⟨⟨⟨⟨a1, a2⟩, b1, b2⟩, by rw [c1, c2]⟩, ⟨d1, d2⟩, e1, e2⟩
theorem runp_app {r : PySem.W.OpenRow} {M n : Nat} {fa1 fa2 : List He.Fa} {fn1 fn2 : List He.DefD} {tf1 tf2 : List He.Defn} {ex1 ex2 : PySem.W.Frag → Bool} {w : World}
    (h1 : RunP r M w (fun x => He.obsX n fa1 fn1 [] tf1 ex1 (HandSHeadRun.getT x.2)) (He.valX fn1 [] w))
    (h2 : RunP r M w (fun x => He.obsX n fa2 fn2 [] tf2 ex2 (HandSHeadRun.getT x.2)) (He.valX fn2 [] w)) :
    RunP r M w (fun x => He.obsX n (fa1 ++ fa2) (fn1 ++ fn2) [] (tf1 ++ tf2) (fun K => ex1 K && ex2 K) (HandSHeadRun.getT x.2)) (He.valX (fn1 ++ fn2) [] w) := by
  unfold RunP at h1 h2 ⊢
  revert h1 h2
  generalize HandSHeadRun.wholeF _ _ _ _ = o
  intro h1 h2
  cases o with
  | none => cases h1
  | some x =>
    exact congrArg some (obs_app (Option.some.inj h1) (Option.some.inj h2))
open HandSHeadRun PySem.W PySem.Calls in
theorem run_of {r : PySem.W.OpenRow} {q : Program} {M n : Nat} {fa : List He.Fa} {fn : List He.DefD} {tf : List He.Defn} {ex : PySem.W.Frag → Bool} {loose : List PySem.Str} {w : World}
    (h0 : RunP r M w (fun x => (looksF r.prog x.1.heap x.2.abs, seenQ q loose (importedModules r.prog.main.body) (fun s => xlAt q [] s && recOk r.toRowW.records s) x.2.abs)) (true, openGood q loose))
    (h1 : RunP r M w (fun x => He.obsX n fa fn [] tf ex (HandSHeadRun.getT x.2)) (He.valX fn [] w)) :
    RunEqI r q (He.hookX n fa fn [] tf ex) (fun s => He.obsX n fa fn [] tf ex (HandSHeadRun.getT s)) M loose w := by
  unfold RunP at h0 h1
  unfold RunEqI
  revert h0 h1
  generalize HandSHeadRun.wholeF _ _ _ _ = o
  intro h0 h1
  cases o with
  | none => cases h1
  | some x =>
    have e0 := Option.some.inj h0
    have e1 := Option.some.inj h1
    obtain ⟨a, b⟩ := Prod.mk.inj e0
    exact congrArg some (Prod.ext a (Prod.ext b e1))
end Mi

set_option Elab.async false
set_option linter.all false
set_option maxRecDepth 100000
set_option maxHeartbeats 4000000
namespace K06
open PySem PySem.Spec PyProof.Rows L2 Mi
def i_ratio : Mi.Def := ⟨"ratio", 2, ["above", "below", "common"],
    (.cons (.asg 2 (.bi .gcd (.cons (.var 0) (.cons (.var 1) .nil))))
    (.cons (.ite (.cmp .lt (.var 1) (.cst (.int 0))) (.cons (.asg 2 (.neg (.var 2)))
    .nil) .nil)
    (.cons (.ret (.tup (.cons (.bin .fdiv (.var 0) (.var 2)) (.cons (.bin .fdiv (.var 1) (.var 2)) .nil))))
    .nil)))⟩
def i_ratio_sum : Mi.Def := ⟨"ratio_sum", 2, ["first", "second"],
    (.cons (.ret (.call 0 (.cons (.bin .add (.bin .mul (.idx (.var 0) (.cst (.int 0))) (.idx (.var 1) (.cst (.int 1)))) (.bin .mul (.idx (.var 1) (.cst (.int 0))) (.idx (.var 0) (.cst (.int 1))))) (.cons (.bin .mul (.idx (.var 0) (.cst (.int 1))) (.idx (.var 1) (.cst (.int 1)))) .nil))))
    .nil)⟩
def i_ratio_product : Mi.Def := ⟨"ratio_product", 2, ["first", "second"],
    (.cons (.ret (.call 0 (.cons (.bin .mul (.idx (.var 0) (.cst (.int 0))) (.idx (.var 1) (.cst (.int 0)))) (.cons (.bin .mul (.idx (.var 0) (.cst (.int 1))) (.idx (.var 1) (.cst (.int 1)))) .nil))))
    .nil)⟩
def i_over_common : Mi.Def := ⟨"over_common", 1, ["fractions", "common", "_", "below", "above"],
    (.cons (.asg 1 (.cst (.int 1)))
    (.cons (.forr (.tp [2, 3]) (.seq (.var 0)) (.cons (.asg 1 (.bi .lcm (.cons (.var 1) (.cons (.var 3) .nil))))
    .nil))
    (.cons (.ret (.tup (.cons (.comp (.bin .mul (.var 4) (.bin .fdiv (.var 1) (.var 3))) (.tp [4, 3]) (.seq (.var 0)) .none [("above", 4), ("below", 3)]) (.cons (.var 1) .nil))))
    .nil)))⟩
def i_without_common : Mi.Def := ⟨"without_common", 1, ["numbers", "common", "number"],
    (.cons (.asg 1 (.cst (.int 0)))
    (.cons (.forr (.nm 2) (.seq (.var 0)) (.cons (.asg 1 (.bi .gcd (.cons (.var 1) (.cons (.var 2) .nil))))
    .nil))
    (.cons (.ite (.cmp .lt (.var 1) (.cst (.int 2))) (.cons (.ret (.bi .list (.cons (.var 0) .nil)))
    .nil) .nil)
    (.cons (.ret (.comp (.bin .fdiv (.var 2) (.var 1)) (.nm 2) (.seq (.var 0)) .none [("number", 2)]))
    .nil))))⟩
def i_forward : Mi.Def := ⟨"forward", 1, ["numbers", "reduced", "number", "part"],
    (.cons (.asg 1 (.call 4 (.cons (.var 0) .nil)))
    (.cons (.forr (.nm 2) (.seq (.var 1)) (.cons (.ite (.cmp .ne (.var 2) (.cst (.int 0))) (.cons (.ret (.ife (.cmp .gt (.var 2) (.cst (.int 0))) (.var 1) (.comp (.neg (.var 3)) (.nm 3) (.seq (.var 1)) .none [("part", 3)])))
    .nil) .nil)
    .nil))
    (.cons (.ret (.var 1))
    .nil)))⟩
def i_vector_sum : Mi.Def := ⟨"vector_sum", 2, ["first", "second", "a", "b"],
    (.cons (.ret (.gen .tuple (.call 1 (.cons (.var 2) (.cons (.var 3) .nil))) (.tp [2, 3]) (.zip (.var 0) (.var 1)) .none [("a", 2), ("b", 3)]))
    .nil)⟩
def i_vector_times : Mi.Def := ⟨"vector_times", 2, ["numbers", "fraction", "number"],
    (.cons (.ret (.gen .tuple (.call 2 (.cons (.var 2) (.cons (.var 1) .nil))) (.nm 2) (.seq (.var 0)) .none [("number", 2)]))
    .nil)⟩
def i_whole_cross : Mi.Def := ⟨"whole_cross", 2, ["first", "second", "a1", "a2", "a3", "b1", "b2", "b3"],
    (.cons (.asgT [.nm 2, .nm 3, .nm 4] (.var 0))
    (.cons (.asgT [.nm 5, .nm 6, .nm 7] (.var 1))
    (.cons (.ret (.lst (.cons (.bin .sub (.bin .mul (.var 3) (.var 7)) (.bin .mul (.var 4) (.var 6))) (.cons (.bin .sub (.bin .mul (.var 4) (.var 5)) (.bin .mul (.var 2) (.var 7))) (.cons (.bin .sub (.bin .mul (.var 2) (.var 6)) (.bin .mul (.var 3) (.var 5))) .nil)))))
    .nil)))⟩
def i_is_whole : Mi.Def := ⟨"is_whole", 1, ["value"],
    (.cons (.ret (.andv (.isi (.var 0) .int) (.one (.notv (.isi (.var 0) .bool)))))
    .nil)⟩
def i_is_fraction : Mi.Def := ⟨"is_fraction", 1, ["value", "above", "below"],
    (.cons (.ite (.or (.not (.val (.isi (.var 0) .tuple))) (.one (.cmp .ne (.bi .len (.cons (.var 0) .nil)) (.cst (.int 2))))) (.cons (.ret (.cst (.bl false)))
    .nil) .nil)
    (.cons (.asgT [.nm 1, .nm 2] (.var 0))
    (.cons (.ret (.andv (.call 9 (.cons (.var 1) .nil)) (.andv (.call 9 (.cons (.var 2) .nil)) (.andv (.cmp .gt (.var 2) (.cst (.int 0))) (.one (.cmp .eq (.bi .gcd (.cons (.var 1) (.cons (.var 2) .nil))) (.cst (.int 1))))))))
    .nil)))⟩
def i_is_triple : Mi.Def := ⟨"is_triple", 1, ["value", "part"],
    (.cons (.ret (.andv (.isi (.var 0) .tuple) (.andv (.cmp .eq (.bi .len (.cons (.var 0) .nil)) (.cst (.int 3))) (.one (.gen .all (.call 10 (.cons (.var 1) .nil)) (.nm 1) (.seq (.var 0)) .none [("part", 1)])))))
    .nil)⟩
def i_check_triple : Mi.Def := ⟨"check_triple", 1, ["triple"],
    (.cons (.ite (.not (.val (.call 11 (.cons (.var 0) .nil)))) (.cons .rse
    .nil) .nil)
    .nil)⟩
def i_are_four_wholes : Mi.Def := ⟨"are_four_wholes", 1, ["value", "part"],
    (.cons (.ret (.andv (.isi (.var 0) .tuple) (.andv (.cmp .eq (.bi .len (.cons (.var 0) .nil)) (.cst (.int 4))) (.one (.gen .all (.call 9 (.cons (.var 1) .nil)) (.nm 1) (.seq (.var 0)) .none [("part", 1)])))))
    .nil)⟩
def i_is_turning : Mi.Def := ⟨"is_turning", 1, ["value"],
    (.cons (.ret (.andv (.call 13 (.cons (.var 0) .nil)) (.andv (.bi .any (.cons (.var 0) .nil)) (.one (.cmp .eq (.call 5 (.cons (.var 0) .nil)) (.bi .list (.cons (.var 0) .nil)))))))
    .nil)⟩
def i_is_placing : Mi.Def := ⟨"is_placing", 1, ["value"],
    (.cons (.ret (.andv (.isi (.var 0) .tuple) (.andv (.cmp .eq (.bi .len (.cons (.var 0) .nil)) (.cst (.int 2))) (.andv (.call 14 (.cons (.idx (.var 0) (.cst (.int 0))) .nil)) (.one (.call 11 (.cons (.idx (.var 0) (.cst (.int 1))) .nil)))))))
    .nil)⟩
def i_check_placing : Mi.Def := ⟨"check_placing", 1, ["placing"],
    (.cons (.ite (.not (.val (.call 15 (.cons (.var 0) .nil)))) (.cons .rse
    .nil) .nil)
    .nil)⟩
def i_led_vector : Mi.Def := ⟨"led_vector", 2, ["turning", "vector", "w", "x", "y", "z", "numbers", "below", "square", "along", "across", "number", "lead", "aside"],
    (.cons (.asgT [.nm 2, .nm 3, .nm 4, .nm 5] (.var 0))
    (.cons (.asgT [.nm 6, .nm 7] (.call 3 (.cons (.var 1) .nil)))
    (.cons (.asg 8 (.bin .add (.bin .add (.bin .mul (.var 3) (.var 3)) (.bin .mul (.var 4) (.var 4))) (.bin .mul (.var 5) (.var 5))))
    (.cons (.asg 9 (.bin .add (.bin .add (.bin .mul (.var 3) (.idx (.var 6) (.cst (.int 0)))) (.bin .mul (.var 4) (.idx (.var 6) (.cst (.int 1))))) (.bin .mul (.var 5) (.idx (.var 6) (.cst (.int 2))))))
    (.cons (.asg 10 (.call 8 (.cons (.tup (.cons (.var 3) (.cons (.var 4) (.cons (.var 5) .nil)))) (.cons (.var 6) .nil))))
    (.cons (.ret (.gen .tuple (.call 0 (.cons (.bin .add (.bin .add (.bin .mul (.bin .sub (.bin .mul (.var 2) (.var 2)) (.var 8)) (.var 11)) (.bin .mul (.bin .mul (.cst (.int 2)) (.var 9)) (.var 12))) (.bin .mul (.bin .mul (.cst (.int 2)) (.var 2)) (.var 13))) (.cons (.bin .mul (.var 7) (.bin .add (.bin .mul (.var 2) (.var 2)) (.var 8))) .nil))) (.tp [11, 12, 13]) (.zip3 (.var 6) (.tup (.cons (.var 3) (.cons (.var 4) (.cons (.var 5) .nil)))) (.var 10)) .none [("number", 11), ("lead", 12), ("aside", 13)]))
    .nil))))))⟩
def i_joined_parts : Mi.Def := ⟨"joined_parts", 2, ["first", "second", "w", "x", "y", "z", "a", "b", "c", "d"],
    (.cons (.asgT [.nm 2, .nm 3, .nm 4, .nm 5] (.var 0))
    (.cons (.asgT [.nm 6, .nm 7, .nm 8, .nm 9] (.var 1))
    (.cons (.ret (.bi .tuple (.cons (.call 5 (.cons (.tup (.cons (.bin .sub (.bin .sub (.bin .sub (.bin .mul (.var 6) (.var 2)) (.bin .mul (.var 7) (.var 3))) (.bin .mul (.var 8) (.var 4))) (.bin .mul (.var 9) (.var 5))) (.cons (.bin .sub (.bin .add (.bin .add (.bin .mul (.var 6) (.var 3)) (.bin .mul (.var 7) (.var 2))) (.bin .mul (.var 8) (.var 5))) (.bin .mul (.var 9) (.var 4))) (.cons (.bin .sub (.bin .add (.bin .add (.bin .mul (.var 6) (.var 4)) (.bin .mul (.var 8) (.var 2))) (.bin .mul (.var 9) (.var 3))) (.bin .mul (.var 7) (.var 5))) (.cons (.bin .sub (.bin .add (.bin .add (.bin .mul (.var 6) (.var 5)) (.bin .mul (.var 9) (.var 2))) (.bin .mul (.var 7) (.var 4))) (.bin .mul (.var 8) (.var 3))) .nil))))) .nil)) .nil)))
    .nil)))⟩
def i_back_parts : Mi.Def := ⟨"back_parts", 1, ["turning", "w", "x", "y", "z"],
    (.cons (.asgT [.nm 1, .nm 2, .nm 3, .nm 4] (.var 0))
    (.cons (.ret (.bi .tuple (.cons (.call 5 (.cons (.tup (.cons (.var 1) (.cons (.neg (.var 2)) (.cons (.neg (.var 3)) (.cons (.neg (.var 4)) .nil))))) .nil)) .nil)))
    .nil))⟩
def i_placed : Mi.Def := ⟨"placed", 2, ["placing", "point"],
    (.cons (.expr (.call 16 (.cons (.var 0) .nil)))
    (.cons (.expr (.call 12 (.cons (.var 1) .nil)))
    (.cons (.ret (.call 6 (.cons (.call 17 (.cons (.idx (.var 0) (.cst (.int 0))) (.cons (.var 1) .nil))) (.cons (.idx (.var 0) (.cst (.int 1))) .nil))))
    .nil)))⟩
def i_joined_placings : Mi.Def := ⟨"joined_placings", 2, ["placing", "other", "shift"],
    (.cons (.expr (.call 16 (.cons (.var 0) .nil)))
    (.cons (.expr (.call 16 (.cons (.var 1) .nil)))
    (.cons (.asg 2 (.call 6 (.cons (.call 17 (.cons (.idx (.var 1) (.cst (.int 0))) (.cons (.idx (.var 0) (.cst (.int 1))) .nil))) (.cons (.idx (.var 1) (.cst (.int 1))) .nil))))
    (.cons (.ret (.tup (.cons (.call 18 (.cons (.idx (.var 0) (.cst (.int 0))) (.cons (.idx (.var 1) (.cst (.int 0))) .nil))) (.cons (.var 2) .nil))))
    .nil))))⟩
def i_back_placing : Mi.Def := ⟨"back_placing", 1, ["placing", "turning"],
    (.cons (.expr (.call 16 (.cons (.var 0) .nil)))
    (.cons (.asg 1 (.call 19 (.cons (.idx (.var 0) (.cst (.int 0))) .nil)))
    (.cons (.ret (.tup (.cons (.var 1) (.cons (.call 7 (.cons (.call 17 (.cons (.var 1) (.cons (.idx (.var 0) (.cst (.int 1))) .nil))) (.cons (.tup (.cons (.neg (.cst (.int 1))) (.cons (.cst (.int 1)) .nil))) .nil))) .nil))))
    .nil)))⟩
def i__law_well : Mi.Def := ⟨"_law_well", 2, ["_law_script", "_law_turn", "_law_own", "_law_stirred", "_law_cell"],
    (.cons (.asg 2 (.ife (.cmp .lt (.var 1) (.bi .len (.cons (.var 0) .nil))) (.bi .int (.cons (.idx (.var 0) (.var 1)) .nil)) (.bin .add (.bin .add (.bin .mul (.cst (.int 5159)) (.var 1)) (.cst (.int 73))) (.bin .mod (.bi .int (.cons (.bi .sum (.cons (.slc (.var 0) .none (.some (.cst (.int 3)))) .nil)) .nil)) (.cst (.int 999983))))))
    (.cons (.asg 3 (.bin .add (.cst (.int 27067)) (.bin .mul (.cst (.int 3035)) (.var 1))))
    (.cons (.forr (.nm 4) (.seq (.bin .add (.slc (.var 0) .none (.some (.cst (.int 9)))) (.lst (.cons (.var 2) .nil)))) (.cons (.asg 3 (.bin .mod (.bi .int (.cons (.bin .add (.bin .add (.bin .mul (.var 3) (.cst (.int 44497))) (.bin .mod (.bi .int (.cons (.var 4) .nil)) (.cst (.int 2147483549)))) (.cst (.int 13))) .nil)) (.cst (.int 2147483563))))
    .nil))
    (.cons (.ret (.ncl (.cons (.ife (.or (.cmp .lt (.var 2) (.cst (.int 0))) (.one (.cmp .ge (.var 2) (.bin .pow (.cst (.int 10)) (.cst (.int 18)))))) (.bi .abs (.cons (.var 2) .nil)) (.cst (.int 0))) (.cons (.var 3) (.cons (.cst (.int 0)) .nil)))))
    .nil))))⟩
def i__law_draw : Mi.Def := ⟨"_law_draw", 2, ["_law_well_here", "_law_many", "_law_digit", "_law_step"],
    (.cons (.ite (.cmp .gt (.idx (.var 0) (.cst (.int 0))) (.cst (.int 0))) (.cons (.asgT [.sub (.var 0) (.cst (.int 0)), .nm 2] (.bi .divmod (.cons (.idx (.var 0) (.cst (.int 0))) (.cons (.var 1) .nil))))
    (.cons (.ret (.var 2))
    .nil)) .nil)
    (.cons (.asgS (.var 0) (.cst (.int 2)) (.bin .add (.idx (.var 0) (.cst (.int 2))) (.cst (.int 1))))
    (.cons (.asg 3 (.bin .mod (.bi .int (.cons (.bin .add (.bin .add (.bin .mul (.idx (.var 0) (.cst (.int 1))) (.cst (.int 45007))) (.bin .mul (.idx (.var 0) (.cst (.int 2))) (.cst (.int 70001)))) (.cst (.int 5))) .nil)) (.cst (.int 2147483563))))
    (.cons (.asgS (.var 0) (.cst (.int 1)) (.bin .mod (.bi .int (.cons (.bin .add (.bin .mul (.var 3) (.bin .add (.bin .mul (.cst (.int 2)) (.bin .fdiv (.var 3) (.cst (.int 17)))) (.cst (.int 30011)))) (.idx (.var 0) (.cst (.int 2)))) .nil)) (.cst (.int 2147483563))))
    (.cons (.ret (.bin .mod (.bi .int (.cons (.bin .fdiv (.idx (.var 0) (.cst (.int 1))) (.cst (.int 211))) .nil)) (.var 1)))
    .nil)))))⟩
def i__law_pick : Mi.Def := ⟨"_law_pick", 2, ["_law_well_here", "_law_some"],
    (.cons (.ret (.idx (.var 1) (.call 24 (.cons (.var 0) (.cons (.bi .len (.cons (.var 1) .nil)) .nil)))))
    .nil)⟩
def i__law_low : Mi.Def := ⟨"_law_low", 1, ["_law_well_here", "_law_size"],
    (.cons (.asg 1 (.call 25 (.cons (.var 0) (.cons (.tup (.cons (.cst (.int 3)) (.cons (.cst (.int 3)) (.cons (.cst (.int 3)) (.cons (.cst (.int 2)) (.cons (.cst (.int 1)) (.cons (.cst (.int 6)) (.cons (.cst (.int 20)) (.cons (.cst (.int 99)) .nil))))))))) .nil))))
    (.cons (.ret (.bin .sub (.call 24 (.cons (.var 0) (.cons (.bin .add (.bin .mul (.cst (.int 2)) (.var 1)) (.cst (.int 1))) .nil))) (.var 1)))
    .nil))⟩
def i__law_far : Mi.Def := ⟨"_law_far", 1, ["_law_well_here", "_law_found", "_law_step"],
    (.cons (.asg 1 (.call 26 (.cons (.var 0) .nil)))
    (.cons (.forr (.nm 2) (.rng (.call 25 (.cons (.var 0) (.cons (.tup (.cons (.cst (.int 0)) (.cons (.cst (.int 0)) (.cons (.cst (.int 1)) (.cons (.cst (.int 3)) .nil))))) .nil)))) (.cons (.asg 1 (.bin .add (.bin .mul (.var 1) (.cst (.int 1000003))) (.call 24 (.cons (.var 0) (.cons (.cst (.int 1000003)) .nil)))))
    .nil))
    (.cons (.ret (.var 1))
    .nil)))⟩
def i__law_ratio : Mi.Def := ⟨"_law_ratio", 2, ["_law_top", "_law_under", "_law_one", "_law_two"],
    (.cons (.asgP [2, 3] (.cons (.bi .abs (.cons (.var 0) .nil)) (.cons (.bi .abs (.cons (.var 1) .nil)) .nil)))
    (.cons (.whl (.cmp .ne (.var 3) (.cst (.int 0))) (.cons (.asgP [2, 3] (.cons (.var 3) (.cons (.bin .mod (.bi .int (.cons (.var 2) .nil)) (.var 3)) .nil)))
    .nil))
    (.cons (.asg 2 (.ife (.cmp .gt (.var 1) (.cst (.int 0))) (.var 2) (.bin .sub (.cst (.int 0)) (.var 2))))
    (.cons (.ret (.tup (.cons (.bin .fdiv (.var 0) (.var 2)) (.cons (.bin .fdiv (.var 1) (.var 2)) .nil))))
    .nil))))⟩
def i__law_plus : Mi.Def := ⟨"_law_plus", 2, ["_law_one", "_law_two"],
    (.cons (.ret (.call 28 (.cons (.bin .add (.bin .mul (.idx (.var 0) (.cst (.int 0))) (.idx (.var 1) (.cst (.int 1)))) (.bin .mul (.idx (.var 1) (.cst (.int 0))) (.idx (.var 0) (.cst (.int 1))))) (.cons (.bin .mul (.idx (.var 0) (.cst (.int 1))) (.idx (.var 1) (.cst (.int 1)))) .nil))))
    .nil)⟩
def i__law_less : Mi.Def := ⟨"_law_less", 2, ["_law_one", "_law_two"],
    (.cons (.ret (.call 28 (.cons (.bin .sub (.bin .mul (.idx (.var 0) (.cst (.int 0))) (.idx (.var 1) (.cst (.int 1)))) (.bin .mul (.idx (.var 1) (.cst (.int 0))) (.idx (.var 0) (.cst (.int 1))))) (.cons (.bin .mul (.idx (.var 0) (.cst (.int 1))) (.idx (.var 1) (.cst (.int 1)))) .nil))))
    .nil)⟩
def i__law_by : Mi.Def := ⟨"_law_by", 2, ["_law_one", "_law_two"],
    (.cons (.ret (.call 28 (.cons (.bin .mul (.idx (.var 0) (.cst (.int 0))) (.idx (.var 1) (.cst (.int 0)))) (.cons (.bin .mul (.idx (.var 0) (.cst (.int 1))) (.idx (.var 1) (.cst (.int 1)))) .nil))))
    .nil)⟩
def i__law_sum : Mi.Def := ⟨"_law_sum", 2, ["_law_one", "_law_two", "_law_here", "_law_there"],
    (.cons (.ret (.bi .tuple (.cons (.comp (.call 29 (.cons (.var 2) (.cons (.var 3) .nil))) (.tp [2, 3]) (.zip (.var 0) (.var 1)) .none [("_law_here", 2), ("_law_there", 3)]) .nil)))
    .nil)⟩
def i__law_gap : Mi.Def := ⟨"_law_gap", 2, ["_law_one", "_law_two", "_law_here", "_law_there"],
    (.cons (.ret (.bi .tuple (.cons (.comp (.call 30 (.cons (.var 2) (.cons (.var 3) .nil))) (.tp [2, 3]) (.zip (.var 0) (.var 1)) .none [("_law_here", 2), ("_law_there", 3)]) .nil)))
    .nil)⟩
def i__law_times : Mi.Def := ⟨"_law_times", 2, ["_law_row_here", "_law_by_here", "_law_each"],
    (.cons (.ret (.bi .tuple (.cons (.comp (.call 31 (.cons (.var 2) (.cons (.var 1) .nil))) (.nm 2) (.seq (.var 0)) .none [("_law_each", 2)]) .nil)))
    .nil)⟩
def i__law_dot : Mi.Def := ⟨"_law_dot", 2, ["_law_one", "_law_two", "_law_found", "_law_here", "_law_there"],
    (.cons (.asg 2 (.tup (.cons (.cst (.int 0)) (.cons (.cst (.int 1)) .nil))))
    (.cons (.forr (.tp [3, 4]) (.zip (.var 0) (.var 1)) (.cons (.asg 2 (.call 29 (.cons (.var 2) (.cons (.call 31 (.cons (.var 3) (.cons (.var 4) .nil))) .nil))))
    .nil))
    (.cons (.ret (.var 2))
    .nil)))⟩
def i__law_cross : Mi.Def := ⟨"_law_cross", 2, ["_law_one", "_law_two", "_law_found", "_law_k", "_law_here", "_law_there"],
    (.cons (.asg 2 (.ncl .nil))
    (.cons (.forr (.nm 3) (.rng (.cst (.int 3))) (.cons (.asgP [4, 5] (.cons (.bin .mod (.bi .int (.cons (.bin .add (.var 3) (.cst (.int 1))) .nil)) (.cst (.int 3))) (.cons (.bin .mod (.bi .int (.cons (.bin .add (.var 3) (.cst (.int 2))) .nil)) (.cst (.int 3))) .nil)))
    (.cons (.app 2 (.call 30 (.cons (.call 31 (.cons (.idx (.var 0) (.var 4)) (.cons (.idx (.var 1) (.var 5)) .nil))) (.cons (.call 31 (.cons (.idx (.var 0) (.var 5)) (.cons (.idx (.var 1) (.var 4)) .nil))) .nil))))
    .nil)))
    (.cons (.ret (.bi .tuple (.cons (.var 2) .nil)))
    .nil)))⟩
def i__law_nought : Mi.Def := ⟨"_law_nought", 0, [],
    (.cons (.ret (.tup (.cons (.tup (.cons (.cst (.int 0)) (.cons (.cst (.int 1)) .nil))) (.cons (.tup (.cons (.cst (.int 0)) (.cons (.cst (.int 1)) .nil))) (.cons (.tup (.cons (.cst (.int 0)) (.cons (.cst (.int 1)) .nil))) .nil)))))
    .nil)⟩
def i__law_part : Mi.Def := ⟨"_law_part", 1, ["_law_well_here"],
    (.cons (.ret (.call 28 (.cons (.call 26 (.cons (.var 0) .nil)) (.cons (.call 25 (.cons (.var 0) (.cons (.tup (.cons (.cst (.int 1)) (.cons (.cst (.int 1)) (.cons (.cst (.int 1)) (.cons (.cst (.int 1)) (.cons (.cst (.int 2)) (.cons (.cst (.int 3)) (.cons (.cst (.int 4)) (.cons (.cst (.int 7)) .nil))))))))) .nil))) .nil))))
    .nil)⟩
def i__law_row : Mi.Def := ⟨"_law_row", 1, ["_law_well_here", "_law_found", "_law_way", "_law_k"],
    (.cons (.asg 1 (.tup (.cons (.call 38 (.cons (.var 0) .nil)) (.cons (.call 38 (.cons (.var 0) .nil)) (.cons (.call 38 (.cons (.var 0) .nil)) .nil)))))
    (.cons (.asg 2 (.call 24 (.cons (.var 0) (.cons (.cst (.int 12)) .nil))))
    (.cons (.ite (.cmp .lt (.var 2) (.cst (.int 4))) (.cons (.ret (.bi .tuple (.cons (.comp (.ife (.cmp .eq (.var 3) (.var 2)) (.idx (.var 1) (.var 3)) (.tup (.cons (.cst (.int 0)) (.cons (.cst (.int 1)) .nil)))) (.nm 3) (.rng (.cst (.int 3))) .none [("_law_k", 3)]) .nil)))
    .nil) .nil)
    (.cons (.ite (.cmp .lt (.var 2) (.cst (.int 7))) (.cons (.ret (.bi .tuple (.cons (.comp (.ife (.cmp .ne (.var 3) (.bin .sub (.var 2) (.cst (.int 4)))) (.idx (.var 1) (.var 3)) (.tup (.cons (.cst (.int 0)) (.cons (.cst (.int 1)) .nil)))) (.nm 3) (.rng (.cst (.int 3))) .none [("_law_k", 3)]) .nil)))
    .nil) .nil)
    (.cons (.ret (.var 1))
    .nil)))))⟩
def i__law_wide : Mi.Def := ⟨"_law_wide", 1, ["_law_well_here", "_law_k"],
    (.cons (.ite (.cmp .gt (.call 24 (.cons (.var 0) (.cons (.cst (.int 4)) .nil))) (.cst (.int 0))) (.cons (.ret (.call 39 (.cons (.var 0) .nil)))
    .nil) .nil)
    (.cons (.ret (.bi .tuple (.cons (.comp (.call 28 (.cons (.call 27 (.cons (.var 0) .nil)) (.cons (.bin .add (.cst (.int 1)) (.bi .abs (.cons (.call 27 (.cons (.var 0) .nil)) .nil))) .nil))) (.nm 1) (.rng (.cst (.int 3))) .none [("_law_k", 1)]) .nil)))
    .nil))⟩
def i__law_lean : Mi.Def := ⟨"_law_lean", 1, ["_law_numbers", "_law_by_here", "_law_each", "_law_one", "_law_two", "_law_first"],
    (.cons (.asg 1 (.cst (.int 0)))
    (.cons (.forr (.nm 2) (.seq (.var 0)) (.cons (.asgP [3, 4] (.cons (.var 1) (.cons (.bi .abs (.cons (.var 2) .nil)) .nil)))
    (.cons (.whl (.cmp .ne (.var 4) (.cst (.int 0))) (.cons (.asgP [3, 4] (.cons (.var 4) (.cons (.bin .mod (.bi .int (.cons (.var 3) .nil)) (.var 4)) .nil)))
    .nil))
    (.cons (.asg 1 (.var 3))
    .nil))))
    (.cons (.asg 5 (.idx (.comp (.var 2) (.nm 2) (.seq (.var 0)) (.some (.cmp .ne (.var 2) (.cst (.int 0)))) [("_law_each", 2)]) (.cst (.int 0))))
    (.cons (.ret (.bi .tuple (.cons (.comp (.bin .fdiv (.var 2) (.ife (.cmp .gt (.var 5) (.cst (.int 0))) (.var 1) (.bin .sub (.cst (.int 0)) (.var 1)))) (.nm 2) (.seq (.var 0)) .none [("_law_each", 2)]) .nil)))
    .nil))))⟩
def i__law_turning : Mi.Def := ⟨"_law_turning", 1, ["_law_well_here", "_law_numbers", "_law_k"],
    (.cons (.ite (.cmp .eq (.call 24 (.cons (.var 0) (.cons (.cst (.int 3)) .nil))) (.cst (.int 0))) (.cons (.ret (.call 25 (.cons (.var 0) (.cons (.tup (.cons (.tup (.cons (.cst (.int 1)) (.cons (.cst (.int 0)) (.cons (.cst (.int 0)) (.cons (.cst (.int 0)) .nil))))) (.cons (.tup (.cons (.cst (.int 1)) (.cons (.cst (.int 0)) (.cons (.cst (.int 0)) (.cons (.cst (.int 1)) .nil))))) (.cons (.tup (.cons (.cst (.int 0)) (.cons (.cst (.int 1)) (.cons (.cst (.int 0)) (.cons (.cst (.int 0)) .nil))))) (.cons (.tup (.cons (.cst (.int 1)) (.cons (.cst (.int 1)) (.cons (.cst (.int 1)) (.cons (.cst (.int 1)) .nil))))) (.cons (.tup (.cons (.cst (.int 1)) (.cons (.neg (.cst (.int 1))) (.cons (.cst (.int 0)) (.cons (.cst (.int 0)) .nil))))) (.cons (.tup (.cons (.cst (.int 0)) (.cons (.cst (.int 0)) (.cons (.cst (.int 1)) (.cons (.neg (.cst (.int 1))) .nil))))) .nil))))))) .nil))))
    .nil) .nil)
    (.cons (.asg 1 (.comp (.bin .sub (.call 24 (.cons (.var 0) (.cons (.cst (.int 9)) .nil))) (.cst (.int 4))) (.nm 2) (.rng (.cst (.int 4))) .none [("_law_k", 2)]))
    (.cons (.ret (.ife (.cmp .ne (.var 1) (.lst (.cons (.cst (.int 0)) (.cons (.cst (.int 0)) (.cons (.cst (.int 0)) (.cons (.cst (.int 0)) .nil)))))) (.call 41 (.cons (.var 1) .nil)) (.tup (.cons (.cst (.int 2)) (.cons (.cst (.int 1)) (.cons (.cst (.int 0)) (.cons (.cst (.int 0)) .nil)))))))
    .nil)))⟩
def i__law_turned : Mi.Def := ⟨"_law_turned", 2, ["_law_turns", "_law_row_here", "_law_wide_here", "_law_axis", "_law_size", "_law_found", "_law_each"],
    (.cons (.asgP [2, 3] (.cons (.idx (.var 0) (.cst (.int 0))) (.cons (.bi .tuple (.cons (.comp (.tup (.cons (.var 6) (.cons (.cst (.int 1)) .nil))) (.nm 6) (.seq (.slc (.var 0) (.some (.cst (.int 1))) .none)) .none [("_law_each", 6)]) .nil)) .nil)))
    (.cons (.asg 4 (.bi .sum (.cons (.comp (.bin .mul (.var 6) (.var 6)) (.nm 6) (.seq (.slc (.var 0) (.some (.cst (.int 1))) .none)) .none [("_law_each", 6)]) .nil)))
    (.cons (.asg 5 (.call 34 (.cons (.var 1) (.cons (.tup (.cons (.bin .sub (.bin .mul (.var 2) (.var 2)) (.var 4)) (.cons (.cst (.int 1)) .nil))) .nil))))
    (.cons (.asg 5 (.call 32 (.cons (.var 5) (.cons (.call 34 (.cons (.var 3) (.cons (.call 31 (.cons (.tup (.cons (.cst (.int 2)) (.cons (.cst (.int 1)) .nil))) (.cons (.call 35 (.cons (.var 3) (.cons (.var 1) .nil))) .nil))) .nil))) .nil))))
    (.cons (.asg 5 (.call 32 (.cons (.var 5) (.cons (.call 34 (.cons (.call 36 (.cons (.var 3) (.cons (.var 1) .nil))) (.cons (.tup (.cons (.bin .mul (.cst (.int 2)) (.var 2)) (.cons (.cst (.int 1)) .nil))) .nil))) .nil))))
    (.cons (.ret (.call 34 (.cons (.var 5) (.cons (.tup (.cons (.cst (.int 1)) (.cons (.bin .add (.bin .mul (.var 2) (.var 2)) (.var 4)) .nil))) .nil))))
    .nil))))))⟩
def i__law_is_whole : Mi.Def := ⟨"_law_is_whole", 1, ["_law_value"],
    (.cons (.ret (.andv (.isi (.var 0) .int) (.one (.notv (.isi (.var 0) .bool)))))
    .nil)⟩
def i__law_is_ratio : Mi.Def := ⟨"_law_is_ratio", 1, ["_law_value", "_law_each"],
    (.cons (.ite (.or (.not (.val (.isi (.var 0) .tuple))) (.or (.cmp .ne (.bi .len (.cons (.var 0) .nil)) (.cst (.int 2))) (.one (.cmp .inn (.cst (.bl false)) (.comp (.call 44 (.cons (.var 1) .nil)) (.nm 1) (.seq (.var 0)) .none [("_law_each", 1)]))))) (.cons (.ret (.cst (.bl false)))
    .nil) .nil)
    (.cons (.ret (.andv (.cmp .gt (.idx (.var 0) (.cst (.int 1))) (.cst (.int 0))) (.one (.cmp .eq (.call 28 (.cons (.idx (.var 0) (.cst (.int 0))) (.cons (.idx (.var 0) (.cst (.int 1))) .nil))) (.var 0)))))
    .nil))⟩
def i__law_are_ratios : Mi.Def := ⟨"_law_are_ratios", 2, ["_law_value", "_law_many", "_law_each"],
    (.cons (.ret (.andv (.isi (.var 0) .tuple) (.andv (.cmp .eq (.bi .len (.cons (.var 0) .nil)) (.var 1)) (.one (.cmp .nin (.cst (.bl false)) (.comp (.call 45 (.cons (.var 2) .nil)) (.nm 2) (.seq (.var 0)) .none [("_law_each", 2)]))))))
    .nil)⟩
def i__law_is_turning : Mi.Def := ⟨"_law_is_turning", 1, ["_law_value", "_law_each"],
    (.cons (.ite (.or (.not (.val (.isi (.var 0) .tuple))) (.or (.cmp .ne (.bi .len (.cons (.var 0) .nil)) (.cst (.int 4))) (.one (.cmp .inn (.cst (.bl false)) (.comp (.call 44 (.cons (.var 1) .nil)) (.nm 1) (.seq (.var 0)) .none [("_law_each", 1)]))))) (.cons (.ret (.cst (.bl false)))
    .nil) .nil)
    (.cons (.ret (.andv (.cmp .ne (.var 0) (.tup (.cons (.cst (.int 0)) (.cons (.cst (.int 0)) (.cons (.cst (.int 0)) (.cons (.cst (.int 0)) .nil)))))) (.one (.cmp .eq (.call 41 (.cons (.var 0) .nil)) (.var 0)))))
    .nil))⟩
def i__law_is_placing : Mi.Def := ⟨"_law_is_placing", 1, ["_law_value"],
    (.cons (.ret (.andv (.isi (.var 0) .tuple) (.andv (.cmp .eq (.bi .len (.cons (.var 0) .nil)) (.cst (.int 2))) (.andv (.call 47 (.cons (.idx (.var 0) (.cst (.int 0))) .nil)) (.one (.call 46 (.cons (.idx (.var 0) (.cst (.int 1))) (.cons (.cst (.int 3)) .nil))))))))
    .nil)⟩
def i__law_odd : Mi.Def := ⟨"_law_odd", 1, ["_law_well_here", "_law_some"],
    (.cons (.asg 1 (.lst (.cons (.cst .non) (.cons (.cst (.bl true)) (.cons (.cst (.bl false)) (.cons (.cst (.int 0)) (.cons (.cst (.int 1)) (.cons (.neg (.cst (.int 1))) (.cons (.cst (.int 7)) (.cons (.bin .pow (.cst (.int 10)) (.cst (.int 25))) (.cons (.cst (.str "")) (.cons (.cst (.str "x")) (.cons (.cst (.str "1/2")) (.cons (.tup .nil) (.cons (.tup (.cons (.cst (.int 1)) .nil)) (.cons (.tup (.cons (.cst (.int 1)) (.cons (.cst (.int 2)) .nil))) (.cons (.tup (.cons (.cst (.int 2)) (.cons (.cst (.int 4)) .nil))) (.cons (.tup (.cons (.cst (.int 0)) (.cons (.cst (.int 1)) .nil))) (.cons (.tup (.cons (.cst (.int 0)) (.cons (.cst (.int 5)) .nil))) (.cons (.tup (.cons (.cst (.int 1)) (.cons (.cst (.int 0)) .nil))) .nil))))))))))))))))))))
    (.cons (.asg 1 (.bin .add (.var 1) (.lst (.cons (.tup (.cons (.cst (.int 1)) (.cons (.neg (.cst (.int 2))) .nil))) (.cons (.tup (.cons (.cst (.bl true)) (.cons (.cst (.int 1)) .nil))) (.cons (.tup (.cons (.cst (.int 1)) (.cons (.cst (.bl true)) .nil))) (.cons (.lst (.cons (.cst (.int 1)) (.cons (.cst (.int 2)) .nil))) (.cons (.lst .nil) (.cons (.cst (.dct [] [])) (.cons (.cst (.dct [.inr "a"] [.int 1])) (.cons (.tup (.cons (.cst (.int 1)) (.cons (.cst (.int 2)) (.cons (.cst (.int 3)) .nil)))) (.cons (.tup (.cons (.cst (.int 1)) (.cons (.cst (.int 0)) (.cons (.cst (.int 0)) (.cons (.cst (.int 0)) .nil))))) (.cons (.tup (.cons (.cst (.int 2)) (.cons (.cst (.int 0)) (.cons (.cst (.int 0)) (.cons (.cst (.int 2)) .nil))))) .nil)))))))))))))
    (.cons (.asg 1 (.bin .add (.var 1) (.lst (.cons (.tup (.cons (.cst (.int 0)) (.cons (.neg (.cst (.int 1))) (.cons (.cst (.int 0)) (.cons (.cst (.int 0)) .nil))))) (.cons (.tup (.cons (.cst (.int 0)) (.cons (.cst (.int 0)) (.cons (.cst (.int 0)) (.cons (.cst (.int 0)) .nil))))) (.cons (.tup (.cons (.tup (.cons (.cst (.int 1)) (.cons (.cst (.int 1)) .nil))) (.cons (.tup (.cons (.cst (.int 0)) (.cons (.cst (.int 1)) .nil))) (.cons (.tup (.cons (.cst (.int 0)) (.cons (.cst (.int 1)) .nil))) .nil)))) (.cons (.tup (.cons (.tup (.cons (.cst (.int 0)) (.cons (.cst (.int 1)) .nil))) (.cons (.tup (.cons (.cst (.int 0)) (.cons (.cst (.int 1)) .nil))) (.cons (.tup (.cons (.cst (.int 0)) (.cons (.cst (.int 1)) .nil))) .nil)))) (.cons (.tup (.cons (.tup (.cons (.cst (.int 1)) (.cons (.cst (.int 1)) .nil))) (.cons (.tup (.cons (.cst (.int 0)) (.cons (.cst (.int 1)) .nil))) .nil))) .nil))))))))
    (.cons (.asg 1 (.bin .add (.var 1) (.lst (.cons (.lst (.cons (.tup (.cons (.cst (.int 1)) (.cons (.cst (.int 1)) .nil))) (.cons (.tup (.cons (.cst (.int 0)) (.cons (.cst (.int 1)) .nil))) (.cons (.tup (.cons (.cst (.int 0)) (.cons (.cst (.int 1)) .nil))) .nil)))) (.cons (.tup (.cons (.tup (.cons (.cst (.int 1)) (.cons (.cst (.int 1)) .nil))) (.cons (.tup (.cons (.cst (.int 2)) (.cons (.cst (.int 2)) .nil))) (.cons (.tup (.cons (.cst (.int 0)) (.cons (.cst (.int 1)) .nil))) .nil)))) (.cons (.tup (.cons (.tup (.cons (.cst (.int 1)) (.cons (.cst (.int 0)) (.cons (.cst (.int 0)) (.cons (.cst (.int 1)) .nil))))) (.cons (.tup (.cons (.tup (.cons (.cst (.int 0)) (.cons (.cst (.int 1)) .nil))) (.cons (.tup (.cons (.cst (.int 1)) (.cons (.cst (.int 2)) .nil))) (.cons (.tup (.cons (.cst (.int 0)) (.cons (.cst (.int 1)) .nil))) .nil)))) .nil))) .nil))))))
    (.cons (.asg 1 (.bin .add (.var 1) (.lst (.cons (.tup (.cons (.tup (.cons (.tup (.cons (.cst (.int 0)) (.cons (.cst (.int 1)) .nil))) (.cons (.tup (.cons (.cst (.int 0)) (.cons (.cst (.int 1)) .nil))) (.cons (.tup (.cons (.cst (.int 1)) (.cons (.cst (.int 1)) .nil))) .nil)))) (.cons (.tup (.cons (.tup (.cons (.cst (.int 0)) (.cons (.cst (.int 1)) .nil))) (.cons (.tup (.cons (.cst (.int 3)) (.cons (.cst (.int 1)) .nil))) (.cons (.tup (.cons (.cst (.int 0)) (.cons (.cst (.int 1)) .nil))) .nil)))) .nil))) (.cons (.tup (.cons (.cst .non) (.cons (.cst .non) .nil))) (.cons (.tup (.cons (.tup (.cons (.cst (.int 1)) (.cons (.cst (.int 1)) .nil))) (.cons (.tup (.cons (.cst (.int 0)) (.cons (.cst (.int 1)) .nil))) (.cons (.cst .non) .nil)))) .nil))))))
    (.cons (.ret (.call 25 (.cons (.var 0) (.cons (.var 1) .nil))))
    .nil))))))⟩
def i__law_bent : Mi.Def := ⟨"_law_bent", 2, ["_law_well_here", "_law_thing", "_law_at", "_law_way"],
    (.cons (.ite (.val (.call 44 (.cons (.var 1) .nil))) (.cons (.ret (.call 25 (.cons (.var 0) (.cons (.tup (.cons (.bin .add (.var 1) (.cst (.int 1))) (.cons (.bin .sub (.cst (.int 0)) (.var 1)) (.cons (.bin .mul (.cst (.int 2)) (.var 1)) (.cons (.cmp .eq (.var 1) (.cst (.int 1))) (.cons (.bi .str (.cons (.var 1) .nil)) (.cons (.tup (.cons (.var 1) (.cons (.cst (.int 1)) .nil))) (.cons (.cst .non) .nil)))))))) .nil))))
    .nil) .nil)
    (.cons (.ite (.or (.not (.val (.isi (.var 1) .tuple))) (.one (.cmp .eq (.var 1) (.tup .nil)))) (.cons (.ret (.call 49 (.cons (.var 0) .nil)))
    .nil) .nil)
    (.cons (.asgP [2, 3] (.cons (.call 24 (.cons (.var 0) (.cons (.bi .len (.cons (.var 1) .nil)) .nil))) (.cons (.call 24 (.cons (.var 0) (.cons (.cst (.int 10)) .nil))) .nil)))
    (.cons (.ite (.cmp .lt (.var 3) (.cst (.int 6))) (.cons (.ret (.bin .add (.bin .add (.slc (.var 1) .none (.some (.var 2))) (.tup (.cons (.call 50 (.cons (.var 0) (.cons (.idx (.var 1) (.var 2)) .nil))) .nil))) (.slc (.var 1) (.some (.bin .add (.var 2) (.cst (.int 1)))) .none)))
    .nil) .nil)
    (.cons (.ite (.cmp .eq (.var 3) (.cst (.int 6))) (.cons (.ret (.bin .add (.slc (.var 1) .none (.some (.var 2))) (.slc (.var 1) (.some (.bin .add (.var 2) (.cst (.int 1)))) .none)))
    .nil) .nil)
    (.cons (.ite (.cmp .eq (.var 3) (.cst (.int 7))) (.cons (.ret (.bin .add (.bin .add (.slc (.var 1) .none (.some (.var 2))) (.tup (.cons (.idx (.var 1) (.var 2)) .nil))) (.slc (.var 1) (.some (.var 2)) .none)))
    .nil) .nil)
    (.cons (.ret (.ife (.cmp .eq (.var 3) (.cst (.int 8))) (.bi .list (.cons (.var 1) .nil)) (.bin .add (.bin .add (.slc (.var 1) .none (.some (.var 2))) (.tup (.cons (.call 49 (.cons (.var 0) .nil)) .nil))) (.slc (.var 1) (.some (.bin .add (.var 2) (.cst (.int 1)))) .none))))
    .nil)))))))⟩
def i__law_spots : Mi.Def := ⟨"_law_spots", 0, ["_law_nought_here"],
    (.cons (.asg 0 (.tup (.cons (.cst (.int 0)) (.cons (.cst (.int 1)) .nil))))
    (.cons (.ret (.lst (.cons (.tup (.cons (.var 0) (.cons (.var 0) (.cons (.var 0) .nil)))) (.cons (.tup (.cons (.tup (.cons (.cst (.int 1)) (.cons (.cst (.int 1)) .nil))) (.cons (.var 0) (.cons (.var 0) .nil)))) (.cons (.tup (.cons (.var 0) (.cons (.tup (.cons (.cst (.int 1)) (.cons (.cst (.int 1)) .nil))) (.cons (.var 0) .nil)))) (.cons (.tup (.cons (.var 0) (.cons (.var 0) (.cons (.tup (.cons (.cst (.int 1)) (.cons (.cst (.int 1)) .nil))) .nil)))) .nil))))))
    .nil))⟩
def i__law_square : Mi.Def := ⟨"_law_square", 2, ["_law_one", "_law_two", "_law_gap_here"],
    (.cons (.asg 2 (.call 33 (.cons (.var 0) (.cons (.var 1) .nil))))
    (.cons (.ret (.call 35 (.cons (.var 2) (.cons (.var 2) .nil))))
    .nil))⟩
def i__law_are_forms_right : Mi.Def := ⟨"_law_are_forms_right", 2, ["_law_well_here", "_law_seat", "_law_thing"],
    (.cons (.forr (.nm 2) (.seq (.lst (.cons (.var 1) (.cons (.call 50 (.cons (.var 0) (.cons (.var 1) .nil))) (.cons (.call 50 (.cons (.var 0) (.cons (.var 1) .nil))) (.cons (.call 49 (.cons (.var 0) .nil)) .nil)))))) (.cons (.ite (.cmp .ne (.bi .repr (.cons (.lst (.cons (.call 15 (.cons (.var 2) .nil)) (.cons (.callk 15 (.cons (.var 2) .nil) ["value"] [0]) .nil))) .nil)) (.bi .repr (.cons (.bin .mul (.lst (.cons (.call 48 (.cons (.var 2) .nil)) .nil)) (.cst (.int 2))) .nil))) (.cons (.ret (.cst (.bl false)))
    .nil) .nil)
    .nil))
    (.cons (.ret (.cst (.bl true)))
    .nil))⟩
def i__law_right : Mi.Def := ⟨"_law_right", 1, ["_law_well_here", "_law_one", "_law_two", "_law_three", "_law_spot", "_law_near", "_law_told", "_law_due", "_law_both", "_law_back", "_law_each", "_law_stays", "_law_unlike"],
    (.cons (.asgT [.nm 1, .nm 2] (.tup (.cons (.tup (.cons (.call 42 (.cons (.var 0) .nil)) (.cons (.call 39 (.cons (.var 0) .nil)) .nil))) (.cons (.tup (.cons (.call 42 (.cons (.var 0) .nil)) (.cons (.call 39 (.cons (.var 0) .nil)) .nil))) .nil))))
    (.cons (.asg 2 (.ife (.cmp .eq (.call 24 (.cons (.var 0) (.cons (.cst (.int 8)) .nil))) (.cst (.int 0))) (.var 1) (.var 2)))
    (.cons (.asgP [3, 4, 5] (.cons (.tup (.cons (.call 42 (.cons (.var 0) .nil)) (.cons (.call 39 (.cons (.var 0) .nil)) .nil))) (.cons (.call 40 (.cons (.var 0) .nil)) (.cons (.call 39 (.cons (.var 0) .nil)) .nil))))
    (.cons (.asg 6 (.lst (.cons (.call 20 (.cons (.var 1) (.cons (.var 4) .nil))) (.cons (.callk 20 (.cons (.var 1) (.cons (.var 5) .nil)) ["placing", "point"] [0, 1]) .nil))))
    (.cons (.asg 7 (.comp (.call 32 (.cons (.call 43 (.cons (.idx (.var 1) (.cst (.int 0))) (.cons (.var 10) .nil))) (.cons (.idx (.var 1) (.cst (.int 1))) .nil))) (.nm 10) (.seq (.tup (.cons (.var 4) (.cons (.var 5) .nil)))) .none [("_law_each", 10)]))
    (.cons (.ite (.or (.cmp .ne (.bi .repr (.cons (.var 6) .nil)) (.bi .repr (.cons (.var 7) .nil))) (.one (.cmp .ne (.call 52 (.cons (.idx (.var 6) (.cst (.int 0))) (.cons (.idx (.var 6) (.cst (.int 1))) .nil))) (.call 52 (.cons (.var 4) (.cons (.var 5) .nil)))))) (.cons (.ret (.cst (.bl false)))
    .nil) .nil)
    (.cons (.asgP [8, 9] (.cons (.call 21 (.cons (.var 1) (.cons (.var 2) .nil))) (.cons (.call 22 (.cons (.var 1) .nil)) .nil)))
    (.cons (.ite (.or (.not (.val (.call 48 (.cons (.var 8) .nil)))) (.one (.cmp .ne (.bi .repr (.cons (.callk 21 (.cons (.var 2) (.cons (.var 1) .nil)) ["other", "placing"] [1, 0]) .nil)) (.bi .repr (.cons (.var 8) .nil))))) (.cons (.ret (.cst (.bl false)))
    .nil) .nil)
    (.cons (.forr (.nm 10) (.seq (.bin .add (.call 51 .nil) (.lst (.cons (.var 4) .nil)))) (.cons (.asg 6 (.lst (.cons (.call 20 (.cons (.var 8) (.cons (.var 10) .nil))) (.cons (.call 20 (.cons (.var 9) (.cons (.call 20 (.cons (.var 1) (.cons (.var 10) .nil))) .nil))) (.cons (.call 20 (.cons (.var 1) (.cons (.call 20 (.cons (.var 9) (.cons (.var 10) .nil))) .nil))) .nil)))))
    (.cons (.ite (.cmp .ne (.bi .repr (.cons (.var 6) .nil)) (.bi .repr (.cons (.lst (.cons (.call 20 (.cons (.var 2) (.cons (.call 20 (.cons (.var 1) (.cons (.var 10) .nil))) .nil))) (.cons (.var 10) (.cons (.var 10) .nil)))) .nil))) (.cons (.ret (.cst (.bl false)))
    .nil) .nil)
    .nil)))
    (.cons (.asg 11 (.tup (.cons (.tup (.cons (.cst (.int 1)) (.cons (.cst (.int 0)) (.cons (.cst (.int 0)) (.cons (.cst (.int 0)) .nil))))) (.cons (.call 37 .nil) .nil))))
    (.cons (.asg 6 (.lst (.cons (.call 21 (.cons (.var 1) (.cons (.var 9) .nil))) (.cons (.call 21 (.cons (.var 9) (.cons (.var 1) .nil))) (.cons (.callk 22 (.cons (.var 9) .nil) ["placing"] [0]) .nil)))))
    (.cons (.ite (.cmp .ne (.bi .repr (.cons (.var 6) .nil)) (.bi .repr (.cons (.lst (.cons (.var 11) (.cons (.var 11) (.cons (.var 1) .nil)))) .nil))) (.cons (.ret (.cst (.bl false)))
    .nil) .nil)
    (.cons (.ite (.cmp .ne (.bi .repr (.cons (.call 21 (.cons (.var 8) (.cons (.var 3) .nil))) .nil)) (.bi .repr (.cons (.call 21 (.cons (.var 1) (.cons (.call 21 (.cons (.var 2) (.cons (.var 3) .nil))) .nil))) .nil))) (.cons (.ret (.cst (.bl false)))
    .nil) .nil)
    (.cons (.asg 12 (.comp (.var 10) (.nm 10) (.seq (.call 51 .nil)) (.some (.cmp .ne (.call 20 (.cons (.var 1) (.cons (.var 10) .nil))) (.call 20 (.cons (.var 2) (.cons (.var 10) .nil))))) [("_law_each", 10)]))
    (.cons (.ret (.andv (.cmp .eq (.cmp .eq (.var 12) (.lst .nil)) (.cmp .eq (.var 1) (.var 2))) (.one (.call 53 (.cons (.var 0) (.cons (.var 1) .nil))))))
    .nil)))))))))))))))⟩
def i_law : Mi.Def := ⟨"law", 1, ["_law_script", "_law_turn"],
    (.cons (.ret (.bi .all (.cons (.comp (.call 54 (.cons (.call 23 (.cons (.var 0) (.cons (.var 1) .nil))) .nil)) (.nm 1) (.rng (.bi .max (.cons (.cst (.int 2)) (.cons (.bi .min (.cons (.bi .len (.cons (.var 0) .nil)) (.cons (.cst (.int 3)) .nil))) .nil)))) .none [("_law_turn", 1)]) .nil)))
    .nil)⟩
def iT : List Mi.Def := [i_ratio, i_ratio_sum, i_ratio_product, i_over_common, i_without_common, i_forward, i_vector_sum, i_vector_times, i_whole_cross, i_is_whole, i_is_fraction, i_is_triple, i_check_triple, i_are_four_wholes, i_is_turning, i_is_placing, i_check_placing, i_led_vector, i_joined_parts, i_back_parts, i_placed, i_joined_placings, i_back_placing, i__law_well, i__law_draw, i__law_pick, i__law_low, i__law_far, i__law_ratio, i__law_plus, i__law_less, i__law_by, i__law_sum, i__law_gap, i__law_times, i__law_dot, i__law_cross, i__law_nought, i__law_part, i__law_row, i__law_wide, i__law_lean, i__law_turning, i__law_turned, i__law_is_whole, i__law_is_ratio, i__law_are_ratios, i__law_is_turning, i__law_is_placing, i__law_odd, i__law_bent, i__law_spots, i__law_square, i__law_are_forms_right, i__law_right, i_law]
def kwT : List (Nat × List PySem.Str × List Nat) := [(15, ["value"], [0]), (20, ["placing", "point"], [0, 1]), (21, ["other", "placing"], [1, 0]), (22, ["placing"], [0])]
def gcT : List (PySem.Str × Mi.D) := []
def Tk : Nat → Option Mi.Def := fun f => iT[f]?
def Wk (F : Nat) (cs : List (Addr × Addr)) : Wld :=
  { T := Tk, F := F, nm := fun f => (iT[f]?).map (·.name), gc := fun x d => gcT.any fun p => decide (p.1 = x) && Mi.dB p.2 d, mt := true,
    kw := fun f names => (kwT.find? fun q => decide (q.1 = f) && decide (q.2.1 = names)).map (·.2.2), cs := cs }
def top (i : Nat) : Stmt := PySem.Challenge.pw_sevenpins_k06_whole_placings_joined_and.main.body.getD i (.Pass ⟨0, 0, 0, 0⟩)
def d_ratio : He.DefD := ⟨("ratio", none), "ratio", "ratio", defArgs (top 6), defBody (top 6), defScope (top 6), [], []⟩
def d_ratio_sum : He.DefD := ⟨("ratio_sum", none), "ratio_sum", "ratio_sum", defArgs (top 7), defBody (top 7), defScope (top 7), [], []⟩
def d_ratio_product : He.DefD := ⟨("ratio_product", none), "ratio_product", "ratio_product", defArgs (top 8), defBody (top 8), defScope (top 8), [], []⟩
def d_over_common : He.DefD := ⟨("over_common", none), "over_common", "over_common", defArgs (top 9), defBody (top 9), defScope (top 9), [], []⟩
def d_without_common : He.DefD := ⟨("without_common", none), "without_common", "without_common", defArgs (top 10), defBody (top 10), defScope (top 10), [], []⟩
def d_forward : He.DefD := ⟨("forward", none), "forward", "forward", defArgs (top 11), defBody (top 11), defScope (top 11), [], []⟩
def d_vector_sum : He.DefD := ⟨("vector_sum", none), "vector_sum", "vector_sum", defArgs (top 13), defBody (top 13), defScope (top 13), [], []⟩
def d_vector_times : He.DefD := ⟨("vector_times", none), "vector_times", "vector_times", defArgs (top 14), defBody (top 14), defScope (top 14), [], []⟩
def d_whole_cross : He.DefD := ⟨("whole_cross", none), "whole_cross", "whole_cross", defArgs (top 15), defBody (top 15), defScope (top 15), [], []⟩
def d_is_whole : He.DefD := ⟨("is_whole", none), "is_whole", "is_whole", defArgs (top 17), defBody (top 17), defScope (top 17), [], []⟩
def d_is_fraction : He.DefD := ⟨("is_fraction", none), "is_fraction", "is_fraction", defArgs (top 18), defBody (top 18), defScope (top 18), [], []⟩
def d_is_triple : He.DefD := ⟨("is_triple", none), "is_triple", "is_triple", defArgs (top 19), defBody (top 19), defScope (top 19), [], []⟩
def d_check_triple : He.DefD := ⟨("check_triple", none), "check_triple", "check_triple", defArgs (top 20), defBody (top 20), defScope (top 20), [], []⟩
def d_are_four_wholes : He.DefD := ⟨("are_four_wholes", none), "are_four_wholes", "are_four_wholes", defArgs (top 22), defBody (top 22), defScope (top 22), [], []⟩
def d_is_turning : He.DefD := ⟨("is_turning", none), "is_turning", "is_turning", defArgs (top 23), defBody (top 23), defScope (top 23), [], []⟩
def d_is_placing : He.DefD := ⟨("is_placing", none), "is_placing", "is_placing", defArgs (top 24), defBody (top 24), defScope (top 24), [], []⟩
def d_check_placing : He.DefD := ⟨("check_placing", none), "check_placing", "check_placing", defArgs (top 25), defBody (top 25), defScope (top 25), [], []⟩
def d_led_vector : He.DefD := ⟨("led_vector", none), "led_vector", "led_vector", defArgs (top 26), defBody (top 26), defScope (top 26), [], []⟩
def d_joined_parts : He.DefD := ⟨("joined_parts", none), "joined_parts", "joined_parts", defArgs (top 27), defBody (top 27), defScope (top 27), [], []⟩
def d_back_parts : He.DefD := ⟨("back_parts", none), "back_parts", "back_parts", defArgs (top 28), defBody (top 28), defScope (top 28), [], []⟩
def d_placed : He.DefD := ⟨("placed", none), "placed", "placed", defArgs (top 29), defBody (top 29), defScope (top 29), [], []⟩
def d_joined_placings : He.DefD := ⟨("joined_placings", none), "joined_placings", "joined_placings", defArgs (top 30), defBody (top 30), defScope (top 30), [], []⟩
def d_back_placing : He.DefD := ⟨("back_placing", none), "back_placing", "back_placing", defArgs (top 31), defBody (top 31), defScope (top 31), [], []⟩
def d__law_well : He.DefD := ⟨("_law_well", none), "_law_well", "_law_well", defArgs (top 33), defBody (top 33), defScope (top 33), [], []⟩
def d__law_draw : He.DefD := ⟨("_law_draw", none), "_law_draw", "_law_draw", defArgs (top 34), defBody (top 34), defScope (top 34), [], []⟩
def d__law_pick : He.DefD := ⟨("_law_pick", none), "_law_pick", "_law_pick", defArgs (top 35), defBody (top 35), defScope (top 35), [], []⟩
def d__law_low : He.DefD := ⟨("_law_low", none), "_law_low", "_law_low", defArgs (top 36), defBody (top 36), defScope (top 36), [], []⟩
def d__law_far : He.DefD := ⟨("_law_far", none), "_law_far", "_law_far", defArgs (top 37), defBody (top 37), defScope (top 37), [], []⟩
def d__law_ratio : He.DefD := ⟨("_law_ratio", none), "_law_ratio", "_law_ratio", defArgs (top 38), defBody (top 38), defScope (top 38), [], []⟩
def d__law_plus : He.DefD := ⟨("_law_plus", none), "_law_plus", "_law_plus", defArgs (top 39), defBody (top 39), defScope (top 39), [], []⟩
def d__law_less : He.DefD := ⟨("_law_less", none), "_law_less", "_law_less", defArgs (top 40), defBody (top 40), defScope (top 40), [], []⟩
def d__law_by : He.DefD := ⟨("_law_by", none), "_law_by", "_law_by", defArgs (top 41), defBody (top 41), defScope (top 41), [], []⟩
def d__law_sum : He.DefD := ⟨("_law_sum", none), "_law_sum", "_law_sum", defArgs (top 42), defBody (top 42), defScope (top 42), [], []⟩
def d__law_gap : He.DefD := ⟨("_law_gap", none), "_law_gap", "_law_gap", defArgs (top 43), defBody (top 43), defScope (top 43), [], []⟩
def d__law_times : He.DefD := ⟨("_law_times", none), "_law_times", "_law_times", defArgs (top 44), defBody (top 44), defScope (top 44), [], []⟩
def d__law_dot : He.DefD := ⟨("_law_dot", none), "_law_dot", "_law_dot", defArgs (top 45), defBody (top 45), defScope (top 45), [], []⟩
def d__law_cross : He.DefD := ⟨("_law_cross", none), "_law_cross", "_law_cross", defArgs (top 46), defBody (top 46), defScope (top 46), [], []⟩
def d__law_nought : He.DefD := ⟨("_law_nought", none), "_law_nought", "_law_nought", defArgs (top 47), defBody (top 47), defScope (top 47), [], []⟩
def d__law_part : He.DefD := ⟨("_law_part", none), "_law_part", "_law_part", defArgs (top 48), defBody (top 48), defScope (top 48), [], []⟩
def d__law_row : He.DefD := ⟨("_law_row", none), "_law_row", "_law_row", defArgs (top 49), defBody (top 49), defScope (top 49), [], []⟩
def d__law_wide : He.DefD := ⟨("_law_wide", none), "_law_wide", "_law_wide", defArgs (top 50), defBody (top 50), defScope (top 50), [], []⟩
def d__law_lean : He.DefD := ⟨("_law_lean", none), "_law_lean", "_law_lean", defArgs (top 51), defBody (top 51), defScope (top 51), [], []⟩
def d__law_turning : He.DefD := ⟨("_law_turning", none), "_law_turning", "_law_turning", defArgs (top 52), defBody (top 52), defScope (top 52), [], []⟩
def d__law_turned : He.DefD := ⟨("_law_turned", none), "_law_turned", "_law_turned", defArgs (top 53), defBody (top 53), defScope (top 53), [], []⟩
def d__law_is_whole : He.DefD := ⟨("_law_is_whole", none), "_law_is_whole", "_law_is_whole", defArgs (top 54), defBody (top 54), defScope (top 54), [], []⟩
def d__law_is_ratio : He.DefD := ⟨("_law_is_ratio", none), "_law_is_ratio", "_law_is_ratio", defArgs (top 55), defBody (top 55), defScope (top 55), [], []⟩
def d__law_are_ratios : He.DefD := ⟨("_law_are_ratios", none), "_law_are_ratios", "_law_are_ratios", defArgs (top 56), defBody (top 56), defScope (top 56), [], []⟩
def d__law_is_turning : He.DefD := ⟨("_law_is_turning", none), "_law_is_turning", "_law_is_turning", defArgs (top 57), defBody (top 57), defScope (top 57), [], []⟩
def d__law_is_placing : He.DefD := ⟨("_law_is_placing", none), "_law_is_placing", "_law_is_placing", defArgs (top 58), defBody (top 58), defScope (top 58), [], []⟩
def d__law_odd : He.DefD := ⟨("_law_odd", none), "_law_odd", "_law_odd", defArgs (top 59), defBody (top 59), defScope (top 59), [], []⟩
def d__law_bent : He.DefD := ⟨("_law_bent", none), "_law_bent", "_law_bent", defArgs (top 60), defBody (top 60), defScope (top 60), [], []⟩
def d__law_spots : He.DefD := ⟨("_law_spots", none), "_law_spots", "_law_spots", defArgs (top 61), defBody (top 61), defScope (top 61), [], []⟩
def d__law_square : He.DefD := ⟨("_law_square", none), "_law_square", "_law_square", defArgs (top 62), defBody (top 62), defScope (top 62), [], []⟩
def d__law_are_forms_right : He.DefD := ⟨("_law_are_forms_right", none), "_law_are_forms_right", "_law_are_forms_right", defArgs (top 63), defBody (top 63), defScope (top 63), [], []⟩
def d__law_right : He.DefD := ⟨("_law_right", none), "_law_right", "_law_right", defArgs (top 64), defBody (top 64), defScope (top 64), [], []⟩
def d_law : He.DefD := ⟨("law", none), "law", "law", defArgs (top 65), defBody (top 65), defScope (top 65), [], []⟩
def fn : List He.DefD := [d_ratio, d_ratio_sum, d_ratio_product, d_over_common, d_without_common, d_forward, d_vector_sum, d_vector_times, d_whole_cross, d_is_whole, d_is_fraction, d_is_triple, d_check_triple, d_are_four_wholes, d_is_turning, d_is_placing, d_check_placing, d_led_vector, d_joined_parts, d_back_parts, d_placed, d_joined_placings, d_back_placing, d__law_well, d__law_draw, d__law_pick, d__law_low, d__law_far, d__law_ratio, d__law_plus, d__law_less, d__law_by, d__law_sum, d__law_gap, d__law_times, d__law_dot, d__law_cross, d__law_nought, d__law_part, d__law_row, d__law_wide, d__law_lean, d__law_turning, d__law_turned, d__law_is_whole, d__law_is_ratio, d__law_are_ratios, d__law_is_turning, d__law_is_placing, d__law_odd, d__law_bent, d__law_spots, d__law_square, d__law_are_forms_right, d__law_right, d_law]
def fa : List He.Fa := [.glo "ratio", .glo "ratio_sum", .glo "ratio_product", .glo "over_common", .glo "without_common", .glo "forward", .glo "vector_sum", .glo "vector_times", .glo "whole_cross", .glo "is_whole", .glo "is_fraction", .glo "is_triple", .glo "check_triple", .glo "are_four_wholes", .glo "is_turning", .glo "is_placing", .glo "check_placing", .glo "led_vector", .glo "joined_parts", .glo "back_parts", .glo "placed", .glo "joined_placings", .glo "back_placing", .glo "_law_well", .glo "_law_draw", .glo "_law_pick", .glo "_law_low", .glo "_law_far", .glo "_law_ratio", .glo "_law_plus", .glo "_law_less", .glo "_law_by", .glo "_law_sum", .glo "_law_gap", .glo "_law_times", .glo "_law_dot", .glo "_law_cross", .glo "_law_nought", .glo "_law_part", .glo "_law_row", .glo "_law_wide", .glo "_law_lean", .glo "_law_turning", .glo "_law_turned", .glo "_law_is_whole", .glo "_law_is_ratio", .glo "_law_are_ratios", .glo "_law_is_turning", .glo "_law_is_placing", .glo "_law_odd", .glo "_law_bent", .glo "_law_spots", .glo "_law_square", .glo "_law_are_forms_right", .glo "_law_right", .glo "law", .free "ValueError", .free "abs", .free "all", .free "any", .free "bool", .free "divmod", .free "int", .free "isinstance", .free "len", .free "list", .free "max", .free "min", .free "range", .free "repr", .free "str", .free "sum", .free "super", .free "tuple", .free "zip", .free "enumerate"]
def tf : List He.Defn := [("vector_sum", none), ("vector_times", none), ("is_triple", none), ("are_four_wholes", none), ("led_vector", none)]
def loose0 : List PySem.Str := ["__name__", "ScrewError", "InvalidTriple", "InvalidPlacing", "ratio", "ratio_sum", "ratio_product", "over_common", "without_common", "forward", "vector_sum", "vector_times", "whole_cross", "is_whole", "is_fraction", "is_triple", "check_triple", "are_four_wholes", "is_turning", "is_placing", "check_placing", "led_vector", "joined_parts", "back_parts", "placed", "joined_placings", "back_placing", "_law_well", "_law_draw", "_law_pick"]
def loose1 : List PySem.Str := ["_law_low", "_law_far", "_law_ratio", "_law_plus", "_law_less", "_law_by", "_law_sum", "_law_gap", "_law_times", "_law_dot", "_law_cross", "_law_nought", "_law_part", "_law_row", "_law_wide", "_law_lean", "_law_turning", "_law_turned", "_law_is_whole", "_law_is_ratio", "_law_are_ratios", "_law_is_turning", "_law_is_placing", "_law_odd", "_law_bent", "_law_spots", "_law_square", "_law_are_forms_right", "_law_right"]
def loose : List PySem.Str := loose0 ++ loose1
def ex (K : PySem.W.Frag) : Bool := He.eqO (PySem.W.nsIn K mainGlobals "gcd") (some (some (.builtin "math.gcd"))) && He.eqO (PySem.W.nsIn K mainGlobals "lcm") (some (some (.builtin "math.lcm"))) && Mi.cstK K gcT
abbrev R : PySem.W.OpenRow := PySem.W.OpenLaw.row PySem.Challenge.rw_sevenpins_k06_whole_placings_joined_and
abbrev hk : PySem.W.Hook := He.hookX 4 fa fn [] tf ex
def ob (s : PySem.W.SharedT) : He.AlX := He.obsX 4 fa fn [] tf ex (HandSHeadRun.getT s)
theorem ob_eq (s : PySem.W.SharedT) : ob s = hk.obs s.abs := He.obsX_eq (HandSHeadRun.getT_eq s)
def fn_0 : List He.DefD := [d_ratio, d_ratio_sum, d_ratio_product, d_over_common, d_without_common, d_forward, d_vector_sum, d_vector_times, d_whole_cross, d_is_whole, d_is_fraction, d_is_triple, d_check_triple, d_are_four_wholes, d_is_turning, d_is_placing, d_check_placing, d_led_vector, d_joined_parts, d_back_parts, d_placed, d_joined_placings, d_back_placing, d__law_well, d__law_draw, d__law_pick, d__law_low, d__law_far]
def fa_0 : List He.Fa := [.glo "ratio", .glo "ratio_sum", .glo "ratio_product", .glo "over_common", .glo "without_common", .glo "forward", .glo "vector_sum", .glo "vector_times", .glo "whole_cross", .glo "is_whole", .glo "is_fraction", .glo "is_triple", .glo "check_triple", .glo "are_four_wholes", .glo "is_turning", .glo "is_placing", .glo "check_placing", .glo "led_vector", .glo "joined_parts", .glo "back_parts", .glo "placed", .glo "joined_placings", .glo "back_placing", .glo "_law_well", .glo "_law_draw", .glo "_law_pick", .glo "_law_low", .glo "_law_far"]
def tf_0 : List He.Defn := [("vector_sum", none), ("vector_times", none), ("is_triple", none)]
theorem run_0 (w : World) : Mi.RunP R 8600 w (fun x => He.obsX 4 fa_0 fn_0 [] tf_0 ex (HandSHeadRun.getT x.2)) (He.valX fn_0 [] w) := by
  unfold Mi.RunP
  kernel_rfl
def fn_1 : List He.DefD := [d__law_ratio, d__law_plus, d__law_less, d__law_by, d__law_sum, d__law_gap, d__law_times, d__law_dot, d__law_cross, d__law_nought, d__law_part, d__law_row, d__law_wide, d__law_lean, d__law_turning, d__law_turned, d__law_is_whole, d__law_is_ratio, d__law_are_ratios, d__law_is_turning, d__law_is_placing, d__law_odd, d__law_bent, d__law_spots, d__law_square, d__law_are_forms_right, d__law_right, d_law]
def fa_1 : List He.Fa := [.glo "_law_ratio", .glo "_law_plus", .glo "_law_less", .glo "_law_by", .glo "_law_sum", .glo "_law_gap", .glo "_law_times", .glo "_law_dot", .glo "_law_cross", .glo "_law_nought", .glo "_law_part", .glo "_law_row", .glo "_law_wide", .glo "_law_lean", .glo "_law_turning", .glo "_law_turned", .glo "_law_is_whole", .glo "_law_is_ratio", .glo "_law_are_ratios", .glo "_law_is_turning", .glo "_law_is_placing", .glo "_law_odd", .glo "_law_bent", .glo "_law_spots", .glo "_law_square", .glo "_law_are_forms_right", .glo "_law_right", .glo "law", .free "ValueError", .free "abs", .free "all", .free "any", .free "bool", .free "divmod", .free "int", .free "isinstance", .free "len", .free "list", .free "max", .free "min", .free "range", .free "repr", .free "str", .free "sum", .free "super", .free "tuple", .free "zip", .free "enumerate"]
def tf_1 : List He.Defn := [("are_four_wholes", none), ("led_vector", none)]
theorem run_1 (w : World) : Mi.RunP R 8600 w (fun x => He.obsX 4 fa_1 fn_1 [] tf_1 (fun _ => true) (HandSHeadRun.getT x.2)) (He.valX fn_1 [] w) := by
  unfold Mi.RunP
  kernel_rfl
open HandSHeadRun PySem.W PySem.Calls in
theorem run_s (w : World) : Mi.RunP R 8600 w (fun x => (looksF R.prog x.1.heap x.2.abs, seenQ (PySem.W.view R.prog [0, 65]) loose (importedModules R.prog.main.body) (fun s => xlAt (PySem.W.view R.prog [0, 65]) [] s && recOk R.toRowW.records s) x.2.abs)) (true, openGood (PySem.W.view R.prog [0, 65]) loose) := by
  unfold Mi.RunP
  kernel_rfl
theorem run (w : World) : HandSHeadRun.RunEqI R (PySem.W.view R.prog [0, 65]) hk ob 8600 loose w := by
  have e1 : fa_0 ++ (fa_1) = fa := rfl
  have e2 : fn_0 ++ (fn_1) = fn := rfl
  have e3 : tf_0 ++ (tf_1) = tf := rfl
  have e4 : (fun K => ex K && (true)) = ex := by
    funext K
    simp only [Bool.and_true, Bool.true_and]
  have h := Mi.runp_app (run_0 w) (run_1 w)
  simp only [e1, e2, e3, e4] at h
  exact Mi.run_of (run_s w) h
theorem ok_ratio (F : Nat) (cs : List (Addr × Addr)) : okSs (Wk F cs) i_ratio.names false d_ratio.scope i_ratio.body d_ratio.body = true := by kernel_rfl
theorem ok_ratio_sum (F : Nat) (cs : List (Addr × Addr)) : okSs (Wk F cs) i_ratio_sum.names false d_ratio_sum.scope i_ratio_sum.body d_ratio_sum.body = true := by kernel_rfl
theorem ok_ratio_product (F : Nat) (cs : List (Addr × Addr)) : okSs (Wk F cs) i_ratio_product.names false d_ratio_product.scope i_ratio_product.body d_ratio_product.body = true := by kernel_rfl
theorem ok_over_common (F : Nat) (cs : List (Addr × Addr)) : okSs (Wk F cs) i_over_common.names false d_over_common.scope i_over_common.body d_over_common.body = true := by kernel_rfl
theorem ok_without_common (F : Nat) (cs : List (Addr × Addr)) : okSs (Wk F cs) i_without_common.names false d_without_common.scope i_without_common.body d_without_common.body = true := by kernel_rfl
theorem ok_forward (F : Nat) (cs : List (Addr × Addr)) : okSs (Wk F cs) i_forward.names false d_forward.scope i_forward.body d_forward.body = true := by kernel_rfl
theorem ok_vector_sum (F : Nat) (cs : List (Addr × Addr)) : okSs (Wk F cs) i_vector_sum.names true d_vector_sum.scope i_vector_sum.body d_vector_sum.body = true := by kernel_rfl
theorem ok_vector_times (F : Nat) (cs : List (Addr × Addr)) : okSs (Wk F cs) i_vector_times.names true d_vector_times.scope i_vector_times.body d_vector_times.body = true := by kernel_rfl
theorem ok_whole_cross (F : Nat) (cs : List (Addr × Addr)) : okSs (Wk F cs) i_whole_cross.names false d_whole_cross.scope i_whole_cross.body d_whole_cross.body = true := by kernel_rfl
theorem ok_is_whole (F : Nat) (cs : List (Addr × Addr)) : okSs (Wk F cs) i_is_whole.names false d_is_whole.scope i_is_whole.body d_is_whole.body = true := by kernel_rfl
theorem ok_is_fraction (F : Nat) (cs : List (Addr × Addr)) : okSs (Wk F cs) i_is_fraction.names false d_is_fraction.scope i_is_fraction.body d_is_fraction.body = true := by kernel_rfl
theorem ok_is_triple (F : Nat) (cs : List (Addr × Addr)) : okSs (Wk F cs) i_is_triple.names true d_is_triple.scope i_is_triple.body d_is_triple.body = true := by kernel_rfl
theorem ok_check_triple (F : Nat) (cs : List (Addr × Addr)) : okSs (Wk F cs) i_check_triple.names false d_check_triple.scope i_check_triple.body d_check_triple.body = true := by kernel_rfl
theorem ok_are_four_wholes (F : Nat) (cs : List (Addr × Addr)) : okSs (Wk F cs) i_are_four_wholes.names true d_are_four_wholes.scope i_are_four_wholes.body d_are_four_wholes.body = true := by kernel_rfl
theorem ok_is_turning (F : Nat) (cs : List (Addr × Addr)) : okSs (Wk F cs) i_is_turning.names false d_is_turning.scope i_is_turning.body d_is_turning.body = true := by kernel_rfl
theorem ok_is_placing (F : Nat) (cs : List (Addr × Addr)) : okSs (Wk F cs) i_is_placing.names false d_is_placing.scope i_is_placing.body d_is_placing.body = true := by kernel_rfl
theorem ok_check_placing (F : Nat) (cs : List (Addr × Addr)) : okSs (Wk F cs) i_check_placing.names false d_check_placing.scope i_check_placing.body d_check_placing.body = true := by kernel_rfl
theorem ok_led_vector (F : Nat) (cs : List (Addr × Addr)) : okSs (Wk F cs) i_led_vector.names true d_led_vector.scope i_led_vector.body d_led_vector.body = true := by kernel_rfl
theorem ok_joined_parts (F : Nat) (cs : List (Addr × Addr)) : okSs (Wk F cs) i_joined_parts.names false d_joined_parts.scope i_joined_parts.body d_joined_parts.body = true := by kernel_rfl
theorem ok_back_parts (F : Nat) (cs : List (Addr × Addr)) : okSs (Wk F cs) i_back_parts.names false d_back_parts.scope i_back_parts.body d_back_parts.body = true := by kernel_rfl
theorem ok_placed (F : Nat) (cs : List (Addr × Addr)) : okSs (Wk F cs) i_placed.names false d_placed.scope i_placed.body d_placed.body = true := by kernel_rfl
theorem ok_joined_placings (F : Nat) (cs : List (Addr × Addr)) : okSs (Wk F cs) i_joined_placings.names false d_joined_placings.scope i_joined_placings.body d_joined_placings.body = true := by kernel_rfl
theorem ok_back_placing (F : Nat) (cs : List (Addr × Addr)) : okSs (Wk F cs) i_back_placing.names false d_back_placing.scope i_back_placing.body d_back_placing.body = true := by kernel_rfl
theorem ok__law_well (F : Nat) (cs : List (Addr × Addr)) : okSs (Wk F cs) i__law_well.names false d__law_well.scope i__law_well.body d__law_well.body = true := by kernel_rfl
theorem ok__law_draw (F : Nat) (cs : List (Addr × Addr)) : okSs (Wk F cs) i__law_draw.names false d__law_draw.scope i__law_draw.body d__law_draw.body = true := by kernel_rfl
theorem ok__law_pick (F : Nat) (cs : List (Addr × Addr)) : okSs (Wk F cs) i__law_pick.names false d__law_pick.scope i__law_pick.body d__law_pick.body = true := by kernel_rfl
theorem ok__law_low (F : Nat) (cs : List (Addr × Addr)) : okSs (Wk F cs) i__law_low.names false d__law_low.scope i__law_low.body d__law_low.body = true := by kernel_rfl
theorem ok__law_far (F : Nat) (cs : List (Addr × Addr)) : okSs (Wk F cs) i__law_far.names false d__law_far.scope i__law_far.body d__law_far.body = true := by kernel_rfl
theorem ok__law_ratio (F : Nat) (cs : List (Addr × Addr)) : okSs (Wk F cs) i__law_ratio.names false d__law_ratio.scope i__law_ratio.body d__law_ratio.body = true := by kernel_rfl
theorem ok__law_plus (F : Nat) (cs : List (Addr × Addr)) : okSs (Wk F cs) i__law_plus.names false d__law_plus.scope i__law_plus.body d__law_plus.body = true := by kernel_rfl
theorem ok__law_less (F : Nat) (cs : List (Addr × Addr)) : okSs (Wk F cs) i__law_less.names false d__law_less.scope i__law_less.body d__law_less.body = true := by kernel_rfl
theorem ok__law_by (F : Nat) (cs : List (Addr × Addr)) : okSs (Wk F cs) i__law_by.names false d__law_by.scope i__law_by.body d__law_by.body = true := by kernel_rfl
theorem ok__law_sum (F : Nat) (cs : List (Addr × Addr)) : okSs (Wk F cs) i__law_sum.names false d__law_sum.scope i__law_sum.body d__law_sum.body = true := by kernel_rfl
theorem ok__law_gap (F : Nat) (cs : List (Addr × Addr)) : okSs (Wk F cs) i__law_gap.names false d__law_gap.scope i__law_gap.body d__law_gap.body = true := by kernel_rfl
theorem ok__law_times (F : Nat) (cs : List (Addr × Addr)) : okSs (Wk F cs) i__law_times.names false d__law_times.scope i__law_times.body d__law_times.body = true := by kernel_rfl
theorem ok__law_dot (F : Nat) (cs : List (Addr × Addr)) : okSs (Wk F cs) i__law_dot.names false d__law_dot.scope i__law_dot.body d__law_dot.body = true := by kernel_rfl
theorem ok__law_cross (F : Nat) (cs : List (Addr × Addr)) : okSs (Wk F cs) i__law_cross.names false d__law_cross.scope i__law_cross.body d__law_cross.body = true := by kernel_rfl
theorem ok__law_nought (F : Nat) (cs : List (Addr × Addr)) : okSs (Wk F cs) i__law_nought.names false d__law_nought.scope i__law_nought.body d__law_nought.body = true := by kernel_rfl
theorem ok__law_part (F : Nat) (cs : List (Addr × Addr)) : okSs (Wk F cs) i__law_part.names false d__law_part.scope i__law_part.body d__law_part.body = true := by kernel_rfl
theorem ok__law_row (F : Nat) (cs : List (Addr × Addr)) : okSs (Wk F cs) i__law_row.names false d__law_row.scope i__law_row.body d__law_row.body = true := by kernel_rfl
theorem ok__law_wide (F : Nat) (cs : List (Addr × Addr)) : okSs (Wk F cs) i__law_wide.names false d__law_wide.scope i__law_wide.body d__law_wide.body = true := by kernel_rfl
theorem ok__law_lean (F : Nat) (cs : List (Addr × Addr)) : okSs (Wk F cs) i__law_lean.names false d__law_lean.scope i__law_lean.body d__law_lean.body = true := by kernel_rfl
theorem ok__law_turning (F : Nat) (cs : List (Addr × Addr)) : okSs (Wk F cs) i__law_turning.names false d__law_turning.scope i__law_turning.body d__law_turning.body = true := by kernel_rfl
theorem ok__law_turned (F : Nat) (cs : List (Addr × Addr)) : okSs (Wk F cs) i__law_turned.names false d__law_turned.scope i__law_turned.body d__law_turned.body = true := by kernel_rfl
theorem ok__law_is_whole (F : Nat) (cs : List (Addr × Addr)) : okSs (Wk F cs) i__law_is_whole.names false d__law_is_whole.scope i__law_is_whole.body d__law_is_whole.body = true := by kernel_rfl
theorem ok__law_is_ratio (F : Nat) (cs : List (Addr × Addr)) : okSs (Wk F cs) i__law_is_ratio.names false d__law_is_ratio.scope i__law_is_ratio.body d__law_is_ratio.body = true := by kernel_rfl
theorem ok__law_are_ratios (F : Nat) (cs : List (Addr × Addr)) : okSs (Wk F cs) i__law_are_ratios.names false d__law_are_ratios.scope i__law_are_ratios.body d__law_are_ratios.body = true := by kernel_rfl
theorem ok__law_is_turning (F : Nat) (cs : List (Addr × Addr)) : okSs (Wk F cs) i__law_is_turning.names false d__law_is_turning.scope i__law_is_turning.body d__law_is_turning.body = true := by kernel_rfl
theorem ok__law_is_placing (F : Nat) (cs : List (Addr × Addr)) : okSs (Wk F cs) i__law_is_placing.names false d__law_is_placing.scope i__law_is_placing.body d__law_is_placing.body = true := by kernel_rfl
theorem ok__law_odd (F : Nat) (cs : List (Addr × Addr)) : okSs (Wk F cs) i__law_odd.names false d__law_odd.scope i__law_odd.body d__law_odd.body = true := by kernel_rfl
theorem ok__law_bent (F : Nat) (cs : List (Addr × Addr)) : okSs (Wk F cs) i__law_bent.names false d__law_bent.scope i__law_bent.body d__law_bent.body = true := by kernel_rfl
theorem ok__law_spots (F : Nat) (cs : List (Addr × Addr)) : okSs (Wk F cs) i__law_spots.names false d__law_spots.scope i__law_spots.body d__law_spots.body = true := by kernel_rfl
theorem ok__law_square (F : Nat) (cs : List (Addr × Addr)) : okSs (Wk F cs) i__law_square.names false d__law_square.scope i__law_square.body d__law_square.body = true := by kernel_rfl
theorem ok__law_are_forms_right (F : Nat) (cs : List (Addr × Addr)) : okSs (Wk F cs) i__law_are_forms_right.names false d__law_are_forms_right.scope i__law_are_forms_right.body d__law_are_forms_right.body = true := by kernel_rfl
theorem ok__law_right (F : Nat) (cs : List (Addr × Addr)) : okSs (Wk F cs) i__law_right.names false d__law_right.scope i__law_right.body d__law_right.body = true := by kernel_rfl
theorem ok_law (F : Nat) (cs : List (Addr × Addr)) : okSs (Wk F cs) i_law.names false d_law.scope i_law.body d_law.body = true := by kernel_rfl
theorem kw_ratio (cs : List (Addr × Addr)) {F : Nat} : ∀ names perm, (Wk F cs).kw 0 names = some perm → ∀ (kV doc pm : Value) (an : Option Addr) (cdv ct : Value) (us zs : List Value), perm.mapM (fun i => us[i]?) = some zs → us.length = names.length → zs.length = (["above", "below"] : List PySem.Str).length →
      bindArgs (PySem.W.fnOf d_ratio.name d_ratio.qual d_ratio.params d_ratio.body d_ratio.scope .none kV doc pm an cdv ct) ⟨[], names.zip us⟩ = pure ((["above", "below"] : List PySem.Str).zip zs) := by
  intro names perm hkw kV doc pm an cdv ct us zs h1 h2 h3
  have e : (kwT.find? fun q => decide (q.1 = 0) && decide (q.2.1 = names)) = none := by
    simp [kwT]
  unfold Wk at hkw
  simp only [e, Option.map_none] at hkw
  cases hkw
theorem kw_ratio_sum (cs : List (Addr × Addr)) {F : Nat} : ∀ names perm, (Wk F cs).kw 1 names = some perm → ∀ (kV doc pm : Value) (an : Option Addr) (cdv ct : Value) (us zs : List Value), perm.mapM (fun i => us[i]?) = some zs → us.length = names.length → zs.length = (["first", "second"] : List PySem.Str).length →
      bindArgs (PySem.W.fnOf d_ratio_sum.name d_ratio_sum.qual d_ratio_sum.params d_ratio_sum.body d_ratio_sum.scope .none kV doc pm an cdv ct) ⟨[], names.zip us⟩ = pure ((["first", "second"] : List PySem.Str).zip zs) := by
  intro names perm hkw kV doc pm an cdv ct us zs h1 h2 h3
  have e : (kwT.find? fun q => decide (q.1 = 1) && decide (q.2.1 = names)) = none := by
    simp [kwT]
  unfold Wk at hkw
  simp only [e, Option.map_none] at hkw
  cases hkw
theorem kw_ratio_product (cs : List (Addr × Addr)) {F : Nat} : ∀ names perm, (Wk F cs).kw 2 names = some perm → ∀ (kV doc pm : Value) (an : Option Addr) (cdv ct : Value) (us zs : List Value), perm.mapM (fun i => us[i]?) = some zs → us.length = names.length → zs.length = (["first", "second"] : List PySem.Str).length →
      bindArgs (PySem.W.fnOf d_ratio_product.name d_ratio_product.qual d_ratio_product.params d_ratio_product.body d_ratio_product.scope .none kV doc pm an cdv ct) ⟨[], names.zip us⟩ = pure ((["first", "second"] : List PySem.Str).zip zs) := by
  intro names perm hkw kV doc pm an cdv ct us zs h1 h2 h3
  have e : (kwT.find? fun q => decide (q.1 = 2) && decide (q.2.1 = names)) = none := by
    simp [kwT]
  unfold Wk at hkw
  simp only [e, Option.map_none] at hkw
  cases hkw
theorem kw_over_common (cs : List (Addr × Addr)) {F : Nat} : ∀ names perm, (Wk F cs).kw 3 names = some perm → ∀ (kV doc pm : Value) (an : Option Addr) (cdv ct : Value) (us zs : List Value), perm.mapM (fun i => us[i]?) = some zs → us.length = names.length → zs.length = (["fractions"] : List PySem.Str).length →
      bindArgs (PySem.W.fnOf d_over_common.name d_over_common.qual d_over_common.params d_over_common.body d_over_common.scope .none kV doc pm an cdv ct) ⟨[], names.zip us⟩ = pure ((["fractions"] : List PySem.Str).zip zs) := by
  intro names perm hkw kV doc pm an cdv ct us zs h1 h2 h3
  have e : (kwT.find? fun q => decide (q.1 = 3) && decide (q.2.1 = names)) = none := by
    simp [kwT]
  unfold Wk at hkw
  simp only [e, Option.map_none] at hkw
  cases hkw
theorem kw_without_common (cs : List (Addr × Addr)) {F : Nat} : ∀ names perm, (Wk F cs).kw 4 names = some perm → ∀ (kV doc pm : Value) (an : Option Addr) (cdv ct : Value) (us zs : List Value), perm.mapM (fun i => us[i]?) = some zs → us.length = names.length → zs.length = (["numbers"] : List PySem.Str).length →
      bindArgs (PySem.W.fnOf d_without_common.name d_without_common.qual d_without_common.params d_without_common.body d_without_common.scope .none kV doc pm an cdv ct) ⟨[], names.zip us⟩ = pure ((["numbers"] : List PySem.Str).zip zs) := by
  intro names perm hkw kV doc pm an cdv ct us zs h1 h2 h3
  have e : (kwT.find? fun q => decide (q.1 = 4) && decide (q.2.1 = names)) = none := by
    simp [kwT]
  unfold Wk at hkw
  simp only [e, Option.map_none] at hkw
  cases hkw
theorem kw_forward (cs : List (Addr × Addr)) {F : Nat} : ∀ names perm, (Wk F cs).kw 5 names = some perm → ∀ (kV doc pm : Value) (an : Option Addr) (cdv ct : Value) (us zs : List Value), perm.mapM (fun i => us[i]?) = some zs → us.length = names.length → zs.length = (["numbers"] : List PySem.Str).length →
      bindArgs (PySem.W.fnOf d_forward.name d_forward.qual d_forward.params d_forward.body d_forward.scope .none kV doc pm an cdv ct) ⟨[], names.zip us⟩ = pure ((["numbers"] : List PySem.Str).zip zs) := by
  intro names perm hkw kV doc pm an cdv ct us zs h1 h2 h3
  have e : (kwT.find? fun q => decide (q.1 = 5) && decide (q.2.1 = names)) = none := by
    simp [kwT]
  unfold Wk at hkw
  simp only [e, Option.map_none] at hkw
  cases hkw
theorem kw_vector_sum (cs : List (Addr × Addr)) {F : Nat} : ∀ names perm, (Wk F cs).kw 6 names = some perm → ∀ (kV doc pm : Value) (an : Option Addr) (cdv ct : Value) (us zs : List Value), perm.mapM (fun i => us[i]?) = some zs → us.length = names.length → zs.length = (["first", "second"] : List PySem.Str).length →
      bindArgs (PySem.W.fnOf d_vector_sum.name d_vector_sum.qual d_vector_sum.params d_vector_sum.body d_vector_sum.scope .none kV doc pm an cdv ct) ⟨[], names.zip us⟩ = pure ((["first", "second"] : List PySem.Str).zip zs) := by
  intro names perm hkw kV doc pm an cdv ct us zs h1 h2 h3
  have e : (kwT.find? fun q => decide (q.1 = 6) && decide (q.2.1 = names)) = none := by
    simp [kwT]
  unfold Wk at hkw
  simp only [e, Option.map_none] at hkw
  cases hkw
theorem kw_vector_times (cs : List (Addr × Addr)) {F : Nat} : ∀ names perm, (Wk F cs).kw 7 names = some perm → ∀ (kV doc pm : Value) (an : Option Addr) (cdv ct : Value) (us zs : List Value), perm.mapM (fun i => us[i]?) = some zs → us.length = names.length → zs.length = (["numbers", "fraction"] : List PySem.Str).length →
      bindArgs (PySem.W.fnOf d_vector_times.name d_vector_times.qual d_vector_times.params d_vector_times.body d_vector_times.scope .none kV doc pm an cdv ct) ⟨[], names.zip us⟩ = pure ((["numbers", "fraction"] : List PySem.Str).zip zs) := by
  intro names perm hkw kV doc pm an cdv ct us zs h1 h2 h3
  have e : (kwT.find? fun q => decide (q.1 = 7) && decide (q.2.1 = names)) = none := by
    simp [kwT]
  unfold Wk at hkw
  simp only [e, Option.map_none] at hkw
  cases hkw
theorem kw_whole_cross (cs : List (Addr × Addr)) {F : Nat} : ∀ names perm, (Wk F cs).kw 8 names = some perm → ∀ (kV doc pm : Value) (an : Option Addr) (cdv ct : Value) (us zs : List Value), perm.mapM (fun i => us[i]?) = some zs → us.length = names.length → zs.length = (["first", "second"] : List PySem.Str).length →
      bindArgs (PySem.W.fnOf d_whole_cross.name d_whole_cross.qual d_whole_cross.params d_whole_cross.body d_whole_cross.scope .none kV doc pm an cdv ct) ⟨[], names.zip us⟩ = pure ((["first", "second"] : List PySem.Str).zip zs) := by
  intro names perm hkw kV doc pm an cdv ct us zs h1 h2 h3
  have e : (kwT.find? fun q => decide (q.1 = 8) && decide (q.2.1 = names)) = none := by
    simp [kwT]
  unfold Wk at hkw
  simp only [e, Option.map_none] at hkw
  cases hkw
theorem kw_is_whole (cs : List (Addr × Addr)) {F : Nat} : ∀ names perm, (Wk F cs).kw 9 names = some perm → ∀ (kV doc pm : Value) (an : Option Addr) (cdv ct : Value) (us zs : List Value), perm.mapM (fun i => us[i]?) = some zs → us.length = names.length → zs.length = (["value"] : List PySem.Str).length →
      bindArgs (PySem.W.fnOf d_is_whole.name d_is_whole.qual d_is_whole.params d_is_whole.body d_is_whole.scope .none kV doc pm an cdv ct) ⟨[], names.zip us⟩ = pure ((["value"] : List PySem.Str).zip zs) := by
  intro names perm hkw kV doc pm an cdv ct us zs h1 h2 h3
  have e : (kwT.find? fun q => decide (q.1 = 9) && decide (q.2.1 = names)) = none := by
    simp [kwT]
  unfold Wk at hkw
  simp only [e, Option.map_none] at hkw
  cases hkw
theorem kw_is_fraction (cs : List (Addr × Addr)) {F : Nat} : ∀ names perm, (Wk F cs).kw 10 names = some perm → ∀ (kV doc pm : Value) (an : Option Addr) (cdv ct : Value) (us zs : List Value), perm.mapM (fun i => us[i]?) = some zs → us.length = names.length → zs.length = (["value"] : List PySem.Str).length →
      bindArgs (PySem.W.fnOf d_is_fraction.name d_is_fraction.qual d_is_fraction.params d_is_fraction.body d_is_fraction.scope .none kV doc pm an cdv ct) ⟨[], names.zip us⟩ = pure ((["value"] : List PySem.Str).zip zs) := by
  intro names perm hkw kV doc pm an cdv ct us zs h1 h2 h3
  have e : (kwT.find? fun q => decide (q.1 = 10) && decide (q.2.1 = names)) = none := by
    simp [kwT]
  unfold Wk at hkw
  simp only [e, Option.map_none] at hkw
  cases hkw
theorem kw_is_triple (cs : List (Addr × Addr)) {F : Nat} : ∀ names perm, (Wk F cs).kw 11 names = some perm → ∀ (kV doc pm : Value) (an : Option Addr) (cdv ct : Value) (us zs : List Value), perm.mapM (fun i => us[i]?) = some zs → us.length = names.length → zs.length = (["value"] : List PySem.Str).length →
      bindArgs (PySem.W.fnOf d_is_triple.name d_is_triple.qual d_is_triple.params d_is_triple.body d_is_triple.scope .none kV doc pm an cdv ct) ⟨[], names.zip us⟩ = pure ((["value"] : List PySem.Str).zip zs) := by
  intro names perm hkw kV doc pm an cdv ct us zs h1 h2 h3
  have e : (kwT.find? fun q => decide (q.1 = 11) && decide (q.2.1 = names)) = none := by
    simp [kwT]
  unfold Wk at hkw
  simp only [e, Option.map_none] at hkw
  cases hkw
theorem kw_check_triple (cs : List (Addr × Addr)) {F : Nat} : ∀ names perm, (Wk F cs).kw 12 names = some perm → ∀ (kV doc pm : Value) (an : Option Addr) (cdv ct : Value) (us zs : List Value), perm.mapM (fun i => us[i]?) = some zs → us.length = names.length → zs.length = (["triple"] : List PySem.Str).length →
      bindArgs (PySem.W.fnOf d_check_triple.name d_check_triple.qual d_check_triple.params d_check_triple.body d_check_triple.scope .none kV doc pm an cdv ct) ⟨[], names.zip us⟩ = pure ((["triple"] : List PySem.Str).zip zs) := by
  intro names perm hkw kV doc pm an cdv ct us zs h1 h2 h3
  have e : (kwT.find? fun q => decide (q.1 = 12) && decide (q.2.1 = names)) = none := by
    simp [kwT]
  unfold Wk at hkw
  simp only [e, Option.map_none] at hkw
  cases hkw
theorem kw_are_four_wholes (cs : List (Addr × Addr)) {F : Nat} : ∀ names perm, (Wk F cs).kw 13 names = some perm → ∀ (kV doc pm : Value) (an : Option Addr) (cdv ct : Value) (us zs : List Value), perm.mapM (fun i => us[i]?) = some zs → us.length = names.length → zs.length = (["value"] : List PySem.Str).length →
      bindArgs (PySem.W.fnOf d_are_four_wholes.name d_are_four_wholes.qual d_are_four_wholes.params d_are_four_wholes.body d_are_four_wholes.scope .none kV doc pm an cdv ct) ⟨[], names.zip us⟩ = pure ((["value"] : List PySem.Str).zip zs) := by
  intro names perm hkw kV doc pm an cdv ct us zs h1 h2 h3
  have e : (kwT.find? fun q => decide (q.1 = 13) && decide (q.2.1 = names)) = none := by
    simp [kwT]
  unfold Wk at hkw
  simp only [e, Option.map_none] at hkw
  cases hkw
theorem kw_is_turning (cs : List (Addr × Addr)) {F : Nat} : ∀ names perm, (Wk F cs).kw 14 names = some perm → ∀ (kV doc pm : Value) (an : Option Addr) (cdv ct : Value) (us zs : List Value), perm.mapM (fun i => us[i]?) = some zs → us.length = names.length → zs.length = (["value"] : List PySem.Str).length →
      bindArgs (PySem.W.fnOf d_is_turning.name d_is_turning.qual d_is_turning.params d_is_turning.body d_is_turning.scope .none kV doc pm an cdv ct) ⟨[], names.zip us⟩ = pure ((["value"] : List PySem.Str).zip zs) := by
  intro names perm hkw kV doc pm an cdv ct us zs h1 h2 h3
  have e : (kwT.find? fun q => decide (q.1 = 14) && decide (q.2.1 = names)) = none := by
    simp [kwT]
  unfold Wk at hkw
  simp only [e, Option.map_none] at hkw
  cases hkw
theorem kw_is_placing (cs : List (Addr × Addr)) {F : Nat} : ∀ names perm, (Wk F cs).kw 15 names = some perm → ∀ (kV doc pm : Value) (an : Option Addr) (cdv ct : Value) (us zs : List Value), perm.mapM (fun i => us[i]?) = some zs → us.length = names.length → zs.length = (["value"] : List PySem.Str).length →
      bindArgs (PySem.W.fnOf d_is_placing.name d_is_placing.qual d_is_placing.params d_is_placing.body d_is_placing.scope .none kV doc pm an cdv ct) ⟨[], names.zip us⟩ = pure ((["value"] : List PySem.Str).zip zs) := by
  intro names perm hkw kV doc pm an cdv ct us zs h1 h2 h3
  by_cases hn : names = (["value"] : List PySem.Str)
  · subst hn
    have z : (Wk F cs).kw 15 (["value"] : List PySem.Str) = some [0] := by rfl
    rw [z] at hkw
    obtain rfl : [0] = perm := Option.some.inj hkw
    match us, h2, h1 with
    | [u0], _, h1 =>
      obtain rfl : [u0] = zs := Option.some.inj (show some [u0] = some zs from h1)
      rfl
  have e : (kwT.find? fun q => decide (q.1 = 15) && decide (q.2.1 = names)) = none := by
    simp [kwT]
    try simp_all [eq_comm]
  unfold Wk at hkw
  simp only [e, Option.map_none] at hkw
  cases hkw
theorem kw_check_placing (cs : List (Addr × Addr)) {F : Nat} : ∀ names perm, (Wk F cs).kw 16 names = some perm → ∀ (kV doc pm : Value) (an : Option Addr) (cdv ct : Value) (us zs : List Value), perm.mapM (fun i => us[i]?) = some zs → us.length = names.length → zs.length = (["placing"] : List PySem.Str).length →
      bindArgs (PySem.W.fnOf d_check_placing.name d_check_placing.qual d_check_placing.params d_check_placing.body d_check_placing.scope .none kV doc pm an cdv ct) ⟨[], names.zip us⟩ = pure ((["placing"] : List PySem.Str).zip zs) := by
  intro names perm hkw kV doc pm an cdv ct us zs h1 h2 h3
  have e : (kwT.find? fun q => decide (q.1 = 16) && decide (q.2.1 = names)) = none := by
    simp [kwT]
  unfold Wk at hkw
  simp only [e, Option.map_none] at hkw
  cases hkw
theorem kw_led_vector (cs : List (Addr × Addr)) {F : Nat} : ∀ names perm, (Wk F cs).kw 17 names = some perm → ∀ (kV doc pm : Value) (an : Option Addr) (cdv ct : Value) (us zs : List Value), perm.mapM (fun i => us[i]?) = some zs → us.length = names.length → zs.length = (["turning", "vector"] : List PySem.Str).length →
      bindArgs (PySem.W.fnOf d_led_vector.name d_led_vector.qual d_led_vector.params d_led_vector.body d_led_vector.scope .none kV doc pm an cdv ct) ⟨[], names.zip us⟩ = pure ((["turning", "vector"] : List PySem.Str).zip zs) := by
  intro names perm hkw kV doc pm an cdv ct us zs h1 h2 h3
  have e : (kwT.find? fun q => decide (q.1 = 17) && decide (q.2.1 = names)) = none := by
    simp [kwT]
  unfold Wk at hkw
  simp only [e, Option.map_none] at hkw
  cases hkw
theorem kw_joined_parts (cs : List (Addr × Addr)) {F : Nat} : ∀ names perm, (Wk F cs).kw 18 names = some perm → ∀ (kV doc pm : Value) (an : Option Addr) (cdv ct : Value) (us zs : List Value), perm.mapM (fun i => us[i]?) = some zs → us.length = names.length → zs.length = (["first", "second"] : List PySem.Str).length →
      bindArgs (PySem.W.fnOf d_joined_parts.name d_joined_parts.qual d_joined_parts.params d_joined_parts.body d_joined_parts.scope .none kV doc pm an cdv ct) ⟨[], names.zip us⟩ = pure ((["first", "second"] : List PySem.Str).zip zs) := by
  intro names perm hkw kV doc pm an cdv ct us zs h1 h2 h3
  have e : (kwT.find? fun q => decide (q.1 = 18) && decide (q.2.1 = names)) = none := by
    simp [kwT]
  unfold Wk at hkw
  simp only [e, Option.map_none] at hkw
  cases hkw
theorem kw_back_parts (cs : List (Addr × Addr)) {F : Nat} : ∀ names perm, (Wk F cs).kw 19 names = some perm → ∀ (kV doc pm : Value) (an : Option Addr) (cdv ct : Value) (us zs : List Value), perm.mapM (fun i => us[i]?) = some zs → us.length = names.length → zs.length = (["turning"] : List PySem.Str).length →
      bindArgs (PySem.W.fnOf d_back_parts.name d_back_parts.qual d_back_parts.params d_back_parts.body d_back_parts.scope .none kV doc pm an cdv ct) ⟨[], names.zip us⟩ = pure ((["turning"] : List PySem.Str).zip zs) := by
  intro names perm hkw kV doc pm an cdv ct us zs h1 h2 h3
  have e : (kwT.find? fun q => decide (q.1 = 19) && decide (q.2.1 = names)) = none := by
    simp [kwT]
  unfold Wk at hkw
  simp only [e, Option.map_none] at hkw
  cases hkw
theorem kw_placed (cs : List (Addr × Addr)) {F : Nat} : ∀ names perm, (Wk F cs).kw 20 names = some perm → ∀ (kV doc pm : Value) (an : Option Addr) (cdv ct : Value) (us zs : List Value), perm.mapM (fun i => us[i]?) = some zs → us.length = names.length → zs.length = (["placing", "point"] : List PySem.Str).length →
      bindArgs (PySem.W.fnOf d_placed.name d_placed.qual d_placed.params d_placed.body d_placed.scope .none kV doc pm an cdv ct) ⟨[], names.zip us⟩ = pure ((["placing", "point"] : List PySem.Str).zip zs) := by
  intro names perm hkw kV doc pm an cdv ct us zs h1 h2 h3
  by_cases hn : names = (["placing", "point"] : List PySem.Str)
  · subst hn
    have z : (Wk F cs).kw 20 (["placing", "point"] : List PySem.Str) = some [0, 1] := by rfl
    rw [z] at hkw
    obtain rfl : [0, 1] = perm := Option.some.inj hkw
    match us, h2, h1 with
    | [u0, u1], _, h1 =>
      obtain rfl : [u0, u1] = zs := Option.some.inj (show some [u0, u1] = some zs from h1)
      rfl
  have e : (kwT.find? fun q => decide (q.1 = 20) && decide (q.2.1 = names)) = none := by
    simp [kwT]
    try simp_all [eq_comm]
  unfold Wk at hkw
  simp only [e, Option.map_none] at hkw
  cases hkw
theorem kw_joined_placings (cs : List (Addr × Addr)) {F : Nat} : ∀ names perm, (Wk F cs).kw 21 names = some perm → ∀ (kV doc pm : Value) (an : Option Addr) (cdv ct : Value) (us zs : List Value), perm.mapM (fun i => us[i]?) = some zs → us.length = names.length → zs.length = (["placing", "other"] : List PySem.Str).length →
      bindArgs (PySem.W.fnOf d_joined_placings.name d_joined_placings.qual d_joined_placings.params d_joined_placings.body d_joined_placings.scope .none kV doc pm an cdv ct) ⟨[], names.zip us⟩ = pure ((["placing", "other"] : List PySem.Str).zip zs) := by
  intro names perm hkw kV doc pm an cdv ct us zs h1 h2 h3
  by_cases hn : names = (["other", "placing"] : List PySem.Str)
  · subst hn
    have z : (Wk F cs).kw 21 (["other", "placing"] : List PySem.Str) = some [1, 0] := by rfl
    rw [z] at hkw
    obtain rfl : [1, 0] = perm := Option.some.inj hkw
    match us, h2, h1 with
    | [u0, u1], _, h1 =>
      obtain rfl : [u1, u0] = zs := Option.some.inj (show some [u1, u0] = some zs from h1)
      rfl
  have e : (kwT.find? fun q => decide (q.1 = 21) && decide (q.2.1 = names)) = none := by
    simp [kwT]
    try simp_all [eq_comm]
  unfold Wk at hkw
  simp only [e, Option.map_none] at hkw
  cases hkw
theorem kw_back_placing (cs : List (Addr × Addr)) {F : Nat} : ∀ names perm, (Wk F cs).kw 22 names = some perm → ∀ (kV doc pm : Value) (an : Option Addr) (cdv ct : Value) (us zs : List Value), perm.mapM (fun i => us[i]?) = some zs → us.length = names.length → zs.length = (["placing"] : List PySem.Str).length →
      bindArgs (PySem.W.fnOf d_back_placing.name d_back_placing.qual d_back_placing.params d_back_placing.body d_back_placing.scope .none kV doc pm an cdv ct) ⟨[], names.zip us⟩ = pure ((["placing"] : List PySem.Str).zip zs) := by
  intro names perm hkw kV doc pm an cdv ct us zs h1 h2 h3
  by_cases hn : names = (["placing"] : List PySem.Str)
  · subst hn
    have z : (Wk F cs).kw 22 (["placing"] : List PySem.Str) = some [0] := by rfl
    rw [z] at hkw
    obtain rfl : [0] = perm := Option.some.inj hkw
    match us, h2, h1 with
    | [u0], _, h1 =>
      obtain rfl : [u0] = zs := Option.some.inj (show some [u0] = some zs from h1)
      rfl
  have e : (kwT.find? fun q => decide (q.1 = 22) && decide (q.2.1 = names)) = none := by
    simp [kwT]
    try simp_all [eq_comm]
  unfold Wk at hkw
  simp only [e, Option.map_none] at hkw
  cases hkw
theorem kw__law_well (cs : List (Addr × Addr)) {F : Nat} : ∀ names perm, (Wk F cs).kw 23 names = some perm → ∀ (kV doc pm : Value) (an : Option Addr) (cdv ct : Value) (us zs : List Value), perm.mapM (fun i => us[i]?) = some zs → us.length = names.length → zs.length = (["_law_script", "_law_turn"] : List PySem.Str).length →
      bindArgs (PySem.W.fnOf d__law_well.name d__law_well.qual d__law_well.params d__law_well.body d__law_well.scope .none kV doc pm an cdv ct) ⟨[], names.zip us⟩ = pure ((["_law_script", "_law_turn"] : List PySem.Str).zip zs) := by
  intro names perm hkw kV doc pm an cdv ct us zs h1 h2 h3
  have e : (kwT.find? fun q => decide (q.1 = 23) && decide (q.2.1 = names)) = none := by
    simp [kwT]
  unfold Wk at hkw
  simp only [e, Option.map_none] at hkw
  cases hkw
theorem kw__law_draw (cs : List (Addr × Addr)) {F : Nat} : ∀ names perm, (Wk F cs).kw 24 names = some perm → ∀ (kV doc pm : Value) (an : Option Addr) (cdv ct : Value) (us zs : List Value), perm.mapM (fun i => us[i]?) = some zs → us.length = names.length → zs.length = (["_law_well_here", "_law_many"] : List PySem.Str).length →
      bindArgs (PySem.W.fnOf d__law_draw.name d__law_draw.qual d__law_draw.params d__law_draw.body d__law_draw.scope .none kV doc pm an cdv ct) ⟨[], names.zip us⟩ = pure ((["_law_well_here", "_law_many"] : List PySem.Str).zip zs) := by
  intro names perm hkw kV doc pm an cdv ct us zs h1 h2 h3
  have e : (kwT.find? fun q => decide (q.1 = 24) && decide (q.2.1 = names)) = none := by
    simp [kwT]
  unfold Wk at hkw
  simp only [e, Option.map_none] at hkw
  cases hkw
theorem kw__law_pick (cs : List (Addr × Addr)) {F : Nat} : ∀ names perm, (Wk F cs).kw 25 names = some perm → ∀ (kV doc pm : Value) (an : Option Addr) (cdv ct : Value) (us zs : List Value), perm.mapM (fun i => us[i]?) = some zs → us.length = names.length → zs.length = (["_law_well_here", "_law_some"] : List PySem.Str).length →
      bindArgs (PySem.W.fnOf d__law_pick.name d__law_pick.qual d__law_pick.params d__law_pick.body d__law_pick.scope .none kV doc pm an cdv ct) ⟨[], names.zip us⟩ = pure ((["_law_well_here", "_law_some"] : List PySem.Str).zip zs) := by
  intro names perm hkw kV doc pm an cdv ct us zs h1 h2 h3
  have e : (kwT.find? fun q => decide (q.1 = 25) && decide (q.2.1 = names)) = none := by
    simp [kwT]
  unfold Wk at hkw
  simp only [e, Option.map_none] at hkw
  cases hkw
theorem kw__law_low (cs : List (Addr × Addr)) {F : Nat} : ∀ names perm, (Wk F cs).kw 26 names = some perm → ∀ (kV doc pm : Value) (an : Option Addr) (cdv ct : Value) (us zs : List Value), perm.mapM (fun i => us[i]?) = some zs → us.length = names.length → zs.length = (["_law_well_here"] : List PySem.Str).length →
      bindArgs (PySem.W.fnOf d__law_low.name d__law_low.qual d__law_low.params d__law_low.body d__law_low.scope .none kV doc pm an cdv ct) ⟨[], names.zip us⟩ = pure ((["_law_well_here"] : List PySem.Str).zip zs) := by
  intro names perm hkw kV doc pm an cdv ct us zs h1 h2 h3
  have e : (kwT.find? fun q => decide (q.1 = 26) && decide (q.2.1 = names)) = none := by
    simp [kwT]
  unfold Wk at hkw
  simp only [e, Option.map_none] at hkw
  cases hkw
theorem kw__law_far (cs : List (Addr × Addr)) {F : Nat} : ∀ names perm, (Wk F cs).kw 27 names = some perm → ∀ (kV doc pm : Value) (an : Option Addr) (cdv ct : Value) (us zs : List Value), perm.mapM (fun i => us[i]?) = some zs → us.length = names.length → zs.length = (["_law_well_here"] : List PySem.Str).length →
      bindArgs (PySem.W.fnOf d__law_far.name d__law_far.qual d__law_far.params d__law_far.body d__law_far.scope .none kV doc pm an cdv ct) ⟨[], names.zip us⟩ = pure ((["_law_well_here"] : List PySem.Str).zip zs) := by
  intro names perm hkw kV doc pm an cdv ct us zs h1 h2 h3
  have e : (kwT.find? fun q => decide (q.1 = 27) && decide (q.2.1 = names)) = none := by
    simp [kwT]
  unfold Wk at hkw
  simp only [e, Option.map_none] at hkw
  cases hkw
theorem kw__law_ratio (cs : List (Addr × Addr)) {F : Nat} : ∀ names perm, (Wk F cs).kw 28 names = some perm → ∀ (kV doc pm : Value) (an : Option Addr) (cdv ct : Value) (us zs : List Value), perm.mapM (fun i => us[i]?) = some zs → us.length = names.length → zs.length = (["_law_top", "_law_under"] : List PySem.Str).length →
      bindArgs (PySem.W.fnOf d__law_ratio.name d__law_ratio.qual d__law_ratio.params d__law_ratio.body d__law_ratio.scope .none kV doc pm an cdv ct) ⟨[], names.zip us⟩ = pure ((["_law_top", "_law_under"] : List PySem.Str).zip zs) := by
  intro names perm hkw kV doc pm an cdv ct us zs h1 h2 h3
  have e : (kwT.find? fun q => decide (q.1 = 28) && decide (q.2.1 = names)) = none := by
    simp [kwT]
  unfold Wk at hkw
  simp only [e, Option.map_none] at hkw
  cases hkw
theorem kw__law_plus (cs : List (Addr × Addr)) {F : Nat} : ∀ names perm, (Wk F cs).kw 29 names = some perm → ∀ (kV doc pm : Value) (an : Option Addr) (cdv ct : Value) (us zs : List Value), perm.mapM (fun i => us[i]?) = some zs → us.length = names.length → zs.length = (["_law_one", "_law_two"] : List PySem.Str).length →
      bindArgs (PySem.W.fnOf d__law_plus.name d__law_plus.qual d__law_plus.params d__law_plus.body d__law_plus.scope .none kV doc pm an cdv ct) ⟨[], names.zip us⟩ = pure ((["_law_one", "_law_two"] : List PySem.Str).zip zs) := by
  intro names perm hkw kV doc pm an cdv ct us zs h1 h2 h3
  have e : (kwT.find? fun q => decide (q.1 = 29) && decide (q.2.1 = names)) = none := by
    simp [kwT]
  unfold Wk at hkw
  simp only [e, Option.map_none] at hkw
  cases hkw
theorem kw__law_less (cs : List (Addr × Addr)) {F : Nat} : ∀ names perm, (Wk F cs).kw 30 names = some perm → ∀ (kV doc pm : Value) (an : Option Addr) (cdv ct : Value) (us zs : List Value), perm.mapM (fun i => us[i]?) = some zs → us.length = names.length → zs.length = (["_law_one", "_law_two"] : List PySem.Str).length →
      bindArgs (PySem.W.fnOf d__law_less.name d__law_less.qual d__law_less.params d__law_less.body d__law_less.scope .none kV doc pm an cdv ct) ⟨[], names.zip us⟩ = pure ((["_law_one", "_law_two"] : List PySem.Str).zip zs) := by
  intro names perm hkw kV doc pm an cdv ct us zs h1 h2 h3
  have e : (kwT.find? fun q => decide (q.1 = 30) && decide (q.2.1 = names)) = none := by
    simp [kwT]
  unfold Wk at hkw
  simp only [e, Option.map_none] at hkw
  cases hkw
theorem kw__law_by (cs : List (Addr × Addr)) {F : Nat} : ∀ names perm, (Wk F cs).kw 31 names = some perm → ∀ (kV doc pm : Value) (an : Option Addr) (cdv ct : Value) (us zs : List Value), perm.mapM (fun i => us[i]?) = some zs → us.length = names.length → zs.length = (["_law_one", "_law_two"] : List PySem.Str).length →
      bindArgs (PySem.W.fnOf d__law_by.name d__law_by.qual d__law_by.params d__law_by.body d__law_by.scope .none kV doc pm an cdv ct) ⟨[], names.zip us⟩ = pure ((["_law_one", "_law_two"] : List PySem.Str).zip zs) := by
  intro names perm hkw kV doc pm an cdv ct us zs h1 h2 h3
  have e : (kwT.find? fun q => decide (q.1 = 31) && decide (q.2.1 = names)) = none := by
    simp [kwT]
  unfold Wk at hkw
  simp only [e, Option.map_none] at hkw
  cases hkw
theorem kw__law_sum (cs : List (Addr × Addr)) {F : Nat} : ∀ names perm, (Wk F cs).kw 32 names = some perm → ∀ (kV doc pm : Value) (an : Option Addr) (cdv ct : Value) (us zs : List Value), perm.mapM (fun i => us[i]?) = some zs → us.length = names.length → zs.length = (["_law_one", "_law_two"] : List PySem.Str).length →
      bindArgs (PySem.W.fnOf d__law_sum.name d__law_sum.qual d__law_sum.params d__law_sum.body d__law_sum.scope .none kV doc pm an cdv ct) ⟨[], names.zip us⟩ = pure ((["_law_one", "_law_two"] : List PySem.Str).zip zs) := by
  intro names perm hkw kV doc pm an cdv ct us zs h1 h2 h3
  have e : (kwT.find? fun q => decide (q.1 = 32) && decide (q.2.1 = names)) = none := by
    simp [kwT]
  unfold Wk at hkw
  simp only [e, Option.map_none] at hkw
  cases hkw
theorem kw__law_gap (cs : List (Addr × Addr)) {F : Nat} : ∀ names perm, (Wk F cs).kw 33 names = some perm → ∀ (kV doc pm : Value) (an : Option Addr) (cdv ct : Value) (us zs : List Value), perm.mapM (fun i => us[i]?) = some zs → us.length = names.length → zs.length = (["_law_one", "_law_two"] : List PySem.Str).length →
      bindArgs (PySem.W.fnOf d__law_gap.name d__law_gap.qual d__law_gap.params d__law_gap.body d__law_gap.scope .none kV doc pm an cdv ct) ⟨[], names.zip us⟩ = pure ((["_law_one", "_law_two"] : List PySem.Str).zip zs) := by
  intro names perm hkw kV doc pm an cdv ct us zs h1 h2 h3
  have e : (kwT.find? fun q => decide (q.1 = 33) && decide (q.2.1 = names)) = none := by
    simp [kwT]
  unfold Wk at hkw
  simp only [e, Option.map_none] at hkw
  cases hkw
theorem kw__law_times (cs : List (Addr × Addr)) {F : Nat} : ∀ names perm, (Wk F cs).kw 34 names = some perm → ∀ (kV doc pm : Value) (an : Option Addr) (cdv ct : Value) (us zs : List Value), perm.mapM (fun i => us[i]?) = some zs → us.length = names.length → zs.length = (["_law_row_here", "_law_by_here"] : List PySem.Str).length →
      bindArgs (PySem.W.fnOf d__law_times.name d__law_times.qual d__law_times.params d__law_times.body d__law_times.scope .none kV doc pm an cdv ct) ⟨[], names.zip us⟩ = pure ((["_law_row_here", "_law_by_here"] : List PySem.Str).zip zs) := by
  intro names perm hkw kV doc pm an cdv ct us zs h1 h2 h3
  have e : (kwT.find? fun q => decide (q.1 = 34) && decide (q.2.1 = names)) = none := by
    simp [kwT]
  unfold Wk at hkw
  simp only [e, Option.map_none] at hkw
  cases hkw
theorem kw__law_dot (cs : List (Addr × Addr)) {F : Nat} : ∀ names perm, (Wk F cs).kw 35 names = some perm → ∀ (kV doc pm : Value) (an : Option Addr) (cdv ct : Value) (us zs : List Value), perm.mapM (fun i => us[i]?) = some zs → us.length = names.length → zs.length = (["_law_one", "_law_two"] : List PySem.Str).length →
      bindArgs (PySem.W.fnOf d__law_dot.name d__law_dot.qual d__law_dot.params d__law_dot.body d__law_dot.scope .none kV doc pm an cdv ct) ⟨[], names.zip us⟩ = pure ((["_law_one", "_law_two"] : List PySem.Str).zip zs) := by
  intro names perm hkw kV doc pm an cdv ct us zs h1 h2 h3
  have e : (kwT.find? fun q => decide (q.1 = 35) && decide (q.2.1 = names)) = none := by
    simp [kwT]
  unfold Wk at hkw
  simp only [e, Option.map_none] at hkw
  cases hkw
theorem kw__law_cross (cs : List (Addr × Addr)) {F : Nat} : ∀ names perm, (Wk F cs).kw 36 names = some perm → ∀ (kV doc pm : Value) (an : Option Addr) (cdv ct : Value) (us zs : List Value), perm.mapM (fun i => us[i]?) = some zs → us.length = names.length → zs.length = (["_law_one", "_law_two"] : List PySem.Str).length →
      bindArgs (PySem.W.fnOf d__law_cross.name d__law_cross.qual d__law_cross.params d__law_cross.body d__law_cross.scope .none kV doc pm an cdv ct) ⟨[], names.zip us⟩ = pure ((["_law_one", "_law_two"] : List PySem.Str).zip zs) := by
  intro names perm hkw kV doc pm an cdv ct us zs h1 h2 h3
  have e : (kwT.find? fun q => decide (q.1 = 36) && decide (q.2.1 = names)) = none := by
    simp [kwT]
  unfold Wk at hkw
  simp only [e, Option.map_none] at hkw
  cases hkw
theorem kw__law_nought (cs : List (Addr × Addr)) {F : Nat} : ∀ names perm, (Wk F cs).kw 37 names = some perm → ∀ (kV doc pm : Value) (an : Option Addr) (cdv ct : Value) (us zs : List Value), perm.mapM (fun i => us[i]?) = some zs → us.length = names.length → zs.length = ([] : List PySem.Str).length →
      bindArgs (PySem.W.fnOf d__law_nought.name d__law_nought.qual d__law_nought.params d__law_nought.body d__law_nought.scope .none kV doc pm an cdv ct) ⟨[], names.zip us⟩ = pure (([] : List PySem.Str).zip zs) := by
  intro names perm hkw kV doc pm an cdv ct us zs h1 h2 h3
  have e : (kwT.find? fun q => decide (q.1 = 37) && decide (q.2.1 = names)) = none := by
    simp [kwT]
  unfold Wk at hkw
  simp only [e, Option.map_none] at hkw
  cases hkw
theorem kw__law_part (cs : List (Addr × Addr)) {F : Nat} : ∀ names perm, (Wk F cs).kw 38 names = some perm → ∀ (kV doc pm : Value) (an : Option Addr) (cdv ct : Value) (us zs : List Value), perm.mapM (fun i => us[i]?) = some zs → us.length = names.length → zs.length = (["_law_well_here"] : List PySem.Str).length →
      bindArgs (PySem.W.fnOf d__law_part.name d__law_part.qual d__law_part.params d__law_part.body d__law_part.scope .none kV doc pm an cdv ct) ⟨[], names.zip us⟩ = pure ((["_law_well_here"] : List PySem.Str).zip zs) := by
  intro names perm hkw kV doc pm an cdv ct us zs h1 h2 h3
  have e : (kwT.find? fun q => decide (q.1 = 38) && decide (q.2.1 = names)) = none := by
    simp [kwT]
  unfold Wk at hkw
  simp only [e, Option.map_none] at hkw
  cases hkw
theorem kw__law_row (cs : List (Addr × Addr)) {F : Nat} : ∀ names perm, (Wk F cs).kw 39 names = some perm → ∀ (kV doc pm : Value) (an : Option Addr) (cdv ct : Value) (us zs : List Value), perm.mapM (fun i => us[i]?) = some zs → us.length = names.length → zs.length = (["_law_well_here"] : List PySem.Str).length →
      bindArgs (PySem.W.fnOf d__law_row.name d__law_row.qual d__law_row.params d__law_row.body d__law_row.scope .none kV doc pm an cdv ct) ⟨[], names.zip us⟩ = pure ((["_law_well_here"] : List PySem.Str).zip zs) := by
  intro names perm hkw kV doc pm an cdv ct us zs h1 h2 h3
  have e : (kwT.find? fun q => decide (q.1 = 39) && decide (q.2.1 = names)) = none := by
    simp [kwT]
  unfold Wk at hkw
  simp only [e, Option.map_none] at hkw
  cases hkw
theorem kw__law_wide (cs : List (Addr × Addr)) {F : Nat} : ∀ names perm, (Wk F cs).kw 40 names = some perm → ∀ (kV doc pm : Value) (an : Option Addr) (cdv ct : Value) (us zs : List Value), perm.mapM (fun i => us[i]?) = some zs → us.length = names.length → zs.length = (["_law_well_here"] : List PySem.Str).length →
      bindArgs (PySem.W.fnOf d__law_wide.name d__law_wide.qual d__law_wide.params d__law_wide.body d__law_wide.scope .none kV doc pm an cdv ct) ⟨[], names.zip us⟩ = pure ((["_law_well_here"] : List PySem.Str).zip zs) := by
  intro names perm hkw kV doc pm an cdv ct us zs h1 h2 h3
  have e : (kwT.find? fun q => decide (q.1 = 40) && decide (q.2.1 = names)) = none := by
    simp [kwT]
  unfold Wk at hkw
  simp only [e, Option.map_none] at hkw
  cases hkw
theorem kw__law_lean (cs : List (Addr × Addr)) {F : Nat} : ∀ names perm, (Wk F cs).kw 41 names = some perm → ∀ (kV doc pm : Value) (an : Option Addr) (cdv ct : Value) (us zs : List Value), perm.mapM (fun i => us[i]?) = some zs → us.length = names.length → zs.length = (["_law_numbers"] : List PySem.Str).length →
      bindArgs (PySem.W.fnOf d__law_lean.name d__law_lean.qual d__law_lean.params d__law_lean.body d__law_lean.scope .none kV doc pm an cdv ct) ⟨[], names.zip us⟩ = pure ((["_law_numbers"] : List PySem.Str).zip zs) := by
  intro names perm hkw kV doc pm an cdv ct us zs h1 h2 h3
  have e : (kwT.find? fun q => decide (q.1 = 41) && decide (q.2.1 = names)) = none := by
    simp [kwT]
  unfold Wk at hkw
  simp only [e, Option.map_none] at hkw
  cases hkw
theorem kw__law_turning (cs : List (Addr × Addr)) {F : Nat} : ∀ names perm, (Wk F cs).kw 42 names = some perm → ∀ (kV doc pm : Value) (an : Option Addr) (cdv ct : Value) (us zs : List Value), perm.mapM (fun i => us[i]?) = some zs → us.length = names.length → zs.length = (["_law_well_here"] : List PySem.Str).length →
      bindArgs (PySem.W.fnOf d__law_turning.name d__law_turning.qual d__law_turning.params d__law_turning.body d__law_turning.scope .none kV doc pm an cdv ct) ⟨[], names.zip us⟩ = pure ((["_law_well_here"] : List PySem.Str).zip zs) := by
  intro names perm hkw kV doc pm an cdv ct us zs h1 h2 h3
  have e : (kwT.find? fun q => decide (q.1 = 42) && decide (q.2.1 = names)) = none := by
    simp [kwT]
  unfold Wk at hkw
  simp only [e, Option.map_none] at hkw
  cases hkw
theorem kw__law_turned (cs : List (Addr × Addr)) {F : Nat} : ∀ names perm, (Wk F cs).kw 43 names = some perm → ∀ (kV doc pm : Value) (an : Option Addr) (cdv ct : Value) (us zs : List Value), perm.mapM (fun i => us[i]?) = some zs → us.length = names.length → zs.length = (["_law_turns", "_law_row_here"] : List PySem.Str).length →
      bindArgs (PySem.W.fnOf d__law_turned.name d__law_turned.qual d__law_turned.params d__law_turned.body d__law_turned.scope .none kV doc pm an cdv ct) ⟨[], names.zip us⟩ = pure ((["_law_turns", "_law_row_here"] : List PySem.Str).zip zs) := by
  intro names perm hkw kV doc pm an cdv ct us zs h1 h2 h3
  have e : (kwT.find? fun q => decide (q.1 = 43) && decide (q.2.1 = names)) = none := by
    simp [kwT]
  unfold Wk at hkw
  simp only [e, Option.map_none] at hkw
  cases hkw
theorem kw__law_is_whole (cs : List (Addr × Addr)) {F : Nat} : ∀ names perm, (Wk F cs).kw 44 names = some perm → ∀ (kV doc pm : Value) (an : Option Addr) (cdv ct : Value) (us zs : List Value), perm.mapM (fun i => us[i]?) = some zs → us.length = names.length → zs.length = (["_law_value"] : List PySem.Str).length →
      bindArgs (PySem.W.fnOf d__law_is_whole.name d__law_is_whole.qual d__law_is_whole.params d__law_is_whole.body d__law_is_whole.scope .none kV doc pm an cdv ct) ⟨[], names.zip us⟩ = pure ((["_law_value"] : List PySem.Str).zip zs) := by
  intro names perm hkw kV doc pm an cdv ct us zs h1 h2 h3
  have e : (kwT.find? fun q => decide (q.1 = 44) && decide (q.2.1 = names)) = none := by
    simp [kwT]
  unfold Wk at hkw
  simp only [e, Option.map_none] at hkw
  cases hkw
theorem kw__law_is_ratio (cs : List (Addr × Addr)) {F : Nat} : ∀ names perm, (Wk F cs).kw 45 names = some perm → ∀ (kV doc pm : Value) (an : Option Addr) (cdv ct : Value) (us zs : List Value), perm.mapM (fun i => us[i]?) = some zs → us.length = names.length → zs.length = (["_law_value"] : List PySem.Str).length →
      bindArgs (PySem.W.fnOf d__law_is_ratio.name d__law_is_ratio.qual d__law_is_ratio.params d__law_is_ratio.body d__law_is_ratio.scope .none kV doc pm an cdv ct) ⟨[], names.zip us⟩ = pure ((["_law_value"] : List PySem.Str).zip zs) := by
  intro names perm hkw kV doc pm an cdv ct us zs h1 h2 h3
  have e : (kwT.find? fun q => decide (q.1 = 45) && decide (q.2.1 = names)) = none := by
    simp [kwT]
  unfold Wk at hkw
  simp only [e, Option.map_none] at hkw
  cases hkw
theorem kw__law_are_ratios (cs : List (Addr × Addr)) {F : Nat} : ∀ names perm, (Wk F cs).kw 46 names = some perm → ∀ (kV doc pm : Value) (an : Option Addr) (cdv ct : Value) (us zs : List Value), perm.mapM (fun i => us[i]?) = some zs → us.length = names.length → zs.length = (["_law_value", "_law_many"] : List PySem.Str).length →
      bindArgs (PySem.W.fnOf d__law_are_ratios.name d__law_are_ratios.qual d__law_are_ratios.params d__law_are_ratios.body d__law_are_ratios.scope .none kV doc pm an cdv ct) ⟨[], names.zip us⟩ = pure ((["_law_value", "_law_many"] : List PySem.Str).zip zs) := by
  intro names perm hkw kV doc pm an cdv ct us zs h1 h2 h3
  have e : (kwT.find? fun q => decide (q.1 = 46) && decide (q.2.1 = names)) = none := by
    simp [kwT]
  unfold Wk at hkw
  simp only [e, Option.map_none] at hkw
  cases hkw
theorem kw__law_is_turning (cs : List (Addr × Addr)) {F : Nat} : ∀ names perm, (Wk F cs).kw 47 names = some perm → ∀ (kV doc pm : Value) (an : Option Addr) (cdv ct : Value) (us zs : List Value), perm.mapM (fun i => us[i]?) = some zs → us.length = names.length → zs.length = (["_law_value"] : List PySem.Str).length →
      bindArgs (PySem.W.fnOf d__law_is_turning.name d__law_is_turning.qual d__law_is_turning.params d__law_is_turning.body d__law_is_turning.scope .none kV doc pm an cdv ct) ⟨[], names.zip us⟩ = pure ((["_law_value"] : List PySem.Str).zip zs) := by
  intro names perm hkw kV doc pm an cdv ct us zs h1 h2 h3
  have e : (kwT.find? fun q => decide (q.1 = 47) && decide (q.2.1 = names)) = none := by
    simp [kwT]
  unfold Wk at hkw
  simp only [e, Option.map_none] at hkw
  cases hkw
theorem kw__law_is_placing (cs : List (Addr × Addr)) {F : Nat} : ∀ names perm, (Wk F cs).kw 48 names = some perm → ∀ (kV doc pm : Value) (an : Option Addr) (cdv ct : Value) (us zs : List Value), perm.mapM (fun i => us[i]?) = some zs → us.length = names.length → zs.length = (["_law_value"] : List PySem.Str).length →
      bindArgs (PySem.W.fnOf d__law_is_placing.name d__law_is_placing.qual d__law_is_placing.params d__law_is_placing.body d__law_is_placing.scope .none kV doc pm an cdv ct) ⟨[], names.zip us⟩ = pure ((["_law_value"] : List PySem.Str).zip zs) := by
  intro names perm hkw kV doc pm an cdv ct us zs h1 h2 h3
  have e : (kwT.find? fun q => decide (q.1 = 48) && decide (q.2.1 = names)) = none := by
    simp [kwT]
  unfold Wk at hkw
  simp only [e, Option.map_none] at hkw
  cases hkw
theorem kw__law_odd (cs : List (Addr × Addr)) {F : Nat} : ∀ names perm, (Wk F cs).kw 49 names = some perm → ∀ (kV doc pm : Value) (an : Option Addr) (cdv ct : Value) (us zs : List Value), perm.mapM (fun i => us[i]?) = some zs → us.length = names.length → zs.length = (["_law_well_here"] : List PySem.Str).length →
      bindArgs (PySem.W.fnOf d__law_odd.name d__law_odd.qual d__law_odd.params d__law_odd.body d__law_odd.scope .none kV doc pm an cdv ct) ⟨[], names.zip us⟩ = pure ((["_law_well_here"] : List PySem.Str).zip zs) := by
  intro names perm hkw kV doc pm an cdv ct us zs h1 h2 h3
  have e : (kwT.find? fun q => decide (q.1 = 49) && decide (q.2.1 = names)) = none := by
    simp [kwT]
  unfold Wk at hkw
  simp only [e, Option.map_none] at hkw
  cases hkw
theorem kw__law_bent (cs : List (Addr × Addr)) {F : Nat} : ∀ names perm, (Wk F cs).kw 50 names = some perm → ∀ (kV doc pm : Value) (an : Option Addr) (cdv ct : Value) (us zs : List Value), perm.mapM (fun i => us[i]?) = some zs → us.length = names.length → zs.length = (["_law_well_here", "_law_thing"] : List PySem.Str).length →
      bindArgs (PySem.W.fnOf d__law_bent.name d__law_bent.qual d__law_bent.params d__law_bent.body d__law_bent.scope .none kV doc pm an cdv ct) ⟨[], names.zip us⟩ = pure ((["_law_well_here", "_law_thing"] : List PySem.Str).zip zs) := by
  intro names perm hkw kV doc pm an cdv ct us zs h1 h2 h3
  have e : (kwT.find? fun q => decide (q.1 = 50) && decide (q.2.1 = names)) = none := by
    simp [kwT]
  unfold Wk at hkw
  simp only [e, Option.map_none] at hkw
  cases hkw
theorem kw__law_spots (cs : List (Addr × Addr)) {F : Nat} : ∀ names perm, (Wk F cs).kw 51 names = some perm → ∀ (kV doc pm : Value) (an : Option Addr) (cdv ct : Value) (us zs : List Value), perm.mapM (fun i => us[i]?) = some zs → us.length = names.length → zs.length = ([] : List PySem.Str).length →
      bindArgs (PySem.W.fnOf d__law_spots.name d__law_spots.qual d__law_spots.params d__law_spots.body d__law_spots.scope .none kV doc pm an cdv ct) ⟨[], names.zip us⟩ = pure (([] : List PySem.Str).zip zs) := by
  intro names perm hkw kV doc pm an cdv ct us zs h1 h2 h3
  have e : (kwT.find? fun q => decide (q.1 = 51) && decide (q.2.1 = names)) = none := by
    simp [kwT]
  unfold Wk at hkw
  simp only [e, Option.map_none] at hkw
  cases hkw
theorem kw__law_square (cs : List (Addr × Addr)) {F : Nat} : ∀ names perm, (Wk F cs).kw 52 names = some perm → ∀ (kV doc pm : Value) (an : Option Addr) (cdv ct : Value) (us zs : List Value), perm.mapM (fun i => us[i]?) = some zs → us.length = names.length → zs.length = (["_law_one", "_law_two"] : List PySem.Str).length →
      bindArgs (PySem.W.fnOf d__law_square.name d__law_square.qual d__law_square.params d__law_square.body d__law_square.scope .none kV doc pm an cdv ct) ⟨[], names.zip us⟩ = pure ((["_law_one", "_law_two"] : List PySem.Str).zip zs) := by
  intro names perm hkw kV doc pm an cdv ct us zs h1 h2 h3
  have e : (kwT.find? fun q => decide (q.1 = 52) && decide (q.2.1 = names)) = none := by
    simp [kwT]
  unfold Wk at hkw
  simp only [e, Option.map_none] at hkw
  cases hkw
theorem kw__law_are_forms_right (cs : List (Addr × Addr)) {F : Nat} : ∀ names perm, (Wk F cs).kw 53 names = some perm → ∀ (kV doc pm : Value) (an : Option Addr) (cdv ct : Value) (us zs : List Value), perm.mapM (fun i => us[i]?) = some zs → us.length = names.length → zs.length = (["_law_well_here", "_law_seat"] : List PySem.Str).length →
      bindArgs (PySem.W.fnOf d__law_are_forms_right.name d__law_are_forms_right.qual d__law_are_forms_right.params d__law_are_forms_right.body d__law_are_forms_right.scope .none kV doc pm an cdv ct) ⟨[], names.zip us⟩ = pure ((["_law_well_here", "_law_seat"] : List PySem.Str).zip zs) := by
  intro names perm hkw kV doc pm an cdv ct us zs h1 h2 h3
  have e : (kwT.find? fun q => decide (q.1 = 53) && decide (q.2.1 = names)) = none := by
    simp [kwT]
  unfold Wk at hkw
  simp only [e, Option.map_none] at hkw
  cases hkw
theorem kw__law_right (cs : List (Addr × Addr)) {F : Nat} : ∀ names perm, (Wk F cs).kw 54 names = some perm → ∀ (kV doc pm : Value) (an : Option Addr) (cdv ct : Value) (us zs : List Value), perm.mapM (fun i => us[i]?) = some zs → us.length = names.length → zs.length = (["_law_well_here"] : List PySem.Str).length →
      bindArgs (PySem.W.fnOf d__law_right.name d__law_right.qual d__law_right.params d__law_right.body d__law_right.scope .none kV doc pm an cdv ct) ⟨[], names.zip us⟩ = pure ((["_law_well_here"] : List PySem.Str).zip zs) := by
  intro names perm hkw kV doc pm an cdv ct us zs h1 h2 h3
  have e : (kwT.find? fun q => decide (q.1 = 54) && decide (q.2.1 = names)) = none := by
    simp [kwT]
  unfold Wk at hkw
  simp only [e, Option.map_none] at hkw
  cases hkw
theorem kw_law (cs : List (Addr × Addr)) {F : Nat} : ∀ names perm, (Wk F cs).kw 55 names = some perm → ∀ (kV doc pm : Value) (an : Option Addr) (cdv ct : Value) (us zs : List Value), perm.mapM (fun i => us[i]?) = some zs → us.length = names.length → zs.length = (["_law_script"] : List PySem.Str).length →
      bindArgs (PySem.W.fnOf d_law.name d_law.qual d_law.params d_law.body d_law.scope .none kV doc pm an cdv ct) ⟨[], names.zip us⟩ = pure ((["_law_script"] : List PySem.Str).zip zs) := by
  intro names perm hkw kV doc pm an cdv ct us zs h1 h2 h3
  have e : (kwT.find? fun q => decide (q.1 = 55) && decide (q.2.1 = names)) = none := by
    simp [kwT]
  unfold Wk at hkw
  simp only [e, Option.map_none] at hkw
  cases hkw
section
variable {P : Program} {w : World} {h base : Heap} {K : PySem.W.Frag} {mg : Str → Option Value} {F : Nat}
theorem at_ratio (SX : He.SaysX fa fn [] tf ex w h K) (X : K.In h) (G : h.Ns mainGlobals mg) (TB : ∀ p ∈ (Wk F (tf.map (He.cT K))).cs, GxR.TabB base mg p.1 p.2) : DefAt (Wk F (tf.map (He.cT K))) K mg base 0 "ratio" :=
  def_at SX X G rfl TB 0 0 d_ratio i_ratio ["above", "below"] false rfl rfl rfl (List.mem_of_getElem? (l := fa) (i := 0) rfl) (by decide +kernel) rfl rfl (ok_ratio _ _) (fun e => by cases e)
    (fun _ _ _ _ _ _ us hl => match us, hl with | [_, _], _ => rfl)
    (kw_ratio _)
theorem at_ratio_sum (SX : He.SaysX fa fn [] tf ex w h K) (X : K.In h) (G : h.Ns mainGlobals mg) (TB : ∀ p ∈ (Wk F (tf.map (He.cT K))).cs, GxR.TabB base mg p.1 p.2) : DefAt (Wk F (tf.map (He.cT K))) K mg base 1 "ratio_sum" :=
  def_at SX X G rfl TB 1 1 d_ratio_sum i_ratio_sum ["first", "second"] false rfl rfl rfl (List.mem_of_getElem? (l := fa) (i := 1) rfl) (by decide +kernel) rfl rfl (ok_ratio_sum _ _) (fun e => by cases e)
    (fun _ _ _ _ _ _ us hl => match us, hl with | [_, _], _ => rfl)
    (kw_ratio_sum _)
theorem at_ratio_product (SX : He.SaysX fa fn [] tf ex w h K) (X : K.In h) (G : h.Ns mainGlobals mg) (TB : ∀ p ∈ (Wk F (tf.map (He.cT K))).cs, GxR.TabB base mg p.1 p.2) : DefAt (Wk F (tf.map (He.cT K))) K mg base 2 "ratio_product" :=
  def_at SX X G rfl TB 2 2 d_ratio_product i_ratio_product ["first", "second"] false rfl rfl rfl (List.mem_of_getElem? (l := fa) (i := 2) rfl) (by decide +kernel) rfl rfl (ok_ratio_product _ _) (fun e => by cases e)
    (fun _ _ _ _ _ _ us hl => match us, hl with | [_, _], _ => rfl)
    (kw_ratio_product _)
theorem at_over_common (SX : He.SaysX fa fn [] tf ex w h K) (X : K.In h) (G : h.Ns mainGlobals mg) (TB : ∀ p ∈ (Wk F (tf.map (He.cT K))).cs, GxR.TabB base mg p.1 p.2) : DefAt (Wk F (tf.map (He.cT K))) K mg base 3 "over_common" :=
  def_at SX X G rfl TB 3 3 d_over_common i_over_common ["fractions"] false rfl rfl rfl (List.mem_of_getElem? (l := fa) (i := 3) rfl) (by decide +kernel) rfl rfl (ok_over_common _ _) (fun e => by cases e)
    (fun _ _ _ _ _ _ us hl => match us, hl with | [_], _ => rfl)
    (kw_over_common _)
theorem at_without_common (SX : He.SaysX fa fn [] tf ex w h K) (X : K.In h) (G : h.Ns mainGlobals mg) (TB : ∀ p ∈ (Wk F (tf.map (He.cT K))).cs, GxR.TabB base mg p.1 p.2) : DefAt (Wk F (tf.map (He.cT K))) K mg base 4 "without_common" :=
  def_at SX X G rfl TB 4 4 d_without_common i_without_common ["numbers"] false rfl rfl rfl (List.mem_of_getElem? (l := fa) (i := 4) rfl) (by decide +kernel) rfl rfl (ok_without_common _ _) (fun e => by cases e)
    (fun _ _ _ _ _ _ us hl => match us, hl with | [_], _ => rfl)
    (kw_without_common _)
theorem at_forward (SX : He.SaysX fa fn [] tf ex w h K) (X : K.In h) (G : h.Ns mainGlobals mg) (TB : ∀ p ∈ (Wk F (tf.map (He.cT K))).cs, GxR.TabB base mg p.1 p.2) : DefAt (Wk F (tf.map (He.cT K))) K mg base 5 "forward" :=
  def_at SX X G rfl TB 5 5 d_forward i_forward ["numbers"] false rfl rfl rfl (List.mem_of_getElem? (l := fa) (i := 5) rfl) (by decide +kernel) rfl rfl (ok_forward _ _) (fun e => by cases e)
    (fun _ _ _ _ _ _ us hl => match us, hl with | [_], _ => rfl)
    (kw_forward _)
theorem at_vector_sum (SX : He.SaysX fa fn [] tf ex w h K) (X : K.In h) (G : h.Ns mainGlobals mg) (TB : ∀ p ∈ (Wk F (tf.map (He.cT K))).cs, GxR.TabB base mg p.1 p.2) : DefAt (Wk F (tf.map (He.cT K))) K mg base 6 "vector_sum" :=
  def_at SX X G rfl TB 6 6 d_vector_sum i_vector_sum ["first", "second"] true rfl rfl rfl (List.mem_of_getElem? (l := fa) (i := 6) rfl) (by decide +kernel) rfl rfl (ok_vector_sum _ _) (fun _ => by decide +kernel)
    (fun _ _ _ _ _ _ us hl => match us, hl with | [_, _], _ => rfl)
    (kw_vector_sum _)
theorem at_vector_times (SX : He.SaysX fa fn [] tf ex w h K) (X : K.In h) (G : h.Ns mainGlobals mg) (TB : ∀ p ∈ (Wk F (tf.map (He.cT K))).cs, GxR.TabB base mg p.1 p.2) : DefAt (Wk F (tf.map (He.cT K))) K mg base 7 "vector_times" :=
  def_at SX X G rfl TB 7 7 d_vector_times i_vector_times ["numbers", "fraction"] true rfl rfl rfl (List.mem_of_getElem? (l := fa) (i := 7) rfl) (by decide +kernel) rfl rfl (ok_vector_times _ _) (fun _ => by decide +kernel)
    (fun _ _ _ _ _ _ us hl => match us, hl with | [_, _], _ => rfl)
    (kw_vector_times _)
theorem at_whole_cross (SX : He.SaysX fa fn [] tf ex w h K) (X : K.In h) (G : h.Ns mainGlobals mg) (TB : ∀ p ∈ (Wk F (tf.map (He.cT K))).cs, GxR.TabB base mg p.1 p.2) : DefAt (Wk F (tf.map (He.cT K))) K mg base 8 "whole_cross" :=
  def_at SX X G rfl TB 8 8 d_whole_cross i_whole_cross ["first", "second"] false rfl rfl rfl (List.mem_of_getElem? (l := fa) (i := 8) rfl) (by decide +kernel) rfl rfl (ok_whole_cross _ _) (fun e => by cases e)
    (fun _ _ _ _ _ _ us hl => match us, hl with | [_, _], _ => rfl)
    (kw_whole_cross _)
theorem at_is_whole (SX : He.SaysX fa fn [] tf ex w h K) (X : K.In h) (G : h.Ns mainGlobals mg) (TB : ∀ p ∈ (Wk F (tf.map (He.cT K))).cs, GxR.TabB base mg p.1 p.2) : DefAt (Wk F (tf.map (He.cT K))) K mg base 9 "is_whole" :=
  def_at SX X G rfl TB 9 9 d_is_whole i_is_whole ["value"] false rfl rfl rfl (List.mem_of_getElem? (l := fa) (i := 9) rfl) (by decide +kernel) rfl rfl (ok_is_whole _ _) (fun e => by cases e)
    (fun _ _ _ _ _ _ us hl => match us, hl with | [_], _ => rfl)
    (kw_is_whole _)
theorem at_is_fraction (SX : He.SaysX fa fn [] tf ex w h K) (X : K.In h) (G : h.Ns mainGlobals mg) (TB : ∀ p ∈ (Wk F (tf.map (He.cT K))).cs, GxR.TabB base mg p.1 p.2) : DefAt (Wk F (tf.map (He.cT K))) K mg base 10 "is_fraction" :=
  def_at SX X G rfl TB 10 10 d_is_fraction i_is_fraction ["value"] false rfl rfl rfl (List.mem_of_getElem? (l := fa) (i := 10) rfl) (by decide +kernel) rfl rfl (ok_is_fraction _ _) (fun e => by cases e)
    (fun _ _ _ _ _ _ us hl => match us, hl with | [_], _ => rfl)
    (kw_is_fraction _)
theorem at_is_triple (SX : He.SaysX fa fn [] tf ex w h K) (X : K.In h) (G : h.Ns mainGlobals mg) (TB : ∀ p ∈ (Wk F (tf.map (He.cT K))).cs, GxR.TabB base mg p.1 p.2) : DefAt (Wk F (tf.map (He.cT K))) K mg base 11 "is_triple" :=
  def_at SX X G rfl TB 11 11 d_is_triple i_is_triple ["value"] true rfl rfl rfl (List.mem_of_getElem? (l := fa) (i := 11) rfl) (by decide +kernel) rfl rfl (ok_is_triple _ _) (fun _ => by decide +kernel)
    (fun _ _ _ _ _ _ us hl => match us, hl with | [_], _ => rfl)
    (kw_is_triple _)
theorem at_check_triple (SX : He.SaysX fa fn [] tf ex w h K) (X : K.In h) (G : h.Ns mainGlobals mg) (TB : ∀ p ∈ (Wk F (tf.map (He.cT K))).cs, GxR.TabB base mg p.1 p.2) : DefAt (Wk F (tf.map (He.cT K))) K mg base 12 "check_triple" :=
  def_at SX X G rfl TB 12 12 d_check_triple i_check_triple ["triple"] false rfl rfl rfl (List.mem_of_getElem? (l := fa) (i := 12) rfl) (by decide +kernel) rfl rfl (ok_check_triple _ _) (fun e => by cases e)
    (fun _ _ _ _ _ _ us hl => match us, hl with | [_], _ => rfl)
    (kw_check_triple _)
theorem at_are_four_wholes (SX : He.SaysX fa fn [] tf ex w h K) (X : K.In h) (G : h.Ns mainGlobals mg) (TB : ∀ p ∈ (Wk F (tf.map (He.cT K))).cs, GxR.TabB base mg p.1 p.2) : DefAt (Wk F (tf.map (He.cT K))) K mg base 13 "are_four_wholes" :=
  def_at SX X G rfl TB 13 13 d_are_four_wholes i_are_four_wholes ["value"] true rfl rfl rfl (List.mem_of_getElem? (l := fa) (i := 13) rfl) (by decide +kernel) rfl rfl (ok_are_four_wholes _ _) (fun _ => by decide +kernel)
    (fun _ _ _ _ _ _ us hl => match us, hl with | [_], _ => rfl)
    (kw_are_four_wholes _)
theorem at_is_turning (SX : He.SaysX fa fn [] tf ex w h K) (X : K.In h) (G : h.Ns mainGlobals mg) (TB : ∀ p ∈ (Wk F (tf.map (He.cT K))).cs, GxR.TabB base mg p.1 p.2) : DefAt (Wk F (tf.map (He.cT K))) K mg base 14 "is_turning" :=
  def_at SX X G rfl TB 14 14 d_is_turning i_is_turning ["value"] false rfl rfl rfl (List.mem_of_getElem? (l := fa) (i := 14) rfl) (by decide +kernel) rfl rfl (ok_is_turning _ _) (fun e => by cases e)
    (fun _ _ _ _ _ _ us hl => match us, hl with | [_], _ => rfl)
    (kw_is_turning _)
theorem at_is_placing (SX : He.SaysX fa fn [] tf ex w h K) (X : K.In h) (G : h.Ns mainGlobals mg) (TB : ∀ p ∈ (Wk F (tf.map (He.cT K))).cs, GxR.TabB base mg p.1 p.2) : DefAt (Wk F (tf.map (He.cT K))) K mg base 15 "is_placing" :=
  def_at SX X G rfl TB 15 15 d_is_placing i_is_placing ["value"] false rfl rfl rfl (List.mem_of_getElem? (l := fa) (i := 15) rfl) (by decide +kernel) rfl rfl (ok_is_placing _ _) (fun e => by cases e)
    (fun _ _ _ _ _ _ us hl => match us, hl with | [_], _ => rfl)
    (kw_is_placing _)
theorem at_check_placing (SX : He.SaysX fa fn [] tf ex w h K) (X : K.In h) (G : h.Ns mainGlobals mg) (TB : ∀ p ∈ (Wk F (tf.map (He.cT K))).cs, GxR.TabB base mg p.1 p.2) : DefAt (Wk F (tf.map (He.cT K))) K mg base 16 "check_placing" :=
  def_at SX X G rfl TB 16 16 d_check_placing i_check_placing ["placing"] false rfl rfl rfl (List.mem_of_getElem? (l := fa) (i := 16) rfl) (by decide +kernel) rfl rfl (ok_check_placing _ _) (fun e => by cases e)
    (fun _ _ _ _ _ _ us hl => match us, hl with | [_], _ => rfl)
    (kw_check_placing _)
theorem at_led_vector (SX : He.SaysX fa fn [] tf ex w h K) (X : K.In h) (G : h.Ns mainGlobals mg) (TB : ∀ p ∈ (Wk F (tf.map (He.cT K))).cs, GxR.TabB base mg p.1 p.2) : DefAt (Wk F (tf.map (He.cT K))) K mg base 17 "led_vector" :=
  def_at SX X G rfl TB 17 17 d_led_vector i_led_vector ["turning", "vector"] true rfl rfl rfl (List.mem_of_getElem? (l := fa) (i := 17) rfl) (by decide +kernel) rfl rfl (ok_led_vector _ _) (fun _ => by decide +kernel)
    (fun _ _ _ _ _ _ us hl => match us, hl with | [_, _], _ => rfl)
    (kw_led_vector _)
theorem at_joined_parts (SX : He.SaysX fa fn [] tf ex w h K) (X : K.In h) (G : h.Ns mainGlobals mg) (TB : ∀ p ∈ (Wk F (tf.map (He.cT K))).cs, GxR.TabB base mg p.1 p.2) : DefAt (Wk F (tf.map (He.cT K))) K mg base 18 "joined_parts" :=
  def_at SX X G rfl TB 18 18 d_joined_parts i_joined_parts ["first", "second"] false rfl rfl rfl (List.mem_of_getElem? (l := fa) (i := 18) rfl) (by decide +kernel) rfl rfl (ok_joined_parts _ _) (fun e => by cases e)
    (fun _ _ _ _ _ _ us hl => match us, hl with | [_, _], _ => rfl)
    (kw_joined_parts _)
theorem at_back_parts (SX : He.SaysX fa fn [] tf ex w h K) (X : K.In h) (G : h.Ns mainGlobals mg) (TB : ∀ p ∈ (Wk F (tf.map (He.cT K))).cs, GxR.TabB base mg p.1 p.2) : DefAt (Wk F (tf.map (He.cT K))) K mg base 19 "back_parts" :=
  def_at SX X G rfl TB 19 19 d_back_parts i_back_parts ["turning"] false rfl rfl rfl (List.mem_of_getElem? (l := fa) (i := 19) rfl) (by decide +kernel) rfl rfl (ok_back_parts _ _) (fun e => by cases e)
    (fun _ _ _ _ _ _ us hl => match us, hl with | [_], _ => rfl)
    (kw_back_parts _)
theorem at_placed (SX : He.SaysX fa fn [] tf ex w h K) (X : K.In h) (G : h.Ns mainGlobals mg) (TB : ∀ p ∈ (Wk F (tf.map (He.cT K))).cs, GxR.TabB base mg p.1 p.2) : DefAt (Wk F (tf.map (He.cT K))) K mg base 20 "placed" :=
  def_at SX X G rfl TB 20 20 d_placed i_placed ["placing", "point"] false rfl rfl rfl (List.mem_of_getElem? (l := fa) (i := 20) rfl) (by decide +kernel) rfl rfl (ok_placed _ _) (fun e => by cases e)
    (fun _ _ _ _ _ _ us hl => match us, hl with | [_, _], _ => rfl)
    (kw_placed _)
theorem at_joined_placings (SX : He.SaysX fa fn [] tf ex w h K) (X : K.In h) (G : h.Ns mainGlobals mg) (TB : ∀ p ∈ (Wk F (tf.map (He.cT K))).cs, GxR.TabB base mg p.1 p.2) : DefAt (Wk F (tf.map (He.cT K))) K mg base 21 "joined_placings" :=
  def_at SX X G rfl TB 21 21 d_joined_placings i_joined_placings ["placing", "other"] false rfl rfl rfl (List.mem_of_getElem? (l := fa) (i := 21) rfl) (by decide +kernel) rfl rfl (ok_joined_placings _ _) (fun e => by cases e)
    (fun _ _ _ _ _ _ us hl => match us, hl with | [_, _], _ => rfl)
    (kw_joined_placings _)
theorem at_back_placing (SX : He.SaysX fa fn [] tf ex w h K) (X : K.In h) (G : h.Ns mainGlobals mg) (TB : ∀ p ∈ (Wk F (tf.map (He.cT K))).cs, GxR.TabB base mg p.1 p.2) : DefAt (Wk F (tf.map (He.cT K))) K mg base 22 "back_placing" :=
  def_at SX X G rfl TB 22 22 d_back_placing i_back_placing ["placing"] false rfl rfl rfl (List.mem_of_getElem? (l := fa) (i := 22) rfl) (by decide +kernel) rfl rfl (ok_back_placing _ _) (fun e => by cases e)
    (fun _ _ _ _ _ _ us hl => match us, hl with | [_], _ => rfl)
    (kw_back_placing _)
theorem at__law_well (SX : He.SaysX fa fn [] tf ex w h K) (X : K.In h) (G : h.Ns mainGlobals mg) (TB : ∀ p ∈ (Wk F (tf.map (He.cT K))).cs, GxR.TabB base mg p.1 p.2) : DefAt (Wk F (tf.map (He.cT K))) K mg base 23 "_law_well" :=
  def_at SX X G rfl TB 23 23 d__law_well i__law_well ["_law_script", "_law_turn"] false rfl rfl rfl (List.mem_of_getElem? (l := fa) (i := 23) rfl) (by decide +kernel) rfl rfl (ok__law_well _ _) (fun e => by cases e)
    (fun _ _ _ _ _ _ us hl => match us, hl with | [_, _], _ => rfl)
    (kw__law_well _)
theorem at__law_draw (SX : He.SaysX fa fn [] tf ex w h K) (X : K.In h) (G : h.Ns mainGlobals mg) (TB : ∀ p ∈ (Wk F (tf.map (He.cT K))).cs, GxR.TabB base mg p.1 p.2) : DefAt (Wk F (tf.map (He.cT K))) K mg base 24 "_law_draw" :=
  def_at SX X G rfl TB 24 24 d__law_draw i__law_draw ["_law_well_here", "_law_many"] false rfl rfl rfl (List.mem_of_getElem? (l := fa) (i := 24) rfl) (by decide +kernel) rfl rfl (ok__law_draw _ _) (fun e => by cases e)
    (fun _ _ _ _ _ _ us hl => match us, hl with | [_, _], _ => rfl)
    (kw__law_draw _)
theorem at__law_pick (SX : He.SaysX fa fn [] tf ex w h K) (X : K.In h) (G : h.Ns mainGlobals mg) (TB : ∀ p ∈ (Wk F (tf.map (He.cT K))).cs, GxR.TabB base mg p.1 p.2) : DefAt (Wk F (tf.map (He.cT K))) K mg base 25 "_law_pick" :=
  def_at SX X G rfl TB 25 25 d__law_pick i__law_pick ["_law_well_here", "_law_some"] false rfl rfl rfl (List.mem_of_getElem? (l := fa) (i := 25) rfl) (by decide +kernel) rfl rfl (ok__law_pick _ _) (fun e => by cases e)
    (fun _ _ _ _ _ _ us hl => match us, hl with | [_, _], _ => rfl)
    (kw__law_pick _)
theorem at__law_low (SX : He.SaysX fa fn [] tf ex w h K) (X : K.In h) (G : h.Ns mainGlobals mg) (TB : ∀ p ∈ (Wk F (tf.map (He.cT K))).cs, GxR.TabB base mg p.1 p.2) : DefAt (Wk F (tf.map (He.cT K))) K mg base 26 "_law_low" :=
  def_at SX X G rfl TB 26 26 d__law_low i__law_low ["_law_well_here"] false rfl rfl rfl (List.mem_of_getElem? (l := fa) (i := 26) rfl) (by decide +kernel) rfl rfl (ok__law_low _ _) (fun e => by cases e)
    (fun _ _ _ _ _ _ us hl => match us, hl with | [_], _ => rfl)
    (kw__law_low _)
theorem at__law_far (SX : He.SaysX fa fn [] tf ex w h K) (X : K.In h) (G : h.Ns mainGlobals mg) (TB : ∀ p ∈ (Wk F (tf.map (He.cT K))).cs, GxR.TabB base mg p.1 p.2) : DefAt (Wk F (tf.map (He.cT K))) K mg base 27 "_law_far" :=
  def_at SX X G rfl TB 27 27 d__law_far i__law_far ["_law_well_here"] false rfl rfl rfl (List.mem_of_getElem? (l := fa) (i := 27) rfl) (by decide +kernel) rfl rfl (ok__law_far _ _) (fun e => by cases e)
    (fun _ _ _ _ _ _ us hl => match us, hl with | [_], _ => rfl)
    (kw__law_far _)
theorem at__law_ratio (SX : He.SaysX fa fn [] tf ex w h K) (X : K.In h) (G : h.Ns mainGlobals mg) (TB : ∀ p ∈ (Wk F (tf.map (He.cT K))).cs, GxR.TabB base mg p.1 p.2) : DefAt (Wk F (tf.map (He.cT K))) K mg base 28 "_law_ratio" :=
  def_at SX X G rfl TB 28 28 d__law_ratio i__law_ratio ["_law_top", "_law_under"] false rfl rfl rfl (List.mem_of_getElem? (l := fa) (i := 28) rfl) (by decide +kernel) rfl rfl (ok__law_ratio _ _) (fun e => by cases e)
    (fun _ _ _ _ _ _ us hl => match us, hl with | [_, _], _ => rfl)
    (kw__law_ratio _)
theorem at__law_plus (SX : He.SaysX fa fn [] tf ex w h K) (X : K.In h) (G : h.Ns mainGlobals mg) (TB : ∀ p ∈ (Wk F (tf.map (He.cT K))).cs, GxR.TabB base mg p.1 p.2) : DefAt (Wk F (tf.map (He.cT K))) K mg base 29 "_law_plus" :=
  def_at SX X G rfl TB 29 29 d__law_plus i__law_plus ["_law_one", "_law_two"] false rfl rfl rfl (List.mem_of_getElem? (l := fa) (i := 29) rfl) (by decide +kernel) rfl rfl (ok__law_plus _ _) (fun e => by cases e)
    (fun _ _ _ _ _ _ us hl => match us, hl with | [_, _], _ => rfl)
    (kw__law_plus _)
theorem at__law_less (SX : He.SaysX fa fn [] tf ex w h K) (X : K.In h) (G : h.Ns mainGlobals mg) (TB : ∀ p ∈ (Wk F (tf.map (He.cT K))).cs, GxR.TabB base mg p.1 p.2) : DefAt (Wk F (tf.map (He.cT K))) K mg base 30 "_law_less" :=
  def_at SX X G rfl TB 30 30 d__law_less i__law_less ["_law_one", "_law_two"] false rfl rfl rfl (List.mem_of_getElem? (l := fa) (i := 30) rfl) (by decide +kernel) rfl rfl (ok__law_less _ _) (fun e => by cases e)
    (fun _ _ _ _ _ _ us hl => match us, hl with | [_, _], _ => rfl)
    (kw__law_less _)
theorem at__law_by (SX : He.SaysX fa fn [] tf ex w h K) (X : K.In h) (G : h.Ns mainGlobals mg) (TB : ∀ p ∈ (Wk F (tf.map (He.cT K))).cs, GxR.TabB base mg p.1 p.2) : DefAt (Wk F (tf.map (He.cT K))) K mg base 31 "_law_by" :=
  def_at SX X G rfl TB 31 31 d__law_by i__law_by ["_law_one", "_law_two"] false rfl rfl rfl (List.mem_of_getElem? (l := fa) (i := 31) rfl) (by decide +kernel) rfl rfl (ok__law_by _ _) (fun e => by cases e)
    (fun _ _ _ _ _ _ us hl => match us, hl with | [_, _], _ => rfl)
    (kw__law_by _)
theorem at__law_sum (SX : He.SaysX fa fn [] tf ex w h K) (X : K.In h) (G : h.Ns mainGlobals mg) (TB : ∀ p ∈ (Wk F (tf.map (He.cT K))).cs, GxR.TabB base mg p.1 p.2) : DefAt (Wk F (tf.map (He.cT K))) K mg base 32 "_law_sum" :=
  def_at SX X G rfl TB 32 32 d__law_sum i__law_sum ["_law_one", "_law_two"] false rfl rfl rfl (List.mem_of_getElem? (l := fa) (i := 32) rfl) (by decide +kernel) rfl rfl (ok__law_sum _ _) (fun e => by cases e)
    (fun _ _ _ _ _ _ us hl => match us, hl with | [_, _], _ => rfl)
    (kw__law_sum _)
theorem at__law_gap (SX : He.SaysX fa fn [] tf ex w h K) (X : K.In h) (G : h.Ns mainGlobals mg) (TB : ∀ p ∈ (Wk F (tf.map (He.cT K))).cs, GxR.TabB base mg p.1 p.2) : DefAt (Wk F (tf.map (He.cT K))) K mg base 33 "_law_gap" :=
  def_at SX X G rfl TB 33 33 d__law_gap i__law_gap ["_law_one", "_law_two"] false rfl rfl rfl (List.mem_of_getElem? (l := fa) (i := 33) rfl) (by decide +kernel) rfl rfl (ok__law_gap _ _) (fun e => by cases e)
    (fun _ _ _ _ _ _ us hl => match us, hl with | [_, _], _ => rfl)
    (kw__law_gap _)
theorem at__law_times (SX : He.SaysX fa fn [] tf ex w h K) (X : K.In h) (G : h.Ns mainGlobals mg) (TB : ∀ p ∈ (Wk F (tf.map (He.cT K))).cs, GxR.TabB base mg p.1 p.2) : DefAt (Wk F (tf.map (He.cT K))) K mg base 34 "_law_times" :=
  def_at SX X G rfl TB 34 34 d__law_times i__law_times ["_law_row_here", "_law_by_here"] false rfl rfl rfl (List.mem_of_getElem? (l := fa) (i := 34) rfl) (by decide +kernel) rfl rfl (ok__law_times _ _) (fun e => by cases e)
    (fun _ _ _ _ _ _ us hl => match us, hl with | [_, _], _ => rfl)
    (kw__law_times _)
theorem at__law_dot (SX : He.SaysX fa fn [] tf ex w h K) (X : K.In h) (G : h.Ns mainGlobals mg) (TB : ∀ p ∈ (Wk F (tf.map (He.cT K))).cs, GxR.TabB base mg p.1 p.2) : DefAt (Wk F (tf.map (He.cT K))) K mg base 35 "_law_dot" :=
  def_at SX X G rfl TB 35 35 d__law_dot i__law_dot ["_law_one", "_law_two"] false rfl rfl rfl (List.mem_of_getElem? (l := fa) (i := 35) rfl) (by decide +kernel) rfl rfl (ok__law_dot _ _) (fun e => by cases e)
    (fun _ _ _ _ _ _ us hl => match us, hl with | [_, _], _ => rfl)
    (kw__law_dot _)
theorem at__law_cross (SX : He.SaysX fa fn [] tf ex w h K) (X : K.In h) (G : h.Ns mainGlobals mg) (TB : ∀ p ∈ (Wk F (tf.map (He.cT K))).cs, GxR.TabB base mg p.1 p.2) : DefAt (Wk F (tf.map (He.cT K))) K mg base 36 "_law_cross" :=
  def_at SX X G rfl TB 36 36 d__law_cross i__law_cross ["_law_one", "_law_two"] false rfl rfl rfl (List.mem_of_getElem? (l := fa) (i := 36) rfl) (by decide +kernel) rfl rfl (ok__law_cross _ _) (fun e => by cases e)
    (fun _ _ _ _ _ _ us hl => match us, hl with | [_, _], _ => rfl)
    (kw__law_cross _)
theorem at__law_nought (SX : He.SaysX fa fn [] tf ex w h K) (X : K.In h) (G : h.Ns mainGlobals mg) (TB : ∀ p ∈ (Wk F (tf.map (He.cT K))).cs, GxR.TabB base mg p.1 p.2) : DefAt (Wk F (tf.map (He.cT K))) K mg base 37 "_law_nought" :=
  def_at SX X G rfl TB 37 37 d__law_nought i__law_nought [] false rfl rfl rfl (List.mem_of_getElem? (l := fa) (i := 37) rfl) (by decide +kernel) rfl rfl (ok__law_nought _ _) (fun e => by cases e)
    (fun _ _ _ _ _ _ us hl => match us, hl with | [], _ => rfl)
    (kw__law_nought _)
theorem at__law_part (SX : He.SaysX fa fn [] tf ex w h K) (X : K.In h) (G : h.Ns mainGlobals mg) (TB : ∀ p ∈ (Wk F (tf.map (He.cT K))).cs, GxR.TabB base mg p.1 p.2) : DefAt (Wk F (tf.map (He.cT K))) K mg base 38 "_law_part" :=
  def_at SX X G rfl TB 38 38 d__law_part i__law_part ["_law_well_here"] false rfl rfl rfl (List.mem_of_getElem? (l := fa) (i := 38) rfl) (by decide +kernel) rfl rfl (ok__law_part _ _) (fun e => by cases e)
    (fun _ _ _ _ _ _ us hl => match us, hl with | [_], _ => rfl)
    (kw__law_part _)
theorem at__law_row (SX : He.SaysX fa fn [] tf ex w h K) (X : K.In h) (G : h.Ns mainGlobals mg) (TB : ∀ p ∈ (Wk F (tf.map (He.cT K))).cs, GxR.TabB base mg p.1 p.2) : DefAt (Wk F (tf.map (He.cT K))) K mg base 39 "_law_row" :=
  def_at SX X G rfl TB 39 39 d__law_row i__law_row ["_law_well_here"] false rfl rfl rfl (List.mem_of_getElem? (l := fa) (i := 39) rfl) (by decide +kernel) rfl rfl (ok__law_row _ _) (fun e => by cases e)
    (fun _ _ _ _ _ _ us hl => match us, hl with | [_], _ => rfl)
    (kw__law_row _)
theorem at__law_wide (SX : He.SaysX fa fn [] tf ex w h K) (X : K.In h) (G : h.Ns mainGlobals mg) (TB : ∀ p ∈ (Wk F (tf.map (He.cT K))).cs, GxR.TabB base mg p.1 p.2) : DefAt (Wk F (tf.map (He.cT K))) K mg base 40 "_law_wide" :=
  def_at SX X G rfl TB 40 40 d__law_wide i__law_wide ["_law_well_here"] false rfl rfl rfl (List.mem_of_getElem? (l := fa) (i := 40) rfl) (by decide +kernel) rfl rfl (ok__law_wide _ _) (fun e => by cases e)
    (fun _ _ _ _ _ _ us hl => match us, hl with | [_], _ => rfl)
    (kw__law_wide _)
theorem at__law_lean (SX : He.SaysX fa fn [] tf ex w h K) (X : K.In h) (G : h.Ns mainGlobals mg) (TB : ∀ p ∈ (Wk F (tf.map (He.cT K))).cs, GxR.TabB base mg p.1 p.2) : DefAt (Wk F (tf.map (He.cT K))) K mg base 41 "_law_lean" :=
  def_at SX X G rfl TB 41 41 d__law_lean i__law_lean ["_law_numbers"] false rfl rfl rfl (List.mem_of_getElem? (l := fa) (i := 41) rfl) (by decide +kernel) rfl rfl (ok__law_lean _ _) (fun e => by cases e)
    (fun _ _ _ _ _ _ us hl => match us, hl with | [_], _ => rfl)
    (kw__law_lean _)
theorem at__law_turning (SX : He.SaysX fa fn [] tf ex w h K) (X : K.In h) (G : h.Ns mainGlobals mg) (TB : ∀ p ∈ (Wk F (tf.map (He.cT K))).cs, GxR.TabB base mg p.1 p.2) : DefAt (Wk F (tf.map (He.cT K))) K mg base 42 "_law_turning" :=
  def_at SX X G rfl TB 42 42 d__law_turning i__law_turning ["_law_well_here"] false rfl rfl rfl (List.mem_of_getElem? (l := fa) (i := 42) rfl) (by decide +kernel) rfl rfl (ok__law_turning _ _) (fun e => by cases e)
    (fun _ _ _ _ _ _ us hl => match us, hl with | [_], _ => rfl)
    (kw__law_turning _)
theorem at__law_turned (SX : He.SaysX fa fn [] tf ex w h K) (X : K.In h) (G : h.Ns mainGlobals mg) (TB : ∀ p ∈ (Wk F (tf.map (He.cT K))).cs, GxR.TabB base mg p.1 p.2) : DefAt (Wk F (tf.map (He.cT K))) K mg base 43 "_law_turned" :=
  def_at SX X G rfl TB 43 43 d__law_turned i__law_turned ["_law_turns", "_law_row_here"] false rfl rfl rfl (List.mem_of_getElem? (l := fa) (i := 43) rfl) (by decide +kernel) rfl rfl (ok__law_turned _ _) (fun e => by cases e)
    (fun _ _ _ _ _ _ us hl => match us, hl with | [_, _], _ => rfl)
    (kw__law_turned _)
theorem at__law_is_whole (SX : He.SaysX fa fn [] tf ex w h K) (X : K.In h) (G : h.Ns mainGlobals mg) (TB : ∀ p ∈ (Wk F (tf.map (He.cT K))).cs, GxR.TabB base mg p.1 p.2) : DefAt (Wk F (tf.map (He.cT K))) K mg base 44 "_law_is_whole" :=
  def_at SX X G rfl TB 44 44 d__law_is_whole i__law_is_whole ["_law_value"] false rfl rfl rfl (List.mem_of_getElem? (l := fa) (i := 44) rfl) (by decide +kernel) rfl rfl (ok__law_is_whole _ _) (fun e => by cases e)
    (fun _ _ _ _ _ _ us hl => match us, hl with | [_], _ => rfl)
    (kw__law_is_whole _)
theorem at__law_is_ratio (SX : He.SaysX fa fn [] tf ex w h K) (X : K.In h) (G : h.Ns mainGlobals mg) (TB : ∀ p ∈ (Wk F (tf.map (He.cT K))).cs, GxR.TabB base mg p.1 p.2) : DefAt (Wk F (tf.map (He.cT K))) K mg base 45 "_law_is_ratio" :=
  def_at SX X G rfl TB 45 45 d__law_is_ratio i__law_is_ratio ["_law_value"] false rfl rfl rfl (List.mem_of_getElem? (l := fa) (i := 45) rfl) (by decide +kernel) rfl rfl (ok__law_is_ratio _ _) (fun e => by cases e)
    (fun _ _ _ _ _ _ us hl => match us, hl with | [_], _ => rfl)
    (kw__law_is_ratio _)
theorem at__law_are_ratios (SX : He.SaysX fa fn [] tf ex w h K) (X : K.In h) (G : h.Ns mainGlobals mg) (TB : ∀ p ∈ (Wk F (tf.map (He.cT K))).cs, GxR.TabB base mg p.1 p.2) : DefAt (Wk F (tf.map (He.cT K))) K mg base 46 "_law_are_ratios" :=
  def_at SX X G rfl TB 46 46 d__law_are_ratios i__law_are_ratios ["_law_value", "_law_many"] false rfl rfl rfl (List.mem_of_getElem? (l := fa) (i := 46) rfl) (by decide +kernel) rfl rfl (ok__law_are_ratios _ _) (fun e => by cases e)
    (fun _ _ _ _ _ _ us hl => match us, hl with | [_, _], _ => rfl)
    (kw__law_are_ratios _)
theorem at__law_is_turning (SX : He.SaysX fa fn [] tf ex w h K) (X : K.In h) (G : h.Ns mainGlobals mg) (TB : ∀ p ∈ (Wk F (tf.map (He.cT K))).cs, GxR.TabB base mg p.1 p.2) : DefAt (Wk F (tf.map (He.cT K))) K mg base 47 "_law_is_turning" :=
  def_at SX X G rfl TB 47 47 d__law_is_turning i__law_is_turning ["_law_value"] false rfl rfl rfl (List.mem_of_getElem? (l := fa) (i := 47) rfl) (by decide +kernel) rfl rfl (ok__law_is_turning _ _) (fun e => by cases e)
    (fun _ _ _ _ _ _ us hl => match us, hl with | [_], _ => rfl)
    (kw__law_is_turning _)
theorem at__law_is_placing (SX : He.SaysX fa fn [] tf ex w h K) (X : K.In h) (G : h.Ns mainGlobals mg) (TB : ∀ p ∈ (Wk F (tf.map (He.cT K))).cs, GxR.TabB base mg p.1 p.2) : DefAt (Wk F (tf.map (He.cT K))) K mg base 48 "_law_is_placing" :=
  def_at SX X G rfl TB 48 48 d__law_is_placing i__law_is_placing ["_law_value"] false rfl rfl rfl (List.mem_of_getElem? (l := fa) (i := 48) rfl) (by decide +kernel) rfl rfl (ok__law_is_placing _ _) (fun e => by cases e)
    (fun _ _ _ _ _ _ us hl => match us, hl with | [_], _ => rfl)
    (kw__law_is_placing _)
theorem at__law_odd (SX : He.SaysX fa fn [] tf ex w h K) (X : K.In h) (G : h.Ns mainGlobals mg) (TB : ∀ p ∈ (Wk F (tf.map (He.cT K))).cs, GxR.TabB base mg p.1 p.2) : DefAt (Wk F (tf.map (He.cT K))) K mg base 49 "_law_odd" :=
  def_at SX X G rfl TB 49 49 d__law_odd i__law_odd ["_law_well_here"] false rfl rfl rfl (List.mem_of_getElem? (l := fa) (i := 49) rfl) (by decide +kernel) rfl rfl (ok__law_odd _ _) (fun e => by cases e)
    (fun _ _ _ _ _ _ us hl => match us, hl with | [_], _ => rfl)
    (kw__law_odd _)
theorem at__law_bent (SX : He.SaysX fa fn [] tf ex w h K) (X : K.In h) (G : h.Ns mainGlobals mg) (TB : ∀ p ∈ (Wk F (tf.map (He.cT K))).cs, GxR.TabB base mg p.1 p.2) : DefAt (Wk F (tf.map (He.cT K))) K mg base 50 "_law_bent" :=
  def_at SX X G rfl TB 50 50 d__law_bent i__law_bent ["_law_well_here", "_law_thing"] false rfl rfl rfl (List.mem_of_getElem? (l := fa) (i := 50) rfl) (by decide +kernel) rfl rfl (ok__law_bent _ _) (fun e => by cases e)
    (fun _ _ _ _ _ _ us hl => match us, hl with | [_, _], _ => rfl)
    (kw__law_bent _)
theorem at__law_spots (SX : He.SaysX fa fn [] tf ex w h K) (X : K.In h) (G : h.Ns mainGlobals mg) (TB : ∀ p ∈ (Wk F (tf.map (He.cT K))).cs, GxR.TabB base mg p.1 p.2) : DefAt (Wk F (tf.map (He.cT K))) K mg base 51 "_law_spots" :=
  def_at SX X G rfl TB 51 51 d__law_spots i__law_spots [] false rfl rfl rfl (List.mem_of_getElem? (l := fa) (i := 51) rfl) (by decide +kernel) rfl rfl (ok__law_spots _ _) (fun e => by cases e)
    (fun _ _ _ _ _ _ us hl => match us, hl with | [], _ => rfl)
    (kw__law_spots _)
theorem at__law_square (SX : He.SaysX fa fn [] tf ex w h K) (X : K.In h) (G : h.Ns mainGlobals mg) (TB : ∀ p ∈ (Wk F (tf.map (He.cT K))).cs, GxR.TabB base mg p.1 p.2) : DefAt (Wk F (tf.map (He.cT K))) K mg base 52 "_law_square" :=
  def_at SX X G rfl TB 52 52 d__law_square i__law_square ["_law_one", "_law_two"] false rfl rfl rfl (List.mem_of_getElem? (l := fa) (i := 52) rfl) (by decide +kernel) rfl rfl (ok__law_square _ _) (fun e => by cases e)
    (fun _ _ _ _ _ _ us hl => match us, hl with | [_, _], _ => rfl)
    (kw__law_square _)
theorem at__law_are_forms_right (SX : He.SaysX fa fn [] tf ex w h K) (X : K.In h) (G : h.Ns mainGlobals mg) (TB : ∀ p ∈ (Wk F (tf.map (He.cT K))).cs, GxR.TabB base mg p.1 p.2) : DefAt (Wk F (tf.map (He.cT K))) K mg base 53 "_law_are_forms_right" :=
  def_at SX X G rfl TB 53 53 d__law_are_forms_right i__law_are_forms_right ["_law_well_here", "_law_seat"] false rfl rfl rfl (List.mem_of_getElem? (l := fa) (i := 53) rfl) (by decide +kernel) rfl rfl (ok__law_are_forms_right _ _) (fun e => by cases e)
    (fun _ _ _ _ _ _ us hl => match us, hl with | [_, _], _ => rfl)
    (kw__law_are_forms_right _)
theorem at__law_right (SX : He.SaysX fa fn [] tf ex w h K) (X : K.In h) (G : h.Ns mainGlobals mg) (TB : ∀ p ∈ (Wk F (tf.map (He.cT K))).cs, GxR.TabB base mg p.1 p.2) : DefAt (Wk F (tf.map (He.cT K))) K mg base 54 "_law_right" :=
  def_at SX X G rfl TB 54 54 d__law_right i__law_right ["_law_well_here"] false rfl rfl rfl (List.mem_of_getElem? (l := fa) (i := 54) rfl) (by decide +kernel) rfl rfl (ok__law_right _ _) (fun e => by cases e)
    (fun _ _ _ _ _ _ us hl => match us, hl with | [_], _ => rfl)
    (kw__law_right _)
theorem at_law (SX : He.SaysX fa fn [] tf ex w h K) (X : K.In h) (G : h.Ns mainGlobals mg) (TB : ∀ p ∈ (Wk F (tf.map (He.cT K))).cs, GxR.TabB base mg p.1 p.2) : DefAt (Wk F (tf.map (He.cT K))) K mg base 55 "law" :=
  def_at SX X G rfl TB 55 55 d_law i_law ["_law_script"] false rfl rfl rfl (List.mem_of_getElem? (l := fa) (i := 55) rfl) (by decide +kernel) rfl rfl (ok_law _ _) (fun e => by cases e)
    (fun _ _ _ _ _ _ us hl => match us, hl with | [_], _ => rfl)
    (kw_law _)
theorem defs_ok (SX : He.SaysX fa fn [] tf ex w h K) (X : K.In h) (G : h.Ns mainGlobals mg) (TB : ∀ p ∈ (Wk F (tf.map (He.cT K))).cs, GxR.TabB base mg p.1 p.2) : ∀ f x, (Wk F (tf.map (He.cT K))).nm f = some x → DefAt (Wk F (tf.map (He.cT K))) K mg base f x
  | 0, x, e => by
    obtain rfl : ("ratio" : PySem.Str) = x := Option.some.inj e
    exact at_ratio SX X G TB
  | 1, x, e => by
    obtain rfl : ("ratio_sum" : PySem.Str) = x := Option.some.inj e
    exact at_ratio_sum SX X G TB
  | 2, x, e => by
    obtain rfl : ("ratio_product" : PySem.Str) = x := Option.some.inj e
    exact at_ratio_product SX X G TB
  | 3, x, e => by
    obtain rfl : ("over_common" : PySem.Str) = x := Option.some.inj e
    exact at_over_common SX X G TB
  | 4, x, e => by
    obtain rfl : ("without_common" : PySem.Str) = x := Option.some.inj e
    exact at_without_common SX X G TB
  | 5, x, e => by
    obtain rfl : ("forward" : PySem.Str) = x := Option.some.inj e
    exact at_forward SX X G TB
  | 6, x, e => by
    obtain rfl : ("vector_sum" : PySem.Str) = x := Option.some.inj e
    exact at_vector_sum SX X G TB
  | 7, x, e => by
    obtain rfl : ("vector_times" : PySem.Str) = x := Option.some.inj e
    exact at_vector_times SX X G TB
  | 8, x, e => by
    obtain rfl : ("whole_cross" : PySem.Str) = x := Option.some.inj e
    exact at_whole_cross SX X G TB
  | 9, x, e => by
    obtain rfl : ("is_whole" : PySem.Str) = x := Option.some.inj e
    exact at_is_whole SX X G TB
  | 10, x, e => by
    obtain rfl : ("is_fraction" : PySem.Str) = x := Option.some.inj e
    exact at_is_fraction SX X G TB
  | 11, x, e => by
    obtain rfl : ("is_triple" : PySem.Str) = x := Option.some.inj e
    exact at_is_triple SX X G TB
  | 12, x, e => by
    obtain rfl : ("check_triple" : PySem.Str) = x := Option.some.inj e
    exact at_check_triple SX X G TB
  | 13, x, e => by
    obtain rfl : ("are_four_wholes" : PySem.Str) = x := Option.some.inj e
    exact at_are_four_wholes SX X G TB
  | 14, x, e => by
    obtain rfl : ("is_turning" : PySem.Str) = x := Option.some.inj e
    exact at_is_turning SX X G TB
  | 15, x, e => by
    obtain rfl : ("is_placing" : PySem.Str) = x := Option.some.inj e
    exact at_is_placing SX X G TB
  | 16, x, e => by
    obtain rfl : ("check_placing" : PySem.Str) = x := Option.some.inj e
    exact at_check_placing SX X G TB
  | 17, x, e => by
    obtain rfl : ("led_vector" : PySem.Str) = x := Option.some.inj e
    exact at_led_vector SX X G TB
  | 18, x, e => by
    obtain rfl : ("joined_parts" : PySem.Str) = x := Option.some.inj e
    exact at_joined_parts SX X G TB
  | 19, x, e => by
    obtain rfl : ("back_parts" : PySem.Str) = x := Option.some.inj e
    exact at_back_parts SX X G TB
  | 20, x, e => by
    obtain rfl : ("placed" : PySem.Str) = x := Option.some.inj e
    exact at_placed SX X G TB
  | 21, x, e => by
    obtain rfl : ("joined_placings" : PySem.Str) = x := Option.some.inj e
    exact at_joined_placings SX X G TB
  | 22, x, e => by
    obtain rfl : ("back_placing" : PySem.Str) = x := Option.some.inj e
    exact at_back_placing SX X G TB
  | 23, x, e => by
    obtain rfl : ("_law_well" : PySem.Str) = x := Option.some.inj e
    exact at__law_well SX X G TB
  | 24, x, e => by
    obtain rfl : ("_law_draw" : PySem.Str) = x := Option.some.inj e
    exact at__law_draw SX X G TB
  | 25, x, e => by
    obtain rfl : ("_law_pick" : PySem.Str) = x := Option.some.inj e
    exact at__law_pick SX X G TB
  | 26, x, e => by
    obtain rfl : ("_law_low" : PySem.Str) = x := Option.some.inj e
    exact at__law_low SX X G TB
  | 27, x, e => by
    obtain rfl : ("_law_far" : PySem.Str) = x := Option.some.inj e
    exact at__law_far SX X G TB
  | 28, x, e => by
    obtain rfl : ("_law_ratio" : PySem.Str) = x := Option.some.inj e
    exact at__law_ratio SX X G TB
  | 29, x, e => by
    obtain rfl : ("_law_plus" : PySem.Str) = x := Option.some.inj e
    exact at__law_plus SX X G TB
  | 30, x, e => by
    obtain rfl : ("_law_less" : PySem.Str) = x := Option.some.inj e
    exact at__law_less SX X G TB
  | 31, x, e => by
    obtain rfl : ("_law_by" : PySem.Str) = x := Option.some.inj e
    exact at__law_by SX X G TB
  | 32, x, e => by
    obtain rfl : ("_law_sum" : PySem.Str) = x := Option.some.inj e
    exact at__law_sum SX X G TB
  | 33, x, e => by
    obtain rfl : ("_law_gap" : PySem.Str) = x := Option.some.inj e
    exact at__law_gap SX X G TB
  | 34, x, e => by
    obtain rfl : ("_law_times" : PySem.Str) = x := Option.some.inj e
    exact at__law_times SX X G TB
  | 35, x, e => by
    obtain rfl : ("_law_dot" : PySem.Str) = x := Option.some.inj e
    exact at__law_dot SX X G TB
  | 36, x, e => by
    obtain rfl : ("_law_cross" : PySem.Str) = x := Option.some.inj e
    exact at__law_cross SX X G TB
  | 37, x, e => by
    obtain rfl : ("_law_nought" : PySem.Str) = x := Option.some.inj e
    exact at__law_nought SX X G TB
  | 38, x, e => by
    obtain rfl : ("_law_part" : PySem.Str) = x := Option.some.inj e
    exact at__law_part SX X G TB
  | 39, x, e => by
    obtain rfl : ("_law_row" : PySem.Str) = x := Option.some.inj e
    exact at__law_row SX X G TB
  | 40, x, e => by
    obtain rfl : ("_law_wide" : PySem.Str) = x := Option.some.inj e
    exact at__law_wide SX X G TB
  | 41, x, e => by
    obtain rfl : ("_law_lean" : PySem.Str) = x := Option.some.inj e
    exact at__law_lean SX X G TB
  | 42, x, e => by
    obtain rfl : ("_law_turning" : PySem.Str) = x := Option.some.inj e
    exact at__law_turning SX X G TB
  | 43, x, e => by
    obtain rfl : ("_law_turned" : PySem.Str) = x := Option.some.inj e
    exact at__law_turned SX X G TB
  | 44, x, e => by
    obtain rfl : ("_law_is_whole" : PySem.Str) = x := Option.some.inj e
    exact at__law_is_whole SX X G TB
  | 45, x, e => by
    obtain rfl : ("_law_is_ratio" : PySem.Str) = x := Option.some.inj e
    exact at__law_is_ratio SX X G TB
  | 46, x, e => by
    obtain rfl : ("_law_are_ratios" : PySem.Str) = x := Option.some.inj e
    exact at__law_are_ratios SX X G TB
  | 47, x, e => by
    obtain rfl : ("_law_is_turning" : PySem.Str) = x := Option.some.inj e
    exact at__law_is_turning SX X G TB
  | 48, x, e => by
    obtain rfl : ("_law_is_placing" : PySem.Str) = x := Option.some.inj e
    exact at__law_is_placing SX X G TB
  | 49, x, e => by
    obtain rfl : ("_law_odd" : PySem.Str) = x := Option.some.inj e
    exact at__law_odd SX X G TB
  | 50, x, e => by
    obtain rfl : ("_law_bent" : PySem.Str) = x := Option.some.inj e
    exact at__law_bent SX X G TB
  | 51, x, e => by
    obtain rfl : ("_law_spots" : PySem.Str) = x := Option.some.inj e
    exact at__law_spots SX X G TB
  | 52, x, e => by
    obtain rfl : ("_law_square" : PySem.Str) = x := Option.some.inj e
    exact at__law_square SX X G TB
  | 53, x, e => by
    obtain rfl : ("_law_are_forms_right" : PySem.Str) = x := Option.some.inj e
    exact at__law_are_forms_right SX X G TB
  | 54, x, e => by
    obtain rfl : ("_law_right" : PySem.Str) = x := Option.some.inj e
    exact at__law_right SX X G TB
  | 55, x, e => by
    obtain rfl : ("law" : PySem.Str) = x := Option.some.inj e
    exact at_law SX X G TB
  | f + 56, x, e => by cases (show (none : Option PySem.Str) = some x from e)
end
end K06
open PySem PySem.W PySem.Calls PyProof.Rows
theorem K06.holds_of (hmath : ∀ ns : List Int, ns.length ≤ 63 → (∀ z ∈ ns, Builtin.Int.intBits z ≤ 1048576) → ∃ (F : Nat) (stF : Mi.Store), Mi.callF K06.Tk F 60 55 [.scr (ns.map Mi.D.int)] [] = some (.bl true, stF)) : PySem.Challenge.rw_sevenpins_k06_whole_placings_joined_and.Holds := by
  w_on; o_law
  refine HandSHeadRun.head_imp (r := OpenLaw.row PySem.Challenge.rw_sevenpins_k06_whole_placings_joined_and) (q := view (OpenLaw.row PySem.Challenge.rw_sevenpins_k06_whole_placings_joined_and).prog [0, 65]) (H := K06.hk) (ob := K06.ob) (M := 8600) (loose := K06.loose) (d := HandSHeadRun.topDef (OpenLaw.row PySem.Challenge.rw_sevenpins_k06_whole_placings_joined_and).prog 65) (kwd := []) K06.ob_eq
    K06.run (by kernel_rfl) (by kernel_rfl) (by kernel_rfl) (by rfl) (by first | assumption | decide +kernel) (by decide +kernel) ⟨rfl, rfl, rfl, rfl, rfl, by decide +kernel⟩ ?hw ?hc
  case hw => w_witness2
  case hc =>
    refine Att.attach_callB (l := PySem.Challenge.rw_sevenpins_k06_whole_placings_joined_and) (n := 63) rfl (by kernel_rfl) fun w s₀ s₁ mg mb fa o pm cd doc a vs ns G Y ho hd hcd hmg0 hobj hints hlen hbits hg => ?_
    obtain ⟨K, KX, SX⟩ := Y
    obtain ⟨F, stF, hval⟩ := hmath ns hlen hbits
    have hmg : mg ("law" : PySem.Str) = some (.ref fa) := by
      have e : (HandSHeadRun.topDef (OpenLaw.row PySem.Challenge.rw_sevenpins_k06_whole_placings_joined_and).prog 65).name = ("law" : PySem.Str) := by kernel_rfl
      rw [← e]
      exact hmg0
    have free : ∀ x ∈ (["len", "abs", "int", "max", "min", "repr", "str", "divmod", "tuple", "list", "sum", "all", "any", "isinstance", "bool", "range", "zip", "enumerate"] : List PySem.Str), mg x = none := fun x hx => by
      have hin : He.Fa.free x ∈ K06.fa := by
        simp only [List.mem_cons, List.not_mem_nil, or_false] at hx
        rcases hx with rfl | rfl | rfl | rfl | rfl | rfl | rfl | rfl | rfl | rfl | rfl | rfl | rfl | rfl | rfl | rfl | rfl | rfl <;> simp [K06.fa]
      exact He.free_ok KX G.T.g (SX.t.d.facts hin)
    have hex : (He.eqO (PySem.W.nsIn K mainGlobals "gcd") (some (some (.builtin "math.gcd"))) && He.eqO (PySem.W.nsIn K mainGlobals "lcm") (some (some (.builtin "math.lcm"))) && Mi.cstK K K06.gcT) = true := SX.more
    rw [Bool.and_eq_true, Bool.and_eq_true] at hex
    have S : ∀ base : Heap, K.In base → base.Ns mainGlobals mg → (∀ p ∈ (K06.Wk F (K06.tf.map (He.cT K))).cs, GxR.TabB base mg p.1 p.2) → Mi.Sys (K06.Wk F (K06.tf.map (He.cT K))) (PySem.Challenge.rw_sevenpins_k06_whole_placings_joined_and).prog w K mg base := fun base h1 h2 h3 =>
      Mi.sys_of SX KX G.T.g free (fun _ => PySem.W.mg_of KX G.T.g (He.eqO_ok hex.1.1)) (fun _ => PySem.W.mg_of KX G.T.g (He.eqO_ok hex.1.2)) (fun x d e => Mi.cstK_ok KX G.T.g hex.2 x d e) (K06.defs_ok SX KX G.T.g h3)
    refine Mi.law_go (W := K06.Wk F (K06.tf.map (He.cT K))) (k := 60) (f := 55) KX G.T.g G.T.b G.T.builtins G.T.nolimit hg (fun p hp => ?_) (fun p hp => ?_) (fun p hp => ?_) G.T.bmain hobj hints (Nat.le_trans hlen (by decide)) ⟨rfl, by decide +kernel, by decide +kernel⟩ (fun base h1 h2 h3 => ?_) hval
    · obtain ⟨q, hq, rfl⟩ := List.mem_map.mp hp
      exact SX.empty q hq
    · obtain ⟨q, hq, rfl⟩ := List.mem_map.mp hp
      exact SX.out q hq
    · obtain ⟨q, hq, rfl⟩ := List.mem_map.mp hp
      exact PySem.W.codeHd_of_K KX (SX.hd q hq)
    · obtain ⟨a', fd, ps, g1, _, g3, g4, _⟩ := (S base h1 h2 h3).level 60 55 "law" rfl
      rw [hmg] at g1
      cases g1
      exact ⟨fd, ps, g3, g4⟩

set_option Elab.async false
set_option linter.all false
set_option maxRecDepth 100000
set_option maxHeartbeats 4000000
namespace K06
open PySem PySem.Spec PyProof.Rows L2 Mi TL
theorem call_at {F k f : Nat} {d : Mi.Def} {args : List Mi.D} {st : Mi.Store} (h : Tk f = some d) : callF Tk F (k + 1) f args st = runD (callF Tk F k) F d args st := by
  show (match Tk f with
    | some d => runD (callF Tk F k) F d args st
    | none => none) = _
  rw [h]
/-! ### numbers -/
theorem log_small {i : Int} {n : Nat} (h1 : -(2 ^ n : Int) < i) (h2 : i < 2 ^ n) : i.natAbs.log2 ≤ n := by
  by_cases h0 : i.natAbs = 0
  · rw [h0]; simp
  · have h3 : i.natAbs < 2 ^ n := by
      have : (i.natAbs : Int) < 2 ^ n := by omega
      exact_mod_cast this
    exact Nat.le_of_lt ((Nat.log2_lt h0).mpr h3)
theorem mul_ok {i j : Int} {n m : Nat} (h1 : i.natAbs.log2 ≤ n) (h2 : j.natAbs.log2 ≤ m) (h : n + m < 100000000) : bop .mul (.int i) (.int j) = some (.int (i * j)) := by
  simp only [bop]
  rw [if_pos]
  simp; omega
/-! ### stores -/
/-- nothing refers beyond the end -/
def SW (st : Mi.Store) : Prop := okC st.length st = true
theorem SW.set {st : Mi.Store} (h : SW st) (i : Nat) {xs : List Mi.D} (hx : fitDs st.length xs = true) : SW (st.set i (some xs)) := by
  unfold SW okC at *
  rw [List.length_set]
  rw [List.all_eq_true] at *
  intro c hc
  rcases List.mem_or_eq_of_mem_set hc with hc | rfl
  · exact h c hc
  · exact hx
theorem cut_int {st st' : Mi.Store} {v : Int} (h : SW st') (hl : st'.length = st.length) : Mi.cutD st.length (.int v) st' = some (.int v, st') := by
  have e : st'.take st.length = st' := by rw [← hl, List.take_length]
  simp only [Mi.cutD, fitD, e, Bool.true_and]
  rw [← hl]
  unfold SW at h
  rw [h]; rfl
/-- a well at the place n that was asked at most r times -/
structure Well (st : Mi.Store) (n : Nat) (r : Int) : Prop where
  sw : SW st
  ex : ∃ a b c : Int, st[n]? = some (some [.int a, .int b, .int c]) ∧ 0 ≤ a ∧ 0 ≤ b ∧ b < 2147483563 ∧ 0 ≤ c ∧ c ≤ r
/-- only the well has changed -/
def Turned (st : Mi.Store) (n : Nat) (st' : Mi.Store) : Prop := ∃ a b c : Int, st' = st.set n (some [.int a, .int b, .int c])
theorem Turned.trans {st st' st'' : Mi.Store} {n : Nat} (h : Turned st n st') (h' : Turned st' n st'') : Turned st n st'' := by
  obtain ⟨a, b, c, rfl⟩ := h
  obtain ⟨a', b', c', rfl⟩ := h'
  exact ⟨a', b', c', by rw [List.set_set]⟩
theorem well_set {st : Mi.Store} {n : Nat} {a b c r : Int} (hs : SW st) (hn : n < st.length) (h1 : 0 ≤ a) (h2 : 0 ≤ b) (h3 : b < 2147483563) (h4 : 0 ≤ c) (h5 : c ≤ r) : Well (st.set n (some [.int a, .int b, .int c])) n r :=
  ⟨hs.set n rfl, a, b, c, by rw [List.getElem?_set_self hn], h1, h2, h3, h4, h5⟩
theorem fm (a : Int) {b : Int} (h : 0 < b) : a.fmod b = a % b := Int.fmod_eq_emod_of_nonneg a (Int.le_of_lt h)
theorem fd (a : Int) {b : Int} (h : 0 < b) : a.fdiv b = a / b := Int.fdiv_eq_ediv_of_nonneg a (Int.le_of_lt h)
theorem draw_ok {F k n : Nat} {m r : Int} {st : Mi.Store} (hw : Well st n r) (hm : 0 < m) (hm2 : m < 1073741824) (hr : r < 2 ^ 40) :
    ∃ v st', callF Tk F (k + 1) 24 [.cell n, .int m] st = some (.int v, st') ∧ 0 ≤ v ∧ v < m ∧ Well st' n (r + 1) ∧ Turned st n st' := by
  obtain ⟨hs, a, b, c, h, ha, hb, hb2, hc, hcr⟩ := hw
  obtain ⟨hn, hg⟩ := List.getElem?_eq_some_iff.mp h
  by_cases h0 : 0 < a
  · refine ⟨a % m, st.set n (some [.int (a / m), .int b, .int c]), ?_, Int.emod_nonneg _ (by omega), Int.emod_lt_of_pos _ hm, well_set hs hn (Int.ediv_nonneg ha (by omega)) hb hb2 hc (by omega), _, _, _, rfl⟩
    rw [call_at (d := i__law_draw) rfl]
    simp [runD, i__law_draw, evSs, evS, evT, evE, evEs, cop, idxF, itemsD, hn, hg, L2.atI, L2.ixN, biF, hm, hm2, h0, asgTs, setC]
    exact cut_int (hs.set n rfl) (List.length_set)
  · have ea : a = 0 := by omega
    subst ea
    generalize hs1 : (b * 45007 + (c + 1) * 70001 + 5) % 2147483563 = s1
    have s10 : 0 ≤ s1 := by rw [← hs1]; exact Int.emod_nonneg _ (by decide)
    have s11 : s1 < 2147483563 := by rw [← hs1]; exact Int.emod_lt_of_pos _ (by decide)
    generalize hs2 : (s1 * (2 * (s1 / 17) + 30011) + (c + 1)) % 2147483563 = s2
    have s20 : 0 ≤ s2 := by rw [← hs2]; exact Int.emod_nonneg _ (by decide)
    have s21 : s2 < 2147483563 := by rw [← hs2]; exact Int.emod_lt_of_pos _ (by decide)
    have d17 : 0 ≤ s1 / 17 := Int.ediv_nonneg s10 (by decide)
    have d17' : s1 / 17 < 2147483563 := by omega
    have m1 : bop .mul (.int b) (.int 45007) = some (.int (b * 45007)) := mul_ok (n := 40) (m := 40) (log_small (by omega) (by omega)) (log_small (by decide) (by decide)) (by decide)
    have m2 : bop .mul (.int (c + 1)) (.int 70001) = some (.int ((c + 1) * 70001)) := mul_ok (n := 50) (m := 40) (log_small (by omega) (by omega)) (log_small (by decide) (by decide)) (by decide)
    have m3 : bop .mul (.int 2) (.int (s1 / 17)) = some (.int (2 * (s1 / 17))) := mul_ok (n := 40) (m := 40) (log_small (by decide) (by decide)) (log_small (by omega) (by omega)) (by decide)
    have m4 : bop .mul (.int s1) (.int (2 * (s1 / 17) + 30011)) = some (.int (s1 * (2 * (s1 / 17) + 30011))) := mul_ok (n := 40) (m := 40) (log_small (by omega) (by omega)) (log_small (by omega) (by omega)) (by decide)
    have q1 : bop .mod (.int (b * 45007 + (c + 1) * 70001 + 5)) (.int 2147483563) = some (.int s1) := by rw [← hs1, ← fm _ (by decide)]; rfl
    have q2 : bop .mod (.int (s1 * (2 * (s1 / 17) + 30011) + (c + 1))) (.int 2147483563) = some (.int s2) := by rw [← hs2, ← fm _ (by decide)]; rfl
    have q3 : bop .fdiv (.int s1) (.int 17) = some (.int (s1 / 17)) := by rw [← fd _ (by decide)]; simp [bop]; decide +kernel
    have q4 : bop .fdiv (.int s2) (.int 211) = some (.int (s2 / 211)) := by rw [← fd _ (by decide)]; simp [bop]; decide +kernel
    have q5 : bop .mod (.int (s2 / 211)) (.int m) = some (.int (s2 / 211 % m)) := by
      rw [← fm _ hm]
      simp only [bop]
      rw [if_pos (by omega)]
    have a1 : ∀ i j : Int, bop .add (.int i) (.int j) = some (.int (i + j)) := fun _ _ => rfl
    refine ⟨s2 / 211 % m, st.set n (some [.int 0, .int s2, .int (c + 1)]), ?_, Int.emod_nonneg _ (by omega), Int.emod_lt_of_pos _ hm, well_set hs hn (by decide) s20 s21 (by omega) (by omega), _, _, _, rfl⟩
    rw [call_at (d := i__law_draw) rfl]
    simp [runD, i__law_draw, evSs, evS, evT, evE, evEs, cop, idxF, itemsD, hn, hg, L2.atI, L2.ixN, biF, hm, hm2, asgTs, setC, m1, m2, m3, m4, q1, q2, q3, q4, q5, a1]
    exact cut_int (hs.set n rfl) (List.length_set)
theorem cut_pl {st st' : Mi.Store} {v : Mi.D} (hc : ∀ k, v ≠ .cell k) (hf : fitD st.length v = true) (h : SW st') (hl : st'.length = st.length) : Mi.cutD st.length v st' = some (v, st') := by
  have e : st'.take st.length = st' := by rw [← hl, List.take_length]
  have e2 : okC st.length (st'.take st.length) = true := by
    rw [e, ← hl]; exact h
  have go : (if fitD st.length v && okC st.length (st'.take st.length) then some (v, st'.take st.length) else none) = some (v, st') := by rw [hf, e2, e]; rfl
  cases v <;> first | exact absurd rfl (hc _) | exact go
theorem dEq_int (i j : Int) : dEq (.int i) (.int j) = some (decide (i = j)) := by
  have s : ∀ i : Int, SeqAt.shaped (PyData.int i) = true := fun i => rfl
  have e : PyData.eqv (.int i) (.int j) = decide (i = j) := by
    rw [Bool.eq_iff_iff]
    simp [PyData.eqv]
  simp only [dEq, flat0, pd, s, Bool.true_and, if_true, e]
theorem ne_int (i j : Int) : cop .ne (.int i) (.int j) = some (!decide (i = j)) := by
  simp only [cop, dEq_int, Option.map_some]
/-- Euclid's turns -/
theorem euclid {tf : Mi.Env → Mi.Store → Option (Bool × Mi.Store)} {bf : Mi.Env → Mi.Store → Option Mi.Fl} {x y : Option Mi.D} {st : Mi.Store}
    (ht : ∀ a b : Int, tf [x, y, some (.int a), some (.int b)] st = some (!decide (b = 0), st))
    (hb : ∀ a b : Int, 0 < b → bf [x, y, some (.int a), some (.int b)] st = some (.nxt [x, y, some (.int b), some (.int (a % b))] st)) : ∀ (B : Nat) (a b : Int), 0 ≤ a → 0 ≤ b → b.toNat < B →
    loopW tf bf B [x, y, some (.int a), some (.int b)] st = some (.nxt [x, y, some (.int (Int.gcd a b)), some (.int 0)] st)
  | 0, a, b, _, _, h => by omega
  | B + 1, a, b, ha, hb', h => by
    by_cases h0 : b = 0
    · subst h0
      simp only [loopW, ht]
      simp
      omega
    · have hpos : 0 < b := by omega
      have ih := euclid ht hb B b (a % b) hb' (Int.emod_nonneg _ h0) (by
        have := Int.emod_lt_of_pos a hpos
        have := Int.emod_nonneg a h0
        omega)
      have eg : Int.gcd b (a % b) = Int.gcd a b := by
        obtain ⟨m, rfl⟩ := Int.eq_ofNat_of_zero_le ha
        obtain ⟨n, rfl⟩ := Int.eq_ofNat_of_zero_le hb'
        rw [show ((m : Int) % (n : Int)) = ((m % n : Nat) : Int) from rfl]
        show Nat.gcd n (m % n) = Nat.gcd m n
        rw [Nat.gcd_comm n, ← Nat.gcd_rec, Nat.gcd_comm]
      simp only [loopW, ht, hb a b hpos, h0, decide_false, Bool.not_false]
      rw [ih, eg]
theorem ss_nxt {c : CallT} {F : Nat} {s : IS} {r : ISs} {env env' : Mi.Env} {st st' : Mi.Store} (h : evS c F s env st = some (.nxt env' st')) : evSs c F (.cons s r) env st = evSs c F r env' st' := by
  simp only [evSs, h]
theorem ss_ret {c : CallT} {F : Nat} {s : IS} {r : ISs} {env : Mi.Env} {st st' : Mi.Store} {v : Mi.D} (h : evS c F s env st = some (.ret v st')) : evSs c F (.cons s r) env st = some (.ret v st') := by
  simp only [evSs, h]
/-- by how much a fraction is cut -/
def cutBy (t u : Int) : Int := if u > 0 then (Int.gcd t u : Int) else 0 - (Int.gcd t u : Int)
/-- a fraction in lowest terms -/
def ratD (t u : Int) : Mi.D := .tup [.int (t / cutBy t u), .int (u / cutBy t u)]
theorem fdiv_ok {i j : Int} (h0 : j ≠ 0) (h : j.natAbs.log2 < 9000) : bop .fdiv (.int i) (.int j) = some (.int (i.fdiv j)) := by
  simp only [bop]
  rw [if_pos ⟨h0, h⟩]
theorem gcd_bound {t u : Int} (hu : u ≠ 0) (hb : u.natAbs < 2 ^ 8000) : (cutBy t u) ≠ 0 ∧ (cutBy t u).natAbs.log2 < 9000 := by
  have h1 : Int.gcd t u ≠ 0 := fun e => hu (Int.gcd_eq_zero_iff.mp e).2
  have h2 : Int.gcd t u ≤ u.natAbs := Nat.le_of_dvd (Int.natAbs_pos.mpr hu) (Nat.gcd_dvd_right _ _)
  have h3 : (cutBy t u).natAbs = Int.gcd t u := by
    unfold cutBy
    split <;> omega
  refine ⟨fun e => h1 (by rw [← h3, e]; rfl), ?_⟩
  rw [h3]
  have h4 : Int.gcd t u < 2 ^ 8000 := Nat.lt_of_le_of_lt h2 hb
  have := (Nat.log2_lt h1).mpr h4
  omega
theorem dvd_fdiv {a b : Int} (h : b ∣ a) : a.fdiv b = a / b := by
  exact Int.fdiv_eq_ediv_of_dvd h
theorem cutBy_dvd (t u : Int) : cutBy t u ∣ t ∧ cutBy t u ∣ u := by
  unfold cutBy
  have h1 := Int.gcd_dvd_left t u
  have h2 := Int.gcd_dvd_right t u
  split
  · exact ⟨h1, h2⟩
  · rw [Int.zero_sub]
    exact ⟨Int.neg_dvd.mpr h1, Int.neg_dvd.mpr h2⟩
theorem ratio_ok {F k : Nat} {t u : Int} {st : Mi.Store} (hs : SW st) (hu : u ≠ 0) (hb : u.natAbs < 2 ^ 8000) (hF : u.natAbs < F) : callF Tk F (k + 1) 28 [.int t, .int u] st = some (ratD t u, st) := by
  rw [call_at (d := i__law_ratio) rfl]
  have s1 : evS (callF Tk F k) F (.asgP [2, 3] (.cons (.bi .abs (.cons (.var 0) .nil)) (.cons (.bi .abs (.cons (.var 1) .nil)) .nil))) [some (.int t), some (.int u), none, none] st = some (.nxt [some (.int t), some (.int u), some (.int (if t < 0 then -t else t)), some (.int (if u < 0 then -u else u))] st) := by
    simp [evS, evEs, evE, biF]
  have ha : 0 ≤ (if t < 0 then -t else t) := by split <;> omega
  have hb0 : 0 ≤ (if u < 0 then -u else u) := by split <;> omega
  have hbF : (if u < 0 then -u else u).toNat < F := by split <;> omega
  have eg : Int.gcd (if t < 0 then -t else t) (if u < 0 then -u else u) = Int.gcd t u := by
    split <;> split <;> simp [Int.gcd]
  have s2 : evS (callF Tk F k) F (.whl (.cmp .ne (.var 3) (.cst (.int 0))) (.cons (.asgP [2, 3] (.cons (.var 3) (.cons (.bin .mod (.bi .int (.cons (.var 2) .nil)) (.var 3)) .nil))) .nil)) [some (.int t), some (.int u), some (.int (if t < 0 then -t else t)), some (.int (if u < 0 then -u else u))] st =
      some (.nxt [some (.int t), some (.int u), some (.int (Int.gcd t u)), some (.int 0)] st) := by
    rw [← eg]
    refine euclid (fun a b => ?_) (fun a b h => ?_) F _ _ ha hb0 hbF
    · simp only [evT, evE, List.getElem?_cons_succ, List.getElem?_cons_zero, ne_int]
    · have e : bop .mod (.int a) (.int b) = some (.int (a % b)) := by
        rw [← fm a h]
        simp only [bop]
        rw [if_pos (by omega)]
      simp [evSs, evS, evEs, evE, biF, e]
  have s3 : evS (callF Tk F k) F (.asg 2 (.ife (.cmp .gt (.var 1) (.cst (.int 0))) (.var 2) (.bin .sub (.cst (.int 0)) (.var 2)))) [some (.int t), some (.int u), some (.int (Int.gcd t u)), some (.int 0)] st = some (.nxt [some (.int t), some (.int u), some (.int (cutBy t u)), some (.int 0)] st) := by
    by_cases h : u > 0
    · simp [evS, evE, evT, cop, cutBy, h]
    · simp [evS, evE, evT, cop, cutBy, h, bop]
  obtain ⟨g1, g2⟩ := gcd_bound (t := t) hu hb
  obtain ⟨d1, d2⟩ := cutBy_dvd t u
  have s4 : evS (callF Tk F k) F (.ret (.tup (.cons (.bin .fdiv (.var 0) (.var 2)) (.cons (.bin .fdiv (.var 1) (.var 2)) .nil)))) [some (.int t), some (.int u), some (.int (cutBy t u)), some (.int 0)] st = some (.ret (ratD t u) st) := by
    have e1 := fdiv_ok (i := t) g1 g2
    have e2 := fdiv_ok (i := u) g1 g2
    rw [dvd_fdiv d1] at e1
    rw [dvd_fdiv d2] at e2
    have hz : (2 : Nat) ≤ sizeLine := by decide
    simp [evS, evE, evEs, e1, e2, ratD, hz]
  have body : evSs (callF Tk F k) F i__law_ratio.body [some (.int t), some (.int u), none, none] st = some (.ret (ratD t u) st) := by
    show evSs _ _ (.cons _ _) _ _ = _
    rw [ss_nxt s1, ss_nxt s2, ss_nxt s3, ss_ret s4]
  have hcut : Mi.cutD st.length (ratD t u) st = some (ratD t u, st) := cut_pl (fun k => by simp [ratD]) rfl hs rfl
  show (if _ then (match evSs (callF Tk F k) F i__law_ratio.body [some (.int t), some (.int u), none, none] st with
    | some (.ret v st') => Mi.cutD st.length v st'
    | some (.nxt _ st') => Mi.cutD st.length .non st'
    | _ => none) else none) = _
  rw [if_pos ⟨rfl, by decide⟩, body]
  exact hcut
theorem Turned.len {st st' : Mi.Store} {n : Nat} (h : Turned st n st') : st'.length = st.length := by
  obtain ⟨a, b, c, rfl⟩ := h
  exact List.length_set
theorem Well.lt {st : Mi.Store} {n : Nat} {r : Int} (h : Well st n r) : n < st.length := by
  obtain ⟨_, a, b, c, h, _⟩ := h
  exact (List.getElem?_eq_some_iff.mp h).1
/-- a def that only returns -/
theorem run_ret {c : CallT} {F : Nat} {d : Mi.Def} {e : IE} {args : List Mi.D} {st st' : Mi.Store} {v : Mi.D} (hd : d.body = .cons (.ret e) .nil) (hl : args.length = d.np ∧ d.np ≤ d.names.length)
    (he : evE c (args.map some ++ List.replicate (d.names.length - d.np) none) e st = some (v, st')) : runD c F d args st = Mi.cutD st.length v st' := by
  unfold runD
  rw [if_pos hl, hd, ss_ret (v := v) (st' := st') (by simp only [evS, he])]
theorem pick_ok {F k n : Nat} {r : Int} {xs : List Mi.D} {st : Mi.Store} (hw : Well st n r) (hr : r < 2 ^ 40) (h0 : xs ≠ []) (h1 : xs.length < 1000000) (hx : ∀ x ∈ xs, (∀ k, x ≠ .cell k) ∧ ∀ m, fitD m x = true) :
    ∃ x st', callF Tk F (k + 2) 25 [.cell n, .tup xs] st = some (x, st') ∧ x ∈ xs ∧ Well st' n (r + 1) ∧ Turned st n st' := by
  have hlen : 0 < xs.length := List.length_pos_iff.mpr h0
  obtain ⟨v, st', hd, v0, v1, hw', ht⟩ := draw_ok (F := F) (k := k) hw (m := (xs.length : Int)) (by omega) (by omega) hr
  have hv : v.toNat < xs.length := by omega
  have hget : xs[v.toNat]? = some xs[v.toNat] := List.getElem?_eq_getElem hv
  have hat : L2.atI xs v = some xs[v.toNat] := by
    unfold L2.atI L2.ixN
    rw [if_pos v0, if_pos (by omega)]
    exact hget
  have hmem : xs[v.toNat] ∈ xs := List.getElem_mem hv
  refine ⟨xs[v.toNat], st', ?_, hmem, hw', ht⟩
  rw [call_at (d := i__law_pick) rfl]
  refine (run_ret (v := xs[v.toNat]) (st' := st') rfl ⟨rfl, by decide⟩ ?_).trans (cut_pl (hx _ hmem).1 ((hx _ hmem).2 _) hw'.sw ht.len)
  show (match evE (callF Tk F (k + 1)) [some (.cell n), some (.tup xs)] (.var 1) st with
    | some (x, st1) => (match evE (callF Tk F (k + 1)) [some (.cell n), some (.tup xs)] (.call 24 (.cons (.var 0) (.cons (.bi .len (.cons (.var 1) .nil)) .nil))) st1 with
      | some (y, st2) => (match idxF x y st2 with
        | some z => some (z, st2)
        | none => none)
      | none => none)
    | none => none) = _
  have e2 : evE (callF Tk F (k + 1)) [some (.cell n), some (.tup xs)] (.call 24 (.cons (.var 0) (.cons (.bi .len (.cons (.var 1) .nil)) .nil))) st = some (.int v, st') := by
    simp [evE, evEs, biF, itemsD, hd]
  have e1 : evE (callF Tk F (k + 1)) [some (.cell n), some (.tup xs)] (.var 1) st = some (.tup xs, st) := rfl
  simp only [e1, e2, idxF, itemsD, Option.bind_some, hat]
/-- flat ints -/
theorem ints_flat {ns : List Int} : ∀ x ∈ ns.map Mi.D.int, (∀ k, x ≠ .cell k) ∧ ∀ m, fitD m x = true := fun x hx => by
  obtain ⟨i, _, rfl⟩ := List.mem_map.mp hx
  exact ⟨fun k e => (by cases e), fun m => rfl⟩
theorem low_ok {F k n : Nat} {r : Int} {st : Mi.Store} (hw : Well st n r) (hr : r + 1 < 2 ^ 40) :
    ∃ v st', callF Tk F (k + 3) 26 [.cell n] st = some (.int v, st') ∧ -99 ≤ v ∧ v ≤ 99 ∧ Well st' n (r + 2) ∧ Turned st n st' := by
  obtain ⟨x, st1, h1, hx, hw1, ht1⟩ := pick_ok (F := F) (k := k) hw (xs := [3, 3, 3, 2, 1, 6, 20, 99].map Mi.D.int) (by omega) (by decide) (by decide) ints_flat
  obtain ⟨i, hi, rfl⟩ := List.mem_map.mp hx
  have hi2 : 1 ≤ i ∧ i ≤ 99 := by
    simp at hi
    omega
  obtain ⟨v, st2, h2, v0, v1, hw2, ht2⟩ := draw_ok (F := F) (k := k + 1) hw1 (m := 2 * i + 1) (by omega) (by omega) hr
  refine ⟨v - i, st2, ?_, by omega, by omega, by rw [show r + 2 = r + 1 + 1 by omega]; exact hw2, ht1.trans ht2⟩
  rw [call_at (d := i__law_low) rfl]
  have s1 : evS (callF Tk F (k + 2)) F (.asg 1 (.call 25 (.cons (.var 0) (.cons (.tup (.cons (.cst (.int 3)) (.cons (.cst (.int 3)) (.cons (.cst (.int 3)) (.cons (.cst (.int 2)) (.cons (.cst (.int 1)) (.cons (.cst (.int 6)) (.cons (.cst (.int 20)) (.cons (.cst (.int 99)) .nil))))))))) .nil)))) [some (.cell n), none] st = some (.nxt [some (.cell n), some (.int i)] st1) := by
    have hz : (8 : Nat) ≤ sizeLine := by decide
    simp [evS, evE, evEs, hz]
    simp at h1
    rw [h1]
  have m1 : bop .mul (.int 2) (.int i) = some (.int (2 * i)) := mul_ok (n := 10) (m := 10) (log_small (by decide) (by decide)) (log_small (by omega) (by omega)) (by decide)
  have a1 : ∀ i j : Int, bop .add (.int i) (.int j) = some (.int (i + j)) := fun _ _ => rfl
  have b1 : ∀ i j : Int, bop .sub (.int i) (.int j) = some (.int (i - j)) := fun _ _ => rfl
  have s2 : evS (callF Tk F (k + 2)) F (.ret (.bin .sub (.call 24 (.cons (.var 0) (.cons (.bin .add (.bin .mul (.cst (.int 2)) (.var 1)) (.cst (.int 1))) .nil))) (.var 1))) [some (.cell n), some (.int i)] st1 = some (.ret (.int (v - i)) st2) := by
    simp [evS, evE, evEs, m1, a1, b1, h2]
  show (if _ then (match evSs (callF Tk F (k + 2)) F (.cons _ (.cons _ .nil)) [some (.cell n), none] st with
    | some (.ret v st') => Mi.cutD st.length v st'
    | some (.nxt _ st') => Mi.cutD st.length .non st'
    | _ => none) else none) = _
  rw [if_pos ⟨rfl, by decide⟩, ss_nxt s1, ss_ret s2]
  exact cut_int hw2.sw (ht1.trans ht2).len
theorem log_nat {i : Int} {n : Nat} (h : i.natAbs < 2 ^ n) : i.natAbs.log2 ≤ n := by
  by_cases h0 : i.natAbs = 0
  · rw [h0]; simp
  · exact Nat.le_of_lt ((Nat.log2_lt h0).mpr h)
theorem far_step {f d : Int} {B : Nat} (h : f.natAbs < 2 ^ B) (h1 : 0 ≤ d) (h2 : d < 1000003) : (f * 1000003 + d).natAbs < 2 ^ (B + 21) := by
  have e1 : (f * 1000003 + d).natAbs ≤ f.natAbs * 1000003 + d.natAbs := by
    have := Int.natAbs_add_le (f * 1000003) d
    rw [Int.natAbs_mul] at this
    exact this
  have e2 : d.natAbs < 1000003 := by omega
  have e3 : 2 ^ (B + 21) = 2 ^ B * 2097152 := by rw [Nat.pow_add]
  rw [e3]
  omega
abbrev farB : ISs := .cons (.asg 1 (.bin .add (.bin .mul (.var 1) (.cst (.int 1000003))) (.call 24 (.cons (.var 0) (.cons (.cst (.int 1000003)) .nil))))) .nil
theorem far_loop {F k n : Nat} : ∀ (xs : List Mi.D) (f : Int) (B : Nat) (st : Mi.Store) (r : Int) (s : Option Mi.D), Well st n r → f.natAbs < 2 ^ B → B + 21 * xs.length < 2000 → r + xs.length < 2 ^ 40 →
    ∃ f' st' s', loopF (fun x env st => match bindT (.nm 2) x env with
      | some env' => evSs (callF Tk F (k + 1)) F farB env' st
      | none => none) xs [some (.cell n), some (.int f), s] st = some (.nxt [some (.cell n), some (.int f'), s'] st') ∧ f'.natAbs < 2 ^ (B + 21 * xs.length) ∧ Well st' n (r + xs.length) ∧ (st' = st ∨ Turned st n st')
  | [], f, B, st, r, s, hw, hf, _, _ => ⟨f, st, s, rfl, by simpa using hf, by simpa using hw, .inl rfl⟩
  | x :: xs, f, B, st, r, s, hw, hf, hB, hr => by
    simp only [List.length_cons] at hB hr
    obtain ⟨d, st1, h1, d0, d1, hw1, ht1⟩ := draw_ok (F := F) (k := k) hw (m := 1000003) (by decide) (by decide) (by omega)
    have m1 : bop .mul (.int f) (.int 1000003) = some (.int (f * 1000003)) := mul_ok (n := B) (m := 30) (log_nat hf) (log_small (by decide) (by decide)) (by omega)
    have a1 : ∀ i j : Int, bop .add (.int i) (.int j) = some (.int (i + j)) := fun _ _ => rfl
    have s1 : evSs (callF Tk F (k + 1)) F farB [some (.cell n), some (.int f), some x] st = some (.nxt [some (.cell n), some (.int (f * 1000003 + d)), some x] st1) := by
      simp [evSs, evS, evE, evEs, m1, a1, h1]
    obtain ⟨f', st2, s', h2, hf2, hw2, ht2⟩ := far_loop xs (f * 1000003 + d) (B + 21) st1 (r + 1) (some x) hw1 (far_step hf d0 d1) (by omega) (by omega)
    refine ⟨f', st2, s', ?_, by rw [List.length_cons, show B + 21 * (xs.length + 1) = B + 21 + 21 * xs.length by omega]; exact hf2, by rw [List.length_cons, show r + ((xs.length + 1 : Nat) : Int) = r + 1 + (xs.length : Int) by omega]; exact hw2, .inr ?_⟩
    · simp only [loopF, bindT, List.set_cons_succ, List.set_cons_zero, s1]
      exact h2
    · rcases ht2 with rfl | ht2
      · exact ht1
      · exact ht1.trans ht2
theorem far_ok {F k n : Nat} {r : Int} {st : Mi.Store} (hw : Well st n r) (hr : r + 10 < 2 ^ 40) :
    ∃ v st', callF Tk F (k + 4) 27 [.cell n] st = some (.int v, st') ∧ v.natAbs < 2 ^ 80 ∧ Well st' n (r + 6) ∧ Turned st n st' := by
  obtain ⟨f, st1, h1, f0, f1, hw1, ht1⟩ := low_ok (F := F) (k := k) hw (by omega)
  obtain ⟨x, st2, h2, hx, hw2, ht2⟩ := pick_ok (F := F) (k := k + 1) hw1 (xs := [0, 0, 1, 3].map Mi.D.int) (by omega) (by decide) (by decide) ints_flat
  obtain ⟨i, hi, rfl⟩ := List.mem_map.mp hx
  have hi2 : 0 ≤ i ∧ i ≤ 3 := by
    simp at hi
    omega
  obtain ⟨v, st3, s', h3, hv, hw3, ht3⟩ := far_loop (F := F) (k := k + 2) ((List.range i.toNat).map fun j => .int (0 + (j : Nat))) f 7 st2 (r + 2 + 1) none hw2 (by omega) (by simp; omega) (by simp; omega)
  have hl : ((List.range i.toNat).map fun j : Nat => Mi.D.int (0 + (j : Nat))).length = i.toNat := by simp
  rw [hl] at hv hw3
  have hlen3 : st3.length = st.length := by
    have e1 := (ht1.trans ht2).len
    rcases ht3 with rfl | ht3
    · exact e1
    · rw [ht3.len, e1]
  have hT : Turned st n st3 := by
    rcases ht3 with rfl | ht3
    · exact ht1.trans ht2
    · exact (ht1.trans ht2).trans ht3
  refine ⟨v, st3, ?_, ?_, ?_, hT⟩
  · rw [call_at (d := i__law_far) rfl]
    have s1 : evS (callF Tk F (k + 3)) F (.asg 1 (.call 26 (.cons (.var 0) .nil))) [some (.cell n), none, none] st = some (.nxt [some (.cell n), some (.int f), none] st1) := by
      simp [evS, evE, evEs, h1]
    have s2 : evS (callF Tk F (k + 3)) F (.forr (.nm 2) (.rng (.call 25 (.cons (.var 0) (.cons (.tup (.cons (.cst (.int 0)) (.cons (.cst (.int 0)) (.cons (.cst (.int 1)) (.cons (.cst (.int 3)) .nil))))) .nil)))) farB) [some (.cell n), some (.int f), none] st1 = some (.nxt [some (.cell n), some (.int v), s'] st3) := by
      have hz : (4 : Nat) ≤ sizeLine := by decide
      have e : evI (callF Tk F (k + 3)) [some (.cell n), some (.int f), none] (.rng (.call 25 (.cons (.var 0) (.cons (.tup (.cons (.cst (.int 0)) (.cons (.cst (.int 0)) (.cons (.cst (.int 1)) (.cons (.cst (.int 3)) .nil))))) .nil)))) st1 = some ((List.range i.toNat).map fun j => .int (0 + (j : Nat)), st2) := by
        simp only [List.map_cons, List.map_nil] at h2
        simp [evI, evE, evEs, hz, h2]
        omega
      simp only [evS, e]
      exact h3
    have s3 : evS (callF Tk F (k + 3)) F (.ret (.var 1)) [some (.cell n), some (.int v), s'] st3 = some (.ret (.int v) st3) := by
      simp [evS, evE]
    show (if _ then (match evSs (callF Tk F (k + 3)) F (.cons _ (.cons _ (.cons _ .nil))) [some (.cell n), none, none] st with
      | some (.ret v st') => Mi.cutD st.length v st'
      | some (.nxt _ st') => Mi.cutD st.length .non st'
      | _ => none) else none) = _
    rw [if_pos ⟨rfl, by decide⟩, ss_nxt s1, ss_nxt s2, ss_ret s3]
    exact cut_int hw3.sw hlen3
  · exact Nat.lt_of_lt_of_le hv (Nat.pow_le_pow_right (by decide) (by omega))
  · obtain ⟨a, b, c, e, h4, h5, h6, h7, h8⟩ := hw3.ex
    exact ⟨hw3.sw, a, b, c, e, h4, h5, h6, h7, by omega⟩
/-- a number of the fractions -/
def fracD (q : Rat) : Mi.D := .tup [.int q.num, .int (q.den : Int)]
theorem ratD_eq {t u : Int} (hu : u ≠ 0) : ratD t u = fracD (Rat.divInt t u) := by
  have g1 : (Int.gcd t u : Int) ∣ t := Int.gcd_dvd_left t u
  have g2 : (Int.gcd t u : Int) ∣ u := Int.gcd_dvd_right t u
  unfold ratD fracD cutBy
  rw [Rat.num_divInt, Rat.den_divInt, if_neg hu, Int.gcd_comm u t]
  by_cases h : u > 0
  · rw [if_pos h]
    have e1 : u.sign = 1 := Int.sign_eq_one_of_pos h
    have e2 : ((u.natAbs / Int.gcd t u : Nat) : Int) = u / (Int.gcd t u : Int) := by
      rw [Int.natCast_ediv, Int.natAbs_of_nonneg (by omega)]
    rw [e1, e2, Int.one_mul]
  · rw [if_neg h]
    have hn : u < 0 := by omega
    have e1 : u.sign = -1 := Int.sign_eq_neg_one_of_neg hn
    have e2 : ((u.natAbs / Int.gcd t u : Nat) : Int) = -u / (Int.gcd t u : Int) := by
      rw [Int.natCast_ediv]
      congr 1
      omega
    rw [e1, e2, Int.zero_sub, Int.ediv_neg, Int.ediv_neg, Int.neg_ediv_of_dvd g2, show (-1 * t) = -t by omega, Int.neg_ediv_of_dvd g1]
/-- no greater than two to the B -/
def Bd (B : Nat) (q : Rat) : Prop := q.num.natAbs < 2 ^ B ∧ q.den < 2 ^ B
theorem den_ne (q : Rat) : (q.den : Int) ≠ 0 := by
  have := q.den_nz
  omega
theorem natAbs_mul_lt {a b : Int} {B : Nat} (h1 : a.natAbs < 2 ^ B) (h2 : b.natAbs < 2 ^ B) : (a * b).natAbs < 2 ^ (B + B) := by
  rw [Int.natAbs_mul, Nat.pow_add]
  exact Nat.mul_lt_mul'' h1 h2
theorem by_ok {F k B : Nat} {x y : Rat} {st : Mi.Store} (hs : SW st) (hx : Bd B x) (hy : Bd B y) (hB : B + B ≤ 8000) (hF : 2 ^ 8000 ≤ F) : callF Tk F (k + 2) 31 [fracD x, fracD y] st = some (fracD (x * y), st) := by
  rw [call_at (d := i__law_by) rfl]
  have d1 : ((x.den : Int)).natAbs < 2 ^ B := by simpa using hx.2
  have d2 : ((y.den : Int)).natAbs < 2 ^ B := by simpa using hy.2
  have m1 : bop .mul (.int x.num) (.int y.num) = some (.int (x.num * y.num)) := mul_ok (n := B) (m := B) (log_nat hx.1) (log_nat hy.1) (by omega)
  have m2 : bop .mul (.int (x.den : Int)) (.int (y.den : Int)) = some (.int ((x.den : Int) * (y.den : Int))) := mul_ok (n := B) (m := B) (log_nat d1) (log_nat d2) (by omega)
  have hu : (x.den : Int) * (y.den : Int) ≠ 0 := Int.mul_ne_zero (den_ne x) (den_ne y)
  have hb : ((x.den : Int) * (y.den : Int)).natAbs < 2 ^ 8000 := Nat.lt_of_lt_of_le (natAbs_mul_lt d1 d2) (Nat.pow_le_pow_right (by decide) hB)
  have hr := ratio_ok (F := F) (k := k) (t := x.num * y.num) hs hu hb (Nat.lt_of_lt_of_le hb hF)
  have e : Rat.divInt (x.num * y.num) ((x.den : Int) * (y.den : Int)) = x * y := by
    rw [← Rat.divInt_mul_divInt, Rat.num_divInt_den, Rat.num_divInt_den]
  rw [ratD_eq hu, e] at hr
  refine (run_ret (v := fracD (x * y)) (st' := st) rfl ⟨rfl, by decide⟩ ?_).trans (cut_pl (fun k => by simp [fracD]) rfl hs rfl)
  have i0 : ∀ q : Rat, idxF (fracD q) (.int 0) st = some (.int q.num) := fun q => rfl
  have i1 : ∀ q : Rat, idxF (fracD q) (.int 1) st = some (.int (q.den : Int)) := fun q => rfl
  show evE (callF Tk F (k + 1)) [some (fracD x), some (fracD y)] _ st = _
  simp only [evE, evEs, List.getElem?_cons_zero, List.getElem?_cons_succ, i0, i1, m1, m2, hr]
theorem less_ok {F k B : Nat} {x y : Rat} {st : Mi.Store} (hs : SW st) (hx : Bd B x) (hy : Bd B y) (hB : B + B ≤ 8000) (hF : 2 ^ 8000 ≤ F) : callF Tk F (k + 2) 30 [fracD x, fracD y] st = some (fracD (x - y), st) := by
  rw [call_at (d := i__law_less) rfl]
  have d1 : ((x.den : Int)).natAbs < 2 ^ B := by simpa using hx.2
  have d2 : ((y.den : Int)).natAbs < 2 ^ B := by simpa using hy.2
  have m1 : bop .mul (.int x.num) (.int (y.den : Int)) = some (.int (x.num * (y.den : Int))) := mul_ok (n := B) (m := B) (log_nat hx.1) (log_nat d2) (by omega)
  have m2 : bop .mul (.int y.num) (.int (x.den : Int)) = some (.int (y.num * (x.den : Int))) := mul_ok (n := B) (m := B) (log_nat hy.1) (log_nat d1) (by omega)
  have m3 : bop .mul (.int (x.den : Int)) (.int (y.den : Int)) = some (.int ((x.den : Int) * (y.den : Int))) := mul_ok (n := B) (m := B) (log_nat d1) (log_nat d2) (by omega)
  have b1 : ∀ i j : Int, bop .sub (.int i) (.int j) = some (.int (i - j)) := fun _ _ => rfl
  have hu : (x.den : Int) * (y.den : Int) ≠ 0 := Int.mul_ne_zero (den_ne x) (den_ne y)
  have hb : ((x.den : Int) * (y.den : Int)).natAbs < 2 ^ 8000 := Nat.lt_of_lt_of_le (natAbs_mul_lt d1 d2) (Nat.pow_le_pow_right (by decide) hB)
  have hr := ratio_ok (F := F) (k := k) (t := x.num * (y.den : Int) - y.num * (x.den : Int)) hs hu hb (Nat.lt_of_lt_of_le hb hF)
  have e : Rat.divInt (x.num * (y.den : Int) - y.num * (x.den : Int)) ((x.den : Int) * (y.den : Int)) = x - y := by
    rw [← Rat.divInt_sub_divInt _ _ (den_ne x) (den_ne y), Rat.num_divInt_den, Rat.num_divInt_den]
  rw [ratD_eq hu, e] at hr
  refine (run_ret (v := fracD (x - y)) (st' := st) rfl ⟨rfl, by decide⟩ ?_).trans (cut_pl (fun k => by simp [fracD]) rfl hs rfl)
  have i0 : ∀ q : Rat, idxF (fracD q) (.int 0) st = some (.int q.num) := fun q => rfl
  have i1 : ∀ q : Rat, idxF (fracD q) (.int 1) st = some (.int (q.den : Int)) := fun q => rfl
  show evE (callF Tk F (k + 1)) [some (fracD x), some (fracD y)] _ st = _
  simp only [evE, evEs, List.getElem?_cons_zero, List.getElem?_cons_succ, i0, i1, m1, m2, m3, b1, hr]
/-- three numbers -/
def triD (a b c : Rat) : Mi.D := .tup [fracD a, fracD b, fracD c]
theorem frac0 : fracD 0 = .tup [.int 0, .int 1] := rfl
theorem nought_ok {F k : Nat} {st : Mi.Store} (hs : SW st) : callF Tk F (k + 1) 37 [] st = some (triD 0 0 0, st) := by
  rw [call_at (d := i__law_nought) rfl]
  refine (run_ret (v := triD 0 0 0) (st' := st) rfl ⟨rfl, by decide⟩ ?_).trans (cut_pl (fun k => by simp [triD]) rfl hs rfl)
  have h2 : (2 : Nat) ≤ sizeLine := by decide
  have h3 : (3 : Nat) ≤ sizeLine := by decide
  simp [evE, evEs, h2, h3, triD, frac0]
theorem part_ok {F k n : Nat} {r : Int} {st : Mi.Store} (hw : Well st n r) (hr : r + 10 < 2 ^ 40) (hF : 2 ^ 8000 ≤ F) :
    ∃ q st', callF Tk F (k + 4) 38 [.cell n] st = some (fracD q, st') ∧ Bd 8 q ∧ Well st' n (r + 3) ∧ Turned st n st' := by
  obtain ⟨v, st1, h1, v0, v1, hw1, ht1⟩ := low_ok (F := F) (k := k) hw (by omega)
  obtain ⟨x, st2, h2, hx, hw2, ht2⟩ := pick_ok (F := F) (k := k + 1) hw1 (xs := [1, 1, 1, 1, 2, 3, 4, 7].map Mi.D.int) (by omega) (by decide) (by decide) ints_flat
  obtain ⟨i, hi, rfl⟩ := List.mem_map.mp hx
  have hi2 : 1 ≤ i ∧ i ≤ 7 := by
    simp at hi
    omega
  have hu : i ≠ 0 := by omega
  have hb : i.natAbs < 2 ^ 8000 := Nat.lt_of_lt_of_le (show i.natAbs < 2 ^ 3 by omega) (Nat.pow_le_pow_right (by decide) (by decide))
  have h3 := ratio_ok (F := F) (k := k + 2) (t := v) hw2.sw hu hb (Nat.lt_of_lt_of_le hb hF)
  rw [ratD_eq hu] at h3
  have hq : Bd 8 (Rat.divInt v i) := by
    constructor
    · rw [Rat.num_divInt, show i.sign = 1 from Int.sign_eq_one_of_pos (by omega), Int.one_mul]
      have := Int.natAbs_ediv_le_natAbs v (Int.gcd i v : Int)
      omega
    · rw [Rat.den_divInt, if_neg hu]
      have := Nat.div_le_self i.natAbs (Int.gcd i v)
      omega
  refine ⟨Rat.divInt v i, st2, ?_, hq, by rw [show r + 3 = r + 2 + 1 by omega]; exact hw2, ht1.trans ht2⟩
  rw [call_at (d := i__law_part) rfl]
  refine (run_ret (v := fracD (Rat.divInt v i)) (st' := st2) rfl ⟨rfl, by decide⟩ ?_).trans (cut_pl (fun k => by simp [fracD]) rfl hw2.sw (ht1.trans ht2).len)
  have hz : (8 : Nat) ≤ sizeLine := by decide
  simp only [List.map_cons, List.map_nil] at h2
  show evE (callF Tk F (k + 3)) [some (.cell n)] _ st = _
  simp [evE, evEs, hz, h1, h2, h3]
mutual
theorem fit_mono {n m : Nat} (h : n ≤ m) : ∀ {d : Mi.D}, fitD n d = true → fitD m d = true
  | .non, _ => rfl
  | .bl _, _ => rfl
  | .int _, _ => rfl
  | .str _, _ => rfl
  | .tup xs, e => by simp only [fitD] at e ⊢; exact fits_mono h e
  | .lst xs, e => by simp only [fitD] at e ⊢; exact fits_mono h e
  | .scr xs, e => by simp only [fitD] at e ⊢; exact fits_mono h e
  | .cell k, e => by simp only [fitD, decide_eq_true_eq] at e ⊢; omega
  | .dct _ vs, e => by simp only [fitD] at e ⊢; exact fits_mono h e
theorem fits_mono {n m : Nat} (h : n ≤ m) : ∀ {ds : List Mi.D}, fitDs n ds = true → fitDs m ds = true
  | [], _ => rfl
  | d :: ds, e => by
    simp only [fitDs, Bool.and_eq_true] at e ⊢
    exact ⟨fit_mono h e.1, fits_mono h e.2⟩
end
theorem fits_all {n : Nat} {ds : List Mi.D} (h : ∀ d ∈ ds, fitD n d = true) : fitDs n ds = true := by
  induction ds with
  | nil => rfl
  | cons d ds ih =>
    simp only [fitDs, Bool.and_eq_true]
    exact ⟨h d List.mem_cons_self, ih fun x hx => h x (List.mem_cons_of_mem _ hx)⟩
theorem fit_mem {n : Nat} : ∀ {ds : List Mi.D} {d : Mi.D}, fitDs n ds = true → d ∈ ds → fitD n d = true
  | x :: xs, d, h, hd => by
    simp only [fitDs, Bool.and_eq_true] at h
    rcases List.mem_cons.mp hd with rfl | hd
    · exact h.1
    · exact fit_mem h.2 hd
theorem SW.push {st : Mi.Store} (h : SW st) {xs : List Mi.D} (hx : fitDs (st.length + 1) xs = true) : SW (st ++ [some xs]) := by
  unfold SW okC at *
  rw [List.length_append, List.length_singleton, List.all_append, Bool.and_eq_true]
  refine ⟨?_, by simpa using hx⟩
  rw [List.all_eq_true] at *
  intro c hc
  have := h c hc
  cases c with
  | none => rfl
  | some ys => exact fits_mono (Nat.le_succ _) this
theorem map_pure {f : Mi.D → Mi.Store → Option (Option Mi.D × Mi.Store)} {g : Mi.D → Mi.D} {st : Mi.Store} (hs : SW st) : ∀ (xs acc : List Mi.D), (∀ x ∈ xs, (∀ st', SW st' → f x st' = some (some (g x), st')) ∧ ∀ m, fitD m (g x) = true) → fitDs (st.length + 1) acc = true → acc.length + xs.length ≤ sizeLine →
    mapSt st.length f xs (st ++ [some acc]) = some (st ++ [some (acc ++ xs.map g)])
  | [], acc, _, _, _ => by simp [mapSt]
  | x :: xs, acc, h, ha, hl => by
    have hx := h x List.mem_cons_self
    rw [List.length_cons] at hl
    have e : (st ++ [some acc])[st.length]? = some (some acc) := by simp
    have e2 : (st ++ [some acc]).set st.length (some (acc ++ [g x])) = st ++ [some (acc ++ [g x])] := by simp
    simp only [mapSt, hx.1 _ (hs.push ha), e]
    rw [if_pos (by omega), e2, map_pure hs xs (acc ++ [g x]) (fun y hy => h y (List.mem_cons_of_mem _ hy)) ?_ (by rw [List.length_append, List.length_singleton]; omega)]
    · simp
    · refine fits_all fun d hd => ?_
      rcases List.mem_append.mp hd with hd | hd
      · exact fit_mem ha hd
      · rw [List.mem_singleton.mp hd]; exact hx.2 _
/-- a comprehension of values that change nothing -/
theorem comp_pure {c : CallT} {env : Mi.Env} {elt : IE} {tg : ITg} {it : II} {own : List (PySem.Str × Nat)} {st : Mi.Store} {xs : List Mi.D} {g : Mi.D → Mi.D} (hs : SW st) (hi : evI c env it st = some (xs, st)) (ho : tgOwn tg (own.map (·.2)) = true) (hl : xs.length ≤ sizeLine)
    (h : ∀ x ∈ xs, (∀ st', SW st' → turnF c (wipeE env (own.map (·.2))) tg .none elt x st' = some (some (g x), st')) ∧ ∀ m, fitD m (g x) = true) : evE c env (.comp elt tg it .none own) st = some (.lst (xs.map g), st) := by
  have m := map_pure hs xs [] h rfl (by simpa using hl)
  rw [List.nil_append] at m
  have e : (st ++ [some (xs.map g)])[st.length]? = some (some (xs.map g)) := by simp
  have hf : fitDs st.length (xs.map g) = true := fits_all fun d hd => by
    obtain ⟨x, hx, rfl⟩ := List.mem_map.mp hd
    exact (h x hx).2 _
  have hc : Mi.cutD st.length (.lst (xs.map g)) (st ++ [some (xs.map g)]) = some (.lst (xs.map g), st) := by
    have e3 : (st ++ [some (xs.map g)]).take st.length = st := by simp
    have hs' : okC st.length st = true := hs
    show (if fitD st.length (.lst (xs.map g)) && okC st.length ((st ++ [some (xs.map g)]).take st.length) then some (Mi.D.lst (xs.map g), (st ++ [some (xs.map g)]).take st.length) else none) = _
    rw [e3, show fitD st.length (.lst (xs.map g)) = true from hf, hs']; rfl
  show (match evI c env it st with
    | some (xs, st1) => if tgOwn tg (own.map fun p : PySem.Str × Nat => p.2) then (match mapSt st1.length (turnF c (wipeE env (own.map fun p : PySem.Str × Nat => p.2)) tg .none elt) xs (st1 ++ [some []]) with
      | some st2 => (match st2[st1.length]? with
        | some (some ys) => Mi.cutD st1.length (.lst ys) st2
        | _ => none)
      | none => none) else none
    | none => none) = _
  simp only [hi, ho, if_true, m, e]
  exact hc
/-- the number of a fraction's data -/
def ratOf : Mi.D → Rat
  | .tup [.int n, .int d] => Rat.divInt n d
  | _ => 0
theorem ratOf_frac (q : Rat) : ratOf (fracD q) = q := Rat.num_divInt_den q
theorem times_ok {F k B : Nat} {a b c q : Rat} {st : Mi.Store} (hs : SW st) (ha : Bd B a) (hb : Bd B b) (hc : Bd B c) (hq : Bd B q) (hB : B + B ≤ 8000) (hF : 2 ^ 8000 ≤ F) : callF Tk F (k + 3) 34 [triD a b c, fracD q] st = some (triD (a * q) (b * q) (c * q), st) := by
  rw [call_at (d := i__law_times) rfl]
  refine (run_ret (v := triD (a * q) (b * q) (c * q)) (st' := st) rfl ⟨rfl, by decide⟩ ?_).trans (cut_pl (fun k => by simp [triD]) rfl hs rfl)
  have hz : (3 : Nat) ≤ sizeLine := by decide
  have turn : ∀ x : Rat, Bd B x → ∀ st', SW st' → turnF (callF Tk F (k + 2)) (wipeE [some (triD a b c), some (fracD q), none] [2]) (.nm 2) .none (.call 31 (.cons (.var 2) (.cons (.var 1) .nil))) (fracD x) st' = some (some (fracD (x * q)), st') := fun x hx st' hs' => by
    have e := by_ok (F := F) (k := k) hs' hx hq hB hF
    simp [turnF, bindT, wipeE, evTo, evE, evEs, e]
  have e := comp_pure (c := callF Tk F (k + 2)) (env := [some (triD a b c), some (fracD q), none]) (elt := .call 31 (.cons (.var 2) (.cons (.var 1) .nil))) (tg := .nm 2) (it := .seq (.var 0)) (own := [("_law_each", 2)]) (st := st) (xs := [fracD a, fracD b, fracD c]) (g := fun x => fracD (ratOf x * q)) hs rfl rfl hz (fun x hx => ⟨fun st' hs' => ?_, fun m => rfl⟩)
  · simp only [List.map_cons, List.map_nil, ratOf_frac] at e
    show evE (callF Tk F (k + 2)) [some (triD a b c), some (fracD q), none] (.bi .tuple (.cons _ .nil)) st = _
    show (match evEs (callF Tk F (k + 2)) [some (triD a b c), some (fracD q), none] (.cons _ .nil) st with
      | some (xs, st1) => (match biF .tuple xs st1 with
        | some z => some (z, st1)
        | none => none)
      | none => none) = _
    rw [show ∀ e : IE, evEs (callF Tk F (k + 2)) [some (triD a b c), some (fracD q), none] (.cons e .nil) st = (match evE (callF Tk F (k + 2)) [some (triD a b c), some (fracD q), none] e st with
      | some (x, st1) => some ([x], st1)
      | none => none) from fun e => rfl, e]
    rfl
  · simp only [List.mem_cons, List.not_mem_nil, or_false] at hx
    rcases hx with rfl | rfl | rfl <;> rw [ratOf_frac]
    · exact turn a ha st' hs'
    · exact turn b hb st' hs'
    · exact turn c hc st' hs'
theorem divInt_bd {t u : Int} (hu : u ≠ 0) : (Rat.divInt t u).num.natAbs ≤ t.natAbs ∧ (Rat.divInt t u).den ≤ u.natAbs := by
  constructor
  · rw [Rat.num_divInt]
    have h1 := Int.natAbs_ediv_le_natAbs (u.sign * t) (Int.gcd u t : Int)
    have h2 : (u.sign * t).natAbs = t.natAbs := by
      rw [Int.natAbs_mul, Int.natAbs_sign_of_ne_zero hu, Nat.one_mul]
    omega
  · rw [Rat.den_divInt, if_neg hu]
    exact Nat.div_le_self _ _
theorem Bd.mul {B : Nat} {x y : Rat} (hx : Bd B x) (hy : Bd B y) : Bd (B + B) (x * y) := by
  have e : x * y = Rat.divInt (x.num * y.num) ((x.den : Int) * (y.den : Int)) := by
    rw [← Rat.divInt_mul_divInt, Rat.num_divInt_den, Rat.num_divInt_den]
  have hu : (x.den : Int) * (y.den : Int) ≠ 0 := Int.mul_ne_zero (den_ne x) (den_ne y)
  obtain ⟨h1, h2⟩ := divInt_bd (t := x.num * y.num) hu
  rw [e]
  refine ⟨Nat.lt_of_le_of_lt h1 (natAbs_mul_lt hx.1 hy.1), Nat.lt_of_le_of_lt h2 (natAbs_mul_lt ?_ ?_)⟩
  · simpa using hx.2
  · simpa using hy.2
theorem Bd.mono {B C : Nat} {x : Rat} (h : Bd B x) (hc : B ≤ C) : Bd C x :=
  ⟨Nat.lt_of_lt_of_le h.1 (Nat.pow_le_pow_right (by decide) hc), Nat.lt_of_lt_of_le h.2 (Nat.pow_le_pow_right (by decide) hc)⟩
theorem cross_step {F k B : Nat} {a b c x y z : Rat} {st : Mi.Store} (hs : SW st) (hB : B ≤ 2000) (hF : 2 ^ 8000 ≤ F) :
    ∀ (i h t : Int) (p q u v : Rat) (acc : List Mi.D) (e3 e4 e5 : Option Mi.D), fitDs (st.length + 1) acc = true → acc.length < 10 → (i + 1) % 3 = h → (i + 2) % 3 = t → Bd B p → Bd B q → Bd B u → Bd B v →
      L2.atI [fracD a, fracD b, fracD c] h = some (fracD p) → L2.atI [fracD x, fracD y, fracD z] t = some (fracD q) → L2.atI [fracD a, fracD b, fracD c] t = some (fracD u) → L2.atI [fracD x, fracD y, fracD z] h = some (fracD v) →
      evSs (callF Tk F (k + 2)) F (.cons (.asgP [4, 5] (.cons (.bin .mod (.bi .int (.cons (.bin .add (.var 3) (.cst (.int 1))) .nil)) (.cst (.int 3))) (.cons (.bin .mod (.bi .int (.cons (.bin .add (.var 3) (.cst (.int 2))) .nil)) (.cst (.int 3))) .nil)))
        (.cons (.app 2 (.call 30 (.cons (.call 31 (.cons (.idx (.var 0) (.var 4)) (.cons (.idx (.var 1) (.var 5)) .nil))) (.cons (.call 31 (.cons (.idx (.var 0) (.var 5)) (.cons (.idx (.var 1) (.var 4)) .nil))) .nil)))) .nil))
        [some (triD a b c), some (triD x y z), some (.cell st.length), some (.int i), e4, e5] (st ++ [some acc]) =
      some (.nxt [some (triD a b c), some (triD x y z), some (.cell st.length), some (.int i), some (.int h), some (.int t)] (st ++ [some (acc ++ [fracD (p * q - u * v)])])) := by
    intro i h t p q u v acc e3 e4 e5 hacc hlen hh ht hp hq hu hv i1 i2 i3 i4
    have hsa := hs.push hacc
    have r1 := by_ok (F := F) (k := k) hsa hp hq (by omega) hF
    have r2 := by_ok (F := F) (k := k) hsa hu hv (by omega) hF
    have r3 := less_ok (F := F) (k := k) hsa (hp.mul hq) (hu.mul hv) (by omega) hF
    have a1 : ∀ i j : Int, bop .add (.int i) (.int j) = some (.int (i + j)) := fun _ _ => rfl
    have m1 : ∀ j : Int, bop .mod (.int j) (.int 3) = some (.int (j % 3)) := fun j => by rw [← fm j (by decide)]; rfl
    have s1 : evS (callF Tk F (k + 2)) F (.asgP [4, 5] (.cons (.bin .mod (.bi .int (.cons (.bin .add (.var 3) (.cst (.int 1))) .nil)) (.cst (.int 3))) (.cons (.bin .mod (.bi .int (.cons (.bin .add (.var 3) (.cst (.int 2))) .nil)) (.cst (.int 3))) .nil)))
        [some (triD a b c), some (triD x y z), some (.cell st.length), some (.int i), e4, e5] (st ++ [some acc]) = some (.nxt [some (triD a b c), some (triD x y z), some (.cell st.length), some (.int i), some (.int h), some (.int t)] (st ++ [some acc])) := by
      simp [evS, evEs, evE, biF, a1, m1, hh, ht]
    rw [ss_nxt s1]
    have k1 : idxF (triD a b c) (.int h) (st ++ [some acc]) = some (fracD p) := i1
    have k2 : idxF (triD x y z) (.int t) (st ++ [some acc]) = some (fracD q) := i2
    have k3 : idxF (triD a b c) (.int t) (st ++ [some acc]) = some (fracD u) := i3
    have k4 : idxF (triD x y z) (.int h) (st ++ [some acc]) = some (fracD v) := i4
    have hz : acc.length < sizeLine := Nat.lt_trans hlen (by decide)
    simp [evSs, evS, evE, evEs, k1, k2, k3, k4, r1, r2, r3, hz]
theorem cut_more {st : Mi.Store} {v : Mi.D} {c : Option (List Mi.D)} (hc : ∀ k, v ≠ .cell k) (hf : fitD st.length v = true) (h : SW st) : Mi.cutD st.length v (st ++ [c]) = some (v, st) := by
  have e : (st ++ [c]).take st.length = st := List.take_left
  have go : (if fitD st.length v && okC st.length ((st ++ [c]).take st.length) then some (v, (st ++ [c]).take st.length) else none) = some (v, st) := by
    rw [e, hf, show okC st.length st = true from h]; rfl
  cases v <;> first | exact absurd rfl (hc _) | exact go
theorem cross_ok {F k B : Nat} {a b c x y z : Rat} {st : Mi.Store} (hs : SW st) (ha : Bd B a) (hb : Bd B b) (hc : Bd B c) (hx : Bd B x) (hy : Bd B y) (hz : Bd B z) (hB : B ≤ 2000) (hF : 2 ^ 8000 ≤ F) :
    callF Tk F (k + 3) 36 [triD a b c, triD x y z] st = some (triD (b * z - c * y) (c * x - a * z) (a * y - b * x), st) := by
  rw [call_at (d := i__law_cross) rfl]
  have step := @cross_step F k B a b c x y z st hs hB hF
  have f1 : ∀ (n : Nat) (q : Rat), fitD n (fracD q) = true := fun n q => rfl
  have p0 := step 0 1 2 b z c y [] none none none rfl (by decide) rfl rfl hb hz hc hy rfl rfl rfl rfl
  have p1 := step 1 2 0 c x a z [fracD (b * z - c * y)] (some (.int 0)) (some (.int 1)) (some (.int 2)) rfl (by simp) rfl rfl hc hx ha hz rfl rfl rfl rfl
  have p2 := step 2 0 1 a y b x [fracD (b * z - c * y), fracD (c * x - a * z)] (some (.int 1)) (some (.int 2)) (some (.int 0)) rfl (by simp) rfl rfl ha hy hb hx rfl rfl rfl rfl
  have s1 : evS (callF Tk F (k + 2)) F (.asg 2 (.ncl .nil)) [some (triD a b c), some (triD x y z), none, none, none, none] st = some (.nxt [some (triD a b c), some (triD x y z), some (.cell st.length), none, none, none] (st ++ [some []])) := by
    rfl
  have sI : ∀ (env : Mi.Env) (st' : Mi.Store), evI (callF Tk F (k + 2)) env (.rng (.cst (.int 3))) st' = some ([.int 0, .int 1, .int 2], st') := fun _ _ => rfl
  have body : evSs (callF Tk F (k + 2)) F i__law_cross.body [some (triD a b c), some (triD x y z), none, none, none, none] st = some (.ret (triD (b * z - c * y) (c * x - a * z) (a * y - b * x)) (st ++ [some [fracD (b * z - c * y), fracD (c * x - a * z), fracD (a * y - b * x)]])) := by
    unfold i__law_cross
    rw [ss_nxt s1]
    refine (ss_nxt (env' := [some (triD a b c), some (triD x y z), some (.cell st.length), some (.int 2), some (.int 0), some (.int 1)]) (st' := st ++ [some [fracD (b * z - c * y), fracD (c * x - a * z), fracD (a * y - b * x)]]) ?_).trans ?_
    · simp only [evS, sI]
      simp only [loopF, bindT, List.set_cons_succ, List.set_cons_zero]
      rw [p0]
      simp only [List.nil_append, List.cons_append, List.set_cons_succ, List.set_cons_zero]
      rw [p1]
      simp only [List.nil_append, List.cons_append, List.set_cons_succ, List.set_cons_zero]
      rw [p2]
      rfl
    · simp [evSs, evS, evE, evEs, biF, itemsD, triD]
  unfold runD
  rw [if_pos ⟨rfl, by decide⟩]
  show (match evSs (callF Tk F (k + 2)) F i__law_cross.body [some (triD a b c), some (triD x y z), none, none, none, none] st with
    | some (.ret v st') => Mi.cutD st.length v st'
    | some (.nxt _ st') => Mi.cutD st.length .non st'
    | _ => none) = _
  rw [body]
  exact cut_more (fun k => by simp [triD]) rfl hs
theorem dEq_frac (x y : Rat) : dEq (fracD x) (fracD y) = some (decide (x = y)) := by
  have s : ∀ q : Rat, SeqAt.shaped (pd (fracD q)) = true := fun q => rfl
  have f : ∀ q : Rat, flat0 (fracD q) = true := fun q => rfl
  have e : PyData.eqv (pd (fracD x)) (pd (fracD y)) = decide (x = y) := by
    rw [Bool.eq_iff_iff]
    show PyData.eqv (.tuple [.int x.num, .int (x.den : Int)]) (.tuple [.int y.num, .int (y.den : Int)]) = true ↔ _
    simp only [PyData.eqv, PyData.eqvAll, Bool.and_true, Bool.and_eq_true, decide_eq_true_eq]
    constructor
    · intro h
      exact Rat.ext (by simpa using h.1) (Int.ofNat.inj (by simpa using h.2))
    · rintro rfl
      simp
  simp only [dEq, f, s, Bool.true_and, if_true, e]
theorem ne_frac (x y : Rat) : cop .ne (fracD x) (fracD y) = some (!decide (x = y)) := by
  simp only [cop, dEq_frac, Option.map_some]
theorem eq_int (i j : Int) : cop .eq (.int i) (.int j) = some (decide (i = j)) := by
  simp only [cop, dEq_int, Option.map_some]
def nth3 (a b c : Rat) (i : Int) : Rat := if i = 0 then a else if i = 1 then b else c
theorem bd_zero (B : Nat) (h : 1 ≤ B) : Bd B 0 := by
  have : 2 ^ 1 ≤ 2 ^ B := Nat.pow_le_pow_right (by decide) h
  exact ⟨by show 0 < _; omega, by show 1 < _; omega⟩
/-- what the comprehension of a row gives -/
def keep (p : Int → Bool) (a b c : Rat) (x : Mi.D) : Mi.D := match x with
  | .int i => fracD (if p i then nth3 a b c i else 0)
  | x => x
theorem row_comp {cc : CallT} {n : Nat} {w : Int} {a b c : Rat} {st : Mi.Store} {t : IT} (p : Int → Bool) (hs : SW st)
    (ht : ∀ (i : Int) (st' : Mi.Store), evT cc [some (.cell n), some (triD a b c), some (.int w), some (.int i)] t st' = some (p i, st')) :
    evE cc [some (.cell n), some (triD a b c), some (.int w), none] (.bi .tuple (.cons (.comp (.ife t (.idx (.var 1) (.var 3)) (.tup (.cons (.cst (.int 0)) (.cons (.cst (.int 1)) .nil)))) (.nm 3) (.rng (.cst (.int 3))) .none [("_law_k", 3)]) .nil)) st =
      some (triD (if p 0 then a else 0) (if p 1 then b else 0) (if p 2 then c else 0), st) := by
  have hz : (3 : Nat) ≤ sizeLine := by decide
  have hz2 : (2 : Nat) ≤ sizeLine := by decide
  have i0 : ∀ st', idxF (triD a b c) (.int 0) st' = some (fracD a) := fun _ => rfl
  have i1 : ∀ st', idxF (triD a b c) (.int 1) st' = some (fracD b) := fun _ => rfl
  have i2 : ∀ st', idxF (triD a b c) (.int 2) st' = some (fracD c) := fun _ => rfl
  have e := comp_pure (c := cc) (env := [some (.cell n), some (triD a b c), some (.int w), none]) (elt := .ife t (.idx (.var 1) (.var 3)) (.tup (.cons (.cst (.int 0)) (.cons (.cst (.int 1)) .nil)))) (tg := .nm 3) (it := .rng (.cst (.int 3))) (own := [("_law_k", 3)]) (st := st) (xs := [.int 0, .int 1, .int 2]) (g := keep p a b c) hs rfl rfl hz (fun x hx => ?_)
  · have e' : evE cc [some (.cell n), some (triD a b c), some (.int w), none] (.comp (.ife t (.idx (.var 1) (.var 3)) (.tup (.cons (.cst (.int 0)) (.cons (.cst (.int 1)) .nil)))) (.nm 3) (.rng (.cst (.int 3))) .none [("_law_k", 3)]) st = some (.lst [fracD (if p 0 then a else 0), fracD (if p 1 then b else 0), fracD (if p 2 then c else 0)], st) := e
    simp only [evE, evEs] at e' ⊢
    rw [e']
    rfl
  · simp only [List.mem_cons, List.not_mem_nil, or_false] at hx
    rcases hx with rfl | rfl | rfl
    · refine ⟨fun st' _ => ?_, fun m => rfl⟩
      cases hp : p 0 <;> simp [turnF, bindT, wipeE, evTo, evE, evEs, ht, i0, hz2, keep, hp, nth3, frac0]
    · refine ⟨fun st' _ => ?_, fun m => rfl⟩
      cases hp : p 1 <;> simp [turnF, bindT, wipeE, evTo, evE, evEs, ht, i1, hz2, keep, hp, nth3, frac0]
    · refine ⟨fun st' _ => ?_, fun m => rfl⟩
      cases hp : p 2 <;> simp [turnF, bindT, wipeE, evTo, evE, evEs, ht, i2, hz2, keep, hp, nth3, frac0]
theorem bd_if {B : Nat} {p : Bool} {a : Rat} (h : Bd B a) (hB : 1 ≤ B) : Bd B (if p then a else 0) := by
  cases p
  · exact bd_zero B hB
  · exact h
theorem row_ok {F k n : Nat} {r : Int} {st : Mi.Store} (hw : Well st n r) (hr : r + 20 < 2 ^ 40) (hF : 2 ^ 8000 ≤ F) :
    ∃ a b c st', callF Tk F (k + 5) 39 [.cell n] st = some (triD a b c, st') ∧ Bd 8 a ∧ Bd 8 b ∧ Bd 8 c ∧ Well st' n (r + 10) ∧ Turned st n st' := by
  obtain ⟨a, st1, h1, ha, hw1, ht1⟩ := part_ok (F := F) (k := k) hw (by omega) hF
  obtain ⟨b, st2, h2, hb, hw2, ht2⟩ := part_ok (F := F) (k := k) hw1 (by omega) hF
  obtain ⟨c, st3, h3, hc, hw3, ht3⟩ := part_ok (F := F) (k := k) hw2 (by omega) hF
  obtain ⟨w, st4, h4, w0, w1, hw4, ht4⟩ := draw_ok (F := F) (k := k + 3) hw3 (m := 12) (by decide) (by decide) (by omega)
  have hT : Turned st n st4 := ((ht1.trans ht2).trans ht3).trans ht4
  have hW : Well st4 n (r + 10) := by rw [show r + 10 = r + 3 + 3 + 3 + 1 by omega]; exact hw4
  have hz : (3 : Nat) ≤ sizeLine := by decide
  have l4 : cop .lt (.int w) (.int 4) = some (decide (w < 4)) := rfl
  have l7 : cop .lt (.int w) (.int 7) = some (decide (w < 7)) := rfl
  have main : ∀ x y z : Rat, evSs (callF Tk F (k + 4)) F i__law_row.body [some (.cell n), none, none, none] st = some (.ret (triD x y z) st4) → callF Tk F (k + 5) 39 [.cell n] st = some (triD x y z, st4) := by
    intro x y z body
    rw [call_at (d := i__law_row) rfl]
    unfold runD
    rw [if_pos ⟨rfl, by decide⟩]
    show (match evSs (callF Tk F (k + 4)) F i__law_row.body [some (.cell n), none, none, none] st with
      | some (.ret v st') => Mi.cutD st.length v st'
      | some (.nxt _ st') => Mi.cutD st.length .non st'
      | _ => none) = _
    rw [body]
    exact cut_pl (fun k => by simp [triD]) rfl hW.sw hT.len
  have s1 : evS (callF Tk F (k + 4)) F (.asg 1 (.tup (.cons (.call 38 (.cons (.var 0) .nil)) (.cons (.call 38 (.cons (.var 0) .nil)) (.cons (.call 38 (.cons (.var 0) .nil)) .nil))))) [some (.cell n), none, none, none] st = some (.nxt [some (.cell n), some (triD a b c), none, none] st3) := by
    simp [evS, evE, evEs, h1, h2, h3, hz, triD]
  have s2 : evS (callF Tk F (k + 4)) F (.asg 2 (.call 24 (.cons (.var 0) (.cons (.cst (.int 12)) .nil)))) [some (.cell n), some (triD a b c), none, none] st3 = some (.nxt [some (.cell n), some (triD a b c), some (.int w), none] st4) := by
    simp [evS, evE, evEs, h4]
  have c1 := row_comp (cc := callF Tk F (k + 4)) (n := n) (w := w) (a := a) (b := b) (c := c) (st := st4) (t := .cmp .eq (.var 3) (.var 2)) (fun i => decide (i = w)) hW.sw (fun i st' => by simp [evT, evE, eq_int])
  have c2 := row_comp (cc := callF Tk F (k + 4)) (n := n) (w := w) (a := a) (b := b) (c := c) (st := st4) (t := .cmp .ne (.var 3) (.bin .sub (.var 2) (.cst (.int 4)))) (fun i => !decide (i = w - 4)) hW.sw (fun i st' => by
    have b1 : bop .sub (.int w) (.int 4) = some (.int (w - 4)) := rfl
    simp [evT, evE, ne_int, b1])
  have t4 : ∀ p : Bool, decide (w < 4) = p → evT (callF Tk F (k + 4)) [some (.cell n), some (triD a b c), some (.int w), none] (.cmp .lt (.var 2) (.cst (.int 4))) st4 = some (p, st4) := fun p hb => by
    simp [evT, evE, l4, hb]
  have t7 : ∀ p : Bool, decide (w < 7) = p → evT (callF Tk F (k + 4)) [some (.cell n), some (triD a b c), some (.int w), none] (.cmp .lt (.var 2) (.cst (.int 7))) st4 = some (p, st4) := fun p hb => by
    simp [evT, evE, l7, hb]
  by_cases h4' : w < 4
  · refine ⟨if (fun i => decide (i = w)) 0 then a else 0, if (fun i => decide (i = w)) 1 then b else 0, if (fun i => decide (i = w)) 2 then c else 0, st4, main _ _ _ ?_, bd_if ha (by decide), bd_if hb (by decide), bd_if hc (by decide), hW, hT⟩
    unfold i__law_row
    rw [ss_nxt s1, ss_nxt s2]
    refine ss_ret ?_
    simp only [evS]
    rw [t4 true (by simpa using h4')]
    refine ss_ret ?_
    simp only [evS]
    rw [c1]
  · by_cases h7' : w < 7
    · refine ⟨if (fun i => !decide (i = w - 4)) 0 then a else 0, if (fun i => !decide (i = w - 4)) 1 then b else 0, if (fun i => !decide (i = w - 4)) 2 then c else 0, st4, main _ _ _ ?_, bd_if ha (by decide), bd_if hb (by decide), bd_if hc (by decide), hW, hT⟩
      unfold i__law_row
      rw [ss_nxt s1, ss_nxt s2]
      refine (ss_nxt (env' := [some (.cell n), some (triD a b c), some (.int w), none]) (st' := st4) ?_).trans ?_
      · simp only [evS]
        rw [t4 false (by simpa using h4')]
        rfl
      refine ss_ret ?_
      simp only [evS]
      rw [t7 true (by simpa using h7')]
      refine ss_ret ?_
      simp only [evS]
      rw [c2]
    · refine ⟨a, b, c, st4, main _ _ _ ?_, ha, hb, hc, hW, hT⟩
      unfold i__law_row
      rw [ss_nxt s1, ss_nxt s2]
      refine (ss_nxt (env' := [some (.cell n), some (triD a b c), some (.int w), none]) (st' := st4) ?_).trans ?_
      · simp only [evS]
        rw [t4 false (by simpa using h4')]
        rfl
      refine (ss_nxt (env' := [some (.cell n), some (triD a b c), some (.int w), none]) (st' := st4) ?_).trans ?_
      · simp only [evS]
        rw [t7 false (by simpa using h7')]
        rfl
      refine ss_ret ?_
      simp [evS, evE]
theorem Well.mono {st : Mi.Store} {n : Nat} {r s : Int} (h : Well st n r) (hle : r ≤ s) : Well st n s := by
  obtain ⟨hs, a, b, c, h, ha, hb, hb2, hc, hcr⟩ := h
  exact ⟨hs, a, b, c, h, ha, hb, hb2, hc, by omega⟩
theorem dEq_tri (a b c x y z : Rat) : dEq (triD a b c) (triD x y z) = some (decide (a = x ∧ b = y ∧ c = z)) := by
  have s : ∀ a b c : Rat, SeqAt.shaped (pd (triD a b c)) = true := fun a b c => rfl
  have f : ∀ a b c : Rat, flat0 (triD a b c) = true := fun a b c => rfl
  have e1 : ∀ x y : Rat, PyData.eqv (pd (fracD x)) (pd (fracD y)) = decide (x = y) := by
    intro x y
    have h := dEq_frac x y
    simpa only [dEq, show ∀ q : Rat, flat0 (fracD q) = true from fun q => rfl, show ∀ q : Rat, SeqAt.shaped (pd (fracD q)) = true from fun q => rfl, Bool.true_and, if_true, Option.some.injEq] using h
  have e : PyData.eqv (pd (triD a b c)) (pd (triD x y z)) = decide (a = x ∧ b = y ∧ c = z) := by
    show PyData.eqvAll [pd (fracD a), pd (fracD b), pd (fracD c)] [pd (fracD x), pd (fracD y), pd (fracD z)] = _
    simp only [PyData.eqvAll, e1, Bool.and_true]
    rw [Bool.eq_iff_iff]
    simp
  simp only [dEq, f, s, Bool.true_and, if_true, e]
theorem ne_tri (a b c x y z : Rat) : cop .ne (triD a b c) (triD x y z) = some (!decide (a = x ∧ b = y ∧ c = z)) := by
  simp only [cop, dEq_tri, Option.map_some]
theorem isw_ok {F k : Nat} {i : Int} {st : Mi.Store} (hs : SW st) : callF Tk F (k + 1) 44 [.int i] st = some (.bl true, st) := by
  rw [call_at (d := i__law_is_whole) rfl]
  refine (run_ret (v := .bl true) (st' := st) rfl ⟨rfl, by decide⟩ ?_).trans (cut_pl (fun k => by simp) rfl hs rfl)
  rfl
theorem isr_ok {F k : Nat} {q : Rat} {st : Mi.Store} (hs : SW st) (hq : Bd 4000 q) (hF : 2 ^ 8000 ≤ F) : callF Tk F (k + 2) 45 [fracD q] st = some (.bl true, st) := by
  have hz : (2 : Nat) ≤ sizeLine := by decide
  have hu : (q.den : Int) ≠ 0 := den_ne q
  have d1 : ((q.den : Int)).natAbs < 2 ^ 8000 := Nat.lt_of_lt_of_le (by simpa using hq.2) (Nat.pow_le_pow_right (by decide) (by decide))
  have h3 := ratio_ok (F := F) (k := k) (t := q.num) hs hu d1 (Nat.lt_of_lt_of_le d1 hF)
  rw [ratD_eq hu, Rat.num_divInt_den] at h3
  have e := comp_pure (c := callF Tk F (k + 1)) (env := [some (fracD q), none]) (elt := .call 44 (.cons (.var 1) .nil)) (tg := .nm 1) (it := .seq (.var 0)) (own := [("_law_each", 1)]) (st := st) (xs := [.int q.num, .int (q.den : Int)]) (g := fun _ => .bl true) hs rfl rfl hz (fun x hx => ⟨fun st' hs' => ?_, fun m => rfl⟩)
  · rw [call_at (d := i__law_is_ratio) rfl]
    have i0 : ∀ st, idxF (fracD q) (.int 0) st = some (.int q.num) := fun st => rfl
    have i1 : ∀ st, idxF (fracD q) (.int 1) st = some (.int (q.den : Int)) := fun st => rfl
    have s1 : evS (callF Tk F (k + 1)) F (.ite (.or (.not (.val (.isi (.var 0) .tuple))) (.or (.cmp .ne (.bi .len (.cons (.var 0) .nil)) (.cst (.int 2))) (.one (.cmp .inn (.cst (.bl false)) (.comp (.call 44 (.cons (.var 1) .nil)) (.nm 1) (.seq (.var 0)) .none [("_law_each", 1)]))))) (.cons (.ret (.cst (.bl false))) .nil) .nil) [some (fracD q), none] st = some (.nxt [some (fracD q), none] st) := by
      have n1 : cop .inn (.bl false) (.lst [.bl true, .bl true]) = some false := by decide
      have n2 : cop .ne (.int 2) (.int 2) = some false := by rw [ne_int]; rfl
      have n3 : isiF (fracD q) .tuple = some true := rfl
      have n4 : biF .len [fracD q] st = some (.int 2) := rfl
      have gen : ∀ C : IE, evE (callF Tk F (k + 1)) [some (fracD q), none] C st = some (.lst [.bl true, .bl true], st) →
          evS (callF Tk F (k + 1)) F (.ite (.or (.not (.val (.isi (.var 0) .tuple))) (.or (.cmp .ne (.bi .len (.cons (.var 0) .nil)) (.cst (.int 2))) (.one (.cmp .inn (.cst (.bl false)) C)))) (.cons (.ret (.cst (.bl false))) .nil) .nil) [some (fracD q), none] st = some (.nxt [some (fracD q), none] st) := by
        intro C e'
        simp [evS, evT, evE, evEs, evSs, truth, e', n1, n2, n3, n4]
      exact gen _ e
    have gp : cop .gt (.int (q.den : Int)) (.int 0) = some true := by
      have := q.den_pos
      show some (decide ((0 : Int) < q.den)) = _
      simp [this]
    have ce : cop .eq (fracD q) (fracD q) = some true := by
      refine cop_eq_of ?_
      rw [dEq_frac]; simp
    have body : evSs (callF Tk F (k + 1)) F i__law_is_ratio.body [some (fracD q), none] st = some (.ret (.bl true) st) := by
      unfold i__law_is_ratio
      rw [ss_nxt s1]
      refine ss_ret ?_
      simp [evS, evE, evEs, evT, i0, i1, h3, gp, ce]
    unfold runD
    rw [if_pos ⟨rfl, by decide⟩]
    show (match evSs (callF Tk F (k + 1)) F i__law_is_ratio.body [some (fracD q), none] st with
      | some (.ret v st') => Mi.cutD st.length v st'
      | some (.nxt _ st') => Mi.cutD st.length .non st'
      | _ => none) = _
    rw [body]
    exact cut_pl (fun k => by simp) rfl hs rfl
  · simp only [List.mem_cons, List.not_mem_nil, or_false] at hx
    rcases hx with rfl | rfl <;> simp [turnF, bindT, wipeE, evTo, evE, evEs, isw_ok hs']
theorem ares_ok {F k : Nat} {a b c : Rat} {st : Mi.Store} (hs : SW st) (ha : Bd 4000 a) (hb : Bd 4000 b) (hc : Bd 4000 c) (hF : 2 ^ 8000 ≤ F) : callF Tk F (k + 3) 46 [triD a b c, .int 3] st = some (.bl true, st) := by
  have hz : (3 : Nat) ≤ sizeLine := by decide
  have e := comp_pure (c := callF Tk F (k + 2)) (env := [some (triD a b c), some (.int 3), none]) (elt := .call 45 (.cons (.var 2) .nil)) (tg := .nm 2) (it := .seq (.var 0)) (own := [("_law_each", 2)]) (st := st) (xs := [fracD a, fracD b, fracD c]) (g := fun _ => .bl true) hs rfl rfl hz (fun x hx => ⟨fun st' hs' => ?_, fun m => rfl⟩)
  · rw [call_at (d := i__law_are_ratios) rfl]
    have n1 : cop .nin (.bl false) (.lst [.bl true, .bl true, .bl true]) = some true := by decide
    have n2 : cop .eq (.int 3) (.int 3) = some true := by rw [eq_int]; rfl
    have n3 : isiF (triD a b c) .tuple = some true := rfl
    have n4 : biF .len [triD a b c] st = some (.int 3) := rfl
    have gen : ∀ C : IE, evE (callF Tk F (k + 2)) [some (triD a b c), some (.int 3), none] C st = some (.lst [.bl true, .bl true, .bl true], st) →
        evE (callF Tk F (k + 2)) [some (triD a b c), some (.int 3), none] (.andv (.isi (.var 0) .tuple) (.andv (.cmp .eq (.bi .len (.cons (.var 0) .nil)) (.var 1)) (.one (.cmp .nin (.cst (.bl false)) C)))) st = some (.bl true, st) := by
      intro C e'
      simp [evE, evEs, truth, e', n1, n2, n3, n4]
    refine (run_ret (v := .bl true) (st' := st) rfl ⟨rfl, by decide⟩ ?_).trans (cut_pl (fun k => by simp) rfl hs rfl)
    exact gen _ e
  · simp only [List.mem_cons, List.not_mem_nil, or_false] at hx
    rcases hx with rfl | rfl | rfl
    · simp [turnF, bindT, wipeE, evTo, evE, evEs, isr_ok (k := k) hs' ha hF]
    · simp [turnF, bindT, wipeE, evTo, evE, evEs, isr_ok (k := k) hs' hb hF]
    · simp [turnF, bindT, wipeE, evTo, evE, evEs, isr_ok (k := k) hs' hc hF]
theorem Well.push {st : Mi.Store} {n : Nat} {r : Int} {acc : List Mi.D} (h : Well st n r) (ha : fitDs (st.length + 1) acc = true) : Well (st ++ [some acc]) n r := by
  have hn := h.lt
  obtain ⟨hs, a, b, c, h, h2, h3, h4, h5, h6⟩ := h
  exact ⟨hs.push ha, a, b, c, by rw [List.getElem?_append_left hn]; exact h, h2, h3, h4, h5, h6⟩
theorem Turned.push {st st' : Mi.Store} {n : Nat} {acc : List Mi.D} (hn : n < st.length) (h : Turned (st ++ [some acc]) n st') : ∃ st1, Turned st n st1 ∧ st' = st1 ++ [some acc] := by
  obtain ⟨a, b, c, h⟩ := h
  exact ⟨_, ⟨a, b, c, rfl⟩, by rw [h, List.set_append_left _ _ hn]⟩
theorem Well.pop {st st1 : Mi.Store} {n : Nat} {r r' : Int} {acc : List Mi.D} (h : Well st n r) (ht : Turned st n st1) (hw : Well (st1 ++ [some acc]) n r') : Well st1 n r' := by
  have hl := ht.len
  have hn := h.lt
  have hs1 : SW st1 := by
    obtain ⟨a, b, c, e⟩ := ht
    rw [e]
    exact h.1.set n rfl
  obtain ⟨hs, a, b, c, h, h2, h3, h4, h5, h6⟩ := hw
  exact ⟨hs1, a, b, c, by rw [List.getElem?_append_left (by omega)] at h; exact h, h2, h3, h4, h5, h6⟩
/-- a comprehension whose element draws -/
theorem map_draw {f : Mi.D → Mi.Store → Option (Option Mi.D × Mi.Store)} {P : Mi.D → Prop} {n : Nat} {R : Int} {s : Nat} (hP : ∀ d, P d → ∀ m, fitD m d = true)
    (hf : ∀ x st' r, Well st' n r → r + s < R → ∃ y st1, f x st' = some (some y, st1) ∧ P y ∧ Well st1 n (r + s) ∧ Turned st' n st1) :
    ∀ (xs acc : List Mi.D) (st : Mi.Store) (r : Int), Well st n r → r + s * xs.length < R → fitDs (st.length + 1) acc = true → acc.length + xs.length ≤ sizeLine →
    ∃ ys st', mapSt st.length f xs (st ++ [some acc]) = some (st' ++ [some (acc ++ ys)]) ∧ ys.length = xs.length ∧ (∀ y ∈ ys, P y) ∧ Well st' n (r + s * xs.length) ∧ (st' = st ∨ Turned st n st')
  | [], acc, st, r, hw, _, _, _ => ⟨[], st, by simp [mapSt], rfl, by simp, by simpa using hw, .inl rfl⟩
  | x :: xs, acc, st, r, hw, hr, ha, hl => by
    rw [List.length_cons] at hl
    have e0 : (s : Int) * ((x :: xs).length : Nat) = s + s * (xs.length : Nat) := by
      rw [List.length_cons, Int.natCast_add, Int.mul_add]; simp; omega
    have hpos : (0 : Int) ≤ s * (xs.length : Nat) := Int.mul_nonneg (by omega) (by omega)
    rw [e0] at hr
    obtain ⟨y, st1, h1, hy, hw1, ht1⟩ := hf x (st ++ [some acc]) r (hw.push ha) (by omega)
    obtain ⟨st2, ht2, rfl⟩ := Turned.push hw.lt ht1
    have hw2 := hw.pop ht2 hw1
    have hlen := ht2.len
    have ha2 : fitDs (st2.length + 1) (acc ++ [y]) = true := fits_all fun d hd => by
      rcases List.mem_append.mp hd with hd | hd
      · rw [hlen]; exact fit_mem ha hd
      · rw [List.mem_singleton.mp hd]; exact hP y hy _
    obtain ⟨ys, st3, h3, hyl, hys, hw3, ht3⟩ := map_draw hP hf xs (acc ++ [y]) st2 (r + s) hw2 (by omega) ha2 (by rw [List.length_append, List.length_singleton]; omega)
    refine ⟨y :: ys, st3, ?_, by simp [hyl], ?_, by rw [e0, show r + (s + s * (xs.length : Nat)) = r + s + s * (xs.length : Nat) by omega]; exact hw3, .inr ?_⟩
    · have e : (st2 ++ [some acc])[st.length]? = some (some acc) := by rw [← hlen]; simp
      have e2 : (st2 ++ [some acc]).set st.length (some (acc ++ [y])) = st2 ++ [some (acc ++ [y])] := by rw [← hlen]; simp
      simp only [mapSt, h1, e]
      rw [if_pos (by omega), e2, ← hlen, h3]
      simp
    · intro d hd
      rcases List.mem_cons.mp hd with rfl | hd
      · exact hy
      · exact hys d hd
    · rcases ht3 with rfl | ht3
      · exact ht2
      · exact ht2.trans ht3
theorem comp_draw {c : CallT} {env : Mi.Env} {elt : IE} {tg : ITg} {it : II} {own : List (PySem.Str × Nat)} {st : Mi.Store} {xs : List Mi.D} {P : Mi.D → Prop} {n : Nat} {r R : Int} {s : Nat} (hw : Well st n r) (hi : evI c env it st = some (xs, st)) (ho : tgOwn tg (own.map (·.2)) = true) (hl : xs.length ≤ sizeLine)
    (hP : ∀ d, P d → ∀ m, fitD m d = true) (hr : r + s * xs.length < R)
    (hf : ∀ x st' r, Well st' n r → r + s < R → ∃ y st1, turnF c (wipeE env (own.map (·.2))) tg .none elt x st' = some (some y, st1) ∧ P y ∧ Well st1 n (r + s) ∧ Turned st' n st1) :
    ∃ ys st', evE c env (.comp elt tg it .none own) st = some (.lst ys, st') ∧ ys.length = xs.length ∧ (∀ y ∈ ys, P y) ∧ Well st' n (r + s * xs.length) ∧ (st' = st ∨ Turned st n st') := by
  obtain ⟨ys, st', m, hyl, hys, hw', ht⟩ := map_draw hP hf xs [] st r hw hr rfl (by simpa using hl)
  rw [List.nil_append] at m
  have hlen : st'.length = st.length := by
    rcases ht with rfl | ht
    · rfl
    · exact ht.len
  refine ⟨ys, st', ?_, hyl, hys, hw', ht⟩
  have e : (st' ++ [some ys])[st.length]? = some (some ys) := by rw [← hlen]; simp
  have hfit : fitDs st.length ys = true := fits_all fun d hd => hP d (hys d hd) _
  have hc : Mi.cutD st.length (.lst ys) (st' ++ [some ys]) = some (.lst ys, st') := by
    rw [← hlen] at hfit ⊢
    exact cut_more (fun k => by simp) hfit hw'.sw
  show (match evI c env it st with
    | some (xs, st1) => if tgOwn tg (own.map fun p : PySem.Str × Nat => p.2) then (match mapSt st1.length (turnF c (wipeE env (own.map fun p : PySem.Str × Nat => p.2)) tg .none elt) xs (st1 ++ [some []]) with
      | some st2 => (match st2[st1.length]? with
        | some (some ys) => Mi.cutD st1.length (.lst ys) st2
        | _ => none)
      | none => none) else none
    | none => none) = _
  simp only [hi, ho, if_true, m, e]
  exact hc
theorem wide_turn {F k n : Nat} {r : Int} {st : Mi.Store} {x : Mi.D} (hw : Well st n r) (hr : r + 20 < 2 ^ 40) (hF : 2 ^ 8000 ≤ F) :
    ∃ y st1, turnF (callF Tk F (k + 5)) (wipeE [some (.cell n), none] [1]) (.nm 1) .none (.call 28 (.cons (.call 27 (.cons (.var 0) .nil)) (.cons (.bin .add (.cst (.int 1)) (.bi .abs (.cons (.call 27 (.cons (.var 0) .nil)) .nil))) .nil))) x st = some (some y, st1) ∧ (∃ q, y = fracD q ∧ Bd 81 q) ∧ Well st1 n (r + (12 : Nat)) ∧ Turned st n st1 := by
  obtain ⟨v, st1, h1, hv, hw1, ht1⟩ := far_ok (F := F) (k := k + 1) hw (by omega)
  obtain ⟨w, st2, h2, hv2, hw2, ht2⟩ := far_ok (F := F) (k := k + 1) hw1 (by omega)
  have hu : (1 + (w.natAbs : Int)) ≠ 0 := by omega
  have hb0 : (1 + (w.natAbs : Int)).natAbs < 2 ^ 81 := by omega
  have hb : (1 + (w.natAbs : Int)).natAbs < 2 ^ 8000 := Nat.lt_of_lt_of_le hb0 (Nat.pow_le_pow_right (by decide) (by decide))
  have h3 := ratio_ok (F := F) (k := k + 4) (t := v) hw2.sw hu hb (Nat.lt_of_lt_of_le hb hF)
  rw [ratD_eq hu] at h3
  obtain ⟨d1, d2⟩ := divInt_bd (t := v) hu
  refine ⟨fracD (Rat.divInt v (1 + (w.natAbs : Int))), st2, ?_, ⟨_, rfl, Nat.lt_of_le_of_lt d1 (by omega), Nat.lt_of_le_of_lt d2 hb0⟩, by rw [show r + ((12 : Nat) : Int) = r + 6 + 6 by omega]; exact hw2, ht1.trans ht2⟩
  have a1 : ∀ i j : Int, bop .add (.int i) (.int j) = some (.int (i + j)) := fun _ _ => rfl
  have ab : ∀ i : Int, biF .abs [.int i] st2 = some (.int (i.natAbs : Int)) := fun i => by
    show some (Mi.D.int (if i < 0 then -i else i)) = _
    congr 2
    split <;> omega
  simp [turnF, bindT, wipeE, evTo, evE, evEs, h1, h2, a1, ab, h3]
theorem wide_ok {F k n : Nat} {r : Int} {st : Mi.Store} (hw : Well st n r) (hr : r + 70 < 2 ^ 40) (hF : 2 ^ 8000 ≤ F) :
    ∃ a b c st', callF Tk F (k + 6) 40 [.cell n] st = some (triD a b c, st') ∧ Bd 81 a ∧ Bd 81 b ∧ Bd 81 c ∧ Well st' n (r + 40) ∧ Turned st n st' := by
  obtain ⟨w, st1, h1, w0, w1, hw1, ht1⟩ := draw_ok (F := F) (k := k + 4) hw (m := 4) (by decide) (by decide) (by omega)
  have main : ∀ (x y z : Rat) (st2 : Mi.Store), Well st2 n (r + 40) → Turned st n st2 → evSs (callF Tk F (k + 5)) F i__law_wide.body [some (.cell n), none] st = some (.ret (triD x y z) st2) → callF Tk F (k + 6) 40 [.cell n] st = some (triD x y z, st2) := by
    intro x y z st2 hW hT body
    rw [call_at (d := i__law_wide) rfl]
    unfold runD
    rw [if_pos ⟨rfl, by decide⟩]
    show (match evSs (callF Tk F (k + 5)) F i__law_wide.body [some (.cell n), none] st with
      | some (.ret v st') => Mi.cutD st.length v st'
      | some (.nxt _ st') => Mi.cutD st.length .non st'
      | _ => none) = _
    rw [body]
    exact cut_pl (fun k => by simp [triD]) rfl hW.sw hT.len
  have g0 : cop .gt (.int w) (.int 0) = some (decide (0 < w)) := rfl
  have t1 : ∀ p : Bool, decide (0 < w) = p → evT (callF Tk F (k + 5)) [some (.cell n), none] (.cmp .gt (.call 24 (.cons (.var 0) (.cons (.cst (.int 4)) .nil))) (.cst (.int 0))) st = some (p, st1) := fun p hp => by
    simp only [evT, evE, evEs, List.getElem?_cons_zero, h1, g0, hp]
  by_cases h0 : 0 < w
  · obtain ⟨a, b, c, st2, h2, ha, hb, hc, hw2, ht2⟩ := row_ok (F := F) (k := k) hw1 (by omega) hF
    have hW : Well st2 n (r + 40) := hw2.mono (by omega)
    refine ⟨a, b, c, st2, main a b c st2 hW (ht1.trans ht2) ?_, ha.mono (by decide), hb.mono (by decide), hc.mono (by decide), hW, ht1.trans ht2⟩
    unfold i__law_wide
    refine ss_ret ?_
    simp only [evS]
    rw [t1 true (by simpa using h0)]
    refine ss_ret ?_
    simp [evS, evE, evEs, h2]
  · obtain ⟨ys, st2, hc, hyl, hys, hw2, ht2⟩ := comp_draw (c := callF Tk F (k + 5)) (env := [some (.cell n), none]) (elt := .call 28 (.cons (.call 27 (.cons (.var 0) .nil)) (.cons (.bin .add (.cst (.int 1)) (.bi .abs (.cons (.call 27 (.cons (.var 0) .nil)) .nil))) .nil))) (tg := .nm 1) (it := .rng (.cst (.int 3))) (own := [("_law_k", 1)]) (st := st1) (xs := [.int 0, .int 1, .int 2]) (P := fun y => ∃ q, y = fracD q ∧ Bd 81 q) (n := n) (r := r + 1) (R := 2 ^ 40 - 10) (s := 12) hw1 rfl rfl (by decide) (fun d hd m => by obtain ⟨q, rfl, _⟩ := hd; rfl) (by simp; omega) (fun x st' r' hw' hr' => wide_turn hw' (by omega) hF)
    have hT : Turned st n st2 := by
      rcases ht2 with rfl | ht2
      · exact ht1
      · exact ht1.trans ht2
    have hW : Well st2 n (r + 40) := hw2.mono (by simp; omega)
    match ys, hyl, hys with
    | [y1, y2, y3], _, hys =>
      obtain ⟨a, rfl, ha⟩ := hys y1 (by simp)
      obtain ⟨b, rfl, hb⟩ := hys y2 (by simp)
      obtain ⟨c, rfl, hc'⟩ := hys y3 (by simp)
      refine ⟨a, b, c, st2, main a b c st2 hW hT ?_, ha, hb, hc', hW, hT⟩
      unfold i__law_wide
      refine (ss_nxt (env' := [some (.cell n), none]) (st' := st1) ?_).trans ?_
      · simp only [evS]
        rw [t1 false (by simpa using h0)]
        rfl
      refine ss_ret ?_
      have gen : ∀ C : IE, evE (callF Tk F (k + 5)) [some (.cell n), none] C st1 = some (.lst [fracD a, fracD b, fracD c], st2) → evS (callF Tk F (k + 5)) F (.ret (.bi .tuple (.cons C .nil))) [some (.cell n), none] st1 = some (.ret (triD a b c) st2) := by
        intro C e'
        have b1 : biF .tuple [.lst [fracD a, fracD b, fracD c]] st2 = some (triD a b c) := rfl
        simp [evS, evE, evEs, e', b1]
      exact gen _ hc
/-- the greatest divisor of three -/
def g3 (x y z : Int) : Nat := Nat.gcd (Nat.gcd x.natAbs y.natAbs) z.natAbs
theorem g3_mul (m x y z : Int) : g3 (m * x) (m * y) (m * z) = m.natAbs * g3 x y z := by
  unfold g3
  rw [Int.natAbs_mul, Int.natAbs_mul, Int.natAbs_mul, Nat.gcd_mul_left, Nat.gcd_mul_left]
/-- the first one that is not 0 is above 0 -/
def Pos (x y z : Int) : Prop := 0 < x ∨ x = 0 ∧ (0 < y ∨ y = 0 ∧ 0 < z)
instance (x y z : Int) : Decidable (Pos x y z) := by unfold Pos; infer_instance
/-- a plain one -/
def IsPl (x y z : Int) : Prop := g3 x y z = 1 ∧ Pos x y z
theorem IsPl.ne {x y z : Int} (h : IsPl x y z) : ¬ (x = 0 ∧ y = 0 ∧ z = 0) := by
  obtain ⟨_, h⟩ := h
  unfold Pos at h
  omega
theorem pl_unique {x y z x' y' z' m n : Int} (hm : m ≠ 0) (h1 : m * x' = n * x) (h2 : m * y' = n * y) (h3 : m * z' = n * z) (h : IsPl x y z) (h' : IsPl x' y' z') : x' = x ∧ y' = y ∧ z' = z := by
  have e : m.natAbs = n.natAbs := by
    have a := g3_mul m x' y' z'
    have b := g3_mul n x y z
    rw [h1, h2, h3] at a
    rw [h.1] at b; rw [h'.1] at a
    omega
  obtain ⟨_, p⟩ := h
  obtain ⟨_, p'⟩ := h'
  unfold Pos at p p'
  rcases Int.natAbs_eq_natAbs_iff.mp e with rfl | rfl
  · exact ⟨Int.eq_of_mul_eq_mul_left hm h1, Int.eq_of_mul_eq_mul_left hm h2, Int.eq_of_mul_eq_mul_left hm h3⟩
  · have hn : n ≠ 0 := by omega
    have c : ∀ u v : Int, -n * u = n * v → v = -u := fun u v h => Int.eq_of_mul_eq_mul_left hn (by rw [← h, Int.neg_mul, Int.mul_neg])
    have c1 := c _ _ h1
    have c2 := c _ _ h2
    have c3 := c _ _ h3
    omega
theorem den_mul (q : Rat) : (q.den : Rat) * q = (q.num : Rat) := by
  have h := Rat.num_divInt_den q
  rw [Rat.divInt_eq_div] at h
  have h0 : ((q.den : Int) : Rat) ≠ 0 := by
    intro e
    have := Rat.intCast_inj.mp (e.trans Rat.intCast_zero.symm)
    have := q.den_nz
    omega
  have e : ((q.den : Int) : Rat) = (q.den : Rat) := rfl
  rw [e] at h h0
  grind
/-- along one line -/
def Along (a b c a' b' c' : Rat) : Prop := ∃ t : Rat, t ≠ 0 ∧ a' = t * a ∧ b' = t * b ∧ c' = t * c
theorem Along.symm {a b c a' b' c' : Rat} (h : Along a b c a' b' c') : Along a' b' c' a b c := by
  obtain ⟨t, h0, h1, h2, h3⟩ := h
  exact ⟨t⁻¹, by grind, by grind, by grind, by grind⟩
theorem Along.trans {a b c a' b' c' a'' b'' c'' : Rat} (h : Along a b c a' b' c') (h' : Along a' b' c' a'' b'' c'') : Along a b c a'' b'' c'' := by
  obtain ⟨t, h0, h1, h2, h3⟩ := h
  obtain ⟨t', h0', h1', h2', h3'⟩ := h'
  exact ⟨t' * t, by grind, by grind, by grind, by grind⟩
theorem Along.cross {a b c x y z : Rat} (h : Along a b c x y z) : b * z - c * y = 0 ∧ c * x - a * z = 0 ∧ a * y - b * x = 0 := by
  obtain ⟨t, h0, h1, h2, h3⟩ := h
  exact ⟨by grind, by grind, by grind⟩
theorem along_of_cross {a b c x y z : Rat} (h0 : ¬ (a = 0 ∧ b = 0 ∧ c = 0)) (h0' : ¬ (x = 0 ∧ y = 0 ∧ z = 0)) (h1 : b * z - c * y = 0) (h2 : c * x - a * z = 0) (h3 : a * y - b * x = 0) : Along a b c x y z := by
  by_cases ha : a = 0
  · by_cases hb : b = 0
    · have hc : c ≠ 0 := by grind
      exact ⟨z / c, by grind, by grind, by grind, by grind⟩
    · exact ⟨y / b, by grind, by grind, by grind, by grind⟩
  · exact ⟨x / a, by grind, by grind, by grind, by grind⟩
theorem pl_along {x y z x' y' z' : Int} (h : IsPl x y z) (h' : IsPl x' y' z') (ha : Along x y z x' y' z') : x' = x ∧ y' = y ∧ z' = z := by
  obtain ⟨t, h0, h1, h2, h3⟩ := ha
  have d := den_mul t
  have go : ∀ u v : Int, (v : Rat) = t * (u : Rat) → (t.den : Int) * v = t.num * u := fun u v e => by
    apply Rat.intCast_inj.mp
    rw [Rat.intCast_mul, Rat.intCast_mul, show (((t.den : Nat) : Int) : Rat) = (t.den : Rat) from rfl, ← d, e]
    grind
  have hd : (t.den : Int) ≠ 0 := by
    have := t.den_nz
    omega
  exact pl_unique hd (go _ _ h1) (go _ _ h2) (go _ _ h3) h h'
theorem g3_pos {x y z : Int} (h0 : ¬ (x = 0 ∧ y = 0 ∧ z = 0)) : 0 < g3 x y z := by
  rcases Nat.eq_zero_or_pos (g3 x y z) with h | h
  · unfold g3 at h
    obtain ⟨h1, h3⟩ := Nat.gcd_eq_zero_iff.mp h
    obtain ⟨h1, h2⟩ := Nat.gcd_eq_zero_iff.mp h1
    omega
  · exact h
theorem g3_dvd (x y z : Int) : (g3 x y z : Int) ∣ x ∧ (g3 x y z : Int) ∣ y ∧ (g3 x y z : Int) ∣ z := by
  unfold g3
  refine ⟨Int.ofNat_dvd_left.mpr ?_, Int.ofNat_dvd_left.mpr ?_, Int.ofNat_dvd_left.mpr (Nat.gcd_dvd_right _ _)⟩
  · exact Nat.dvd_trans (Nat.gcd_dvd_left _ _) (Nat.gcd_dvd_left _ _)
  · exact Nat.dvd_trans (Nat.gcd_dvd_left _ _) (Nat.gcd_dvd_right _ _)
/-- by what it is cut -/
def cut3 (x y z : Int) : Int := if Pos x y z then (g3 x y z : Int) else -(g3 x y z : Int)
theorem pl_of {x y z : Int} (h0 : ¬ (x = 0 ∧ y = 0 ∧ z = 0)) : cut3 x y z ≠ 0 ∧ cut3 x y z * (x / cut3 x y z) = x ∧ cut3 x y z * (y / cut3 x y z) = y ∧ cut3 x y z * (z / cut3 x y z) = z ∧ IsPl (x / cut3 x y z) (y / cut3 x y z) (z / cut3 x y z) := by
  have hg := g3_pos h0
  obtain ⟨d1, d2, d3⟩ := g3_dvd x y z
  have hc : cut3 x y z = (g3 x y z : Int) ∧ Pos x y z ∨ cut3 x y z = -(g3 x y z : Int) ∧ ¬ Pos x y z := by
    unfold cut3
    by_cases h : Pos x y z
    · exact .inl ⟨if_pos h, h⟩
    · exact .inr ⟨if_neg h, h⟩
  generalize cut3 x y z = e at hc
  have he : e ≠ 0 := by omega
  have hd : ∀ u : Int, (g3 x y z : Int) ∣ u → e * (u / e) = u := fun u hu => Int.mul_ediv_cancel' (by
    rcases hc with ⟨rfl, _⟩ | ⟨rfl, _⟩
    · exact hu
    · exact Int.neg_dvd.mpr hu)
  have e1 := hd x d1
  have e2 := hd y d2
  have e3 := hd z d3
  refine ⟨he, e1, e2, e3, ?_, ?_⟩
  · have m := g3_mul e (x / e) (y / e) (z / e)
    rw [e1, e2, e3] at m
    have ha : e.natAbs = g3 x y z := by omega
    rw [ha] at m
    exact Nat.eq_of_mul_eq_mul_left hg (by omega)
  · generalize x / e = x' at *
    generalize y / e = y' at *
    generalize z / e = z' at *
    have sg : ∀ u u' : Int, e * u' = u → (0 < e → (0 < u' ↔ 0 < u) ∧ (u' = 0 ↔ u = 0)) ∧ (e < 0 → (0 < u' ↔ u < 0) ∧ (u' = 0 ↔ u = 0)) := by
      rintro u u' rfl
      refine ⟨fun h => ⟨?_, ?_⟩, fun h => ⟨?_, ?_⟩⟩
      · constructor
        · intro h'; exact Int.mul_pos h h'
        · intro h'
          rcases Int.lt_trichotomy u' 0 with h2 | h2 | h2
          · have := Int.mul_neg_of_pos_of_neg h h2; omega
          · subst h2; omega
          · exact h2
      · rw [Int.mul_eq_zero]; omega
      · constructor
        · intro h'; exact Int.mul_neg_of_neg_of_pos h h'
        · intro h'
          rcases Int.lt_trichotomy u' 0 with h2 | h2 | h2
          · have := Int.mul_pos_of_neg_of_neg h h2; omega
          · subst h2; omega
          · exact h2
      · rw [Int.mul_eq_zero]; omega
    obtain ⟨p1, n1⟩ := sg _ _ e1
    obtain ⟨p2, n2⟩ := sg _ _ e2
    obtain ⟨p3, n3⟩ := sg _ _ e3
    clear sg hd e1 e2 e3 d1 d2 d3
    rcases hc with ⟨h, hp⟩ | ⟨h, hp⟩
    · have : 0 < e := by omega
      have q1 := p1 this; have q2 := p2 this; have q3 := p3 this
      unfold Pos at hp ⊢
      omega
    · have : e < 0 := by omega
      have q1 := n1 this; have q2 := n2 this; have q3 := n3 this
      unfold Pos at hp ⊢
      omega
theorem call_body {F k f : Nat} {d : Mi.Def} {args : List Mi.D} {st st' : Mi.Store} {v : Mi.D} (h : Tk f = some d) (hl : args.length = d.np ∧ d.np ≤ d.names.length)
    (body : evSs (callF Tk F k) F d.body (args.map some ++ List.replicate (d.names.length - d.np) none) st = some (.ret v st')) : callF Tk F (k + 1) f args st = Mi.cutD st.length v st' := by
  rw [call_at h]
  unfold runD
  rw [if_pos hl, body]
theorem call_bodyN {F k f : Nat} {d : Mi.Def} {args : List Mi.D} {st st' : Mi.Store} {env : Mi.Env} (h : Tk f = some d) (hl : args.length = d.np ∧ d.np ≤ d.names.length)
    (body : evSs (callF Tk F k) F d.body (args.map some ++ List.replicate (d.names.length - d.np) none) st = some (.nxt env st')) : callF Tk F (k + 1) f args st = Mi.cutD st.length .non st' := by
  rw [call_at h]
  unfold runD
  rw [if_pos hl, body]
/-- what all three are parts of -/
def L3 (a b c : Rat) : Nat := Nat.lcm (Nat.lcm (Nat.lcm 1 a.den) b.den) c.den
theorem L3_pos (a b c : Rat) : 0 < L3 a b c := by
  unfold L3
  refine Nat.lcm_pos (Nat.lcm_pos (Nat.lcm_pos (by decide) a.den_pos) b.den_pos) c.den_pos
theorem L3_dvd (a b c : Rat) : a.den ∣ L3 a b c ∧ b.den ∣ L3 a b c ∧ c.den ∣ L3 a b c := by
  unfold L3
  refine ⟨?_, ?_, Nat.dvd_lcm_right _ _⟩
  · exact Nat.dvd_trans (Nat.dvd_trans (Nat.dvd_lcm_right _ _) (Nat.dvd_lcm_left _ _)) (Nat.dvd_lcm_left _ _)
  · exact Nat.dvd_trans (Nat.dvd_lcm_right _ _) (Nat.dvd_lcm_left _ _)
theorem lcm_lt {m n B C : Nat} (hm : m < 2 ^ B) (hn : n < 2 ^ C) (h0 : 0 < m) (h1 : 0 < n) : Nat.lcm m n < 2 ^ (B + C) := by
  refine Nat.lt_of_le_of_lt (Nat.le_of_dvd (Nat.mul_pos h0 h1) (Nat.lcm_dvd (Nat.dvd_mul_right _ _) (Nat.dvd_mul_left _ _))) ?_
  rw [Nat.pow_add]
  exact Nat.mul_lt_mul'' hm hn
theorem log_lt {n B : Nat} (h : n < 2 ^ B) (hB : B < 13000) : n.log2 < 13000 := by
  by_cases h0 : n = 0
  · rw [h0]; simp
  · have := (Nat.log2_lt h0).mpr h
    omega
theorem lcm_ok {m n : Nat} {st : Mi.Store} (hm : m.log2 < 13000) (hn : n.log2 < 13000) : biF .lcm [.int (m : Int), .int (n : Int)] st = some (.int (Nat.lcm m n : Nat)) := by
  simp only [biF, Int.natAbs_natCast]
  rw [if_pos ⟨hm, hn⟩]
/-- a fraction by the common one -/
def upN (L : Nat) (q : Rat) : Int := q.num * ((L : Int) / (q.den : Int))
theorem upN_eq {L : Nat} {q : Rat} (h : q.den ∣ L) : (upN L q : Rat) = (L : Rat) * q := by
  obtain ⟨m, rfl⟩ := h
  have e : ((q.den * m : Nat) : Int) / (q.den : Int) = (m : Int) := by
    rw [Int.natCast_mul]
    exact Int.mul_ediv_cancel_left _ (den_ne q)
  unfold upN
  rw [e, Rat.intCast_mul, ← den_mul q]
  have e2 : ((q.den * m : Nat) : Rat) = (q.den : Rat) * (m : Rat) := by
    exact Rat.natCast_mul _ _
  have e3 : (((m : Nat) : Int) : Rat) = (m : Rat) := rfl
  rw [e2, e3]
  grind
theorem upN_lt {L B C : Nat} {q : Rat} (hL : L < 2 ^ C) (hq : Bd B q) : (upN L q).natAbs < 2 ^ (B + C) := by
  unfold upN
  rw [Int.natAbs_mul, Nat.pow_add]
  have h2 : ((L : Int) / (q.den : Int)).natAbs ≤ L := by
    have := Int.natAbs_ediv_le_natAbs (L : Int) (q.den : Int)
    simpa using this
  exact Nat.mul_lt_mul'' hq.1 (Nat.lt_of_le_of_lt h2 hL)
/-- the number of a fraction's data, by the common one -/
def upD (L : Nat) : Mi.D → Mi.D
  | .tup [.int n, .int d] => .int (n * ((L : Int) / d))
  | _ => .non
theorem upD_frac (L : Nat) (q : Rat) : upD L (fracD q) = .int (upN L q) := rfl
theorem over_ok {F k B : Nat} {a b c : Rat} {st : Mi.Store} (hs : SW st) (ha : Bd B a) (hb : Bd B b) (hc : Bd B c) (hB : B ≤ 2000) :
    callF Tk F (k + 1) 3 [triD a b c] st = some (.tup [.lst [.int (upN (L3 a b c) a), .int (upN (L3 a b c) b), .int (upN (L3 a b c) c)], .int (L3 a b c : Nat)], st) := by
  have p1 : (1 : Nat) < 2 ^ B := by
    have := ha.2
    have := a.den_pos
    omega
  have b1 : Nat.lcm 1 a.den < 2 ^ (B + B) := lcm_lt p1 ha.2 (by decide) a.den_pos
  have z1 : 0 < Nat.lcm 1 a.den := Nat.lcm_pos (by decide) a.den_pos
  have b2 : Nat.lcm (Nat.lcm 1 a.den) b.den < 2 ^ (B + B + B) := lcm_lt b1 hb.2 z1 b.den_pos
  have z2 : 0 < Nat.lcm (Nat.lcm 1 a.den) b.den := Nat.lcm_pos z1 b.den_pos
  have b3 : L3 a b c < 2 ^ (B + B + B + B) := lcm_lt b2 hc.2 z2 c.den_pos
  have l1 : biF .lcm [.int 1, .int (a.den : Int)] st = some (.int (Nat.lcm 1 a.den : Nat)) := lcm_ok (m := 1) (log_lt p1 (by omega)) (log_lt ha.2 (by omega))
  have l2 : biF .lcm [.int (Nat.lcm 1 a.den : Nat), .int (b.den : Int)] st = some (.int (Nat.lcm (Nat.lcm 1 a.den) b.den : Nat)) := lcm_ok (log_lt b1 (by omega)) (log_lt hb.2 (by omega))
  have l3 : biF .lcm [.int (Nat.lcm (Nat.lcm 1 a.den) b.den : Nat), .int (c.den : Int)] st = some (.int (L3 a b c : Nat)) := lcm_ok (log_lt b2 (by omega)) (log_lt hc.2 (by omega))
  generalize hL : L3 a b c = L at *
  generalize Nat.lcm 1 a.den = m1 at *
  generalize Nat.lcm m1 b.den = m2 at *
  obtain ⟨d1, d2, d3⟩ := L3_dvd a b c
  rw [hL] at d1 d2 d3
  have s2 : evS (callF Tk F k) F (.forr (.tp [2, 3]) (.seq (.var 0)) (.cons (.asg 1 (.bi .lcm (.cons (.var 1) (.cons (.var 3) .nil)))) .nil)) [some (triD a b c), some (.int 1), none, none, none] st =
      some (.nxt [some (triD a b c), some (.int (L : Nat)), some (.int c.num), some (.int (c.den : Int)), none] st) := by
    have e0 : ∀ env : Mi.Env, env[0]? = some (some (triD a b c)) → evI (callF Tk F k) env (.seq (.var 0)) st = some ([fracD a, fracD b, fracD c], st) := fun env h => by
      simp [evI, evE, h, triD, seqD]
    simp only [evS]
    rw [e0 _ rfl]
    simp [loopF, bindT, fracD, evSs, evS, evE, evEs, l1, l2, l3]
  have turn : ∀ q : Rat, Bd B q → q.den ∣ L → ∀ st', SW st' → turnF (callF Tk F k) (wipeE [some (triD a b c), some (.int (L : Nat)), some (.int c.num), some (.int (c.den : Int)), none] [4, 3]) (.tp [4, 3]) .none (.bin .mul (.var 4) (.bin .fdiv (.var 1) (.var 3))) (fracD q) st' = some (some (.int (upN L q)), st') := by
    intro q hq hd st' hs'
    have f1 : bop .fdiv (.int (L : Nat)) (.int (q.den : Int)) = some (.int ((L : Int) / (q.den : Int))) := by
      rw [← dvd_fdiv (Int.natCast_dvd_natCast.mpr hd)]
      refine fdiv_ok (den_ne q) ?_
      have : ((q.den : Int)).natAbs.log2 < 9000 := by
        rw [Int.natAbs_natCast]
        have := (Nat.log2_lt q.den_nz).mpr hq.2
        omega
      exact this
    have h2 : ((L : Int) / (q.den : Int)).natAbs ≤ L := by
      have := Int.natAbs_ediv_le_natAbs (L : Int) (q.den : Int)
      simpa using this
    have f2 : bop .mul (.int q.num) (.int ((L : Int) / (q.den : Int))) = some (.int (upN L q)) := mul_ok (n := B) (m := B + B + B + B) (log_nat hq.1) (log_nat (Nat.lt_of_le_of_lt h2 b3)) (by omega)
    simp [turnF, bindT, wipeE, fracD, evTo, evE, f1, f2]
  have hz : (3 : Nat) ≤ sizeLine := by decide
  have e := comp_pure (c := callF Tk F k) (env := [some (triD a b c), some (.int (L : Nat)), some (.int c.num), some (.int (c.den : Int)), none]) (elt := .bin .mul (.var 4) (.bin .fdiv (.var 1) (.var 3))) (tg := .tp [4, 3]) (it := .seq (.var 0)) (own := [("above", 4), ("below", 3)]) (st := st) (xs := [fracD a, fracD b, fracD c]) (g := upD L) hs rfl rfl hz (fun x hx => by
    simp only [List.mem_cons, List.not_mem_nil, or_false] at hx
    rcases hx with rfl | rfl | rfl
    · exact ⟨fun st' hs' => turn a ha d1 st' hs', fun m => rfl⟩
    · exact ⟨fun st' hs' => turn b hb d2 st' hs', fun m => rfl⟩
    · exact ⟨fun st' hs' => turn c hc d3 st' hs', fun m => rfl⟩)
  simp only [List.map_cons, List.map_nil, upD_frac] at e
  have body : evSs (callF Tk F k) F i_over_common.body [some (triD a b c), none, none, none, none] st = some (.ret (.tup [.lst [.int (upN L a), .int (upN L b), .int (upN L c)], .int (L : Nat)]) st) := by
    unfold i_over_common
    rw [ss_nxt (show evS (callF Tk F k) F (.asg 1 (.cst (.int 1))) _ st = some (.nxt [some (triD a b c), some (.int 1), none, none, none] st) from rfl), ss_nxt s2]
    refine ss_ret ?_
    have gen : ∀ C : IE, evE (callF Tk F k) [some (triD a b c), some (.int (L : Nat)), some (.int c.num), some (.int (c.den : Int)), none] C st = some (.lst [.int (upN L a), .int (upN L b), .int (upN L c)], st) →
        evS (callF Tk F k) F (.ret (.tup (.cons C (.cons (.var 1) .nil)))) [some (triD a b c), some (.int (L : Nat)), some (.int c.num), some (.int (c.den : Int)), none] st = some (.ret (.tup [.lst [.int (upN L a), .int (upN L b), .int (upN L c)], .int (L : Nat)]) st) := by
      intro C e'
      have hz2 : (2 : Nat) ≤ sizeLine := by decide
      simp [evS, evE, evEs, e', hz2]
    exact gen _ e
  exact (call_body (d := i_over_common) rfl ⟨rfl, by decide⟩ body).trans (cut_pl (fun k => by simp) rfl hs rfl)
/-- whole numbers in a list -/
abbrev i3 (x y z : Int) : List Mi.D := [.int x, .int y, .int z]
theorem g3_lt {x y z : Int} {B : Nat} (h0 : ¬ (x = 0 ∧ y = 0 ∧ z = 0)) (hx : x.natAbs < 2 ^ B) (hy : y.natAbs < 2 ^ B) (hz : z.natAbs < 2 ^ B) : g3 x y z < 2 ^ B := by
  obtain ⟨d1, d2, d3⟩ := g3_dvd x y z
  have go : ∀ u : Int, u ≠ 0 → (g3 x y z : Int) ∣ u → u.natAbs < 2 ^ B → g3 x y z < 2 ^ B := fun u hu hd hb =>
    Nat.lt_of_le_of_lt (Nat.le_of_dvd (Int.natAbs_pos.mpr hu) (Int.ofNat_dvd_left.mp hd)) hb
  by_cases h1 : x = 0
  · by_cases h2 : y = 0
    · exact go z (fun h3 => h0 ⟨h1, h2, h3⟩) d3 hz
    · exact go y h2 d2 hy
  · exact go x h1 d1 hx
theorem without_ok {F k : Nat} {x y z : Int} {st : Mi.Store} (hs : SW st) (h0 : ¬ (x = 0 ∧ y = 0 ∧ z = 0)) (hx : x.natAbs < 2 ^ 8000) (hy : y.natAbs < 2 ^ 8000) (hz : z.natAbs < 2 ^ 8000) :
    callF Tk F (k + 1) 4 [.lst (i3 x y z)] st = some (.lst (i3 (x / (g3 x y z : Int)) (y / (g3 x y z : Int)) (z / (g3 x y z : Int))), st) := by
  have hg := g3_pos h0
  have hgl := g3_lt h0 hx hy hz
  obtain ⟨d1, d2, d3⟩ := g3_dvd x y z
  have g1 : biF .gcd [.int 0, .int x] st = some (.int (x.natAbs : Nat)) := by simp [biF]
  have g2 : biF .gcd [.int (x.natAbs : Nat), .int y] st = some (.int (Nat.gcd x.natAbs y.natAbs : Nat)) := by simp [biF]
  have g3e : biF .gcd [.int (Nat.gcd x.natAbs y.natAbs : Nat), .int z] st = some (.int (g3 x y z : Nat)) := by simp [biF, g3]
  generalize g3 x y z = G at *
  generalize Nat.gcd x.natAbs y.natAbs = m2 at *
  generalize x.natAbs = m1 at *
  have s2 : evS (callF Tk F k) F (.forr (.nm 2) (.seq (.var 0)) (.cons (.asg 1 (.bi .gcd (.cons (.var 1) (.cons (.var 2) .nil)))) .nil)) [some (.lst (i3 x y z)), some (.int 0), none] st =
      some (.nxt [some (.lst (i3 x y z)), some (.int (G : Nat)), some (.int z)] st) := by
    simp [evS, evI, evE, seqD, loopF, bindT, evSs, evEs, g1, g2, g3e]
  have turn : ∀ u : Int, (G : Int) ∣ u → ∀ st', SW st' → turnF (callF Tk F k) (wipeE [some (.lst (i3 x y z)), some (.int (G : Nat)), some (.int z)] [2]) (.nm 2) .none (.bin .fdiv (.var 2) (.var 1)) (.int u) st' = some (some (.int (u / (G : Int))), st') := by
    intro u hd st' hs'
    have f1 : bop .fdiv (.int u) (.int (G : Nat)) = some (.int (u / (G : Int))) := by
      rw [← dvd_fdiv hd]
      refine fdiv_ok (by omega) ?_
      rw [Int.natAbs_natCast]
      have := (Nat.log2_lt (by omega)).mpr hgl
      omega
    simp [turnF, bindT, wipeE, evTo, evE, f1]
  have hz3 : (3 : Nat) ≤ sizeLine := by decide
  have e := comp_pure (c := callF Tk F k) (env := [some (.lst (i3 x y z)), some (.int (G : Nat)), some (.int z)]) (elt := .bin .fdiv (.var 2) (.var 1)) (tg := .nm 2) (it := .seq (.var 0)) (own := [("number", 2)]) (st := st) (xs := i3 x y z)
    (g := fun d => match d with
      | .int u => .int (u / (G : Int))
      | _ => .non) hs rfl rfl hz3 (fun d hd => by
    simp only [List.mem_cons, List.not_mem_nil, or_false] at hd
    rcases hd with rfl | rfl | rfl
    · exact ⟨fun st' hs' => turn x d1 st' hs', fun m => rfl⟩
    · exact ⟨fun st' hs' => turn y d2 st' hs', fun m => rfl⟩
    · exact ⟨fun st' hs' => turn z d3 st' hs', fun m => rfl⟩)
  simp only [List.map_cons, List.map_nil] at e
  have cl : cop .lt (.int (G : Nat)) (.int 2) = some (decide ((G : Int) < 2)) := rfl
  have body : evSs (callF Tk F k) F i_without_common.body [some (.lst (i3 x y z)), none, none] st = some (.ret (.lst (i3 (x / (G : Int)) (y / (G : Int)) (z / (G : Int)))) st) := by
    unfold i_without_common
    rw [ss_nxt (show evS (callF Tk F k) F (.asg 1 (.cst (.int 0))) _ st = some (.nxt [some (.lst (i3 x y z)), some (.int 0), none] st) from rfl), ss_nxt s2]
    by_cases h2 : (G : Int) < 2
    · refine ss_ret ?_
      have hG : (G : Int) = 1 := by omega
      have b1 : biF .list [.lst (i3 x y z)] st = some (.lst (i3 x y z)) := rfl
      have t1 : evT (callF Tk F k) [some (.lst (i3 x y z)), some (.int (G : Nat)), some (.int z)] (.cmp .lt (.var 1) (.cst (.int 2))) st = some (true, st) := by
        simp [evT, evE, cl, h2]
      simp only [evS, t1]
      refine ss_ret ?_
      simp [evS, evE, evEs, b1, hG]
    · refine (ss_nxt (env' := [some (.lst (i3 x y z)), some (.int (G : Nat)), some (.int z)]) (st' := st) ?_).trans (ss_ret ?_)
      · have t1 : evT (callF Tk F k) [some (.lst (i3 x y z)), some (.int (G : Nat)), some (.int z)] (.cmp .lt (.var 1) (.cst (.int 2))) st = some (false, st) := by
          simp [evT, evE, cl, h2]
        simp only [evS, t1]
        rfl
      · have gen : ∀ C : IE, evE (callF Tk F k) [some (.lst (i3 x y z)), some (.int (G : Nat)), some (.int z)] C st = some (.lst (i3 (x / (G : Int)) (y / (G : Int)) (z / (G : Int))), st) → evS (callF Tk F k) F (.ret C) [some (.lst (i3 x y z)), some (.int (G : Nat)), some (.int z)] st = some (.ret (.lst (i3 (x / (G : Int)) (y / (G : Int)) (z / (G : Int)))) st) := by
          intro C e'
          simp only [evS, e']
        exact gen _ e
  exact (call_body (d := i_without_common) rfl ⟨rfl, by decide⟩ body).trans (cut_pl (fun k => by simp) rfl hs rfl)
abbrev fwB (C : IE) : ISs := .cons (.ite (.cmp .ne (.var 2) (.cst (.int 0))) (.cons (.ret (.ife (.cmp .gt (.var 2) (.cst (.int 0))) (.var 1) C)) .nil) .nil) .nil
theorem fwd_loop {cc : CallT} {F : Nat} {C : IE} {a s : Option Mi.D} {R N : Mi.D} {st : Mi.Store} (hC : ∀ t : Int, evE cc [a, some R, some (.int t), none] C st = some (N, st)) {u v w : Int} :
    (Pos u v w → loopF (fun x env st => match bindT (.nm 2) x env with
      | some env' => evSs cc F (fwB C) env' st
      | none => none) (i3 u v w) [a, some R, s, none] st = some (.ret R st)) ∧
    (Pos (-u) (-v) (-w) → loopF (fun x env st => match bindT (.nm 2) x env with
      | some env' => evSs cc F (fwB C) env' st
      | none => none) (i3 u v w) [a, some R, s, none] st = some (.ret N st)) := by
  have b0 : evSs cc F (fwB C) [a, some R, some (.int 0), none] st = some (.nxt [a, some R, some (.int 0), none] st) := by
    simp [evSs, evS, evT, evE, ne_int]
  have g0 : ∀ t : Int, cop .gt (.int t) (.int 0) = some (decide (0 < t)) := fun t => rfl
  have b1 : ∀ t : Int, 0 < t → evSs cc F (fwB C) [a, some R, some (.int t), none] st = some (.ret R st) := fun t h => by
    have h' : t ≠ 0 := by omega
    simp [evSs, evS, evT, evE, ne_int, g0, h, h']
  have b2 : ∀ t : Int, t < 0 → evSs cc F (fwB C) [a, some R, some (.int t), none] st = some (.ret N st) := fun t h => by
    have h' : t ≠ 0 := by omega
    have h2 : ¬ 0 < t := by omega
    simp [evSs, evS, evT, evE, ne_int, g0, h2, h', hC t]
  constructor
  · rintro (h | ⟨rfl, h | ⟨rfl, h⟩⟩)
    · simp only [loopF, bindT, List.set_cons_succ, List.set_cons_zero, b1 _ h]
    · simp only [loopF, bindT, List.set_cons_succ, List.set_cons_zero, b0, b1 _ h]
    · simp only [loopF, bindT, List.set_cons_succ, List.set_cons_zero, b0, b1 _ h]
  · rintro (h | ⟨hu, h | ⟨hv, h⟩⟩)
    · simp only [loopF, bindT, List.set_cons_succ, List.set_cons_zero, b2 u (by omega)]
    · have : u = 0 := by omega
      subst this
      simp only [loopF, bindT, List.set_cons_succ, List.set_cons_zero, b0, b2 v (by omega)]
    · have : u = 0 := by omega
      subst this
      have : v = 0 := by omega
      subst this
      simp only [loopF, bindT, List.set_cons_succ, List.set_cons_zero, b0, b2 w (by omega)]
theorem forward_ok {F k : Nat} {x y z : Int} {st : Mi.Store} (hs : SW st) (h0 : ¬ (x = 0 ∧ y = 0 ∧ z = 0)) (hx : x.natAbs < 2 ^ 8000) (hy : y.natAbs < 2 ^ 8000) (hz : z.natAbs < 2 ^ 8000) :
    callF Tk F (k + 2) 5 [.lst (i3 x y z)] st = some (.lst (i3 (x / cut3 x y z) (y / cut3 x y z) (z / cut3 x y z)), st) := by
  have hw := without_ok (F := F) (k := k) hs h0 hx hy hz
  obtain ⟨hc0, _, _, _, _, hp⟩ := pl_of h0
  generalize hu : x / (g3 x y z : Int) = u at *
  generalize hv : y / (g3 x y z : Int) = v at *
  generalize hww : z / (g3 x y z : Int) = w at *
  have hz3 : (3 : Nat) ≤ sizeLine := by decide
  have e : ∀ t : Int, evE (callF Tk F (k + 1)) [some (.lst (i3 x y z)), some (.lst (i3 u v w)), some (.int t), none] (.comp (.neg (.var 3)) (.nm 3) (.seq (.var 1)) .none [("part", 3)]) st = some (.lst (i3 (-u) (-v) (-w)), st) := fun t =>
    comp_pure (c := callF Tk F (k + 1)) (env := [some (.lst (i3 x y z)), some (.lst (i3 u v w)), some (.int t), none]) (elt := .neg (.var 3)) (tg := .nm 3) (it := .seq (.var 1)) (own := [("part", 3)]) (st := st) (xs := i3 u v w)
      (g := fun d => match d with
        | .int u => .int (-u)
        | _ => .non) hs rfl rfl hz3 (fun d hd => by
      simp only [List.mem_cons, List.not_mem_nil, or_false] at hd
      rcases hd with rfl | rfl | rfl <;> exact ⟨fun st' hs' => rfl, fun m => rfl⟩)
  obtain ⟨l1, l2⟩ := fwd_loop (F := F) (s := none) e (u := u) (v := v) (w := w)
  have body : evSs (callF Tk F (k + 1)) F i_forward.body [some (.lst (i3 x y z)), none, none, none] st = some (.ret (.lst (i3 (x / cut3 x y z) (y / cut3 x y z) (z / cut3 x y z))) st) := by
    unfold i_forward
    rw [ss_nxt (show evS (callF Tk F (k + 1)) F (.asg 1 (.call 4 (.cons (.var 0) .nil))) _ st = some (.nxt [some (.lst (i3 x y z)), some (.lst (i3 u v w)), none, none] st) from by simp [evS, evE, evEs, hw])]
    refine ss_ret ?_
    have ei : evI (callF Tk F (k + 1)) [some (.lst (i3 x y z)), some (.lst (i3 u v w)), none, none] (.seq (.var 1)) st = some (i3 u v w, st) := rfl
    simp only [evS, ei]
    by_cases hP : Pos x y z
    · have ec : cut3 x y z = (g3 x y z : Int) := if_pos hP
      rw [ec, hu, hv, hww] at hp ⊢
      exact l1 hp
    · have ec : cut3 x y z = -(g3 x y z : Int) := if_neg hP
      rw [ec, Int.ediv_neg, Int.ediv_neg, Int.ediv_neg, hu, hv, hww] at hp ⊢
      exact l2 hp
  exact (call_body (d := i_forward) rfl ⟨rfl, by decide⟩ body).trans (cut_pl (fun k => by simp) rfl hs rfl)
theorem gs_all {f : Mi.D → Mi.Store → Option (Option Mi.D × Mi.Store)} {p : Mi.D → Bool} {st : Mi.Store} : ∀ xs : List Mi.D, (∀ x ∈ xs, f x st = some (some (.bl (p x)), st)) →
    ∃ ys : List Bool, mapGs .all f xs st = some (ys.map Mi.D.bl, st) ∧ ys.all id = xs.all p ∧ ys.length ≤ xs.length
  | [], _ => ⟨[], rfl, rfl, Nat.le_refl _⟩
  | x :: xs, h => by
    have hx := h x List.mem_cons_self
    by_cases hp : p x = true
    · obtain ⟨ys, h1, h2, h3⟩ := gs_all xs fun y hy => h y (List.mem_cons_of_mem _ hy)
      refine ⟨true :: ys, ?_, by simp [hp, h2], by simp; omega⟩
      simp [mapGs, hx, hp, stopG, h1]
    · have hp : p x = false := by simpa using hp
      refine ⟨[false], ?_, by simp [hp], by simp⟩
      simp [mapGs, hx, hp, stopG]
theorem bools_map : ∀ ys : List Bool, boolsD (ys.map Mi.D.bl) = some ys
  | [] => rfl
  | y :: ys => by simp [boolsD, bools_map ys]
theorem gen_all {c : CallT} {env : Mi.Env} {elt : IE} {tg : ITg} {it : II} {own : List (PySem.Str × Nat)} {st : Mi.Store} {xs : List Mi.D} {p : Mi.D → Bool} (hi : evI c env it st = some (xs, st)) (ho : tgOwn tg (own.map (·.2)) = true) (hl : xs.length ≤ sizeLine)
    (h : ∀ x ∈ xs, turnF c (wipeE env (own.map (·.2))) tg .none elt x st = some (some (.bl (p x)), st)) : evE c env (.gen .all elt tg it .none own) st = some (.bl (xs.all p), st) := by
  obtain ⟨ys, h1, h2, h3⟩ := gs_all xs h
  show (match evI c env it st with
    | some (xs, st1) => if tgOwn tg (own.map fun p : PySem.Str × Nat => p.2) then (match mapGs .all (turnF c (wipeE env (own.map fun p : PySem.Str × Nat => p.2)) tg .none elt) xs st1 with
      | some (ys, st2) => if ys.length ≤ sizeLine then (match gkF .all ys with
        | some d => some (d, st2)
        | none => none) else none
      | none => none) else none
    | none => none) = _
  have hl2 : (ys.map Mi.D.bl).length ≤ sizeLine := by rw [List.length_map]; omega
  have hg : gkF .all (ys.map Mi.D.bl) = some (.bl (xs.all p)) := by
    simp only [gkF, bools_map, Option.map_some, h2]
  simp only [hi, ho, if_true, h1, hl2, hg]
theorem gs_tup {f : Mi.D → Mi.Store → Option (Option Mi.D × Mi.Store)} {g : Mi.D → Mi.D} {st : Mi.Store} : ∀ xs : List Mi.D, (∀ x ∈ xs, f x st = some (some (g x), st)) → mapGs .tuple f xs st = some (xs.map g, st)
  | [], _ => rfl
  | x :: xs, h => by
    have hx := h x List.mem_cons_self
    have ih := gs_tup xs fun y hy => h y (List.mem_cons_of_mem _ hy)
    simp [mapGs, hx, stopG, ih]
theorem gen_tup {c : CallT} {env : Mi.Env} {elt : IE} {tg : ITg} {it : II} {own : List (PySem.Str × Nat)} {st : Mi.Store} {xs : List Mi.D} {g : Mi.D → Mi.D} (hi : evI c env it st = some (xs, st)) (ho : tgOwn tg (own.map (·.2)) = true) (hl : xs.length ≤ sizeLine)
    (h : ∀ x ∈ xs, turnF c (wipeE env (own.map (·.2))) tg .none elt x st = some (some (g x), st)) : evE c env (.gen .tuple elt tg it .none own) st = some (.tup (xs.map g), st) := by
  have h1 := gs_tup xs h
  show (match evI c env it st with
    | some (xs, st1) => if tgOwn tg (own.map fun p : PySem.Str × Nat => p.2) then (match mapGs .tuple (turnF c (wipeE env (own.map fun p : PySem.Str × Nat => p.2)) tg .none elt) xs st1 with
      | some (ys, st2) => if ys.length ≤ sizeLine then (match gkF .tuple ys with
        | some d => some (d, st2)
        | none => none) else none
      | none => none) else none
    | none => none) = _
  have hl2 : (xs.map g).length ≤ sizeLine := by rw [List.length_map]; exact hl
  have hg : gkF .tuple (xs.map g) = some (.tup (xs.map g)) := rfl
  simp only [hi, ho, if_true, h1, hl2, hg]
theorem whole_ok {F k : Nat} {i : Int} {st : Mi.Store} (hs : SW st) : callF Tk F (k + 1) 9 [.int i] st = some (.bl true, st) := by
  rw [call_at (d := i_is_whole) rfl]
  refine (run_ret (v := .bl true) (st' := st) rfl ⟨rfl, by decide⟩ ?_).trans (cut_pl (fun k => by simp) rfl hs rfl)
  rfl
theorem fraction_ok {F k : Nat} {q : Rat} {st : Mi.Store} (hs : SW st) : callF Tk F (k + 2) 10 [fracD q] st = some (.bl true, st) := by
  have w := fun i => whole_ok (F := F) (k := k) (i := i) hs
  have n1 : isiF (fracD q) .tuple = some true := rfl
  have n2 : biF .len [fracD q] st = some (.int 2) := rfl
  have n3 : cop .ne (.int 2) (.int 2) = some false := by rw [ne_int]; rfl
  have gp : cop .gt (.int (q.den : Int)) (.int 0) = some true := by
    have := q.den_pos
    show some (decide ((0 : Int) < q.den)) = _
    simp [this]
  have gg : biF .gcd [.int q.num, .int (q.den : Int)] st = some (.int 1) := by
    have := q.reduced
    simp only [biF, Int.natAbs_natCast]
    rw [show Nat.gcd q.num.natAbs q.den = 1 from this]
    rfl
  have ge : cop .eq (.int 1) (.int 1) = some true := by rw [eq_int]; rfl
  have body : evSs (callF Tk F (k + 1)) F i_is_fraction.body [some (fracD q), none, none] st = some (.ret (.bl true) st) := by
    unfold i_is_fraction
    have s1 : evS (callF Tk F (k + 1)) F (.ite (.or (.not (.val (.isi (.var 0) .tuple))) (.one (.cmp .ne (.bi .len (.cons (.var 0) .nil)) (.cst (.int 2))))) (.cons (.ret (.cst (.bl false))) .nil) .nil) [some (fracD q), none, none] st = some (.nxt [some (fracD q), none, none] st) := by
      simp [evS, evT, evE, evEs, evSs, truth, n1, n2, n3]
    have s2 : evS (callF Tk F (k + 1)) F (.asgT [.nm 1, .nm 2] (.var 0)) [some (fracD q), none, none] st = some (.nxt [some (fracD q), some (.int q.num), some (.int (q.den : Int))] st) := rfl
    rw [ss_nxt s1, ss_nxt s2]
    refine ss_ret ?_
    simp [evS, evE, evEs, w, gp, gg, ge]
  exact (call_body (d := i_is_fraction) rfl ⟨rfl, by decide⟩ body).trans (cut_pl (fun k => by simp) rfl hs rfl)
theorem triple_ok {F k : Nat} {a b c : Rat} {st : Mi.Store} (hs : SW st) : callF Tk F (k + 3) 11 [triD a b c] st = some (.bl true, st) := by
  have hz3 : (3 : Nat) ≤ sizeLine := by decide
  have e := gen_all (c := callF Tk F (k + 2)) (env := [some (triD a b c), none]) (elt := .call 10 (.cons (.var 1) .nil)) (tg := .nm 1) (it := .seq (.var 0)) (own := [("part", 1)]) (st := st) (xs := [fracD a, fracD b, fracD c]) (p := fun _ => true) rfl rfl hz3 (fun x hx => by
    simp only [List.mem_cons, List.not_mem_nil, or_false] at hx
    rcases hx with rfl | rfl | rfl <;> simp [turnF, bindT, wipeE, evTo, evE, evEs, fraction_ok (F := F) (k := k) hs])
  rw [call_at (d := i_is_triple) rfl]
  refine (run_ret (v := .bl true) (st' := st) rfl ⟨rfl, by decide⟩ ?_).trans (cut_pl (fun k => by simp) rfl hs rfl)
  have n1 : isiF (triD a b c) .tuple = some true := rfl
  have n2 : biF .len [triD a b c] st = some (.int 3) := rfl
  have n3 : cop .eq (.int 3) (.int 3) = some true := by rw [eq_int]; rfl
  have gen : ∀ C : IE, evE (callF Tk F (k + 2)) [some (triD a b c), none] C st = some (.bl true, st) → evE (callF Tk F (k + 2)) [some (triD a b c), none] (.andv (.isi (.var 0) .tuple) (.andv (.cmp .eq (.bi .len (.cons (.var 0) .nil)) (.cst (.int 3))) (.one C))) st = some (.bl true, st) := by
    intro C e'
    simp [evE, evEs, truth, n1, n2, n3, e']
  exact gen _ e
theorem num_zero {q : Rat} : q.num = 0 ↔ q = 0 := by
  constructor
  · intro h
    rw [← Rat.num_divInt_den q, h]
    simp
  · rintro rfl
    rfl
theorem euclidG {tf : Mi.Env → Mi.Store → Option (Bool × Mi.Store)} {bf : Mi.Env → Mi.Store → Option Mi.Fl} {E : Int → Int → Mi.Env} {st : Mi.Store}
    (ht : ∀ a b : Int, tf (E a b) st = some (!decide (b = 0), st))
    (hb : ∀ a b : Int, 0 < b → bf (E a b) st = some (.nxt (E b (a % b)) st)) : ∀ (B : Nat) (a b : Int), 0 ≤ a → 0 ≤ b → b.toNat < B →
    loopW tf bf B (E a b) st = some (.nxt (E (Int.gcd a b) 0) st)
  | 0, a, b, _, _, h => by omega
  | B + 1, a, b, ha, hb', h => by
    by_cases h0 : b = 0
    · subst h0
      simp only [loopW, ht]
      simp
      congr 1
      omega
    · have hpos : 0 < b := by omega
      have ih := euclidG ht hb B b (a % b) hb' (Int.emod_nonneg _ h0) (by
        have := Int.emod_lt_of_pos a hpos
        have := Int.emod_nonneg a h0
        omega)
      have eg : Int.gcd b (a % b) = Int.gcd a b := by
        obtain ⟨m, rfl⟩ := Int.eq_ofNat_of_zero_le ha
        obtain ⟨n, rfl⟩ := Int.eq_ofNat_of_zero_le hb'
        rw [show ((m : Int) % (n : Int)) = ((m % n : Nat) : Int) from rfl]
        show Nat.gcd n (m % n) = Nat.gcd m n
        rw [Nat.gcd_comm n, ← Nat.gcd_rec, Nat.gcd_comm]
      simp only [loopW, ht, hb a b hpos, h0, decide_false, Bool.not_false]
      rw [ih, eg]
theorem map_opt {f : Mi.D → Mi.Store → Option (Option Mi.D × Mi.Store)} {g : Mi.D → Option Mi.D} {st : Mi.Store} (hs : SW st) : ∀ (xs acc : List Mi.D), (∀ x ∈ xs, (∀ st', SW st' → f x st' = some (g x, st')) ∧ ∀ y, g x = some y → ∀ m, fitD m y = true) → fitDs (st.length + 1) acc = true → acc.length + xs.length ≤ sizeLine →
    mapSt st.length f xs (st ++ [some acc]) = some (st ++ [some (acc ++ xs.filterMap g)])
  | [], acc, _, _, _ => by simp [mapSt]
  | x :: xs, acc, h, ha, hl => by
    have hx := h x List.mem_cons_self
    rw [List.length_cons] at hl
    have e : (st ++ [some acc])[st.length]? = some (some acc) := by simp
    cases hg : g x with
    | none =>
      have h1 := hx.1 _ (hs.push ha)
      rw [hg] at h1
      simp only [mapSt, h1]
      rw [map_opt hs xs acc (fun y hy => h y (List.mem_cons_of_mem _ hy)) ha (by omega), List.filterMap_cons_none hg]
    | some y =>
      have h1 := hx.1 _ (hs.push ha)
      rw [hg] at h1
      have e2 : (st ++ [some acc]).set st.length (some (acc ++ [y])) = st ++ [some (acc ++ [y])] := by simp
      simp only [mapSt, h1, e]
      rw [if_pos (by omega), e2, map_opt hs xs (acc ++ [y]) (fun y hy => h y (List.mem_cons_of_mem _ hy)) ?_ (by rw [List.length_append, List.length_singleton]; omega), List.filterMap_cons_some hg]
      · simp
      · refine fits_all fun d hd => ?_
        rcases List.mem_append.mp hd with hd | hd
        · exact fit_mem ha hd
        · rw [List.mem_singleton.mp hd]; exact hx.2 _ hg _
/-- a comprehension with a condition, of values that change nothing -/
theorem comp_opt {c : CallT} {env : Mi.Env} {elt : IE} {tg : ITg} {it : II} {cond : ITo} {own : List (PySem.Str × Nat)} {st : Mi.Store} {xs : List Mi.D} {g : Mi.D → Option Mi.D} (hs : SW st) (hi : evI c env it st = some (xs, st)) (ho : tgOwn tg (own.map (·.2)) = true) (hl : xs.length ≤ sizeLine)
    (h : ∀ x ∈ xs, (∀ st', SW st' → turnF c (wipeE env (own.map (·.2))) tg cond elt x st' = some (g x, st')) ∧ ∀ y, g x = some y → ∀ m, fitD m y = true) : evE c env (.comp elt tg it cond own) st = some (.lst (xs.filterMap g), st) := by
  have m := map_opt hs xs [] h rfl (by simpa using hl)
  rw [List.nil_append] at m
  have e : (st ++ [some (xs.filterMap g)])[st.length]? = some (some (xs.filterMap g)) := by simp
  have hf : fitDs st.length (xs.filterMap g) = true := fits_all fun d hd => by
    obtain ⟨x, hx, hg⟩ := List.mem_filterMap.mp hd
    exact (h x hx).2 _ hg _
  have hc : Mi.cutD st.length (.lst (xs.filterMap g)) (st ++ [some (xs.filterMap g)]) = some (.lst (xs.filterMap g), st) := cut_more (fun k => by simp) hf hs
  show (match evI c env it st with
    | some (xs, st1) => if tgOwn tg (own.map fun p : PySem.Str × Nat => p.2) then (match mapSt st1.length (turnF c (wipeE env (own.map fun p : PySem.Str × Nat => p.2)) tg cond elt) xs (st1 ++ [some []]) with
      | some st2 => (match st2[st1.length]? with
        | some (some ys) => Mi.cutD st1.length (.lst ys) st2
        | _ => none)
      | none => none) else none
    | none => none) = _
  simp only [hi, ho, if_true, m, e]
  exact hc
abbrev leanB : ISs := .cons (.asgP [3, 4] (.cons (.var 1) (.cons (.bi .abs (.cons (.var 2) .nil)) .nil)))
    (.cons (.whl (.cmp .ne (.var 4) (.cst (.int 0))) (.cons (.asgP [3, 4] (.cons (.var 4) (.cons (.bin .mod (.bi .int (.cons (.var 3) .nil)) (.var 4)) .nil))) .nil))
    (.cons (.asg 1 (.var 3)) .nil))
theorem lean_step {c : CallT} {F : Nat} {a y z : Option Mi.D} {f : Option Mi.D} {st : Mi.Store} {g : Nat} {u : Int} (hF : u.natAbs < F) :
    evSs c F leanB [a, some (.int (g : Nat)), some (.int u), y, z, f] st = some (.nxt [a, some (.int (Nat.gcd g u.natAbs : Nat)), some (.int u), some (.int (Nat.gcd g u.natAbs : Nat)), some (.int 0), f] st) := by
  have ab : biF .abs [.int u] st = some (.int (u.natAbs : Int)) := by
    show some (Mi.D.int (if u < 0 then -u else u)) = _
    congr 2
    split <;> omega
  have s1 : evS c F (.asgP [3, 4] (.cons (.var 1) (.cons (.bi .abs (.cons (.var 2) .nil)) .nil))) [a, some (.int (g : Nat)), some (.int u), y, z, f] st = some (.nxt [a, some (.int (g : Nat)), some (.int u), some (.int (g : Nat)), some (.int (u.natAbs : Nat)), f] st) := by
    simp [evS, evEs, evE, ab]
  have s2 : evS c F (.whl (.cmp .ne (.var 4) (.cst (.int 0))) (.cons (.asgP [3, 4] (.cons (.var 4) (.cons (.bin .mod (.bi .int (.cons (.var 3) .nil)) (.var 4)) .nil))) .nil)) [a, some (.int (g : Nat)), some (.int u), some (.int (g : Nat)), some (.int (u.natAbs : Nat)), f] st =
      some (.nxt [a, some (.int (g : Nat)), some (.int u), some (.int (Nat.gcd g u.natAbs : Nat)), some (.int 0), f] st) := by
    refine euclidG (E := fun i j => [a, some (.int (g : Nat)), some (.int u), some (.int i), some (.int j), f]) (fun i j => ?_) (fun i j h => ?_) F _ _ (by omega) (by omega) (by omega)
    · simp only [evT, evE, List.getElem?_cons_succ, List.getElem?_cons_zero, ne_int]
    · have e : bop .mod (.int i) (.int j) = some (.int (i % j)) := by
        rw [← fm i h]
        simp only [bop]
        rw [if_pos (by omega)]
      simp [evSs, evS, evEs, evE, biF, e]
  rw [ss_nxt s1, ss_nxt s2]
  simp [evSs, evS, evE]
theorem lean_ok {F k : Nat} {x y z : Int} {st : Mi.Store} (hs : SW st) (h : IsPl x y z) (hx : x.natAbs < F) (hy : y.natAbs < F) (hz : z.natAbs < F) :
    callF Tk F (k + 1) 41 [.tup (i3 x y z)] st = some (.tup (i3 x y z), st) := by
  obtain ⟨hg, hP⟩ := h
  have s1 : evS (callF Tk F k) F (.asg 1 (.cst (.int 0))) [some (.tup (i3 x y z)), none, none, none, none, none] st = some (.nxt [some (.tup (i3 x y z)), some (.int ((0 : Nat) : Int)), none, none, none, none] st) := rfl
  have s2 : evS (callF Tk F k) F (.forr (.nm 2) (.seq (.var 0)) leanB) [some (.tup (i3 x y z)), some (.int ((0 : Nat) : Int)), none, none, none, none] st =
      some (.nxt [some (.tup (i3 x y z)), some (.int 1), some (.int z), some (.int 1), some (.int 0), none] st) := by
    have ei : evI (callF Tk F k) [some (.tup (i3 x y z)), some (.int ((0 : Nat) : Int)), none, none, none, none] (.seq (.var 0)) st = some (i3 x y z, st) := rfl
    have e3 : Nat.gcd (Nat.gcd (Nat.gcd 0 x.natAbs) y.natAbs) z.natAbs = 1 := by
      rw [Nat.gcd_zero_left]
      exact hg
    have b1 := lean_step (c := callF Tk F k) (F := F) (a := some (.tup (i3 x y z))) (y := none) (z := none) (f := none) (st := st) (g := 0) (u := x) hx
    have b2 := lean_step (c := callF Tk F k) (F := F) (a := some (.tup (i3 x y z))) (y := some (.int (Nat.gcd 0 x.natAbs : Nat))) (z := some (.int 0)) (f := none) (st := st) (g := Nat.gcd 0 x.natAbs) (u := y) hy
    have b3 := lean_step (c := callF Tk F k) (F := F) (a := some (.tup (i3 x y z))) (y := some (.int (Nat.gcd (Nat.gcd 0 x.natAbs) y.natAbs : Nat))) (z := some (.int 0)) (f := none) (st := st) (g := Nat.gcd (Nat.gcd 0 x.natAbs) y.natAbs) (u := z) hz
    rw [e3] at b3
    simp only [evS, ei]
    simp only [loopF, bindT, List.set_cons_succ, List.set_cons_zero, b1, b2, b3]
    rfl
  have first : ∃ f rest, (i3 x y z).filterMap (fun d => match d with
      | .int u => if u = 0 then none else some (Mi.D.int u)
      | _ => none) = .int f :: rest ∧ 0 < f := by
    rcases hP with h | ⟨rfl, h | ⟨rfl, h⟩⟩
    · exact ⟨x, _, by rw [List.filterMap_cons_some (b := .int x) (by simp; omega)], h⟩
    · exact ⟨y, _, by rw [List.filterMap_cons_none (by simp), List.filterMap_cons_some (b := .int y) (by simp; omega)], h⟩
    · exact ⟨z, _, by rw [List.filterMap_cons_none (by simp), List.filterMap_cons_none (by simp), List.filterMap_cons_some (b := .int z) (by simp; omega)], h⟩
  obtain ⟨f, rest, hf, hpos⟩ := first
  have hz3 : (3 : Nat) ≤ sizeLine := by decide
  have c1 := comp_opt (c := callF Tk F k) (env := [some (.tup (i3 x y z)), some (.int 1), some (.int z), some (.int 1), some (.int 0), none]) (elt := .var 2) (tg := .nm 2) (it := .seq (.var 0)) (cond := .some (.cmp .ne (.var 2) (.cst (.int 0)))) (own := [("_law_each", 2)]) (st := st) (xs := i3 x y z)
    (g := fun d => match d with
      | .int u => if u = 0 then none else some (.int u)
      | _ => none) hs rfl rfl hz3 (fun d hd => by
    have go : ∀ u : Int, (∀ st', SW st' → turnF (callF Tk F k) (wipeE [some (.tup (i3 x y z)), some (.int 1), some (.int z), some (.int 1), some (.int 0), none] [2]) (.nm 2) (.some (.cmp .ne (.var 2) (.cst (.int 0)))) (.var 2) (.int u) st' = some ((if u = 0 then none else some (.int u)), st')) ∧ ∀ y, (if u = 0 then none else some (Mi.D.int u)) = some y → ∀ m, fitD m y = true := fun u => by
      by_cases h0 : u = 0
      · simp [turnF, bindT, wipeE, evTo, evT, evE, ne_int, h0]
      · refine ⟨fun st' _ => by simp [turnF, bindT, wipeE, evTo, evT, evE, ne_int, h0], fun y hy m => ?_⟩
        rw [if_neg h0] at hy
        cases hy
        rfl
    simp only [List.mem_cons, List.not_mem_nil, or_false] at hd
    rcases hd with rfl | rfl | rfl
    · exact go x
    · exact go y
    · exact go z)
  rw [hf] at c1
  have s3 : evS (callF Tk F k) F (.asg 5 (.idx (.comp (.var 2) (.nm 2) (.seq (.var 0)) (.some (.cmp .ne (.var 2) (.cst (.int 0)))) [("_law_each", 2)]) (.cst (.int 0)))) [some (.tup (i3 x y z)), some (.int 1), some (.int z), some (.int 1), some (.int 0), none] st =
      some (.nxt [some (.tup (i3 x y z)), some (.int 1), some (.int z), some (.int 1), some (.int 0), some (.int f)] st) := by
    have ix : idxF (.lst (.int f :: rest)) (.int 0) st = some (.int f) := by
      simp [idxF, itemsD, L2.atI, L2.ixN]
    have gen : ∀ C : IE, evE (callF Tk F k) [some (.tup (i3 x y z)), some (.int 1), some (.int z), some (.int 1), some (.int 0), none] C st = some (.lst (.int f :: rest), st) →
        evS (callF Tk F k) F (.asg 5 (.idx C (.cst (.int 0)))) [some (.tup (i3 x y z)), some (.int 1), some (.int z), some (.int 1), some (.int 0), none] st = some (.nxt [some (.tup (i3 x y z)), some (.int 1), some (.int z), some (.int 1), some (.int 0), some (.int f)] st) := by
      intro C e'
      simp [evS, evE, e', ix]
    exact gen _ c1
  have c2 := comp_pure (c := callF Tk F k) (env := [some (.tup (i3 x y z)), some (.int 1), some (.int z), some (.int 1), some (.int 0), some (.int f)]) (elt := .bin .fdiv (.var 2) (.ife (.cmp .gt (.var 5) (.cst (.int 0))) (.var 1) (.bin .sub (.cst (.int 0)) (.var 1)))) (tg := .nm 2) (it := .seq (.var 0)) (own := [("_law_each", 2)]) (st := st) (xs := i3 x y z) (g := fun d => d) hs rfl rfl hz3 (fun d hd => by
    have gt : cop .gt (.int f) (.int 0) = some true := by
      show some (decide (0 < f)) = _
      simp [hpos]
    have go : ∀ u : Int, (∀ st', SW st' → turnF (callF Tk F k) (wipeE [some (.tup (i3 x y z)), some (.int 1), some (.int z), some (.int 1), some (.int 0), some (.int f)] [2]) (.nm 2) .none (.bin .fdiv (.var 2) (.ife (.cmp .gt (.var 5) (.cst (.int 0))) (.var 1) (.bin .sub (.cst (.int 0)) (.var 1)))) (.int u) st' = some (some (.int u), st')) ∧ ∀ m, fitD m (.int u) = true := fun u => by
      have f1 : bop .fdiv (.int u) (.int 1) = some (.int u) := by
        rw [fdiv_ok (by decide) (by decide), Int.fdiv_one]
      exact ⟨fun st' _ => by simp [turnF, bindT, wipeE, evTo, evT, evE, gt, f1], fun m => rfl⟩
    simp only [List.mem_cons, List.not_mem_nil, or_false] at hd
    rcases hd with rfl | rfl | rfl
    · exact go x
    · exact go y
    · exact go z)
  have body : evSs (callF Tk F k) F i__law_lean.body [some (.tup (i3 x y z)), none, none, none, none, none] st = some (.ret (.tup (i3 x y z)) st) := by
    unfold i__law_lean
    rw [ss_nxt s1, ss_nxt s2, ss_nxt s3]
    refine ss_ret ?_
    have gen : ∀ C : IE, evE (callF Tk F k) [some (.tup (i3 x y z)), some (.int 1), some (.int z), some (.int 1), some (.int 0), some (.int f)] C st = some (.lst (i3 x y z), st) →
        evS (callF Tk F k) F (.ret (.bi .tuple (.cons C .nil))) [some (.tup (i3 x y z)), some (.int 1), some (.int z), some (.int 1), some (.int 0), some (.int f)] st = some (.ret (.tup (i3 x y z)) st) := by
      intro C e'
      have b1 : biF .tuple [.lst (i3 x y z)] st = some (.tup (i3 x y z)) := rfl
      simp [evS, evE, evEs, e', b1]
    refine gen _ (c2.trans ?_)
    simp
  exact (call_body (d := i__law_lean) rfl ⟨rfl, by decide⟩ body).trans (cut_pl (fun k => by simp) rfl hs rfl)
theorem dEq_i3 (x y z : Int) : dEq (.tup (i3 x y z)) (.tup (i3 x y z)) = some true := by
  have s : SeqAt.shaped (pd (.tup (i3 x y z))) = true := rfl
  have f : flat0 (.tup (i3 x y z)) = true := rfl
  have e : PyData.eqv (pd (.tup (i3 x y z))) (pd (.tup (i3 x y z))) = true := by
    show PyData.eqv (.tuple [.int x, .int y, .int z]) (.tuple [.int x, .int y, .int z]) = true
    simp [PyData.eqv, PyData.eqvAll]
  simp only [dEq, f, s, Bool.true_and, if_true, e]
theorem frac_int (u : Int) : fracD (u : Rat) = .tup [.int u, .int 1] := by
  unfold fracD
  rw [Rat.num_intCast, Rat.den_intCast]
  rfl
theorem Bd.int {u : Int} {B : Nat} (h : u.natAbs < 2 ^ B) (hB : 0 < B) : Bd B (u : Rat) := by
  refine ⟨by rw [Rat.num_intCast]; exact h, ?_⟩
  rw [Rat.den_intCast]
  exact Nat.one_lt_two_pow (by omega)
/-! ### texts -/
/-- the signs of a whole number -/
def intL (i : Int) : List Nat := tl (Str.ofString (toString i))
theorem intL_nat (n : Nat) : intL (n : Int) = numL n := tl_num n
theorem intL_neg (n : Nat) : intL (Int.negSucc n) = 45 :: numL (n + 1) := by
  have e : (toString (Int.negSucc n) : String) = "-" ++ toString ((n + 1 : Nat) : Int) := rfl
  unfold intL
  rw [e, tl_ofString, String.toList_append, List.map_append, ← tl_ofString, ← tl_ofString, tl_num]
  rfl
theorem intL_free (i : Int) : 44 ∉ intL i := by
  cases i with
  | ofNat n =>
    rw [show Int.ofNat n = (n : Int) from rfl, intL_nat]
    exact numL_free (by omega)
  | negSucc n =>
    rw [intL_neg]
    intro h
    rcases List.mem_cons.mp h with h | h
    · omega
    · exact numL_free (by omega) h
theorem intL_inj {i j : Int} (h : intL i = intL j) : i = j := by
  have no : ∀ m n : Nat, numL m ≠ 45 :: numL n := fun m n h => by
    have : 45 ∈ numL m := by rw [h]; exact List.mem_cons_self
    exact numL_free (by omega) this
  cases i with
  | ofNat m =>
    cases j with
    | ofNat n =>
      have h' : numL m = numL n := by rw [← intL_nat, ← intL_nat]; exact h
      rw [numL_inj h']
    | negSucc n =>
      rw [show Int.ofNat m = (m : Int) from rfl, intL_nat, intL_neg] at h
      exact absurd h (no _ _)
  | negSucc m =>
    cases j with
    | ofNat n =>
      rw [show Int.ofNat n = (n : Int) from rfl, intL_nat, intL_neg] at h
      exact absurd h.symm (no _ _)
    | negSucc n =>
      rw [intL_neg, intL_neg] at h
      have := numL_inj (List.cons.inj h).2
      have : m = n := by omega
      rw [this]
theorem intL_len {i : Int} (h : i.natAbs < 10 ^ 1000) : (intL i).length ≤ 1001 := by
  cases i with
  | ofNat n =>
    rw [show Int.ofNat n = (n : Int) from rfl, intL_nat]
    have := numL_len (k := 1000) (by decide) (show n < 10 ^ 1000 from h)
    omega
  | negSucc n =>
    rw [intL_neg, List.length_cons]
    have := numL_len (k := 1000) (by decide) (show n + 1 < 10 ^ 1000 from h)
    omega
theorem cut_at {l l' r r' : List Nat} (h1 : 44 ∉ l) (h2 : 44 ∉ l') (h : l ++ 44 :: r = l' ++ 44 :: r') : l = l' ∧ r = r' := by
  induction l generalizing l' with
  | nil =>
    cases l' with
    | nil => exact ⟨rfl, (List.cons.inj h).2⟩
    | cons c l' =>
      have := (List.cons.inj h).1
      exact absurd (this ▸ List.mem_cons_self) h2
  | cons c l ih =>
    cases l' with
    | nil =>
      have := (List.cons.inj h).1
      exact absurd (this ▸ List.mem_cons_self) h1
    | cons c' l' =>
      have e := List.cons.inj h
      obtain ⟨i1, i2⟩ := ih (fun m => h1 (List.mem_cons_of_mem _ m)) (fun m => h2 (List.mem_cons_of_mem _ m)) e.2
      exact ⟨by rw [e.1, i1], i2⟩
/-- the text of a direction of whole numbers -/
def triT (x y z : Int) : List Nat := 40 :: 40 :: (intL x ++ 44 :: (32 :: 49 :: 41 :: 44 :: 32 :: 40 :: (intL y ++ 44 :: (32 :: 49 :: 41 :: 44 :: 32 :: 40 :: (intL z ++ 44 :: [32, 49, 41, 41])))))
theorem triT_inj {x y z x' y' z' : Int} (h : triT x y z = triT x' y' z') : x = x' ∧ y = y' ∧ z = z' := by
  unfold triT at h
  have h := (List.cons.inj (List.cons.inj h).2).2
  obtain ⟨h1, h⟩ := cut_at (intL_free _) (intL_free _) h
  simp only [List.cons.injEq, true_and] at h
  obtain ⟨h2, h⟩ := cut_at (intL_free _) (intL_free _) h
  simp only [List.cons.injEq, true_and] at h
  obtain ⟨h3, h⟩ := cut_at (intL_free _) (intL_free _) h
  exact ⟨intL_inj h1, intL_inj h2, intL_inj h3⟩
theorem tl_tri (x y z : Int) : tl (PyData.shown (pd (triD (x : Rat) (y : Rat) (z : Rat)))) = triT x y z := by
  rw [triD, frac_int, frac_int, frac_int]
  show tl (PyData.shown (.tuple [.tuple [.int x, .int 1], .tuple [.int y, .int 1], .tuple [.int z, .int 1]])) = _
  have i1 : List.map Char.toNat (Int.repr 1).toList = [49] := by decide +kernel
  simp only [PyData.shown, PyData.shownAll, tupleText, Str.join, List.length_cons, List.length_nil, tl_append, tl_ofString]
  simp [triT, intL, tl_ofString, i1]
theorem ok_iff (s : PySem.Str) : PyData.strOk s = true ↔ ∀ c ∈ tl s, c < 0x110000 := by
  unfold PyData.strOk
  rw [← Array.all_toList, List.all_eq_true]
  simp
theorem ok_app {s t : PySem.Str} (h1 : PyData.strOk s = true) (h2 : PyData.strOk t = true) : PyData.strOk (s ++ t) = true := by
  rw [ok_iff] at *
  rw [tl_append]
  intro c hc
  rcases List.mem_append.mp hc with hc | hc
  · exact h1 c hc
  · exact h2 c hc
theorem ok_of (s : String) : PyData.strOk (Str.ofString s) = true := by
  rw [ok_iff, tl_ofString]
  intro c hc
  obtain ⟨d, _, rfl⟩ := List.mem_map.mp hc
  have := d.valid
  rcases this with h | ⟨_, h⟩
  · show d.val.toNat < _
    omega
  · exact h
theorem dEq_str {s t : PySem.Str} (hs : PyData.strOk s = true) (ht : PyData.strOk t = true) : dEq (.str s) (.str t) = some (decide (s = t)) := by
  have s1 : ∀ s : PySem.Str, PyData.strOk s = true → SeqAt.shaped (PyData.str s) = true := fun s h => by
    have h' : (PyData.str s).canLay0 = true := by rw [PyData.canLay0]; exact h
    have hd : (PyData.str s).depth ≤ 64 := by simp [PyData.depth]
    simp only [SeqAt.shaped, h', hd, decide_true, Bool.and_self]
  have e : PyData.eqv (.str s) (.str t) = decide (s = t) := by
    rw [Bool.eq_iff_iff]
    simp [PyData.eqv]
  simp only [dEq, flat0, pd, s1 s hs, s1 t ht, Bool.true_and, if_true, e]
theorem dEq_bl (p q : Bool) : dEq (.bl p) (.bl q) = some (p == q) := by
  have s1 : ∀ p : Bool, SeqAt.shaped (PyData.bool p) = true := fun p => rfl
  have e : PyData.eqv (.bool p) (.bool q) = (p == q) := by
    cases p <;> cases q <;> simp [PyData.eqv]
  simp only [dEq, flat0, pd, s1, Bool.true_and, if_true, e]
/-- the text of a direction of whole numbers -/
def triS (x y z : Int) : PySem.Str := PyData.shown (pd (triD (x : Rat) (y : Rat) (z : Rat)))
theorem triS_inj {x y z x' y' z' : Int} : triS x y z = triS x' y' z' ↔ x = x' ∧ y = y' ∧ z = z' := by
  constructor
  · intro h
    have h2 := congrArg tl h
    unfold triS at h2
    rw [tl_tri, tl_tri] at h2
    exact triT_inj h2
  · rintro ⟨rfl, rfl, rfl⟩
    rfl
theorem triS_ok (x y z : Int) : PyData.strOk (triS x y z) = true := by
  have j : ∀ (a b : PySem.Str), PyData.strOk a = true → PyData.strOk b = true → PyData.strOk (tupleText [a, b]) = true := fun a b ha hb =>
    ok_app (ok_app (ok_of _) (ok_app (ok_app ha (ok_of _)) hb)) (ok_of _)
  have j3 : ∀ (a b c : PySem.Str), PyData.strOk a = true → PyData.strOk b = true → PyData.strOk c = true → PyData.strOk (tupleText [a, b, c]) = true := fun a b c ha hb hc =>
    ok_app (ok_app (ok_of _) (ok_app (ok_app ha (ok_of _)) (ok_app (ok_app hb (ok_of _)) hc))) (ok_of _)
  unfold triS
  rw [triD, frac_int, frac_int, frac_int]
  exact j3 _ _ _ (j _ _ (ok_of _) (ok_of _)) (j _ _ (ok_of _) (ok_of _)) (j _ _ (ok_of _) (ok_of _))
theorem triT_len {x y z : Int} (hx : x.natAbs < 2 ^ 1900) (hy : y.natAbs < 2 ^ 1900) (hz : z.natAbs < 2 ^ 1900) : (triT x y z).length ≤ 4000 := by
  have t : (2 : Nat) ^ 1900 ≤ 10 ^ 1000 := by decide +kernel
  have := intL_len (Nat.lt_of_lt_of_le hx t)
  have := intL_len (Nat.lt_of_lt_of_le hy t)
  have := intL_len (Nat.lt_of_lt_of_le hz t)
  simp only [triT, List.length_cons, List.length_append, List.length_nil]
  omega
theorem log_1920 {i : Int} (h : i.natAbs < 2 ^ 1900) : i.natAbs.log2 < 1920 := by
  by_cases h0 : i.natAbs = 0
  · rw [h0]; simp
  · have := (Nat.log2_lt h0).mpr h
    omega
theorem show_tri {x y z : Int} {st : Mi.Store} (hx : x.natAbs < 2 ^ 1900) (hy : y.natAbs < 2 ^ 1900) (hz : z.natAbs < 2 ^ 1900) : biF .repr [triD (x : Rat) (y : Rat) (z : Rat)] st = some (.str (triS x y z)) := by
  have hl : (PyData.shown (pd (triD (x : Rat) (y : Rat) (z : Rat)))).length ≤ sizeLine := by
    rw [len_tl, tl_tri]
    have := triT_len hx hy hz
    have e : sizeLine = 2 ^ 24 := rfl
    omega
  have hf : flat0 (triD (x : Rat) (y : Rat) (z : Rat)) = true := rfl
  have hd : (pd (triD (x : Rat) (y : Rat) (z : Rat))).depth ≤ 64 := by
    simp [triD, frac_int, pd, pds, PyData.depth, PyData.depthAll]
  have hsh : PyData.showable (pd (triD (x : Rat) (y : Rat) (z : Rat))) = true := by
    rw [triD, frac_int, frac_int, frac_int]
    have h1 := log_1920 hx
    have h2 := log_1920 hy
    have h3 := log_1920 hz
    have h4 : (1 : Int).natAbs.log2 < 1920 := by decide
    simp only [pd, pds, PyData.showable, PyData.showableAll, h1, h2, h3, h4, decide_true, Bool.and_self]
  have hok : showOk (triD (x : Rat) (y : Rat) (z : Rat)) = true := by
    simp only [showOk, hf, hsh, hl, hd, decide_true, Bool.and_self]
  show (if showOk _ = true then _ else none) = _
  rw [if_pos hok]
  rfl
theorem show_two {x y z : Int} (hx : x.natAbs < 2 ^ 1900) (hy : y.natAbs < 2 ^ 1900) (hz : z.natAbs < 2 ^ 1900) : ∃ s : PySem.Str, PyData.strOk s = true ∧ ∀ st, biF .repr [.lst [triD (x : Rat) (y : Rat) (z : Rat), triD (x : Rat) (y : Rat) (z : Rat)]] st = some (.str s) := by
  refine ⟨PyData.shown (pd (.lst [triD (x : Rat) (y : Rat) (z : Rat), triD (x : Rat) (y : Rat) (z : Rat)])), ?_, fun st => ?_⟩
  · exact ok_app (ok_app (ok_app (ok_app (ok_app (ok_of _) (ok_of _)) (triS_ok x y z)) (ok_of _)) (triS_ok x y z)) (ok_of _)
  have hl : (PyData.shown (pd (.lst [triD (x : Rat) (y : Rat) (z : Rat), triD (x : Rat) (y : Rat) (z : Rat)]))).length ≤ sizeLine := by
    have h1 := tl_tri x y z
    have h2 := triT_len hx hy hz
    rw [← h1, ← len_tl] at h2
    generalize triD (x : Rat) (y : Rat) (z : Rat) = T at *
    show (PyData.shown (.list [pd T, pd T])).length ≤ sizeLine
    simp only [PyData.shown, PyData.shownAll]
    generalize PyData.shown (pd T) = s at *
    rw [len_tl]
    rw [len_tl] at h2
    have e : sizeLine = 2 ^ 24 := rfl
    have t1 : ∀ s : String, (tl (Str.ofString s)).length = s.toList.length := fun s => by rw [tl_ofString, List.length_map]
    simp only [listText, textFrom, tl_append, List.length_append, t1]
    simp at h2 ⊢
    omega
  have hf : flat0 (.lst [triD (x : Rat) (y : Rat) (z : Rat), triD (x : Rat) (y : Rat) (z : Rat)]) = true := rfl
  have hd : (pd (.lst [triD (x : Rat) (y : Rat) (z : Rat), triD (x : Rat) (y : Rat) (z : Rat)])).depth ≤ 64 := by
    simp [triD, frac_int, pd, pds, PyData.depth, PyData.depthAll]
  have hsh : PyData.showable (pd (.lst [triD (x : Rat) (y : Rat) (z : Rat), triD (x : Rat) (y : Rat) (z : Rat)])) = true := by
    rw [triD, frac_int, frac_int, frac_int]
    have h1 := log_1920 hx
    have h2 := log_1920 hy
    have h3 := log_1920 hz
    have h4 : (1 : Int).natAbs.log2 < 1920 := by decide
    simp only [pd, pds, PyData.showable, PyData.showableAll, h1, h2, h3, h4, decide_true, Bool.and_self]
  have hok : showOk (.lst [triD (x : Rat) (y : Rat) (z : Rat), triD (x : Rat) (y : Rat) (z : Rat)]) = true := by
    simp only [showOk, hf, hsh, hl, hd, decide_true, Bool.and_self]
  show (if showOk _ = true then _ else none) = _
  rw [if_pos hok]
theorem Bd.add {B C : Nat} {x y : Rat} (hx : Bd B x) (hy : Bd C y) : Bd (B + C + 1) (x + y) := by
  have e : x + y = Rat.divInt (x.num * (y.den : Int) + y.num * (x.den : Int)) ((x.den : Int) * (y.den : Int)) := by
    rw [← Rat.divInt_add_divInt _ _ (den_ne x) (den_ne y), Rat.num_divInt_den, Rat.num_divInt_den]
  have hu : (x.den : Int) * (y.den : Int) ≠ 0 := Int.mul_ne_zero (den_ne x) (den_ne y)
  obtain ⟨h1, h2⟩ := divInt_bd (t := x.num * (y.den : Int) + y.num * (x.den : Int)) hu
  have m : ∀ {a b P Q : Nat}, a < 2 ^ P → b < 2 ^ Q → a * b < 2 ^ (P + Q) := fun ha hb => by
    rw [Nat.pow_add]
    exact Nat.mul_lt_mul'' ha hb
  have e1 : (x.num * (y.den : Int)).natAbs < 2 ^ (B + C) := by rw [Int.natAbs_mul, Int.natAbs_natCast]; exact m hx.1 hy.2
  have e2 : (y.num * (x.den : Int)).natAbs < 2 ^ (B + C) := by rw [Int.natAbs_mul, Int.natAbs_natCast, Nat.add_comm]; exact m hy.1 hx.2
  have e3 : ((x.den : Int) * (y.den : Int)).natAbs < 2 ^ (B + C) := by rw [Int.natAbs_mul, Int.natAbs_natCast, Int.natAbs_natCast]; exact m hx.2 hy.2
  have e4 : 2 ^ (B + C + 1) = 2 ^ (B + C) * 2 := Nat.pow_succ 2 (B + C)
  rw [e]
  have e5 := Int.natAbs_add_le (x.num * (y.den : Int)) (y.num * (x.den : Int))
  exact ⟨by omega, by omega⟩
theorem Bd.neg {B : Nat} {x : Rat} (hx : Bd B x) : Bd B (-x) := ⟨by rw [show (-x).num = -x.num from rfl, Int.natAbs_neg]; exact hx.1, by rw [show (-x).den = x.den from rfl]; exact hx.2⟩
theorem Bd.sub {B C : Nat} {x y : Rat} (hx : Bd B x) (hy : Bd C y) : Bd (B + C + 1) (x - y) := by
  rw [Rat.sub_eq_add_neg]
  exact hx.add hy.neg
theorem Bd.mul2 {B C : Nat} {x y : Rat} (hx : Bd B x) (hy : Bd C y) : Bd (B + C) (x * y) := by
  have e : x * y = Rat.divInt (x.num * y.num) ((x.den : Int) * (y.den : Int)) := by
    rw [← Rat.divInt_mul_divInt, Rat.num_divInt_den, Rat.num_divInt_den]
  have hu : (x.den : Int) * (y.den : Int) ≠ 0 := Int.mul_ne_zero (den_ne x) (den_ne y)
  obtain ⟨h1, h2⟩ := divInt_bd (t := x.num * y.num) hu
  have m : ∀ {a b P Q : Nat}, a < 2 ^ P → b < 2 ^ Q → a * b < 2 ^ (P + Q) := fun ha hb => by
    rw [Nat.pow_add]
    exact Nat.mul_lt_mul'' ha hb
  rw [e]
  refine ⟨Nat.lt_of_le_of_lt h1 ?_, Nat.lt_of_le_of_lt h2 ?_⟩
  · rw [Int.natAbs_mul]; exact m hx.1 hy.1
  · rw [Int.natAbs_mul, Int.natAbs_natCast, Int.natAbs_natCast]; exact m hx.2 hy.2
/-- three numbers in a row -/
structure V3 where
  a : Rat
  b : Rat
  c : Rat
def tD (v : V3) : Mi.D := triD v.a v.b v.c
def BV (B : Nat) (v : V3) : Prop := Bd B v.a ∧ Bd B v.b ∧ Bd B v.c
def V3.add (u v : V3) : V3 := ⟨u.a + v.a, u.b + v.b, u.c + v.c⟩
def V3.sub (u v : V3) : V3 := ⟨u.a - v.a, u.b - v.b, u.c - v.c⟩
def V3.smul (u : V3) (q : Rat) : V3 := ⟨u.a * q, u.b * q, u.c * q⟩
def V3.dot (u v : V3) : Rat := u.a * v.a + u.b * v.b + u.c * v.c
def V3.cross (u v : V3) : V3 := ⟨u.b * v.c - u.c * v.b, u.c * v.a - u.a * v.c, u.a * v.b - u.b * v.a⟩
def V3.zero : V3 := ⟨0, 0, 0⟩
theorem V3.ext' {u v : V3} (h1 : u.a = v.a) (h2 : u.b = v.b) (h3 : u.c = v.c) : u = v := by
  cases u; cases v; simp_all
theorem BV.mono {B C : Nat} {u : V3} (h : BV B u) (hc : B ≤ C) : BV C u := ⟨h.1.mono hc, h.2.1.mono hc, h.2.2.mono hc⟩
theorem BV.add {B C : Nat} {u v : V3} (h : BV B u) (h' : BV C v) : BV (B + C + 1) (u.add v) := ⟨h.1.add h'.1, h.2.1.add h'.2.1, h.2.2.add h'.2.2⟩
theorem BV.sub {B C : Nat} {u v : V3} (h : BV B u) (h' : BV C v) : BV (B + C + 1) (u.sub v) := ⟨h.1.sub h'.1, h.2.1.sub h'.2.1, h.2.2.sub h'.2.2⟩
theorem BV.smul {B C : Nat} {u : V3} {q : Rat} (h : BV B u) (h' : Bd C q) : BV (B + C) (u.smul q) := ⟨h.1.mul2 h', h.2.1.mul2 h', h.2.2.mul2 h'⟩
theorem BV.cross {B C : Nat} {u v : V3} (h : BV B u) (h' : BV C v) : BV (2 * (B + C) + 1) (u.cross v) := by
  have go : ∀ {x y z w : Rat}, Bd B x → Bd C y → Bd B z → Bd C w → Bd (2 * (B + C) + 1) (x * y - z * w) := fun hx hy hz hw => by
    rw [show 2 * (B + C) + 1 = (B + C) + (B + C) + 1 by omega]
    exact (hx.mul2 hy).sub (hz.mul2 hw)
  exact ⟨go h.2.1 h'.2.2 h.2.2 h'.2.1, go h.2.2 h'.1 h.1 h'.2.2, go h.1 h'.2.1 h.2.1 h'.1⟩
theorem BV.dot {B C : Nat} {u v : V3} (h : BV B u) (h' : BV C v) : Bd (3 * (B + C) + 2) (u.dot v) := by
  rw [show 3 * (B + C) + 2 = (B + C) + (B + C) + 1 + (B + C) + 1 by omega]
  exact ((h.1.mul2 h'.1).add (h.2.1.mul2 h'.2.1)).add (h.2.2.mul2 h'.2.2)
theorem BV.zero {B : Nat} (hB : 0 < B) : BV B V3.zero := by
  have h0 : Bd B (0 : Rat) := ⟨Nat.two_pow_pos B, Nat.one_lt_two_pow (by omega)⟩
  exact ⟨h0, h0, h0⟩
/-- a screw -/
structure Sc where
  l : V3
  m : V3
def sD (s : Sc) : Mi.D := .tup [tD s.l, tD s.m]
def BS (B : Nat) (s : Sc) : Prop := BV B s.l ∧ BV B s.m
theorem BS.mono {B C : Nat} {s : Sc} (h : BS B s) (hc : B ≤ C) : BS C s := ⟨h.1.mono hc, h.2.mono hc⟩
def Sc.pow (s t : Sc) : Rat := s.l.dot t.m + s.m.dot t.l
theorem fit_tD (n : Nat) (v : V3) : fitD n (tD v) = true := rfl
theorem fit_sD (n : Nat) (s : Sc) : fitD n (sD s) = true := rfl
theorem fit_frac (n : Nat) (q : Rat) : fitD n (fracD q) = true := rfl
/-! ### the law's own -/
theorem plus_ok {F k : Nat} {x y : Rat} {st : Mi.Store} (hs : SW st) (hx : Bd 4000 x) (hy : Bd 4000 y) (hF : 2 ^ 8000 ≤ F) : callF Tk F (k + 2) 29 [fracD x, fracD y] st = some (fracD (x + y), st) := by
  rw [call_at (d := i__law_plus) rfl]
  have d1 : ((x.den : Int)).natAbs < 2 ^ 4000 := by simpa using hx.2
  have d2 : ((y.den : Int)).natAbs < 2 ^ 4000 := by simpa using hy.2
  have m1 : bop .mul (.int x.num) (.int (y.den : Int)) = some (.int (x.num * (y.den : Int))) := mul_ok (n := 4000) (m := 4000) (log_nat hx.1) (log_nat d2) (by omega)
  have m2 : bop .mul (.int y.num) (.int (x.den : Int)) = some (.int (y.num * (x.den : Int))) := mul_ok (n := 4000) (m := 4000) (log_nat hy.1) (log_nat d1) (by omega)
  have m3 : bop .mul (.int (x.den : Int)) (.int (y.den : Int)) = some (.int ((x.den : Int) * (y.den : Int))) := mul_ok (n := 4000) (m := 4000) (log_nat d1) (log_nat d2) (by omega)
  have b1 : ∀ i j : Int, bop .add (.int i) (.int j) = some (.int (i + j)) := fun _ _ => rfl
  have hu : (x.den : Int) * (y.den : Int) ≠ 0 := Int.mul_ne_zero (den_ne x) (den_ne y)
  have hb : ((x.den : Int) * (y.den : Int)).natAbs < 2 ^ 8000 := natAbs_mul_lt d1 d2
  have hr := ratio_ok (F := F) (k := k) (t := x.num * (y.den : Int) + y.num * (x.den : Int)) hs hu hb (Nat.lt_of_lt_of_le hb hF)
  have e : Rat.divInt (x.num * (y.den : Int) + y.num * (x.den : Int)) ((x.den : Int) * (y.den : Int)) = x + y := by
    rw [← Rat.divInt_add_divInt _ _ (den_ne x) (den_ne y), Rat.num_divInt_den, Rat.num_divInt_den]
  rw [ratD_eq hu, e] at hr
  refine (run_ret (v := fracD (x + y)) (st' := st) rfl ⟨rfl, by decide⟩ ?_).trans (cut_pl (fun k => by simp [fracD]) rfl hs rfl)
  have i0 : ∀ q : Rat, idxF (fracD q) (.int 0) st = some (.int q.num) := fun q => rfl
  have i1 : ∀ q : Rat, idxF (fracD q) (.int 1) st = some (.int (q.den : Int)) := fun q => rfl
  show evE (callF Tk F (k + 1)) [some (fracD x), some (fracD y)] _ st = _
  simp only [evE, evEs, List.getElem?_cons_zero, List.getElem?_cons_succ, i0, i1, m1, m2, m3, b1, hr]
/-- pairs of the numbers of two rows -/
abbrev zipV (u v : V3) : List Mi.D := [.tup [fracD u.a, fracD v.a], .tup [fracD u.b, fracD v.b], .tup [fracD u.c, fracD v.c]]
theorem evI_zip {c : CallT} {env : Mi.Env} {i j : Nat} {u v : V3} {st : Mi.Store} (h1 : env[i]? = some (some (tD u))) (h2 : env[j]? = some (some (tD v))) : evI c env (.zip (.var i) (.var j)) st = some (zipV u v, st) := by
  have z : zipD (tD u) (tD v) = some (zipV u v) := rfl
  simp only [evI, evE, h1, h2, z]
theorem zip3_mem {P : Mi.D → Prop} {u v : V3} (h : ∀ x y : Rat, (x = u.a ∧ y = v.a ∨ x = u.b ∧ y = v.b ∨ x = u.c ∧ y = v.c) → P (.tup [fracD x, fracD y])) : ∀ d ∈ zipV u v, P d := by
  intro d hd
  simp only [List.mem_cons, List.not_mem_nil, or_false] at hd
  rcases hd with rfl | rfl | rfl
  · exact h _ _ (.inl ⟨rfl, rfl⟩)
  · exact h _ _ (.inr (.inl ⟨rfl, rfl⟩))
  · exact h _ _ (.inr (.inr ⟨rfl, rfl⟩))
/-- what is told for a pair of numbers -/
def onPair (g : Rat → Rat → Mi.D) : Mi.D → Mi.D
  | .tup [x, y] => g (ratOf x) (ratOf y)
  | _ => .non
theorem onPair_eq (g : Rat → Rat → Mi.D) (x y : Rat) : onPair g (.tup [fracD x, fracD y]) = g x y := by
  simp only [onPair, ratOf_frac]
theorem lsum_ok {F k : Nat} {u v : V3} {st : Mi.Store} (hs : SW st) (hu : BV 4000 u) (hv : BV 4000 v) (hF : 2 ^ 8000 ≤ F) : callF Tk F (k + 3) 32 [tD u, tD v] st = some (tD (u.add v), st) := by
  rw [call_at (d := i__law_sum) rfl]
  refine (run_ret (v := tD (u.add v)) (st' := st) rfl ⟨rfl, by decide⟩ ?_).trans (cut_pl (fun k => by simp [tD, triD]) rfl hs rfl)
  have hz : (3 : Nat) ≤ sizeLine := by decide
  have e := comp_pure (c := callF Tk F (k + 2)) (env := [some (tD u), some (tD v), none, none]) (elt := .call 29 (.cons (.var 2) (.cons (.var 3) .nil))) (tg := .tp [2, 3]) (it := .zip (.var 0) (.var 1)) (own := [("_law_here", 2), ("_law_there", 3)]) (st := st) (xs := zipV u v) (g := onPair fun x y => fracD (x + y)) hs (evI_zip rfl rfl) rfl hz
    (zip3_mem fun x y hxy => by
      rw [onPair_eq]
      refine ⟨fun st' hs' => ?_, fun m => rfl⟩
      have h := plus_ok (F := F) (k := k) (x := x) (y := y) hs' (by rcases hxy with ⟨rfl, _⟩ | ⟨rfl, _⟩ | ⟨rfl, _⟩ <;> simp [hu.1, hu.2.1, hu.2.2]) (by rcases hxy with ⟨_, rfl⟩ | ⟨_, rfl⟩ | ⟨_, rfl⟩ <;> simp [hv.1, hv.2.1, hv.2.2]) hF
      simp [turnF, bindT, wipeE, evTo, evE, evEs, h])
  simp only [List.map_cons, List.map_nil, onPair_eq] at e
  have gen : ∀ C : IE, evE (callF Tk F (k + 2)) [some (tD u), some (tD v), none, none] C st = some (.lst [fracD (u.a + v.a), fracD (u.b + v.b), fracD (u.c + v.c)], st) → evE (callF Tk F (k + 2)) [some (tD u), some (tD v), none, none] (.bi .tuple (.cons C .nil)) st = some (tD (u.add v), st) := by
    intro C e'
    have b1 : biF .tuple [.lst [fracD (u.a + v.a), fracD (u.b + v.b), fracD (u.c + v.c)]] st = some (tD (u.add v)) := rfl
    simp [evE, evEs, e', b1]
  exact gen _ e
theorem lless_ok {F k : Nat} {x y : Rat} {st : Mi.Store} (hs : SW st) (hx : Bd 4000 x) (hy : Bd 4000 y) (hF : 2 ^ 8000 ≤ F) : callF Tk F (k + 2) 30 [fracD x, fracD y] st = some (fracD (x - y), st) := less_ok hs hx hy (by decide) hF
theorem lby_ok {F k : Nat} {x y : Rat} {st : Mi.Store} (hs : SW st) (hx : Bd 4000 x) (hy : Bd 4000 y) (hF : 2 ^ 8000 ≤ F) : callF Tk F (k + 2) 31 [fracD x, fracD y] st = some (fracD (x * y), st) := by_ok hs hx hy (by decide) hF
theorem lgap_ok {F k : Nat} {u v : V3} {st : Mi.Store} (hs : SW st) (hu : BV 4000 u) (hv : BV 4000 v) (hF : 2 ^ 8000 ≤ F) : callF Tk F (k + 3) 33 [tD u, tD v] st = some (tD (u.sub v), st) := by
  rw [call_at (d := i__law_gap) rfl]
  refine (run_ret (v := tD (u.sub v)) (st' := st) rfl ⟨rfl, by decide⟩ ?_).trans (cut_pl (fun k => by simp [tD, triD]) rfl hs rfl)
  have hz : (3 : Nat) ≤ sizeLine := by decide
  have e := comp_pure (c := callF Tk F (k + 2)) (env := [some (tD u), some (tD v), none, none]) (elt := .call 30 (.cons (.var 2) (.cons (.var 3) .nil))) (tg := .tp [2, 3]) (it := .zip (.var 0) (.var 1)) (own := [("_law_here", 2), ("_law_there", 3)]) (st := st) (xs := zipV u v) (g := onPair fun x y => fracD (x - y)) hs (evI_zip rfl rfl) rfl hz
    (zip3_mem fun x y hxy => by
      rw [onPair_eq]
      refine ⟨fun st' hs' => ?_, fun m => rfl⟩
      have h := lless_ok (F := F) (k := k) (x := x) (y := y) hs' (by rcases hxy with ⟨rfl, _⟩ | ⟨rfl, _⟩ | ⟨rfl, _⟩ <;> simp [hu.1, hu.2.1, hu.2.2]) (by rcases hxy with ⟨_, rfl⟩ | ⟨_, rfl⟩ | ⟨_, rfl⟩ <;> simp [hv.1, hv.2.1, hv.2.2]) hF
      simp [turnF, bindT, wipeE, evTo, evE, evEs, h])
  simp only [List.map_cons, List.map_nil, onPair_eq] at e
  have gen : ∀ C : IE, evE (callF Tk F (k + 2)) [some (tD u), some (tD v), none, none] C st = some (.lst [fracD (u.a - v.a), fracD (u.b - v.b), fracD (u.c - v.c)], st) → evE (callF Tk F (k + 2)) [some (tD u), some (tD v), none, none] (.bi .tuple (.cons C .nil)) st = some (tD (u.sub v), st) := by
    intro C e'
    have b1 : biF .tuple [.lst [fracD (u.a - v.a), fracD (u.b - v.b), fracD (u.c - v.c)]] st = some (tD (u.sub v)) := rfl
    simp [evE, evEs, e', b1]
  exact gen _ e
theorem ltimes_ok {F k : Nat} {u : V3} {q : Rat} {st : Mi.Store} (hs : SW st) (hu : BV 4000 u) (hq : Bd 4000 q) (hF : 2 ^ 8000 ≤ F) : callF Tk F (k + 3) 34 [tD u, fracD q] st = some (tD (u.smul q), st) := times_ok hs hu.1 hu.2.1 hu.2.2 hq (by decide) hF
theorem lcross_ok {F k : Nat} {u v : V3} {st : Mi.Store} (hs : SW st) (hu : BV 2000 u) (hv : BV 2000 v) (hF : 2 ^ 8000 ≤ F) : callF Tk F (k + 3) 36 [tD u, tD v] st = some (tD (u.cross v), st) := cross_ok hs hu.1 hu.2.1 hu.2.2 hv.1 hv.2.1 hv.2.2 (by decide) hF
theorem ldot_ok {F k : Nat} {u v : V3} {st : Mi.Store} {B : Nat} (hs : SW st) (hu : BV B u) (hv : BV B v) (hB : B ≤ 600) (hF : 2 ^ 8000 ≤ F) : callF Tk F (k + 3) 35 [tD u, tD v] st = some (fracD (u.dot v), st) := by
  have hz2 : (2 : Nat) ≤ sizeLine := by decide
  have a4 : ∀ {x : Rat}, Bd B x → Bd 4000 x := fun h => h.mono (by omega)
  have r1 := lby_ok (F := F) (k := k) hs (a4 hu.1) (a4 hv.1) hF
  have r2 := lby_ok (F := F) (k := k) hs (a4 hu.2.1) (a4 hv.2.1) hF
  have r3 := lby_ok (F := F) (k := k) hs (a4 hu.2.2) (a4 hv.2.2) hF
  have b1 := hu.1.mul2 hv.1
  have b2 := hu.2.1.mul2 hv.2.1
  have b3 := hu.2.2.mul2 hv.2.2
  have z0 : Bd 4000 (0 : Rat) := ⟨by decide +kernel, by decide +kernel⟩
  have p1 := plus_ok (F := F) (k := k) hs z0 (b1.mono (by omega)) hF
  rw [Rat.zero_add] at p1
  have p2 := plus_ok (F := F) (k := k) hs (b1.mono (by omega)) (b2.mono (by omega)) hF
  have p3 := plus_ok (F := F) (k := k) hs ((b1.add b2).mono (by omega)) (b3.mono (by omega)) hF
  have s1 : evS (callF Tk F (k + 2)) F (.asg 2 (.tup (.cons (.cst (.int 0)) (.cons (.cst (.int 1)) .nil)))) [some (tD u), some (tD v), none, none, none] st = some (.nxt [some (tD u), some (tD v), some (fracD 0), none, none] st) := by
    simp [evS, evE, evEs, hz2, frac0]
  have s2 : evS (callF Tk F (k + 2)) F (.forr (.tp [3, 4]) (.zip (.var 0) (.var 1)) (.cons (.asg 2 (.call 29 (.cons (.var 2) (.cons (.call 31 (.cons (.var 3) (.cons (.var 4) .nil))) .nil)))) .nil)) [some (tD u), some (tD v), some (fracD 0), none, none] st =
      some (.nxt [some (tD u), some (tD v), some (fracD (u.dot v)), some (fracD u.c), some (fracD v.c)] st) := by
    simp only [evS]
    rw [evI_zip (u := u) (v := v) rfl rfl]
    simp [loopF, bindT, evSs, evS, evE, evEs, r1, r2, r3, p1, p2, p3, V3.dot]
  have body : evSs (callF Tk F (k + 2)) F i__law_dot.body [some (tD u), some (tD v), none, none, none] st = some (.ret (fracD (u.dot v)) st) := by
    unfold i__law_dot
    rw [ss_nxt s1, ss_nxt s2]
    refine ss_ret ?_
    simp [evS, evE]
  exact (call_body (d := i__law_dot) rfl ⟨rfl, by decide⟩ body).trans (cut_pl (fun k => by simp [fracD]) rfl hs rfl)
theorem lnought_ok {F k : Nat} {st : Mi.Store} (hs : SW st) : callF Tk F (k + 1) 37 [] st = some (tD V3.zero, st) := nought_ok hs
theorem V3.eq_iff {u v : V3} : u = v ↔ u.a = v.a ∧ u.b = v.b ∧ u.c = v.c := by
  cases u; cases v; simp
instance : DecidableEq V3 := fun u v => decidable_of_iff _ V3.eq_iff.symm
theorem dEq_tD (u v : V3) : dEq (tD u) (tD v) = some (decide (u = v)) := by
  unfold tD
  rw [dEq_tri]
  exact congrArg some (decide_eq_decide.mpr V3.eq_iff.symm)
theorem eq_tD (u v : V3) : cop .eq (tD u) (tD v) = some (decide (u = v)) := cop_eq_of (dEq_tD u v)
theorem ne_tD (u v : V3) : cop .ne (tD u) (tD v) = some (!decide (u = v)) := by
  simp only [cop, dEq_tD, Option.map_some]
theorem eq_frac (x y : Rat) : cop .eq (fracD x) (fracD y) = some (decide (x = y)) := cop_eq_of (dEq_frac x y)
theorem lrow_ok {F k n : Nat} {r : Int} {st : Mi.Store} (hw : Well st n r) (hr : r + 20 < 2 ^ 40) (hF : 2 ^ 8000 ≤ F) :
    ∃ u st', callF Tk F (k + 5) 39 [.cell n] st = some (tD u, st') ∧ BV 8 u ∧ Well st' n (r + 10) ∧ Turned st n st' := by
  obtain ⟨a, b, c, st1, h1, ha, hb, hc, hw1, ht1⟩ := row_ok (F := F) (k := k) hw hr hF
  exact ⟨⟨a, b, c⟩, st1, h1, ⟨ha, hb, hc⟩, hw1, ht1⟩
theorem lwide_ok {F k n : Nat} {r : Int} {st : Mi.Store} (hw : Well st n r) (hr : r + 70 < 2 ^ 40) (hF : 2 ^ 8000 ≤ F) :
    ∃ u st', callF Tk F (k + 6) 40 [.cell n] st = some (tD u, st') ∧ BV 81 u ∧ Well st' n (r + 40) ∧ Turned st n st' := by
  obtain ⟨a, b, c, st1, h1, ha, hb, hc, hw1, ht1⟩ := wide_ok (F := F) (k := k) hw hr hF
  exact ⟨⟨a, b, c⟩, st1, h1, ⟨ha, hb, hc⟩, hw1, ht1⟩
/-! ### the program's own -/
theorem pratio_ok {F k : Nat} {t u : Int} {st : Mi.Store} (hs : SW st) (hu : u ≠ 0) (hb : u.natAbs < 2 ^ 8000) : callF Tk F (k + 1) 0 [.int t, .int u] st = some (fracD (Rat.divInt t u), st) := by
  obtain ⟨g1, g2⟩ := gcd_bound (t := t) hu hb
  obtain ⟨d1, d2⟩ := cutBy_dvd t u
  have s1 : evS (callF Tk F k) F (.asg 2 (.bi .gcd (.cons (.var 0) (.cons (.var 1) .nil)))) [some (.int t), some (.int u), none] st = some (.nxt [some (.int t), some (.int u), some (.int (Int.gcd t u : Nat))] st) := by
    simp [evS, evE, evEs, biF, Int.gcd]
  have cl : cop .lt (.int u) (.int 0) = some (decide (u < 0)) := rfl
  have s2 : evS (callF Tk F k) F (.ite (.cmp .lt (.var 1) (.cst (.int 0))) (.cons (.asg 2 (.neg (.var 2))) .nil) .nil) [some (.int t), some (.int u), some (.int (Int.gcd t u : Nat))] st = some (.nxt [some (.int t), some (.int u), some (.int (cutBy t u))] st) := by
    by_cases h : u < 0
    · have h' : ¬ u > 0 := by omega
      simp [evS, evT, evE, evSs, cl, h, cutBy, h']
    · have h' : u > 0 := by omega
      simp [evS, evT, evE, evSs, cl, h, cutBy, h']
  have s3 : evS (callF Tk F k) F (.ret (.tup (.cons (.bin .fdiv (.var 0) (.var 2)) (.cons (.bin .fdiv (.var 1) (.var 2)) .nil)))) [some (.int t), some (.int u), some (.int (cutBy t u))] st = some (.ret (ratD t u) st) := by
    have e1 := fdiv_ok (i := t) g1 g2
    have e2 := fdiv_ok (i := u) g1 g2
    rw [dvd_fdiv d1] at e1
    rw [dvd_fdiv d2] at e2
    have hz : (2 : Nat) ≤ sizeLine := by decide
    simp [evS, evE, evEs, e1, e2, ratD, hz]
  have body : evSs (callF Tk F k) F i_ratio.body [some (.int t), some (.int u), none] st = some (.ret (fracD (Rat.divInt t u)) st) := by
    rw [← ratD_eq hu]
    show evSs _ _ (.cons _ _) _ _ = _
    rw [ss_nxt s1, ss_nxt s2, ss_ret s3]
  exact (call_body (d := i_ratio) rfl ⟨rfl, by decide⟩ body).trans (cut_pl (fun k => by simp [fracD]) rfl hs rfl)
theorem psum_ok {F k : Nat} {x y : Rat} {st : Mi.Store} (hs : SW st) (hx : Bd 4000 x) (hy : Bd 4000 y) : callF Tk F (k + 2) 1 [fracD x, fracD y] st = some (fracD (x + y), st) := by
  rw [call_at (d := i_ratio_sum) rfl]
  have d1 : ((x.den : Int)).natAbs < 2 ^ 4000 := by simpa using hx.2
  have d2 : ((y.den : Int)).natAbs < 2 ^ 4000 := by simpa using hy.2
  have m1 : bop .mul (.int x.num) (.int (y.den : Int)) = some (.int (x.num * (y.den : Int))) := mul_ok (n := 4000) (m := 4000) (log_nat hx.1) (log_nat d2) (by omega)
  have m2 : bop .mul (.int y.num) (.int (x.den : Int)) = some (.int (y.num * (x.den : Int))) := mul_ok (n := 4000) (m := 4000) (log_nat hy.1) (log_nat d1) (by omega)
  have m3 : bop .mul (.int (x.den : Int)) (.int (y.den : Int)) = some (.int ((x.den : Int) * (y.den : Int))) := mul_ok (n := 4000) (m := 4000) (log_nat d1) (log_nat d2) (by omega)
  have b1 : ∀ i j : Int, bop .add (.int i) (.int j) = some (.int (i + j)) := fun _ _ => rfl
  have hu : (x.den : Int) * (y.den : Int) ≠ 0 := Int.mul_ne_zero (den_ne x) (den_ne y)
  have hr := pratio_ok (F := F) (k := k) (t := x.num * (y.den : Int) + y.num * (x.den : Int)) hs hu (natAbs_mul_lt d1 d2)
  have e : Rat.divInt (x.num * (y.den : Int) + y.num * (x.den : Int)) ((x.den : Int) * (y.den : Int)) = x + y := by
    rw [← Rat.divInt_add_divInt _ _ (den_ne x) (den_ne y), Rat.num_divInt_den, Rat.num_divInt_den]
  rw [e] at hr
  refine (run_ret (v := fracD (x + y)) (st' := st) rfl ⟨rfl, by decide⟩ ?_).trans (cut_pl (fun k => by simp [fracD]) rfl hs rfl)
  have i0 : ∀ q : Rat, idxF (fracD q) (.int 0) st = some (.int q.num) := fun q => rfl
  have i1 : ∀ q : Rat, idxF (fracD q) (.int 1) st = some (.int (q.den : Int)) := fun q => rfl
  show evE (callF Tk F (k + 1)) [some (fracD x), some (fracD y)] _ st = _
  simp only [evE, evEs, List.getElem?_cons_zero, List.getElem?_cons_succ, i0, i1, m1, m2, m3, b1, hr]
theorem pmul_ok {F k : Nat} {x y : Rat} {st : Mi.Store} (hs : SW st) (hx : Bd 4000 x) (hy : Bd 4000 y) : callF Tk F (k + 2) 2 [fracD x, fracD y] st = some (fracD (x * y), st) := by
  rw [call_at (d := i_ratio_product) rfl]
  have d1 : ((x.den : Int)).natAbs < 2 ^ 4000 := by simpa using hx.2
  have d2 : ((y.den : Int)).natAbs < 2 ^ 4000 := by simpa using hy.2
  have m1 : bop .mul (.int x.num) (.int y.num) = some (.int (x.num * y.num)) := mul_ok (n := 4000) (m := 4000) (log_nat hx.1) (log_nat hy.1) (by omega)
  have m3 : bop .mul (.int (x.den : Int)) (.int (y.den : Int)) = some (.int ((x.den : Int) * (y.den : Int))) := mul_ok (n := 4000) (m := 4000) (log_nat d1) (log_nat d2) (by omega)
  have hu : (x.den : Int) * (y.den : Int) ≠ 0 := Int.mul_ne_zero (den_ne x) (den_ne y)
  have hr := pratio_ok (F := F) (k := k) (t := x.num * y.num) hs hu (natAbs_mul_lt d1 d2)
  have e : Rat.divInt (x.num * y.num) ((x.den : Int) * (y.den : Int)) = x * y := by
    rw [← Rat.divInt_mul_divInt, Rat.num_divInt_den, Rat.num_divInt_den]
  rw [e] at hr
  refine (run_ret (v := fracD (x * y)) (st' := st) rfl ⟨rfl, by decide⟩ ?_).trans (cut_pl (fun k => by simp [fracD]) rfl hs rfl)
  have i0 : ∀ q : Rat, idxF (fracD q) (.int 0) st = some (.int q.num) := fun q => rfl
  have i1 : ∀ q : Rat, idxF (fracD q) (.int 1) st = some (.int (q.den : Int)) := fun q => rfl
  show evE (callF Tk F (k + 1)) [some (fracD x), some (fracD y)] _ st = _
  simp only [evE, evEs, List.getElem?_cons_zero, List.getElem?_cons_succ, i0, i1, m1, m3, hr]
theorem vsum_ok {F k : Nat} {u v : V3} {st : Mi.Store} (hs : SW st) (hu : BV 4000 u) (hv : BV 4000 v) : callF Tk F (k + 3) 6 [tD u, tD v] st = some (tD (u.add v), st) := by
  rw [call_at (d := i_vector_sum) rfl]
  refine (run_ret (v := tD (u.add v)) (st' := st) rfl ⟨rfl, by decide⟩ ?_).trans (cut_pl (fun k => by simp [tD, triD]) rfl hs rfl)
  have hz : (3 : Nat) ≤ sizeLine := by decide
  have e := gen_tup (c := callF Tk F (k + 2)) (env := [some (tD u), some (tD v), none, none]) (elt := .call 1 (.cons (.var 2) (.cons (.var 3) .nil))) (tg := .tp [2, 3]) (it := .zip (.var 0) (.var 1)) (own := [("a", 2), ("b", 3)]) (st := st) (xs := zipV u v) (g := onPair fun x y => fracD (x + y)) (evI_zip rfl rfl) rfl hz
    (zip3_mem fun x y hxy => by
      rw [onPair_eq]
      have h := psum_ok (F := F) (k := k) (x := x) (y := y) hs (by rcases hxy with ⟨rfl, _⟩ | ⟨rfl, _⟩ | ⟨rfl, _⟩ <;> simp [hu.1, hu.2.1, hu.2.2]) (by rcases hxy with ⟨_, rfl⟩ | ⟨_, rfl⟩ | ⟨_, rfl⟩ <;> simp [hv.1, hv.2.1, hv.2.2])
      simp [turnF, bindT, wipeE, evTo, evE, evEs, h])
  simp only [List.map_cons, List.map_nil, onPair_eq] at e
  exact e
theorem vtimes_ok {F k : Nat} {u : V3} {q : Rat} {st : Mi.Store} (hs : SW st) (hu : BV 4000 u) (hq : Bd 4000 q) : callF Tk F (k + 3) 7 [tD u, fracD q] st = some (tD (u.smul q), st) := by
  rw [call_at (d := i_vector_times) rfl]
  refine (run_ret (v := tD (u.smul q)) (st' := st) rfl ⟨rfl, by decide⟩ ?_).trans (cut_pl (fun k => by simp [tD, triD]) rfl hs rfl)
  have hz : (3 : Nat) ≤ sizeLine := by decide
  have e := gen_tup (c := callF Tk F (k + 2)) (env := [some (tD u), some (fracD q), none]) (elt := .call 2 (.cons (.var 2) (.cons (.var 1) .nil))) (tg := .nm 2) (it := .seq (.var 0)) (own := [("number", 2)]) (st := st) (xs := [fracD u.a, fracD u.b, fracD u.c]) (g := fun x => fracD (ratOf x * q)) rfl rfl hz
    (fun d hd => by
      have go : ∀ x : Rat, Bd 4000 x → turnF (callF Tk F (k + 2)) (wipeE [some (tD u), some (fracD q), none] [2]) (.nm 2) .none (.call 2 (.cons (.var 2) (.cons (.var 1) .nil))) (fracD x) st = some (some (fracD (ratOf (fracD x) * q)), st) := fun x hx => by
        rw [ratOf_frac]
        have h := pmul_ok (F := F) (k := k) hs hx hq
        simp [turnF, bindT, wipeE, evTo, evE, evEs, h]
      simp only [List.mem_cons, List.not_mem_nil, or_false] at hd
      rcases hd with rfl | rfl | rfl
      · exact go _ hu.1
      · exact go _ hu.2.1
      · exact go _ hu.2.2)
  simp only [List.map_cons, List.map_nil, ratOf_frac] at e
  exact e
/-- a row as whole numbers over a common one -/
abbrev upL (v : V3) : Nat := L3 v.a v.b v.c
abbrev upV (v : V3) : List Mi.D := [.int (upN (upL v) v.a), .int (upN (upL v) v.b), .int (upN (upL v) v.c)]
theorem vover_ok {F k : Nat} {u : V3} {st : Mi.Store} (hs : SW st) (hu : BV 2000 u) : callF Tk F (k + 1) 3 [tD u] st = some (.tup [.lst (upV u), .int (upL u : Nat)], st) := over_ok hs hu.1 hu.2.1 hu.2.2 (by decide)
theorem upL_lt {B : Nat} {u : V3} (hu : BV B u) : upL u < 2 ^ (4 * B) := by
  have p1 : (1 : Nat) < 2 ^ B := by
    have := hu.1.2
    have := u.a.den_pos
    omega
  rw [show 4 * B = B + B + B + B by omega]
  exact lcm_lt (lcm_lt (lcm_lt p1 hu.1.2 (by decide) u.a.den_pos) hu.2.1.2 (Nat.lcm_pos (by decide) u.a.den_pos) u.b.den_pos) hu.2.2.2 (Nat.lcm_pos (Nat.lcm_pos (by decide) u.a.den_pos) u.b.den_pos) u.c.den_pos
theorem up_eq (u : V3) : (upN (upL u) u.a : Rat) = (upL u : Rat) * u.a ∧ (upN (upL u) u.b : Rat) = (upL u : Rat) * u.b ∧ (upN (upL u) u.c : Rat) = (upL u : Rat) * u.c := by
  obtain ⟨d1, d2, d3⟩ := L3_dvd u.a u.b u.c
  exact ⟨upN_eq d1, upN_eq d2, upN_eq d3⟩
theorem up_lt {B : Nat} {u : V3} (hu : BV B u) : (upN (upL u) u.a).natAbs < 2 ^ (5 * B) ∧ (upN (upL u) u.b).natAbs < 2 ^ (5 * B) ∧ (upN (upL u) u.c).natAbs < 2 ^ (5 * B) := by
  rw [show 5 * B = B + 4 * B by omega]
  exact ⟨upN_lt (upL_lt hu) hu.1, upN_lt (upL_lt hu) hu.2.1, upN_lt (upL_lt hu) hu.2.2⟩
theorem upL_ne (u : V3) : ((upL u : Nat) : Rat) ≠ 0 := by
  intro h
  have h' : ((upL u : Int) : Rat) = ((0 : Int) : Rat) := h
  have := Rat.intCast_inj.mp h'
  have : 0 < upL u := L3_pos u.a u.b u.c
  omega
theorem up_mul {u v : V3} (hu : BV 1000 u) (hv : BV 1000 v) : bop .mul (.int (upL u : Nat)) (.int (upL v : Nat)) = some (.int ((upL u : Int) * (upL v : Int))) ∧ (upL u : Int) * (upL v : Int) ≠ 0 ∧ ((upL u : Int) * (upL v : Int)).natAbs < 2 ^ 8000 := by
  have h1 := upL_lt hu
  have h2 := upL_lt hv
  have p1 : 0 < upL u := L3_pos u.a u.b u.c
  have p2 : 0 < upL v := L3_pos v.a v.b v.c
  refine ⟨mul_ok (n := 4000) (m := 4000) (log_nat (by simpa using h1)) (log_nat (by simpa using h2)) (by decide), Int.mul_ne_zero (by omega) (by omega), ?_⟩
  exact natAbs_mul_lt (B := 4000) (by simpa using h1) (by simpa using h2)
theorem intsD3 (x y z : Int) : intsD [.int x, .int y, .int z] = some [x, y, z] := rfl
theorem gs_sum {f : Mi.D → Mi.Store → Option (Option Mi.D × Mi.Store)} {g : Mi.D → Mi.D} {st : Mi.Store} : ∀ xs : List Mi.D, (∀ x ∈ xs, f x st = some (some (g x), st)) → mapGs .sum f xs st = some (xs.map g, st)
  | [], _ => rfl
  | x :: xs, h => by
    have hx := h x List.mem_cons_self
    have ih := gs_sum xs fun y hy => h y (List.mem_cons_of_mem _ hy)
    simp [mapGs, hx, stopG, ih]
theorem gen_sum {c : CallT} {env : Mi.Env} {elt : IE} {tg : ITg} {it : II} {own : List (PySem.Str × Nat)} {st : Mi.Store} {xs : List Mi.D} {g : Mi.D → Mi.D} {l : List Int} (hi : evI c env it st = some (xs, st)) (ho : tgOwn tg (own.map (·.2)) = true) (hl : xs.length ≤ sizeLine)
    (h : ∀ x ∈ xs, turnF c (wipeE env (own.map (·.2))) tg .none elt x st = some (some (g x), st)) (hg : intsD (xs.map g) = some l) : evE c env (.gen .sum elt tg it .none own) st = some (.int l.sum, st) := by
  have h1 := gs_sum xs h
  show (match evI c env it st with
    | some (xs, st1) => if tgOwn tg (own.map fun p : PySem.Str × Nat => p.2) then (match mapGs .sum (turnF c (wipeE env (own.map fun p : PySem.Str × Nat => p.2)) tg .none elt) xs st1 with
      | some (ys, st2) => if ys.length ≤ sizeLine then (match gkF .sum ys with
        | some d => some (d, st2)
        | none => none) else none
      | none => none) else none
    | none => none) = _
  have hl2 : (xs.map g).length ≤ sizeLine := by rw [List.length_map]; exact hl
  have hk : gkF .sum (xs.map g) = some (.int l.sum) := by
    simp only [gkF, hg, Option.map_some]
  simp only [hi, ho, if_true, h1, hl2, hk]
theorem wcross_ok {F k : Nat} {x1 x2 x3 y1 y2 y3 : Int} {st : Mi.Store} (hs : SW st) (hx : x1.natAbs < 2 ^ 5000 ∧ x2.natAbs < 2 ^ 5000 ∧ x3.natAbs < 2 ^ 5000) (hy : y1.natAbs < 2 ^ 5000 ∧ y2.natAbs < 2 ^ 5000 ∧ y3.natAbs < 2 ^ 5000) :
    callF Tk F (k + 1) 8 [.lst [.int x1, .int x2, .int x3], .lst [.int y1, .int y2, .int y3]] st = some (.lst [.int (x2 * y3 - x3 * y2), .int (x3 * y1 - x1 * y3), .int (x1 * y2 - x2 * y1)], st) := by
  have mm : ∀ {x y : Int}, x.natAbs < 2 ^ 5000 → y.natAbs < 2 ^ 5000 → bop .mul (.int x) (.int y) = some (.int (x * y)) := fun hx hy => mul_ok (n := 5000) (m := 5000) (log_nat hx) (log_nat hy) (by decide)
  have b1 : ∀ i j : Int, bop .sub (.int i) (.int j) = some (.int (i - j)) := fun _ _ => rfl
  have c1 := mm hx.2.1 hy.2.2
  have c2 := mm hx.2.2 hy.2.1
  have c3 := mm hx.2.2 hy.1
  have c4 := mm hx.1 hy.2.2
  have c5 := mm hx.1 hy.2.1
  have c6 := mm hx.2.1 hy.1
  have hz : (3 : Nat) ≤ sizeLine := by decide
  have body : evSs (callF Tk F k) F i_whole_cross.body [some (.lst [.int x1, .int x2, .int x3]), some (.lst [.int y1, .int y2, .int y3]), none, none, none, none, none, none] st = some (.ret (.lst [.int (x2 * y3 - x3 * y2), .int (x3 * y1 - x1 * y3), .int (x1 * y2 - x2 * y1)]) st) := by
    simp [i_whole_cross, evSs, evS, evE, evEs, asgTs, c1, c2, c3, c4, c5, c6, b1, hz]
  exact (call_body (d := i_whole_cross) rfl ⟨rfl, by decide⟩ body).trans (cut_pl (fun k => by simp) rfl hs rfl)
theorem tri_ok {F k : Nat} {u : V3} {st : Mi.Store} (hs : SW st) : callF Tk F (k + 3) 11 [tD u] st = some (.bl true, st) := triple_ok hs
theorem chkt_ok {F k : Nat} {u : V3} {st : Mi.Store} (hs : SW st) : callF Tk F (k + 4) 12 [tD u] st = some (.non, st) := by
  have h1 := tri_ok (F := F) (k := k) (u := u) hs
  have body : evSs (callF Tk F (k + 3)) F i_check_triple.body [some (tD u)] st = some (.nxt [some (tD u)] st) := by
    simp [i_check_triple, evSs, evS, evT, evE, evEs, truth, h1]
  exact (call_bodyN (d := i_check_triple) rfl ⟨rfl, by decide⟩ body).trans (cut_pl (fun k => by simp) rfl hs rfl)
theorem idx_s0 (s : Sc) (st : Mi.Store) : idxF (sD s) (.int 0) st = some (tD s.l) := rfl
theorem idx_s1 (s : Sc) (st : Mi.Store) : idxF (sD s) (.int 1) st = some (tD s.m) := rfl
def Sc.add (s t : Sc) : Sc := ⟨s.l.add t.l, s.m.add t.m⟩
def Sc.smul (s : Sc) (q : Rat) : Sc := ⟨s.l.smul q, s.m.smul q⟩
def Sc.mom (s : Sc) (u : V3) : V3 := s.m.add (s.l.cross u)
theorem Sc.pow_comm (s t : Sc) : s.pow t = t.pow s := by
  unfold Sc.pow V3.dot
  grind
theorem pow_bd {B C : Nat} {s t : Sc} (h : BS B s) (h' : BS C t) : Bd (6 * (B + C) + 5) (s.pow t) := by
  have h1 := (h.1.dot h'.2).add (h.2.dot h'.1)
  exact h1.mono (by omega)
theorem mom_bd {B C : Nat} {s : Sc} {u : V3} (h : BS B s) (hu : BV C u) : BV (3 * B + 2 * C + 2) (s.mom u) := (h.2.add (h.1.cross hu)).mono (by omega)
/-! ### drawn screws -/
/-! ### what is shown -/
mutual
/-- at most so many signs -/
def tx : Mi.D → Nat
  | .non => 4
  | .bl _ => 5
  | .int _ => 1001
  | .tup xs => txs xs + 3
  | .lst xs => txs xs + 2
  | _ => 0
def txs : List Mi.D → Nat
  | [] => 0
  | x :: xs => tx x + 2 + txs xs
end
mutual
/-- whole numbers of a size that can be shown, in rows -/
def IShow : Mi.D → Prop
  | .non => True
  | .bl _ => True
  | .int i => i.natAbs < 2 ^ 1900
  | .tup xs => IShows xs
  | .lst xs => IShows xs
  | _ => False
def IShows : List Mi.D → Prop
  | [] => True
  | x :: xs => IShow x ∧ IShows xs
end
/-- what is promised of a text -/
structure ShP (d : Mi.D) : Prop where
  flat : flat0 d = true
  able : PyData.showable (pd d) = true
  len : (PyData.shown (pd d)).length ≤ tx d
  ok : PyData.strOk (PyData.shown (pd d)) = true
theorem len_of (s : String) : (Str.ofString s).length = s.toList.length := by rw [len_tl, tl_ofString, List.length_map]
theorem len_app (s t : PySem.Str) : (s ++ t).length = s.length + t.length := by rw [len_tl, tl_append, List.length_append, ← len_tl, ← len_tl]
theorem join_le : ∀ ts : List PySem.Str, (Str.join ", " ts).length ≤ (ts.map fun t => t.length + 2).sum
  | [] => by simp [Str.join, Str.empty, Str.length]
  | [x] => by simp [Str.join]
  | x :: y :: r => by
    have ih := join_le (y :: r)
    have e : (Str.join ", " (x :: y :: r)) = x ++ Str.ofString ", " ++ Str.join ", " (y :: r) := rfl
    rw [e, len_app, len_app, len_of, List.map_cons, List.sum_cons]
    simp only [show (", " : String).toList.length = 2 from rfl]
    omega
theorem join_okS : ∀ ts : List PySem.Str, (∀ t ∈ ts, PyData.strOk t = true) → PyData.strOk (Str.join ", " ts) = true
  | [], _ => by simp [ok_iff, Str.join, Str.empty]
  | [x], h => h x List.mem_cons_self
  | x :: y :: r, h => ok_app (ok_app (h x List.mem_cons_self) (ok_of _)) (join_okS (y :: r) fun t ht => h t (List.mem_cons_of_mem _ ht))
theorem from_le : ∀ (ts : List PySem.Str) (k : Nat) (acc : PySem.Str), (textFrom k acc ts).length ≤ acc.length + (ts.map fun t => t.length + 2).sum
  | [], k, acc => by simp [textFrom]
  | t :: ts, k, acc => by
    have ih := from_le ts (k + 1) (acc ++ (if k > 0 then ", " else "" : String) ++ t)
    have e : (Str.ofString (if k > 0 then ", " else "" : String)).length ≤ 2 := by
      rw [len_of]
      split <;> decide
    rw [len_app, len_app] at ih
    rw [List.map_cons, List.sum_cons]
    show (textFrom (k + 1) _ ts).length ≤ _
    omega
theorem from_okS : ∀ (ts : List PySem.Str) (k : Nat) (acc : PySem.Str), PyData.strOk acc = true → (∀ t ∈ ts, PyData.strOk t = true) → PyData.strOk (textFrom k acc ts) = true
  | [], k, acc, ha, _ => ha
  | t :: ts, k, acc, ha, h => from_okS ts (k + 1) _ (ok_app (ok_app ha (ok_of _)) (h t List.mem_cons_self)) fun u hu => h u (List.mem_cons_of_mem _ hu)
mutual
theorem show_p : ∀ {d : Mi.D}, IShow d → ShP d
  | .non, _ => ⟨rfl, rfl, by simp [pd, PyData.shown, tx, len_of], ok_of _⟩
  | .bl b, _ => ⟨rfl, rfl, by cases b <;> simp [pd, PyData.shown, tx, len_of], by cases b <;> exact ok_of _⟩
  | .int i, h => ⟨rfl, by
      have h1 := log_1920 h
      simp only [pd, PyData.showable, h1, decide_true], by
      have t : (2 : Nat) ^ 1900 ≤ 10 ^ 1000 := by decide +kernel
      have := intL_len (Nat.lt_of_lt_of_le h t)
      show (Str.ofString (toString i)).length ≤ 1001
      rw [len_tl]
      exact this, ok_of _⟩
  | .tup xs, h => by
    obtain ⟨h1, h2, h3, h4⟩ := show_ps (xs := xs) h
    refine ⟨h1, by simp only [pd, PyData.showable]; exact h2, ?_, ?_⟩
    · simp only [pd, PyData.shown, tupleText, tx]
      rw [len_app, len_app, len_of, len_of]
      have := join_le (PyData.shownAll (pds xs))
      have e1 : (if (PyData.shownAll (pds xs)).length == 1 then ",)" else ")" : String).toList.length ≤ 2 := by split <;> decide
      have e2 : ("(" : String).toList.length = 1 := rfl
      omega
    · simp only [pd, PyData.shown, tupleText]
      exact ok_app (ok_app (ok_of _) (join_okS _ h4)) (ok_of _)
  | .lst xs, h => by
    obtain ⟨h1, h2, h3, h4⟩ := show_ps (xs := xs) h
    refine ⟨h1, by simp only [pd, PyData.showable]; exact h2, ?_, ?_⟩
    · simp only [pd, PyData.shown, listText, tx]
      rw [len_app, len_of]
      have := from_le (PyData.shownAll (pds xs)) 0 "["
      have e2 : (Str.ofString "[").length = 1 := by rw [len_of]; rfl
      have e3 : ("]" : String).toList.length = 1 := rfl
      omega
    · simp only [pd, PyData.shown, listText]
      exact ok_app (from_okS _ _ _ (ok_of _) h4) (ok_of _)
  | .str _, h => absurd h (by simp [IShow])
  | .scr _, h => absurd h (by simp [IShow])
  | .cell _, h => absurd h (by simp [IShow])
  | .dct _ _, h => absurd h (by simp [IShow])
theorem show_ps : ∀ {xs : List Mi.D}, IShows xs → flat0s xs = true ∧ PyData.showableAll (pds xs) = true ∧ ((PyData.shownAll (pds xs)).map fun t => t.length + 2).sum ≤ txs xs ∧ ∀ t ∈ PyData.shownAll (pds xs), PyData.strOk t = true
  | [], _ => ⟨rfl, rfl, by simp [pds, PyData.shownAll, txs], by simp [pds, PyData.shownAll]⟩
  | x :: xs, h => by
    simp only [IShows] at h
    have p := show_p h.1
    obtain ⟨h1, h2, h3, h4⟩ := show_ps h.2
    refine ⟨by simp only [flat0s, p.flat, h1, Bool.and_self], by simp only [pds, PyData.showableAll, p.able, h2, Bool.and_self], ?_, ?_⟩
    · simp only [pds, PyData.shownAll, List.map_cons, List.sum_cons, txs]
      have := p.len
      omega
    · intro t ht
      simp only [pds, PyData.shownAll, List.mem_cons] at ht
      rcases ht with rfl | ht
      · exact p.ok
      · exact h4 t ht
end
/-- the text of what can be shown -/
def shS (d : Mi.D) : PySem.Str := PyData.shown (pd d)
theorem shS_ok {d : Mi.D} (h : IShow d) : PyData.strOk (shS d) = true := (show_p h).ok
theorem show_ok {d : Mi.D} {st : Mi.Store} (h : IShow d) (ht : tx d ≤ sizeLine) (hd : (pd d).depth ≤ 64) : biF .repr [d] st = some (.str (shS d)) := by
  have p := show_p h
  have hl : (PyData.shown (pd d)).length ≤ sizeLine := Nat.le_trans p.len ht
  have hok : showOk d = true := by simp only [showOk, p.flat, p.able, hl, hd, decide_true, Bool.and_self]
  show (if showOk _ = true then _ else none) = _
  rw [if_pos hok]
  rfl
theorem sh_eq {d : Mi.D} (h : IShow d) : cop .eq (.str (shS d)) (.str (shS d)) = some true := by
  refine cop_eq_of ?_
  rw [dEq_str (shS_ok h) (shS_ok h)]
  simp
theorem sh_ne {d : Mi.D} (h : IShow d) : cop .ne (.str (shS d)) (.str (shS d)) = some false := by
  simp [cop, dEq_str (shS_ok h) (shS_ok h)]
theorem IShow.frac {q : Rat} (h : Bd 1900 q) : IShow (fracD q) := by
  simp only [fracD, IShow, IShows, Int.natAbs_natCast]
  exact ⟨h.1, h.2, trivial⟩
theorem tx_frac (q : Rat) : tx (fracD q) = 2009 := rfl
theorem IShow.tri {u : V3} (h : BV 1900 u) : IShow (tD u) := by
  simp only [tD, triD, IShow, IShows]
  exact ⟨IShow.frac h.1, IShow.frac h.2.1, IShow.frac h.2.2, trivial⟩
theorem tx_tri (u : V3) : tx (tD u) = 6036 := rfl
theorem depth_frac (q : Rat) : (pd (fracD q)).depth = 1 := by simp [fracD, pd, pds, PyData.depth, PyData.depthAll]
theorem depth_tri (u : V3) : (pd (tD u)).depth = 2 := by simp [tD, triD, fracD, pd, pds, PyData.depth, PyData.depthAll]
theorem show_frac {q : Rat} {st : Mi.Store} (h : Bd 1900 q) : biF .repr [fracD q] st = some (.str (shS (fracD q))) :=
  show_ok (IShow.frac h) (by rw [tx_frac]; decide) (by rw [depth_frac]; decide)
theorem show_tD {u : V3} {st : Mi.Store} (h : BV 1900 u) : biF .repr [tD u] st = some (.str (shS (tD u))) :=
  show_ok (IShow.tri h) (by rw [tx_tri]; decide) (by rw [depth_tri]; decide)
theorem IShow.two {x y : Mi.D} (hx : IShow x) (hy : IShow y) : IShow (.lst [x, y]) := ⟨hx, hy, trivial⟩
theorem show_2 {x y : Mi.D} {st : Mi.Store} (hx : IShow x) (hy : IShow y) (tx' : tx x ≤ 1000000) (ty : tx y ≤ 1000000) (dx : (pd x).depth ≤ 60) (dy : (pd y).depth ≤ 60) : biF .repr [.lst [x, y]] st = some (.str (shS (.lst [x, y]))) := by
  refine show_ok (hx.two hy) ?_ ?_
  · simp only [tx, txs]
    have : sizeLine = 2 ^ 24 := rfl
    omega
  · simp only [pd, pds, PyData.depth, PyData.depthAll]
    omega
theorem IShow.scr {s : Sc} (h : BS 1900 s) : IShow (sD s) := by
  simp only [sD, IShow, IShows]
  exact ⟨IShow.tri h.1, IShow.tri h.2, trivial⟩
theorem tx_scr (s : Sc) : tx (sD s) = 12079 := rfl
theorem depth_scr (s : Sc) : (pd (sD s)).depth = 3 := by simp [sD, tD, triD, fracD, pd, pds, PyData.depth, PyData.depthAll]
/-- a comprehension whose source and element draw -/
theorem comp_draw2 {c : CallT} {env : Mi.Env} {elt : IE} {tg : ITg} {it : II} {own : List (PySem.Str × Nat)} {st st0 : Mi.Store} {xs : List Mi.D} {P : Mi.D → Prop} {n : Nat} {r R : Int} {s : Nat} (hw : Well st n r) (hi : evI c env it st0 = some (xs, st)) (ho : tgOwn tg (own.map (·.2)) = true) (hl : xs.length ≤ sizeLine)
    (hP : ∀ d, P d → ∀ m, fitD m d = true) (hr : r + s * xs.length < R)
    (hf : ∀ x st' r, Well st' n r → r + s < R → ∃ y st1, turnF c (wipeE env (own.map (·.2))) tg .none elt x st' = some (some y, st1) ∧ P y ∧ Well st1 n (r + s) ∧ Turned st' n st1) :
    ∃ ys st', evE c env (.comp elt tg it .none own) st0 = some (.lst ys, st') ∧ ys.length = xs.length ∧ (∀ y ∈ ys, P y) ∧ Well st' n (r + s * xs.length) ∧ (st' = st ∨ Turned st n st') := by
  obtain ⟨ys, st', m, hyl, hys, hw', ht⟩ := map_draw hP hf xs [] st r hw hr rfl (by simpa using hl)
  rw [List.nil_append] at m
  have hlen : st'.length = st.length := by
    rcases ht with rfl | ht
    · rfl
    · exact ht.len
  refine ⟨ys, st', ?_, hyl, hys, hw', ht⟩
  have e : (st' ++ [some ys])[st.length]? = some (some ys) := by rw [← hlen]; simp
  have hfit : fitDs st.length ys = true := fits_all fun d hd => hP d (hys d hd) _
  have hc : Mi.cutD st.length (.lst ys) (st' ++ [some ys]) = some (.lst ys, st') := by
    rw [← hlen] at hfit ⊢
    exact cut_more (fun k => by simp) hfit hw'.sw
  show (match evI c env it st0 with
    | some (xs, st1) => if tgOwn tg (own.map fun p : PySem.Str × Nat => p.2) then (match mapSt st1.length (turnF c (wipeE env (own.map fun p : PySem.Str × Nat => p.2)) tg .none elt) xs (st1 ++ [some []]) with
      | some st2 => (match st2[st1.length]? with
        | some (some ys) => Mi.cutD st1.length (.lst ys) st2
        | _ => none)
      | none => none) else none
    | none => none) = _
  simp only [hi, ho, if_true, m, e]
  exact hc
theorem Turned.or {st st1 st2 : Mi.Store} {n : Nat} (h : Turned st n st1) (h' : st2 = st1 ∨ Turned st1 n st2) : Turned st n st2 := by
  rcases h' with rfl | h'
  · exact h
  · exact h.trans h'
theorem sq_nn (a : Rat) : 0 ≤ a * a := by
  rcases Rat.le_total (a := 0) (b := a) with h | h
  · exact Rat.mul_nonneg h h
  · have := Rat.mul_nonneg (a := -a) (b := -a) (by grind) (by grind)
    grind
theorem dot_pos {u : V3} (h : u ≠ V3.zero) : 0 < u.dot u := by
  have h' : ¬ (u.a = 0 ∧ u.b = 0 ∧ u.c = 0) := fun e => h (V3.eq_iff.mpr e)
  have h1 := sq_nn u.a
  have h2 := sq_nn u.b
  have h3 := sq_nn u.c
  have g : ∀ x : Rat, x * x = 0 → x = 0 := fun x h => by
    rcases Rat.mul_eq_zero.mp h with h | h <;> exact h
  have ga := g u.a
  have gb := g u.b
  have gc := g u.c
  unfold V3.dot
  grind
theorem dot_ne {u : V3} (h : u ≠ V3.zero) : u.dot u ≠ 0 := by
  have := dot_pos h
  grind
theorem num_ne {q : Rat} (h : q ≠ 0) : q.num ≠ 0 := fun e => h (num_zero.mp e)
theorem num_pos' {q : Rat} (h : 0 < q) : 0 < q.num := by
  have h1 : 0 ≤ q.num := Rat.num_nonneg.mpr (Rat.le_of_lt h)
  have h2 : q.num ≠ 0 := num_ne (by grind)
  omega
theorem Bd.inv {B : Nat} {q : Rat} (h : Bd B q) (h0 : q ≠ 0) : Bd B q⁻¹ := by
  have hn := num_ne h0
  obtain ⟨h1, h2⟩ := divInt_bd (t := (q.den : Int)) hn
  rw [Rat.inv_def]
  have e : ((q.den : Int)).natAbs = q.den := Int.natAbs_natCast _
  have b1 := h.1
  have b2 := h.2
  exact ⟨by omega, by omega⟩
theorem Bd.div {B C : Nat} {x y : Rat} (hx : Bd B x) (hy : Bd C y) (h0 : y ≠ 0) : Bd (B + C) (x / y) := by
  rw [Rat.div_def]
  exact hx.mul2 (hy.inv h0)
theorem inv_frac {q : Rat} (h : 0 < q) : fracD q⁻¹ = .tup [.int (q.den : Int), .int q.num] := by
  have hn := num_pos' h
  have hg : Int.gcd (q.den : Int) q.num = 1 := by
    have := q.reduced
    rw [Int.gcd_comm]
    show Nat.gcd q.num.natAbs ((q.den : Int)).natAbs = 1
    rw [Int.natAbs_natCast]
    exact this
  have hc : cutBy (q.den : Int) q.num = 1 := by
    unfold cutBy
    rw [if_pos hn, hg]
    rfl
  rw [Rat.inv_def, ← ratD_eq (by omega)]
  unfold ratD
  rw [hc, Int.ediv_one, Int.ediv_one]
theorem frac_m1 : fracD (-1) = .tup [.int (-1), .int 1] := rfl
theorem Bd.one : ∀ {B : Nat}, 1 < B → Bd B (-1 : Rat) := fun {B} h => by
  have : 2 ^ 1 < 2 ^ B := Nat.pow_lt_pow_right (by decide) h
  exact ⟨show 1 < 2 ^ B by omega, show 1 < 2 ^ B by omega⟩
/-- a screw about a point along a direction with a pitch -/
def Sc.about (p d : V3) (h : Rat) : Sc := ⟨d, (p.cross d).add (d.smul h)⟩
theorem about_bd {B C D : Nat} {p d : V3} {h : Rat} (hp : BV B p) (hd : BV C d) (hh : Bd D h) : BS (2 * (B + C) + 1 + (C + D) + 1) (Sc.about p d h) :=
  ⟨hd.mono (by omega), (hp.cross hd).add (hd.smul hh)⟩
/-- where an axis is nearest to the origin -/
def Sc.foot (s : Sc) : V3 := (s.l.cross s.m).smul (s.l.dot s.l)⁻¹
theorem foot_bd {B C : Nat} {s : Sc} (h1 : BV B s.l) (h2 : BV C s.m) (h0 : s.l ≠ V3.zero) : BV (2 * (B + C) + 1 + (3 * (B + B) + 2)) s.foot := (h1.cross h2).smul ((h1.dot h1).inv (dot_ne h0))
/-- the square of the distance of two axes -/
def apart (s t : Sc) : Rat :=
  if s.l.cross t.l = V3.zero then (((t.foot.sub s.foot).cross s.l).dot ((t.foot.sub s.foot).cross s.l)) / s.l.dot s.l
  else (t.foot.sub s.foot).dot (s.l.cross t.l) * (t.foot.sub s.foot).dot (s.l.cross t.l) / (s.l.cross t.l).dot (s.l.cross t.l)
/-! ### sums of axes -/
theorem about_pitch (p d : V3) (h : Rat) (h0 : d ≠ V3.zero) : d.dot ((p.cross d).add (d.smul h)) / d.dot d = h := by
  have := dot_ne h0
  unfold V3.dot V3.add V3.smul V3.cross at *
  grind
/-- a foot is the point less so many times the direction -/
theorem about_foot (p d : V3) (h : Rat) (h0 : d ≠ V3.zero) : (Sc.about p d h).foot = p.sub (d.smul (d.dot p / d.dot d)) := by
  have := dot_ne h0
  unfold Sc.about Sc.foot V3.dot V3.add V3.smul V3.cross V3.sub at *
  simp only [V3.mk.injEq]
  exact ⟨by grind, by grind, by grind⟩
end K06

set_option Elab.async false
set_option linter.all false
set_option maxRecDepth 100000
set_option maxHeartbeats 4000000
namespace K06
open PySem PySem.Spec PyProof.Rows L2 Mi TL
/-! ### any values -/
mutual
/-- values without cells, whose whole numbers and rows are not too great -/
def Gd (B L : Nat) : Mi.D → Prop
  | .non => True
  | .bl _ => True
  | .int i => i.natAbs < 2 ^ B
  | .str _ => True
  | .tup xs => xs.length ≤ L ∧ Gds B L xs
  | .lst xs => xs.length ≤ L ∧ Gds B L xs
  | .dct _ vs => Gds B L vs
  | _ => False
def Gds (B L : Nat) : List Mi.D → Prop
  | [] => True
  | x :: xs => Gd B L x ∧ Gds B L xs
end
theorem gds_iff {B L : Nat} : ∀ {xs : List Mi.D}, Gds B L xs ↔ ∀ x ∈ xs, Gd B L x
  | [] => by simp [Gds]
  | x :: xs => by simp [Gds, gds_iff (xs := xs)]
mutual
theorem Gd.fit {B L : Nat} : ∀ {d : Mi.D}, Gd B L d → ∀ m, fitD m d = true
  | .non, _, _ => rfl
  | .bl _, _, _ => rfl
  | .int _, _, _ => rfl
  | .str _, _, _ => rfl
  | .tup xs, h, m => by simp only [Gd] at h; simp only [fitD]; exact Gds.fit h.2 m
  | .lst xs, h, m => by simp only [Gd] at h; simp only [fitD]; exact Gds.fit h.2 m
  | .dct _ vs, h, m => by simp only [Gd] at h; simp only [fitD]; exact Gds.fit h m
  | .scr _, h, _ => absurd h (by simp [Gd])
  | .cell _, h, _ => absurd h (by simp [Gd])
theorem Gds.fit {B L : Nat} : ∀ {ds : List Mi.D}, Gds B L ds → ∀ m, fitDs m ds = true
  | [], _, _ => rfl
  | d :: ds, h, m => by
    simp only [Gds] at h
    simp only [fitDs, Gd.fit h.1 m, Gds.fit h.2 m, Bool.and_self]
end
mutual
theorem Gd.mono {B L B' L' : Nat} (hB : B ≤ B') (hL : L ≤ L') : ∀ {d : Mi.D}, Gd B L d → Gd B' L' d
  | .non, _ => trivial
  | .bl _, _ => trivial
  | .int i, h => by simp only [Gd] at h ⊢; exact Nat.lt_of_lt_of_le h (Nat.pow_le_pow_right (by decide) hB)
  | .str _, _ => trivial
  | .tup xs, h => by simp only [Gd] at h ⊢; exact ⟨by omega, Gds.mono hB hL h.2⟩
  | .lst xs, h => by simp only [Gd] at h ⊢; exact ⟨by omega, Gds.mono hB hL h.2⟩
  | .dct _ vs, h => by simp only [Gd] at h ⊢; exact Gds.mono hB hL h
  | .scr _, h => absurd h (by simp [Gd])
  | .cell _, h => absurd h (by simp [Gd])
theorem Gds.mono {B L B' L' : Nat} (hB : B ≤ B') (hL : L ≤ L') : ∀ {ds : List Mi.D}, Gds B L ds → Gds B' L' ds
  | [], _ => trivial
  | d :: ds, h => by
    simp only [Gds] at h ⊢
    exact ⟨Gd.mono hB hL h.1, Gds.mono hB hL h.2⟩
end
theorem Gd.nocell {B L : Nat} {d : Mi.D} (h : Gd B L d) : ∀ k, d ≠ .cell k := fun k e => by subst e; simp [Gd] at h
mutual
/-- how deep rows stand in rows -/
def dpt : Mi.D → Nat
  | .tup xs => dpts xs + 1
  | _ => 0
def dpts : List Mi.D → Nat
  | [] => 0
  | x :: xs => max (dpt x) (dpts xs)
end
theorem dpt_mem {n : Nat} : ∀ {xs : List Mi.D}, dpts xs ≤ n ↔ ∀ x ∈ xs, dpt x ≤ n
  | [] => by simp [dpts]
  | x :: xs => by
    simp only [dpts, List.forall_mem_cons]
    rw [← dpt_mem (xs := xs)]
    omega
theorem Gd.frac {q : Rat} {B L : Nat} (h : Bd B q) (hL : 2 ≤ L) : Gd B L (fracD q) := by
  simp only [fracD, Gd, Gds, Int.natAbs_natCast]
  exact ⟨by simpa using hL, h.1, h.2, trivial⟩
theorem Gd.tri {u : V3} {B L : Nat} (h : BV B u) (hL : 3 ≤ L) : Gd B L (tD u) := by
  simp only [tD, triD, Gd, Gds]
  exact ⟨by simpa using hL, Gd.frac h.1 (by omega), Gd.frac h.2.1 (by omega), Gd.frac h.2.2 (by omega), trivial⟩
/-- a pick of a list -/
theorem pickl_ok {F k n : Nat} {r : Int} {xs : List Mi.D} {st : Mi.Store} (hw : Well st n r) (hr : r < 2 ^ 40) (h0 : xs ≠ []) (h1 : xs.length < 1000000) (hx : ∀ x ∈ xs, (∀ k, x ≠ .cell k) ∧ ∀ m, fitD m x = true) :
    ∃ x st', callF Tk F (k + 2) 25 [.cell n, .lst xs] st = some (x, st') ∧ x ∈ xs ∧ Well st' n (r + 1) ∧ Turned st n st' := by
  have hlen : 0 < xs.length := List.length_pos_iff.mpr h0
  obtain ⟨v, st', hd, v0, v1, hw', ht⟩ := draw_ok (F := F) (k := k) hw (m := (xs.length : Int)) (by omega) (by omega) hr
  have hv : v.toNat < xs.length := by omega
  refine ⟨xs[v.toNat], st', ?_, List.getElem_mem hv, hw', ht⟩
  have l1 : biF .len [.lst xs] st = some (.int xs.length) := rfl
  have ix : idxF (.lst xs) (.int v) st' = some xs[v.toNat] := by
    have h2 : v < (xs.length : Int) := v1
    simp [idxF, itemsD, L2.atI, L2.ixN, v0, h2, hv]
  rw [call_at (d := i__law_pick) rfl]
  refine (run_ret (v := xs[v.toNat]) (st' := st') rfl ⟨rfl, by decide⟩ ?_).trans (cut_pl (hx _ (List.getElem_mem hv)).1 ((hx _ (List.getElem_mem hv)).2 _) hw'.sw ht.len)
  show evE (callF Tk F (k + 1)) [some (.cell n), some (.lst xs)] _ st = _
  simp only [evE, evEs, List.getElem?_cons_zero, List.getElem?_cons_succ, l1, hd, ix]
theorem bool_dec {b : Bool} {p : Prop} [Decidable p] (h : b = true ↔ p) : b = decide p := by
  cases b <;> simp_all
/-- whole numbers -/
def isW : Mi.D → Bool
  | .int _ => true
  | _ => false
/-- fractions -/
def isFr : Mi.D → Bool
  | .tup [.int a, .int b] => decide (0 < b) && decide (Int.gcd a b = 1)
  | _ => false
def isTr : Mi.D → Bool
  | .tup [x, y, z] => isFr x && isFr y && isFr z
  | _ => false
theorem isFr_frac (q : Rat) : isFr (fracD q) = true := by
  have h1 := q.den_pos
  have h2 : Int.gcd q.num (q.den : Int) = 1 := by
    show Nat.gcd q.num.natAbs ((q.den : Int)).natAbs = 1
    rw [Int.natAbs_natCast]
    exact q.reduced
  simp [isFr, fracD, h2, h1]
theorem isFr_ex {x : Mi.D} (h : isFr x = true) : ∃ q : Rat, x = fracD q := by
  unfold isFr at h
  split at h
  · rename_i a b
    simp only [Bool.and_eq_true, decide_eq_true_eq] at h
    obtain ⟨h1, h2⟩ := h
    refine ⟨⟨a, b.toNat, by omega, ?_⟩, ?_⟩
    · show Nat.gcd a.natAbs b.toNat = 1
      have : b.toNat = b.natAbs := by omega
      rw [this]
      exact h2
    · show _ = Mi.D.tup [.int a, .int ((b.toNat : Nat) : Int)]
      rw [Int.toNat_of_nonneg (by omega)]
  · cases h
theorem isTr_ex {x : Mi.D} (h : isTr x = true) : ∃ u : V3, x = tD u := by
  unfold isTr at h
  split at h
  · rename_i a b c
    simp only [Bool.and_eq_true] at h
    obtain ⟨p, rfl⟩ := isFr_ex h.1.1
    obtain ⟨q, rfl⟩ := isFr_ex h.1.2
    obtain ⟨r, rfl⟩ := isFr_ex h.2
    exact ⟨⟨p, q, r⟩, rfl⟩
  · cases h
theorem isTr_tri (u : V3) : isTr (tD u) = true := by
  simp [isTr, tD, triD, isFr_frac]
theorem whole_any {F k B L : Nat} {d : Mi.D} {st : Mi.Store} (hs : SW st) (h : Gd B L d) : callF Tk F (k + 1) 9 [d] st = some (.bl (isW d), st) := by
  rw [call_at (d := i_is_whole) rfl]
  refine (run_ret (v := .bl (isW d)) (st' := st) rfl ⟨rfl, by decide⟩ ?_).trans (cut_pl (fun k => by simp) rfl hs rfl)
  show evE (callF Tk F k) [some d] _ st = _
  cases d
  case scr => simp [Gd] at h
  case cell => simp [Gd] at h
  all_goals rfl
theorem lwhole_any {F k B L : Nat} {d : Mi.D} {st : Mi.Store} (hs : SW st) (h : Gd B L d) : callF Tk F (k + 1) 44 [d] st = some (.bl (isW d), st) := by
  rw [call_at (d := i__law_is_whole) rfl]
  refine (run_ret (v := .bl (isW d)) (st' := st) rfl ⟨rfl, by decide⟩ ?_).trans (cut_pl (fun k => by simp) rfl hs rfl)
  show evE (callF Tk F k) [some d] _ st = _
  cases d
  case scr => simp [Gd] at h
  case cell => simp [Gd] at h
  all_goals rfl
theorem tup_or (d : Mi.D) : (∃ xs, d = .tup xs) ∨ ∀ xs, d ≠ .tup xs := by
  cases d
  case tup xs => exact .inl ⟨xs, rfl⟩
  all_goals exact .inr (fun xs h => by cases h)
theorem not_tup {B L : Nat} {d : Mi.D} (h : Gd B L d) (hn : ∀ xs, d ≠ .tup xs) : isiF d .tuple = some false := by
  cases d
  case tup => exact absurd rfl (hn _)
  case scr => simp [Gd] at h
  case cell => simp [Gd] at h
  all_goals rfl
theorem isFr_not {d : Mi.D} (hn : ∀ xs, d ≠ .tup xs) : isFr d = false := by
  cases d
  case tup => exact absurd rfl (hn _)
  all_goals rfl
theorem isTr_not {d : Mi.D} (hn : ∀ xs, d ≠ .tup xs) : isTr d = false := by
  cases d
  case tup => exact absurd rfl (hn _)
  all_goals rfl
theorem isFr_len {xs : List Mi.D} (h : xs.length ≠ 2) : isFr (.tup xs) = false := by
  unfold isFr
  split
  · rename_i a b e
    cases e
    exact absurd rfl h
  · rfl
theorem isTr_len {xs : List Mi.D} (h : xs.length ≠ 3) : isTr (.tup xs) = false := by
  unfold isTr
  split
  · rename_i a b c e
    cases e
    exact absurd rfl h
  · rfl
theorem isFr_two (x y : Mi.D) : isFr (.tup [x, y]) = (isW x && isW y && (match x, y with
    | .int a, .int b => decide (0 < b) && decide (Int.gcd a b = 1)
    | _, _ => false)) := by
  cases x <;> cases y <;> rfl
theorem isfr_any {F k B L : Nat} {d : Mi.D} {st : Mi.Store} (hs : SW st) (h : Gd B L d) : callF Tk F (k + 2) 10 [d] st = some (.bl (isFr d), st) := by
  have main : ∀ b, evSs (callF Tk F (k + 1)) F i_is_fraction.body [some d, none, none] st = some (.ret (.bl b) st) → callF Tk F (k + 2) 10 [d] st = some (.bl b, st) := fun b body =>
    (call_body (d := i_is_fraction) rfl ⟨rfl, by decide⟩ body).trans (cut_pl (fun k => by simp) rfl hs rfl)
  refine main _ ?_
  unfold i_is_fraction
  rcases tup_or d with ⟨xs, rfl⟩ | hn
  · have n1 : isiF (.tup xs) .tuple = some true := rfl
    have n2 : biF .len [.tup xs] st = some (.int xs.length) := rfl
    have n3 : cop .ne (.int xs.length) (.int 2) = some (!decide (xs.length = 2)) := by
      rw [ne_int]
      congr 2
      exact decide_eq_decide.mpr (by omega)
    by_cases h2 : xs.length = 2
    · match xs, h2 with
      | [x, y], hh =>
        clear hh
        simp only [Gd, Gds] at h
        have n2' : biF .len [.tup [x, y]] st = some (.int 2) := rfl
        have n3' : cop .ne (.int 2) (.int 2) = some false := by rw [ne_int]; rfl
        have w1 := whole_any (F := F) (k := k) hs h.2.1
        have w2 := whole_any (F := F) (k := k) hs h.2.2.1
        refine (ss_nxt (env' := [some (.tup [x, y]), none, none]) (st' := st) (by simp only [evS, evT, evE, evEs, evSs, truth, List.getElem?_cons_zero, n1, n2', n3', Bool.not_true])).trans ?_
        refine (ss_nxt (env' := [some (.tup [x, y]), some x, some y]) (st' := st) rfl).trans ?_
        refine ss_ret ?_
        rw [isFr_two]
        cases x <;> (try simp [evS, evE, evEs, w1, isW]; done)
        cases y <;> (try simp [evS, evE, evEs, w1, w2, isW]; done)
        rename_i a b
        have g1 : cop .gt (.int b) (.int 0) = some (decide (0 < b)) := rfl
        have g2 : biF .gcd [.int a, .int b] st = some (.int (Int.gcd a b : Nat)) := rfl
        have g3 : cop .eq (.int (Int.gcd a b : Nat)) (.int 1) = some (decide (Int.gcd a b = 1)) := by
          rw [eq_int]
          congr 1
          exact decide_eq_decide.mpr (by omega)
        by_cases hb : 0 < b
        · simp [evS, evE, evEs, w1, w2, isW, g1, g2, g3, hb]
        · simp [evS, evE, evEs, w1, w2, isW, g1, hb]
    · rw [isFr_len h2]
      refine ss_ret ?_
      simp [evS, evT, evE, evEs, evSs, truth, n1, n2, n3, h2]
  · rw [isFr_not hn]
    have n1 := not_tup h hn
    refine ss_ret ?_
    simp [evS, evT, evE, evEs, evSs, truth, n1]
theorem comp_pureG {c : CallT} {env : Mi.Env} {elt : IE} {tg : ITg} {it : II} {own : List (PySem.Str × Nat)} {st : Mi.Store} {xs : List Mi.D} {p : Mi.D → Bool} (hs : SW st) (hi : evI c env it st = some (xs, st)) (ho : tgOwn tg (own.map (·.2)) = true) (hl : xs.length ≤ sizeLine)
    (h : ∀ x ∈ xs, ∀ st', SW st' → turnF c (wipeE env (own.map (·.2))) tg .none elt x st' = some (some (.bl (p x)), st')) : evE c env (.comp elt tg it .none own) st = some (.lst (xs.map fun x => .bl (p x)), st) :=
  comp_pure hs hi ho hl fun x hx => ⟨h x hx, fun m => rfl⟩
theorem inn_bools (p : Mi.D → Bool) (xs : List Mi.D) : cop .inn (.bl false) (.lst (xs.map fun x => .bl (p x))) = some (!xs.all p) ∧ cop .nin (.bl false) (.lst (xs.map fun x => .bl (p x))) = some (xs.all p) := by
  have h : dIn (.bl false) (xs.map fun x => .bl (p x)) = some (!xs.all p) := by
    have f : ((xs.map fun x => Mi.D.bl (p x)).all flatD) = true := by
      induction xs with
      | nil => rfl
      | cons x xs ih => simp [flatD, ih]
    unfold dIn
    rw [if_pos (by simp [flatD, f])]
    congr 1
    clear f
    have e : ((xs.map fun x => Mi.D.bl (p x)).map toV) = xs.map fun x => V.bl (p x) := by
      rw [List.map_map]
      rfl
    rw [e]
    show inV (V.bl false) _ = _
    induction xs with
    | nil => rfl
    | cons x xs ih =>
      have ih' : (xs.map fun x => V.bl (p x)).any (fun y => eqV y (V.bl false)) = !xs.all p := ih (by
        rw [List.map_map]
        rfl)
      show ((V.bl (p x)) :: xs.map fun x => V.bl (p x)).any (fun y => eqV y (V.bl false)) = _
      rw [List.any_cons, ih', List.all_cons]
      cases p x <;> simp [eqV]
  constructor
  · exact h
  · simp only [cop, h, Option.map_some, Bool.not_not]
/-! ### what the law tells of any values -/
theorem dEq_2i (a b c d : Int) : dEq (.tup [.int a, .int b]) (.tup [.int c, .int d]) = some (decide (a = c ∧ b = d)) := by
  have s : ∀ a b : Int, SeqAt.shaped (pd (.tup [.int a, .int b])) = true := fun a b => rfl
  have f : ∀ a b : Int, flat0 (.tup [.int a, .int b]) = true := fun a b => rfl
  have e : PyData.eqv (pd (.tup [.int a, .int b])) (pd (.tup [.int c, .int d])) = decide (a = c ∧ b = d) := by
    rw [Bool.eq_iff_iff]
    show PyData.eqv (.tuple [.int a, .int b]) (.tuple [.int c, .int d]) = true ↔ _
    simp [PyData.eqv, PyData.eqvAll]
  simp only [dEq, f, s, Bool.true_and, if_true, e]
theorem lisr_any {F k B L : Nat} {d : Mi.D} {st : Mi.Store} (hs : SW st) (h : Gd B L d) (hB : B ≤ 4000) (hF : 2 ^ 8000 ≤ F) : callF Tk F (k + 2) 45 [d] st = some (.bl (isFr d), st) := by
  have main : ∀ b, evSs (callF Tk F (k + 1)) F i__law_is_ratio.body [some d, none] st = some (.ret (.bl b) st) → callF Tk F (k + 2) 45 [d] st = some (.bl b, st) := fun b body =>
    (call_body (d := i__law_is_ratio) rfl ⟨rfl, by decide⟩ body).trans (cut_pl (fun k => by simp) rfl hs rfl)
  refine main _ ?_
  unfold i__law_is_ratio
  have genf : ∀ C : IE, (∀ c : IE, True) → evT (callF Tk F (k + 1)) [some d, none] (.not (.val (.isi (.var 0) .tuple))) st = some (true, st) → evS (callF Tk F (k + 1)) F (.ite (.or (.not (.val (.isi (.var 0) .tuple))) (.or (.cmp .ne (.bi .len (.cons (.var 0) .nil)) (.cst (.int 2))) (.one (.cmp .inn (.cst (.bl false)) C)))) (.cons (.ret (.cst (.bl false))) .nil) .nil) [some d, none] st = some (.ret (.bl false) st) := by
    intro C _ e
    simp only [evS, evT] at e ⊢
    simp only [e]
    simp [evSs, evS, evE]
  rcases tup_or d with ⟨xs, rfl⟩ | hn
  · have n1 : isiF (.tup xs) .tuple = some true := rfl
    have n2 : biF .len [.tup xs] st = some (.int xs.length) := rfl
    have n3 : cop .ne (.int xs.length) (.int 2) = some (!decide (xs.length = 2)) := by
      rw [ne_int]
      congr 2
      exact decide_eq_decide.mpr (by omega)
    by_cases h2 : xs.length = 2
    · match xs, h2 with
      | [x, y], hh =>
        clear hh
        simp only [Gd, Gds] at h
        have hz2 : (2 : Nat) ≤ sizeLine := by decide
        have wc := comp_pureG (c := callF Tk F (k + 1)) (env := [some (.tup [x, y]), none]) (elt := .call 44 (.cons (.var 1) .nil)) (tg := .nm 1) (it := .seq (.var 0)) (own := [("_law_each", 1)]) (st := st) (xs := [x, y]) (p := isW) hs rfl rfl hz2 (fun z hz st' hs' => by
          have hg : Gd B L z := by
            simp only [List.mem_cons, List.not_mem_nil, or_false] at hz
            rcases hz with rfl | rfl
            · exact h.2.1
            · exact h.2.2.1
          simp [turnF, bindT, wipeE, evTo, evE, evEs, lwhole_any (F := F) (k := k) hs' hg])
        have ib := (inn_bools isW [x, y]).1
        rw [isFr_two]
        have gen : ∀ C : IE, evE (callF Tk F (k + 1)) [some (.tup [x, y]), none] C st = some (.lst ([x, y].map fun x => .bl (isW x)), st) →
            evT (callF Tk F (k + 1)) [some (.tup [x, y]), none] (.or (.not (.val (.isi (.var 0) .tuple))) (.or (.cmp .ne (.bi .len (.cons (.var 0) .nil)) (.cst (.int 2))) (.one (.cmp .inn (.cst (.bl false)) C)))) st = some (![x, y].all isW, st) := by
          intro C e'
          have n3' : cop .ne (.int 2) (.int 2) = some false := by rw [ne_int]; rfl
          have n2' : biF .len [.tup [x, y]] st = some (.int 2) := rfl
          simp only [evT, evE, evEs, List.getElem?_cons_zero, n1, n2', n3', truth, e', ib, Bool.not_true]
        have t1 := gen _ wc
        by_cases hw : isW x = true ∧ isW y = true
        · cases x <;> (try (simp [isW] at hw; done))
          cases y <;> (try (simp [isW] at hw; done))
          rename_i a b
          refine (ss_nxt (env' := [some (.tup [.int a, .int b]), none]) (st' := st) ?_).trans ?_
          · simp only [evS, t1]
            simp [isW, evSs]
          refine ss_ret ?_
          have g1 : cop .gt (.int b) (.int 0) = some (decide (0 < b)) := rfl
          have i0 : idxF (.tup [.int a, .int b]) (.int 0) st = some (.int a) := rfl
          have i1 : idxF (.tup [.int a, .int b]) (.int 1) st = some (.int b) := rfl
          by_cases hb : 0 < b
          · have hlt : b.natAbs < 2 ^ 8000 := by
              have := h.2.2.1
              simp only [Gd] at this
              exact Nat.lt_of_lt_of_le this (Nat.pow_le_pow_right (by decide) (by omega))
            have rr := ratio_ok (F := F) (k := k) (t := a) (u := b) hs (by omega) hlt (Nat.lt_of_lt_of_le hlt hF)
            have ce : cop .eq (ratD a b) (.tup [.int a, .int b]) = some (decide (Int.gcd a b = 1)) := by
              refine cop_eq_of ?_
              unfold ratD
              rw [dEq_2i]
              congr 1
              refine decide_eq_decide.mpr ?_
              have hc : cutBy a b = (Int.gcd a b : Int) := if_pos hb
              rw [hc]
              have hg : Int.gcd a b ≠ 0 := fun e => by
                have := (Int.gcd_eq_zero_iff.mp e).2
                omega
              constructor
              · rintro ⟨_, e⟩
                have d2 : (Int.gcd a b : Int) ∣ b := Int.gcd_dvd_right a b
                have e2 := Int.mul_ediv_cancel' d2
                rw [e] at e2
                have e3 : ((Int.gcd a b : Int) - 1) * b = 0 := by
                  rw [Int.sub_mul, e2]; omega
                rcases Int.mul_eq_zero.mp e3 with e4 | e4 <;> omega
              · intro e
                rw [e]
                simp
            simp [evS, evE, evEs, i0, i1, g1, hb, rr, ce, isW]
          · simp [evS, evE, evEs, i1, g1, hb, isW]
        · have hf : (isW x && isW y) = false := by
            cases hx : isW x <;> cases hy : isW y <;> simp_all
          refine ss_ret ?_
          simp only [evS, t1]
          simp [hf, evSs, evS, evE]
    · rw [isFr_len h2]
      refine ss_ret ?_
      have gen : ∀ C : IE, evS (callF Tk F (k + 1)) F (.ite (.or (.not (.val (.isi (.var 0) .tuple))) (.or (.cmp .ne (.bi .len (.cons (.var 0) .nil)) (.cst (.int 2))) (.one (.cmp .inn (.cst (.bl false)) C)))) (.cons (.ret (.cst (.bl false))) .nil) .nil) [some (.tup xs), none] st = some (.ret (.bl false) st) := by
        intro C
        simp [evS, evT, evE, evEs, evSs, truth, n1, n2, n3, h2]
      exact gen _
  · rw [isFr_not hn]
    have n1 := not_tup h hn
    refine ss_ret ?_
    exact genf _ (fun _ => trivial) (by simp [evT, evE, n1, truth])
theorem istr_any {F k B L : Nat} {d : Mi.D} {st : Mi.Store} (hs : SW st) (h : Gd B L d) : callF Tk F (k + 3) 11 [d] st = some (.bl (isTr d), st) := by
  have main : ∀ b, evE (callF Tk F (k + 2)) [some d, none] (.andv (.isi (.var 0) .tuple) (.andv (.cmp .eq (.bi .len (.cons (.var 0) .nil)) (.cst (.int 3))) (.one (.gen .all (.call 10 (.cons (.var 1) .nil)) (.nm 1) (.seq (.var 0)) .none [("part", 1)])))) st = some (.bl b, st) → callF Tk F (k + 3) 11 [d] st = some (.bl b, st) := fun b he => by
    rw [call_at (d := i_is_triple) rfl]
    exact (run_ret (v := .bl b) (st' := st) rfl ⟨rfl, by decide⟩ he).trans (cut_pl (fun k => by simp) rfl hs rfl)
  refine main _ ?_
  rcases tup_or d with ⟨xs, rfl⟩ | hn
  · have n1 : isiF (.tup xs) .tuple = some true := rfl
    have n2 : biF .len [.tup xs] st = some (.int xs.length) := rfl
    have n3 : cop .eq (.int xs.length) (.int 3) = some (decide (xs.length = 3)) := by
      rw [eq_int]
      congr 1
      exact decide_eq_decide.mpr (by omega)
    by_cases h3 : xs.length = 3
    · match xs, h3 with
      | [x, y, z], _ =>
        simp only [Gd, Gds] at h
        have hz3 : (3 : Nat) ≤ sizeLine := by decide
        have e := gen_all (c := callF Tk F (k + 2)) (env := [some (.tup [x, y, z]), none]) (elt := .call 10 (.cons (.var 1) .nil)) (tg := .nm 1) (it := .seq (.var 0)) (own := [("part", 1)]) (st := st) (xs := [x, y, z]) (p := isFr) rfl rfl hz3 (fun w hw => by
          have hg : Gd B L w := by
            simp only [List.mem_cons, List.not_mem_nil, or_false] at hw
            rcases hw with rfl | rfl | rfl
            · exact h.2.1
            · exact h.2.2.1
            · exact h.2.2.2.1
          simp [turnF, bindT, wipeE, evTo, evE, evEs, isfr_any (F := F) (k := k) hs hg])
        have e3 : [x, y, z].all isFr = isTr (.tup [x, y, z]) := by simp [isTr, Bool.and_assoc]
        rw [e3] at e
        have gen : ∀ C : IE, evE (callF Tk F (k + 2)) [some (.tup [x, y, z]), none] C st = some (.bl (isTr (.tup [x, y, z])), st) → evE (callF Tk F (k + 2)) [some (.tup [x, y, z]), none] (.andv (.isi (.var 0) .tuple) (.andv (.cmp .eq (.bi .len (.cons (.var 0) .nil)) (.cst (.int 3))) (.one C))) st = some (.bl (isTr (.tup [x, y, z])), st) := by
          intro C e'
          have n2' : biF .len [.tup [x, y, z]] st = some (.int 3) := rfl
          have n3' : cop .eq (.int 3) (.int 3) = some true := by rw [eq_int]; rfl
          simp [evE, evEs, n1, n2', n3', e']
        exact gen _ e
    · rw [isTr_len h3]
      have gen : ∀ C : IE, evE (callF Tk F (k + 2)) [some (.tup xs), none] (.andv (.isi (.var 0) .tuple) (.andv (.cmp .eq (.bi .len (.cons (.var 0) .nil)) (.cst (.int 3))) (.one C))) st = some (.bl false, st) := by
        intro C
        simp [evE, evEs, n1, n2, n3, h3]
      exact gen _
  · rw [isTr_not hn]
    have n1 := not_tup h hn
    have gen : ∀ C : IE, evE (callF Tk F (k + 2)) [some d, none] (.andv (.isi (.var 0) .tuple) C) st = some (.bl false, st) := by
      intro C
      simp [evE, n1]
    exact gen _
theorem lare_any {F k B L : Nat} {d : Mi.D} {st : Mi.Store} (hs : SW st) (h : Gd B L d) (hB : B ≤ 4000) (hF : 2 ^ 8000 ≤ F) : callF Tk F (k + 3) 46 [d, .int 3] st = some (.bl (isTr d), st) := by
  have main : ∀ b, evE (callF Tk F (k + 2)) [some d, some (.int 3), none] (.andv (.isi (.var 0) .tuple) (.andv (.cmp .eq (.bi .len (.cons (.var 0) .nil)) (.var 1)) (.one (.cmp .nin (.cst (.bl false)) (.comp (.call 45 (.cons (.var 2) .nil)) (.nm 2) (.seq (.var 0)) .none [("_law_each", 2)]))))) st = some (.bl b, st) → callF Tk F (k + 3) 46 [d, .int 3] st = some (.bl b, st) := fun b he => by
    rw [call_at (d := i__law_are_ratios) rfl]
    exact (run_ret (v := .bl b) (st' := st) rfl ⟨rfl, by decide⟩ he).trans (cut_pl (fun k => by simp) rfl hs rfl)
  refine main _ ?_
  rcases tup_or d with ⟨xs, rfl⟩ | hn
  · have n1 : isiF (.tup xs) .tuple = some true := rfl
    have n2 : biF .len [.tup xs] st = some (.int xs.length) := rfl
    have n3 : cop .eq (.int xs.length) (.int 3) = some (decide (xs.length = 3)) := by
      rw [eq_int]
      congr 1
      exact decide_eq_decide.mpr (by omega)
    by_cases h3 : xs.length = 3
    · match xs, h3 with
      | [x, y, z], _ =>
        simp only [Gd, Gds] at h
        have hz3 : (3 : Nat) ≤ sizeLine := by decide
        have e := comp_pureG (c := callF Tk F (k + 2)) (env := [some (.tup [x, y, z]), some (.int 3), none]) (elt := .call 45 (.cons (.var 2) .nil)) (tg := .nm 2) (it := .seq (.var 0)) (own := [("_law_each", 2)]) (st := st) (xs := [x, y, z]) (p := isFr) hs rfl rfl hz3 (fun w hw st' hs' => by
          have hg : Gd B L w := by
            simp only [List.mem_cons, List.not_mem_nil, or_false] at hw
            rcases hw with rfl | rfl | rfl
            · exact h.2.1
            · exact h.2.2.1
            · exact h.2.2.2.1
          simp [turnF, bindT, wipeE, evTo, evE, evEs, lisr_any (F := F) (k := k) hs' hg hB hF])
        have e3 : [x, y, z].all isFr = isTr (.tup [x, y, z]) := by simp [isTr, Bool.and_assoc]
        have ib := (inn_bools isFr [x, y, z]).2
        rw [e3] at ib
        have gen : ∀ C : IE, evE (callF Tk F (k + 2)) [some (.tup [x, y, z]), some (.int 3), none] C st = some (.lst ([x, y, z].map fun x => .bl (isFr x)), st) → evE (callF Tk F (k + 2)) [some (.tup [x, y, z]), some (.int 3), none] (.andv (.isi (.var 0) .tuple) (.andv (.cmp .eq (.bi .len (.cons (.var 0) .nil)) (.var 1)) (.one (.cmp .nin (.cst (.bl false)) C)))) st = some (.bl (isTr (.tup [x, y, z])), st) := by
          intro C e'
          have n2' : biF .len [.tup [x, y, z]] st = some (.int 3) := rfl
          have n3' : cop .eq (.int 3) (.int 3) = some true := by rw [eq_int]; rfl
          simp only [evE, evEs, List.getElem?_cons_zero, List.getElem?_cons_succ, n1, n2', n3', e', ib]
        exact gen _ e
    · rw [isTr_len h3]
      have gen : ∀ C : IE, evE (callF Tk F (k + 2)) [some (.tup xs), some (.int 3), none] (.andv (.isi (.var 0) .tuple) (.andv (.cmp .eq (.bi .len (.cons (.var 0) .nil)) (.var 1)) (.one C))) st = some (.bl false, st) := by
        intro C
        simp [evE, evEs, n1, n2, n3, h3]
      exact gen _
  · rw [isTr_not hn]
    have n1 := not_tup h hn
    have gen : ∀ C : IE, evE (callF Tk F (k + 2)) [some d, some (.int 3), none] (.andv (.isi (.var 0) .tuple) C) st = some (.bl false, st) := by
      intro C
      simp [evE, n1]
    exact gen _
/-- directions -/
noncomputable def isHd (d : Mi.D) : Bool := @decide (∃ u : V3, d = tD u ∧ u ≠ V3.zero) (Classical.propDecidable _)
theorem tD_inj {u v : V3} (h : tD u = tD v) : u = v := by
  have e1 := eq_tD u v
  have e2 := eq_tD v v
  rw [h] at e1
  rw [e1] at e2
  simpa using e2
theorem isHd_tri (u : V3) : isHd (tD u) = !decide (u = V3.zero) := by
  unfold isHd
  rw [Bool.eq_iff_iff]
  simp only [decide_eq_true_eq, Bool.not_eq_true', decide_eq_false_iff_not]
  constructor
  · rintro ⟨v, h1, h2⟩
    rw [tD_inj h1]
    exact h2
  · intro h
    exact ⟨u, rfl, h⟩
theorem isHd_not {d : Mi.D} (h : isTr d = false) : isHd d = false := by
  unfold isHd
  simp only [decide_eq_false_iff_not]
  rintro ⟨u, rfl, _⟩
  rw [isTr_tri] at h
  cases h
/-! ### odd values, bent values -/
def oddR1 : List Mi.D := [.non, .bl true, .bl false, .int 0, .int 1, .int (-1), .int 7, .int 10000000000000000000000000, .str "", .str "x", .str "1/2", .tup [], .tup [.int 1], .tup [.int 1, .int 2], .tup [.int 2, .int 4], .tup [.int 0, .int 1], .tup [.int 0, .int 5], .tup [.int 1, .int 0]]
def oddR2 : List Mi.D := [.tup [.int 1, .int (-2)], .tup [.bl true, .int 1], .tup [.int 1, .bl true], .lst [.int 1, .int 2], .lst [], .dct [] [], .dct [.inr "a"] [.int 1], .tup [.int 1, .int 2, .int 3], .tup [.int 1, .int 0, .int 0, .int 0], .tup [.int 2, .int 0, .int 0, .int 2]]
def oddR3 : List Mi.D := [.tup [.int 0, .int (-1), .int 0, .int 0], .tup [.int 0, .int 0, .int 0, .int 0], .tup [.tup [.int 1, .int 1], .tup [.int 0, .int 1], .tup [.int 0, .int 1]], .tup [.tup [.int 0, .int 1], .tup [.int 0, .int 1], .tup [.int 0, .int 1]], .tup [.tup [.int 1, .int 1], .tup [.int 0, .int 1]]]
def oddR4 : List Mi.D := [.lst [.tup [.int 1, .int 1], .tup [.int 0, .int 1], .tup [.int 0, .int 1]], .tup [.tup [.int 1, .int 1], .tup [.int 2, .int 2], .tup [.int 0, .int 1]], .tup [.tup [.int 1, .int 0, .int 0, .int 1], .tup [.tup [.int 0, .int 1], .tup [.int 1, .int 2], .tup [.int 0, .int 1]]]]
def oddR5 : List Mi.D := [.tup [.tup [.tup [.int 0, .int 1], .tup [.int 0, .int 1], .tup [.int 1, .int 1]], .tup [.tup [.int 0, .int 1], .tup [.int 3, .int 1], .tup [.int 0, .int 1]]], .tup [.non, .non], .tup [.tup [.int 1, .int 1], .tup [.int 0, .int 1], .non]]
def oddL : List Mi.D := oddR1 ++ oddR2 ++ oddR3 ++ oddR4 ++ oddR5
theorem odd_gd : Gds 100 10 oddL := by
  have h25 : (10000000000000000000000000 : Int).natAbs < 2 ^ 100 := by decide
  simp [oddL, oddR1, oddR2, oddR3, oddR4, oddR5, Gds, Gd]
theorem odd_dpt : dpts oddL ≤ 4 := by decide +kernel
theorem odd_ok {F k n : Nat} {r : Int} {st : Mi.Store} (hw : Well st n r) (hr : r < 2 ^ 40) :
    ∃ x st', callF Tk F (k + 3) 49 [.cell n] st = some (x, st') ∧ Gd 100 10 x ∧ dpt x ≤ 4 ∧ Well st' n (r + 1) ∧ Turned st n st' := by
  obtain ⟨x, st', h1, hx, hw', ht⟩ := pickl_ok (F := F) (k := k) (xs := oddL) hw hr (by decide) (by decide +kernel) (fun x hx => ⟨(gds_iff.mp odd_gd x hx).nocell, (gds_iff.mp odd_gd x hx).fit⟩)
  have hg := gds_iff.mp odd_gd x hx
  refine ⟨x, st', ?_, hg, dpt_mem.mp odd_dpt x hx, hw', ht⟩
  have body : evSs (callF Tk F (k + 2)) F i__law_odd.body [some (.cell n), none] st = some (.ret x st') := by
    unfold i__law_odd
    refine (ss_nxt (env' := [some (.cell n), some (.lst oddR1)]) (st' := st) rfl).trans ?_
    refine (ss_nxt (env' := [some (.cell n), some (.lst (oddR1 ++ oddR2))]) (st' := st) rfl).trans ?_
    refine (ss_nxt (env' := [some (.cell n), some (.lst (oddR1 ++ oddR2 ++ oddR3))]) (st' := st) rfl).trans ?_
    refine (ss_nxt (env' := [some (.cell n), some (.lst (oddR1 ++ oddR2 ++ oddR3 ++ oddR4))]) (st' := st) rfl).trans ?_
    refine (ss_nxt (env' := [some (.cell n), some (.lst oddL)]) (st' := st) rfl).trans ?_
    refine ss_ret ?_
    simp [evS, evE, evEs, h1]
  exact (call_body (d := i__law_odd) rfl ⟨rfl, by decide⟩ body).trans (cut_pl hg.nocell (hg.fit _) hw'.sw ht.len)
theorem slc_lo {xs : List Mi.D} {a : Nat} (h : a ≤ xs.length) : slcF (.tup xs) none (some (.int (a : Nat))) = some (.tup (xs.take a)) := by
  simp only [slcF, optI, HT.sIx_none, HT.sIx_nat, List.drop_zero, Nat.sub_zero, Nat.min_eq_left h]
theorem slc_hi {xs : List Mi.D} {a : Nat} (h : a ≤ xs.length) : slcF (.tup xs) (some (.int (a : Nat))) none = some (.tup (xs.drop a)) := by
  simp only [slcF, optI, HT.sIx_none, HT.sIx_nat, Nat.min_eq_left h]
  rw [List.take_of_length_le (by rw [List.length_drop]; omega)]
theorem add_tup {a b : List Mi.D} (h : a.length + b.length ≤ sizeLine) : bop .add (.tup a) (.tup b) = some (.tup (a ++ b)) := by
  show (if a.isEmpty then _ else if _ then _ else _) = _
  by_cases h0 : a = []
  · subst h0
    rfl
  · have : a.isEmpty = false := by cases a <;> simp_all
    rw [this]
    simp [h]
theorem eq_unit (xs : List Mi.D) : cop .eq (.tup xs) (.tup []) = some xs.isEmpty := by
  cases h : dEq (.tup xs) (.tup []) with
  | none => simp only [cop, h]; rfl
  | some b =>
    rw [cop_eq_of h]
    unfold dEq at h
    split at h
    · cases h
      congr 1
      cases xs with
      | nil => simp [pd, pds, PyData.eqv, PyData.eqvAll]
      | cons x xs => simp [pd, pds, PyData.eqv, PyData.eqvAll]
    · cases h
/-- the choices for a whole number -/
abbrev seven (i : Int) : List Mi.D := [.int (i + 1), .int (0 - i), .int (2 * i), .bl (decide (i = 1)), .str (toString i : String), .tup [.int i, .int 1], .non]
theorem gds_take {B L : Nat} {xs : List Mi.D} (h : Gds B L xs) (n : Nat) : Gds B L (xs.take n) := gds_iff.mpr fun x hx => gds_iff.mp h x (List.mem_of_mem_take hx)
theorem gds_drop {B L : Nat} {xs : List Mi.D} (h : Gds B L xs) (n : Nat) : Gds B L (xs.drop n) := gds_iff.mpr fun x hx => gds_iff.mp h x (List.mem_of_mem_drop hx)
theorem gds_app {B L : Nat} {xs ys : List Mi.D} (h : Gds B L xs) (h' : Gds B L ys) : Gds B L (xs ++ ys) := gds_iff.mpr fun x hx => by
  rcases List.mem_append.mp hx with hx | hx
  · exact gds_iff.mp h x hx
  · exact gds_iff.mp h' x hx
theorem dpts_sub {n : Nat} {xs ys : List Mi.D} (h : dpts xs ≤ n) (hs : ∀ y ∈ ys, y ∈ xs) : dpts ys ≤ n := dpt_mem.mpr fun y hy => dpt_mem.mp h y (hs y hy)
theorem dpts_app {n : Nat} {xs ys : List Mi.D} (h : dpts xs ≤ n) (h' : dpts ys ≤ n) : dpts (xs ++ ys) ≤ n := dpt_mem.mpr fun y hy => by
  rcases List.mem_append.mp hy with hy | hy
  · exact dpt_mem.mp h y hy
  · exact dpt_mem.mp h' y hy
/-- a row, with one put in its place -/
theorem put_gd {B L N : Nat} {xs : List Mi.D} {a b : Nat} {v : Mi.D} (h : xs.length ≤ L ∧ Gds B L xs) (hd : dpts xs ≤ N) (hv : Gd (B + 1) (L + 1) v) (hdv : dpt v ≤ N + 4) (hl : (xs.take a ++ [v] ++ xs.drop b).length ≤ L + 1) :
    Gd (B + 1) (L + 1) (.tup (xs.take a ++ [v] ++ xs.drop b)) ∧ dpt (.tup (xs.take a ++ [v] ++ xs.drop b)) ≤ N + 1 + 4 := by
  have h2 := Gds.mono (B' := B + 1) (L' := L + 1) (by omega) (by omega) h.2
  refine ⟨?_, ?_⟩
  · simp only [Gd]
    exact ⟨hl, gds_app (gds_app (gds_take h2 a) ⟨hv, trivial⟩) (gds_drop h2 b)⟩
  · simp only [dpt]
    have e := dpts_app (dpts_app (dpts_sub (ys := xs.take a) (Nat.le_trans hd (Nat.le_add_right N 4)) fun y hy => List.mem_of_mem_take hy) (dpt_mem.mpr fun y hy => by rw [List.mem_singleton.mp hy]; exact hdv : dpts [v] ≤ N + 4)) (dpts_sub (ys := xs.drop b) (Nat.le_trans hd (Nat.le_add_right N 4)) fun y hy => List.mem_of_mem_drop hy)
    omega
/-- one bending, where what stands within can be bent -/
theorem bent_step {F k n B L N : Nat} (hB : 100 ≤ B) (hB2 : B ≤ 1000) (hL : 10 ≤ L) (hL2 : L ≤ 100)
    (ih : ∀ xs : List Mi.D, dpt (.tup xs) ≤ N → ∀ x ∈ xs, ∀ (st : Mi.Store) (r : Int), Gd B L x → Well st n r → r + 10 * N < 2 ^ 40 → ∃ v st', callF Tk F (k + N + 5) 50 [.cell n, x] st = some (v, st') ∧ Gd (B + 1) (L + 1) v ∧ dpt v ≤ N - 1 + 4 ∧ Well st' n (r + 5 * N) ∧ Turned st n st')
    (d : Mi.D) (st : Mi.Store) (r : Int) (hd : dpt d ≤ N) (hg : Gd B L d) (hw : Well st n r) (hr : r + 10 * (N + 1) < 2 ^ 40) :
    ∃ v st', callF Tk F (k + N + 6) 50 [.cell n, d] st = some (v, st') ∧ Gd (B + 1) (L + 1) v ∧ dpt v ≤ N + 4 ∧ Well st' n (r + 5 * (N + 1)) ∧ Turned st n st' := by
  have hs := hw.sw
  have wh := lwhole_any (F := F) (k := k + N + 4) hs hg
  have main : ∀ (v : Mi.D) (st' : Mi.Store), Gd (B + 1) (L + 1) v → Well st' n (r + 5 * (N + 1)) → Turned st n st' → evSs (callF Tk F (k + N + 5)) F i__law_bent.body [some (.cell n), some d, none, none] st = some (.ret v st') → callF Tk F (k + N + 6) 50 [.cell n, d] st = some (v, st') := fun v st' hv hW hT body =>
    (call_body (d := i__law_bent) rfl ⟨rfl, by decide⟩ body).trans (cut_pl hv.nocell (hv.fit _) hW.sw hT.len)
  cases hW : isW d with
  | true =>
    cases d
    case int i =>
      simp only [Gd] at hg
      have m2 : bop .mul (.int 2) (.int i) = some (.int (2 * i)) := mul_ok (n := 10) (m := 1000) (log_small (by decide) (by decide)) (log_nat (Nat.lt_of_lt_of_le hg (Nat.pow_le_pow_right (by decide) hB2))) (by decide)
      have e2 : 2 ^ (B + 1) = 2 ^ B * 2 := Nat.pow_succ 2 B
      have p0 : 2 ≤ 2 ^ B := by
        have := Nat.pow_le_pow_right (n := 2) (by decide) (show 1 ≤ B by omega)
        simpa using this
      have sev : Gds (B + 1) (L + 1) (seven i) := by
        simp only [seven, Gds, Gd, List.length_cons, List.length_nil]
        exact ⟨by omega, by omega, by omega, trivial, trivial, ⟨by omega, by omega, by simpa using (by omega : 1 < 2 ^ (B + 1)), trivial⟩, trivial, trivial⟩
      obtain ⟨v, st', h1, hv, hw', ht⟩ := pick_ok (F := F) (k := k + N + 3) hw (xs := seven i) (by omega) (by simp) (by simp) (fun x hx => ⟨(gds_iff.mp sev x hx).nocell, (gds_iff.mp sev x hx).fit⟩)
      have hd4 : dpt v ≤ N + 4 := by
        have : dpts (seven i) ≤ 1 := by simp [dpts, dpt]
        have := dpt_mem.mp this v hv
        omega
      refine ⟨v, st', main v st' (gds_iff.mp sev v hv) (hw'.mono (by omega)) ht ?_, gds_iff.mp sev v hv, hd4, hw'.mono (by omega), ht⟩
      have bs : biF .str [.int i] st = some (.str (toString i : String)) := by
        have h1 : i.natAbs.log2 < 1920 := by
          have := log_nat hg
          omega
        simp only [biF]
        rw [if_pos h1]
      have a1 : bop .add (.int i) (.int 1) = some (.int (i + 1)) := rfl
      have a2 : bop .sub (.int 0) (.int i) = some (.int (0 - i)) := rfl
      have c1 := eq_int i 1
      have hz7 : (7 : Nat) ≤ sizeLine := by decide
      have hz2 : (2 : Nat) ≤ sizeLine := by decide
      unfold i__law_bent
      refine ss_ret ?_
      simp only [seven] at h1
      simp only [evS, evT, evE, evEs, evSs, List.getElem?_cons_zero, List.getElem?_cons_succ, wh, isW, truth, a1, a2, m2, c1, bs, List.length_cons, List.length_nil, Nat.zero_add, Nat.reduceAdd, hz2, hz7, if_true, h1]
    all_goals (simp [isW] at hW)
  | false =>
    rw [hW] at wh
    have s1 : ∀ A : ISs, evS (callF Tk F (k + N + 5)) F (.ite (.val (.call 44 (.cons (.var 1) .nil))) A .nil) [some (.cell n), some d, none, none] st = some (.nxt [some (.cell n), some d, none, none] st) := fun A => by
      simp [evS, evT, evE, evEs, evSs, wh, truth]
    obtain ⟨o, sto, ho, go, dpo, hwo, hto⟩ := odd_ok (F := F) (k := k + N + 2) hw (by omega)
    have go' : Gd (B + 1) (L + 1) o := go.mono (by omega) (by omega)
    rcases tup_or d with ⟨xs, rfl⟩ | hn
    · have n1 : isiF (.tup xs) .tuple = some true := rfl
      have ce := eq_unit xs
      have hz0 : (0 : Nat) ≤ sizeLine := by decide
      by_cases he : xs = []
      · subst he
        refine ⟨o, sto, main o sto go' (hwo.mono (by omega)) hto ?_, go', by omega, hwo.mono (by omega), hto⟩
        unfold i__law_bent
        rw [ss_nxt (s1 _)]
        refine ss_ret ?_
        simp [evS, evT, evE, evEs, evSs, truth, n1, ce, hz0, ho]
      · have hne : xs.isEmpty = false := by cases xs <;> simp_all
        rw [hne] at ce
        have hlen : 0 < xs.length := List.length_pos_iff.mpr he
        simp only [Gd] at hg
        simp only [dpt] at hd
        obtain ⟨N', rfl⟩ : ∃ N', N = N' + 1 := ⟨N - 1, by omega⟩
        obtain ⟨a, st1, h1, a0, a1, hw1, ht1⟩ := draw_ok (F := F) (k := k + (N' + 1) + 4) hw (m := (xs.length : Int)) (by omega) (by omega) (by omega)
        obtain ⟨w, st2, h2, w0, w1, hw2, ht2⟩ := draw_ok (F := F) (k := k + (N' + 1) + 4) hw1 (m := 10) (by decide) (by decide) (by omega)
        obtain ⟨a, rfl⟩ := Int.eq_ofNat_of_zero_le a0
        have hal : a < xs.length := by omega
        have hT2 := ht1.trans ht2
        have l1 : biF .len [.tup xs] st = some (.int xs.length) := rfl
        have s2 : ∀ A : ISs, evS (callF Tk F (k + (N' + 1) + 5)) F (.ite (.or (.not (.val (.isi (.var 1) .tuple))) (.one (.cmp .eq (.var 1) (.tup .nil)))) A .nil) [some (.cell n), some (.tup xs), none, none] st = some (.nxt [some (.cell n), some (.tup xs), none, none] st) := fun A => by
          simp [evS, evT, evE, evEs, evSs, truth, n1, ce, hz0]
        have s3 : evS (callF Tk F (k + (N' + 1) + 5)) F (.asgP [2, 3] (.cons (.call 24 (.cons (.var 0) (.cons (.bi .len (.cons (.var 1) .nil)) .nil))) (.cons (.call 24 (.cons (.var 0) (.cons (.cst (.int 10)) .nil))) .nil))) [some (.cell n), some (.tup xs), none, none] st = some (.nxt [some (.cell n), some (.tup xs), some (.int (a : Nat)), some (.int w)] st2) := by
          simp [evS, evE, evEs, l1, h1, h2]
        have b1 : bop .add (.int (a : Nat)) (.int 1) = some (.int ((a + 1 : Nat) : Int)) := rfl
        have e1 := slc_lo (xs := xs) (a := a) (by omega)
        have e2 := slc_hi (xs := xs) (a := a + 1) (by omega)
        have e3 := slc_hi (xs := xs) (a := a) (by omega)
        have szL : 300 ≤ sizeLine := by decide
        have len1 : (xs.take a).length = a := by rw [List.length_take]; omega
        have len2 : ∀ b, (xs.drop b).length = xs.length - b := fun b => List.length_drop
        have hz1 : (1 : Nat) ≤ sizeLine := by decide
        have ix : ∀ st, idxF (.tup xs) (.int (a : Nat)) st = some xs[a] := fun st => by
          have h3 : (a : Int) < (xs.length : Int) := by omega
          simp [idxF, itemsD, L2.atI, L2.ixN, h3, hal]
        have hmem : xs[a] ∈ xs := List.getElem_mem hal
        have gx := gds_iff.mp hg.2 _ hmem
        have dx := dpt_mem.mp (show dpts xs ≤ N' by omega) _ hmem
        have cl6 : cop .lt (.int w) (.int 6) = some (decide (w < 6)) := rfl
        by_cases c6 : w < 6
        · obtain ⟨v, st3, h3, gv, dv, hw3, ht3⟩ := ih xs (by simp only [dpt]; omega) xs[a] hmem st2 (r + 1 + 1) gx hw2 (by omega)
          have hT := hT2.trans ht3
          have lv : (xs.take a ++ [v] ++ xs.drop (a + 1)).length ≤ L + 1 := by
            rw [List.length_append, List.length_append, len1, len2, List.length_singleton]; omega
          obtain ⟨gr, dr⟩ := put_gd hg (show dpts xs ≤ N' by omega) gv (by omega) lv
          refine ⟨_, st3, main _ st3 gr (hw3.mono (by omega)) hT ?_, gr, dr, hw3.mono (by omega), hT⟩
          have t1 := add_tup (a := xs.take a) (b := [v]) (by rw [len1, List.length_singleton]; omega)
          have t2 := add_tup (a := xs.take a ++ [v]) (b := xs.drop (a + 1)) (by rw [List.length_append, len1, len2, List.length_singleton]; omega)
          unfold i__law_bent
          rw [ss_nxt (s1 _), ss_nxt (s2 _), ss_nxt s3]
          refine ss_ret ?_
          simp only [evS, evT, evE, evEs, evO, evSs, List.getElem?_cons_zero, List.getElem?_cons_succ, cl6, c6, decide_true, e1, ix, h3, List.length_cons, List.length_nil, Nat.zero_add, hz1, if_true, t1, b1, e2, t2]
        · have s4 : ∀ A : ISs, evS (callF Tk F (k + (N' + 1) + 5)) F (.ite (.cmp .lt (.var 3) (.cst (.int 6))) A .nil) [some (.cell n), some (.tup xs), some (.int (a : Nat)), some (.int w)] st2 = some (.nxt [some (.cell n), some (.tup xs), some (.int (a : Nat)), some (.int w)] st2) := fun A => by
            simp [evS, evT, evE, evSs, cl6, c6]
          have q6 := eq_int w 6
          have q7 := eq_int w 7
          have q8 := eq_int w 8
          by_cases c6' : w = 6
          · have q6t : cop .eq (.int w) (.int 6) = some true := by rw [q6, c6']; rfl
            have g2 := Gds.mono (B' := B + 1) (L' := L + 1) (by omega) (by omega) hg.2
            have gr : Gd (B + 1) (L + 1) (.tup (xs.take a ++ xs.drop (a + 1))) := by
              simp only [Gd]
              exact ⟨by rw [List.length_append, len1, len2]; omega, gds_app (gds_take g2 a) (gds_drop g2 (a + 1))⟩
            have dr : dpt (.tup (xs.take a ++ xs.drop (a + 1))) ≤ N' + 1 + 4 := by
              simp only [dpt]
              have := dpts_app (dpts_sub (ys := xs.take a) (show dpts xs ≤ N' by omega) fun y hy => List.mem_of_mem_take hy) (dpts_sub (ys := xs.drop (a + 1)) (show dpts xs ≤ N' by omega) fun y hy => List.mem_of_mem_drop hy)
              omega
            refine ⟨_, st2, main _ st2 gr (hw2.mono (by omega)) hT2 ?_, gr, dr, hw2.mono (by omega), hT2⟩
            have t1 := add_tup (a := xs.take a) (b := xs.drop (a + 1)) (by rw [len1, len2]; omega)
            unfold i__law_bent
            rw [ss_nxt (s1 _), ss_nxt (s2 _), ss_nxt s3, ss_nxt (s4 _)]
            refine ss_ret ?_
            simp only [evS, evT, evE, evEs, evO, evSs, List.getElem?_cons_zero, List.getElem?_cons_succ, q6t, e1, b1, e2, t1]
          · have s5 : ∀ A : ISs, evS (callF Tk F (k + (N' + 1) + 5)) F (.ite (.cmp .eq (.var 3) (.cst (.int 6))) A .nil) [some (.cell n), some (.tup xs), some (.int (a : Nat)), some (.int w)] st2 = some (.nxt [some (.cell n), some (.tup xs), some (.int (a : Nat)), some (.int w)] st2) := fun A => by
              simp [evS, evT, evE, evSs, q6, c6']
            by_cases c7 : w = 7
            · have q7t : cop .eq (.int w) (.int 7) = some true := by rw [q7, c7]; rfl
              have gx' := gx.mono (B' := B + 1) (L' := L + 1) (by omega) (by omega)
              have lv : (xs.take a ++ [xs[a]] ++ xs.drop a).length ≤ L + 1 := by
                rw [List.length_append, List.length_append, len1, len2, List.length_singleton]; omega
              obtain ⟨gr, dr⟩ := put_gd hg (show dpts xs ≤ N' by omega) gx' (by omega) lv
              refine ⟨_, st2, main _ st2 gr (hw2.mono (by omega)) hT2 ?_, gr, dr, hw2.mono (by omega), hT2⟩
              have t1 := add_tup (a := xs.take a) (b := [xs[a]]) (by rw [len1, List.length_singleton]; omega)
              have t2 := add_tup (a := xs.take a ++ [xs[a]]) (b := xs.drop a) (by rw [List.length_append, len1, len2, List.length_singleton]; omega)
              unfold i__law_bent
              rw [ss_nxt (s1 _), ss_nxt (s2 _), ss_nxt s3, ss_nxt (s4 _), ss_nxt (s5 _)]
              refine ss_ret ?_
              simp only [evS, evT, evE, evEs, evO, evSs, List.getElem?_cons_zero, List.getElem?_cons_succ, q7t, e1, ix, List.length_cons, List.length_nil, Nat.zero_add, hz1, if_true, t1, e3, t2]
            · have s6 : ∀ A : ISs, evS (callF Tk F (k + (N' + 1) + 5)) F (.ite (.cmp .eq (.var 3) (.cst (.int 7))) A .nil) [some (.cell n), some (.tup xs), some (.int (a : Nat)), some (.int w)] st2 = some (.nxt [some (.cell n), some (.tup xs), some (.int (a : Nat)), some (.int w)] st2) := fun A => by
                simp [evS, evT, evE, evSs, q7, c7]
              by_cases c8 : w = 8
              · have q8t : cop .eq (.int w) (.int 8) = some true := by rw [q8, c8]; rfl
                have gr : Gd (B + 1) (L + 1) (.lst xs) := by
                  simp only [Gd]
                  exact ⟨by omega, Gds.mono (by omega) (by omega) hg.2⟩
                refine ⟨.lst xs, st2, main _ st2 gr (hw2.mono (by omega)) hT2 ?_, gr, by simp [dpt], hw2.mono (by omega), hT2⟩
                have bl : biF .list [.tup xs] st2 = some (.lst xs) := rfl
                unfold i__law_bent
                rw [ss_nxt (s1 _), ss_nxt (s2 _), ss_nxt s3, ss_nxt (s4 _), ss_nxt (s5 _), ss_nxt (s6 _)]
                refine ss_ret ?_
                simp only [evS, evT, evE, evEs, List.getElem?_cons_zero, List.getElem?_cons_succ, q8t, bl]
              · obtain ⟨v, st3, h3, gv, dv, hw3, ht3⟩ := odd_ok (F := F) (k := k + (N' + 1) + 2) hw2 (by omega)
                have gv' : Gd (B + 1) (L + 1) v := gv.mono (by omega) (by omega)
                have hT := hT2.trans ht3
                have lv : (xs.take a ++ [v] ++ xs.drop (a + 1)).length ≤ L + 1 := by
                  rw [List.length_append, List.length_append, len1, len2, List.length_singleton]; omega
                obtain ⟨gr, dr⟩ := put_gd hg (show dpts xs ≤ N' by omega) gv' (by omega) lv
                refine ⟨_, st3, main _ st3 gr (hw3.mono (by omega)) hT ?_, gr, dr, hw3.mono (by omega), hT⟩
                have t1 := add_tup (a := xs.take a) (b := [v]) (by rw [len1, List.length_singleton]; omega)
                have t2 := add_tup (a := xs.take a ++ [v]) (b := xs.drop (a + 1)) (by rw [List.length_append, len1, len2, List.length_singleton]; omega)
                unfold i__law_bent
                rw [ss_nxt (s1 _), ss_nxt (s2 _), ss_nxt s3, ss_nxt (s4 _), ss_nxt (s5 _), ss_nxt (s6 _)]
                refine ss_ret ?_
                simp only [evS, evT, evE, evEs, evO, List.getElem?_cons_zero, List.getElem?_cons_succ, q8, c8, decide_false, e1, h3, List.length_cons, List.length_nil, Nat.zero_add, hz1, if_true, t1, b1, e2, t2]
    · have n1 := not_tup hg hn
      refine ⟨o, sto, main o sto go' (hwo.mono (by omega)) hto ?_, go', by omega, hwo.mono (by omega), hto⟩
      unfold i__law_bent
      rw [ss_nxt (s1 _)]
      refine ss_ret ?_
      simp [evS, evT, evE, evEs, evSs, truth, n1, ho]
theorem bent_ok {F k n : Nat} {B L : Nat} (hB : 100 ≤ B) (hB2 : B ≤ 1000) (hL : 10 ≤ L) (hL2 : L ≤ 100) : ∀ (N : Nat) (d : Mi.D) (st : Mi.Store) (r : Int), dpt d ≤ N → Gd B L d → Well st n r → r + 10 * (N + 1) < 2 ^ 40 →
    ∃ v st', callF Tk F (k + N + 6) 50 [.cell n, d] st = some (v, st') ∧ Gd (B + 1) (L + 1) v ∧ dpt v ≤ N + 4 ∧ Well st' n (r + 5 * (N + 1)) ∧ Turned st n st' := by
  intro N
  induction N with
  | zero => exact fun d st r hd hg hw hr => bent_step (N := 0) hB hB2 hL hL2 (fun xs h => by simp only [dpt] at h; omega) d st r hd hg hw hr
  | succ N ih => exact fun d st r hd hg hw hr => bent_step (N := N + 1) hB hB2 hL hL2 (fun xs h x hx st r hg hw hr => by
      simp only [dpt] at h
      obtain ⟨v, st', h1, h2⟩ := ih x st r (dpt_mem.mp (by omega) x hx) hg hw (by omega)
      exact ⟨v, st', h1, h2⟩) d st r hd hg hw hr
theorem show_l {xs : List Mi.D} {st : Mi.Store} (h : ∀ x ∈ xs, IShow x ∧ tx x ≤ 100000 ∧ (pd x).depth ≤ 60) (hl : xs.length ≤ 100) : IShow (.lst xs) ∧ biF .repr [.lst xs] st = some (.str (shS (.lst xs))) := by
  have go : ∀ ys : List Mi.D, (∀ x ∈ ys, IShow x ∧ tx x ≤ 100000 ∧ (pd x).depth ≤ 60) → IShows ys ∧ txs ys ≤ 100002 * ys.length ∧ PyData.depthAll (pds ys) ≤ 60 := by
    intro ys
    induction ys with
    | nil => intro _; exact ⟨trivial, by simp [txs], by simp [pds, PyData.depthAll]⟩
    | cons y ys ih =>
      intro hy
      obtain ⟨h1, h2, h3⟩ := hy y List.mem_cons_self
      obtain ⟨i1, i2, i3⟩ := ih fun x hx => hy x (List.mem_cons_of_mem _ hx)
      refine ⟨⟨h1, i1⟩, ?_, ?_⟩
      · simp only [txs, List.length_cons]
        omega
      · simp only [pds, PyData.depthAll]
        omega
  obtain ⟨g1, g2, g3⟩ := go xs h
  refine ⟨g1, show_ok (show IShow (.lst xs) from g1) ?_ ?_⟩
  · simp only [tx]
    have : sizeLine = 2 ^ 24 := rfl
    omega
  · simp only [pd, PyData.depth]
    omega
theorem ok_f {q : Rat} (h : Bd 1900 q) : IShow (fracD q) ∧ tx (fracD q) ≤ 100000 ∧ (pd (fracD q)).depth ≤ 60 := ⟨IShow.frac h, by rw [tx_frac]; decide, by rw [depth_frac]; decide⟩
theorem ok_t {u : V3} (h : BV 1900 u) : IShow (tD u) ∧ tx (tD u) ≤ 100000 ∧ (pd (tD u)).depth ≤ 60 := ⟨IShow.tri h, by rw [tx_tri]; decide, by rw [depth_tri]; decide⟩
theorem ok_b (b : Bool) : IShow (.bl b) ∧ tx (.bl b) ≤ 100000 ∧ (pd (.bl b)).depth ≤ 60 := ⟨trivial, by simp [tx], by simp [pd, PyData.depth]⟩
theorem rep2 (x : Mi.D) : bop .mul (.lst [x]) (.int 2) = some (.lst [x, x]) := rfl
theorem add_lst {a b : List Mi.D} (h : a.length + b.length ≤ sizeLine) : bop .add (.lst a) (.lst b) = some (.lst (a ++ b)) := by
  show (if _ then _ else _) = _
  rw [if_pos h]
theorem V3.add_comm (u v : V3) : u.add v = v.add u := by
  unfold V3.add
  simp only [V3.mk.injEq]
  exact ⟨by grind, by grind, by grind⟩
theorem V3.dot_comm (u v : V3) : u.dot v = v.dot u := by
  unfold V3.dot
  grind
theorem V3.cross_neg (u v : V3) : u.cross v = (v.cross u).smul (-1) := by
  unfold V3.cross V3.smul
  simp only [V3.mk.injEq]
  exact ⟨by grind, by grind, by grind⟩
end K06

set_option Elab.async false
set_option linter.all false
set_option maxRecDepth 100000
set_option maxHeartbeats 4000000
namespace K06
open PySem PySem.Spec PyProof.Rows L2 Mi TL
theorem map_rel {f : Mi.D → Mi.Store → Option (Option Mi.D × Mi.Store)} {st : Mi.Store} (hs : SW st) : ∀ (ps : List (Mi.D × Mi.D)) (acc : List Mi.D), (∀ p ∈ ps, (∀ st', SW st' → f p.1 st' = some (some p.2, st')) ∧ ∀ m, fitD m p.2 = true) → fitDs (st.length + 1) acc = true → acc.length + ps.length ≤ sizeLine →
    mapSt st.length f (ps.map (·.1)) (st ++ [some acc]) = some (st ++ [some (acc ++ ps.map (·.2))])
  | [], acc, _, _, _ => by simp [mapSt]
  | p :: ps, acc, h, ha, hl => by
    have hx := h p List.mem_cons_self
    rw [List.length_cons] at hl
    have e : (st ++ [some acc])[st.length]? = some (some acc) := by simp
    have e2 : (st ++ [some acc]).set st.length (some (acc ++ [p.2])) = st ++ [some (acc ++ [p.2])] := by simp
    simp only [List.map_cons, mapSt, hx.1 _ (hs.push ha), e]
    rw [if_pos (by omega), e2, map_rel hs ps (acc ++ [p.2]) (fun y hy => h y (List.mem_cons_of_mem _ hy)) ?_ (by rw [List.length_append, List.length_singleton]; omega)]
    · simp
    · refine fits_all fun d hd => ?_
      rcases List.mem_append.mp hd with hd | hd
      · exact fit_mem ha hd
      · rw [List.mem_singleton.mp hd]; exact hx.2 _
theorem comp_rel {c : CallT} {env : Mi.Env} {elt : IE} {tg : ITg} {it : II} {own : List (PySem.Str × Nat)} {st : Mi.Store} {ps : List (Mi.D × Mi.D)} (hs : SW st) (hi : evI c env it st = some (ps.map (·.1), st)) (ho : tgOwn tg (own.map (·.2)) = true) (hl : ps.length ≤ sizeLine)
    (h : ∀ p ∈ ps, (∀ st', SW st' → turnF c (wipeE env (own.map (·.2))) tg .none elt p.1 st' = some (some p.2, st')) ∧ ∀ m, fitD m p.2 = true) : evE c env (.comp elt tg it .none own) st = some (.lst (ps.map (·.2)), st) := by
  have m := map_rel hs ps [] h rfl (by simpa using hl)
  rw [List.nil_append] at m
  have e : (st ++ [some (ps.map (·.2))])[st.length]? = some (some (ps.map (·.2))) := by simp
  have hf : fitDs st.length (ps.map (·.2)) = true := fits_all fun d hd => by
    obtain ⟨p, hp, rfl⟩ := List.mem_map.mp hd
    exact (h p hp).2 _
  have hc : Mi.cutD st.length (.lst (ps.map (·.2))) (st ++ [some (ps.map (·.2))]) = some (.lst (ps.map (·.2)), st) := cut_more (fun k => by simp) hf hs
  show (match evI c env it st with
    | some (xs, st1) => if tgOwn tg (own.map fun p : PySem.Str × Nat => p.2) then (match mapSt st1.length (turnF c (wipeE env (own.map fun p : PySem.Str × Nat => p.2)) tg .none elt) xs (st1 ++ [some []]) with
      | some st2 => (match st2[st1.length]? with
        | some (some ys) => Mi.cutD st1.length (.lst ys) st2
        | _ => none)
      | none => none) else none
    | none => none) = _
  simp only [hi, ho, if_true, m, e]
  exact hc
/-! ### rows of whole numbers without a common divisor -/
def gL : List Int → Nat
  | [] => 0
  | z :: zs => Nat.gcd z.natAbs (gL zs)
theorem gL_mul (m : Int) : ∀ zs : List Int, gL (zs.map (m * ·)) = m.natAbs * gL zs
  | [] => by simp [gL]
  | z :: zs => by
    simp only [List.map_cons, gL, gL_mul m zs, Int.natAbs_mul, Nat.gcd_mul_left]
theorem gL_dvd : ∀ {zs : List Int} {z : Int}, z ∈ zs → (gL zs : Int) ∣ z
  | y :: zs, z, h => by
    rcases List.mem_cons.mp h with rfl | h
    · exact Int.ofNat_dvd_left.mpr (Nat.gcd_dvd_left _ _)
    · exact Int.dvd_trans (Int.ofNat_dvd.mpr (Nat.gcd_dvd_right _ _)) (gL_dvd h)
theorem gL_zero : ∀ {zs : List Int}, gL zs = 0 ↔ ∀ z ∈ zs, z = 0
  | [] => by simp [gL]
  | z :: zs => by
    simp only [gL, Nat.gcd_eq_zero_iff, gL_zero (zs := zs), List.forall_mem_cons, Int.natAbs_eq_zero]
/-- the first one that is not 0 is above 0 -/
def PosL : List Int → Prop
  | [] => False
  | z :: zs => 0 < z ∨ z = 0 ∧ PosL zs
instance decPosL : ∀ zs : List Int, Decidable (PosL zs)
  | [] => .isFalse id
  | z :: zs => by
    have := decPosL zs
    unfold PosL
    infer_instance
def IsPL (zs : List Int) : Prop := gL zs = 1 ∧ PosL zs
theorem PosL.ne : ∀ {zs : List Int}, PosL zs → ¬ ∀ z ∈ zs, z = 0
  | [], h => h.elim
  | z :: zs, h => fun e => by
    rcases h with h | ⟨_, h⟩
    · have := e z List.mem_cons_self
      omega
    · exact PosL.ne h fun y hy => e y (List.mem_cons_of_mem _ hy)
def cutL (zs : List Int) : Int := if PosL zs then (gL zs : Int) else -(gL zs : Int)
/-- cut by what is common, the first one above 0 -/
def plL (zs : List Int) : List Int := zs.map (· / cutL zs)
theorem cutL_ne {zs : List Int} (h : ¬ ∀ z ∈ zs, z = 0) : cutL zs ≠ 0 := by
  have h0 : gL zs ≠ 0 := fun e => h (gL_zero.mp e)
  unfold cutL
  split <;> omega
theorem cutL_abs (zs : List Int) : (cutL zs).natAbs = gL zs := by
  unfold cutL
  split <;> omega
theorem cutL_dvd {zs : List Int} {z : Int} (hz : z ∈ zs) : cutL zs ∣ z := by
  unfold cutL
  split
  · exact gL_dvd hz
  · exact Int.neg_dvd.mpr (gL_dvd hz)
theorem cutL_mul {zs : List Int} : (plL zs).map (cutL zs * ·) = zs := by
  unfold plL
  rw [List.map_map]
  conv => rhs; rw [← List.map_id zs]
  refine List.map_congr_left fun z hz => ?_
  exact Int.mul_ediv_cancel' (cutL_dvd hz)
theorem posL_pos {e : Int} (he : 0 < e) : ∀ {zs : List Int}, PosL (zs.map (e * ·)) ↔ PosL zs
  | [] => Iff.rfl
  | z :: zs => by
    simp only [List.map_cons, PosL, posL_pos he (zs := zs), Int.mul_eq_zero]
    have h1 : 0 < e * z ↔ 0 < z := by
      constructor
      · intro h'
        rcases Int.lt_trichotomy z 0 with h2 | h2 | h2
        · have := Int.mul_neg_of_pos_of_neg he h2; omega
        · subst h2; omega
        · exact h2
      · exact Int.mul_pos he
    rw [h1]
    have he' : e ≠ 0 := by omega
    simp only [he', false_or]
theorem posL_neg : ∀ {zs : List Int}, (¬ ∀ z ∈ zs, z = 0) → (PosL (zs.map (-1 * ·)) ↔ ¬ PosL zs)
  | [], h => absurd (fun z hz => by cases hz) h
  | z :: zs, h => by
    simp only [List.map_cons, PosL]
    by_cases hz : z = 0
    · subst hz
      have := posL_neg (zs := zs) (fun e => h fun y hy => by
        rcases List.mem_cons.mp hy with rfl | hy
        · rfl
        · exact e y hy)
      rw [this]
      simp
    · simp only [hz, false_and, or_false]
      have e1 : ¬ (-1 * z = 0) := by omega
      simp only [e1, false_and, or_false]
      omega
theorem plL_is {zs : List Int} (h : ¬ ∀ z ∈ zs, z = 0) : IsPL (plL zs) := by
  have hc := cutL_ne h
  have e := cutL_mul (zs := zs)
  have ha := cutL_abs zs
  constructor
  · have m := gL_mul (cutL zs) (plL zs)
    rw [e, ha] at m
    have h0 : 0 < gL zs := Nat.pos_of_ne_zero fun e => h (gL_zero.mp e)
    exact Nat.eq_of_mul_eq_mul_left h0 (by omega)
  · have hn : ¬ ∀ z ∈ plL zs, z = 0 := fun k => h fun z hz => by
      rw [← e] at hz
      obtain ⟨y, hy, rfl⟩ := List.mem_map.mp hz
      rw [k y hy]
      exact Int.mul_zero _
    by_cases hp : PosL zs
    · have hpos : 0 < cutL zs := by
        have : cutL zs = (gL zs : Int) := if_pos hp
        omega
      rw [← e] at hp
      exact (posL_pos hpos).mp hp
    · have hneg : 0 < -cutL zs := by
        have : cutL zs = -(gL zs : Int) := if_neg hp
        omega
      have e2 : (plL zs).map (cutL zs * ·) = ((plL zs).map (-cutL zs * ·)).map (-1 * ·) := by
        rw [List.map_map]
        refine List.map_congr_left fun z _ => ?_
        show cutL zs * z = -1 * (-cutL zs * z)
        grind
      rw [← e, e2, posL_neg ?_, posL_pos hneg] at hp
      · exact Decidable.not_not.mp hp
      · intro k
        refine hn fun z hz => ?_
        have := k (-cutL zs * z) (List.mem_map.mpr ⟨z, hz, rfl⟩)
        rcases Int.mul_eq_zero.mp this with h1 | h1
        · omega
        · exact h1
theorem plL_self {zs : List Int} (h : IsPL zs) : plL zs = zs ∧ cutL zs = 1 := by
  have hc : cutL zs = 1 := by
    unfold cutL
    rw [if_pos h.2, h.1]
    rfl
  refine ⟨?_, hc⟩
  unfold plL
  rw [hc]
  simp
/-- two such rows along one line are one -/
theorem pl_uniqueL {zs ys : List Int} {m n : Int} (hm : m ≠ 0) (h : ys.map (m * ·) = zs.map (n * ·)) (hz : IsPL zs) (hy : IsPL ys) : ys = zs := by
  have a := gL_mul m ys
  have b := gL_mul n zs
  rw [hy.1] at a
  rw [hz.1] at b
  rw [h] at a
  have e : m.natAbs = n.natAbs := by omega
  have inj : ∀ {k : Int}, k ≠ 0 → ∀ {us vs : List Int}, us.map (k * ·) = vs.map (k * ·) → us = vs := by
    intro k hk us
    induction us with
    | nil =>
      intro vs h
      cases vs with
      | nil => rfl
      | cons v vs => cases h
    | cons u us ih =>
      intro vs h
      cases vs with
      | nil => cases h
      | cons v vs =>
        simp only [List.map_cons, List.cons.injEq] at h
        rw [Int.eq_of_mul_eq_mul_left hk h.1, ih h.2]
  rcases Int.natAbs_eq_natAbs_iff.mp e with rfl | rfl
  · exact inj hm h
  · have hn : n ≠ 0 := by omega
    have h2 : (ys.map (-1 * ·)).map (n * ·) = zs.map (n * ·) := by
      rw [← h, List.map_map]
      refine List.map_congr_left fun z _ => ?_
      show n * (-1 * z) = -n * z
      grind
    have h3 := inj hn h2
    have p := posL_neg (zs := ys) hy.2.ne
    rw [h3] at p
    exact absurd hy.2 (p.mp hz.2)
/-- a list or a tuple of whole numbers -/
def RowD (zs : List Int) (v : Mi.D) : Prop := v = .lst (zs.map Mi.D.int) ∨ v = .tup (zs.map Mi.D.int)
theorem RowD.seq {zs : List Int} {v : Mi.D} (h : RowD zs v) : seqD v = some (zs.map Mi.D.int) := by
  rcases h with rfl | rfl <;> rfl
theorem RowD.items {zs : List Int} {v : Mi.D} (h : RowD zs v) (st : Mi.Store) : itemsD v st = some (zs.map Mi.D.int) := by
  rcases h with rfl | rfl <;> rfl
theorem RowD.fit {zs : List Int} {v : Mi.D} (h : RowD zs v) (n : Nat) : fitD n v = true := by
  have : ∀ zs : List Int, fitDs n (zs.map Mi.D.int) = true := fun zs => by
    induction zs with
    | nil => rfl
    | cons z zs ih => simp [fitDs, fitD, ih]
  rcases h with rfl | rfl <;> exact this zs
theorem gcd_loop {c : CallT} {F : Nat} {v : Mi.D} {st : Mi.Store} : ∀ (zs : List Int) (g : Nat) (e : Option Mi.D), ∃ e', loopF (fun x env st => match bindT (.nm 2) x env with
      | some env' => evSs c F (.cons (.asg 1 (.bi .gcd (.cons (.var 1) (.cons (.var 2) .nil)))) .nil) env' st
      | none => none) (zs.map Mi.D.int) [some v, some (.int (g : Nat)), e] st = some (.nxt [some v, some (.int (Nat.gcd g (gL zs) : Nat)), e'] st)
  | [], g, e => ⟨e, by simp [loopF, gL]⟩
  | z :: zs, g, e => by
    obtain ⟨e', h⟩ := gcd_loop zs (Nat.gcd g z.natAbs) (some (.int z))
    refine ⟨e', ?_⟩
    have b : biF .gcd [.int (g : Nat), .int z] st = some (.int (Nat.gcd g z.natAbs : Nat)) := by simp [biF]
    have s1 : evSs c F (.cons (.asg 1 (.bi .gcd (.cons (.var 1) (.cons (.var 2) .nil)))) .nil) [some v, some (.int (g : Nat)), some (.int z)] st = some (.nxt [some v, some (.int (Nat.gcd g z.natAbs : Nat)), some (.int z)] st) := by
      simp [evSs, evS, evE, evEs, b]
    simp only [List.map_cons, loopF, bindT, List.set_cons_succ, List.set_cons_zero, s1, gL]
    rw [← Nat.gcd_assoc]
    exact h
theorem gL_lt {zs : List Int} {B : Nat} (h : ¬ ∀ z ∈ zs, z = 0) (hb : ∀ z ∈ zs, z.natAbs < 2 ^ B) : gL zs < 2 ^ B := by
  obtain ⟨z, hz, h0⟩ : ∃ z ∈ zs, z ≠ 0 := by
    by_cases hh : ∃ z ∈ zs, z ≠ 0
    · exact hh
    · exact absurd (fun z hz => by
        by_cases h1 : z = 0
        · exact h1
        · exact absurd ⟨z, hz, h1⟩ hh) h
  exact Nat.lt_of_le_of_lt (Nat.le_of_dvd (Int.natAbs_pos.mpr h0) (Int.ofNat_dvd_left.mp (gL_dvd hz))) (hb z hz)
theorem withoutL_ok {F k : Nat} {zs : List Int} {v : Mi.D} {st : Mi.Store} (hs : SW st) (hv : RowD zs v) (h0 : ¬ ∀ z ∈ zs, z = 0) (hb : ∀ z ∈ zs, z.natAbs < 2 ^ 8000) (hl : zs.length ≤ sizeLine) :
    callF Tk F (k + 1) 4 [v] st = some (.lst ((zs.map (· / (gL zs : Int))).map Mi.D.int), st) := by
  have hg : 0 < gL zs := Nat.pos_of_ne_zero fun e => h0 (gL_zero.mp e)
  have hgl := gL_lt h0 hb
  obtain ⟨e', lp⟩ := gcd_loop (c := callF Tk F k) (F := F) (v := v) (st := st) zs 0 none
  rw [Nat.gcd_zero_left] at lp
  have s2 : evS (callF Tk F k) F (.forr (.nm 2) (.seq (.var 0)) (.cons (.asg 1 (.bi .gcd (.cons (.var 1) (.cons (.var 2) .nil)))) .nil)) [some v, some (.int ((0 : Nat) : Int)), none] st = some (.nxt [some v, some (.int (gL zs : Nat)), e'] st) := by
    have ei : evI (callF Tk F k) [some v, some (.int ((0 : Nat) : Int)), none] (.seq (.var 0)) st = some (zs.map Mi.D.int, st) := by simp [evI, evE, hv.seq]
    simp only [evS, ei]
    exact lp
  have cl : cop .lt (.int (gL zs : Nat)) (.int 2) = some (decide ((gL zs : Int) < 2)) := rfl
  have c1 := comp_rel (c := callF Tk F k) (env := [some v, some (.int (gL zs : Nat)), e']) (elt := .bin .fdiv (.var 2) (.var 1)) (tg := .nm 2) (it := .seq (.var 0)) (own := [("number", 2)]) (st := st) (ps := zs.map fun z => (Mi.D.int z, Mi.D.int (z / (gL zs : Int)))) hs
    (by simp [evI, evE, hv.seq, List.map_map, Function.comp_def]) rfl (by simpa using hl) (fun p hp => by
      obtain ⟨z, hz, rfl⟩ := List.mem_map.mp hp
      refine ⟨fun st' hs' => ?_, fun m => rfl⟩
      have f1 : bop .fdiv (.int z) (.int (gL zs : Nat)) = some (.int (z / (gL zs : Int))) := by
        rw [← dvd_fdiv (gL_dvd hz)]
        refine fdiv_ok (by omega) ?_
        rw [Int.natAbs_natCast]
        have := (Nat.log2_lt (by omega)).mpr hgl
        omega
      simp [turnF, bindT, wipeE, evTo, evE, f1])
  have ev : (zs.map fun z => (Mi.D.int z, Mi.D.int (z / (gL zs : Int)))).map (·.2) = (zs.map (· / (gL zs : Int))).map Mi.D.int := by
    simp [List.map_map, Function.comp_def]
  rw [ev] at c1
  have body : evSs (callF Tk F k) F i_without_common.body [some v, none, none] st = some (.ret (.lst ((zs.map (· / (gL zs : Int))).map Mi.D.int)) st) := by
    unfold i_without_common
    rw [ss_nxt (show evS (callF Tk F k) F (.asg 1 (.cst (.int 0))) [some v, none, none] st = some (.nxt [some v, some (.int ((0 : Nat) : Int)), none] st) from rfl), ss_nxt s2]
    have t1 : evT (callF Tk F k) [some v, some (.int (gL zs : Nat)), e'] (.cmp .lt (.var 1) (.cst (.int 2))) st = some (decide ((gL zs : Int) < 2), st) := by
      simp [evT, evE, cl]
    by_cases h2 : (gL zs : Int) < 2
    · rw [show decide ((gL zs : Int) < 2) = true from decide_eq_true h2] at t1
      refine ss_ret ?_
      have hG : (gL zs : Int) = 1 := by omega
      have b1 : biF .list [v] st = some (.lst (zs.map Mi.D.int)) := by
        show (itemsD v st).map Mi.D.lst = _
        rw [hv.items]
        rfl
      simp only [evS, t1]
      refine ss_ret ?_
      simp [evS, evE, evEs, b1, hG]
    · rw [show decide ((gL zs : Int) < 2) = false from decide_eq_false h2] at t1
      refine (ss_nxt (env' := [some v, some (.int (gL zs : Nat)), e']) (st' := st) (by simp only [evS, t1]; rfl)).trans (ss_ret ?_)
      have gen : ∀ C : IE, evE (callF Tk F k) [some v, some (.int (gL zs : Nat)), e'] C st = some (.lst ((zs.map (· / (gL zs : Int))).map Mi.D.int), st) → evS (callF Tk F k) F (.ret C) [some v, some (.int (gL zs : Nat)), e'] st = some (.ret (.lst ((zs.map (· / (gL zs : Int))).map Mi.D.int)) st) := by
        intro C e2
        simp only [evS, e2]
      exact gen _ c1
  exact (call_body (d := i_without_common) rfl ⟨rfl, by decide⟩ body).trans (cut_pl (fun k => by simp) (RowD.fit (.inl rfl) _) hs rfl)
theorem fwdL {cc : CallT} {F : Nat} {C : IE} {a : Option Mi.D} {R N : Mi.D} {st : Mi.Store} (hC : ∀ t : Int, evE cc [a, some R, some (.int t), none] C st = some (N, st)) : ∀ (zs : List Int) (s : Option Mi.D), (¬ ∀ z ∈ zs, z = 0) →
    loopF (fun x env st => match bindT (.nm 2) x env with
      | some env' => evSs cc F (fwB C) env' st
      | none => none) (zs.map Mi.D.int) [a, some R, s, none] st = some (.ret (if PosL zs then R else N) st)
  | [], s, h => absurd (fun z hz => by cases hz) h
  | z :: zs, s, h => by
    have g0 : ∀ t : Int, cop .gt (.int t) (.int 0) = some (decide (0 < t)) := fun t => rfl
    simp only [List.map_cons, loopF, bindT, List.set_cons_succ, List.set_cons_zero]
    rcases Int.lt_trichotomy z 0 with h2 | h2 | h2
    · have b2 : evSs cc F (fwB C) [a, some R, some (.int z), none] st = some (.ret N st) := by
        have h' : z ≠ 0 := by omega
        have h3 : ¬ 0 < z := by omega
        simp [evSs, evS, evT, evE, ne_int, g0, h3, h', hC z]
      rw [b2, if_neg]
      unfold PosL
      omega
    · subst h2
      have b0 : evSs cc F (fwB C) [a, some R, some (.int 0), none] st = some (.nxt [a, some R, some (.int 0), none] st) := by
        simp [evSs, evS, evT, evE, ne_int]
      rw [b0]
      have h' : ¬ ∀ z ∈ zs, z = 0 := fun e => h fun y hy => by
        rcases List.mem_cons.mp hy with rfl | hy
        · rfl
        · exact e y hy
      have := fwdL (F := F) hC zs (some (.int 0)) h'
      have e : PosL (0 :: zs) ↔ PosL zs := by
        show 0 < (0 : Int) ∨ (0 : Int) = 0 ∧ PosL zs ↔ PosL zs
        simp
      simp only [e]
      exact this
    · have b1 : evSs cc F (fwB C) [a, some R, some (.int z), none] st = some (.ret R st) := by
        have h' : z ≠ 0 := by omega
        simp [evSs, evS, evT, evE, ne_int, g0, h2, h']
      rw [b1, if_pos (show PosL (z :: zs) from .inl h2)]
theorem forwardL_ok {F k : Nat} {zs : List Int} {v : Mi.D} {st : Mi.Store} (hs : SW st) (hv : RowD zs v) (h0 : ¬ ∀ z ∈ zs, z = 0) (hb : ∀ z ∈ zs, z.natAbs < 2 ^ 8000) (hl : zs.length ≤ sizeLine) :
    callF Tk F (k + 2) 5 [v] st = some (.lst ((plL zs).map Mi.D.int), st) := by
  have hw := withoutL_ok (F := F) (k := k) hs hv h0 hb hl
  have hg : 0 < gL zs := Nat.pos_of_ne_zero fun e => h0 (gL_zero.mp e)
  have hmul : (zs.map (· / (gL zs : Int))).map ((gL zs : Int) * ·) = zs := by
    rw [List.map_map]
    conv => rhs; rw [← List.map_id zs]
    exact List.map_congr_left fun z hz => Int.mul_ediv_cancel' (gL_dvd hz)
  have hP : PosL (zs.map (· / (gL zs : Int))) ↔ PosL zs := by
    rw [← posL_pos (e := (gL zs : Int)) (by omega), hmul]
  have hn0 : ¬ ∀ z ∈ zs.map (· / (gL zs : Int)), z = 0 := fun e => h0 fun z hz => by
    rw [← hmul] at hz
    obtain ⟨y, hy, rfl⟩ := List.mem_map.mp hz
    rw [e y hy]
    exact Int.mul_zero _
  have hneg : (zs.map (· / (gL zs : Int))).map (fun z => -z) = zs.map (· / -(gL zs : Int)) := by
    rw [List.map_map]
    refine List.map_congr_left fun z _ => ?_
    simp [Int.ediv_neg]
  have hlr : (zs.map (· / (gL zs : Int))).length ≤ sizeLine := by simpa using hl
  generalize hR : zs.map (· / (gL zs : Int)) = rs at *
  have e : ∀ t : Int, evE (callF Tk F (k + 1)) [some v, some (.lst (rs.map Mi.D.int)), some (.int t), none] (.comp (.neg (.var 3)) (.nm 3) (.seq (.var 1)) .none [("part", 3)]) st = some (.lst ((rs.map fun z => -z).map Mi.D.int), st) := fun t => by
    have c := comp_rel (c := callF Tk F (k + 1)) (env := [some v, some (.lst (rs.map Mi.D.int)), some (.int t), none]) (elt := .neg (.var 3)) (tg := .nm 3) (it := .seq (.var 1)) (own := [("part", 3)]) (st := st) (ps := rs.map fun z => (Mi.D.int z, Mi.D.int (-z))) hs
      (by simp [evI, evE, seqD, List.map_map, Function.comp_def]) rfl (by simpa using hlr) (fun p hp => by
        obtain ⟨z, hz, rfl⟩ := List.mem_map.mp hp
        exact ⟨fun st' hs' => rfl, fun m => rfl⟩)
    have ev : (rs.map fun z => (Mi.D.int z, Mi.D.int (-z))).map (·.2) = (rs.map fun z => -z).map Mi.D.int := by
      simp [List.map_map, Function.comp_def]
    rw [ev] at c
    exact c
  have lp := fwdL (F := F) (a := some v) (R := .lst (rs.map Mi.D.int)) (N := .lst ((rs.map fun z => -z).map Mi.D.int)) e rs none hn0
  have body : evSs (callF Tk F (k + 1)) F i_forward.body [some v, none, none, none] st = some (.ret (.lst ((plL zs).map Mi.D.int)) st) := by
    unfold i_forward
    rw [ss_nxt (show evS (callF Tk F (k + 1)) F (.asg 1 (.call 4 (.cons (.var 0) .nil))) _ st = some (.nxt [some v, some (.lst (rs.map Mi.D.int)), none, none] st) from by simp [evS, evE, evEs, hw])]
    refine ss_ret ?_
    have ei : evI (callF Tk F (k + 1)) [some v, some (.lst (rs.map Mi.D.int)), none, none] (.seq (.var 1)) st = some (rs.map Mi.D.int, st) := rfl
    simp only [evS, ei]
    refine lp.trans ?_
    unfold plL cutL
    by_cases hp : PosL zs
    · rw [if_pos hp, if_pos (hP.mpr hp), hR]
    · rw [if_neg hp, if_neg (fun q => hp (hP.mp q)), hneg]
  exact (call_body (d := i_forward) rfl ⟨rfl, by decide⟩ body).trans (cut_pl (fun k => by simp) (RowD.fit (.inl rfl) _) hs rfl)
/-- the law's own way to such a row -/
theorem leanL_loop {c : CallT} {F : Nat} {v : Mi.D} {f : Option Mi.D} {st : Mi.Store} : ∀ (zs : List Int) (g : Nat) (e2 e3 e4 : Option Mi.D), (∀ z ∈ zs, z.natAbs < F) → ∃ e2' e3' e4', loopF (fun x env st => match bindT (.nm 2) x env with
      | some env' => evSs c F leanB env' st
      | none => none) (zs.map Mi.D.int) [some v, some (.int (g : Nat)), e2, e3, e4, f] st = some (.nxt [some v, some (.int (Nat.gcd g (gL zs) : Nat)), e2', e3', e4', f] st)
  | [], g, e2, e3, e4, _ => ⟨e2, e3, e4, by simp [loopF, gL]⟩
  | z :: zs, g, e2, e3, e4, hb => by
    have b := lean_step (c := c) (F := F) (a := some v) (y := e3) (z := e4) (f := f) (st := st) (g := g) (u := z) (hb z List.mem_cons_self)
    obtain ⟨e2', e3', e4', h⟩ := leanL_loop (f := f) zs (Nat.gcd g z.natAbs) (some (.int z)) (some (.int (Nat.gcd g z.natAbs : Nat))) (some (.int 0)) (fun y hy => hb y (List.mem_cons_of_mem _ hy))
    refine ⟨e2', e3', e4', ?_⟩
    simp only [List.map_cons, loopF, bindT, List.set_cons_succ, List.set_cons_zero, b, gL]
    rw [← Nat.gcd_assoc]
    exact h
theorem first_pos : ∀ {zs : List Int}, (¬ ∀ z ∈ zs, z = 0) → ∃ f rest, (zs.map Mi.D.int).filterMap (fun d => match d with
      | .int u => if u = 0 then none else some (Mi.D.int u)
      | _ => none) = .int f :: rest ∧ f ≠ 0 ∧ (0 < f ↔ PosL zs)
  | [], h => absurd (fun z hz => by cases hz) h
  | z :: zs, h => by
    by_cases hz : z = 0
    · subst hz
      have h' : ¬ ∀ z ∈ zs, z = 0 := fun e => h fun y hy => by
        rcases List.mem_cons.mp hy with rfl | hy
        · rfl
        · exact e y hy
      obtain ⟨f, rest, h1, h2, h3⟩ := first_pos h'
      refine ⟨f, rest, ?_, h2, ?_⟩
      · rw [List.map_cons, List.filterMap_cons_none (by simp)]
        exact h1
      · rw [h3]
        show PosL zs ↔ 0 < (0 : Int) ∨ (0 : Int) = 0 ∧ PosL zs
        simp
    · refine ⟨z, _, by rw [List.map_cons, List.filterMap_cons_some (b := .int z) (by simp [hz])], hz, ?_⟩
      show 0 < z ↔ 0 < z ∨ z = 0 ∧ PosL zs
      simp [hz]
theorem leanL_ok {F k : Nat} {zs : List Int} {v : Mi.D} {st : Mi.Store} (hs : SW st) (hv : RowD zs v) (h0 : ¬ ∀ z ∈ zs, z = 0) (hb : ∀ z ∈ zs, z.natAbs < 2 ^ 8000) (hl : zs.length ≤ sizeLine) (hF : 2 ^ 8000 ≤ F) :
    callF Tk F (k + 1) 41 [v] st = some (.tup ((plL zs).map Mi.D.int), st) := by
  have hgl := gL_lt h0 hb
  have hg : 0 < gL zs := Nat.pos_of_ne_zero fun e => h0 (gL_zero.mp e)
  obtain ⟨e2, e3, e4, lp⟩ := leanL_loop (c := callF Tk F k) (F := F) (v := v) (f := none) (st := st) zs 0 none none none (fun z hz => Nat.lt_of_lt_of_le (hb z hz) hF)
  rw [Nat.gcd_zero_left] at lp
  obtain ⟨f, rest, hf, hf0, hfp⟩ := first_pos h0
  have s2 : evS (callF Tk F k) F (.forr (.nm 2) (.seq (.var 0)) leanB) [some v, some (.int ((0 : Nat) : Int)), none, none, none, none] st = some (.nxt [some v, some (.int (gL zs : Nat)), e2, e3, e4, none] st) := by
    have ei : evI (callF Tk F k) [some v, some (.int ((0 : Nat) : Int)), none, none, none, none] (.seq (.var 0)) st = some (zs.map Mi.D.int, st) := by simp [evI, evE, hv.seq]
    simp only [evS, ei]
    exact lp
  have c1 := comp_opt (c := callF Tk F k) (env := [some v, some (.int (gL zs : Nat)), e2, e3, e4, none]) (elt := .var 2) (tg := .nm 2) (it := .seq (.var 0)) (cond := .some (.cmp .ne (.var 2) (.cst (.int 0)))) (own := [("_law_each", 2)]) (st := st) (xs := zs.map Mi.D.int)
    (g := fun d => match d with
      | .int u => if u = 0 then none else some (.int u)
      | _ => none) hs (by simp [evI, evE, hv.seq]) rfl (by simpa using hl) (fun d hd => by
    obtain ⟨u, hu, rfl⟩ := List.mem_map.mp hd
    show (∀ st', SW st' → turnF (callF Tk F k) (wipeE [some v, some (.int (gL zs : Nat)), e2, e3, e4, none] [2]) (.nm 2) (.some (.cmp .ne (.var 2) (.cst (.int 0)))) (.var 2) (.int u) st' = some ((if u = 0 then none else some (.int u)), st')) ∧ ∀ y, (if u = 0 then none else some (Mi.D.int u)) = some y → ∀ m, fitD m y = true
    by_cases h0 : u = 0
    · simp [turnF, bindT, wipeE, evTo, evT, evE, ne_int, h0]
    · refine ⟨fun st' _ => by simp [turnF, bindT, wipeE, evTo, evT, evE, ne_int, h0], fun y hy m => ?_⟩
      rw [if_neg h0] at hy
      cases hy
      rfl)
  rw [hf] at c1
  have s3 : evS (callF Tk F k) F (.asg 5 (.idx (.comp (.var 2) (.nm 2) (.seq (.var 0)) (.some (.cmp .ne (.var 2) (.cst (.int 0)))) [("_law_each", 2)]) (.cst (.int 0)))) [some v, some (.int (gL zs : Nat)), e2, e3, e4, none] st = some (.nxt [some v, some (.int (gL zs : Nat)), e2, e3, e4, some (.int f)] st) := by
    have ix : idxF (.lst (.int f :: rest)) (.int 0) st = some (.int f) := by simp [idxF, itemsD, L2.atI, L2.ixN]
    have gen : ∀ C : IE, evE (callF Tk F k) [some v, some (.int (gL zs : Nat)), e2, e3, e4, none] C st = some (.lst (.int f :: rest), st) →
        evS (callF Tk F k) F (.asg 5 (.idx C (.cst (.int 0)))) [some v, some (.int (gL zs : Nat)), e2, e3, e4, none] st = some (.nxt [some v, some (.int (gL zs : Nat)), e2, e3, e4, some (.int f)] st) := by
      intro C e'
      simp [evS, evE, e', ix]
    exact gen _ c1
  have gt : cop .gt (.int f) (.int 0) = some (decide (0 < f)) := rfl
  have cut : (if 0 < f then (gL zs : Int) else 0 - (gL zs : Int)) = cutL zs := by
    unfold cutL
    by_cases hp : PosL zs
    · rw [if_pos hp, if_pos (hfp.mpr hp)]
    · rw [if_neg hp, if_neg (fun q => hp (hfp.mp q))]
      omega
  have c2 := comp_rel (c := callF Tk F k) (env := [some v, some (.int (gL zs : Nat)), e2, e3, e4, some (.int f)]) (elt := .bin .fdiv (.var 2) (.ife (.cmp .gt (.var 5) (.cst (.int 0))) (.var 1) (.bin .sub (.cst (.int 0)) (.var 1)))) (tg := .nm 2) (it := .seq (.var 0)) (own := [("_law_each", 2)]) (st := st) (ps := zs.map fun z => (Mi.D.int z, Mi.D.int (z / cutL zs))) hs
    (by simp [evI, evE, hv.seq, List.map_map, Function.comp_def]) rfl (by simpa using hl) (fun p hp => by
      obtain ⟨z, hz, rfl⟩ := List.mem_map.mp hp
      refine ⟨fun st' hs' => ?_, fun m => rfl⟩
      have f1 : bop .fdiv (.int z) (.int (cutL zs)) = some (.int (z / cutL zs)) := by
        rw [← dvd_fdiv (cutL_dvd hz)]
        refine fdiv_ok (cutL_ne h0) ?_
        rw [cutL_abs]
        have := (Nat.log2_lt (by omega)).mpr hgl
        omega
      have bs : bop .sub (.int 0) (.int (gL zs : Nat)) = some (.int (0 - (gL zs : Int))) := rfl
      by_cases hp : 0 < f
      · rw [if_pos hp] at cut
        simp [turnF, bindT, wipeE, evTo, evT, evE, gt, hp, cut, f1]
      · rw [if_neg hp] at cut
        rw [cut] at bs
        simp [turnF, bindT, wipeE, evTo, evT, evE, gt, hp, bs, f1])
  have ev : (zs.map fun z => (Mi.D.int z, Mi.D.int (z / cutL zs))).map (·.2) = (plL zs).map Mi.D.int := by
    simp [plL, List.map_map, Function.comp_def]
  rw [ev] at c2
  have body : evSs (callF Tk F k) F i__law_lean.body [some v, none, none, none, none, none] st = some (.ret (.tup ((plL zs).map Mi.D.int)) st) := by
    unfold i__law_lean
    rw [ss_nxt (show evS (callF Tk F k) F (.asg 1 (.cst (.int 0))) [some v, none, none, none, none, none] st = some (.nxt [some v, some (.int ((0 : Nat) : Int)), none, none, none, none] st) from rfl), ss_nxt s2, ss_nxt s3]
    refine ss_ret ?_
    have gen : ∀ C : IE, evE (callF Tk F k) [some v, some (.int (gL zs : Nat)), e2, e3, e4, some (.int f)] C st = some (.lst ((plL zs).map Mi.D.int), st) →
        evS (callF Tk F k) F (.ret (.bi .tuple (.cons C .nil))) [some v, some (.int (gL zs : Nat)), e2, e3, e4, some (.int f)] st = some (.ret (.tup ((plL zs).map Mi.D.int)) st) := by
      intro C e'
      have b1 : biF .tuple [.lst ((plL zs).map Mi.D.int)] st = some (.tup ((plL zs).map Mi.D.int)) := rfl
      simp only [evS, evE, evEs, e', b1]
    exact gen _ c2
  exact (call_body (d := i__law_lean) rfl ⟨rfl, by decide⟩ body).trans (cut_pl (fun k => by simp) (RowD.fit (.inr rfl) _) hs rfl)
/-! ### four whole numbers, and how they turn rows -/
structure Q4 where
  w : Int
  x : Int
  y : Int
  z : Int
theorem Q4.eq_iff {p q : Q4} : p = q ↔ p.w = q.w ∧ p.x = q.x ∧ p.y = q.y ∧ p.z = q.z := by
  cases p; cases q; simp
instance : DecidableEq Q4 := fun p q => decidable_of_iff _ Q4.eq_iff.symm
theorem q4_len : 4 ≤ sizeLine := by decide
abbrev qL (q : Q4) : List Int := [q.w, q.x, q.y, q.z]
def qD (q : Q4) : Mi.D := .tup [.int q.w, .int q.x, .int q.y, .int q.z]
def BQ (B : Nat) (q : Q4) : Prop := q.w.natAbs < 2 ^ B ∧ q.x.natAbs < 2 ^ B ∧ q.y.natAbs < 2 ^ B ∧ q.z.natAbs < 2 ^ B
def Q4.ne0 (q : Q4) : Prop := ¬ ∀ t ∈ qL q, t = 0
instance decNe0 (q : Q4) : Decidable q.ne0 := by
  unfold Q4.ne0
  infer_instance
def Q4.pl (q : Q4) : Q4 := ⟨q.w / cutL (qL q), q.x / cutL (qL q), q.y / cutL (qL q), q.z / cutL (qL q)⟩
def IsPQ (q : Q4) : Prop := IsPL (qL q)
def Q4.smul (m : Int) (q : Q4) : Q4 := ⟨m * q.w, m * q.x, m * q.y, m * q.z⟩
def Q4.mul (p q : Q4) : Q4 := ⟨q.w * p.w - q.x * p.x - q.y * p.y - q.z * p.z, q.w * p.x + q.x * p.w + q.y * p.z - q.z * p.y, q.w * p.y + q.y * p.w + q.z * p.x - q.x * p.z, q.w * p.z + q.z * p.w + q.x * p.y - q.y * p.x⟩
def Q4.conj (q : Q4) : Q4 := ⟨q.w, -q.x, -q.y, -q.z⟩
def Q4.nI (q : Q4) : Int := q.w * q.w + q.x * q.x + q.y * q.y + q.z * q.z
theorem Q4.ext' {p q : Q4} (h1 : p.w = q.w) (h2 : p.x = q.x) (h3 : p.y = q.y) (h4 : p.z = q.z) : p = q := by
  cases p; cases q; simp_all
theorem Q4.of_qL {p q : Q4} (h : qL p = qL q) : p = q := by
  simp only [qL, List.cons.injEq, and_true] at h
  exact Q4.ext' h.1 h.2.1 h.2.2.1 h.2.2.2
theorem qL_pl (q : Q4) : plL (qL q) = qL q.pl := rfl
theorem qL_smul (m : Int) (q : Q4) : (qL q).map (m * ·) = qL (q.smul m) := rfl
theorem qD_eq (q : Q4) : qD q = .tup ((qL q).map Mi.D.int) := rfl
theorem qD_row (q : Q4) : RowD (qL q) (qD q) := .inr rfl
theorem sq_nnI (a : Int) : 0 ≤ a * a := by
  rcases Int.le_total 0 a with h | h
  · exact Int.mul_nonneg h h
  · exact Int.mul_nonneg_of_nonpos_of_nonpos h h
theorem Q4.ne0_iff {q : Q4} : q.ne0 ↔ q.nI ≠ 0 := by
  unfold Q4.ne0 Q4.nI
  constructor
  · intro h e
    have h1 := sq_nnI q.w
    have h2 := sq_nnI q.x
    have h3 := sq_nnI q.y
    have h4 := sq_nnI q.z
    refine h fun t ht => ?_
    have sq : ∀ i : Int, i * i = 0 → i = 0 := fun i hi => by
      rcases Int.mul_eq_zero.mp hi with h | h <;> exact h
    simp only [qL, List.mem_cons, List.not_mem_nil, or_false] at ht
    rcases ht with rfl | rfl | rfl | rfl <;> apply sq <;> omega
  · intro h e
    refine h ?_
    have e1 := e q.w (by simp)
    have e2 := e q.x (by simp)
    have e3 := e q.y (by simp)
    have e4 := e q.z (by simp)
    rw [e1, e2, e3, e4]
    rfl
theorem Q4.pl_mul (q : Q4) : q.pl.smul (cutL (qL q)) = q := Q4.of_qL (by
  have := cutL_mul (zs := qL q)
  rw [qL_pl, qL_smul] at this
  exact this)
theorem Q4.cut_ne {q : Q4} (h : q.ne0) : cutL (qL q) ≠ 0 := cutL_ne h
theorem Q4.pl_is {q : Q4} (h : q.ne0) : IsPQ q.pl := plL_is h
theorem IsPQ.ne {q : Q4} (h : IsPQ q) : q.ne0 := h.2.ne
theorem IsPQ.self {q : Q4} (h : IsPQ q) : q.pl = q := Q4.of_qL (by rw [← qL_pl]; exact (plL_self h).1)
theorem BQ.mono {B C : Nat} {q : Q4} (h : BQ B q) (hc : B ≤ C) : BQ C q := by
  have := Nat.pow_le_pow_right (n := 2) (by decide) hc
  exact ⟨Nat.lt_of_lt_of_le h.1 this, Nat.lt_of_lt_of_le h.2.1 this, Nat.lt_of_lt_of_le h.2.2.1 this, Nat.lt_of_lt_of_le h.2.2.2 this⟩
theorem BQ.all {B : Nat} {q : Q4} (h : BQ B q) : ∀ t ∈ qL q, t.natAbs < 2 ^ B := by
  intro t ht
  simp only [qL, List.mem_cons, List.not_mem_nil, or_false] at ht
  rcases ht with rfl | rfl | rfl | rfl
  · exact h.1
  · exact h.2.1
  · exact h.2.2.1
  · exact h.2.2.2
theorem BQ.of_all {B : Nat} {q : Q4} (h : ∀ t ∈ qL q, t.natAbs < 2 ^ B) : BQ B q := ⟨h _ (by simp), h _ (by simp), h _ (by simp), h _ (by simp)⟩
theorem BQ.pl {B : Nat} {q : Q4} (h : BQ B q) (h0 : q.ne0) : BQ B q.pl := by
  refine BQ.of_all fun t ht => ?_
  rw [← qL_pl] at ht
  obtain ⟨u, hu, rfl⟩ := List.mem_map.mp ht
  have hc := cutL_ne h0
  have hb := h.all u hu
  have hd := Int.mul_ediv_cancel' (cutL_dvd (zs := qL q) hu)
  have : u.natAbs = (cutL (qL q)).natAbs * (u / cutL (qL q)).natAbs := by
    rw [← Int.natAbs_mul, hd]
  have h1 : 1 ≤ (cutL (qL q)).natAbs := by omega
  have := Nat.le_mul_of_pos_left (u / cutL (qL q)).natAbs h1
  omega
theorem abs4a {a b c d : Int} {N : Nat} (ha : a.natAbs < N) (hb : b.natAbs < N) (hc : c.natAbs < N) (hd : d.natAbs < N) : (a - b - c - d).natAbs < 4 * N := by omega
theorem abs4b {a b c d : Int} {N : Nat} (ha : a.natAbs < N) (hb : b.natAbs < N) (hc : c.natAbs < N) (hd : d.natAbs < N) : (a + b + c - d).natAbs < 4 * N := by omega
theorem BQ.mul {B C : Nat} {p q : Q4} (hp : BQ B p) (hq : BQ C q) : BQ (B + C + 2) (p.mul q) := by
  have m : ∀ {i j : Int}, i.natAbs < 2 ^ C → j.natAbs < 2 ^ B → (i * j).natAbs < 2 ^ (B + C) := fun hi hj => by
    rw [Int.natAbs_mul, Nat.add_comm, Nat.pow_add]
    exact Nat.mul_lt_mul'' hi hj
  have e : 2 ^ (B + C + 2) = 4 * 2 ^ (B + C) := by rw [Nat.pow_add]; omega
  obtain ⟨a1, a2, a3, a4⟩ := hp
  obtain ⟨b1, b2, b3, b4⟩ := hq
  unfold BQ Q4.mul
  rw [e]
  exact ⟨abs4a (m b1 a1) (m b2 a2) (m b3 a3) (m b4 a4), abs4b (m b1 a2) (m b2 a1) (m b3 a4) (m b4 a3), abs4b (m b1 a3) (m b3 a1) (m b4 a2) (m b2 a4), abs4b (m b1 a4) (m b4 a1) (m b2 a3) (m b3 a2)⟩
theorem BQ.conj {B : Nat} {q : Q4} (h : BQ B q) : BQ B q.conj := by
  obtain ⟨h1, h2, h3, h4⟩ := h
  unfold BQ Q4.conj
  simp only [Int.natAbs_neg]
  exact ⟨h1, h2, h3, h4⟩
theorem Q4.nI_mul (p q : Q4) : (p.mul q).nI = p.nI * q.nI := by
  unfold Q4.nI Q4.mul
  grind
theorem Q4.mul_ne {p q : Q4} (hp : p.ne0) (hq : q.ne0) : (p.mul q).ne0 := by
  rw [Q4.ne0_iff] at *
  rw [Q4.nI_mul]
  exact Int.mul_ne_zero hp hq
theorem Q4.conj_ne {p : Q4} (hp : p.ne0) : p.conj.ne0 := by
  rw [Q4.ne0_iff] at *
  have : p.conj.nI = p.nI := by unfold Q4.nI Q4.conj; grind
  rw [this]
  exact hp
/-- rows along one line have the same row without a common divisor -/
theorem Q4.pl_eq {p q : Q4} {m n : Int} (hm : m ≠ 0) (hn : n ≠ 0) (hp : p.ne0) (hq : q.ne0) (h : p.smul m = q.smul n) : p.pl = q.pl := by
  refine Q4.of_qL (pl_uniqueL (m := m * cutL (qL p)) (n := n * cutL (qL q)) (Int.mul_ne_zero hm (Q4.cut_ne hp)) ?_ (Q4.pl_is hq) (Q4.pl_is hp))
  rw [qL_smul, qL_smul]
  have e1 : p.pl.smul (m * cutL (qL p)) = p.smul m := by
    conv => rhs; rw [← Q4.pl_mul p]
    exact Q4.ext' (Int.mul_assoc _ _ _) (Int.mul_assoc _ _ _) (Int.mul_assoc _ _ _) (Int.mul_assoc _ _ _)
  have e2 : q.pl.smul (n * cutL (qL q)) = q.smul n := by
    conv => rhs; rw [← Q4.pl_mul q]
    exact Q4.ext' (Int.mul_assoc _ _ _) (Int.mul_assoc _ _ _) (Int.mul_assoc _ _ _) (Int.mul_assoc _ _ _)
  rw [e1, e2, h]
theorem Q4.mul_smul_l (m : Int) (p q : Q4) : (p.smul m).mul q = (p.mul q).smul m := by
  unfold Q4.mul Q4.smul
  refine Q4.ext' ?_ ?_ ?_ ?_ <;> dsimp only <;> grind
theorem Q4.mul_smul_r (m : Int) (p q : Q4) : p.mul (q.smul m) = (p.mul q).smul m := by
  unfold Q4.mul Q4.smul
  refine Q4.ext' ?_ ?_ ?_ ?_ <;> dsimp only <;> grind
theorem Q4.conj_smul (m : Int) (p : Q4) : (p.smul m).conj = p.conj.smul m := by
  unfold Q4.conj Q4.smul
  refine Q4.ext' ?_ ?_ ?_ ?_ <;> dsimp only <;> grind
theorem Q4.mul_assoc (p q r : Q4) : (p.mul q).mul r = p.mul (q.mul r) := by
  unfold Q4.mul
  refine Q4.ext' ?_ ?_ ?_ ?_ <;> dsimp only <;> grind
theorem Q4.conj_mul (p q : Q4) : (p.mul q).conj = q.conj.mul p.conj := by
  unfold Q4.mul Q4.conj
  refine Q4.ext' ?_ ?_ ?_ ?_ <;> dsimp only <;> grind
theorem Q4.smul_one (p : Q4) : p.smul 1 = p := Q4.ext' (Int.one_mul _) (Int.one_mul _) (Int.one_mul _) (Int.one_mul _)
theorem Q4.pl_mul_l {p q : Q4} (hp : p.ne0) (hq : q.ne0) : (p.pl.mul q).pl = (p.mul q).pl := by
  have hp' := (Q4.pl_is hp).ne
  refine Q4.pl_eq (m := cutL (qL p)) (n := 1) (Q4.cut_ne hp) (by decide) (Q4.mul_ne hp' hq) (Q4.mul_ne hp hq) ?_
  rw [← Q4.mul_smul_l, Q4.pl_mul, Q4.smul_one]
theorem Q4.pl_mul_r {p q : Q4} (hp : p.ne0) (hq : q.ne0) : (p.mul q.pl).pl = (p.mul q).pl := by
  have hq' := (Q4.pl_is hq).ne
  refine Q4.pl_eq (m := cutL (qL q)) (n := 1) (Q4.cut_ne hq) (by decide) (Q4.mul_ne hp hq') (Q4.mul_ne hp hq) ?_
  rw [← Q4.mul_smul_r, Q4.pl_mul, Q4.smul_one]
theorem Q4.pl_conj {p : Q4} (hp : p.ne0) : p.pl.conj.pl = p.conj.pl := by
  have hp' := (Q4.pl_is hp).ne
  refine Q4.pl_eq (m := cutL (qL p)) (n := 1) (Q4.cut_ne hp) (by decide) (Q4.conj_ne hp') (Q4.conj_ne hp) ?_
  rw [← Q4.conj_smul, Q4.pl_mul, Q4.smul_one]
def Q4.one : Q4 := ⟨1, 0, 0, 0⟩
theorem Q4.one_is : IsPQ Q4.one := ⟨by decide, .inl (by decide)⟩
theorem Q4.one_pl : Q4.one.pl = Q4.one := Q4.one_is.self
theorem Q4.one_ne : Q4.one.ne0 := by rw [Q4.ne0_iff]; decide
theorem Q4.mul_conj_pl {p : Q4} (hp : p.ne0) : (p.mul p.conj).pl = Q4.one ∧ (p.conj.mul p).pl = Q4.one := by
  have h0 := Q4.ne0_iff.mp hp
  have e1 : (p.mul p.conj).smul 1 = Q4.one.smul p.nI := by
    unfold Q4.mul Q4.smul Q4.conj Q4.one Q4.nI
    refine Q4.ext' ?_ ?_ ?_ ?_ <;> dsimp only <;> grind
  have e2 : (p.conj.mul p).smul 1 = Q4.one.smul p.nI := by
    unfold Q4.mul Q4.smul Q4.conj Q4.one Q4.nI
    refine Q4.ext' ?_ ?_ ?_ ?_ <;> dsimp only <;> grind
  have a := Q4.pl_eq (by decide) h0 (Q4.mul_ne hp (Q4.conj_ne hp)) Q4.one_ne e1
  have b := Q4.pl_eq (by decide) h0 (Q4.mul_ne (Q4.conj_ne hp) hp) Q4.one_ne e2
  rw [Q4.one_pl] at a b
  exact ⟨a, b⟩
theorem Q4.conj_conj (p : Q4) : p.conj.conj = p := by
  unfold Q4.conj
  refine Q4.ext' ?_ ?_ ?_ ?_ <;> dsimp only <;> grind
/-! rows turned -/
def Q4.n (q : Q4) : Rat := (q.w : Rat) * q.w + (q.x : Rat) * q.x + (q.y : Rat) * q.y + (q.z : Rat) * q.z
theorem Q4.n_eq (q : Q4) : q.n = ((q.nI : Int) : Rat) := by
  unfold Q4.n Q4.nI
  simp only [Rat.intCast_add, Rat.intCast_mul]
theorem Q4.n_ne {q : Q4} (h : q.ne0) : q.n ≠ 0 := by
  rw [Q4.n_eq]
  intro e
  exact Q4.ne0_iff.mp h (Rat.intCast_eq_zero_iff.mp e)
def rN (w x y z a b c d : Rat) : Rat := (w * w - (x * x + y * y + z * z)) * a + 2 * (x * b + y * c + z * d)
/-- one number of a turned row, times the square of the turning -/
def rot1 (w x y z v1 v2 v3 me lead aside : Rat) : Rat := (w * w - (x * x + y * y + z * z)) * me + 2 * (x * v1 + y * v2 + z * v3) * lead + 2 * w * aside
def Q4.rotN (q : Q4) (v : V3) : V3 :=
  ⟨rot1 q.w q.x q.y q.z v.a v.b v.c v.a q.x (q.y * v.c - q.z * v.b), rot1 q.w q.x q.y q.z v.a v.b v.c v.b q.y (q.z * v.a - q.x * v.c), rot1 q.w q.x q.y q.z v.a v.b v.c v.c q.z (q.x * v.b - q.y * v.a)⟩
def Q4.rot (q : Q4) (v : V3) : V3 := ⟨(q.rotN v).a / q.n, (q.rotN v).b / q.n, (q.rotN v).c / q.n⟩
theorem rotN_mul (p q : Q4) (v : V3) : (p.mul q).rotN v = q.rotN (p.rotN v) := by
  unfold Q4.rotN Q4.mul rot1
  refine V3.ext' ?_ ?_ ?_ <;> dsimp only <;> simp only [Rat.intCast_add, Rat.intCast_sub, Rat.intCast_mul] <;> grind
theorem n_mul (p q : Q4) : (p.mul q).n = p.n * q.n := by
  rw [Q4.n_eq, Q4.n_eq, Q4.n_eq, Q4.nI_mul, Rat.intCast_mul]
theorem rotN_div (q : Q4) (v : V3) (t : Rat) (h : t ≠ 0) : q.rotN ⟨v.a / t, v.b / t, v.c / t⟩ = ⟨(q.rotN v).a / t, (q.rotN v).b / t, (q.rotN v).c / t⟩ := by
  unfold Q4.rotN rot1
  refine V3.ext' ?_ ?_ ?_ <;> dsimp only <;> grind
theorem rot_mul {p q : Q4} (hp : p.ne0) (hq : q.ne0) (v : V3) : (p.mul q).rot v = q.rot (p.rot v) := by
  have h1 := Q4.n_ne hp
  have h2 := Q4.n_ne hq
  show (⟨_, _, _⟩ : V3) = ⟨(q.rotN ⟨(p.rotN v).a / p.n, (p.rotN v).b / p.n, (p.rotN v).c / p.n⟩).a / q.n, (q.rotN ⟨(p.rotN v).a / p.n, (p.rotN v).b / p.n, (p.rotN v).c / p.n⟩).b / q.n, (q.rotN ⟨(p.rotN v).a / p.n, (p.rotN v).b / p.n, (p.rotN v).c / p.n⟩).c / q.n⟩
  rw [rotN_div q _ p.n h1, rotN_mul, n_mul]
  refine V3.ext' ?_ ?_ ?_ <;> dsimp only <;> grind
theorem rot_smul {q : Q4} {m : Int} (hm : m ≠ 0) (hq : q.ne0) (v : V3) : (q.smul m).rot v = q.rot v := by
  have hm' : (m : Rat) ≠ 0 := fun e => hm (Rat.intCast_eq_zero_iff.mp e)
  have h1 := Q4.n_ne hq
  have en : (q.smul m).n = (m : Rat) * m * q.n := by
    unfold Q4.n Q4.smul
    simp only [Rat.intCast_mul]
    grind
  have er : (q.smul m).rotN v = ⟨(m : Rat) * m * (q.rotN v).a, (m : Rat) * m * (q.rotN v).b, (m : Rat) * m * (q.rotN v).c⟩ := by
    unfold Q4.rotN Q4.smul rot1
    simp only [Rat.intCast_mul]
    refine V3.ext' ?_ ?_ ?_ <;> dsimp only <;> grind
  unfold Q4.rot
  rw [en, er]
  refine V3.ext' ?_ ?_ ?_ <;> dsimp only <;> grind
theorem rot_pl {q : Q4} (hq : q.ne0) (v : V3) : q.pl.rot v = q.rot v := by
  conv => rhs; rw [← Q4.pl_mul q]
  rw [rot_smul (Q4.cut_ne hq) (Q4.pl_is hq).ne]
/-- turnings that turn three axes alike are along one line -/
theorem rot_inj {p q : Q4} (hp : IsPQ p) (hq : IsPQ q) (h1 : p.rot ⟨1, 0, 0⟩ = q.rot ⟨1, 0, 0⟩) (h2 : p.rot ⟨0, 1, 0⟩ = q.rot ⟨0, 1, 0⟩) (h3 : p.rot ⟨0, 0, 1⟩ = q.rot ⟨0, 0, 1⟩) : p = q := by
  have n1 := Q4.n_ne hp.ne
  have n2 := Q4.n_ne hq.ne
  have N1 := Q4.n_eq p
  have N2 := Q4.n_eq q
  unfold Q4.rot Q4.rotN rot1 at h1 h2 h3
  simp only [V3.mk.injEq] at h1 h2 h3
  obtain ⟨a1, a2, a3⟩ := h1
  obtain ⟨b1, b2, b3⟩ := h2
  obtain ⟨c1, c2, c3⟩ := h3
  have key : ∀ {s t : Rat}, s / p.n = t / q.n → s * q.n = t * p.n := fun h => by grind
  have a1 := key a1
  have a2 := key a2
  have a3 := key a3
  have b1 := key b1
  have b2 := key b2
  have b3 := key b3
  have c1 := key c1
  have c2 := key c2
  have c3 := key c3
  clear key
  have P := N1
  have Q := N2
  unfold Q4.n at P Q
  generalize hpn : p.n = pn at *
  generalize hqn : q.n = qn at *
  have PN : (p.w : Rat) * p.w + (p.x : Rat) * p.x + (p.y : Rat) * p.y + (p.z : Rat) * p.z = pn := by rw [← hpn]; rfl
  have QN : (q.w : Rat) * q.w + (q.x : Rat) * q.x + (q.y : Rat) * q.y + (q.z : Rat) * q.z = qn := by rw [← hqn]; rfl
  clear P Q
  have ww : (p.w : Rat) * p.w * qn = (q.w : Rat) * q.w * pn := by grind
  have xx : (p.x : Rat) * p.x * qn = (q.x : Rat) * q.x * pn := by grind
  have yy : (p.y : Rat) * p.y * qn = (q.y : Rat) * q.y * pn := by grind
  have zz : (p.z : Rat) * p.z * qn = (q.z : Rat) * q.z * pn := by grind
  have wx : (p.w : Rat) * p.x * qn = (q.w : Rat) * q.x * pn := by grind
  have wy : (p.w : Rat) * p.y * qn = (q.w : Rat) * q.y * pn := by grind
  have wz : (p.w : Rat) * p.z * qn = (q.w : Rat) * q.z * pn := by grind
  have xy : (p.x : Rat) * p.y * qn = (q.x : Rat) * q.y * pn := by grind
  have xz : (p.x : Rat) * p.z * qn = (q.x : Rat) * q.z * pn := by grind
  have yz : (p.y : Rat) * p.z * qn = (q.y : Rat) * q.z * pn := by grind
  have cast : ∀ {a b c d : Int}, (a : Rat) * b * qn = (c : Rat) * d * pn → a * b * q.nI = c * d * p.nI := fun {a b c d} h => by
    rw [N1, N2] at h
    have : ((a * b * q.nI : Int) : Rat) = ((c * d * p.nI : Int) : Rat) := by
      simp only [Rat.intCast_mul]
      exact h
    exact Rat.intCast_inj.mp this
  have hpI := Q4.ne0_iff.mp hp.ne
  have hqI := Q4.ne0_iff.mp hq.ne
  have ww := cast ww
  have xx := cast xx
  have yy := cast yy
  have zz := cast zz
  have wx := cast wx
  have wy := cast wy
  have wz := cast wz
  have xy := cast xy
  have xz := cast xz
  have yz := cast yz
  have fin : ∀ {s t : Int}, s ≠ 0 → s * s * q.nI = t * t * p.nI → p.w * s * q.nI = q.w * t * p.nI → p.x * s * q.nI = q.x * t * p.nI → p.y * s * q.nI = q.y * t * p.nI → p.z * s * q.nI = q.z * t * p.nI → p = q := fun {s t} hs e0 e1 e2 e3 e4 => by
    have ht : t ≠ 0 := fun e => by
      subst e
      rw [Int.zero_mul, Int.zero_mul] at e0
      exact Int.mul_ne_zero (Int.mul_ne_zero hs hs) hqI e0
    refine Q4.of_qL (pl_uniqueL (m := s * q.nI) (n := t * p.nI) (Int.mul_ne_zero hs hqI) ?_ hq hp)
    rw [qL_smul, qL_smul]
    unfold Q4.smul
    simp only [qL, List.cons.injEq, and_true]
    refine ⟨by grind, by grind, by grind, by grind⟩
  have comm : ∀ {a b c d : Int}, a * b * q.nI = c * d * p.nI → b * a * q.nI = d * c * p.nI := fun h => by grind
  by_cases h1 : p.w = 0
  · by_cases h2 : p.x = 0
    · by_cases h3 : p.y = 0
      · by_cases h4 : p.z = 0
        · refine absurd ?_ hp.ne
          intro t ht
          simp only [qL, List.mem_cons, List.not_mem_nil, or_false] at ht
          rcases ht with rfl | rfl | rfl | rfl <;> assumption
        · exact fin h4 zz wz xz yz zz
      · exact fin h3 yy wy xy yy (comm yz)
    · exact fin h2 xx wx xx (comm xy) (comm xz)
  · exact fin h1 ww ww (comm wx) (comm wy) (comm wz)
end K06

set_option Elab.async false
set_option linter.all false
set_option maxRecDepth 100000
set_option maxHeartbeats 4000000
namespace K06
open PySem PySem.Spec PyProof.Rows L2 Mi TL
/-! ### the program's turnings -/
theorem dEq_l4 (a b c d : Int) : dEq (.lst [.int a, .int b, .int c, .int d]) (.lst [.int a, .int b, .int c, .int d]) = some true := by
  have s : SeqAt.shaped (pd (.lst [.int a, .int b, .int c, .int d])) = true := rfl
  have f : flat0 (.lst [.int a, .int b, .int c, .int d]) = true := rfl
  have e : PyData.eqv (pd (.lst [.int a, .int b, .int c, .int d])) (pd (.lst [.int a, .int b, .int c, .int d])) = true := by
    show PyData.eqv (.list [.int a, .int b, .int c, .int d]) (.list [.int a, .int b, .int c, .int d]) = true
    simp [PyData.eqv, PyData.eqvAll]
  simp only [dEq, f, s, Bool.true_and, if_true, e]
theorem dEq_q (p q : Q4) : dEq (qD p) (qD q) = some (decide (p = q)) := by
  have s : ∀ q : Q4, SeqAt.shaped (pd (qD q)) = true := fun q => rfl
  have f : ∀ q : Q4, flat0 (qD q) = true := fun q => rfl
  have e : PyData.eqv (pd (qD p)) (pd (qD q)) = decide (p.w = q.w ∧ p.x = q.x ∧ p.y = q.y ∧ p.z = q.z) := by
    show PyData.eqv (.tuple [.int p.w, .int p.x, .int p.y, .int p.z]) (.tuple [.int q.w, .int q.x, .int q.y, .int q.z]) = _
    by_cases h1 : p.w = q.w <;> by_cases h2 : p.x = q.x <;> by_cases h3 : p.y = q.y <;> by_cases h4 : p.z = q.z <;> simp [PyData.eqv, PyData.eqvAll, h1, h2, h3, h4]
  simp only [dEq, f, s, Bool.true_and, if_true, e]
  exact congrArg some (decide_eq_decide.mpr Q4.eq_iff.symm)
theorem fourw_ok {F k : Nat} {q : Q4} {st : Mi.Store} (hs : SW st) : callF Tk F (k + 2) 13 [qD q] st = some (.bl true, st) := by
  have hz4 : (4 : Nat) ≤ sizeLine := by decide
  have e := gen_all (c := callF Tk F (k + 1)) (env := [some (qD q), none]) (elt := .call 9 (.cons (.var 1) .nil)) (tg := .nm 1) (it := .seq (.var 0)) (own := [("part", 1)]) (st := st) (xs := [.int q.w, .int q.x, .int q.y, .int q.z]) (p := fun _ => true) rfl rfl hz4 (fun x hx => by
    simp only [List.mem_cons, List.not_mem_nil, or_false] at hx
    rcases hx with rfl | rfl | rfl | rfl <;> simp [turnF, bindT, wipeE, evTo, evE, evEs, whole_ok (F := F) (k := k) hs])
  rw [call_at (d := i_are_four_wholes) rfl]
  refine (run_ret (v := .bl true) (st' := st) rfl ⟨rfl, by decide⟩ ?_).trans (cut_pl (fun k => by simp) rfl hs rfl)
  have n1 : isiF (qD q) .tuple = some true := rfl
  have n2 : biF .len [qD q] st = some (.int 4) := rfl
  have n3 : cop .eq (.int 4) (.int 4) = some true := by rw [eq_int]; rfl
  have gen : ∀ C : IE, evE (callF Tk F (k + 1)) [some (qD q), none] C st = some (.bl true, st) → evE (callF Tk F (k + 1)) [some (qD q), none] (.andv (.isi (.var 0) .tuple) (.andv (.cmp .eq (.bi .len (.cons (.var 0) .nil)) (.cst (.int 4))) (.one C))) st = some (.bl true, st) := by
    intro C e'
    simp [evE, evEs, truth, n1, n2, n3, e']
  exact gen _ e
theorem isturn_ok {F k : Nat} {q : Q4} {st : Mi.Store} (hs : SW st) (h : IsPQ q) (hb : BQ 8000 q) : callF Tk F (k + 3) 14 [qD q] st = some (.bl true, st) := by
  have h1 := fourw_ok (F := F) (k := k) (q := q) hs
  have h2 := forwardL_ok (F := F) (k := k) hs (qD_row q) h.ne hb.all q4_len
  rw [qL_pl, h.self] at h2
  rw [call_at (d := i_is_turning) rfl]
  refine (run_ret (v := .bl true) (st' := st) rfl ⟨rfl, by decide⟩ ?_).trans (cut_pl (fun k => by simp) rfl hs rfl)
  have n1 : biF .any [qD q] st = some (.bl true) := by
    have : ([q.w, q.x, q.y, q.z].any fun i => decide (i ≠ 0)) = true := by
      refine List.any_eq_true.mpr ?_
      by_cases hh : ∃ t ∈ qL q, t ≠ 0
      · obtain ⟨t, ht, h0⟩ := hh
        exact ⟨t, ht, by simpa using h0⟩
      · exact absurd (fun t ht => by
          by_cases h1 : t = 0
          · exact h1
          · exact absurd ⟨t, ht, h1⟩ hh) h.ne
    show (intsD [.int q.w, .int q.x, .int q.y, .int q.z]).map (fun l => Mi.D.bl (l.any fun i => decide (i ≠ 0))) = _
    rw [show intsD [.int q.w, .int q.x, .int q.y, .int q.z] = some [q.w, q.x, q.y, q.z] from rfl, Option.map_some, this]
  have n2 : biF .list [qD q] st = some (.lst ((qL q).map Mi.D.int)) := rfl
  have n3 : cop .eq (.lst ((qL q).map Mi.D.int)) (.lst ((qL q).map Mi.D.int)) = some true := cop_eq_of (dEq_l4 _ _ _ _)
  show evE (callF Tk F (k + 2)) [some (qD q)] _ st = _
  simp only [evE, evEs, List.getElem?_cons_zero, h1, h2, n1, n2, n3, truth]
theorem wcrossT_ok {F k : Nat} {x1 x2 x3 y1 y2 y3 : Int} {st : Mi.Store} (hs : SW st) (hx : x1.natAbs < 2 ^ 5000 ∧ x2.natAbs < 2 ^ 5000 ∧ x3.natAbs < 2 ^ 5000) (hy : y1.natAbs < 2 ^ 5000 ∧ y2.natAbs < 2 ^ 5000 ∧ y3.natAbs < 2 ^ 5000) :
    callF Tk F (k + 1) 8 [.tup [.int x1, .int x2, .int x3], .lst [.int y1, .int y2, .int y3]] st = some (.lst [.int (x2 * y3 - x3 * y2), .int (x3 * y1 - x1 * y3), .int (x1 * y2 - x2 * y1)], st) := by
  have mm : ∀ {x y : Int}, x.natAbs < 2 ^ 5000 → y.natAbs < 2 ^ 5000 → bop .mul (.int x) (.int y) = some (.int (x * y)) := fun hx hy => mul_ok (n := 5000) (m := 5000) (log_nat hx) (log_nat hy) (by decide)
  have b1 : ∀ i j : Int, bop .sub (.int i) (.int j) = some (.int (i - j)) := fun _ _ => rfl
  have c1 := mm hx.2.1 hy.2.2
  have c2 := mm hx.2.2 hy.2.1
  have c3 := mm hx.2.2 hy.1
  have c4 := mm hx.1 hy.2.2
  have c5 := mm hx.1 hy.2.1
  have c6 := mm hx.2.1 hy.1
  have hz : (3 : Nat) ≤ sizeLine := by decide
  have body : evSs (callF Tk F k) F i_whole_cross.body [some (.tup [.int x1, .int x2, .int x3]), some (.lst [.int y1, .int y2, .int y3]), none, none, none, none, none, none] st = some (.ret (.lst [.int (x2 * y3 - x3 * y2), .int (x3 * y1 - x1 * y3), .int (x1 * y2 - x2 * y1)]) st) := by
    simp [i_whole_cross, evSs, evS, evE, evEs, asgTs, c1, c2, c3, c4, c5, c6, b1, hz]
  exact (call_body (d := i_whole_cross) rfl ⟨rfl, by decide⟩ body).trans (cut_pl (fun k => by simp) rfl hs rfl)
theorem back_ok {F k B : Nat} {q : Q4} {st : Mi.Store} (hs : SW st) (h : q.ne0) (hb : BQ B q) (hB : B ≤ 8000) : callF Tk F (k + 3) 19 [qD q] st = some (qD q.conj.pl, st) := by
  have h2 := forwardL_ok (F := F) (k := k) (v := qD q.conj) hs (qD_row q.conj) (Q4.conj_ne h) (hb.conj.mono hB).all q4_len
  rw [qL_pl] at h2
  have hz : (4 : Nat) ≤ sizeLine := by decide
  have b1 : biF .tuple [.lst ((qL q.conj.pl).map Mi.D.int)] st = some (qD q.conj.pl) := rfl
  have e2 : callF Tk F (k + 2) 5 [.tup [.int q.w, .int (-q.x), .int (-q.y), .int (-q.z)]] st = some (.lst ((qL q.conj.pl).map Mi.D.int), st) := h2
  generalize Mi.D.lst ((qL q.conj.pl).map Mi.D.int) = L at *
  have body : evSs (callF Tk F (k + 2)) F i_back_parts.body [some (qD q), none, none, none, none] st = some (.ret (qD q.conj.pl) st) := by
    simp [i_back_parts, qD, evSs, evS, evE, evEs, asgTs, hz, e2]
    rw [b1]
    rfl
  exact (call_body (d := i_back_parts) rfl ⟨rfl, by decide⟩ body).trans (cut_pl (fun k => by simp [qD]) rfl hs rfl)
theorem join_ok {F k B : Nat} {p q : Q4} {st : Mi.Store} (hs : SW st) (hp : p.ne0) (hq : q.ne0) (bp : BQ B p) (bq : BQ B q) (hB : B ≤ 3000) : callF Tk F (k + 3) 18 [qD p, qD q] st = some (qD (p.mul q).pl, st) := by
  have h2 := forwardL_ok (F := F) (k := k) (v := qD (p.mul q)) hs (qD_row _) (Q4.mul_ne hp hq) ((bp.mul bq).mono (by omega)).all q4_len
  rw [qL_pl] at h2
  have hz : (4 : Nat) ≤ sizeLine := by decide
  have b1 : biF .tuple [.lst ((qL (p.mul q).pl).map Mi.D.int)] st = some (qD (p.mul q).pl) := rfl
  have m : ∀ {x y : Int}, x.natAbs < 2 ^ B → y.natAbs < 2 ^ B → bop .mul (.int x) (.int y) = some (.int (x * y)) := fun hx hy => mul_ok (n := B) (m := B) (log_nat hx) (log_nat hy) (by omega)
  obtain ⟨a1, a2, a3, a4⟩ := bp
  obtain ⟨c1, c2, c3, c4⟩ := bq
  have b2 : ∀ i j : Int, bop .sub (.int i) (.int j) = some (.int (i - j)) := fun _ _ => rfl
  have b3 : ∀ i j : Int, bop .add (.int i) (.int j) = some (.int (i + j)) := fun _ _ => rfl
  have e2 : callF Tk F (k + 2) 5 [.tup [.int (p.mul q).w, .int (p.mul q).x, .int (p.mul q).y, .int (p.mul q).z]] st = some (.lst ((qL (p.mul q).pl).map Mi.D.int), st) := h2
  generalize Mi.D.lst ((qL (p.mul q).pl).map Mi.D.int) = L at *
  have hR : (∀ k, qD (p.mul q).pl ≠ .cell k) ∧ ∀ n, fitD n (qD (p.mul q).pl) = true := ⟨fun k => by simp [qD], fun n => rfl⟩
  generalize qD (p.mul q).pl = R at *
  have gen : ∀ (xs : List Mi.D) (C : IEs) (env : Mi.Env), evEs (callF Tk F (k + 2)) env C st = some (xs, st) → xs.length = 4 → .tup xs = Mi.D.tup [.int (p.mul q).w, .int (p.mul q).x, .int (p.mul q).y, .int (p.mul q).z] → evS (callF Tk F (k + 2)) F (.ret (.bi .tuple (.cons (.call 5 (.cons (.tup C) .nil)) .nil))) env st = some (.ret R st) := by
    intro xs C env h hl hx
    have hl' : xs.length ≤ sizeLine := by rw [hl]; exact hz
    simp only [evS, evE, evEs, h, hl', if_true, hx, e2, b1]
  have body : evSs (callF Tk F (k + 2)) F i_joined_parts.body [some (qD p), some (qD q), none, none, none, none, none, none, none, none] st = some (.ret R st) := by
    unfold i_joined_parts
    refine (ss_nxt (env' := [some (qD p), some (qD q), some (.int p.w), some (.int p.x), some (.int p.y), some (.int p.z), none, none, none, none]) (st' := st) (by simp [qD, evS, evE, asgTs])).trans ?_
    refine (ss_nxt (env' := [some (qD p), some (qD q), some (.int p.w), some (.int p.x), some (.int p.y), some (.int p.z), some (.int q.w), some (.int q.x), some (.int q.y), some (.int q.z)]) (st' := st) (by simp [qD, evS, evE, asgTs])).trans ?_
    refine ss_ret (gen [.int (q.w * p.w - q.x * p.x - q.y * p.y - q.z * p.z), .int (q.w * p.x + q.x * p.w + q.y * p.z - q.z * p.y), .int (q.w * p.y + q.y * p.w + q.z * p.x - q.x * p.z), .int (q.w * p.z + q.z * p.w + q.x * p.y - q.y * p.x)] _ _ (by simp [evE, evEs, m, a1, a2, a3, a4, c1, c2, c3, c4, b2, b3]) rfl rfl)
  exact (call_body (d := i_joined_parts) rfl ⟨rfl, by decide⟩ body).trans (cut_pl hR.1 (hR.2 _) hs rfl)
/-! ### rows turned by the program -/
theorem nb_mul {a b : Int} {n m : Nat} (ha : a.natAbs < 2 ^ n) (hb : b.natAbs < 2 ^ m) : (a * b).natAbs < 2 ^ (n + m) := by
  rw [Int.natAbs_mul, Nat.pow_add]
  exact Nat.mul_lt_mul'' ha hb
theorem nb_add {a b : Int} {n : Nat} (ha : a.natAbs < 2 ^ n) (hb : b.natAbs < 2 ^ n) : (a + b).natAbs < 2 ^ (n + 1) := by
  rw [Nat.pow_succ]
  omega
theorem nb_sub {a b : Int} {n : Nat} (ha : a.natAbs < 2 ^ n) (hb : b.natAbs < 2 ^ n) : (a - b).natAbs < 2 ^ (n + 1) := by
  rw [Nat.pow_succ]
  omega
theorem nb_mono {a : Int} {n m : Nat} (ha : a.natAbs < 2 ^ n) (h : n ≤ m) : a.natAbs < 2 ^ m := Nat.lt_of_lt_of_le ha (Nat.pow_le_pow_right (by decide) h)
theorem nb_bop {a b : Int} {n m : Nat} (ha : a.natAbs < 2 ^ n) (hb : b.natAbs < 2 ^ m) (h : n + m < 100000000) : bop .mul (.int a) (.int b) = some (.int (a * b)) := mul_ok (log_nat ha) (log_nat hb) h
theorem led_val {L w x y z n1 n2 n3 me le as : Int} {Lr v1 v2 v3 mr ar : Rat} (hL : (L : Rat) = Lr) (hL0 : Lr ≠ 0) (h1 : (n1 : Rat) = Lr * v1) (h2 : (n2 : Rat) = Lr * v2) (h3 : (n3 : Rat) = Lr * v3) (hm : (me : Rat) = Lr * mr) (ha : (as : Rat) = Lr * ar)
    (hn : (w : Rat) * w + (x : Rat) * x + (y : Rat) * y + (z : Rat) * z ≠ 0) :
    Rat.divInt ((w * w - (x * x + y * y + z * z)) * me + 2 * (x * n1 + y * n2 + z * n3) * le + 2 * w * as) (L * (w * w + (x * x + y * y + z * z))) = rot1 w x y z v1 v2 v3 mr le ar / ((w : Rat) * w + (x : Rat) * x + (y : Rat) * y + (z : Rat) * z) := by
  rw [Rat.divInt_eq_div]
  have two : ((2 : Int) : Rat) = 2 := rfl
  simp only [Rat.intCast_add, Rat.intCast_sub, Rat.intCast_mul, hL, h1, h2, h3, hm, ha, two]
  unfold rot1
  generalize (w : Rat) = w at *
  generalize (x : Rat) = x at *
  generalize (y : Rat) = y at *
  generalize (z : Rat) = z at *
  generalize (le : Rat) = le at *
  have num : (w * w - (x * x + y * y + z * z)) * (Lr * mr) + 2 * (x * (Lr * v1) + y * (Lr * v2) + z * (Lr * v3)) * le + 2 * w * (Lr * ar) = Lr * ((w * w - (x * x + y * y + z * z)) * mr + 2 * (x * v1 + y * v2 + z * v3) * le + 2 * w * ar) := by grind
  have den : w * w + (x * x + y * y + z * z) = w * w + x * x + y * y + z * z := by grind
  rw [num, den]
  have go : ∀ X N : Rat, N ≠ 0 → Lr * X / (Lr * N) = X / N := fun X N h => by grind
  exact go _ _ hn
theorem led_ok {F k : Nat} {q : Q4} {v : V3} {st : Mi.Store} (hs : SW st) (h : q.ne0) (bq : BQ 100 q) (hv : BV 1000 v) : callF Tk F (k + 2) 17 [qD q, tD v] st = some (tD (q.rot v), st) := by
  have o1 : callF Tk F (k + 1) 3 [tD v] st = some (.tup [.lst [.int (upN (upL v) v.a), .int (upN (upL v) v.b), .int (upN (upL v) v.c)], .int (upL v : Nat)], st) := vover_ok (F := F) (k := k) hs (hv.mono (by decide))
  obtain ⟨a1, a2, a3⟩ := up_lt hv
  have hLb := upL_lt hv
  obtain ⟨e1, e2, e3⟩ := up_eq v
  have hL0 := upL_ne v
  have hLp : 0 < upL v := L3_pos v.a v.b v.c
  have hn := Q4.n_ne h
  have hnI := Q4.ne0_iff.mp h
  obtain ⟨w, x, y, z⟩ := q
  obtain ⟨bw, bx, by', bz⟩ := bq
  dsimp only at bw bx by' bz
  unfold Q4.rot Q4.rotN
  unfold Q4.n at hn ⊢
  unfold Q4.nI at hnI
  dsimp only at hn hnI ⊢
  generalize upN (upL v) v.a = n1 at *
  generalize upN (upL v) v.b = n2 at *
  generalize upN (upL v) v.c = n3 at *
  generalize upL v = L at *
  have wc := wcrossT_ok (F := F) (k := k) (x1 := x) (x2 := y) (x3 := z) (y1 := n1) (y2 := n2) (y3 := n3) hs ⟨nb_mono bx (by decide), nb_mono by' (by decide), nb_mono bz (by decide)⟩ ⟨a1, a2, a3⟩
  have b1 : ∀ i j : Int, bop .add (.int i) (.int j) = some (.int (i + j)) := fun _ _ => rfl
  have b2 : ∀ i j : Int, bop .sub (.int i) (.int j) = some (.int (i - j)) := fun _ _ => rfl
  have mw := nb_bop bw bw (by decide)
  have mx := nb_bop bx bx (by decide)
  have my := nb_bop by' by' (by decide)
  have mz := nb_bop bz bz (by decide)
  have m1 := nb_bop bx a1 (by decide)
  have m2 := nb_bop by' a2 (by decide)
  have m3 := nb_bop bz a3 (by decide)
  have bsq : (x * x + y * y + z * z).natAbs < 2 ^ 202 := nb_add (nb_add (nb_mul bx bx) (nb_mul by' by')) (nb_mono (nb_mul bz bz) (by decide))
  have bal : (x * n1 + y * n2 + z * n3).natAbs < 2 ^ 5102 := nb_add (nb_add (nb_mul bx a1) (nb_mul by' a2)) (nb_mono (nb_mul bz a3) (by decide))
  have bd : (w * w - (x * x + y * y + z * z)).natAbs < 2 ^ 203 := nb_sub (nb_mono (nb_mul bw bw) (by decide)) bsq
  have bs : (w * w + (x * x + y * y + z * z)).natAbs < 2 ^ 203 := nb_add (nb_mono (nb_mul bw bw) (by decide)) bsq
  have b2i : (2 : Int).natAbs < 2 ^ 2 := by decide
  have bL : ((L : Nat) : Int).natAbs < 2 ^ 4000 := by simpa using hLb
  have ma := nb_bop b2i bal (by decide)
  have m2w := nb_bop b2i bw (by decide)
  have b2al := nb_mul b2i bal
  have b2w := nb_mul b2i bw
  have mL := nb_bop bL bs (by decide)
  have hu : (L : Int) * (w * w + (x * x + y * y + z * z)) ≠ 0 := Int.mul_ne_zero (by omega) (by omega)
  have hub : ((L : Int) * (w * w + (x * x + y * y + z * z))).natAbs < 2 ^ 8000 := nb_mono (nb_mul bL bs) (by decide)
  have c1 : (y * n3 - z * n2).natAbs < 2 ^ 5101 := nb_sub (nb_mul by' a3) (nb_mul bz a2)
  have c2 : (z * n1 - x * n3).natAbs < 2 ^ 5101 := nb_sub (nb_mul bz a1) (nb_mul bx a3)
  have c3 : (x * n2 - y * n1).natAbs < 2 ^ 5101 := nb_sub (nb_mul bx a2) (nb_mul by' a1)
  have val := fun (me le as : Int) (mr ar : Rat) (hm : (me : Rat) = (L : Rat) * mr) (ha : (as : Rat) = (L : Rat) * ar) => led_val (L := (L : Int)) (w := w) (x := x) (y := y) (z := z) (n1 := n1) (n2 := n2) (n3 := n3) (me := me) (le := le) (as := as) (Lr := (L : Rat)) (v1 := v.a) (v2 := v.b) (v3 := v.c) (mr := mr) (ar := ar) rfl hL0 e1 e2 e3 hm ha hn
  have v1 := val n1 x (y * n3 - z * n2) v.a (y * v.c - z * v.b) e1 (by simp only [Rat.intCast_sub, Rat.intCast_mul, e2, e3]; grind)
  have v2 := val n2 y (z * n1 - x * n3) v.b (z * v.a - x * v.c) e2 (by simp only [Rat.intCast_sub, Rat.intCast_mul, e1, e3]; grind)
  have v3 := val n3 z (x * n2 - y * n1) v.c (x * v.b - y * v.a) e3 (by simp only [Rat.intCast_sub, Rat.intCast_mul, e1, e2]; grind)
  clear val
  generalize y * n3 - z * n2 = r1 at *
  generalize z * n1 - x * n3 = r2 at *
  generalize x * n2 - y * n1 = r3 at *
  have hz3 : (3 : Nat) ≤ sizeLine := by decide
  generalize hA : x * x = xx at *
  generalize y * y = yy at *
  generalize z * z = zz at *
  generalize w * w = ww at *
  generalize x * n1 = p1 at *
  generalize y * n2 = p2 at *
  generalize z * n3 = p3 at *
  generalize hsq : xx + yy + zz = sq at *
  generalize hal : p1 + p2 + p3 = al at *
  have turn : ∀ (nn l a : Int), nn.natAbs < 2 ^ 5000 → l.natAbs < 2 ^ 100 → a.natAbs < 2 ^ 5101 → turnF (callF Tk F (k + 1)) (wipeE [some (qD ⟨w, x, y, z⟩), some (tD v), some (.int w), some (.int x), some (.int y), some (.int z), some (.lst [.int n1, .int n2, .int n3]), some (.int (L : Nat)), some (.int sq), some (.int al), some (.lst [.int r1, .int r2, .int r3]), none, none, none] [11, 12, 13]) (.tp [11, 12, 13]) .none
      (.call 0 (.cons (.bin .add (.bin .add (.bin .mul (.bin .sub (.bin .mul (.var 2) (.var 2)) (.var 8)) (.var 11)) (.bin .mul (.bin .mul (.cst (.int 2)) (.var 9)) (.var 12))) (.bin .mul (.bin .mul (.cst (.int 2)) (.var 2)) (.var 13))) (.cons (.bin .mul (.var 7) (.bin .add (.bin .mul (.var 2) (.var 2)) (.var 8))) .nil)))
      (.tup [.int nn, .int l, .int a]) st = some (some (fracD (Rat.divInt ((ww - sq) * nn + 2 * al * l + 2 * w * a) ((L : Int) * (ww + sq)))), st) := by
    intro nn l a hn hl ha
    have k1 := nb_bop bd hn (by decide)
    have k2 := nb_bop b2al hl (by decide)
    have k3 := nb_bop b2w ha (by decide)
    have pr := pratio_ok (F := F) (k := k) (t := (ww - sq) * nn + 2 * al * l + 2 * w * a) hs hu hub
    simp [turnF, bindT, wipeE, evTo, evE, evEs, mw, b1, b2, ma, m2w, mL, k1, k2, k3, pr]
  have e := gen_tup (c := callF Tk F (k + 1)) (env := [some (qD ⟨w, x, y, z⟩), some (tD v), some (.int w), some (.int x), some (.int y), some (.int z), some (.lst [.int n1, .int n2, .int n3]), some (.int (L : Nat)), some (.int sq), some (.int al), some (.lst [.int r1, .int r2, .int r3]), none, none, none])
    (elt := .call 0 (.cons (.bin .add (.bin .add (.bin .mul (.bin .sub (.bin .mul (.var 2) (.var 2)) (.var 8)) (.var 11)) (.bin .mul (.bin .mul (.cst (.int 2)) (.var 9)) (.var 12))) (.bin .mul (.bin .mul (.cst (.int 2)) (.var 2)) (.var 13))) (.cons (.bin .mul (.var 7) (.bin .add (.bin .mul (.var 2) (.var 2)) (.var 8))) .nil)))
    (tg := .tp [11, 12, 13]) (it := .zip3 (.var 6) (.tup (.cons (.var 3) (.cons (.var 4) (.cons (.var 5) .nil)))) (.var 10)) (own := [("number", 11), ("lead", 12), ("aside", 13)]) (st := st) (xs := [.tup [.int n1, .int x, .int r1], .tup [.int n2, .int y, .int r2], .tup [.int n3, .int z, .int r3]])
    (g := fun d => match d with
      | .tup [.int nn, .int l, .int a] => fracD (Rat.divInt ((ww - sq) * nn + 2 * al * l + 2 * w * a) ((L : Int) * (ww + sq)))
      | _ => .non) (by simp [evI, evE, evEs, hz3, zip3D, lstD, tupD]) rfl hz3 (fun d hd => by
      simp only [List.mem_cons, List.not_mem_nil, or_false] at hd
      rcases hd with rfl | rfl | rfl
      · exact turn _ _ _ a1 bx c1
      · exact turn _ _ _ a2 by' c2
      · exact turn _ _ _ a3 bz c3)
  simp only [List.map_cons, List.map_nil, v1, v2, v3] at e
  refine Eq.trans (call_body (d := i_led_vector) rfl ⟨rfl, by decide⟩ ?_) (cut_pl (fun k => by simp [tD, triD]) rfl hs rfl)
  show evSs (callF Tk F (k + 1)) F i_led_vector.body [some (qD ⟨w, x, y, z⟩), some (tD v), none, none, none, none, none, none, none, none, none, none, none, none] st = _
  unfold i_led_vector
  refine (ss_nxt (env' := [some (qD ⟨w, x, y, z⟩), some (tD v), some (.int w), some (.int x), some (.int y), some (.int z), none, none, none, none, none, none, none, none]) (st' := st) (by simp [qD, evS, evE, asgTs])).trans ?_
  refine (ss_nxt (env' := [some (qD ⟨w, x, y, z⟩), some (tD v), some (.int w), some (.int x), some (.int y), some (.int z), some (.lst [.int n1, .int n2, .int n3]), some (.int (L : Nat)), none, none, none, none, none, none]) (st' := st) (by simp [evS, evE, evEs, o1, asgTs])).trans ?_
  refine (ss_nxt (env' := [some (qD ⟨w, x, y, z⟩), some (tD v), some (.int w), some (.int x), some (.int y), some (.int z), some (.lst [.int n1, .int n2, .int n3]), some (.int (L : Nat)), some (.int sq), none, none, none, none, none]) (st' := st) (by simp [evS, evE, evEs, mx, my, mz, b1, hsq])).trans ?_
  have i0 : idxF (.lst [.int n1, .int n2, .int n3]) (.int 0) st = some (.int n1) := rfl
  have i1 : idxF (.lst [.int n1, .int n2, .int n3]) (.int 1) st = some (.int n2) := rfl
  have i2 : idxF (.lst [.int n1, .int n2, .int n3]) (.int 2) st = some (.int n3) := rfl
  refine (ss_nxt (env' := [some (qD ⟨w, x, y, z⟩), some (tD v), some (.int w), some (.int x), some (.int y), some (.int z), some (.lst [.int n1, .int n2, .int n3]), some (.int (L : Nat)), some (.int sq), some (.int al), none, none, none, none]) (st' := st) (by simp [evS, evE, evEs, i0, i1, i2, m1, m2, m3, b1, hal])).trans ?_
  refine (ss_nxt (env' := [some (qD ⟨w, x, y, z⟩), some (tD v), some (.int w), some (.int x), some (.int y), some (.int z), some (.lst [.int n1, .int n2, .int n3]), some (.int (L : Nat)), some (.int sq), some (.int al), some (.lst [.int r1, .int r2, .int r3]), none, none, none]) (st' := st) (by simp [evS, evE, evEs, wc, hz3])).trans ?_
  have gen : ∀ (C : IE) (env : Mi.Env) (R : Mi.D), evE (callF Tk F (k + 1)) env C st = some (R, st) → evS (callF Tk F (k + 1)) F (.ret C) env st = some (.ret R st) := fun C env R e => by
    simp only [evS, e]
  exact ss_ret (gen _ _ _ e)
end K06

set_option Elab.async false
set_option linter.all false
set_option maxRecDepth 100000
set_option maxHeartbeats 4000000
namespace K06
open PySem PySem.Spec PyProof.Rows L2 Mi TL
/-! ### the law's turnings -/
/-- a list of three fractions -/
def lsD (a b c : Rat) : Mi.D := .lst [fracD a, fracD b, fracD c]
theorem crossL_step {F k B : Nat} {a b c x y z : Rat} {st : Mi.Store} (hs : SW st) (hB : B ≤ 2000) (hF : 2 ^ 8000 ≤ F) :
    ∀ (i h t : Int) (p q u v : Rat) (acc : List Mi.D) (e3 e4 e5 : Option Mi.D), fitDs (st.length + 1) acc = true → acc.length < 10 → (i + 1) % 3 = h → (i + 2) % 3 = t → Bd B p → Bd B q → Bd B u → Bd B v →
      L2.atI [fracD a, fracD b, fracD c] h = some (fracD p) → L2.atI [fracD x, fracD y, fracD z] t = some (fracD q) → L2.atI [fracD a, fracD b, fracD c] t = some (fracD u) → L2.atI [fracD x, fracD y, fracD z] h = some (fracD v) →
      evSs (callF Tk F (k + 2)) F (.cons (.asgP [4, 5] (.cons (.bin .mod (.bi .int (.cons (.bin .add (.var 3) (.cst (.int 1))) .nil)) (.cst (.int 3))) (.cons (.bin .mod (.bi .int (.cons (.bin .add (.var 3) (.cst (.int 2))) .nil)) (.cst (.int 3))) .nil)))
        (.cons (.app 2 (.call 30 (.cons (.call 31 (.cons (.idx (.var 0) (.var 4)) (.cons (.idx (.var 1) (.var 5)) .nil))) (.cons (.call 31 (.cons (.idx (.var 0) (.var 5)) (.cons (.idx (.var 1) (.var 4)) .nil))) .nil)))) .nil))
        [some (lsD a b c), some (lsD x y z), some (.cell st.length), some (.int i), e4, e5] (st ++ [some acc]) =
      some (.nxt [some (lsD a b c), some (lsD x y z), some (.cell st.length), some (.int i), some (.int h), some (.int t)] (st ++ [some (acc ++ [fracD (p * q - u * v)])])) := by
    intro i h t p q u v acc e3 e4 e5 hacc hlen hh ht hp hq hu hv i1 i2 i3 i4
    have hsa := hs.push hacc
    have r1 := by_ok (F := F) (k := k) hsa hp hq (by omega) hF
    have r2 := by_ok (F := F) (k := k) hsa hu hv (by omega) hF
    have r3 := less_ok (F := F) (k := k) hsa (hp.mul hq) (hu.mul hv) (by omega) hF
    have a1 : ∀ i j : Int, bop .add (.int i) (.int j) = some (.int (i + j)) := fun _ _ => rfl
    have m1 : ∀ j : Int, bop .mod (.int j) (.int 3) = some (.int (j % 3)) := fun j => by rw [← fm j (by decide)]; rfl
    have s1 : evS (callF Tk F (k + 2)) F (.asgP [4, 5] (.cons (.bin .mod (.bi .int (.cons (.bin .add (.var 3) (.cst (.int 1))) .nil)) (.cst (.int 3))) (.cons (.bin .mod (.bi .int (.cons (.bin .add (.var 3) (.cst (.int 2))) .nil)) (.cst (.int 3))) .nil)))
        [some (lsD a b c), some (lsD x y z), some (.cell st.length), some (.int i), e4, e5] (st ++ [some acc]) = some (.nxt [some (lsD a b c), some (lsD x y z), some (.cell st.length), some (.int i), some (.int h), some (.int t)] (st ++ [some acc])) := by
      simp [evS, evEs, evE, biF, a1, m1, hh, ht]
    rw [ss_nxt s1]
    have k1 : idxF (lsD a b c) (.int h) (st ++ [some acc]) = some (fracD p) := i1
    have k2 : idxF (lsD x y z) (.int t) (st ++ [some acc]) = some (fracD q) := i2
    have k3 : idxF (lsD a b c) (.int t) (st ++ [some acc]) = some (fracD u) := i3
    have k4 : idxF (lsD x y z) (.int h) (st ++ [some acc]) = some (fracD v) := i4
    have hz : acc.length < sizeLine := Nat.lt_trans hlen (by decide)
    simp [evSs, evS, evE, evEs, k1, k2, k3, k4, r1, r2, r3, hz]
theorem crossL_ok {F k B : Nat} {a b c x y z : Rat} {st : Mi.Store} (hs : SW st) (ha : Bd B a) (hb : Bd B b) (hc : Bd B c) (hx : Bd B x) (hy : Bd B y) (hz : Bd B z) (hB : B ≤ 2000) (hF : 2 ^ 8000 ≤ F) :
    callF Tk F (k + 3) 36 [lsD a b c, lsD x y z] st = some (triD (b * z - c * y) (c * x - a * z) (a * y - b * x), st) := by
  rw [call_at (d := i__law_cross) rfl]
  have step := @crossL_step F k B a b c x y z st hs hB hF
  have f1 : ∀ (n : Nat) (q : Rat), fitD n (fracD q) = true := fun n q => rfl
  have p0 := step 0 1 2 b z c y [] none none none rfl (by decide) rfl rfl hb hz hc hy rfl rfl rfl rfl
  have p1 := step 1 2 0 c x a z [fracD (b * z - c * y)] (some (.int 0)) (some (.int 1)) (some (.int 2)) rfl (by simp) rfl rfl hc hx ha hz rfl rfl rfl rfl
  have p2 := step 2 0 1 a y b x [fracD (b * z - c * y), fracD (c * x - a * z)] (some (.int 1)) (some (.int 2)) (some (.int 0)) rfl (by simp) rfl rfl ha hy hb hx rfl rfl rfl rfl
  have s1 : evS (callF Tk F (k + 2)) F (.asg 2 (.ncl .nil)) [some (lsD a b c), some (lsD x y z), none, none, none, none] st = some (.nxt [some (lsD a b c), some (lsD x y z), some (.cell st.length), none, none, none] (st ++ [some []])) := by
    rfl
  have sI : ∀ (env : Mi.Env) (st' : Mi.Store), evI (callF Tk F (k + 2)) env (.rng (.cst (.int 3))) st' = some ([.int 0, .int 1, .int 2], st') := fun _ _ => rfl
  have body : evSs (callF Tk F (k + 2)) F i__law_cross.body [some (lsD a b c), some (lsD x y z), none, none, none, none] st = some (.ret (triD (b * z - c * y) (c * x - a * z) (a * y - b * x)) (st ++ [some [fracD (b * z - c * y), fracD (c * x - a * z), fracD (a * y - b * x)]])) := by
    unfold i__law_cross
    rw [ss_nxt s1]
    refine (ss_nxt (env' := [some (lsD a b c), some (lsD x y z), some (.cell st.length), some (.int 2), some (.int 0), some (.int 1)]) (st' := st ++ [some [fracD (b * z - c * y), fracD (c * x - a * z), fracD (a * y - b * x)]]) ?_).trans ?_
    · simp only [evS, sI]
      simp only [loopF, bindT, List.set_cons_succ, List.set_cons_zero]
      rw [p0]
      simp only [List.nil_append, List.cons_append, List.set_cons_succ, List.set_cons_zero]
      rw [p1]
      simp only [List.nil_append, List.cons_append, List.set_cons_succ, List.set_cons_zero]
      rw [p2]
      rfl
    · simp [evSs, evS, evE, evEs, biF, itemsD, triD]
  unfold runD
  rw [if_pos ⟨rfl, by decide⟩]
  show (match evSs (callF Tk F (k + 2)) F i__law_cross.body [some (lsD a b c), some (lsD x y z), none, none, none, none] st with
    | some (.ret v st') => Mi.cutD st.length v st'
    | some (.nxt _ st') => Mi.cutD st.length .non st'
    | _ => none) = _
  rw [body]
  exact cut_more (fun k => by simp [triD]) rfl hs
theorem dEq_L4 (a b c d e f g h : Int) : dEq (.lst [.int a, .int b, .int c, .int d]) (.lst [.int e, .int f, .int g, .int h]) = some (decide (a = e ∧ b = f ∧ c = g ∧ d = h)) := by
  have s : ∀ a b c d : Int, SeqAt.shaped (pd (.lst [.int a, .int b, .int c, .int d])) = true := fun a b c d => rfl
  have k : ∀ a b c d : Int, flat0 (.lst [.int a, .int b, .int c, .int d]) = true := fun a b c d => rfl
  have e' : PyData.eqv (pd (.lst [.int a, .int b, .int c, .int d])) (pd (.lst [.int e, .int f, .int g, .int h])) = decide (a = e ∧ b = f ∧ c = g ∧ d = h) := by
    show PyData.eqv (.list [.int a, .int b, .int c, .int d]) (.list [.int e, .int f, .int g, .int h]) = _
    by_cases h1 : a = e <;> by_cases h2 : b = f <;> by_cases h3 : c = g <;> by_cases h4 : d = h <;> simp [PyData.eqv, PyData.eqvAll, h1, h2, h3, h4]
  simp only [dEq, k, s, Bool.true_and, if_true, e']
theorem lturning_ok {F k n : Nat} {r : Int} {st : Mi.Store} (hw : Well st n r) (hr : r + 20 < 2 ^ 40) (hF : 2 ^ 8000 ≤ F) :
    ∃ (q : Q4) (st' : Mi.Store), callF Tk F (k + 3) 42 [.cell n] st = some (qD q, st') ∧ IsPQ q ∧ BQ 3 q ∧ Well st' n (r + 5) ∧ Turned st n st' := by
  have hz4 : (4 : Nat) ≤ sizeLine := by decide
  have hz6 : (6 : Nat) ≤ sizeLine := by decide
  obtain ⟨w, st1, h1, w0, w1, hw1, ht1⟩ := draw_ok (F := F) (k := k + 1) hw (m := 3) (by decide) (by decide) (by omega)
  have main : ∀ (q : Q4) (st2 : Mi.Store), Well st2 n (r + 5) → Turned st n st2 → evSs (callF Tk F (k + 2)) F i__law_turning.body [some (.cell n), none, none] st = some (.ret (qD q) st2) → callF Tk F (k + 3) 42 [.cell n] st = some (qD q, st2) := by
    intro q st2 hW hT body
    exact (call_body (d := i__law_turning) rfl ⟨rfl, by decide⟩ body).trans (cut_pl (fun k => by simp [qD]) rfl hW.sw hT.len)
  have t1 : ∀ p : Bool, decide (w = 0) = p → evT (callF Tk F (k + 2)) [some (.cell n), none, none] (.cmp .eq (.call 24 (.cons (.var 0) (.cons (.cst (.int 3)) .nil))) (.cst (.int 0))) st = some (p, st1) := fun p hp => by
    simp only [evT, evE, evEs, List.getElem?_cons_zero, h1, eq_int, hp]
  by_cases h0 : w = 0
  · have flat : ∀ x ∈ [qD ⟨1, 0, 0, 0⟩, qD ⟨1, 0, 0, 1⟩, qD ⟨0, 1, 0, 0⟩, qD ⟨1, 1, 1, 1⟩, qD ⟨1, -1, 0, 0⟩, qD ⟨0, 0, 1, -1⟩], (∀ k, x ≠ .cell k) ∧ ∀ m, fitD m x = true := by
      intro x hx
      simp only [List.mem_cons, List.not_mem_nil, or_false] at hx
      rcases hx with rfl | rfl | rfl | rfl | rfl | rfl <;> exact ⟨fun k => by simp [qD], fun m => rfl⟩
    obtain ⟨x, st2, h2, hx, hw2, ht2⟩ := pick_ok (F := F) (k := k) hw1 (xs := [qD ⟨1, 0, 0, 0⟩, qD ⟨1, 0, 0, 1⟩, qD ⟨0, 1, 0, 0⟩, qD ⟨1, 1, 1, 1⟩, qD ⟨1, -1, 0, 0⟩, qD ⟨0, 0, 1, -1⟩]) (by omega) (by simp) (by decide) flat
    have hx' : ∃ q : Q4, x = qD q ∧ IsPQ q ∧ BQ 3 q := by
      simp only [List.mem_cons, List.not_mem_nil, or_false] at hx
      rcases hx with rfl | rfl | rfl | rfl | rfl | rfl
      · exact ⟨_, rfl, ⟨by decide, .inl (by decide)⟩, by decide, by decide, by decide, by decide⟩
      · exact ⟨_, rfl, ⟨by decide, .inl (by decide)⟩, by decide, by decide, by decide, by decide⟩
      · exact ⟨_, rfl, ⟨by decide, .inr ⟨rfl, .inl (by decide)⟩⟩, by decide, by decide, by decide, by decide⟩
      · exact ⟨_, rfl, ⟨by decide, .inl (by decide)⟩, by decide, by decide, by decide, by decide⟩
      · exact ⟨_, rfl, ⟨by decide, .inl (by decide)⟩, by decide, by decide, by decide, by decide⟩
      · exact ⟨_, rfl, ⟨by decide, .inr ⟨rfl, .inr ⟨rfl, .inl (by decide)⟩⟩⟩, by decide, by decide, by decide, by decide⟩
    obtain ⟨q, rfl, hq, bq⟩ := hx'
    refine ⟨q, st2, main q st2 (hw2.mono (by omega)) (ht1.trans ht2) ?_, hq, bq, hw2.mono (by omega), ht1.trans ht2⟩
    have h2' : callF Tk F (k + 2) 25 [.cell n, .tup [.tup [.int 1, .int 0, .int 0, .int 0], .tup [.int 1, .int 0, .int 0, .int 1], .tup [.int 0, .int 1, .int 0, .int 0], .tup [.int 1, .int 1, .int 1, .int 1], .tup [.int 1, .int (-1), .int 0, .int 0], .tup [.int 0, .int 0, .int 1, .int (-1)]]] st1 = some (qD q, st2) := h2
    unfold i__law_turning
    refine ss_ret ?_
    simp only [evS]
    rw [t1 true (by simpa using h0)]
    refine ss_ret ?_
    simp [evS, evE, evEs, hz4, hz6, h2']
  · obtain ⟨ys, st2, hc, hyl, hys, hw2, ht2⟩ := comp_draw (c := callF Tk F (k + 2)) (env := [some (.cell n), none, none]) (elt := .bin .sub (.call 24 (.cons (.var 0) (.cons (.cst (.int 9)) .nil))) (.cst (.int 4))) (tg := .nm 2) (it := .rng (.cst (.int 4))) (own := [("_law_k", 2)]) (st := st1) (xs := [.int 0, .int 1, .int 2, .int 3]) (P := fun y => ∃ i : Int, y = .int i ∧ i.natAbs < 2 ^ 3) (n := n) (r := r + 1) (R := 2 ^ 40 - 10) (s := 1) hw1 rfl rfl (by decide) (fun d hd m => by obtain ⟨q, rfl, _⟩ := hd; rfl) (by simp; omega) (fun x st' r' hw' hr' => by
      obtain ⟨v, st3, g1, g2, g3, g4, g5⟩ := draw_ok (F := F) (k := k + 1) hw' (m := 9) (by decide) (by decide) (by omega)
      refine ⟨.int (v - 4), st3, ?_, ⟨_, rfl, by omega⟩, g4, g5⟩
      have b1 : ∀ i j : Int, bop .sub (.int i) (.int j) = some (.int (i - j)) := fun _ _ => rfl
      simp [turnF, bindT, wipeE, evTo, evE, evEs, g1, b1])
    have hT : Turned st n st2 := by
      rcases ht2 with rfl | ht2
      · exact ht1
      · exact ht1.trans ht2
    have hW : Well st2 n (r + 5) := hw2.mono (by simp; omega)
    match ys, hyl, hys with
    | [y1, y2, y3, y4], _, hys =>
      obtain ⟨a, rfl, ha⟩ := hys y1 (by simp)
      obtain ⟨b, rfl, hb⟩ := hys y2 (by simp)
      obtain ⟨c, rfl, hc'⟩ := hys y3 (by simp)
      obtain ⟨d, rfl, hd⟩ := hys y4 (by simp)
      have step : ∀ R, evS (callF Tk F (k + 2)) F (.ret (.ife (.cmp .ne (.var 1) (.lst (.cons (.cst (.int 0)) (.cons (.cst (.int 0)) (.cons (.cst (.int 0)) (.cons (.cst (.int 0)) .nil)))))) (.call 41 (.cons (.var 1) .nil)) (.tup (.cons (.cst (.int 2)) (.cons (.cst (.int 1)) (.cons (.cst (.int 0)) (.cons (.cst (.int 0)) .nil))))))) [some (.cell n), some (.lst [.int a, .int b, .int c, .int d]), none] st2 = some (.ret R st2) →
          evSs (callF Tk F (k + 2)) F i__law_turning.body [some (.cell n), none, none] st = some (.ret R st2) := by
        intro R hR
        unfold i__law_turning
        refine (ss_nxt (env' := [some (.cell n), none, none]) (st' := st1) ?_).trans ?_
        · simp only [evS]
          rw [t1 false (by simpa using h0)]
          rfl
        refine (ss_nxt (env' := [some (.cell n), some (.lst [.int a, .int b, .int c, .int d]), none]) (st' := st2) ?_).trans (ss_ret hR)
        have gen : ∀ C : IE, evE (callF Tk F (k + 2)) [some (.cell n), none, none] C st1 = some (.lst [.int a, .int b, .int c, .int d], st2) → evS (callF Tk F (k + 2)) F (.asg 1 C) [some (.cell n), none, none] st1 = some (.nxt [some (.cell n), some (.lst [.int a, .int b, .int c, .int d]), none] st2) := by
          intro C e'
          simp [evS, e']
        exact gen _ hc
      have cn : cop .ne (.lst [.int a, .int b, .int c, .int d]) (.lst [.int 0, .int 0, .int 0, .int 0]) = some (!decide (a = 0 ∧ b = 0 ∧ c = 0 ∧ d = 0)) := by
        simp only [cop, dEq_L4, Option.map_some]
      by_cases hz : a = 0 ∧ b = 0 ∧ c = 0 ∧ d = 0
      · refine ⟨⟨2, 1, 0, 0⟩, st2, main _ st2 hW hT (step _ ?_), ⟨by decide, .inl (by decide)⟩, ⟨by decide, by decide, by decide, by decide⟩, hW, hT⟩
        rw [decide_eq_true hz] at cn
        simp [evS, evE, evT, evEs, hz4, cn, qD]
      · have hne : (⟨a, b, c, d⟩ : Q4).ne0 := fun e => hz ⟨e a (by simp), e b (by simp), e c (by simp), e d (by simp)⟩
        have bq : BQ 3 ⟨a, b, c, d⟩ := ⟨ha, hb, hc', hd⟩
        have hl := leanL_ok (F := F) (k := k + 1) (zs := [a, b, c, d]) (v := .lst [.int a, .int b, .int c, .int d]) hW.sw (.inl rfl) hne (bq.mono (C := 8000) (by decide)).all q4_len hF
        have hl' : callF Tk F (k + 2) 41 [.lst [.int a, .int b, .int c, .int d]] st2 = some (qD (Q4.pl ⟨a, b, c, d⟩), st2) := hl
        refine ⟨Q4.pl ⟨a, b, c, d⟩, st2, main _ st2 hW hT (step _ ?_), Q4.pl_is hne, bq.pl hne, hW, hT⟩
        rw [decide_eq_false hz] at cn
        simp [evS, evE, evT, evEs, hz4, cn, hl']
theorem listurn_ok {F k : Nat} {q : Q4} {st : Mi.Store} (hs : SW st) (h : IsPQ q) (hb : BQ 8000 q) (hF : 2 ^ 8000 ≤ F) : callF Tk F (k + 2) 47 [qD q] st = some (.bl true, st) := by
  have hz4 : (4 : Nat) ≤ sizeLine := by decide
  have e := comp_pure (c := callF Tk F (k + 1)) (env := [some (qD q), none]) (elt := .call 44 (.cons (.var 1) .nil)) (tg := .nm 1) (it := .seq (.var 0)) (own := [("_law_each", 1)]) (st := st) (xs := [.int q.w, .int q.x, .int q.y, .int q.z]) (g := fun _ => .bl true) hs rfl rfl hz4 (fun x hx => ⟨fun st' hs' => by
      simp only [List.mem_cons, List.not_mem_nil, or_false] at hx
      rcases hx with rfl | rfl | rfl | rfl <;> simp [turnF, bindT, wipeE, evTo, evE, evEs, isw_ok (F := F) (k := k) hs'], fun m => rfl⟩)
  have hl := leanL_ok (F := F) (k := k) hs (qD_row q) h.ne hb.all q4_len hF
  rw [show Mi.D.tup ((plL (qL q)).map Mi.D.int) = qD q.pl from rfl, h.self] at hl
  have n1 : cop .inn (.bl false) (.lst [.bl true, .bl true, .bl true, .bl true]) = some false := by decide
  have n2 : cop .ne (.int 4) (.int 4) = some false := by rw [ne_int]; rfl
  have n3 : isiF (qD q) .tuple = some true := rfl
  have n4 : biF .len [qD q] st = some (.int 4) := rfl
  have n5 : cop .ne (qD q) (.tup [.int 0, .int 0, .int 0, .int 0]) = some true := by
    have e0 : Mi.D.tup [.int 0, .int 0, .int 0, .int 0] = qD ⟨0, 0, 0, 0⟩ := rfl
    have hq : q ≠ ⟨0, 0, 0, 0⟩ := fun e => h.ne (by
      rw [e]
      intro t ht
      simpa using ht)
    rw [e0]
    simp only [cop, dEq_q, Option.map_some, hq, decide_false, Bool.not_false]
  have n6 : cop .eq (qD q) (qD q) = some true := cop_eq_of (by rw [dEq_q]; simp)
  have gen : ∀ C : IE, evE (callF Tk F (k + 1)) [some (qD q), none] C st = some (.lst [.bl true, .bl true, .bl true, .bl true], st) →
      evS (callF Tk F (k + 1)) F (.ite (.or (.not (.val (.isi (.var 0) .tuple))) (.or (.cmp .ne (.bi .len (.cons (.var 0) .nil)) (.cst (.int 4))) (.one (.cmp .inn (.cst (.bl false)) C)))) (.cons (.ret (.cst (.bl false))) .nil) .nil) [some (qD q), none] st = some (.nxt [some (qD q), none] st) := by
    intro C e'
    simp [evS, evSs, evT, evE, evEs, truth, e', n1, n2, n3, n4]
  have body : evSs (callF Tk F (k + 1)) F i__law_is_turning.body [some (qD q), none] st = some (.ret (.bl true) st) := by
    unfold i__law_is_turning
    refine (ss_nxt (gen _ e)).trans (ss_ret ?_)
    simp [evS, evE, evEs, truth, hz4, n5, n6, hl]
  exact (call_body (d := i__law_is_turning) rfl ⟨rfl, by decide⟩ body).trans (cut_pl (fun k => by simp) rfl hs rfl)
theorem SW.pushN {st : Mi.Store} (h : SW st) : SW (st ++ [none]) := by
  unfold SW okC at *
  rw [List.length_append, List.length_singleton, List.all_append, Bool.and_eq_true]
  refine ⟨?_, rfl⟩
  rw [List.all_eq_true] at *
  intro c hc
  have := h c hc
  cases c with
  | none => rfl
  | some ys => exact fits_mono (Nat.le_succ _) this
theorem ints_comp {F k : Nat} {env : Mi.Env} {i j : Nat} {v : Mi.D} {x y z : Int} {own : List (PySem.Str × Nat)} {st : Mi.Store} (hs : SW st) (h : env[j]? = some (some v)) (hv : slcF v (some (.int 1)) none = some (.tup [.int x, .int y, .int z])) (ho : own.map (·.2) = [i]) (hi : i < env.length) :
    evE (callF Tk F k) env (.comp (.tup (.cons (.var i) (.cons (.cst (.int 1)) .nil))) (.nm i) (.seq (.slc (.var j) (.some (.cst (.int 1))) .none)) .none own) st = some (lsD (x : Rat) (y : Rat) (z : Rat), st) := by
  have hz3 : (3 : Nat) ≤ sizeLine := by decide
  have hz2 : (2 : Nat) ≤ sizeLine := by decide
  have e := comp_pure (c := callF Tk F k) (env := env) (elt := .tup (.cons (.var i) (.cons (.cst (.int 1)) .nil))) (tg := .nm i) (it := .seq (.slc (.var j) (.some (.cst (.int 1))) .none)) (own := own) (st := st) (xs := [.int x, .int y, .int z]) (g := fun d => .tup [d, .int 1]) hs (by simp [evI, evE, evO, h, hv, seqD]) (by rw [ho]; simp [tgOwn]) hz3 (fun d hd => by
    rw [ho]
    have hw : ∀ e : Mi.Env, i < e.length → (e.set i (some d))[i]? = some (some d) := fun e he => by simp [he]
    refine ⟨fun st' hs' => ?_, fun m => ?_⟩
    · have hl : i < (wipeE env [i]).length := by simpa [wipeE] using hi
      simp [turnF, bindT, evTo, evE, evEs, hw _ hl, hz2]
    · simp only [List.mem_cons, List.not_mem_nil, or_false] at hd
      rcases hd with rfl | rfl | rfl <;> rfl)
  rw [e]
  simp only [List.map_cons, List.map_nil, lsD, frac_int]
/-! ### sizes of turned rows -/
theorem Bd.invI {B : Nat} {i : Int} (h : i.natAbs < 2 ^ B) (h0 : i ≠ 0) : Bd B (1 / (i : Rat)) := by
  have e : (1 : Rat) / (i : Rat) = Rat.divInt 1 i := by rw [Rat.divInt_eq_div]; rfl
  rw [e]
  obtain ⟨h1, h2⟩ := divInt_bd (t := 1) h0
  have : 1 ≤ i.natAbs := by omega
  exact ⟨by
    have : (1 : Int).natAbs = 1 := rfl
    omega, by omega⟩
theorem sum4_lt {a b c d : Int} {N : Nat} (ha : a.natAbs < N) (hb : b.natAbs < N) (hc : c.natAbs < N) (hd : d.natAbs < N) : (a + b + c + d).natAbs < 4 * N := by omega
theorem nI_lt {B : Nat} {q : Q4} (bq : BQ B q) : q.nI.natAbs < 2 ^ (2 * B + 2) := by
  obtain ⟨h1, h2, h3, h4⟩ := bq
  have m : ∀ {a : Int}, a.natAbs < 2 ^ B → (a * a).natAbs < 2 ^ (2 * B) := fun h => by
    have := nb_mul h h
    rwa [show B + B = 2 * B by omega] at this
  rw [show 2 ^ (2 * B + 2) = 4 * 2 ^ (2 * B) by rw [Nat.pow_add]; omega]
  exact sum4_lt (m h1) (m h2) (m h3) (m h4)
theorem rot1_bd {B C : Nat} {w x y z : Int} {v1 v2 v3 me as : Rat} {le : Int} (hB : 0 < B) (hw : w.natAbs < 2 ^ B) (hx : x.natAbs < 2 ^ B) (hy : y.natAbs < 2 ^ B) (hz : z.natAbs < 2 ^ B) (hl : le.natAbs < 2 ^ B) (h1 : Bd C v1) (h2 : Bd C v2) (h3 : Bd C v3) (hm : Bd C me) (ha : Bd (2 * (B + C) + 1) as) :
    Bd (9 * B + 6 * C + 20) (rot1 w x y z v1 v2 v3 me le as) := by
  have c0 : ((w : Rat) * w - ((x : Rat) * x + (y : Rat) * y + (z : Rat) * z)) = ((w * w - (x * x + y * y + z * z) : Int) : Rat) := by
    simp only [Rat.intCast_sub, Rat.intCast_add, Rat.intCast_mul]
  have m : ∀ {a : Int}, a.natAbs < 2 ^ B → (a * a).natAbs < 2 ^ (2 * B) := fun h => by
    have := nb_mul h h
    rwa [show B + B = 2 * B by omega] at this
  have k0 : (w * w - (x * x + y * y + z * z)).natAbs < 2 ^ (2 * B + 2) := by
    rw [show 2 ^ (2 * B + 2) = 4 * 2 ^ (2 * B) by rw [Nat.pow_add]; omega]
    have := m hw; have := m hx; have := m hy; have := m hz
    omega
  have b2 : Bd 2 (2 : Rat) := ⟨by decide, by decide⟩
  have i : ∀ {a : Int}, a.natAbs < 2 ^ B → Bd B (a : Rat) := fun h => Bd.int h hB
  unfold rot1
  rw [c0]
  have p1 := (Bd.int k0 (by omega)).mul2 hm
  have p2 := ((b2.mul2 ((((i hx).mul2 h1).add ((i hy).mul2 h2)).add ((i hz).mul2 h3))).mul2 (i hl))
  have p3 := (b2.mul2 (i hw)).mul2 ha
  exact ((p1.add p2).add p3).mono (by omega)
theorem rot_bd {B C : Nat} {q : Q4} {v : V3} (hB : 0 < B) (bq : BQ B q) (h : q.ne0) (hv : BV C v) : BV (11 * B + 6 * C + 22) (q.rot v) := by
  have hn := nI_lt bq
  obtain ⟨h1, h2, h3, h4⟩ := bq
  obtain ⟨g1, g2, g3⟩ := hv
  have i : ∀ {a : Int}, a.natAbs < 2 ^ B → Bd B (a : Rat) := fun h => Bd.int h hB
  have s : ∀ {a b : Int} {x y : Rat}, a.natAbs < 2 ^ B → b.natAbs < 2 ^ B → Bd C x → Bd C y → Bd (2 * (B + C) + 1) ((a : Rat) * x - (b : Rat) * y) := fun ha hb hx hy => by
    rw [show 2 * (B + C) + 1 = (B + C) + (B + C) + 1 by omega]
    exact ((i ha).mul2 hx).sub ((i hb).mul2 hy)
  have inv := Bd.invI hn (Q4.ne0_iff.mp h)
  have dv : ∀ {x : Rat}, Bd (9 * B + 6 * C + 20) x → Bd (11 * B + 6 * C + 22) (x / q.n) := fun hx => by
    rw [show ∀ x : Rat, x / q.n = x * (1 / q.n) from fun x => by rw [Rat.div_def, Rat.div_def, Rat.one_mul], Q4.n_eq]
    exact (hx.mul2 inv).mono (by omega)
  exact ⟨dv (rot1_bd hB h1 h2 h3 h4 h2 g1 g2 g3 g1 (s h3 h4 g3 g2)), dv (rot1_bd hB h1 h2 h3 h4 h3 g1 g2 g3 g2 (s h4 h2 g1 g3)), dv (rot1_bd hB h1 h2 h3 h4 h4 g1 g2 g3 g3 (s h2 h3 g2 g1))⟩
theorem IShow.q {q : Q4} (h : BQ 1900 q) : IShow (qD q) := by
  simp only [qD, IShow, IShows]
  exact ⟨h.1, h.2.1, h.2.2.1, h.2.2.2, trivial⟩
theorem tx_q (q : Q4) : tx (qD q) = 4015 := rfl
theorem depth_q (q : Q4) : (pd (qD q)).depth = 1 := by simp [qD, pd, pds, PyData.depth, PyData.depthAll]
theorem show_q {q : Q4} {st : Mi.Store} (h : BQ 1900 q) : biF .repr [qD q] st = some (.str (shS (qD q))) :=
  show_ok (IShow.q h) (by rw [tx_q]; decide) (by rw [depth_q]; decide)
end K06

set_option Elab.async false
set_option linter.all false
set_option maxRecDepth 100000
set_option maxHeartbeats 4000000
namespace K06
open PySem PySem.Spec PyProof.Rows L2 Mi TL
/-! ### turnings among any values -/
def is4 : Mi.D → Bool
  | .tup [a, b, c, d] => isW a && isW b && isW c && isW d
  | _ => false
def isT : Mi.D → Bool
  | .tup [.int a, .int b, .int c, .int d] => decide ((¬ (a = 0 ∧ b = 0 ∧ c = 0 ∧ d = 0)) ∧ Q4.pl ⟨a, b, c, d⟩ = ⟨a, b, c, d⟩)
  | _ => false
theorem is4_not {d : Mi.D} (hn : ∀ xs, d ≠ .tup xs) : is4 d = false := by
  unfold is4
  split
  · exact absurd rfl (hn _)
  · rfl
theorem is4_len {xs : List Mi.D} (h : xs.length ≠ 4) : is4 (.tup xs) = false := by
  unfold is4
  split
  · rename_i e
    cases e
    exact absurd rfl h
  · rfl
theorem is4_ex {d : Mi.D} (h : is4 d = true) : ∃ q : Q4, d = qD q := by
  unfold is4 at h
  split at h
  · rename_i a b c d
    simp only [Bool.and_eq_true] at h
    obtain ⟨⟨⟨h1, h2⟩, h3⟩, h4⟩ := h
    cases a <;> (try (simp [isW] at h1; done))
    cases b <;> (try (simp [isW] at h2; done))
    cases c <;> (try (simp [isW] at h3; done))
    cases d <;> (try (simp [isW] at h4; done))
    exact ⟨⟨_, _, _, _⟩, rfl⟩
  · cases h
theorem isT_q (q : Q4) : isT (qD q) = decide (q.ne0 ∧ q.pl = q) := by
  show decide ((¬ (q.w = 0 ∧ q.x = 0 ∧ q.y = 0 ∧ q.z = 0)) ∧ Q4.pl q = q) = _
  refine decide_eq_decide.mpr ?_
  have e : (¬ (q.w = 0 ∧ q.x = 0 ∧ q.y = 0 ∧ q.z = 0)) ↔ q.ne0 := by
    unfold Q4.ne0
    simp [qL]
  rw [e]
theorem isT_not4 {d : Mi.D} (h : is4 d = false) : isT d = false := by
  unfold isT
  split
  · simp [is4, isW] at h
  · rfl
theorem isT_pq {q : Q4} (h : IsPQ q) : isT (qD q) = true := by
  rw [isT_q]
  exact decide_eq_true ⟨h.ne, h.self⟩
theorem Gd.q {q : Q4} {B L : Nat} (h : BQ B q) (hL : 4 ≤ L) : Gd B L (qD q) := by
  simp only [qD, Gd, Gds]
  exact ⟨by simpa using hL, h.1, h.2.1, h.2.2.1, h.2.2.2, trivial⟩
theorem Gd.of_q {q : Q4} {B L : Nat} (h : Gd B L (qD q)) : BQ B q := by
  simp only [qD, Gd, Gds] at h
  exact ⟨h.2.1, h.2.2.1, h.2.2.2.1, h.2.2.2.2.1⟩
theorem four_any {F k B L : Nat} {d : Mi.D} {st : Mi.Store} (hs : SW st) (h : Gd B L d) : callF Tk F (k + 2) 13 [d] st = some (.bl (is4 d), st) := by
  have main : ∀ b, evE (callF Tk F (k + 1)) [some d, none] (.andv (.isi (.var 0) .tuple) (.andv (.cmp .eq (.bi .len (.cons (.var 0) .nil)) (.cst (.int 4))) (.one (.gen .all (.call 9 (.cons (.var 1) .nil)) (.nm 1) (.seq (.var 0)) .none [("part", 1)])))) st = some (.bl b, st) → callF Tk F (k + 2) 13 [d] st = some (.bl b, st) := fun b he => by
    rw [call_at (d := i_are_four_wholes) rfl]
    exact (run_ret (v := .bl b) (st' := st) rfl ⟨rfl, by decide⟩ he).trans (cut_pl (fun k => by simp) rfl hs rfl)
  refine main _ ?_
  rcases tup_or d with ⟨xs, rfl⟩ | hn
  · have n1 : isiF (.tup xs) .tuple = some true := rfl
    have n2 : biF .len [.tup xs] st = some (.int xs.length) := rfl
    have n3 : cop .eq (.int xs.length) (.int 4) = some (decide (xs.length = 4)) := by
      rw [eq_int]
      congr 1
      exact decide_eq_decide.mpr (by omega)
    by_cases h4 : xs.length = 4
    · match xs, h4 with
      | [x, y, z, u], _ =>
        simp only [Gd, Gds] at h
        have e := gen_all (c := callF Tk F (k + 1)) (env := [some (.tup [x, y, z, u]), none]) (elt := .call 9 (.cons (.var 1) .nil)) (tg := .nm 1) (it := .seq (.var 0)) (own := [("part", 1)]) (st := st) (xs := [x, y, z, u]) (p := isW) rfl rfl q4_len (fun w hw => by
          have hg : Gd B L w := by
            simp only [List.mem_cons, List.not_mem_nil, or_false] at hw
            rcases hw with rfl | rfl | rfl | rfl
            · exact h.2.1
            · exact h.2.2.1
            · exact h.2.2.2.1
            · exact h.2.2.2.2.1
          simp [turnF, bindT, wipeE, evTo, evE, evEs, whole_any (F := F) (k := k) hs hg])
        have e3 : [x, y, z, u].all isW = is4 (.tup [x, y, z, u]) := by simp [is4, Bool.and_assoc]
        rw [e3] at e
        have gen : ∀ C : IE, evE (callF Tk F (k + 1)) [some (.tup [x, y, z, u]), none] C st = some (.bl (is4 (.tup [x, y, z, u])), st) → evE (callF Tk F (k + 1)) [some (.tup [x, y, z, u]), none] (.andv (.isi (.var 0) .tuple) (.andv (.cmp .eq (.bi .len (.cons (.var 0) .nil)) (.cst (.int 4))) (.one C))) st = some (.bl (is4 (.tup [x, y, z, u])), st) := by
          intro C e'
          have n2' : biF .len [.tup [x, y, z, u]] st = some (.int 4) := rfl
          have n3' : cop .eq (.int 4) (.int 4) = some true := by rw [eq_int]; rfl
          simp [evE, evEs, n1, n2', n3', e']
        exact gen _ e
    · rw [is4_len h4]
      have gen : ∀ C : IE, evE (callF Tk F (k + 1)) [some (.tup xs), none] (.andv (.isi (.var 0) .tuple) (.andv (.cmp .eq (.bi .len (.cons (.var 0) .nil)) (.cst (.int 4))) (.one C))) st = some (.bl false, st) := by
        intro C
        simp [evE, evEs, n1, n2, n3, h4]
      exact gen _
  · rw [is4_not hn]
    have n1 := not_tup h hn
    have gen : ∀ C : IE, evE (callF Tk F (k + 1)) [some d, none] (.andv (.isi (.var 0) .tuple) C) st = some (.bl false, st) := by
      intro C
      simp [evE, n1]
    exact gen _
theorem any_q (q : Q4) (st : Mi.Store) : biF .any [qD q] st = some (.bl (decide q.ne0)) := by
  show (intsD [.int q.w, .int q.x, .int q.y, .int q.z]).map (fun l => Mi.D.bl (l.any fun i => decide (i ≠ 0))) = _
  rw [show intsD [.int q.w, .int q.x, .int q.y, .int q.z] = some [q.w, q.x, q.y, q.z] from rfl, Option.map_some]
  refine congrArg (fun b => some (Mi.D.bl b)) (bool_dec ?_)
  unfold Q4.ne0
  simp [qL]
  omega
theorem dEq_l4q (p q : Q4) : dEq (.lst ((qL p).map Mi.D.int)) (.lst ((qL q).map Mi.D.int)) = some (decide (p = q)) := by
  show dEq (.lst [.int p.w, .int p.x, .int p.y, .int p.z]) (.lst [.int q.w, .int q.x, .int q.y, .int q.z]) = _
  rw [dEq_L4]
  exact congrArg some (decide_eq_decide.mpr Q4.eq_iff.symm)
theorem isturn_any {F k B L : Nat} {d : Mi.D} {st : Mi.Store} (hs : SW st) (h : Gd B L d) (hB : B ≤ 8000) : callF Tk F (k + 3) 14 [d] st = some (.bl (isT d), st) := by
  have h1 := four_any (F := F) (k := k) hs h
  rw [call_at (d := i_is_turning) rfl]
  refine (run_ret (v := .bl (isT d)) (st' := st) rfl ⟨rfl, by decide⟩ ?_).trans (cut_pl (fun k => by simp) rfl hs rfl)
  show evE (callF Tk F (k + 2)) [some d] _ st = _
  by_cases h4 : is4 d = true
  · obtain ⟨q, rfl⟩ := is4_ex h4
    have bq := h.of_q
    rw [h4] at h1
    have n1 := any_q q st
    rw [isT_q]
    by_cases h0 : q.ne0
    · have h2 := forwardL_ok (F := F) (k := k) hs (qD_row q) h0 (bq.mono hB).all q4_len
      rw [qL_pl] at h2
      have n2 : biF .list [qD q] st = some (.lst ((qL q).map Mi.D.int)) := rfl
      have n3 : cop .eq (.lst ((qL q.pl).map Mi.D.int)) (.lst ((qL q).map Mi.D.int)) = some (decide (q.pl = q)) := cop_eq_of (dEq_l4q _ _)
      simp only [evE, evEs, List.getElem?_cons_zero, h1, h2, n1, n2, n3, truth, h0, decide_true, true_and]
    · simp only [evE, evEs, List.getElem?_cons_zero, h1, n1, truth, h0, decide_false, false_and]
  · have h4' : is4 d = false := by simpa using h4
    rw [h4'] at h1
    rw [isT_not4 h4']
    simp only [evE, evEs, List.getElem?_cons_zero, h1, truth]
theorem listurn_any {F k B L : Nat} {d : Mi.D} {st : Mi.Store} (hs : SW st) (h : Gd B L d) (hB : B ≤ 8000) (hF : 2 ^ 8000 ≤ F) : callF Tk F (k + 2) 47 [d] st = some (.bl (isT d), st) := by
  have main : ∀ b, evSs (callF Tk F (k + 1)) F i__law_is_turning.body [some d, none] st = some (.ret (.bl b) st) → callF Tk F (k + 2) 47 [d] st = some (.bl b, st) := fun b body =>
    (call_body (d := i__law_is_turning) rfl ⟨rfl, by decide⟩ body).trans (cut_pl (fun k => by simp) rfl hs rfl)
  refine main _ ?_
  unfold i__law_is_turning
  rcases tup_or d with ⟨xs, rfl⟩ | hn
  · have n1 : isiF (.tup xs) .tuple = some true := rfl
    have n2 : biF .len [.tup xs] st = some (.int xs.length) := rfl
    have n3 : cop .ne (.int xs.length) (.int 4) = some (!decide (xs.length = 4)) := by
      rw [ne_int]
      congr 2
      exact decide_eq_decide.mpr (by omega)
    by_cases h4 : xs.length = 4
    · match xs, h4 with
      | [x, y, z, u], hh =>
        clear hh
        have hg0 := h
        simp only [Gd, Gds] at h
        have wc := comp_pureG (c := callF Tk F (k + 1)) (env := [some (.tup [x, y, z, u]), none]) (elt := .call 44 (.cons (.var 1) .nil)) (tg := .nm 1) (it := .seq (.var 0)) (own := [("_law_each", 1)]) (st := st) (xs := [x, y, z, u]) (p := isW) hs rfl rfl q4_len (fun w hw st' hs' => by
          have hg : Gd B L w := by
            simp only [List.mem_cons, List.not_mem_nil, or_false] at hw
            rcases hw with rfl | rfl | rfl | rfl
            · exact h.2.1
            · exact h.2.2.1
            · exact h.2.2.2.1
            · exact h.2.2.2.2.1
          simp [turnF, bindT, wipeE, evTo, evE, evEs, lwhole_any (F := F) (k := k) hs' hg])
        have ib := (inn_bools isW [x, y, z, u]).1
        have e3 : [x, y, z, u].all isW = is4 (.tup [x, y, z, u]) := by simp [is4, Bool.and_assoc]
        have gen : ∀ C : IE, evE (callF Tk F (k + 1)) [some (.tup [x, y, z, u]), none] C st = some (.lst ([x, y, z, u].map fun x => .bl (isW x)), st) →
            evT (callF Tk F (k + 1)) [some (.tup [x, y, z, u]), none] (.or (.not (.val (.isi (.var 0) .tuple))) (.or (.cmp .ne (.bi .len (.cons (.var 0) .nil)) (.cst (.int 4))) (.one (.cmp .inn (.cst (.bl false)) C)))) st = some (![x, y, z, u].all isW, st) := by
          intro C e'
          have n3' : cop .ne (.int 4) (.int 4) = some false := by rw [ne_int]; rfl
          have n2' : biF .len [.tup [x, y, z, u]] st = some (.int 4) := rfl
          simp only [evT, evE, evEs, List.getElem?_cons_zero, n1, n2', n3', truth, e', ib, Bool.not_true]
        have t1 := gen _ wc
        rw [e3] at t1
        by_cases hi : is4 (.tup [x, y, z, u]) = true
        · rw [hi] at t1
          obtain ⟨q, hq⟩ := is4_ex hi
          rw [hq] at t1 hg0 ⊢
          have bq := hg0.of_q
          refine (ss_nxt (env' := [some (qD q), none]) (st' := st) ?_).trans (ss_ret ?_)
          · simp only [evS, t1]
            rfl
          have e0 : Mi.D.tup [.int 0, .int 0, .int 0, .int 0] = qD ⟨0, 0, 0, 0⟩ := rfl
          have n5 : cop .ne (qD q) (.tup [.int 0, .int 0, .int 0, .int 0]) = some (decide q.ne0) := by
            rw [e0]
            simp only [cop, dEq_q, Option.map_some]
            refine congrArg some (bool_dec ?_)
            unfold Q4.ne0
            simp [Q4.eq_iff, qL]
            omega
          rw [isT_q]
          by_cases h0 : q.ne0
          · have hl := leanL_ok (F := F) (k := k) hs (qD_row q) h0 (bq.mono hB).all q4_len hF
            rw [show Mi.D.tup ((plL (qL q)).map Mi.D.int) = qD q.pl from rfl] at hl
            have n6 : cop .eq (qD q.pl) (qD q) = some (decide (q.pl = q)) := cop_eq_of (dEq_q _ _)
            simp [evS, evE, evEs, truth, q4_len, n5, n6, hl, h0]
          · simp [evS, evE, evEs, truth, q4_len, n5, h0]
        · have hi' : is4 (.tup [x, y, z, u]) = false := by simpa using hi
          rw [hi'] at t1
          rw [isT_not4 hi']
          refine ss_ret ?_
          simp only [evS, t1, Bool.not_false]
          rfl
    · rw [isT_not4 (is4_len h4)]
      refine ss_ret ?_
      have gen : ∀ C : IE, evS (callF Tk F (k + 1)) F (.ite (.or (.not (.val (.isi (.var 0) .tuple))) (.or (.cmp .ne (.bi .len (.cons (.var 0) .nil)) (.cst (.int 4))) (.one (.cmp .inn (.cst (.bl false)) C)))) (.cons (.ret (.cst (.bl false))) .nil) .nil) [some (.tup xs), none] st = some (.ret (.bl false) st) := by
        intro C
        simp [evS, evT, evE, evEs, evSs, n1, n2, n3, h4, truth]
      exact gen _
  · rw [isT_not4 (is4_not hn)]
    have n1 := not_tup h hn
    refine ss_ret ?_
    have gen : ∀ C : IT, evS (callF Tk F (k + 1)) F (.ite (.or (.not (.val (.isi (.var 0) .tuple))) C) (.cons (.ret (.cst (.bl false))) .nil) .nil) [some d, none] st = some (.ret (.bl false) st) := by
      intro C
      simp [evS, evT, evE, evSs, n1, truth]
    exact gen _
def Q4.ax (q : Q4) : V3 := ⟨q.x, q.y, q.z⟩
theorem rot_eq (q : Q4) (v : V3) (h : q.n ≠ 0) : (((v.smul ((q.w : Rat) * q.w - ((q.x : Rat) * q.x + ((q.y : Rat) * q.y + (q.z : Rat) * q.z)))).add (q.ax.smul (2 * q.ax.dot v))).add ((q.ax.cross v).smul (2 * (q.w : Rat)))).smul (1 / q.n) = q.rot v := by
  unfold Q4.rot Q4.rotN Q4.ax V3.smul V3.add V3.dot V3.cross rot1
  refine V3.ext' ?_ ?_ ?_ <;> dsimp only <;> grind
theorem bd_ax {B : Nat} {q : Q4} (hB : 0 < B) (h : BQ B q) : BV B q.ax := ⟨Bd.int h.2.1 hB, Bd.int h.2.2.1 hB, Bd.int h.2.2.2 hB⟩
theorem inv_int {i : Int} (h : 0 < i) : fracD (1 / (i : Rat)) = .tup [.int 1, .int i] := by
  have e : (1 : Rat) / (i : Rat) = Rat.divInt 1 i := by rw [Rat.divInt_eq_div]; rfl
  rw [e, ← ratD_eq (by omega)]
  have hc : cutBy 1 i = 1 := by
    unfold cutBy
    rw [if_pos h]
    simp
  unfold ratD
  rw [hc]
  simp
theorem lturned_ok {F k : Nat} {q : Q4} {v : V3} {st : Mi.Store} (hs : SW st) (h : q.ne0) (bq : BQ 4 q) (hv : BV 100 v) (hF : 2 ^ 8000 ≤ F) : callF Tk F (k + 4) 43 [qD q, tD v] st = some (tD (q.rot v), st) := by
  have hz2 : (2 : Nat) ≤ sizeLine := by decide
  have ba := bd_ax (by decide) bq
  have hn := Q4.n_ne h
  have hnI := Q4.ne0_iff.mp h
  have hpos : 0 < q.nI := by
    have h1 := sq_nnI q.w
    have h2 := sq_nnI q.x
    have h3 := sq_nnI q.y
    have h4 := sq_nnI q.z
    unfold Q4.nI at hnI ⊢
    omega
  have i2 : ∀ {i : Int}, i.natAbs < 2 ^ 50 → Bd 50 (i : Rat) := fun h => Bd.int h (by decide)
  have sqb : ∀ {a : Int}, a.natAbs < 2 ^ 4 → (a * a).natAbs < 2 ^ 8 := fun h => nb_mul h h
  obtain ⟨b1, b2, b3, b4⟩ := bq
  have q1 := sqb b1
  have q2 := sqb b2
  have q3 := sqb b3
  have q4 := sqb b4
  have c0b : (q.w * q.w - (q.x * q.x + (q.y * q.y + (q.z * q.z + 0)))).natAbs < 2 ^ 50 := by omega
  have c2b : (2 * q.w).natAbs < 2 ^ 50 := by omega
  have c0 : (((q.w * q.w - (q.x * q.x + (q.y * q.y + (q.z * q.z + 0))) : Int)) : Rat) = (q.w : Rat) * q.w - ((q.x : Rat) * q.x + ((q.y : Rat) * q.y + (q.z : Rat) * q.z)) := by
    rw [Int.add_zero]
    simp only [Rat.intCast_sub, Rat.intCast_add, Rat.intCast_mul]
  have c2 : ((2 * q.w : Int) : Rat) = 2 * (q.w : Rat) := by rw [Rat.intCast_mul]; rfl
  have f1 := ltimes_ok (F := F) (k := k) (u := v) (q := ((q.w * q.w - (q.x * q.x + (q.y * q.y + (q.z * q.z + 0))) : Int) : Rat)) hs (hv.mono (by decide)) ((i2 c0b).mono (by decide)) hF
  have v1 := hv.smul (i2 c0b)
  rw [c0] at v1
  have dt := ldot_ok (F := F) (k := k) (B := 100) hs (ba.mono (by decide)) hv (by decide) hF
  have bdt := ba.dot hv
  have b2r : Bd 2 (2 : Rat) := ⟨by decide, by decide⟩
  have by1 := lby_ok (F := F) (k := k + 1) hs (b2r.mono (by decide)) (bdt.mono (by decide)) hF
  have f2 := ltimes_ok (F := F) (k := k) (u := q.ax) (q := 2 * q.ax.dot v) hs (ba.mono (by decide)) ((b2r.mul2 bdt).mono (by decide)) hF
  have v2 := ba.smul (b2r.mul2 bdt)
  have s1 := lsum_ok (F := F) (k := k) hs (v1.mono (by decide)) (v2.mono (by decide)) hF
  have v3 := v1.add v2
  have cr := lcross_ok (F := F) (k := k) hs (ba.mono (by decide)) (hv.mono (by decide)) hF
  have bcr := ba.cross hv
  have f3 := ltimes_ok (F := F) (k := k) (u := q.ax.cross v) (q := ((2 * q.w : Int) : Rat)) hs (bcr.mono (by decide)) ((i2 c2b).mono (by decide)) hF
  have v4 := bcr.smul (i2 c2b)
  rw [c2] at v4
  have s2 := lsum_ok (F := F) (k := k) hs (v3.mono (by decide)) (v4.mono (by decide)) hF
  have v5 := v3.add v4
  have bi : Bd 50 (1 / (q.nI : Rat)) := Bd.invI (by unfold Q4.nI; omega) hnI
  have f4 := ltimes_ok (F := F) (k := k) (q := 1 / (q.nI : Rat)) hs (v5.mono (by decide)) (bi.mono (by decide)) hF
  rw [← Q4.n_eq, rot_eq q v hn] at f4
  rw [Q4.n_eq, inv_int hpos] at f4
  rw [c0, ← c0, frac_int] at f1
  rw [c0] at f1
  rw [c2, ← c2, frac_int] at f3
  rw [c2] at f3
  have two : fracD 2 = .tup [.int 2, .int 1] := rfl
  rw [two] at by1
  have ic := ints_comp (F := F) (k := k + 3) (env := [some (qD q), some (tD v), none, none, none, none, none]) (i := 6) (j := 0) (own := [("_law_each", 6)]) (st := st) (x := q.x) (y := q.y) (z := q.z) hs rfl rfl rfl (by simp)
  have axD : ∀ st, biF .tuple [lsD (q.x : Rat) (q.y : Rat) (q.z : Rat)] st = some (tD q.ax) := fun st => rfl
  have sl : slcF (qD q) (some (.int 1)) none = some (.tup [.int q.x, .int q.y, .int q.z]) := rfl
  have mm : ∀ {x : Int}, x.natAbs < 2 ^ 4 → bop .mul (.int x) (.int x) = some (.int (x * x)) := fun h => nb_bop h h (by decide)
  have hz3 : (3 : Nat) ≤ sizeLine := by decide
  have sm := comp_pure (c := callF Tk F (k + 3)) (env := [some (qD q), some (tD v), some (.int q.w), some (tD q.ax), none, none, none]) (elt := .bin .mul (.var 6) (.var 6)) (tg := .nm 6) (it := .seq (.slc (.var 0) (.some (.cst (.int 1))) .none)) (own := [("_law_each", 6)]) (st := st) (xs := [.int q.x, .int q.y, .int q.z]) (g := fun d => match d with
    | .int x => .int (x * x)
    | _ => .non) hs (by simp [evI, evE, evO, sl, seqD]) rfl hz3 (fun d hd => by
      simp only [List.mem_cons, List.not_mem_nil, or_false] at hd
      rcases hd with rfl | rfl | rfl
      · exact ⟨fun st' hs' => by simp [turnF, bindT, wipeE, evTo, evE, mm b2], fun m => rfl⟩
      · exact ⟨fun st' hs' => by simp [turnF, bindT, wipeE, evTo, evE, mm b3], fun m => rfl⟩
      · exact ⟨fun st' hs' => by simp [turnF, bindT, wipeE, evTo, evE, mm b4], fun m => rfl⟩)
  simp only [List.map_cons, List.map_nil] at sm
  have a1 : ∀ i j : Int, bop .add (.int i) (.int j) = some (.int (i + j)) := fun _ _ => rfl
  have a2 : ∀ i j : Int, bop .sub (.int i) (.int j) = some (.int (i - j)) := fun _ _ => rfl
  have mw := mm b1
  have m2 : bop .mul (.int 2) (.int q.w) = some (.int (2 * q.w)) := nb_bop (n := 2) (m := 4) (by decide) b1 (by decide)
  have j0 : idxF (qD q) (.int 0) st = some (.int q.w) := rfl
  have eN : q.w * q.w + (q.x * q.x + (q.y * q.y + (q.z * q.z + 0))) = q.nI := by unfold Q4.nI; omega
  have st1 : evS (callF Tk F (k + 3)) F (.asgP [2, 3] (.cons (.idx (.var 0) (.cst (.int 0))) (.cons (.bi .tuple (.cons (.comp (.tup (.cons (.var 6) (.cons (.cst (.int 1)) .nil))) (.nm 6) (.seq (.slc (.var 0) (.some (.cst (.int 1))) .none)) .none [("_law_each", 6)]) .nil)) .nil)))
      [some (qD q), some (tD v), none, none, none, none, none] st = some (.nxt [some (qD q), some (tD v), some (.int q.w), some (tD q.ax), none, none, none] st) := by
    have gen : ∀ C : IE, evE (callF Tk F (k + 3)) [some (qD q), some (tD v), none, none, none, none, none] C st = some (lsD (q.x : Rat) (q.y : Rat) (q.z : Rat), st) → evS (callF Tk F (k + 3)) F (.asgP [2, 3] (.cons (.idx (.var 0) (.cst (.int 0))) (.cons (.bi .tuple (.cons C .nil)) .nil))) [some (qD q), some (tD v), none, none, none, none, none] st = some (.nxt [some (qD q), some (tD v), some (.int q.w), some (tD q.ax), none, none, none] st) := by
      intro C e
      simp [evS, evE, evEs, e, j0, axD]
    exact gen _ ic
  have st2 : evS (callF Tk F (k + 3)) F (.asg 4 (.bi .sum (.cons (.comp (.bin .mul (.var 6) (.var 6)) (.nm 6) (.seq (.slc (.var 0) (.some (.cst (.int 1))) .none)) .none [("_law_each", 6)]) .nil)))
      [some (qD q), some (tD v), some (.int q.w), some (tD q.ax), none, none, none] st = some (.nxt [some (qD q), some (tD v), some (.int q.w), some (tD q.ax), some (.int (q.x * q.x + (q.y * q.y + (q.z * q.z + 0)))), none, none] st) := by
    have gen : ∀ C : IE, evE (callF Tk F (k + 3)) [some (qD q), some (tD v), some (.int q.w), some (tD q.ax), none, none, none] C st = some (.lst [.int (q.x * q.x), .int (q.y * q.y), .int (q.z * q.z)], st) → evS (callF Tk F (k + 3)) F (.asg 4 (.bi .sum (.cons C .nil))) [some (qD q), some (tD v), some (.int q.w), some (tD q.ax), none, none, none] st = some (.nxt [some (qD q), some (tD v), some (.int q.w), some (tD q.ax), some (.int (q.x * q.x + (q.y * q.y + (q.z * q.z + 0)))), none, none] st) := by
      intro C e
      have bs : biF .sum [.lst [.int (q.x * q.x), .int (q.y * q.y), .int (q.z * q.z)]] st = some (.int (q.x * q.x + (q.y * q.y + (q.z * q.z + 0)))) := rfl
      simp only [evS, evE, evEs, e, bs]
      rfl
    exact gen _ sm
  refine Eq.trans (call_body (d := i__law_turned) rfl ⟨rfl, by decide⟩ ?_) (cut_pl (fun k => by simp [tD, triD]) rfl hs rfl)
  show evSs (callF Tk F (k + 3)) F i__law_turned.body [some (qD q), some (tD v), none, none, none, none, none] st = _
  unfold i__law_turned
  rw [ss_nxt st1, ss_nxt st2]
  rw [eN.symm] at f4
  generalize q.x * q.x + (q.y * q.y + (q.z * q.z + 0)) = sz at *
  generalize qD q = QD at *
  generalize tD (q.rot v) = RD at *
  generalize tD q.ax = AD at *
  generalize tD v = VD at *
  refine (ss_nxt (env' := [some QD, some VD, some (.int q.w), some AD, some (.int sz), some _, none]) (st' := st) (by simp [evS, evE, evEs, mw, a2, hz2, f1]; rfl)).trans ?_
  refine (ss_nxt (env' := [some QD, some VD, some (.int q.w), some AD, some (.int sz), some _, none]) (st' := st) (by simp [evS, evE, evEs, hz2, dt, by1, f2, s1]; rfl)).trans ?_
  refine (ss_nxt (env' := [some QD, some VD, some (.int q.w), some AD, some (.int sz), some _, none]) (st' := st) (by simp [evS, evE, evEs, hz2, cr, m2, f3, s2]; rfl)).trans ?_
  refine ss_ret ?_
  simp [evS, evE, evEs, hz2, mw, a1, f4]
/-! ### what turning keeps -/
theorem rotN_dot (q : Q4) (u v : V3) : (q.rotN u).dot (q.rotN v) = q.n * q.n * u.dot v := by
  unfold Q4.rotN V3.dot Q4.n rot1
  dsimp only
  grind
theorem rotN_cross (q : Q4) (u v : V3) : (q.rotN u).cross (q.rotN v) = ⟨q.n * (q.rotN (u.cross v)).a, q.n * (q.rotN (u.cross v)).b, q.n * (q.rotN (u.cross v)).c⟩ := by
  unfold Q4.rotN V3.cross Q4.n rot1
  refine V3.ext' ?_ ?_ ?_ <;> dsimp only <;> grind
theorem rot_dot {q : Q4} (h : q.ne0) (u v : V3) : (q.rot u).dot (q.rot v) = u.dot v := by
  have hn := Q4.n_ne h
  have e := rotN_dot q u v
  unfold Q4.rot
  unfold V3.dot at *
  dsimp only
  grind
theorem rot_cross {q : Q4} (h : q.ne0) (u v : V3) : (q.rot u).cross (q.rot v) = q.rot (u.cross v) := by
  have hn := Q4.n_ne h
  have e := rotN_cross q u v
  unfold V3.cross at e
  rw [V3.mk.injEq] at e
  obtain ⟨e1, e2, e3⟩ := e
  unfold Q4.rot
  generalize hX : q.rotN (u.cross v) = X at *
  have hX' : q.rotN ⟨u.b * v.c - u.c * v.b, u.c * v.a - u.a * v.c, u.a * v.b - u.b * v.a⟩ = X := hX
  rw [hX'] at e1 e2 e3
  unfold V3.cross
  refine V3.ext' ?_ ?_ ?_ <;> dsimp only <;> grind
theorem rot_ax {q : Q4} (h : q.ne0) : q.rot q.ax = q.ax := by
  have hn := Q4.n_ne h
  have e : q.rotN q.ax = ⟨q.n * q.x, q.n * q.y, q.n * q.z⟩ := by
    unfold Q4.rotN Q4.ax Q4.n rot1
    refine V3.ext' ?_ ?_ ?_ <;> dsimp only <;> grind
  unfold Q4.rot
  rw [e]
  unfold Q4.ax
  refine V3.ext' ?_ ?_ ?_ <;> dsimp only <;> grind
theorem rot_half {q : Q4} (h : q.ne0) (h0 : q.w = 0) (v : V3) : q.rot (q.rot v) = v := by
  rw [← rot_mul h h]
  have hn := Q4.n_ne h
  have e : (q.mul q).n = q.n * q.n := n_mul q q
  have e2 : (q.mul q).rotN v = ⟨q.n * q.n * v.a, q.n * q.n * v.b, q.n * q.n * v.c⟩ := by
    rw [rotN_mul]
    unfold Q4.rotN Q4.n rot1
    rw [h0]
    have z : ((0 : Int) : Rat) = 0 := rfl
    rw [z]
    refine V3.ext' ?_ ?_ ?_ <;> dsimp only <;> grind
  unfold Q4.rot
  rw [e, e2]
  refine V3.ext' ?_ ?_ ?_ <;> dsimp only <;> grind
theorem Q4.pl_smul {q : Q4} {m : Int} (hm : m ≠ 0) (h : IsPQ q) : (q.smul m).ne0 ∧ (q.smul m).pl = q := by
  have h1 : (q.smul m).ne0 := by
    rw [Q4.ne0_iff]
    have : (q.smul m).nI = m * m * q.nI := by unfold Q4.nI Q4.smul; grind
    rw [this]
    exact Int.mul_ne_zero (Int.mul_ne_zero hm hm) (Q4.ne0_iff.mp h.ne)
  refine ⟨h1, ?_⟩
  have := Q4.pl_eq (p := q.smul m) (q := q) (m := 1) (n := m) (by decide) hm h1 h.ne (Q4.smul_one _)
  rw [this, h.self]
end K06

set_option Elab.async false
set_option linter.all false
set_option maxRecDepth 100000
set_option maxHeartbeats 4000000
set_option exponentiation.threshold 10000
namespace K06
open PySem PySem.Spec PyProof.Rows L2 Mi TL
/-! ### placings -/
structure Pl where
  q : Q4
  t : V3
def plD (p : Pl) : Mi.D := .tup [qD p.q, tD p.t]
def Pl.act (p : Pl) (v : V3) : V3 := (p.q.rot v).add p.t
def Pl.join (p o : Pl) : Pl := ⟨(p.q.mul o.q).pl, (o.q.rot p.t).add o.t⟩
def Pl.back (p : Pl) : Pl := ⟨p.q.conj.pl, (p.q.conj.pl.rot p.t).smul (-1)⟩
def Pl.stay : Pl := ⟨Q4.one, V3.zero⟩
theorem Pl.ext' {p q : Pl} (h1 : p.q = q.q) (h2 : p.t = q.t) : p = q := by
  cases p; cases q; simp_all
theorem Pl.eq_iff {p q : Pl} : p = q ↔ p.q = q.q ∧ p.t = q.t := by
  cases p; cases q; simp
instance : DecidableEq Pl := fun p q => decidable_of_iff _ Pl.eq_iff.symm
theorem rot_add {q : Q4} (h : q.ne0) (u v : V3) : q.rot (u.add v) = (q.rot u).add (q.rot v) := by
  have hn := Q4.n_ne h
  unfold Q4.rot Q4.rotN V3.add rot1
  refine V3.ext' ?_ ?_ ?_ <;> dsimp only <;> grind
theorem rot_sub {q : Q4} (h : q.ne0) (u v : V3) : q.rot (u.sub v) = (q.rot u).sub (q.rot v) := by
  have hn := Q4.n_ne h
  unfold Q4.rot Q4.rotN V3.sub rot1
  refine V3.ext' ?_ ?_ ?_ <;> dsimp only <;> grind
theorem rot_neg {q : Q4} (h : q.ne0) (u : V3) : q.rot (u.smul (-1)) = (q.rot u).smul (-1) := by
  have hn := Q4.n_ne h
  unfold Q4.rot Q4.rotN V3.smul rot1
  refine V3.ext' ?_ ?_ ?_ <;> dsimp only <;> grind
theorem rot_zero (q : Q4) : q.rot V3.zero = V3.zero := by
  unfold Q4.rot Q4.rotN V3.zero rot1
  refine V3.ext' ?_ ?_ ?_ <;> dsimp only <;> grind
theorem rot_one (v : V3) : Q4.one.rot v = v := by
  have e : ((1 : Int) : Rat) = 1 := rfl
  have z : ((0 : Int) : Rat) = 0 := rfl
  unfold Q4.rot Q4.rotN Q4.one Q4.n rot1
  dsimp only
  rw [e, z]
  refine V3.ext' ?_ ?_ ?_ <;> dsimp only <;> grind
theorem rot_back {q : Q4} (h : q.ne0) (v : V3) : q.conj.pl.rot (q.rot v) = v ∧ q.rot (q.conj.pl.rot v) = v := by
  have hc := Q4.conj_ne h
  obtain ⟨e1, e2⟩ := Q4.mul_conj_pl h
  constructor
  · rw [rot_pl hc, ← rot_mul h hc, ← rot_pl (Q4.mul_ne h hc), e1, rot_one]
  · rw [rot_pl hc, ← rot_mul hc h, ← rot_pl (Q4.mul_ne hc h), e2, rot_one]
theorem act_join {p o : Pl} (hp : p.q.ne0) (ho : o.q.ne0) (v : V3) : (p.join o).act v = o.act (p.act v) := by
  unfold Pl.join Pl.act
  dsimp only
  rw [rot_pl (Q4.mul_ne hp ho), rot_mul hp ho, rot_add ho]
  unfold V3.add
  refine V3.ext' ?_ ?_ ?_ <;> dsimp only <;> grind
theorem act_back {p : Pl} (hp : p.q.ne0) (v : V3) : p.back.act (p.act v) = v ∧ p.act (p.back.act v) = v := by
  have hc := Q4.conj_ne hp
  have hcp := (Q4.pl_is hc).ne
  unfold Pl.back Pl.act
  dsimp only
  constructor
  · rw [rot_add hcp, (rot_back hp v).1]
    unfold V3.add V3.smul
    refine V3.ext' ?_ ?_ ?_ <;> dsimp only <;> grind
  · rw [rot_add hp, (rot_back hp v).2, rot_neg hp, (rot_back hp p.t).2]
    unfold V3.add V3.smul
    refine V3.ext' ?_ ?_ ?_ <;> dsimp only <;> grind
theorem join_back {p : Pl} (hp : IsPQ p.q) : p.join p.back = Pl.stay ∧ p.back.join p = Pl.stay ∧ p.back.back = p := by
  have hn := hp.ne
  have hc := Q4.conj_ne hn
  have hcp := (Q4.pl_is hc).ne
  obtain ⟨e1, e2⟩ := Q4.mul_conj_pl hn
  refine ⟨Pl.ext' ?_ ?_, Pl.ext' ?_ ?_, Pl.ext' ?_ ?_⟩
  · show (p.q.mul p.q.conj.pl).pl = Q4.one
    rw [Q4.pl_mul_r hn hc, e1]
  · show (p.q.conj.pl.rot p.t).add ((p.q.conj.pl.rot p.t).smul (-1)) = V3.zero
    unfold V3.add V3.smul V3.zero
    refine V3.ext' ?_ ?_ ?_ <;> dsimp only <;> grind
  · show (p.q.conj.pl.mul p.q).pl = Q4.one
    rw [Q4.pl_mul_l hc hn, e2]
  · show (p.q.rot ((p.q.conj.pl.rot p.t).smul (-1))).add p.t = V3.zero
    rw [rot_neg hn, (rot_back hn p.t).2]
    unfold V3.add V3.smul V3.zero
    refine V3.ext' ?_ ?_ ?_ <;> dsimp only <;> grind
  · show p.q.conj.pl.conj.pl = p.q
    rw [Q4.pl_conj hc, Q4.conj_conj, hp.self]
  · show (p.q.conj.pl.conj.pl.rot ((p.q.conj.pl.rot p.t).smul (-1))).smul (-1) = p.t
    rw [Q4.pl_conj hc, Q4.conj_conj, hp.self, rot_neg hn, (rot_back hn p.t).2]
    unfold V3.smul
    refine V3.ext' ?_ ?_ ?_ <;> dsimp only <;> grind
theorem join_assoc {p o r : Pl} (hp : p.q.ne0) (ho : o.q.ne0) (hr : r.q.ne0) : (p.join o).join r = p.join (o.join r) := by
  have hpo := Q4.mul_ne hp ho
  have hor := Q4.mul_ne ho hr
  refine Pl.ext' ?_ ?_
  · show ((p.q.mul o.q).pl.mul r.q).pl = (p.q.mul (o.q.mul r.q).pl).pl
    rw [Q4.pl_mul_l hpo hr, Q4.pl_mul_r hp hor, Q4.mul_assoc]
  · show (r.q.rot ((o.q.rot p.t).add o.t)).add r.t = ((o.q.mul r.q).pl.rot p.t).add ((r.q.rot o.t).add r.t)
    rw [rot_pl hor, rot_mul ho hr, rot_add hr]
    unfold V3.add
    refine V3.ext' ?_ ?_ ?_ <;> dsimp only <;> grind
theorem act_inj {p o : Pl} (hp : IsPQ p.q) (ho : IsPQ o.q) (h0 : p.act V3.zero = o.act V3.zero) (h1 : p.act ⟨1, 0, 0⟩ = o.act ⟨1, 0, 0⟩) (h2 : p.act ⟨0, 1, 0⟩ = o.act ⟨0, 1, 0⟩) (h3 : p.act ⟨0, 0, 1⟩ = o.act ⟨0, 0, 1⟩) : p = o := by
  unfold Pl.act at h0 h1 h2 h3
  rw [rot_zero, rot_zero] at h0
  have ht : p.t = o.t := by
    unfold V3.add V3.zero at h0
    simp only [V3.mk.injEq] at h0
    exact V3.ext' (by grind) (by grind) (by grind)
  have can : ∀ {u v : V3}, u.add p.t = v.add o.t → u = v := fun {u v} h => by
    rw [ht] at h
    unfold V3.add at h
    simp only [V3.mk.injEq] at h
    exact V3.ext' (by grind) (by grind) (by grind)
  exact Pl.ext' (rot_inj hp ho (can h1) (can h2) (can h3)) ht
/-! the program's -/
theorem plD0 (p : Pl) (st : Mi.Store) : idxF (plD p) (.int 0) st = some (qD p.q) := rfl
theorem plD1 (p : Pl) (st : Mi.Store) : idxF (plD p) (.int 1) st = some (tD p.t) := rfl
theorem isplacing_ok {F k : Nat} {p : Pl} {st : Mi.Store} (hs : SW st) (h : IsPQ p.q) (hb : BQ 8000 p.q) : callF Tk F (k + 4) 15 [plD p] st = some (.bl true, st) := by
  have h1 := isturn_ok (F := F) (k := k) hs h hb
  have h2 := triple_ok (F := F) (k := k) (a := p.t.a) (b := p.t.b) (c := p.t.c) hs
  have h2' : callF Tk F (k + 3) 11 [tD p.t] st = some (.bl true, st) := h2
  rw [call_at (d := i_is_placing) rfl]
  refine (run_ret (v := .bl true) (st' := st) rfl ⟨rfl, by decide⟩ ?_).trans (cut_pl (fun k => by simp) rfl hs rfl)
  have n1 : isiF (plD p) .tuple = some true := rfl
  have n2 : biF .len [plD p] st = some (.int 2) := rfl
  have n3 : cop .eq (.int 2) (.int 2) = some true := by rw [eq_int]; rfl
  show evE (callF Tk F (k + 3)) [some (plD p)] _ st = _
  simp only [evE, evEs, List.getElem?_cons_zero, n1, n2, n3, plD0, plD1, h1, h2', truth]
theorem chkplacing_ok {F k : Nat} {p : Pl} {st : Mi.Store} (hs : SW st) (h : IsPQ p.q) (hb : BQ 8000 p.q) : callF Tk F (k + 5) 16 [plD p] st = some (.non, st) := by
  have h1 := isplacing_ok (F := F) (k := k) hs h hb
  have body : evSs (callF Tk F (k + 4)) F i_check_placing.body [some (plD p)] st = some (.nxt [some (plD p)] st) := by
    simp [i_check_placing, evSs, evS, evT, evE, evEs, truth, h1]
  exact (call_bodyN (d := i_check_placing) rfl ⟨rfl, by decide⟩ body).trans (cut_pl (fun k => by simp) rfl hs rfl)
theorem placed_ok {F k B C : Nat} {p : Pl} {v : V3} {st : Mi.Store} (hs : SW st) (h : IsPQ p.q) (bq : BQ B p.q) (hB0 : 0 < B) (hB : B ≤ 20) (ht : BV 4000 p.t) (hv : BV C v) (hC : 11 * B + 6 * C + 22 ≤ 4000) : callF Tk F (k + 6) 20 [plD p, tD v] st = some (tD (p.act v), st) := by
  have h1 := chkplacing_ok (F := F) (k := k) hs h (bq.mono (by omega))
  have h2 := chkt_ok (F := F) (k := k + 1) (u := v) hs
  have h3 := led_ok (F := F) (k := k + 3) hs h.ne (bq.mono (by omega)) (hv.mono (C := 1000) (by omega))
  have h4 := vsum_ok (F := F) (k := k + 2) hs ((rot_bd hB0 bq h.ne hv).mono (C := 4000) (by omega)) ht
  have body : evSs (callF Tk F (k + 5)) F i_placed.body [some (plD p), some (tD v)] st = some (.ret (tD (p.act v)) st) := by
    simp [i_placed, evSs, evS, evE, evEs, h1, h2, h3, h4, plD0, plD1, Pl.act]
  exact (call_body (d := i_placed) rfl ⟨rfl, by decide⟩ body).trans (cut_pl (fun k => by simp [tD, triD]) rfl hs rfl)
theorem joinp_ok {F k B C : Nat} {p o : Pl} {st : Mi.Store} (hs : SW st) (hp : IsPQ p.q) (ho : IsPQ o.q) (bp : BQ B p.q) (bo : BQ B o.q) (hB0 : 0 < B) (hB : B ≤ 20) (tp : BV C p.t) (to : BV 4000 o.t) (hC : 11 * B + 6 * C + 22 ≤ 4000) : callF Tk F (k + 6) 21 [plD p, plD o] st = some (plD (p.join o), st) := by
  have hz2 : (2 : Nat) ≤ sizeLine := by decide
  have h1 := chkplacing_ok (F := F) (k := k) hs hp (bp.mono (by omega))
  have h2 := chkplacing_ok (F := F) (k := k) hs ho (bo.mono (by omega))
  have h3 := led_ok (F := F) (k := k + 3) hs ho.ne (bo.mono (by omega)) (tp.mono (C := 1000) (by omega))
  have h4 := vsum_ok (F := F) (k := k + 2) hs ((rot_bd hB0 bo ho.ne tp).mono (C := 4000) (by omega)) to
  have h5 := join_ok (F := F) (k := k + 2) hs hp.ne ho.ne bp bo (by omega)
  have body : evSs (callF Tk F (k + 5)) F i_joined_placings.body [some (plD p), some (plD o), none] st = some (.ret (plD (p.join o)) st) := by
    simp [i_joined_placings, evSs, evS, evE, evEs, h1, h2, h3, h4, h5, plD0, plD1, hz2]
    rfl
  exact (call_body (d := i_joined_placings) rfl ⟨rfl, by decide⟩ body).trans (cut_pl (fun k => by simp [plD]) rfl hs rfl)
theorem backp_ok {F k B C : Nat} {p : Pl} {st : Mi.Store} (hs : SW st) (hp : IsPQ p.q) (bp : BQ B p.q) (hB0 : 0 < B) (hB : B ≤ 20) (tp : BV C p.t) (hC : 11 * B + 6 * C + 22 ≤ 4000) : callF Tk F (k + 6) 22 [plD p] st = some (plD p.back, st) := by
  have hz2 : (2 : Nat) ≤ sizeLine := by decide
  have hc := Q4.conj_ne hp.ne
  have hcp := (Q4.pl_is hc).ne
  have bc : BQ B p.q.conj.pl := bp.conj.pl hc
  have h1 := chkplacing_ok (F := F) (k := k) hs hp (bp.mono (by omega))
  have h2 := back_ok (F := F) (k := k + 2) hs hp.ne bp (by omega)
  have h3 := led_ok (F := F) (k := k + 3) hs hcp (bc.mono (by omega)) (tp.mono (C := 1000) (by omega))
  have m1 : Bd 4000 (-1 : Rat) := Bd.mono (B := 2) ⟨by decide, by decide⟩ (by decide)
  have h4 := vtimes_ok (F := F) (k := k + 2) (q := -1) hs ((rot_bd hB0 bc hcp tp).mono (C := 4000) (by omega)) m1
  have e1 : fracD (-1) = .tup [.int (-1), .int 1] := rfl
  rw [e1] at h4
  have body : evSs (callF Tk F (k + 5)) F i_back_placing.body [some (plD p), none] st = some (.ret (plD p.back) st) := by
    simp [i_back_placing, evSs, evS, evE, evEs, h1, h2, h3, h4, plD0, plD1, hz2]
    rfl
  exact (call_body (d := i_back_placing) rfl ⟨rfl, by decide⟩ body).trans (cut_pl (fun k => by simp [plD]) rfl hs rfl)
/-! among any values -/
def isPl : Mi.D → Bool
  | .tup [a, b] => isT a && isTr b
  | _ => false
theorem isPl_not {d : Mi.D} (hn : ∀ xs, d ≠ .tup xs) : isPl d = false := by
  unfold isPl
  split
  · exact absurd rfl (hn _)
  · rfl
theorem isPl_len {xs : List Mi.D} (h : xs.length ≠ 2) : isPl (.tup xs) = false := by
  unfold isPl
  split
  · rename_i e
    cases e
    exact absurd rfl h
  · rfl
theorem isPl_pl {p : Pl} (h : IsPQ p.q) : isPl (plD p) = true := by
  show (isT (qD p.q) && isTr (tD p.t)) = true
  rw [isT_pq h, isTr_tri]
  rfl
theorem Gd.pl {p : Pl} {B L : Nat} (h : BQ B p.q) (ht : BV B p.t) (hL : 4 ≤ L) : Gd B L (plD p) := by
  simp only [plD, Gd, Gds]
  exact ⟨by simp; omega, Gd.q h hL, Gd.tri ht (by omega), trivial⟩
theorem isplacing_any {F k B L : Nat} {d : Mi.D} {st : Mi.Store} (hs : SW st) (h : Gd B L d) (hB : B ≤ 8000) : callF Tk F (k + 4) 15 [d] st = some (.bl (isPl d), st) := by
  rw [call_at (d := i_is_placing) rfl]
  refine (run_ret (v := .bl (isPl d)) (st' := st) rfl ⟨rfl, by decide⟩ ?_).trans (cut_pl (fun k => by simp) rfl hs rfl)
  show evE (callF Tk F (k + 3)) [some d] _ st = _
  rcases tup_or d with ⟨xs, rfl⟩ | hn
  · have n1 : isiF (.tup xs) .tuple = some true := rfl
    have n2 : biF .len [.tup xs] st = some (.int xs.length) := rfl
    have n3 : cop .eq (.int xs.length) (.int 2) = some (decide (xs.length = 2)) := by
      rw [eq_int]
      congr 1
      exact decide_eq_decide.mpr (by omega)
    by_cases h2 : xs.length = 2
    · match xs, h2 with
      | [x, y], _ =>
        simp only [Gd, Gds] at h
        have h1 := isturn_any (F := F) (k := k) hs h.2.1 hB
        have h2 := istr_any (F := F) (k := k) hs h.2.2.1
        have i0 : idxF (.tup [x, y]) (.int 0) st = some x := rfl
        have i1 : idxF (.tup [x, y]) (.int 1) st = some y := rfl
        have n2' : biF .len [.tup [x, y]] st = some (.int 2) := rfl
        have n3' : cop .eq (.int 2) (.int 2) = some true := by rw [eq_int]; rfl
        show _ = some (Mi.D.bl (isT x && isTr y), st)
        cases hx : isT x <;> simp [evE, evEs, n1, n2', n3', i0, i1, h1, h2, truth, hx]
    · rw [isPl_len h2]
      simp [evE, evEs, n1, n2, n3, h2, truth]
  · rw [isPl_not hn]
    have n1 := not_tup h hn
    simp [evE, n1, truth]
theorem lisplacing_any {F k B L : Nat} {d : Mi.D} {st : Mi.Store} (hs : SW st) (h : Gd B L d) (hB : B ≤ 4000) (hF : 2 ^ 8000 ≤ F) : callF Tk F (k + 4) 48 [d] st = some (.bl (isPl d), st) := by
  rw [call_at (d := i__law_is_placing) rfl]
  refine (run_ret (v := .bl (isPl d)) (st' := st) rfl ⟨rfl, by decide⟩ ?_).trans (cut_pl (fun k => by simp) rfl hs rfl)
  show evE (callF Tk F (k + 3)) [some d] _ st = _
  rcases tup_or d with ⟨xs, rfl⟩ | hn
  · have n1 : isiF (.tup xs) .tuple = some true := rfl
    have n2 : biF .len [.tup xs] st = some (.int xs.length) := rfl
    have n3 : cop .eq (.int xs.length) (.int 2) = some (decide (xs.length = 2)) := by
      rw [eq_int]
      congr 1
      exact decide_eq_decide.mpr (by omega)
    by_cases h2 : xs.length = 2
    · match xs, h2 with
      | [x, y], _ =>
        simp only [Gd, Gds] at h
        have h1 := listurn_any (F := F) (k := k + 1) hs h.2.1 (by omega) hF
        have h2 := lare_any (F := F) (k := k) hs h.2.2.1 hB hF
        have i0 : idxF (.tup [x, y]) (.int 0) st = some x := rfl
        have i1 : idxF (.tup [x, y]) (.int 1) st = some y := rfl
        have n2' : biF .len [.tup [x, y]] st = some (.int 2) := rfl
        have n3' : cop .eq (.int 2) (.int 2) = some true := by rw [eq_int]; rfl
        show _ = some (Mi.D.bl (isT x && isTr y), st)
        cases hx : isT x <;> simp [evE, evEs, n1, n2', n3', i0, i1, h1, h2, truth, hx]
    · rw [isPl_len h2]
      simp [evE, evEs, n1, n2, n3, h2, truth]
  · rw [isPl_not hn]
    have n1 := not_tup h hn
    simp [evE, n1, truth]
theorem IShow.pl {p : Pl} (h : BQ 1900 p.q) (ht : BV 1900 p.t) : IShow (plD p) := by
  simp only [plD, IShow, IShows]
  exact ⟨IShow.q h, IShow.tri ht, trivial⟩
theorem tx_pl (p : Pl) : tx (plD p) = 10058 := rfl
theorem depth_pl (p : Pl) : (pd (plD p)).depth = 3 := by
  have h1 := depth_q p.q
  have h2 := depth_tri p.t
  simp only [plD, pd, pds, PyData.depth, PyData.depthAll] at *
  omega
theorem show_pl {p : Pl} {st : Mi.Store} (h : BQ 1900 p.q) (ht : BV 1900 p.t) : biF .repr [plD p] st = some (.str (shS (plD p))) :=
  show_ok (IShow.pl h ht) (by rw [tx_pl]; decide) (by rw [depth_pl]; decide)
theorem ok_p {p : Pl} (h : BQ 1900 p.q) (ht : BV 1900 p.t) : IShow (plD p) ∧ tx (plD p) ≤ 100000 ∧ (pd (plD p)).depth ≤ 60 := ⟨IShow.pl h ht, by rw [tx_pl]; decide, by rw [depth_pl]; decide⟩
theorem dEq_pl (p o : Pl) : dEq (plD p) (plD o) = some (decide (p = o)) := by
  have s : ∀ p : Pl, SeqAt.shaped (pd (plD p)) = true := fun p => rfl
  have f : ∀ p : Pl, flat0 (plD p) = true := fun p => rfl
  have e1 : PyData.eqv (pd (qD p.q)) (pd (qD o.q)) = decide (p.q = o.q) := by
    have h := dEq_q p.q o.q
    simpa only [dEq, show ∀ q : Q4, flat0 (qD q) = true from fun q => rfl, show ∀ q : Q4, SeqAt.shaped (pd (qD q)) = true from fun q => rfl, Bool.true_and, if_true, Option.some.injEq] using h
  have e2 : PyData.eqv (pd (tD p.t)) (pd (tD o.t)) = decide (p.t = o.t) := by
    have h := dEq_tD p.t o.t
    simpa only [dEq, show ∀ q : V3, flat0 (tD q) = true from fun q => rfl, show ∀ q : V3, SeqAt.shaped (pd (tD q)) = true from fun q => rfl, Bool.true_and, if_true, Option.some.injEq] using h
  have e : PyData.eqv (pd (plD p)) (pd (plD o)) = decide (p = o) := by
    show PyData.eqvAll [pd (qD p.q), pd (tD p.t)] [pd (qD o.q), pd (tD o.t)] = _
    simp only [PyData.eqvAll, e1, e2, Bool.and_true]
    rw [Bool.eq_iff_iff]
    simp [Pl.eq_iff]
  simp only [dEq, f, s, Bool.true_and, if_true, e]
abbrev formB : ISs := .cons (.ite (.cmp .ne (.bi .repr (.cons (.lst (.cons (.call 15 (.cons (.var 2) .nil)) (.cons (.callk 15 (.cons (.var 2) .nil) ["value"] [0]) .nil))) .nil)) (.bi .repr (.cons (.bin .mul (.lst (.cons (.call 48 (.cons (.var 2) .nil)) .nil)) (.cst (.int 2))) .nil))) (.cons (.ret (.cst (.bl false))) .nil) .nil) .nil
theorem form_step {F k B L : Nat} {a b : Option Mi.D} {d : Mi.D} {st : Mi.Store} (hs : SW st) (h : Gd B L d) (hB : B ≤ 4000) (hF : 2 ^ 8000 ≤ F) :
    evSs (callF Tk F (k + 4)) F formB [a, b, some d] st = some (.nxt [a, b, some d] st) := by
  have h1 := isplacing_any (F := F) (k := k) hs h (by omega)
  have g1 := lisplacing_any (F := F) (k := k) hs h hB hF
  generalize isPl d = x at *
  have sh := fun st => show_l (xs := [.bl x, .bl x]) (st := st) (by simp [ok_b]) (by simp)
  have sn := sh_ne (sh st).1
  have r1 := fun st => (sh st).2
  have z1 : (1 : Nat) ≤ sizeLine := by decide
  have z2 : (2 : Nat) ≤ sizeLine := by decide
  simp [evSs, evS, evT, evE, evEs, h1, g1, z1, z2, rep2, r1, sn]
theorem form_loop {F k B L : Nat} {a b : Option Mi.D} {st : Mi.Store} (hs : SW st) (hB : B ≤ 4000) (hF : 2 ^ 8000 ≤ F) : ∀ (xs : List Mi.D) (e : Option Mi.D), Gds B L xs →
    ∃ f, loopF (fun x env st => match bindT (.nm 2) x env with
      | some env' => evSs (callF Tk F (k + 4)) F formB env' st
      | none => none) xs [a, b, e] st = some (.nxt [a, b, f] st)
  | [], e, _ => ⟨e, rfl⟩
  | x :: xs, e, h => by
    simp only [Gds] at h
    have h1 := form_step (F := F) (k := k) (a := a) (b := b) hs h.1 hB hF
    obtain ⟨f, h2⟩ := form_loop (k := k) (a := a) (b := b) hs hB hF xs (some x) h.2
    refine ⟨f, ?_⟩
    simp only [loopF, bindT, List.set_cons_succ, List.set_cons_zero, h1]
    exact h2
theorem forms_ok {F k n : Nat} {q : Pl} {r : Int} {st : Mi.Store} (hw : Well st n r) (hr : r + 1000 < 2 ^ 40) (bq : BQ 100 q.q) (bt : BV 100 q.t) (hF : 2 ^ 8000 ≤ F) :
    ∃ st', callF Tk F (k + 10) 53 [.cell n, plD q] st = some (.bl true, st') ∧ Well st' n (r + 200) ∧ Turned st n st' := by
  have gq : Gd 100 10 (plD q) := Gd.pl bq bt (by decide)
  have dq : dpt (plD q) ≤ 3 := by simp [plD, qD, tD, triD, fracD, dpt, dpts]
  obtain ⟨v1, st1, h1, g1, _, hw1, ht1⟩ := bent_ok (F := F) (k := k) (B := 100) (L := 10) (by decide) (by decide) (by decide) (by decide) 3 (plD q) st r dq gq hw (by omega)
  obtain ⟨v2, st2, h2, g2, _, hw2, ht2⟩ := bent_ok (F := F) (k := k) (B := 100) (L := 10) (by decide) (by decide) (by decide) (by decide) 3 (plD q) st1 _ dq gq hw1 (by omega)
  obtain ⟨v3, st3, h3, g3, _, hw3, ht3⟩ := odd_ok (F := F) (k := k + 6) hw2 (by omega)
  have hT := (ht1.trans ht2).trans ht3
  have hs := hw3.sw
  have gall : Gds 102 12 [plD q, v1, v2, v3] := ⟨gq.mono (by decide) (by decide), g1.mono (by decide) (by decide), g2.mono (by decide) (by decide), g3.mono (by decide) (by decide), trivial⟩
  obtain ⟨f, hl⟩ := form_loop (F := F) (k := k + 5) (a := some (.cell n)) (b := some (plD q)) hs (by decide) hF [plD q, v1, v2, v3] none gall
  have s2 : evS (callF Tk F (k + 9)) F (.forr (.nm 2) (.seq (.lst (.cons (.var 1) (.cons (.call 50 (.cons (.var 0) (.cons (.var 1) .nil))) (.cons (.call 50 (.cons (.var 0) (.cons (.var 1) .nil))) (.cons (.call 49 (.cons (.var 0) .nil)) .nil)))))) formB) [some (.cell n), some (plD q), none] st = some (.nxt [some (.cell n), some (plD q), f] st3) := by
    have ei : evI (callF Tk F (k + 9)) [some (.cell n), some (plD q), none] (.seq (.lst (.cons (.var 1) (.cons (.call 50 (.cons (.var 0) (.cons (.var 1) .nil))) (.cons (.call 50 (.cons (.var 0) (.cons (.var 1) .nil))) (.cons (.call 49 (.cons (.var 0) .nil)) .nil)))))) st = some ([plD q, v1, v2, v3], st3) := by
      simp [evI, evE, evEs, h1, h2, h3, q4_len, seqD]
    simp only [evS, ei]
    exact hl
  have body : evSs (callF Tk F (k + 9)) F i__law_are_forms_right.body [some (.cell n), some (plD q), none] st = some (.ret (.bl true) st3) := by
    unfold i__law_are_forms_right
    rw [ss_nxt s2]
    exact ss_ret rfl
  exact ⟨st3, (call_body (d := i__law_are_forms_right) rfl ⟨rfl, by decide⟩ body).trans (cut_pl (fun k => by simp) rfl hs hT.len), hw3.mono (by omega), hT⟩
/-- what a point wants of the loop -/
def RowOk (F k : Nat) (st : Mi.Store) (P Q B K : Mi.D) (X : Mi.D) : Prop :=
  ∃ (A1 A2 A4 : Mi.D) (s : PySem.Str), callF Tk F k 20 [B, X] st = some (A1, st) ∧ callF Tk F k 20 [P, X] st = some (A2, st) ∧ callF Tk F k 20 [K, A2] st = some (X, st) ∧ callF Tk F k 20 [K, X] st = some (A4, st) ∧ callF Tk F k 20 [P, A4] st = some (X, st) ∧ callF Tk F k 20 [Q, A2] st = some (A1, st) ∧
    (∀ st : Mi.Store, biF .repr [.lst [A1, X, X]] st = some (.str s)) ∧ cop .ne (.str s) (.str s) = some false
abbrev rowB : ISs := .cons (.asg 6 (.lst (.cons (.call 20 (.cons (.var 8) (.cons (.var 10) .nil))) (.cons (.call 20 (.cons (.var 9) (.cons (.call 20 (.cons (.var 1) (.cons (.var 10) .nil))) .nil))) (.cons (.call 20 (.cons (.var 1) (.cons (.call 20 (.cons (.var 9) (.cons (.var 10) .nil))) .nil))) .nil)))))
    (.cons (.ite (.cmp .ne (.bi .repr (.cons (.var 6) .nil)) (.bi .repr (.cons (.lst (.cons (.call 20 (.cons (.var 2) (.cons (.call 20 (.cons (.var 1) (.cons (.var 10) .nil))) .nil))) (.cons (.var 10) (.cons (.var 10) .nil)))) .nil))) (.cons (.ret (.cst (.bl false))) .nil) .nil) .nil)
theorem rows_loop {F k : Nat} {st : Mi.Store} {w P Q R S N U B K : Mi.D} : ∀ (xs : List Mi.D) (e6 e10 : Option Mi.D), (∀ X ∈ xs, RowOk F k st P Q B K X) → ∃ f6 f10, loopF (fun x env st => match bindT (.nm 10) x env with
      | some env' => evSs (callF Tk F k) F rowB env' st
      | none => none) xs [some w, some P, some Q, some R, some S, some N, e6, some U, some B, some K, e10, none, none] st = some (.nxt [some w, some P, some Q, some R, some S, some N, f6, some U, some B, some K, f10, none, none] st)
  | [], e6, e10, _ => ⟨e6, e10, rfl⟩
  | X :: xs, e6, e10, h => by
    obtain ⟨A1, A2, A4, s, h1, h2, h3, h4, h5, h6, h7, h8⟩ := h X List.mem_cons_self
    obtain ⟨f6, f10, ih⟩ := rows_loop xs (some (.lst [A1, X, X])) (some X) fun Y hY => h Y (List.mem_cons_of_mem _ hY)
    refine ⟨f6, f10, ?_⟩
    have hz3 : (3 : Nat) ≤ sizeLine := by decide
    have b : evSs (callF Tk F k) F rowB [some w, some P, some Q, some R, some S, some N, e6, some U, some B, some K, some X, none, none] st = some (.nxt [some w, some P, some Q, some R, some S, some N, some (.lst [A1, X, X]), some U, some B, some K, some X, none, none] st) := by
      refine (ss_nxt (env' := [some w, some P, some Q, some R, some S, some N, some (.lst [A1, X, X]), some U, some B, some K, some X, none, none]) (st' := st) (by simp [evS, evE, evEs, h1, h2, h3, h4, h5, hz3])).trans ?_
      simp [evSs, evS, evT, evE, evEs, h2, h6, h7, h8, hz3]
    simp only [loopF, bindT, List.set_cons_succ, List.set_cons_zero, b]
    exact ih
theorem spots_ok {F k : Nat} {st : Mi.Store} (hs : SW st) : callF Tk F (k + 1) 51 [] st = some (.lst [tD V3.zero, tD ⟨1, 0, 0⟩, tD ⟨0, 1, 0⟩, tD ⟨0, 0, 1⟩], st) := by
  have hz3 : (3 : Nat) ≤ sizeLine := by decide
  have hz2 : (2 : Nat) ≤ sizeLine := by decide
  have e0 : fracD 0 = .tup [.int 0, .int 1] := rfl
  have e1 : fracD 1 = .tup [.int 1, .int 1] := rfl
  have body : evSs (callF Tk F k) F i__law_spots.body [none] st = some (.ret (.lst [tD V3.zero, tD ⟨1, 0, 0⟩, tD ⟨0, 1, 0⟩, tD ⟨0, 0, 1⟩]) st) := by
    simp [i__law_spots, evSs, evS, evE, evEs, hz2, hz3, q4_len, tD, triD, e0, e1, V3.zero]
  exact (call_body (d := i__law_spots) rfl ⟨rfl, by decide⟩ body).trans (cut_pl (fun k => by simp) rfl hs rfl)
theorem square_ok {F k B : Nat} {u v : V3} {st : Mi.Store} (hs : SW st) (hu : BV 4000 u) (hv : BV 4000 v) (hd : BV B (u.sub v)) (hB : B ≤ 600) (hF : 2 ^ 8000 ≤ F) : callF Tk F (k + 4) 52 [tD u, tD v] st = some (fracD ((u.sub v).dot (u.sub v)), st) := by
  have h1 := lgap_ok (F := F) (k := k) hs hu hv hF
  have h2 := ldot_ok (F := F) (k := k) hs hd hd hB hF
  have body : evSs (callF Tk F (k + 3)) F i__law_square.body [some (tD u), some (tD v), none] st = some (.ret (fracD ((u.sub v).dot (u.sub v))) st) := by
    simp [i__law_square, evSs, evS, evE, evEs, h1, h2]
  exact (call_body (d := i__law_square) rfl ⟨rfl, by decide⟩ body).trans (cut_pl (fun k => by simp [fracD]) rfl hs rfl)
theorem right3 {F k n : Nat} {st s1 s2 s3 s4 s5 s6 s7 s8 s9 t5 : Mi.Store} {q1 v1 q2 v2 q3 v3 P Q R S N A1 A2 B K J1 J2 ST G1 : D} {c : Int} {w1 w3 w4 w5 : PySem.Str} {L : List D} {a a' : Bool} {E0 E1 E2 E3 NT : D}
    (d1 : callF Tk F k 42 [.cell n] st = some (q1, s1)) (d2 : callF Tk F k 39 [.cell n] s1 = some (v1, s2)) (d3 : callF Tk F k 42 [.cell n] s2 = some (q2, s3)) (d4 : callF Tk F k 39 [.cell n] s3 = some (v2, s4))
    (hP : P = .tup [q1, v1]) (d5 : callF Tk F k 24 [.cell n, .int 8] s4 = some (.int c, s5)) (hQ : Q = if c = 0 then P else .tup [q2, v2])
    (d6 : callF Tk F k 42 [.cell n] s5 = some (q3, s6)) (d7 : callF Tk F k 39 [.cell n] s6 = some (v3, s7)) (hR : R = .tup [q3, v3]) (d8 : callF Tk F k 40 [.cell n] s7 = some (S, s8)) (d9 : callF Tk F k 39 [.cell n] s8 = some (N, s9))
    (p1 : callF Tk F k 20 [P, S] s9 = some (A1, s9)) (p2 : callF Tk F k 20 [P, N] s9 = some (A2, s9))
    (due : ∀ e10, evE (callF Tk F k) [some (.cell n), some P, some Q, some R, some S, some N, some (.lst [A1, A2]), none, none, none, e10, none, none] (.comp (.call 32 (.cons (.call 43 (.cons (.idx (.var 1) (.cst (.int 0))) (.cons (.var 10) .nil))) (.cons (.idx (.var 1) (.cst (.int 1))) .nil))) (.nm 10) (.seq (.tup (.cons (.var 4) (.cons (.var 5) .nil)))) .none [("_law_each", 10)]) s9 = some (.lst [A1, A2], s9))
    (sh1 : ∀ st, biF .repr [.lst [A1, A2]] st = some (.str w1)) (n1 : cop .ne (.str w1) (.str w1) = some false) (g1 : callF Tk F k 52 [A1, A2] s9 = some (G1, s9)) (g2 : callF Tk F k 52 [S, N] s9 = some (G1, s9)) (n2 : cop .ne G1 G1 = some false)
    (j1 : callF Tk F k 21 [P, Q] s9 = some (B, s9)) (b1 : callF Tk F k 22 [P] s9 = some (K, s9)) (ip : callF Tk F k 48 [B] s9 = some (.bl true, s9)) (sh3 : ∀ st, biF .repr [B] st = some (.str w3)) (n3 : cop .ne (.str w3) (.str w3) = some false)
    (sp : callF Tk F k 51 [] s9 = some (.lst [E0, E1, E2, E3], s9)) (rows : ∀ X ∈ [E0, E1, E2, E3, S], RowOk F k s9 P Q B K X)
    (nt : callF Tk F k 37 [] s9 = some (NT, s9)) (hST : ST = .tup [.tup [.int 1, .int 0, .int 0, .int 0], NT])
    (j2 : callF Tk F k 21 [P, K] s9 = some (ST, s9)) (j3 : callF Tk F k 21 [K, P] s9 = some (ST, s9)) (b2 : callF Tk F k 22 [K] s9 = some (P, s9)) (sh4 : ∀ st, biF .repr [.lst [ST, ST, P]] st = some (.str w4)) (n4 : cop .ne (.str w4) (.str w4) = some false)
    (j4 : callF Tk F k 21 [B, R] s9 = some (J1, s9)) (j5 : callF Tk F k 21 [Q, R] s9 = some (J2, s9)) (j6 : callF Tk F k 21 [P, J2] s9 = some (J1, s9)) (sh5 : ∀ st, biF .repr [J1] st = some (.str w5)) (n5 : cop .ne (.str w5) (.str w5) = some false)
    (cc : ∀ e6 e10, evE (callF Tk F k) [some (.cell n), some P, some Q, some R, some S, some N, e6, some (.lst [A1, A2]), some B, some K, e10, some ST, none] (.comp (.var 10) (.nm 10) (.seq (.call 51 .nil)) (.some (.cmp .ne (.call 20 (.cons (.var 1) (.cons (.var 10) .nil))) (.call 20 (.cons (.var 2) (.cons (.var 10) .nil))))) [("_law_each", 10)]) s9 = some (.lst L, s9))
    (c1 : cop .eq (.lst L) (.lst []) = some a) (c2 : cop .eq P Q = some a') (c3 : cop .eq (.bl a) (.bl a') = some true) (fm : callF Tk F k 53 [.cell n, P] s9 = some (.bl true, t5)) :
    evSs (callF Tk F k) F i__law_right.body [some (.cell n), none, none, none, none, none, none, none, none, none, none, none, none] st = some (.ret (.bl true) t5) := by
  have hz1 : (1 : Nat) ≤ sizeLine := by decide
  have hz2 : (2 : Nat) ≤ sizeLine := by decide
  have hz0 : (0 : Nat) ≤ sizeLine := by decide
  have hz3 : (3 : Nat) ≤ sizeLine := by decide
  have hz5 : (5 : Nat) ≤ sizeLine := by decide
  have add1 : bop .add (.lst [E0, E1, E2, E3]) (.lst [S]) = some (.lst [E0, E1, E2, E3, S]) := by simp [bop, hz5]
  have x0 : ∀ st, idxF (.lst [A1, A2]) (.int 0) st = some A1 := fun _ => rfl
  have x1 : ∀ st, idxF (.lst [A1, A2]) (.int 1) st = some A2 := fun _ => rfl
  unfold i__law_right
  refine (ss_nxt (env' := [some (.cell n), some P, some (.tup [q2, v2]), none, none, none, none, none, none, none, none, none, none]) (st' := s4) (by simp [evS, evE, evEs, d1, d2, d3, d4, hz2, asgTs, hP])).trans ?_
  refine (ss_nxt (env' := [some (.cell n), some P, some Q, none, none, none, none, none, none, none, none, none, none]) (st' := s5) (by
    by_cases hc : c = 0
    · rw [if_pos hc] at hQ
      simp [evS, evE, evT, evEs, d5, eq_int, hc, hQ]
    · rw [if_neg hc] at hQ
      simp [evS, evE, evT, evEs, d5, eq_int, hc, hQ])).trans ?_
  clear hQ
  refine (ss_nxt (env' := [some (.cell n), some P, some Q, some R, some S, some N, none, none, none, none, none, none, none]) (st' := s9) (by simp [evS, evE, evEs, d6, d7, d8, d9, hz2, hR])).trans ?_
  clear hP
  refine (ss_nxt (env' := [some (.cell n), some P, some Q, some R, some S, some N, some (.lst [A1, A2]), none, none, none, none, none, none]) (st' := s9) (by simp [evS, evE, evEs, p1, p2, hz2])).trans ?_
  have gen1 : ∀ C : IE, evE (callF Tk F k) [some (.cell n), some P, some Q, some R, some S, some N, some (.lst [A1, A2]), none, none, none, none, none, none] C s9 = some (.lst [A1, A2], s9) → evS (callF Tk F k) F (.asg 7 C) [some (.cell n), some P, some Q, some R, some S, some N, some (.lst [A1, A2]), none, none, none, none, none, none] s9 = some (.nxt [some (.cell n), some P, some Q, some R, some S, some N, some (.lst [A1, A2]), some (.lst [A1, A2]), none, none, none, none, none] s9) := by
    intro C e
    simp [evS, e]
  refine (ss_nxt (gen1 _ (due none))).trans ?_
  refine (ss_nxt (env' := [some (.cell n), some P, some Q, some R, some S, some N, some (.lst [A1, A2]), some (.lst [A1, A2]), none, none, none, none, none]) (st' := s9) (by simp [evS, evT, evE, evEs, evSs, sh1, n1, x0, x1, g1, g2, n2])).trans ?_
  refine (ss_nxt (env' := [some (.cell n), some P, some Q, some R, some S, some N, some (.lst [A1, A2]), some (.lst [A1, A2]), some B, some K, none, none, none]) (st' := s9) (by simp [evS, evE, evEs, j1, b1])).trans ?_
  refine (ss_nxt (env' := [some (.cell n), some P, some Q, some R, some S, some N, some (.lst [A1, A2]), some (.lst [A1, A2]), some B, some K, none, none, none]) (st' := s9) (by simp [evS, evT, evE, evEs, evSs, truth, ip, j1, sh3, n3])).trans ?_
  obtain ⟨f6, f10, lp⟩ := rows_loop (F := F) (k := k) (st := s9) (w := .cell n) (P := P) (Q := Q) (R := R) (S := S) (N := N) (U := .lst [A1, A2]) (B := B) (K := K) [E0, E1, E2, E3, S] (some (.lst [A1, A2])) none rows
  refine (ss_nxt (env' := [some (.cell n), some P, some Q, some R, some S, some N, f6, some (.lst [A1, A2]), some B, some K, f10, none, none]) (st' := s9) (by
    have ei : evI (callF Tk F k) [some (.cell n), some P, some Q, some R, some S, some N, some (.lst [A1, A2]), some (.lst [A1, A2]), some B, some K, none, none, none] (.seq (.bin .add (.call 51 .nil) (.lst (.cons (.var 4) .nil)))) s9 = some ([E0, E1, E2, E3, S], s9) := by
      simp [evI, evE, evEs, sp, add1, hz1, seqD]
    simp only [evS, ei]
    exact lp)).trans ?_
  refine (ss_nxt (env' := [some (.cell n), some P, some Q, some R, some S, some N, f6, some (.lst [A1, A2]), some B, some K, f10, some ST, none]) (st' := s9) (by simp [evS, evE, evEs, nt, hz2, q4_len, hST])).trans ?_
  clear hST
  refine (ss_nxt (env' := [some (.cell n), some P, some Q, some R, some S, some N, some (.lst [ST, ST, P]), some (.lst [A1, A2]), some B, some K, f10, some ST, none]) (st' := s9) (by simp [evS, evE, evEs, j2, j3, b2, hz3])).trans ?_
  refine (ss_nxt (env' := [some (.cell n), some P, some Q, some R, some S, some N, some (.lst [ST, ST, P]), some (.lst [A1, A2]), some B, some K, f10, some ST, none]) (st' := s9) (by simp [evS, evT, evE, evEs, evSs, sh4, n4, hz3])).trans ?_
  refine (ss_nxt (env' := [some (.cell n), some P, some Q, some R, some S, some N, some (.lst [ST, ST, P]), some (.lst [A1, A2]), some B, some K, f10, some ST, none]) (st' := s9) (by simp [evS, evT, evE, evEs, evSs, j4, j5, j6, sh5, n5])).trans ?_
  have gen2 : ∀ C : IE, evE (callF Tk F k) [some (.cell n), some P, some Q, some R, some S, some N, some (.lst [ST, ST, P]), some (.lst [A1, A2]), some B, some K, f10, some ST, none] C s9 = some (.lst L, s9) → evS (callF Tk F k) F (.asg 12 C) [some (.cell n), some P, some Q, some R, some S, some N, some (.lst [ST, ST, P]), some (.lst [A1, A2]), some B, some K, f10, some ST, none] s9 = some (.nxt [some (.cell n), some P, some Q, some R, some S, some N, some (.lst [ST, ST, P]), some (.lst [A1, A2]), some B, some K, f10, some ST, some (.lst L)] s9) := by
    intro C e
    simp [evS, e]
  refine (ss_nxt (gen2 _ (cc _ _))).trans (ss_ret ?_)
  simp [evS, evE, evEs, truth, c1, c2, c3, hz0, fm]
/-- a point, or nothing -/
def unlikeP (p q : Pl) : Mi.D → Option Mi.D
  | .tup [x, y, z] => if p.act ⟨ratOf x, ratOf y, ratOf z⟩ = q.act ⟨ratOf x, ratOf y, ratOf z⟩ then none else some (.tup [x, y, z])
  | _ => none
theorem unlikeP_eq (p q : Pl) (v : V3) : unlikeP p q (tD v) = if p.act v = q.act v then none else some (tD v) := by
  obtain ⟨a, b, c⟩ := v
  show (if p.act ⟨ratOf (fracD a), ratOf (fracD b), ratOf (fracD c)⟩ = q.act ⟨ratOf (fracD a), ratOf (fracD b), ratOf (fracD c)⟩ then none else some (tD ⟨a, b, c⟩)) = _
  rw [ratOf_frac, ratOf_frac, ratOf_frac]
theorem dEq_nil (u : V3) (xs : List V3) (h : xs.length < 4) : dEq (.lst (tD u :: xs.map tD)) (.lst []) = some false := by
  match xs, h with
  | [], _ =>
    have e : PyData.eqv (pd (.lst [tD u])) (pd (.lst [])) = false := by
      show PyData.eqv (.list [_]) (.list []) = false
      simp [PyData.eqv, PyData.eqvAll]
    simp only [List.map_nil, dEq, e, show flat0 (.lst [tD u]) = true from rfl, show SeqAt.shaped (pd (.lst [tD u])) = true from rfl, show flat0 (.lst []) = true from rfl, show SeqAt.shaped (pd (.lst [])) = true from rfl, Bool.and_self, if_true]
  | [a], _ =>
    have e : PyData.eqv (pd (.lst [tD u, tD a])) (pd (.lst [])) = false := by
      show PyData.eqv (.list [_, _]) (.list []) = false
      simp [PyData.eqv, PyData.eqvAll]
    simp only [List.map_cons, List.map_nil, dEq, e, show flat0 (.lst [tD u, tD a]) = true from rfl, show SeqAt.shaped (pd (.lst [tD u, tD a])) = true from rfl, show flat0 (.lst []) = true from rfl, show SeqAt.shaped (pd (.lst [])) = true from rfl, Bool.and_self, if_true]
  | [a, b], _ =>
    have e : PyData.eqv (pd (.lst [tD u, tD a, tD b])) (pd (.lst [])) = false := by
      show PyData.eqv (.list [_, _, _]) (.list []) = false
      simp [PyData.eqv, PyData.eqvAll]
    simp only [List.map_cons, List.map_nil, dEq, e, show flat0 (.lst [tD u, tD a, tD b]) = true from rfl, show SeqAt.shaped (pd (.lst [tD u, tD a, tD b])) = true from rfl, show flat0 (.lst []) = true from rfl, show SeqAt.shaped (pd (.lst [])) = true from rfl, Bool.and_self, if_true]
  | [a, b, c], _ =>
    have e : PyData.eqv (pd (.lst [tD u, tD a, tD b, tD c])) (pd (.lst [])) = false := by
      show PyData.eqv (.list [_, _, _, _]) (.list []) = false
      simp [PyData.eqv, PyData.eqvAll]
    simp only [List.map_cons, List.map_nil, dEq, e, show flat0 (.lst [tD u, tD a, tD b, tD c]) = true from rfl, show SeqAt.shaped (pd (.lst [tD u, tD a, tD b, tD c])) = true from rfl, show flat0 (.lst []) = true from rfl, show SeqAt.shaped (pd (.lst [])) = true from rfl, Bool.and_self, if_true]
theorem dEq_nil0 : dEq (.lst []) (.lst []) = some true := by
  have e : PyData.eqv (pd (.lst [])) (pd (.lst [])) = true := by
    show PyData.eqv (.list []) (.list []) = true
    simp [PyData.eqv, PyData.eqvAll]
  simp only [dEq, e, show flat0 (.lst []) = true from rfl, show SeqAt.shaped (pd (.lst [])) = true from rfl, Bool.and_self, if_true]
abbrev ex1 : V3 := ⟨1, 0, 0⟩
abbrev ey1 : V3 := ⟨0, 1, 0⟩
abbrev ez1 : V3 := ⟨0, 0, 1⟩
theorem unlikeP_nil (p q : Pl) : dEq (.lst ([tD V3.zero, tD ex1, tD ey1, tD ez1].filterMap (unlikeP p q))) (.lst []) = some (decide (p.act V3.zero = q.act V3.zero ∧ p.act ex1 = q.act ex1 ∧ p.act ey1 = q.act ey1 ∧ p.act ez1 = q.act ez1)) := by
  have n := fun (u : V3) (xs : List V3) (h : xs.length < 4) => dEq_nil u xs h
  by_cases h0 : p.act V3.zero = q.act V3.zero <;> by_cases h1 : p.act ex1 = q.act ex1 <;> by_cases h2 : p.act ey1 = q.act ey1 <;> by_cases h3 : p.act ez1 = q.act ez1 <;> simp only [List.filterMap_cons, List.filterMap_nil, unlikeP_eq, h0, h1, h2, h3, if_true, if_false, true_and, and_true, false_and, and_false, decide_true, decide_false]
  · exact dEq_nil0
  · exact n ez1 [] (by decide)
  · exact n ey1 [] (by decide)
  · exact n ey1 [ez1] (by decide)
  · exact n ex1 [] (by decide)
  · exact n ex1 [ez1] (by decide)
  · exact n ex1 [ey1] (by decide)
  · exact n ex1 [ey1, ez1] (by decide)
  · exact n V3.zero [] (by decide)
  · exact n V3.zero [ez1] (by decide)
  · exact n V3.zero [ey1] (by decide)
  · exact n V3.zero [ey1, ez1] (by decide)
  · exact n V3.zero [ex1] (by decide)
  · exact n V3.zero [ex1, ez1] (by decide)
  · exact n V3.zero [ex1, ey1] (by decide)
  · exact n V3.zero [ex1, ey1, ez1] (by decide)
theorem sp_bd : BV 81 V3.zero ∧ BV 81 ex1 ∧ BV 81 ey1 ∧ BV 81 ez1 := by
  have o : Bd 81 (1 : Rat) := ⟨by decide, by decide⟩
  have z : Bd 81 (0 : Rat) := ⟨by decide, by decide⟩
  exact ⟨⟨z, z, z⟩, ⟨o, z, z⟩, ⟨z, o, z⟩, ⟨z, z, o⟩⟩
theorem right_ok {F k n : Nat} {r : Int} {st : Mi.Store} (hw : Well st n r) (hr : r + 2000 < 2 ^ 40) (hF : 2 ^ 8000 ≤ F) :
    ∃ st', callF Tk F (k + 11) 54 [.cell n] st = some (.bl true, st') ∧ Well st' n (r + 400) ∧ Turned st n st' := by
  obtain ⟨q1, s1, d1, hq1, bq1, hw1, ht1⟩ := lturning_ok (F := F) (k := k + 7) hw (by omega) hF
  obtain ⟨x1, y1, z1, s2, d2, bx1, by1, bz1, hw2, ht2⟩ := row_ok (F := F) (k := k + 5) hw1 (by omega) hF
  obtain ⟨q2, s3, d3, hq2, bq2, hw3, ht3⟩ := lturning_ok (F := F) (k := k + 7) hw2 (by omega) hF
  obtain ⟨x2, y2, z2, s4, d4, bx2, by2, bz2, hw4, ht4⟩ := row_ok (F := F) (k := k + 5) hw3 (by omega) hF
  obtain ⟨c, s5, d5, _, _, hw5, ht5⟩ := draw_ok (F := F) (k := k + 9) hw4 (m := 8) (by decide) (by decide) (by omega)
  obtain ⟨q3, s6, d6, hq3, bq3, hw6, ht6⟩ := lturning_ok (F := F) (k := k + 7) hw5 (by omega) hF
  obtain ⟨x3, y3, z3, s7, d7, bx3, by3, bz3, hw7, ht7⟩ := row_ok (F := F) (k := k + 5) hw6 (by omega) hF
  obtain ⟨x4, y4, z4, s8, d8, bx4, by4, bz4, hw8, ht8⟩ := wide_ok (F := F) (k := k + 4) hw7 (by omega) hF
  obtain ⟨x5, y5, z5, s9, d9, bx5, by5, bz5, hw9, ht9⟩ := row_ok (F := F) (k := k + 5) hw8 (by omega) hF
  have d2' : callF Tk F (k + 10) 39 [.cell n] s1 = some (tD ⟨x1, y1, z1⟩, s2) := d2
  have d4' : callF Tk F (k + 10) 39 [.cell n] s3 = some (tD ⟨x2, y2, z2⟩, s4) := d4
  have d7' : callF Tk F (k + 10) 39 [.cell n] s6 = some (tD ⟨x3, y3, z3⟩, s7) := d7
  have d8' : callF Tk F (k + 10) 40 [.cell n] s7 = some (tD ⟨x4, y4, z4⟩, s8) := d8
  have d9' : callF Tk F (k + 10) 39 [.cell n] s8 = some (tD ⟨x5, y5, z5⟩, s9) := d9
  have bv1 : BV 8 ⟨x1, y1, z1⟩ := ⟨bx1, by1, bz1⟩
  have bv2 : BV 8 ⟨x2, y2, z2⟩ := ⟨bx2, by2, bz2⟩
  have bv3 : BV 8 ⟨x3, y3, z3⟩ := ⟨bx3, by3, bz3⟩
  have bS : BV 81 ⟨x4, y4, z4⟩ := ⟨bx4, by4, bz4⟩
  have bN : BV 8 ⟨x5, y5, z5⟩ := ⟨bx5, by5, bz5⟩
  generalize (⟨x1, y1, z1⟩ : V3) = v1 at *
  generalize (⟨x2, y2, z2⟩ : V3) = v2 at *
  generalize (⟨x3, y3, z3⟩ : V3) = v3 at *
  generalize (⟨x4, y4, z4⟩ : V3) = S at *
  generalize (⟨x5, y5, z5⟩ : V3) = N at *
  have hT := (((((((ht1.trans ht2).trans ht3).trans ht4).trans ht5).trans ht6).trans ht7).trans ht8).trans ht9
  have hs := hw9.sw
  obtain ⟨o, ho, hqo, bqo, bto, hQ⟩ : ∃ o : Pl, o = (if c = 0 then (⟨q1, v1⟩ : Pl) else ⟨q2, v2⟩) ∧ IsPQ o.q ∧ BQ 3 o.q ∧ BV 8 o.t ∧ plD o = (if c = 0 then plD ⟨q1, v1⟩ else .tup [qD q2, tD v2]) := by
    by_cases h : c = 0
    · exact ⟨⟨q1, v1⟩, by rw [if_pos h], hq1, bq1, bv1, by rw [if_pos h]⟩
    · exact ⟨⟨q2, v2⟩, by rw [if_neg h], hq2, bq2, bv2, by rw [if_neg h]; rfl⟩
  obtain ⟨p, hp⟩ : ∃ p : Pl, p = ⟨q1, v1⟩ := ⟨_, rfl⟩
  obtain ⟨t, ht⟩ : ∃ t : Pl, t = ⟨q3, v3⟩ := ⟨_, rfl⟩
  have hpq : IsPQ p.q := by rw [hp]; exact hq1
  have bpq : BQ 3 p.q := by rw [hp]; exact bq1
  have bpt : BV 8 p.t := by rw [hp]; exact bv1
  have htq : IsPQ t.q := by rw [ht]; exact hq3
  have btq : BQ 3 t.q := by rw [ht]; exact bq3
  have btt : BV 8 t.t := by rw [ht]; exact bv3
  rw [← hp] at hQ
  have hP : plD p = .tup [qD q1, tD v1] := by rw [hp]; rfl
  have hR : plD t = .tup [qD q3, tD v3] := by rw [ht]; rfl
  clear ho hp ht
  have np := hpq.ne
  have no := hqo.ne
  have nt' := htq.ne
  have bA1 : BV 550 (p.act S) := ((rot_bd (B := 3) (by decide) bpq np bS).add bpt).mono (by decide)
  have bA2 : BV 112 (p.act N) := ((rot_bd (B := 3) (by decide) bpq np bN).add bpt).mono (by decide)
  have p1 := placed_ok (F := F) (k := k + 4) hs hpq bpq (by decide) (by decide) (bpt.mono (by decide)) bS (by decide)
  have p2 := placed_ok (F := F) (k := k + 4) hs hpq bpq (by decide) (by decide) (bpt.mono (by decide)) bN (by decide)
  have due : ∀ e10, evE (callF Tk F (k + 10)) [some (.cell n), some (plD p), some (plD o), some (plD t), some (tD S), some (tD N), some (.lst [tD (p.act S), tD (p.act N)]), none, none, none, e10, none, none] (.comp (.call 32 (.cons (.call 43 (.cons (.idx (.var 1) (.cst (.int 0))) (.cons (.var 10) .nil))) (.cons (.idx (.var 1) (.cst (.int 1))) .nil))) (.nm 10) (.seq (.tup (.cons (.var 4) (.cons (.var 5) .nil)))) .none [("_law_each", 10)]) s9 = some (.lst [tD (p.act S), tD (p.act N)], s9) := fun e10 => by
    have hz2 : (2 : Nat) ≤ sizeLine := by decide
    have go : ∀ v : V3, BV 81 v → ∀ st', SW st' → turnF (callF Tk F (k + 10)) (wipeE [some (.cell n), some (plD p), some (plD o), some (plD t), some (tD S), some (tD N), some (.lst [tD (p.act S), tD (p.act N)]), none, none, none, e10, none, none] [10]) (.nm 10) .none (.call 32 (.cons (.call 43 (.cons (.idx (.var 1) (.cst (.int 0))) (.cons (.var 10) .nil))) (.cons (.idx (.var 1) (.cst (.int 1))) .nil))) (tD v) st' = some (some (tD (p.act v)), st') := by
      intro v hv st' hs'
      have l1 := lturned_ok (F := F) (k := k + 6) hs' np (bpq.mono (by decide)) (hv.mono (by decide)) hF
      have l2 := lsum_ok (F := F) (k := k + 7) hs' ((rot_bd (B := 3) (by decide) bpq np hv).mono (C := 4000) (by decide)) (bpt.mono (by decide)) hF
      simp [turnF, bindT, wipeE, evTo, evE, evEs, plD0, plD1, l1, l2, Pl.act]
    have c := comp_rel (c := callF Tk F (k + 10)) (env := [some (.cell n), some (plD p), some (plD o), some (plD t), some (tD S), some (tD N), some (.lst [tD (p.act S), tD (p.act N)]), none, none, none, e10, none, none]) (elt := .call 32 (.cons (.call 43 (.cons (.idx (.var 1) (.cst (.int 0))) (.cons (.var 10) .nil))) (.cons (.idx (.var 1) (.cst (.int 1))) .nil))) (tg := .nm 10) (it := .seq (.tup (.cons (.var 4) (.cons (.var 5) .nil)))) (own := [("_law_each", 10)]) (st := s9) (ps := [(tD S, tD (p.act S)), (tD N, tD (p.act N))]) hs (by simp [evI, evE, evEs, hz2, seqD]) rfl hz2 (fun x hx => by
      simp only [List.mem_cons, List.not_mem_nil, or_false] at hx
      rcases hx with rfl | rfl
      · exact ⟨go S bS, fun m => rfl⟩
      · exact ⟨go N (bN.mono (by decide)), fun m => rfl⟩)
    exact c
  have iA1 := IShow.tri (bA1.mono (C := 1900) (by decide))
  have iA2 := IShow.tri (bA2.mono (C := 1900) (by decide))
  have sh1 := fun st => show_2 (st := st) iA1 iA2 (by rw [tx_tri]; decide) (by rw [tx_tri]; decide) (by rw [depth_tri]; decide) (by rw [depth_tri]; decide)
  have n1 := sh_ne (iA1.two iA2)
  have eg : (p.act S).sub (p.act N) = p.q.rot (S.sub N) := by
    rw [rot_sub np]
    unfold Pl.act V3.add V3.sub
    refine V3.ext' ?_ ?_ ?_ <;> dsimp only <;> grind
  have bSN : BV 90 (S.sub N) := (bS.sub bN).mono (by decide)
  have bg : BV 600 ((p.act S).sub (p.act N)) := by
    rw [eg]
    exact (rot_bd (B := 3) (by decide) bpq np bSN).mono (by decide)
  have g1 := square_ok (F := F) (k := k + 6) hs (bA1.mono (by decide)) (bA2.mono (by decide)) bg (by decide) hF
  rw [eg, rot_dot np] at g1
  have g2 := square_ok (F := F) (k := k + 6) hs (bS.mono (by decide)) (bN.mono (by decide)) bSN (by decide) hF
  have n2 := ne_frac ((S.sub N).dot (S.sub N)) ((S.sub N).dot (S.sub N))
  rw [show (!decide ((S.sub N).dot (S.sub N) = (S.sub N).dot (S.sub N))) = false by simp] at n2
  have npo := Q4.mul_ne np no
  have hB : IsPQ (p.join o).q := Q4.pl_is npo
  have bBq : BQ 8 (p.join o).q := (bpq.mul bqo).pl npo
  have bBt : BV 112 (p.join o).t := ((rot_bd (B := 3) (by decide) bqo no bpt).add bto).mono (by decide)
  have hc := Q4.conj_ne np
  have hK : IsPQ p.back.q := Q4.pl_is hc
  have bKq : BQ 3 p.back.q := bpq.conj.pl hc
  have m1 : Bd 2 (-1 : Rat) := ⟨by decide, by decide⟩
  have bKt : BV 105 p.back.t := ((rot_bd (B := 3) (by decide) bKq hK.ne bpt).smul m1).mono (by decide)
  have j1 := joinp_ok (F := F) (k := k + 4) hs hpq hqo bpq bqo (by decide) (by decide) bpt (bto.mono (by decide)) (by decide)
  have b1 := backp_ok (F := F) (k := k + 4) hs hpq bpq (by decide) (by decide) bpt (by decide)
  have ip := lisplacing_any (F := F) (k := k + 6) (L := 4) hs (Gd.pl (bBq.mono (C := 200) (by decide)) (bBt.mono (C := 200) (by decide)) (by decide)) (by decide) hF
  rw [isPl_pl hB] at ip
  have sh3 := fun st => show_pl (st := st) (bBq.mono (C := 1900) (by decide)) (bBt.mono (C := 1900) (by decide))
  have n3 := sh_ne (IShow.pl (bBq.mono (C := 1900) (by decide)) (bBt.mono (C := 1900) (by decide)))
  have sp := spots_ok (F := F) (k := k + 9) hs
  have row : ∀ v : V3, BV 81 v → RowOk F (k + 10) s9 (plD p) (plD o) (plD (p.join o)) (plD p.back) (tD v) := fun v hv => by
    have c1 : BV 709 ((p.join o).act v) := ((rot_bd (B := 8) (by decide) bBq hB.ne hv).add bBt).mono (by decide)
    have c2 : BV 550 (p.act v) := ((rot_bd (B := 3) (by decide) bpq np hv).add bpt).mono (by decide)
    have c3 : BV 647 (p.back.act v) := ((rot_bd (B := 3) (by decide) bKq hK.ne hv).add bKt).mono (by decide)
    have u1 := placed_ok (F := F) (k := k + 4) hs hB bBq (by decide) (by decide) (bBt.mono (by decide)) hv (by decide)
    have u2 := placed_ok (F := F) (k := k + 4) hs hpq bpq (by decide) (by decide) (bpt.mono (by decide)) hv (by decide)
    have u3 := placed_ok (F := F) (k := k + 4) hs hK bKq (by decide) (by decide) (bKt.mono (by decide)) c2 (by decide)
    have u4 := placed_ok (F := F) (k := k + 4) hs hK bKq (by decide) (by decide) (bKt.mono (by decide)) hv (by decide)
    have u5 := placed_ok (F := F) (k := k + 4) hs hpq bpq (by decide) (by decide) (bpt.mono (by decide)) c3 (by decide)
    have u6 := placed_ok (F := F) (k := k + 4) hs hqo bqo (by decide) (by decide) (bto.mono (by decide)) c2 (by decide)
    rw [(act_back np v).1] at u3
    rw [(act_back np v).2] at u5
    rw [← act_join np no v] at u6
    have sh := fun st => show_l (xs := [tD ((p.join o).act v), tD v, tD v]) (st := st) (by
      have o1 := ok_t (u := (p.join o).act v) (c1.mono (by decide))
      have o2 := ok_t (u := v) (hv.mono (by decide))
      simp [o1, o2]) (by simp)
    exact ⟨_, _, _, _, u1, u2, u3, u4, u5, u6, fun st => (sh st).2, sh_ne (sh []).1⟩
  have rows : ∀ X ∈ [tD V3.zero, tD ex1, tD ey1, tD ez1, tD S], RowOk F (k + 10) s9 (plD p) (plD o) (plD (p.join o)) (plD p.back) X := by
    intro X hX
    simp only [List.mem_cons, List.not_mem_nil, or_false] at hX
    rcases hX with rfl | rfl | rfl | rfl | rfl
    · exact row _ sp_bd.1
    · exact row _ sp_bd.2.1
    · exact row _ sp_bd.2.2.1
    · exact row _ sp_bd.2.2.2
    · exact row _ bS
  have nt := lnought_ok (F := F) (k := k + 9) hs
  obtain ⟨e1, e2, e3⟩ := join_back hpq
  have j2 := joinp_ok (F := F) (k := k + 4) hs hpq hK bpq bKq (by decide) (by decide) bpt (bKt.mono (by decide)) (by decide)
  have j3 := joinp_ok (F := F) (k := k + 4) hs hK hpq bKq bpq (by decide) (by decide) bKt (bpt.mono (by decide)) (by decide)
  have b2 := backp_ok (F := F) (k := k + 4) hs hK bKq (by decide) (by decide) bKt (by decide)
  rw [e1] at j2
  rw [e2] at j3
  rw [e3] at b2
  have bz : BV 1900 V3.zero := sp_bd.1.mono (by decide)
  have sh4 := fun st => show_l (xs := [plD Pl.stay, plD Pl.stay, plD p]) (st := st) (by
    have o1 := ok_p (p := Pl.stay) ⟨by decide, by decide, by decide, by decide⟩ bz
    have o2 := ok_p (p := p) (bpq.mono (by decide)) (bpt.mono (by decide))
    simp [o1, o2]) (by simp)
  have n4 := sh_ne (sh4 []).1
  have sh4' := fun st => (sh4 st).2
  have j4 := joinp_ok (F := F) (k := k + 4) (B := 8) hs hB htq bBq (btq.mono (by decide)) (by decide) (by decide) bBt (btt.mono (by decide)) (by decide)
  have j5 := joinp_ok (F := F) (k := k + 4) hs hqo htq bqo btq (by decide) (by decide) bto (btt.mono (by decide)) (by decide)
  have nor := Q4.mul_ne no nt'
  have hJ : IsPQ (o.join t).q := Q4.pl_is nor
  have bJq : BQ 8 (o.join t).q := (bqo.mul btq).pl nor
  have bJt : BV 112 (o.join t).t := ((rot_bd (B := 3) (by decide) btq nt' bto).add btt).mono (by decide)
  have j6 := joinp_ok (F := F) (k := k + 4) (B := 8) hs hpq hJ (bpq.mono (by decide)) bJq (by decide) (by decide) bpt (bJt.mono (by decide)) (by decide)
  rw [← join_assoc np no nt'] at j6
  have nBt := Q4.mul_ne hB.ne nt'
  have bLq : BQ 13 ((p.join o).join t).q := (bBq.mul btq).pl nBt
  have bLt : BV 736 ((p.join o).join t).t := ((rot_bd (B := 3) (by decide) btq nt' bBt).add btt).mono (by decide)
  have sh5 := fun st => show_pl (st := st) (bLq.mono (C := 1900) (by decide)) (bLt.mono (C := 1900) (by decide))
  have n5 := sh_ne (IShow.pl (bLq.mono (C := 1900) (by decide)) (bLt.mono (C := 1900) (by decide)))
  have cc : ∀ e6 e10, evE (callF Tk F (k + 10)) [some (.cell n), some (plD p), some (plD o), some (plD t), some (tD S), some (tD N), e6, some (.lst [tD (p.act S), tD (p.act N)]), some (plD (p.join o)), some (plD p.back), e10, some (plD Pl.stay), none] (.comp (.var 10) (.nm 10) (.seq (.call 51 .nil)) (.some (.cmp .ne (.call 20 (.cons (.var 1) (.cons (.var 10) .nil))) (.call 20 (.cons (.var 2) (.cons (.var 10) .nil))))) [("_law_each", 10)]) s9 = some (.lst ([tD V3.zero, tD ex1, tD ey1, tD ez1].filterMap (unlikeP p o)), s9) := fun e6 e10 =>
    comp_opt hs (by simp [evI, evE, evEs, sp, seqD]) rfl (by simp only [List.length_cons, List.length_nil]; decide) (fun X hX => by
      have go : ∀ v : V3, BV 81 v → (∀ st', SW st' → turnF (callF Tk F (k + 10)) (wipeE [some (.cell n), some (plD p), some (plD o), some (plD t), some (tD S), some (tD N), e6, some (.lst [tD (p.act S), tD (p.act N)]), some (plD (p.join o)), some (plD p.back), e10, some (plD Pl.stay), none] [10]) (.nm 10) (.some (.cmp .ne (.call 20 (.cons (.var 1) (.cons (.var 10) .nil))) (.call 20 (.cons (.var 2) (.cons (.var 10) .nil))))) (.var 10) (tD v) st' = some (unlikeP p o (tD v), st')) ∧ ∀ y, unlikeP p o (tD v) = some y → ∀ m, fitD m y = true := by
        intro v hv
        rw [unlikeP_eq]
        refine ⟨fun st' hs' => ?_, fun y hy m => ?_⟩
        · have u1 := placed_ok (F := F) (k := k + 4) hs' hpq bpq (by decide) (by decide) (bpt.mono (by decide)) hv (by decide)
          have u2 := placed_ok (F := F) (k := k + 4) hs' hqo bqo (by decide) (by decide) (bto.mono (by decide)) hv (by decide)
          have cn : cop .ne (tD (p.act v)) (tD (o.act v)) = some (!decide (p.act v = o.act v)) := by simp only [cop, dEq_tD, Option.map_some]
          by_cases h : p.act v = o.act v
          · rw [decide_eq_true h] at cn
            rw [if_pos h]
            simp [turnF, bindT, wipeE, evTo, evT, evE, evEs, u1, u2, cn]
          · rw [decide_eq_false h] at cn
            rw [if_neg h]
            simp [turnF, bindT, wipeE, evTo, evT, evE, evEs, u1, u2, cn]
        · split at hy
          · cases hy
          · cases hy
            rfl
      simp only [List.mem_cons, List.not_mem_nil, or_false] at hX
      rcases hX with rfl | rfl | rfl | rfl
      · exact go _ sp_bd.1
      · exact go _ sp_bd.2.1
      · exact go _ sp_bd.2.2.1
      · exact go _ sp_bd.2.2.2)
  have c1 := cop_eq_of (unlikeP_nil p o)
  have c2 := cop_eq_of (dEq_pl p o)
  have c3 : cop .eq (.bl (decide (p.act V3.zero = o.act V3.zero ∧ p.act ex1 = o.act ex1 ∧ p.act ey1 = o.act ey1 ∧ p.act ez1 = o.act ez1))) (.bl (decide (p = o))) = some true := by
    refine cop_eq_of ?_
    rw [dEq_bl]
    have e : (p.act V3.zero = o.act V3.zero ∧ p.act ex1 = o.act ex1 ∧ p.act ey1 = o.act ey1 ∧ p.act ez1 = o.act ez1) ↔ p = o := ⟨fun h => act_inj hpq hqo h.1 h.2.1 h.2.2.1 h.2.2.2, fun h => ⟨by rw [h], by rw [h], by rw [h], by rw [h]⟩⟩
    rw [decide_eq_decide.mpr e]
    exact congrArg some (beq_self_eq_true _)
  obtain ⟨t5, fm, hw10, ht10⟩ := forms_ok (F := F) (k := k) hw9 (by omega) (bpq.mono (by decide)) (bpt.mono (by decide)) hF
  refine ⟨t5, ?_, hw10.mono (by omega), hT.trans ht10⟩
  exact (call_body (d := i__law_right) rfl ⟨rfl, by decide⟩ (right3 d1 d2' d3 d4' hP d5 hQ d6 d7' hR d8' d9' p1 p2 due sh1 n1 g1 g2 n2 j1 b1 ip sh3 n3 sp rows nt rfl j2 j3 b2 sh4' n4 j4 j5 j6 sh5 n5 cc c1 c2 c3 fm)).trans (cut_pl (fun k => by simp) rfl hw10.sw (hT.trans ht10).len)
end K06

set_option Elab.async false
set_option linter.all false
set_option maxRecDepth 100000
set_option maxHeartbeats 4000000
set_option exponentiation.threshold 10000
namespace K06
open PySem PySem.Spec PyProof.Rows L2 Mi TL
abbrev wB : ISs := .cons (.asg 3 (.bin .mod (.bi .int (.cons (.bin .add (.bin .add (.bin .mul (.var 3) (.cst (.int 44497))) (.bin .mod (.bi .int (.cons (.var 4) .nil)) (.cst (.int 2147483549)))) (.cst (.int 13))) .nil)) (.cst (.int 2147483563)))) .nil
theorem bint (i : Int) (st : Mi.Store) : biF .int [.int i] st = some (.int i) := rfl
theorem add_ok (i j : Int) : bop .add (.int i) (.int j) = some (.int (i + j)) := rfl
theorem mod_ok {i j : Int} (h : 0 < j) : bop .mod (.int i) (.int j) = some (.int (i % j)) := by
  rw [← fm i h]
  simp only [bop]
  rw [if_pos (by omega)]
theorem well_loop {c : CallT} {F : Nat} {a b o : Option Mi.D} {st : Mi.Store} : ∀ (zs : List Int) (s : Int) (e : Option Mi.D), 0 ≤ s → s < 2147483563 →
    ∃ s' e', loopF (fun x env st => match bindT (.nm 4) x env with
      | some env' => evSs c F wB env' st
      | none => none) (zs.map Mi.D.int) [a, b, o, some (.int s), e] st = some (.nxt [a, b, o, some (.int s'), e'] st) ∧ 0 ≤ s' ∧ s' < 2147483563
  | [], s, e, h0, h1 => ⟨s, e, rfl, h0, h1⟩
  | z :: zs, s, e, h0, h1 => by
    obtain ⟨s', e', h, h2, h3⟩ := well_loop (c := c) (F := F) (a := a) (b := b) (o := o) (st := st) zs ((s * 44497 + z % 2147483549 + 13) % 2147483563) (some (.int z)) (Int.emod_nonneg _ (by decide)) (Int.emod_lt_of_pos _ (by decide))
    refine ⟨s', e', ?_, h2, h3⟩
    have m1 : bop .mul (.int s) (.int 44497) = some (.int (s * 44497)) := mul_ok (n := 40) (m := 40) (log_small (by omega) (by omega)) (log_small (by decide) (by decide)) (by decide)
    have m2 : bop .mod (.int z) (.int 2147483549) = some (.int (z % 2147483549)) := mod_ok (by decide)
    have m3 : ∀ i : Int, bop .mod (.int i) (.int 2147483563) = some (.int (i % 2147483563)) := fun i => mod_ok (by decide)
    have s1 : evSs c F wB [a, b, o, some (.int s), some (.int z)] st = some (.nxt [a, b, o, some (.int ((s * 44497 + z % 2147483549 + 13) % 2147483563)), some (.int z)] st) := by
      simp [evSs, evS, evE, evEs, bint, m1, m2, m3, add_ok]
    simp only [List.map_cons, loopF, bindT, List.set_cons_succ, List.set_cons_zero, s1]
    exact h
theorem ints_map : ∀ zs : List Int, intsD (zs.map Mi.D.int) = some zs
  | [] => rfl
  | z :: zs => by simp [intsD, ints_map zs]
theorem ints_fit (n : Nat) : ∀ zs : List Int, fitDs n (zs.map Mi.D.int) = true
  | [] => rfl
  | z :: zs => by simp [fitDs, fitD, ints_fit n zs]
theorem mkwell_ok {F k : Nat} {ns : List Int} {t : Nat} {st : Mi.Store} (hs : SW st) (ht : t < 100) :
    ∃ a b : Int, callF Tk F (k + 1) 23 [.scr (ns.map Mi.D.int), .int (t : Nat)] st = some (.cell st.length, st ++ [some [.int a, .int b, .int 0]]) ∧ 0 ≤ a ∧ 0 ≤ b ∧ b < 2147483563 := by
  have own : ∃ o : Int, evS (callF Tk F k) F (.asg 2 (.ife (.cmp .lt (.var 1) (.bi .len (.cons (.var 0) .nil))) (.bi .int (.cons (.idx (.var 0) (.var 1)) .nil)) (.bin .add (.bin .add (.bin .mul (.cst (.int 5159)) (.var 1)) (.cst (.int 73))) (.bin .mod (.bi .int (.cons (.bi .sum (.cons (.slc (.var 0) .none (.some (.cst (.int 3)))) .nil)) .nil)) (.cst (.int 999983)))))) [some (.scr (ns.map Mi.D.int)), some (.int (t : Nat)), none, none, none] st = some (.nxt [some (.scr (ns.map Mi.D.int)), some (.int (t : Nat)), some (.int o), none, none] st) := by
    have l1 : biF .len [.scr (ns.map Mi.D.int)] st = some (.int ns.length) := by simp [biF, itemsD]
    by_cases h : t < ns.length
    · have c1 : cop .lt (.int (t : Nat)) (.int ns.length) = some true := by
        show some (decide ((t : Int) < (ns.length : Int))) = _
        simp [h]
      have ix : idxF (.scr (ns.map Mi.D.int)) (.int (t : Nat)) st = some (.int ns[t]) := by
        have h1 : (t : Int) < (ns.length : Int) := by omega
        simp [idxF, itemsD, L2.atI, L2.ixN, h, h1]
      exact ⟨ns[t], by simp [evS, evE, evEs, evT, l1, c1, ix, bint]⟩
    · have c1 : cop .lt (.int (t : Nat)) (.int ns.length) = some false := by
        show some (decide ((t : Int) < (ns.length : Int))) = _
        simp; omega
      have m1 : bop .mul (.int 5159) (.int (t : Nat)) = some (.int (5159 * (t : Nat))) := mul_ok (n := 40) (m := 40) (log_small (by decide) (by decide)) (log_small (by omega) (by omega)) (by decide)
      have m2 : ∀ i : Int, bop .mod (.int i) (.int 999983) = some (.int (i % 999983)) := fun i => mod_ok (by decide)
      have sl : ∃ zs : List Int, slcF (.scr (ns.map Mi.D.int)) none (some (.int 3)) = some (.lst (zs.map Mi.D.int)) := by
        refine ⟨(ns.drop (HT.sIx ns.length 0 none)).take (HT.sIx ns.length ns.length (some 3) - HT.sIx ns.length 0 none), ?_⟩
        simp [slcF, optI, List.map_drop, List.map_take]
      obtain ⟨zs, hz⟩ := sl
      have sm : biF .sum [.lst (zs.map Mi.D.int)] st = some (.int zs.sum) := by simp [biF, ints_map]
      exact ⟨5159 * (t : Nat) + 73 + zs.sum % 999983, by simp [evS, evE, evEs, evT, evO, l1, c1, hz, sm, m1, m2, add_ok, bint]⟩
  obtain ⟨o, s1⟩ := own
  have m1 : bop .mul (.int 3035) (.int (t : Nat)) = some (.int (3035 * (t : Nat))) := mul_ok (n := 40) (m := 40) (log_small (by decide) (by decide)) (log_small (by omega) (by omega)) (by decide)
  have s2 : evS (callF Tk F k) F (.asg 3 (.bin .add (.cst (.int 27067)) (.bin .mul (.cst (.int 3035)) (.var 1)))) [some (.scr (ns.map Mi.D.int)), some (.int (t : Nat)), some (.int o), none, none] st = some (.nxt [some (.scr (ns.map Mi.D.int)), some (.int (t : Nat)), some (.int o), some (.int (27067 + 3035 * (t : Nat))), none] st) := by
    simp [evS, evE, m1, add_ok]
  have sl : ∃ zs : List Int, slcF (.scr (ns.map Mi.D.int)) none (some (.int 9)) = some (.lst (zs.map Mi.D.int)) ∧ zs.length ≤ 9 := by
    refine ⟨(ns.drop (HT.sIx ns.length 0 none)).take (HT.sIx ns.length ns.length (some 9) - HT.sIx ns.length 0 none), ?_, ?_⟩
    · simp [slcF, optI, List.map_drop, List.map_take]
    · rw [List.length_take]
      have : HT.sIx ns.length ns.length (some 9) ≤ 9 := by
        rw [show (9 : Int) = ((9 : Nat) : Int) from rfl, HT.sIx_nat]
        exact Nat.min_le_left _ _
      omega
  obtain ⟨zs, hz, hl⟩ := sl
  have hadd : bop .add (.lst (zs.map Mi.D.int)) (.lst [.int o]) = some (.lst ((zs ++ [o]).map Mi.D.int)) := by
    have e : (zs.map Mi.D.int).length + [Mi.D.int o].length ≤ sizeLine := by
      have : sizeLine = 2 ^ 24 := rfl
      simp
      omega
    show (if _ then _ else _) = _
    rw [if_pos e]
    simp
  obtain ⟨s', e', h3, h4, h5⟩ := well_loop (c := callF Tk F k) (F := F) (a := some (.scr (ns.map Mi.D.int))) (b := some (.int (t : Nat))) (o := some (.int o)) (st := st) (zs ++ [o]) (27067 + 3035 * (t : Nat)) none (by omega) (by omega)
  have hz1 : (1 : Nat) ≤ sizeLine := by decide
  have s3 : evS (callF Tk F k) F (.forr (.nm 4) (.seq (.bin .add (.slc (.var 0) .none (.some (.cst (.int 9)))) (.lst (.cons (.var 2) .nil)))) wB) [some (.scr (ns.map Mi.D.int)), some (.int (t : Nat)), some (.int o), some (.int (27067 + 3035 * (t : Nat))), none] st = some (.nxt [some (.scr (ns.map Mi.D.int)), some (.int (t : Nat)), some (.int o), some (.int s'), e'] st) := by
    have ei : evI (callF Tk F k) [some (.scr (ns.map Mi.D.int)), some (.int (t : Nat)), some (.int o), some (.int (27067 + 3035 * (t : Nat))), none] (.seq (.bin .add (.slc (.var 0) .none (.some (.cst (.int 9)))) (.lst (.cons (.var 2) .nil)))) st = some ((zs ++ [o]).map Mi.D.int, st) := by
      simp only [evI, evE, evEs, evO, List.getElem?_cons_zero, List.getElem?_cons_succ, hz]
      simp only [List.length_cons, List.length_nil, Nat.zero_add, hz1, if_true, hadd, seqD]
    simp only [evS, ei]
    exact h3
  have lastv : ∃ a : Int, 0 ≤ a ∧ evE (callF Tk F k) [some (.scr (ns.map Mi.D.int)), some (.int (t : Nat)), some (.int o), some (.int s'), e'] (.ife (.or (.cmp .lt (.var 2) (.cst (.int 0))) (.one (.cmp .ge (.var 2) (.bin .pow (.cst (.int 10)) (.cst (.int 18)))))) (.bi .abs (.cons (.var 2) .nil)) (.cst (.int 0))) st = some (.int a, st) := by
    have pw : bop .pow (.int 10) (.int 18) = some (.int (10 ^ 18)) := by rfl
    have l1 : cop .lt (.int o) (.int 0) = some (decide (o < 0)) := rfl
    have l2 : cop .ge (.int o) (.int (10 ^ 18)) = some (decide ((10 ^ 18 : Int) ≤ o)) := rfl
    have ab : biF .abs [.int o] st = some (.int (if o < 0 then -o else o)) := rfl
    by_cases h1 : o < 0
    · refine ⟨if o < 0 then -o else o, by split <;> omega, ?_⟩
      simp only [evE, evT, evEs, List.getElem?_cons_zero, List.getElem?_cons_succ, l1, h1, decide_true, ab]
    · by_cases h2 : (10 ^ 18 : Int) ≤ o
      · refine ⟨if o < 0 then -o else o, by split <;> omega, ?_⟩
        simp only [evE, evT, evEs, List.getElem?_cons_zero, List.getElem?_cons_succ, l1, h1, decide_false, pw, l2, h2, decide_true, ab]
      · refine ⟨0, by omega, ?_⟩
        simp only [evE, evT, evEs, List.getElem?_cons_zero, List.getElem?_cons_succ, l1, h1, decide_false, pw, l2, h2]
  obtain ⟨a, ha, hae⟩ := lastv
  refine ⟨a, s', ?_, ha, h4, h5⟩
  have body : evSs (callF Tk F k) F i__law_well.body [some (.scr (ns.map Mi.D.int)), some (.int (t : Nat)), none, none, none] st = some (.ret (.cell st.length) (st ++ [some [.int a, .int s', .int 0]])) := by
    unfold i__law_well
    rw [ss_nxt s1, ss_nxt s2, ss_nxt s3]
    refine ss_ret ?_
    have gen : ∀ C : IE, evE (callF Tk F k) [some (.scr (ns.map Mi.D.int)), some (.int (t : Nat)), some (.int o), some (.int s'), e'] C st = some (.int a, st) →
        evS (callF Tk F k) F (.ret (.ncl (.cons C (.cons (.var 3) (.cons (.cst (.int 0)) .nil))))) [some (.scr (ns.map Mi.D.int)), some (.int (t : Nat)), some (.int o), some (.int s'), e'] st = some (.ret (.cell st.length) (st ++ [some [.int a, .int s', .int 0]])) := by
      intro C e'
      have hz3 : (3 : Nat) ≤ sizeLine := by decide
      simp [evS, evE, evEs, e', hz3]
    exact gen _ hae
  refine (call_body (d := i__law_well) rfl ⟨rfl, by decide⟩ body).trans ?_
  have hp := hs.push (xs := [.int a, .int s', .int 0]) rfl
  have e1 : (st ++ [some [Mi.D.int a, .int s', .int 0]]).take (st.length + 1) = st ++ [some [Mi.D.int a, .int s', .int 0]] := by
    rw [List.take_of_length_le (by simp)]
  have hp2 : okC (st.length + 1) (st ++ [some [Mi.D.int a, .int s', .int 0]]) = true := by
    have := hp
    unfold SW at this
    rw [List.length_append] at this
    exact this
  show (if st.length < st.length then _ else if st.length = st.length then (if okC (st.length + 1) ((st ++ [some [Mi.D.int a, .int s', .int 0]]).take (st.length + 1)) then some (Mi.D.cell st.length, (st ++ [some [Mi.D.int a, .int s', .int 0]]).take (st.length + 1)) else none) else none) = _
  rw [if_neg (by omega), if_pos rfl, e1, hp2]
  rfl
theorem law_map {F k : Nat} {ns : List Int} (hF : 2 ^ 8000 ≤ F) : ∀ (ts : List Nat) (st : Mi.Store) (acc : List Mi.D), (∀ t ∈ ts, t < 100) → SW st → st[0]? = some (some acc) → (∀ d ∈ acc, d = .bl true) → acc.length + ts.length ≤ 1000 →
    ∃ st' acc', mapSt 0 (turnF (callF Tk F (k + 11)) (wipeE [some (.scr (ns.map Mi.D.int)), none] [1]) (.nm 1) .none (.call 54 (.cons (.call 23 (.cons (.var 0) (.cons (.var 1) .nil))) .nil))) (ts.map fun t : Nat => Mi.D.int (t : Nat)) st = some st' ∧ st'[0]? = some (some acc') ∧ (∀ d ∈ acc', d = .bl true)
  | [], st, acc, _, _, h0, ha, _ => ⟨st, acc, rfl, h0, ha⟩
  | t :: ts, st, acc, ht, hs, h0, ha, hl => by
    obtain ⟨a, b, h1, a0, b0, b1⟩ := mkwell_ok (F := F) (k := k + 10) (ns := ns) hs (ht t List.mem_cons_self)
    have hp := hs.push (xs := [.int a, .int b, .int 0]) rfl
    have hw : Well (st ++ [some [.int a, .int b, .int 0]]) st.length 0 := ⟨hp, a, b, 0, by simp, a0, b0, b1, by omega, by omega⟩
    obtain ⟨st2, h2, hw2, a', b', c', rfl⟩ := right_ok (F := F) (k := k) hw (by omega) hF
    have hlen0 : 0 < st.length := (List.getElem?_eq_some_iff.mp h0).1
    have e0 : ((st ++ [some [Mi.D.int a, .int b, .int 0]]).set st.length (some [.int a', .int b', .int c']))[0]? = some (some acc) := by
      rw [List.getElem?_set_ne (by omega), List.getElem?_append_left hlen0]
      exact h0
    generalize (st ++ [some [Mi.D.int a, .int b, .int 0]]).set st.length (some [.int a', .int b', .int c']) = st2 at *
    have tn : turnF (callF Tk F (k + 11)) (wipeE [some (.scr (ns.map Mi.D.int)), none] [1]) (.nm 1) .none (.call 54 (.cons (.call 23 (.cons (.var 0) (.cons (.var 1) .nil))) .nil)) (.int (t : Nat)) st = some (some (.bl true), st2) := by
      simp [turnF, bindT, wipeE, evTo, evE, evEs, h1, h2]
    rw [List.length_cons] at hl
    have hlen2 : 0 < st2.length := (List.getElem?_eq_some_iff.mp e0).1
    have acc2 : ∀ d ∈ acc ++ [Mi.D.bl true], d = .bl true := fun d hd => by
      rcases List.mem_append.mp hd with hd | hd
      · exact ha d hd
      · exact List.mem_singleton.mp hd
    obtain ⟨st3, acc3, h3, h4, h5⟩ := law_map (k := k) (ns := ns) hF ts (st2.set 0 (some (acc ++ [.bl true]))) (acc ++ [.bl true]) (fun u hu => ht u (List.mem_cons_of_mem _ hu)) (hw2.sw.set 0 (fits_all fun d hd => by rw [acc2 d hd]; rfl)) (List.getElem?_set_self hlen2) acc2 (by rw [List.length_append, List.length_singleton]; omega)
    refine ⟨st3, acc3, ?_, h4, h5⟩
    have : acc.length < sizeLine := by
      have : sizeLine = 2 ^ 24 := rfl
      omega
    simp only [List.map_cons, mapSt, tn, e0]
    rw [if_pos this]
    exact h3
theorem bools_true : ∀ {xs : List Mi.D}, (∀ d ∈ xs, d = .bl true) → ∃ bs : List Bool, boolsD xs = some bs ∧ bs.all id = true
  | [], _ => ⟨[], rfl, rfl⟩
  | x :: xs, h => by
    obtain ⟨bs, h1, h2⟩ := bools_true fun d hd => h d (List.mem_cons_of_mem _ hd)
    rw [h x List.mem_cons_self]
    exact ⟨true :: bs, by simp [boolsD, h1], by simp [h2]⟩
theorem law_ok (ns : List Int) (hn : ns.length ≤ 63) : ∃ (F : Nat) (stF : Mi.Store), Mi.callF Tk F 60 55 [.scr (ns.map Mi.D.int)] [] = some (.bl true, stF) := by
  refine ⟨2 ^ 8000, ?_⟩
  obtain ⟨m, hm, hm2⟩ : ∃ m : Nat, biF .max [.int 2, .int (if (3 : Int) < ns.length then 3 else ns.length)] [] = some (.int (m : Int)) ∧ m ≤ 50 := by
    have e : ∀ j : Int, biF .max [.int 2, .int j] [] = some (.int (if j > 2 then j else 2)) := fun j => rfl
    by_cases h8 : (3 : Int) < ns.length
    · rw [if_pos h8, e]
      by_cases h3 : (3 : Int) > 2
      · exact ⟨3, by rw [if_pos h3]; rfl, by omega⟩
      · exact ⟨2, by rw [if_neg h3]; rfl, by omega⟩
    · rw [if_neg h8, e]
      by_cases h3 : (ns.length : Int) > 2
      · exact ⟨ns.length, by rw [if_pos h3], by omega⟩
      · exact ⟨2, by rw [if_neg h3]; rfl, by omega⟩
  obtain ⟨st', acc', h1, h2, h3⟩ := law_map (F := 2 ^ 8000) (k := 48) (ns := ns) (Nat.le_refl _) (List.range m) [some []] [] (fun t ht => by have := List.mem_range.mp ht; omega) rfl rfl (fun d hd => by cases hd) (by simp; omega)
  obtain ⟨bs, hb, hb2⟩ := bools_true h3
  have l1 : biF .len [.scr (ns.map Mi.D.int)] [] = some (.int ns.length) := by simp [biF, itemsD]
  have l2 : biF .min [.int ns.length, .int 3] [] = some (.int (if (3 : Int) < ns.length then 3 else ns.length)) := rfl
  have ei : evI (callF Tk (2 ^ 8000) 59) [some (.scr (ns.map Mi.D.int)), none] (.rng (.bi .max (.cons (.cst (.int 2)) (.cons (.bi .min (.cons (.bi .len (.cons (.var 0) .nil)) (.cons (.cst (.int 3)) .nil))) .nil)))) [] = some ((List.range m).map fun t : Nat => Mi.D.int (t : Nat), []) := by
    have e0 : (List.range m).map (fun i : Nat => Mi.D.int (0 + (i : Nat))) = (List.range m).map fun t : Nat => Mi.D.int (t : Nat) := by simp
    have hm3 : -1000000 < (m : Int) ∧ (m : Int) < 1000000 := by omega
    simp only [evI, evE, evEs, List.getElem?_cons_zero, l1, l2, hm, if_pos hm3, Int.toNat_natCast, e0]
  have ec : evE (callF Tk (2 ^ 8000) 59) [some (.scr (ns.map Mi.D.int)), none] (.comp (.call 54 (.cons (.call 23 (.cons (.var 0) (.cons (.var 1) .nil))) .nil)) (.nm 1) (.rng (.bi .max (.cons (.cst (.int 2)) (.cons (.bi .min (.cons (.bi .len (.cons (.var 0) .nil)) (.cons (.cst (.int 3)) .nil))) .nil)))) .none [("_law_turn", 1)]) [] = some (.lst acc', []) := by
    have ho : tgOwn (.nm 1) ([(("_law_turn" : PySem.Str), 1)].map fun p : PySem.Str × Nat => p.2) = true := rfl
    have hcut : Mi.cutD 0 (.lst acc') st' = some (.lst acc', []) := by
      have hf : fitD 0 (.lst acc') = true := fits_all fun d hd => by rw [h3 d hd]; rfl
      show (if fitD 0 (.lst acc') && okC 0 (st'.take 0) then some (Mi.D.lst acc', st'.take 0) else none) = _
      rw [hf, List.take_zero]
      rfl
    show (match evI (callF Tk (2 ^ 8000) 59) [some (.scr (ns.map Mi.D.int)), none] (.rng (.bi .max (.cons (.cst (.int 2)) (.cons (.bi .min (.cons (.bi .len (.cons (.var 0) .nil)) (.cons (.cst (.int 3)) .nil))) .nil)))) [] with
      | some (xs, st1) => if tgOwn (.nm 1) ([(("_law_turn" : PySem.Str), 1)].map fun p : PySem.Str × Nat => p.2) then (match mapSt st1.length (turnF (callF Tk (2 ^ 8000) 59) (wipeE [some (.scr (ns.map Mi.D.int)), none] ([(("_law_turn" : PySem.Str), 1)].map fun p : PySem.Str × Nat => p.2)) (.nm 1) .none (.call 54 (.cons (.call 23 (.cons (.var 0) (.cons (.var 1) .nil))) .nil))) xs (st1 ++ [some []]) with
        | some st2 => (match st2[st1.length]? with
          | some (some ys) => Mi.cutD st1.length (.lst ys) st2
          | _ => none)
        | none => none) else none
      | none => none) = _
    rw [ei]
    show (match mapSt 0 (turnF (callF Tk (2 ^ 8000) 59) (wipeE [some (.scr (ns.map Mi.D.int)), none] [1]) (.nm 1) .none (.call 54 (.cons (.call 23 (.cons (.var 0) (.cons (.var 1) .nil))) .nil))) ((List.range m).map fun t : Nat => Mi.D.int (t : Nat)) [some []] with
        | some st2 => (match st2[0]? with
          | some (some ys) => Mi.cutD 0 (.lst ys) st2
          | _ => none)
        | none => none) = _
    rw [h1]
    show (match st'[0]? with
          | some (some ys) => Mi.cutD 0 (.lst ys) st'
          | _ => none) = _
    rw [h2]
    exact hcut
  have hall : biF .all [.lst acc'] [] = some (.bl true) := by
    simp only [biF, hb, Option.map_some, hb2]
  refine ⟨[], ?_⟩
  rw [call_at (k := 59) (d := i_law) rfl]
  refine (run_ret (v := .bl true) (st' := []) rfl ⟨rfl, by decide⟩ ?_).trans rfl
  have gen : ∀ C : IE, evE (callF Tk (2 ^ 8000) 59) [some (.scr (ns.map Mi.D.int)), none] C [] = some (.lst acc', []) → evE (callF Tk (2 ^ 8000) 59) [some (.scr (ns.map Mi.D.int)), none] (.bi .all (.cons C .nil)) [] = some (.bl true, []) := by
    intro C e'
    simp only [evE, evEs, e', hall]
  exact gen _ ec
theorem holds : PySem.Challenge.rw_sevenpins_k06_whole_placings_joined_and.Holds := holds_of fun ns hn _ => law_ok ns hn
end K06

theorem PySem.Challenge.cw_sevenpins_k06_whole_placings_joined_and_holds : PySem.Challenge.rw_sevenpins_k06_whole_placings_joined_and.Holds := by
  exact K06.holds
