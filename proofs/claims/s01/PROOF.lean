import PyProof.Rows.All
import Wide.All
import OpenK.AllK
import Wide.FinOn
import Open.SpecLaws
import KE.OsHead
import KE.OsGo
import HandS.Base
import HandS.Call
import HandS.List
import HandS.Ends
import HandS.Words
import HandS.WordsList
import HandS.Conv
import HandS.SortInts
import KE.KDictKeyed
import KE.KDictDisplayH
import KE.KDictWalk
import HandS.Dict
import HandS.Iter
import HandS.Walk
import HandS.Sort
import HandS.Strs
import HandS.TupAny
import HandS.ForSpec
import HandS.Comp
import HandS.SetFor
import PySem.Challenge.RW_counterrow_s01_answers
set_option Elab.async false
set_option maxRecDepth 100000
set_option maxHeartbeats 4000000
/-! The list of calls, read: what is handed in is a list of calls one behind another; what is due is their play. -/
namespace Cr
/-- a call as it is handed in -/
inductive Req where
  | begins (x : Int)
  | laid (xs : List Int)
  | asks (x : Int)
  | fixed (xs : List Int)
  | best
  | rule (x : Int)
  | least
def Req.flat : Req → List Int
  | .begins x => [0, x]
  | .laid xs => 1 :: (xs.length : Int) :: xs
  | .asks x => [2, x]
  | .fixed xs => 3 :: (xs.length : Int) :: xs
  | .best => [4]
  | .rule x => [5, x]
  | .least => [6]
def Req.raw : Req → List (List Int)
  | .begins x => [[0, x]]
  | .laid xs => [[1], xs]
  | .asks x => [[2, x]]
  | .fixed xs => [[3], xs]
  | .best => [[4]]
  | .rule x => [[5, x]]
  | .least => [[6]]
def Req.call : Req → Si88.Call
  | .begins x => .begins x.toNat
  | .laid xs => .laid (xs.map Int.toNat)
  | .asks x => .asks x.toNat
  | .fixed xs => .fixed (xs.map Int.toNat)
  | .best => .best
  | .rule x => .rule x.toNat
  | .least => .least
def inside (z : Int) : Prop := 0 ≤ z ∧ z ≤ 4294967295
def Req.ok : Req → Prop
  | .begins x => inside x
  | .laid xs => xs.length ≤ 6 ∧ ∀ z ∈ xs, inside z
  | .asks x => inside x
  | .fixed xs => xs.length ≤ 6 ∧ ∀ z ∈ xs, inside z
  | .best => True
  | .rule x => inside x
  | .least => True
/-- what a call answers -/
def ans (s : Si88.Shelf) (c : Req) : List Int := (Si88.step s c.call).2.v :: (Si88.step s c.call).2.l
def next (s : Si88.Shelf) (c : Req) : Si88.Shelf := (Si88.step s c.call).1
def play : Si88.Shelf → List Req → List Int
  | _, [] => []
  | s, c :: r => ((ans s c).length : Int) :: (ans s c ++ play (next s c) r)
theorem row_inv {l : List Int} {x t : List Int} (h : PyFlat.row l = some (x, t)) : l = (x.length : Int) :: (x ++ t) := by
  cases l with
  | nil => cases h
  | cons n r =>
    simp only [PyFlat.row] at h
    by_cases q : 0 ≤ n ∧ n.toNat ≤ r.length
    · rw [if_pos q] at h
      obtain ⟨rfl, rfl⟩ := Prod.mk.inj (Option.some.inj h)
      rw [List.take_append_drop, List.length_take, Nat.min_eq_left q.2, Int.toNat_of_nonneg q.1]
    · rw [if_neg q] at h
      cases h
theorem call_inv {p : Int} {r t : List Int} {c : List (List Int)} (h : PyFlat.call PySi88.shape (p :: r) = some (c, t)) : ∃ k : Req, p :: r = k.flat ++ t ∧ c = k.raw := by
  have one : ∀ {p : Int}, PySi88.shape p = some (1, 0) → PyFlat.call PySi88.shape (p :: r) = some (c, t) → ∃ x, r = x :: t ∧ c = [[p, x]] := by
    intro p e h
    simp only [PyFlat.call, e] at h
    cases r with
    | nil => simp at h
    | cons x r =>
      have : ¬ (x :: r).length < 1 := by simp
      rw [if_neg this] at h
      simp only [PyFlat.rows] at h
      obtain ⟨h1, h2⟩ := Prod.mk.inj (Option.some.inj h)
      simp at h1 h2
      exact ⟨x, by rw [h2], h1.symm⟩
  have row : ∀ {p : Int}, PySi88.shape p = some (0, 1) → PyFlat.call PySi88.shape (p :: r) = some (c, t) → ∃ xs, r = (xs.length : Int) :: (xs ++ t) ∧ c = [[p], xs] := by
    intro p e h
    simp only [PyFlat.call, e, Nat.not_lt_zero, if_false, List.drop_zero] at h
    cases er : PyFlat.row r with
    | none => simp [PyFlat.rows, er] at h
    | some q =>
      obtain ⟨x, s⟩ := q
      simp [PyFlat.rows, er] at h
      obtain ⟨h1, h2⟩ := h
      subst h2
      exact ⟨x, row_inv er, h1.symm⟩
  have bare : ∀ {p : Int}, PySi88.shape p = some (0, 0) → PyFlat.call PySi88.shape (p :: r) = some (c, t) → r = t ∧ c = [[p]] := by
    intro p e h
    simp only [PyFlat.call, e, Nat.not_lt_zero, if_false, List.drop_zero, PyFlat.rows] at h
    obtain ⟨h1, h2⟩ := Prod.mk.inj (Option.some.inj h)
    exact ⟨h2, by simpa using h1.symm⟩
  by_cases h0 : p = 0
  · subst h0
    obtain ⟨x, rfl, rfl⟩ := one (by decide) h
    exact ⟨.begins x, rfl, rfl⟩
  by_cases h1 : p = 1
  · subst h1
    obtain ⟨x, rfl, rfl⟩ := row (by decide) h
    exact ⟨.laid x, rfl, rfl⟩
  by_cases h2 : p = 2
  · subst h2
    obtain ⟨x, rfl, rfl⟩ := one (by decide) h
    exact ⟨.asks x, rfl, rfl⟩
  by_cases h3 : p = 3
  · subst h3
    obtain ⟨x, rfl, rfl⟩ := row (by decide) h
    exact ⟨.fixed x, rfl, rfl⟩
  by_cases h4 : p = 4
  · subst h4
    obtain ⟨rfl, rfl⟩ := bare (by decide) h
    exact ⟨.best, rfl, rfl⟩
  by_cases h5 : p = 5
  · subst h5
    obtain ⟨x, rfl, rfl⟩ := one (by decide) h
    exact ⟨.rule x, rfl, rfl⟩
  by_cases h6 : p = 6
  · subst h6
    obtain ⟨rfl, rfl⟩ := bare (by decide) h
    exact ⟨.least, rfl, rfl⟩
  exfalso
  simp [PyFlat.call, PySi88.shape, h0, h1, h2, h3, h4, h5, h6] at h
theorem calls_inv : ∀ (f : Nat) (l : List Int) (cs : List (List (List Int))), PyFlat.calls PySi88.shape f l = some cs → ∃ ks : List Req, l = ks.flatMap Req.flat ∧ cs = ks.map Req.raw
  | f, [], cs, h => by
    have : cs = [] := by cases f <;> exact (Option.some.inj h).symm
    exact ⟨[], rfl, this⟩
  | 0, _ :: _, cs, h => by cases h
  | f + 1, p :: r, cs, h => by
    unfold PyFlat.calls at h
    cases e : PyFlat.call PySi88.shape (p :: r) with
    | none => simp [e] at h
    | some q =>
      obtain ⟨c, t⟩ := q
      simp only [e] at h
      cases e2 : PyFlat.calls PySi88.shape f t with
      | none => simp [e2] at h
      | some cs2 =>
        simp only [e2] at h
        obtain ⟨k, hk, rfl⟩ := call_inv e
        obtain ⟨ks, rfl, rfl⟩ := calls_inv f t cs2 e2
        exact ⟨k :: ks, by rw [hk, List.flatMap_cons], (Option.some.inj h).symm⟩
theorem raw_ok {k : Req} (h : PyInside.call PySi88.bound k.raw = true) : k.ok := by
  cases k <;> simp [Req.raw, Req.ok, PyInside.call, PySi88.bound, PyInside.each, PyInside.lists, PyInside.within, inside] at h ⊢ <;> first | exact h | (exact ⟨h.1, fun z hz => h.2 z hz⟩) | skip
theorem callOf_is {k : Req} (h : k.ok) : Si88Neutral.callOf ((PySi88.whole k.raw).headD []) = some k.call := by
  cases k with
  | begins x => rfl
  | laid xs =>
    show (if (xs.map Int.toNat).length ≤ 6 then some (Si88.Call.laid (xs.map Int.toNat)) else none) = _
    rw [if_pos (by rw [List.length_map]; exact h.1)]
    rfl
  | asks x => rfl
  | fixed xs =>
    show (if (xs.map Int.toNat).length ≤ 6 then some (Si88.Call.fixed (xs.map Int.toNat)) else none) = _
    rw [if_pos (by rw [List.length_map]; exact h.1)]
    rfl
  | best => rfl
  | rule x => rfl
  | least => rfl
theorem step_is {k : Req} (s : Si88.Shelf) (h : k.ok) : Si88Neutral.step s (PySi88.whole k.raw) = (next s k, ans s k) := by
  unfold Si88Neutral.step
  rw [callOf_is h]
  rfl
theorem played_is : ∀ (ks : List Req) (s : Si88.Shelf), (∀ k ∈ ks, k.ok) → PyFlat.told (PyFlat.played Si88Neutral.step s (ks.map fun k => PySi88.whole k.raw)) = play s ks
  | [], _, _ => rfl
  | k :: ks, s, h => by
    have ih := played_is ks (next s k) fun q hq => h q (List.mem_cons_of_mem _ hq)
    show PyFlat.told (PyFlat.played Si88Neutral.step s (PySi88.whole k.raw :: ks.map fun k => PySi88.whole k.raw)) = _
    unfold PyFlat.played
    rw [step_is s (h k (List.mem_cons_self))]
    show ((ans s k).length : Int) :: ans s k ++ PyFlat.told _ = _
    rw [ih]
    rfl
/-- **what is asked of a list, and what is due for it** -/
theorem asked_is {l : List Int} (h : PySi88.answers_asked l = true) : ∃ ks : List Req, l = ks.flatMap Req.flat ∧ (∀ k ∈ ks, k.ok) ∧ ks.length ≤ 60 ∧ PySi88.answers l = play Si88.init ks ∧ (PySi88.answers l).length ≤ 10000000 := by
  unfold PySi88.answers_asked at h
  cases e : PyFlat.calls PySi88.shape l.length l with
  | none => simp [e] at h
  | some raw =>
    simp only [e, Bool.and_eq_true] at h
    obtain ⟨⟨⟨⟨_, h60⟩, hin⟩, _⟩, hsh⟩ := h
    obtain ⟨ks, hl, rfl⟩ := calls_inv _ _ _ e
    have ok : ∀ k ∈ ks, k.ok := fun k hk => raw_ok (List.all_eq_true.mp hin k.raw (List.mem_map_of_mem hk))
    refine ⟨ks, hl, ok, by simpa [PyFlat.atMost] using h60, ?_, by simpa [PyFlat.short] using hsh⟩
    unfold PySi88.answers PySi88.calls
    rw [e]
    show PyFlat.told (PyFlat.played Si88Neutral.step Si88Neutral.start ((ks.map Req.raw).map PySi88.whole)) = _
    rw [List.map_map]
    exact played_is ks Si88.init ok
end Cr

/-! Rows: each thing once. -/
namespace Cr
open Si88
/-- each thing once: the row of n things -/
def IsPerm (n : Nat) (r : List Nat) : Prop := r.Perm (List.range n)
structure Good (s : Shelf) : Prop where
  pos : 1 ≤ s.row.length
  few : s.row.length ≤ 4
  row : IsPerm s.row.length s.row
  most : s.asked.length ≤ 10
  there : ∀ t ∈ s.asked, t < s.row.length
theorem good_init : Good Si88.init := ⟨by decide, by decide, by unfold IsPerm; decide, by decide, by decide⟩
/-- a list as long as n that has all below n has each once -/
theorem perm_of_all : ∀ (n : Nat) (r : List Nat), r.length = n → (∀ t, t < n → t ∈ r) → r.Perm (List.range n)
  | 0, r, h, _ => by
    cases r with
    | nil => exact .refl _
    | cons => simp at h
  | n + 1, r, h, a => by
    have m : n ∈ r := a n (Nat.lt_succ_self n)
    have p : r.Perm (n :: r.erase n) := List.perm_cons_erase m
    have ih := perm_of_all n (r.erase n) (by rw [List.length_erase_of_mem m, h]; rfl) fun t ht => by
      exact (List.mem_erase_of_ne (Nat.ne_of_lt ht)).mpr (a t (Nat.lt_succ_of_lt ht))
    refine p.trans ((ih.cons n).trans ?_)
    rw [List.range_succ]
    exact (List.perm_append_singleton n (List.range n)).symm
theorem isRow_iff (s : Shelf) (r : List Nat) : s.isRow r = true ↔ r.Perm (List.range s.row.length) := by
  unfold Shelf.isRow Shelf.count
  rw [Bool.and_eq_true, beq_iff_eq, List.all_eq_true]
  constructor
  · rintro ⟨h1, h2⟩
    exact perm_of_all _ _ h1 fun t ht => by
      have := h2 t (List.mem_range.mpr ht)
      simpa using this
  · intro p
    refine ⟨by rw [p.length_eq, List.length_range], fun t ht => ?_⟩
    simpa using p.mem_iff.mpr ht
/-- the program's way to tell it: sorted, it is 0 .. n-1 -/
def ups (n : Nat) : List Int := (List.range n).map fun i : Nat => (i : Int)
theorem ups_sorted (n : Nat) : (ups n).Pairwise (· ≤ ·) := by
  unfold ups
  rw [List.pairwise_map]
  exact List.pairwise_lt_range.imp fun h => Int.ofNat_le.mpr (Nat.le_of_lt h)
theorem toNat_map {l : List Nat} : (l.map fun i : Nat => (i : Int)).map Int.toNat = l := by
  rw [List.map_map]
  conv => rhs; rw [← List.map_id l]
  exact List.map_congr_left fun a _ => rfl
theorem ofNat_map {l : List Int} (h : ∀ z ∈ l, 0 ≤ z) : (l.map Int.toNat).map (fun i : Nat => (i : Int)) = l := by
  rw [List.map_map]
  conv => rhs; rw [← List.map_id l]
  exact List.map_congr_left fun a ha => Int.toNat_of_nonneg (h a ha)
theorem sorted_iff {n : Nat} {zs zs' : List Int} (p : zs'.Perm zs) (o : zs'.Pairwise (· ≤ ·)) (h : ∀ z ∈ zs, 0 ≤ z) : zs' = ups n ↔ (zs.map Int.toNat).Perm (List.range n) := by
  constructor
  · intro e
    have q : zs.Perm (ups n) := e ▸ p.symm
    have := q.map Int.toNat
    unfold ups at this
    rwa [toNat_map] at this
  · intro q
    have q2 := q.map (fun i : Nat => (i : Int))
    rw [ofNat_map h] at q2
    exact List.Perm.eq_of_pairwise (le := fun a b : Int => a ≤ b) (fun a b _ _ h1 h2 => Int.le_antisymm h1 h2) o (ups_sorted n) (p.trans q2)
/-- steps to a thing, as the program tells them: its first place, and one -/
theorem steps_at {r : List Nat} {t j : Nat} (h : r[j]? = some t) (n : ∀ m : Nat, m < j → r[m]? ≠ some t) : steps r t = j + 1 := by
  unfold steps
  congr 1
  induction r generalizing j with
  | nil => simp at h
  | cons a r ih =>
    cases j with
    | zero =>
      have e : a = t := Option.some.inj h
      subst e
      simp
    | succ j =>
      have ne : a ≠ t := fun e => n 0 (Nat.succ_pos j) (by rw [e]; rfl)
      rw [List.takeWhile_cons_of_pos (by simpa using ne), List.length_cons, ih h fun m hm => n (m + 1) (Nat.succ_lt_succ hm)]
theorem at_of_mem {r : List Nat} {t : Nat} (h : t ∈ r) : ∃ j : Nat, r[j]? = some t ∧ ∀ m : Nat, m < j → r[m]? ≠ some t := by
  induction r with
  | nil => cases h
  | cons a r ih =>
    by_cases e : a = t
    · exact ⟨0, by rw [e]; rfl, fun m hm => absurd hm (Nat.not_lt_zero m)⟩
    · obtain ⟨j, h1, h2⟩ := ih ((List.mem_cons.mp h).resolve_left fun q => e q.symm)
      refine ⟨j + 1, h1, fun m hm => ?_⟩
      cases m with
      | zero => exact fun q => e (Option.some.inj q)
      | succ m => exact h2 m (Nat.lt_of_succ_lt_succ hm)
theorem steps_le {r : List Nat} {t : Nat} : steps r t ≤ r.length + 1 := Nat.succ_le_succ (List.takeWhile_prefix _).length_le
theorem fixed_snoc (r l : List Nat) (t : Nat) : fixed r (l ++ [t]) = fixed r l + steps r t := by
  unfold fixed
  rw [List.map_append, List.sum_append]
  simp
theorem fixed_le (r : List Nat) : ∀ l : List Nat, fixed r l ≤ l.length * (r.length + 1)
  | [] => by simp [fixed]
  | t :: l => by
    have ih := fixed_le r l
    have := steps_le (r := r) (t := t)
    show steps r t + fixed r l ≤ (l.length + 1) * (r.length + 1)
    rw [Nat.succ_mul]
    omega
end Cr

/-! All rows; the best of them; what is least of all: what the specification's walks say, in plain words. -/
namespace Cr
open Si88
theorem filter_ne_erase {l : List Nat} {x : Nat} (d : l.Nodup) : (l.filter fun y => y != x) = l.erase x := by
  induction l with
  | nil => rfl
  | cons a l ih =>
    obtain ⟨na, dl⟩ := List.nodup_cons.mp d
    by_cases e : a = x
    · subst e
      rw [List.filter_cons_of_neg (by simp), List.erase_cons_head]
      exact List.filter_eq_self.mpr fun b hb => by
        have : b ≠ a := fun q => na (q ▸ hb)
        simpa using this
    · rw [List.filter_cons_of_pos (by simpa using e), List.erase_cons_tail (by simpa using e), ih dl]
theorem mem_orders : ∀ (n : Nat) (l : List Nat), l.Nodup → l.length = n → ∀ r, r ∈ orders n l ↔ r.Perm l
  | 0, l, d, h, r => by
    have e : l = [] := List.eq_nil_of_length_eq_zero h
    subst e
    simp [orders]
  | n + 1, l, d, h, r => by
    unfold orders
    rw [List.mem_flatMap]
    constructor
    · rintro ⟨x, hx, hr⟩
      obtain ⟨q, hq, rfl⟩ := List.mem_map.mp hr
      rw [filter_ne_erase d] at hq
      have ih := (mem_orders n (l.erase x) (d.erase x) (by rw [List.length_erase_of_mem hx, h]; rfl) q).mp hq
      exact (ih.cons x).trans (List.perm_cons_erase hx).symm
    · intro p
      cases r with
      | nil =>
        have := p.length_eq
        rw [h] at this
        cases this
      | cons x q =>
        have hx : x ∈ l := p.mem_iff.mp (List.mem_cons_self)
        refine ⟨x, hx, List.mem_map.mpr ⟨q, ?_, rfl⟩⟩
        rw [filter_ne_erase d]
        exact (mem_orders n (l.erase x) (d.erase x) (by rw [List.length_erase_of_mem hx, h]; rfl) q).mpr ((p.trans (List.perm_cons_erase hx)).cons_inv)
/-- all rows of n things -/
def allRows (n : Nat) : List (List Nat) := orders n (List.range n)
theorem mem_allRows {n : Nat} {r : List Nat} : r ∈ allRows n ↔ r.Perm (List.range n) := mem_orders n _ List.nodup_range List.length_range r
theorem rows_is (s : Shelf) : s.rows = allRows s.row.length := rfl
/-! ### The least of some numbers -/
theorem foldl_min (n : Nat) (r : List Nat) : ∀ m, m ≤ r.foldl min n ↔ m ≤ n ∧ ∀ x ∈ r, m ≤ x := by
  induction r generalizing n with
  | nil => intro m; simp
  | cons a r ih =>
    intro m
    rw [List.foldl_cons, ih (min n a) m, Nat.le_min]
    simp only [List.forall_mem_cons, and_assoc]
theorem leastOf_le {l : List Nat} {x : Nat} (h : x ∈ l) : leastOf l ≤ x := by
  cases l with
  | nil => cases h
  | cons n r =>
    have q := (foldl_min n r (leastOf (n :: r))).mp (Nat.le_refl _)
    rcases List.mem_cons.mp h with rfl | h
    · exact q.1
    · exact q.2 x h
theorem leastOf_mem {l : List Nat} (h : l ≠ []) : leastOf l ∈ l := by
  cases l with
  | nil => exact absurd rfl h
  | cons n r =>
    show r.foldl min n ∈ n :: r
    induction r generalizing n with
    | nil => simp
    | cons a r ih =>
      rw [List.foldl_cons]
      have := ih (min n a) (by simp)
      rcases List.mem_cons.mp this with e | e
      · rw [e]
        rcases Nat.le_total n a with q | q
        · rw [Nat.min_eq_left q]; exact List.mem_cons_self
        · rw [Nat.min_eq_right q]; exact List.mem_cons_of_mem _ List.mem_cons_self
      · exact List.mem_cons_of_mem _ (List.mem_cons_of_mem _ e)
/-- the least of a list is what none is below and what is in it -/
theorem leastOf_eq {l : List Nat} {m : Nat} (h : m ∈ l) (a : ∀ x ∈ l, m ≤ x) : leastOf l = m :=
  Nat.le_antisymm (leastOf_le h) (a _ (leastOf_mem (List.ne_nil_of_mem h)))
theorem le_leastOf {l : List Nat} {m : Nat} (h : l ≠ []) (a : ∀ x ∈ l, m ≤ x) : m ≤ leastOf l := a _ (leastOf_mem h)
/-! ### The best row that stays -/
def better (f : List Nat → Nat) (b : Option Best) (r : List Nat) : Option Best := match b with
  | none => some ⟨f r, 1, r⟩
  | some x => if f r < x.steps then some ⟨f r, 1, r⟩ else if f r = x.steps then some { x with many := x.many + 1 } else some x
theorem best_is (s : Shelf) : s.best = (allRows s.row.length).foldl (better fun r => fixed r s.asked) none := by
  unfold Shelf.best
  rw [rows_is]
  congr 1
/-- what a walk over some rows has found -/
structure Found (f : List Nat → Nat) (l : List (List Nat)) (x : Best) : Prop where
  least : ∀ r ∈ l, x.steps ≤ f r
  many : x.many = l.countP fun r => f r == x.steps
  first : l.find? (fun r => f r == x.steps) = some x.row
theorem Found.one (f : List Nat → Nat) (r : List Nat) : Found f [r] ⟨f r, 1, r⟩ := ⟨by simp, by simp, by simp⟩
theorem Found.snoc {f : List Nat → Nat} {l : List (List Nat)} {x : Best} (F : Found f l x) (r : List Nat) : ∃ y, better f (some x) r = some y ∧ Found f (l ++ [r]) y := by
  unfold better
  by_cases c : f r < x.steps
  · refine ⟨_, if_pos c, ⟨?_, ?_, ?_⟩⟩
    · intro q hq
      rcases List.mem_append.mp hq with h | h
      · exact Nat.le_of_lt (Nat.lt_of_lt_of_le c (F.least q h))
      · rw [List.mem_singleton.mp h]; exact Nat.le_refl _
    · have z : (l.countP fun q => f q == f r) = 0 := List.countP_eq_zero.mpr fun q hq => by
        have := F.least q hq
        simp; omega
      rw [List.countP_append, z]
      simp
    · have z : l.find? (fun q => f q == f r) = none := List.find?_eq_none.mpr fun q hq => by
        have := F.least q hq
        simp; omega
      rw [List.find?_append, z]
      simp
  · by_cases e : f r = x.steps
    · refine ⟨_, by dsimp only; rw [if_neg c, if_pos e], ⟨?_, ?_, ?_⟩⟩
      · intro q hq
        rcases List.mem_append.mp hq with h | h
        · exact F.least q h
        · rw [List.mem_singleton.mp h, e]; exact Nat.le_refl _
      · show x.many + 1 = _
        rw [List.countP_append, F.many]
        simp [e]
      · show _ = some x.row
        rw [List.find?_append, F.first]
        rfl
    · refine ⟨_, by dsimp only; rw [if_neg c, if_neg e], ⟨?_, ?_, ?_⟩⟩
      · intro q hq
        rcases List.mem_append.mp hq with h | h
        · exact F.least q h
        · rw [List.mem_singleton.mp h]; omega
      · rw [List.countP_append, F.many]
        simp [e]
      · rw [List.find?_append, F.first]
        rfl
theorem better_all (f : List Nat → Nat) : ∀ (r l : List (List Nat)) (x : Best), Found f l x → ∃ y, r.foldl (better f) (some x) = some y ∧ Found f (l ++ r) y
  | [], l, x, F => ⟨x, rfl, by rwa [List.append_nil]⟩
  | a :: r, l, x, F => by
    obtain ⟨y, e, G⟩ := F.snoc a
    obtain ⟨z, e2, G2⟩ := better_all f r (l ++ [a]) y G
    exact ⟨z, by rw [List.foldl_cons, e, e2], by rwa [List.append_assoc] at G2⟩
theorem Found.unique {f : List Nat → Nat} {l : List (List Nat)} {x y : Best} (F : Found f l x) (G : Found f l y) : x = y := by
  have mx := List.mem_of_find?_eq_some F.first
  have my := List.mem_of_find?_eq_some G.first
  have ex : f x.row = x.steps := by have := List.find?_some F.first; simpa using this
  have ey : f y.row = y.steps := by have := List.find?_some G.first; simpa using this
  have e : x.steps = y.steps := Nat.le_antisymm (ey ▸ F.least _ my) (ex ▸ G.least _ mx)
  have e2 : x.many = y.many := by rw [F.many, G.many, e]
  have e3 : x.row = y.row := by
    have := F.first
    rw [e, G.first] at this
    exact (Option.some.inj this).symm
  cases x; cases y
  simp at e e2 e3
  simp [e, e2, e3]
theorem best_found (s : Shelf) : ∃ x, s.best = some x ∧ Found (fun r => fixed r s.asked) (allRows s.row.length) x := by
  rw [best_is]
  cases e : allRows s.row.length with
  | nil =>
    have : List.range s.row.length ∈ allRows s.row.length := mem_allRows.mpr (.refl _)
    rw [e] at this
    cases this
  | cons a r =>
    obtain ⟨y, e1, F⟩ := better_all (fun r => fixed r s.asked) r [a] ⟨_, 1, a⟩ (Found.one _ a)
    exact ⟨y, e1, F⟩
/-! ### The least at all: from each row what is left to come still takes -/
def ahead (later : List Nat → Nat) (q : List Nat) (t : Nat) : Nat := steps q t + leastOf ((aheads q t).map later)
def left (rows : List (List Nat)) : List Nat → List Nat → Nat
  | [], _ => 0
  | t :: l, r => leastOf (rows.map fun q => apart r q + ahead (left rows l) q t)
theorem find_map {rows : List (List Nat)} {g : List Nat → Nat} {r : List Nat} (h : r ∈ rows) : (((rows.map fun r => (r, g r)).find? fun x => x.1 == r).map fun x => x.2).getD 0 = g r := by
  induction rows with
  | nil => cases h
  | cons a l ih =>
    rw [List.map_cons, List.find?_cons]
    by_cases e : a = r
    · subst e
      simp
    · have : ((a, g a).1 == r) = false := by simpa using e
      rw [this]
      exact ih ((List.mem_cons.mp h).resolve_left fun q => e q.symm)
theorem costs_is {rows : List (List Nat)} (cl : ∀ q ∈ rows, ∀ t ∈ q, ∀ p ∈ aheads q t, p ∈ rows) : ∀ (l : List Nat), (∀ t ∈ l, ∀ q ∈ rows, t ∈ q) → costs rows l = rows.map fun r => (r, left rows l r)
  | [], _ => rfl
  | t :: l, h => by
    have ih := costs_is cl l fun u hu => h u (List.mem_cons_of_mem _ hu)
    unfold costs
    rw [ih]
    dsimp only
    refine List.map_congr_left fun r _ => ?_
    rw [List.map_map]
    refine congrArg (fun z => (r, leastOf z)) (List.map_congr_left fun q hq => ?_)
    show apart r q + (steps q t + _) = apart r q + (steps q t + _)
    refine congrArg (fun z => apart r q + (steps q t + leastOf z)) (List.map_congr_left fun p hp => ?_)
    exact find_map (cl q hq t (h t List.mem_cons_self q hq) p hp)
theorem aheads_perm {n : Nat} {q p : List Nat} {t : Nat} (hq : q.Perm (List.range n)) (ht : t ∈ q) (hp : p ∈ aheads q t) : p.Perm (List.range n) := by
  unfold aheads at hp
  obtain ⟨i, _, rfl⟩ := List.mem_map.mp hp
  have d : q.Nodup := hq.nodup_iff.mpr List.nodup_range
  rw [filter_ne_erase d]
  refine List.Perm.trans ?_ hq
  refine List.perm_middle.trans ?_
  rw [List.take_append_drop]
  exact (List.perm_cons_erase ht).symm
theorem least_is {s : Shelf} (G : Good s) : s.least = left (allRows s.row.length) s.asked s.row := by
  unfold Shelf.least
  rw [rows_is, costs_is (rows := allRows s.row.length) (fun q hq t ht p hp => mem_allRows.mpr (aheads_perm (mem_allRows.mp hq) ht hp)) s.asked fun t ht q hq => (mem_allRows.mp hq).mem_iff.mpr (List.mem_range.mpr (G.there t ht))]
  exact find_map (mem_allRows.mpr G.row)
end Cr

/-! The play's own facts: a good shelf stays good; sizes; the list at a place. -/
namespace Cr
open Si88
theorem good_next {s : Shelf} {k : Req} (G : Good s) : Good (next s k) := by
  cases k with
  | begins x =>
    by_cases h : x.toNat < 1 ∨ THINGS < x.toNat
    · have e : next s (.begins x) = s := congrArg Prod.fst (if_pos h : Si88.step s (.begins x.toNat) = (s, ok (-1)))
      rw [e]; exact G
    · have e : next s (.begins x) = ⟨List.range x.toNat, []⟩ := congrArg Prod.fst (if_neg h : Si88.step s (.begins x.toNat) = (⟨List.range x.toNat, []⟩, ok 0))
      rw [e]
      unfold THINGS at h
      refine ⟨?_, ?_, ?_, Nat.zero_le _, fun t ht => by cases ht⟩
      · show 1 ≤ (List.range x.toNat).length
        rw [List.length_range]; omega
      · show (List.range x.toNat).length ≤ 4
        rw [List.length_range]; omega
      · show IsPerm (List.range x.toNat).length (List.range x.toNat)
        rw [List.length_range]
        exact .refl _
  | laid xs =>
    by_cases h : s.isRow (xs.map Int.toNat) = false
    · have e : next s (.laid xs) = s := congrArg Prod.fst (if_pos h : Si88.step s (.laid (xs.map Int.toNat)) = (s, ok (-1)))
      rw [e]; exact G
    · by_cases h2 : s.asked ≠ []
      · have e : next s (.laid xs) = s := congrArg Prod.fst ((if_neg h).trans (if_pos h2) : Si88.step s (.laid (xs.map Int.toNat)) = (s, ok (-4)))
        rw [e]; exact G
      · have e : next s (.laid xs) = { s with row := xs.map Int.toNat } := congrArg Prod.fst ((if_neg h).trans (if_neg h2) : Si88.step s (.laid (xs.map Int.toNat)) = ({ s with row := xs.map Int.toNat }, ok 0))
        rw [e]
        have p := (isRow_iff s _).mp (by cases q : s.isRow (xs.map Int.toNat) with | true => rfl | false => exact absurd q h)
        have el : (xs.map Int.toNat).length = s.row.length := by rw [p.length_eq, List.length_range]
        refine ⟨?_, ?_, ?_, G.most, fun t ht => ?_⟩
        · show 1 ≤ (xs.map Int.toNat).length
          rw [el]; exact G.pos
        · show (xs.map Int.toNat).length ≤ 4
          rw [el]; exact G.few
        · show (xs.map Int.toNat).Perm (List.range (xs.map Int.toNat).length)
          rw [el]; exact p
        · show t < (xs.map Int.toNat).length
          rw [el]; exact G.there t ht
  | asks x =>
    by_cases h : s.count ≤ x.toNat
    · have e : next s (.asks x) = s := congrArg Prod.fst (if_pos h : Si88.step s (.asks x.toNat) = (s, ok (-2)))
      rw [e]; exact G
    · by_cases h2 : ASKED ≤ s.asked.length
      · have e : next s (.asks x) = s := congrArg Prod.fst ((if_neg h).trans (if_pos h2) : Si88.step s (.asks x.toNat) = (s, ok (-5)))
        rw [e]; exact G
      · have e : next s (.asks x) = { s with asked := s.asked ++ [x.toNat] } := congrArg Prod.fst ((if_neg h).trans (if_neg h2) : Si88.step s (.asks x.toNat) = ({ s with asked := s.asked ++ [x.toNat] }, ok ((s.asked.length : Nat) + 1)))
        rw [e]
        unfold ASKED at h2
        refine ⟨G.pos, G.few, G.row, ?_, fun t ht => ?_⟩
        · show (s.asked ++ [x.toNat]).length ≤ 10
          rw [List.length_append]
          show s.asked.length + 1 ≤ 10
          omega
        · rcases List.mem_append.mp ht with q | q
          · exact G.there t q
          · rw [List.mem_singleton.mp q]
            unfold Shelf.count at h
            show x.toNat < s.row.length
            omega
  | fixed xs =>
    by_cases h : s.isRow (xs.map Int.toNat) = false
    · have e : next s (.fixed xs) = s := congrArg Prod.fst (if_pos h : Si88.step s (.fixed (xs.map Int.toNat)) = (s, ok (-1)))
      rw [e]; exact G
    · have e : next s (.fixed xs) = s := congrArg Prod.fst (if_neg h : Si88.step s (.fixed (xs.map Int.toNat)) = (s, _))
      rw [e]; exact G
  | best => exact G
  | rule x =>
    by_cases h : 2 < x.toNat
    · have e : next s (.rule x) = s := congrArg Prod.fst (if_pos h : Si88.step s (.rule x.toNat) = (s, ok (-1)))
      rw [e]; exact G
    · have e : next s (.rule x) = s := congrArg Prod.fst (if_neg h : Si88.step s (.rule x.toNat) = (s, _))
      rw [e]; exact G
  | least => exact G
theorem flat_pos (k : Req) : 1 ≤ k.flat.length := by
  cases k <;> simp [Req.flat]
/-- where the i-th call begins -/
def at_ (ks : List Req) (i : Nat) : Nat := ((ks.take i).flatMap Req.flat).length
theorem take_succ {α : Type} {l : List α} {i : Nat} {x : α} (h : l[i]? = some x) : l.take (i + 1) = l.take i ++ [x] := by
  rw [List.take_add_one, h]
  rfl
theorem at_succ {ks : List Req} {i : Nat} {k : Req} (h : ks[i]? = some k) : at_ ks (i + 1) = at_ ks i + k.flat.length := by
  unfold at_
  rw [take_succ h, List.flatMap_append, List.length_append, List.flatMap_singleton]
theorem split_at {ks : List Req} {i : Nat} {k : Req} (h : ks[i]? = some k) : ks.flatMap Req.flat = (ks.take i).flatMap Req.flat ++ (k.flat ++ (ks.drop (i + 1)).flatMap Req.flat) := by
  obtain ⟨hi, e⟩ := List.getElem?_eq_some_iff.mp h
  conv => lhs; rw [← List.take_append_drop i ks, List.flatMap_append, List.drop_eq_getElem_cons hi, List.flatMap_cons, e]
theorem at_end {ks : List Req} {i : Nat} (hi : i ≤ ks.length) : at_ ks i < (ks.flatMap Req.flat).length ↔ i < ks.length := by
  constructor
  · intro h
    rcases Nat.lt_or_ge i ks.length with q | q
    · exact q
    · have e : i = ks.length := Nat.le_antisymm hi q
      unfold at_ at h
      rw [e, List.take_length] at h
      exact absurd h (Nat.lt_irrefl _)
  · intro h
    have hk : ks[i]? = some ks[i] := List.getElem?_eq_getElem h
    rw [split_at hk]
    unfold at_
    rw [List.length_append, List.length_append]
    have := flat_pos ks[i]
    omega
theorem play_drop {ks : List Req} {i : Nat} {k : Req} (h : ks[i]? = some k) (s : Shelf) : play s (ks.drop i) = ((ans s k).length : Int) :: (ans s k ++ play (next s k) (ks.drop (i + 1))) := by
  obtain ⟨hi, e⟩ := List.getElem?_eq_some_iff.mp h
  rw [List.drop_eq_getElem_cons hi, e]
  rfl
end Cr

/-! What the program's ways say in plain words: all rows, exchanges, the best, the rules, the least. -/
namespace Cr
open Si88
/-! ### all rows -/
def more (n : Nat) (rows : List (List Nat)) : List (List Nat) := rows.flatMap fun r => ((List.range n).filter fun t => !r.contains t).map fun t => r ++ [t]
def mRows (n : Nat) : Nat → List (List Nat)
  | 0 => [[]]
  | k + 1 => more n (mRows n k)
theorem mRows_is : ∀ {n : Nat}, n ≤ 4 → mRows n n = allRows n
  | 0, _ => by decide
  | 1, _ => by decide
  | 2, _ => by decide
  | 3, _ => by decide +kernel
  | 4, _ => by decide +kernel
  | n + 5, h => by omega
theorem allRows_nodup : ∀ {n : Nat}, n ≤ 4 → (allRows n).Nodup
  | 0, _ => by decide
  | 1, _ => by decide
  | 2, _ => by decide
  | 3, _ => by decide +kernel
  | 4, _ => by decide +kernel
  | n + 5, h => by omega
theorem allRows_length : ∀ {n : Nat}, n ≤ 4 → (allRows n).length ≤ 24
  | 0, _ => by decide
  | 1, _ => by decide
  | 2, _ => by decide
  | 3, _ => by decide +kernel
  | 4, _ => by decide +kernel
  | n + 5, h => by omega
theorem mRows_length : ∀ {n k : Nat}, n ≤ 4 → k ≤ n → (mRows n k).length ≤ 24 := by
  intro n k hn hk
  have : ∀ n, n < 5 → ∀ k, k < 5 → (mRows n k).length ≤ 24 := by decide +kernel
  exact this n (by omega) k (by omega)
theorem mRows_each : ∀ {n k : Nat}, ∀ r ∈ mRows n k, r.length = k := by
  intro n k
  induction k with
  | zero =>
    intro r hr
    rw [List.mem_singleton.mp hr]
    rfl
  | succ k ih =>
    intro r hr
    obtain ⟨q, hq, hr⟩ := List.mem_flatMap.mp hr
    obtain ⟨t, _, rfl⟩ := List.mem_map.mp hr
    rw [List.length_append, ih q hq]
    rfl
theorem row_length {n : Nat} {r : List Nat} (h : r ∈ allRows n) : r.length = n := by rw [(mem_allRows.mp h).length_eq, List.length_range]
theorem row_at {n : Nat} {r : List Nat} (h : r ∈ allRows n) {t : Nat} : t ∈ r ↔ t < n := (mem_allRows.mp h).mem_iff.trans List.mem_range
/-! ### exchanges -/
def inv1 (one other : List Nat) (j k : Nat) : Nat := ((List.range k).filter fun i => decide (steps other (one.getD j 0) < steps other (one.getD i 0))).length
def invs (one other : List Nat) (k : Nat) : Nat := ((List.range k).map fun j => inv1 one other j j).sum
theorem inv1_succ {one other : List Nat} {j k : Nat} : inv1 one other j (k + 1) = inv1 one other j k + (if steps other (one.getD j 0) < steps other (one.getD k 0) then 1 else 0) := by
  unfold inv1
  rw [List.range_succ, List.filter_append, List.length_append]
  by_cases h : steps other (one.getD j 0) < steps other (one.getD k 0)
  · rw [if_pos h, List.filter_cons_of_pos (by simpa using h)]
    rfl
  · rw [if_neg h, List.filter_cons_of_neg (by simpa using h)]
    rfl
theorem invs_succ {one other : List Nat} {k : Nat} : invs one other (k + 1) = invs one other k + inv1 one other k k := by
  unfold invs
  rw [List.range_succ, List.map_append, List.sum_append]
  simp
theorem inv1_le (one other : List Nat) (j k : Nat) : inv1 one other j k ≤ k := by
  unfold inv1
  have := List.length_filter_le (fun i => decide (steps other (one.getD j 0) < steps other (one.getD i 0))) (List.range k)
  rwa [List.length_range] at this
def same_ex (n : Nat) : Bool := (allRows n).all fun a => (allRows n).all fun b => invs a b n == apart a b
theorem same_ex_is : ∀ {n : Nat}, n ≤ 4 → same_ex n = true
  | 0, _ => by decide
  | 1, _ => by decide
  | 2, _ => by decide +kernel
  | 3, _ => by decide +kernel
  | 4, _ => by decide +kernel
  | n + 5, h => by omega
theorem invs_is {n : Nat} {a b : List Nat} (h : n ≤ 4) (ha : a ∈ allRows n) (hb : b ∈ allRows n) : invs a b n = apart a b := by
  have := List.all_eq_true.mp (List.all_eq_true.mp (same_ex_is h) a ha) b hb
  simpa using this
/-! ### best -/
theorem best_of {f : List Nat → Nat} {rows : List (List Nat)} {m j : Nat} {r : List Nat} (hm : ∀ y ∈ rows.map f, m ≤ y) (hj : rows[j]? = some r) (hr : f r = m) (hf : ∀ i : Nat, i < j → (rows.map f)[i]? ≠ some m) :
    Found f rows ⟨m, (rows.map f).count m, r⟩ := by
  refine ⟨fun q hq => hm _ (List.mem_map_of_mem hq), ?_, ?_⟩
  · show List.count m (rows.map f) = _
    unfold List.count
    rw [List.countP_map]
    rfl
  · show rows.find? _ = some r
    induction rows generalizing j with
    | nil => simp at hj
    | cons a l ih =>
      cases j with
      | zero =>
        have e : a = r := Option.some.inj hj
        subst e
        rw [List.find?_cons_of_pos (by simpa using hr)]
      | succ j =>
        have ne : ¬ f a = m := fun e => hf 0 (Nat.succ_pos j) (by rw [← e]; rfl)
        rw [List.find?_cons_of_neg (by simpa using ne)]
        exact ih (fun y hy => hm y (List.mem_cons_of_mem _ hy)) (by simpa using hj) fun i hi => by
          have := hf (i + 1) (Nat.succ_lt_succ hi)
          simpa using this
/-! ### a thing is put further ahead -/
def mv (r : List Nat) (p i : Nat) : List Nat := r.take i ++ (r.drop p).take 1 ++ (r.drop i).take (p - i) ++ r.drop (p + 1)
theorem split_row {r : List Nat} {t j : Nat} (d : r.Nodup) (h : r[j]? = some t) : ∃ a b, r = a ++ t :: b ∧ a.length = j ∧ t ∉ a ∧ t ∉ b := by
  obtain ⟨hj, e⟩ := List.getElem?_eq_some_iff.mp h
  have e1 : r = r.take j ++ t :: r.drop (j + 1) := by
    conv => lhs; rw [← List.take_append_drop j r, List.drop_eq_getElem_cons hj, e]
  refine ⟨r.take j, r.drop (j + 1), e1, by rw [List.length_take]; omega, ?_⟩
  rw [e1] at d
  obtain ⟨_, d2, d3⟩ := List.nodup_append.mp d
  exact ⟨fun m => d3 t m t List.mem_cons_self rfl, (List.nodup_cons.mp d2).1⟩
theorem without_row {a b : List Nat} {t : Nat} (na : t ∉ a) (nb : t ∉ b) : (a ++ t :: b).filter (fun u => u != t) = a ++ b := by
  rw [List.filter_append, List.filter_cons_of_neg (by simp), List.filter_eq_self.mpr, List.filter_eq_self.mpr]
  · intro u hu
    have : u ≠ t := fun e => nb (e ▸ hu)
    simpa using this
  · intro u hu
    have : u ≠ t := fun e => na (e ▸ hu)
    simpa using this
theorem mv_is {a b : List Nat} {t i : Nat} (hi : i ≤ a.length) : mv (a ++ t :: b) a.length i = a.take i ++ t :: (a.drop i ++ b) := by
  unfold mv
  rw [List.take_append_of_le_length hi, List.drop_left, List.drop_append_of_le_length hi]
  have e2 : (List.drop i a ++ t :: b).take (a.length - i) = a.drop i := by
    rw [List.take_append_of_le_length (by rw [List.length_drop]; exact Nat.le_refl _), List.take_of_length_le (by rw [List.length_drop]; exact Nat.le_refl _)]
  have e3 : (a ++ t :: b).drop (a.length + 1) = b := by
    rw [List.drop_append, List.drop_eq_nil_of_le (by omega), Nat.add_sub_cancel_left]
    rfl
  rw [e2, e3]
  simp
theorem mv_aheads {r : List Nat} {t j : Nat} (d : r.Nodup) (h : r[j]? = some t) (n : ∀ m : Nat, m < j → r[m]? ≠ some t) : aheads r t = (List.range (j + 1)).map (mv r j) := by
  unfold aheads
  rw [steps_at h n]
  obtain ⟨a, b, rfl, rfl, na, nb⟩ := split_row d h
  refine List.map_congr_left fun i hi => ?_
  have hi' : i ≤ a.length := Nat.le_of_lt_succ (List.mem_range.mp hi)
  rw [without_row na nb, mv_is hi', List.take_append_of_le_length hi', List.drop_append_of_le_length hi']
/-! ### the rules -/
def put (k : Nat) (now r : List Nat) (t : Nat) : List Nat := if k = 0 then toFront r t else if k = 1 then oneAhead r t else byCount now r t
theorem ruled_cons {k : Nat} {had r : List Nat} {t : Nat} {l : List Nat} : ruled k had r (t :: l) = (steps r t + (ruled k (had ++ [t]) (put k (had ++ [t]) r t) l).1, (ruled k (had ++ [t]) (put k (had ++ [t]) r t) l).2) := rfl
theorem front_is {r : List Nat} {t j : Nat} (d : r.Nodup) (h : r[j]? = some t) : mv r j 0 = toFront r t := by
  obtain ⟨a, b, rfl, rfl, na, nb⟩ := split_row d h
  unfold toFront
  rw [mv_is (Nat.zero_le _), without_row na nb]
  rfl
theorem oneAhead_none : ∀ (x : Nat) (l : List Nat) (t : Nat), t ∉ l → oneAhead (x :: l) t = x :: l
  | _, [], _, _ => rfl
  | x, y :: l, t, h => by
    have ny : ¬ y = t := fun e => h (by rw [e]; simp)
    show (if y = t then y :: x :: l else x :: oneAhead (y :: l) t) = _
    rw [if_neg ny, oneAhead_none y l t fun m => h (List.mem_cons_of_mem _ m)]
theorem oneAhead_at : ∀ (a : List Nat) (t : Nat) (b : List Nat), t ∉ a → t ∉ b → oneAhead (a ++ t :: b) t = a.take (a.length - 1) ++ t :: (a.drop (a.length - 1) ++ b)
  | [], t, b, _, nb => oneAhead_none t b t nb
  | [x], t, b, _, _ => by
    show (if t = t then t :: x :: b else x :: oneAhead (t :: b) t) = _
    rw [if_pos rfl]
    rfl
  | x :: y :: a, t, b, na, nb => by
    have ny : ¬ y = t := fun e => na (by rw [e]; simp)
    show (if y = t then y :: x :: (a ++ t :: b) else x :: oneAhead (y :: (a ++ t :: b)) t) = _
    rw [if_neg ny]
    have ih := oneAhead_at (y :: a) t b (fun m => na (List.mem_cons_of_mem _ m)) nb
    have ih' : oneAhead (y :: (a ++ t :: b)) t = _ := ih
    rw [ih']
    rfl
theorem one_is {r : List Nat} {t j : Nat} (d : r.Nodup) (h : r[j]? = some t) : mv r j (j - 1) = oneAhead r t := by
  obtain ⟨a, b, rfl, rfl, na, nb⟩ := split_row d h
  rw [oneAhead_at a t b na nb, mv_is (Nat.sub_le _ _)]
/-- the first place ahead of j whose thing was asked for less often -/
def lessAt (now r : List Nat) (t : Nat) : Nat → Nat → Prop := fun j i => i ≤ j ∧ (∀ m, m < i → ¬ now.count (r.getD m 0) < now.count t) ∧ (i < j → now.count (r.getD i 0) < now.count t)
theorem take_while {c : Nat → Bool} : ∀ {a : List Nat} {i : Nat}, i ≤ a.length → (∀ m, m < i → c (a.getD m 0) = true) → (i < a.length → c (a.getD i 0) = false) → a.takeWhile c = a.take i ∧ a.dropWhile c = a.drop i
  | [], i, h, _, _ => by
    have : i = 0 := Nat.le_zero.mp h
    subst this
    exact ⟨rfl, rfl⟩
  | x :: a, 0, _, _, h2 => by
    have : c x = false := h2 (Nat.succ_pos _)
    exact ⟨by rw [List.takeWhile_cons_of_neg (by rw [this]; exact fun z => by cases z)]; rfl, by rw [List.dropWhile_cons_of_neg (by rw [this]; exact fun z => by cases z)]; rfl⟩
  | x :: a, i + 1, h, h1, h2 => by
    have e : c x = true := h1 0 (Nat.succ_pos i)
    obtain ⟨q1, q2⟩ := take_while (c := c) (a := a) (i := i) (Nat.le_of_succ_le_succ h) (fun m hm => h1 (m + 1) (Nat.succ_lt_succ hm)) fun q => h2 (Nat.succ_lt_succ q)
    exact ⟨by rw [List.takeWhile_cons_of_pos e, q1]; rfl, by rw [List.dropWhile_cons_of_pos e, q2]; rfl⟩
theorem times_is {now r : List Nat} {t j i : Nat} (d : r.Nodup) (h : r[j]? = some t) (hi : lessAt now r t j i) : mv r j i = byCount now r t := by
  obtain ⟨a, b, rfl, rfl, na, nb⟩ := split_row d h
  obtain ⟨h1, h2, h3⟩ := hi
  have get : ∀ m, m < a.length → (a ++ t :: b).getD m 0 = a.getD m 0 := fun m hm => by
    rw [List.getD_eq_getElem?_getD, List.getD_eq_getElem?_getD, List.getElem?_append_left hm]
  have ne : ∀ m, m < a.length → a.getD m 0 ≠ t := fun m hm e => na (by
    rw [List.getD_eq_getElem?_getD, List.getElem?_eq_getElem hm] at e
    exact e ▸ List.getElem_mem hm)
  obtain ⟨q1, q2⟩ := take_while (c := fun u => u != t && decide (now.count t ≤ now.count u)) (a := a) (i := i) h1 (fun m hm => by
      have g := h2 m hm
      rw [get m (by omega)] at g
      have n := ne m (by omega)
      have e1 : (a.getD m 0 != t) = true := by simpa using n
      show (a.getD m 0 != t && decide (now.count t ≤ now.count (a.getD m 0))) = true
      rw [e1, decide_eq_true (by omega)]
      rfl) fun hm => by
      have g := h3 hm
      rw [get i hm] at g
      show (a.getD i 0 != t && decide (now.count t ≤ now.count (a.getD i 0))) = false
      rw [decide_eq_false (by omega), Bool.and_false]
  unfold byCount
  dsimp only
  have e1 : (a ++ t :: b).takeWhile (fun u => u != t && decide (now.count t ≤ now.count u)) = a.take i := by
    by_cases hm : i < a.length
    · rw [List.takeWhile_append, q1, if_neg]
      intro e
      rw [List.length_take] at e
      omega
    · have : i = a.length := by omega
      rw [List.takeWhile_append, q1, if_pos (by rw [List.length_take]; omega), List.takeWhile_cons_of_neg (by simp), List.append_nil, this, List.take_length]
  have e2 : (a ++ t :: b).dropWhile (fun u => u != t && decide (now.count t ≤ now.count u)) = a.drop i ++ t :: b := by
    have z := List.takeWhile_append_dropWhile (p := fun u => u != t && decide (now.count t ≤ now.count u)) (l := a ++ t :: b)
    rw [e1] at z
    have z2 : a ++ t :: b = a.take i ++ (a.drop i ++ t :: b) := by rw [← List.append_assoc, List.take_append_drop]
    exact List.append_cancel_left (z.trans z2)
  rw [e1, e2, mv_is h1, without_row (fun m => na (List.mem_of_mem_drop m)) nb]
theorem mv_perm {r : List Nat} {t j i : Nat} (d : r.Nodup) (h : r[j]? = some t) (hi : i ≤ j) : (mv r j i).Perm r := by
  obtain ⟨a, b, rfl, rfl, na, nb⟩ := split_row d h
  rw [mv_is hi]
  have e : a ++ t :: b = a.take i ++ (a.drop i ++ t :: b) := by rw [← List.append_assoc, List.take_append_drop]
  rw [e]
  exact List.Perm.append_left _ List.perm_middle.symm
/-! ### the least at all, from the front -/
/-- x is below all that the ways so far and what is left take -/
def below (kvs : List (List Nat × Nat)) (g : List Nat → Nat) (x : Nat) : Prop := ∀ p ∈ kvs, x ≤ p.2 + g p.1
theorem le_leastOf_iff {l : List Nat} (h : l ≠ []) (m : Nat) : m ≤ leastOf l ↔ ∀ x ∈ l, m ≤ x := by
  cases l with
  | nil => exact absurd rfl h
  | cons n r =>
    show m ≤ r.foldl min n ↔ _
    rw [foldl_min]
    simp
theorem leastOf_below {kvs : List (List Nat × Nat)} {g : List Nat → Nat} {n : Nat} (h : kvs ≠ []) (b : ∀ x, below kvs g x ↔ x ≤ n) : leastOf (kvs.map fun p => p.2 + g p.1) = n := by
  have ne : kvs.map (fun p => p.2 + g p.1) ≠ [] := fun e => h (List.map_eq_nil_iff.mp e)
  have k : ∀ x, x ≤ leastOf (kvs.map fun p => p.2 + g p.1) ↔ x ≤ n := fun x => by
    rw [le_leastOf_iff ne, ← b x]
    constructor
    · exact fun h p hp => h _ (List.mem_map_of_mem (f := fun p : List Nat × Nat => p.2 + g p.1) hp)
    · intro h y hy
      obtain ⟨p, hp, rfl⟩ := List.mem_map.mp hy
      exact h p hp
  exact Nat.le_antisymm ((k _).mp (Nat.le_refl _)) ((k _).mpr (Nat.le_refl _))
/-- one more way, kept if it is less -/
def keepLess (kvs : List (List Nat × Nat)) (q : List Nat) (n : Nat) : List (List Nat × Nat) :=
  if (kvs.any fun p => decide (p.1 = q)) = true then kvs.map fun p => if p.1 = q then (p.1, min p.2 n) else p else kvs ++ [(q, n)]
theorem below_keepLess {kvs : List (List Nat × Nat)} {q : List Nat} {n : Nat} {g : List Nat → Nat} {x : Nat} : below (keepLess kvs q n) g x ↔ below kvs g x ∧ x ≤ n + g q := by
  unfold keepLess below
  by_cases c : (kvs.any fun p => decide (p.1 = q)) = true
  · rw [if_pos c]
    obtain ⟨p0, hp0, e0⟩ := List.any_eq_true.mp c
    have e0' : p0.1 = q := of_decide_eq_true e0
    constructor
    · intro h
      refine ⟨fun p hp => ?_, ?_⟩
      · have := h _ (List.mem_map_of_mem hp)
        by_cases e : p.1 = q
        · rw [if_pos e] at this
          have l : min p.2 n ≤ p.2 := Nat.min_le_left _ _
          have this' : x ≤ min p.2 n + g p.1 := this
          omega
        · rw [if_neg e] at this
          exact this
      · have := h _ (List.mem_map_of_mem hp0)
        rw [if_pos e0'] at this
        have this' : x ≤ min p0.2 n + g p0.1 := this
        have l : min p0.2 n ≤ n := Nat.min_le_right _ _
        rw [e0'] at this'
        omega
    · rintro ⟨h1, h2⟩ p hp
      obtain ⟨p1, hp1, rfl⟩ := List.mem_map.mp hp
      have := h1 p1 hp1
      by_cases e : p1.1 = q
      · rw [if_pos e]
        show x ≤ min p1.2 n + g p1.1
        rw [e] at this ⊢
        omega
      · rw [if_neg e]
        exact this
  · rw [if_neg c]
    simp only [List.mem_append, List.mem_singleton, or_imp, forall_and]
    constructor
    · rintro ⟨h1, h2⟩
      exact ⟨h1, h2 _ rfl⟩
    · rintro ⟨h1, h2⟩
      refine ⟨h1, fun p e => ?_⟩
      rw [e]
      exact h2
theorem left_cons {rows : List (List Nat)} {t : Nat} {l r : List Nat} : left rows (t :: l) r = leastOf (rows.map fun q => apart r q + ahead (left rows l) q t) := rfl
/-- what is to be exchanged, then fetched and put back: the ways so far, one thing further -/
theorem below_step {n : Nat} {kvs kvs' : List (List Nat × Nat)} {t : Nat} {l : List Nat} {x : Nat} (hne : kvs ≠ [])
    (h : ∀ (g : List Nat → Nat) (x : Nat), below kvs' g x ↔ ∀ q ∈ allRows n, ∀ p ∈ aheads q t, x ≤ leastOf (kvs.map fun s => s.2 + apart s.1 q) + steps q t + g p) :
    below kvs' (left (allRows n) l) x ↔ below kvs (left (allRows n) (t :: l)) x := by
  rw [h]
  have ane : ∀ q ∈ allRows n, (aheads q t).map (left (allRows n) l) ≠ [] := fun q hq e => by
    have := List.map_eq_nil_iff.mp e
    unfold aheads at this
    have := List.map_eq_nil_iff.mp this
    have := congrArg List.length this
    rw [List.length_range] at this
    exact absurd this (by unfold steps; simp)
  have rne : allRows n ≠ [] := fun e => by
    have : List.range n ∈ allRows n := mem_allRows.mpr (.refl _)
    rw [e] at this
    cases this
  have kne : ∀ q, kvs.map (fun s => s.2 + apart s.1 q) ≠ [] := fun q e => hne (List.map_eq_nil_iff.mp e)
  constructor
  · intro hx s hs
    rw [left_cons]
    have l1 : ∀ (a b m : Nat), (x ≤ a + b ↔ x - a ≤ b) := fun a b m => by omega
    rw [l1 _ _ 0, le_leastOf_iff (fun e => rne (List.map_eq_nil_iff.mp e))]
    intro y hy
    obtain ⟨q, hq, rfl⟩ := List.mem_map.mp hy
    have z : x - (s.2 + apart s.1 q + steps q t) ≤ leastOf ((aheads q t).map (left (allRows n) l)) := by
      rw [le_leastOf_iff (ane q hq)]
      intro y hy
      obtain ⟨p, hp, rfl⟩ := List.mem_map.mp hy
      have h1 := hx q hq p hp
      have h2 : leastOf (kvs.map fun s => s.2 + apart s.1 q) ≤ s.2 + apart s.1 q := leastOf_le (List.mem_map_of_mem (f := fun s : List Nat × Nat => s.2 + apart s.1 q) hs)
      omega
    unfold ahead
    omega
  · intro hx q hq p hp
    obtain ⟨s, hs, e⟩ := List.mem_map.mp (leastOf_mem (kne q))
    rw [← e]
    have h1 := hx s hs
    rw [left_cons] at h1
    have h2 : leastOf ((allRows n).map fun q => apart s.1 q + ahead (left (allRows n) l) q t) ≤ apart s.1 q + ahead (left (allRows n) l) q t := leastOf_le (List.mem_map_of_mem (f := fun q => apart s.1 q + ahead (left (allRows n) l) q t) hq)
    have h3 : leastOf ((aheads q t).map (left (allRows n) l)) ≤ left (allRows n) l p := leastOf_le (List.mem_map_of_mem hp)
    have h4 : ahead (left (allRows n) l) q t = steps q t + leastOf ((aheads q t).map (left (allRows n) l)) := rfl
    rw [h4] at h2
    have h5 : x ≤ s.2 + (apart s.1 q + (steps q t + leastOf ((aheads q t).map (left (allRows n) l)))) := Nat.le_trans h1 (Nat.add_le_add_left h2 _)
    show x ≤ s.2 + apart s.1 q + steps q t + left (allRows n) l p
    omega
end Cr

namespace Cr
open PySem PySem.Spec PyProof.Rows L2
open PySem.W (Codec)
def top (i : Nat) : Stmt := PySem.Challenge.pw_counterrow_s01_answers.main.body.getD i (.Pass ⟨0, 0, 0, 0⟩)
abbrev sOnce : Stmt := top 1
abbrev sStay : Stmt := top 2
/-! ### Data -/
def nV (l : List Nat) : List V := l.map fun n : Nat => V.int (n : Int)
theorem nV_int (l : List Nat) : nV l = (l.map fun n : Nat => (n : Int)).map V.int := by
  unfold nV
  rw [List.map_map]
  rfl
theorem dp_ints {K : PySem.W.Frag} {H : Hp} : ∀ ns : List Int, DpAll K H (ns.map V.int) (ns.map PyData.int)
  | [] => .nil
  | n :: r => .cons (.int n) (dp_ints r)
theorem canLay_ints : ∀ ns : List Int, PyData.canLayAll0 (ns.map PyData.int) = true
  | [] => rfl
  | n :: r => by
    show (PyData.canLay0 (.int n) && PyData.canLayAll0 (r.map PyData.int)) = true
    rw [canLay_ints r]
    rfl
theorem depth_ints : ∀ ns : List Int, PyData.depthAll (ns.map PyData.int) = 0
  | [] => rfl
  | n :: r => by
    show max (PyData.depth (.int n)) (PyData.depthAll (r.map PyData.int)) = 0
    rw [depth_ints r]
    rfl
theorem shaped_ints (ns : List Int) : SeqAt.shaped (.list (ns.map PyData.int)) = true := by
  unfold SeqAt.shaped
  rw [Bool.and_eq_true]
  refine ⟨canLay_ints ns, decide_eq_true ?_⟩
  show PyData.depthAll (ns.map PyData.int) + 1 ≤ 64
  rw [depth_ints]
  decide
theorem eqvAll_ints : ∀ ns ms : List Int, PyData.eqvAll (ns.map PyData.int) (ms.map PyData.int) = decide (ns = ms)
  | [], [] => rfl
  | [], m :: ms => rfl
  | n :: ns, [] => rfl
  | n :: ns, m :: ms => by
    show ((n == m) && PyData.eqvAll (ns.map PyData.int) (ms.map PyData.int)) = _
    rw [eqvAll_ints ns ms]
    by_cases e : n = m <;> by_cases e2 : ns = ms <;> simp [e, e2]
theorem eqv_ints (ns ms : List Int) : PyData.eqv (.list (ns.map PyData.int)) (.list (ms.map PyData.int)) = decide (ns = ms) := eqvAll_ints ns ms
theorem Same.upd {H : Hp} {p : Addr} {o : HO} (h : H p = none) : Same H (L2.upd H p o) := fun b u e => by
  rw [upd_ne (ne_of_none e h)]
  exact e
theorem rgV_ups (n : Nat) : rgV 0 (n : Int) = (ups n).map V.int := by
  unfold rgV ups
  rw [List.map_map]
  have e : ((n : Int) - 0).toNat = n := by omega
  rw [e]
  refine List.map_congr_left fun i _ => ?_
  show V.int (0 + (i : Int)) = V.int (i : Int)
  rw [Int.zero_add]
/-! ### Promises -/
/-- sorted(row) == list(range(things)) -/
def spOnce (K : PySem.W.Frag) : Sp := fun vs H Q _ => ∃ (l : Addr) (zs : List Int) (n : Nat), vs = [.ref l, .int (n : Int)] ∧ SqL K H l (zs.map V.int) ∧ zs.length < 64 ∧ (∀ z ∈ zs, 0 ≤ z) ∧ n ≤ 64 ∧
  ∀ H', Same H H' → Q (.bl (decide ((zs.map Int.toNat).Perm (List.range n)))) H'
/-- the steps of all that was asked for, in this row -/
def spStay (K : PySem.W.Frag) : Sp := fun vs H Q _ => ∃ (l k : Addr) (r a : List Nat), vs = [.ref l, .ref k] ∧ SqL K H l (nV r) ∧ SqL K H k (nV a) ∧ (∀ t ∈ a, t ∈ r) ∧
  Q (.int ((Si88.fixed r a : Nat) : Int)) H
structure Bn (mg : Str → Option Value) : Prop where
  len : mg "len" = none
  sorted : mg "sorted" = none
  list : mg "list" = none
  range : mg "range" = none
section
variable {P : Program} {w : World} {K : PySem.W.Frag} {mg : Str → Option Value} {base : Heap}
theorem scOnce : FnScope ["row", "things"] ["row", "things"] (defScope sOnce) := ⟨rfl, rfl, rfl, by decide +kernel, rfl, by decide +kernel, by decide +kernel⟩
theorem ok_once {f : Addr} {fd : FuncData} (F : Fun K "has_each_once" "has_each_once" sOnce f fd) (T : Bn mg) : FnOk P w K mg base CX0 1 f fd ["row", "things"] (spOnce K) := by
  refine F.ok scOnce (fun vs H Q E h => ?_) (fun cdv A outer s H vs Q E hr h => ?_)
  · obtain ⟨l, zs, n, rfl, _⟩ := h
    rfl
  · obtain ⟨l, zs, n, rfl, hl, h64, h0, hn, k⟩ := h
    refine ⟨_, pss_one (ps_ret (pe_cmpR (op_eqD hr.units) (pe_callB cr_sorted (by rfl) T.sorted (by decide +kernel) (pa_cons (pv 0) pa_nil)) (pe_listRg rfl (by rfl) T.list (prg_1 (by rfl) T.range (pv 1))) (nomark _))), ?_⟩
    refine ⟨_, rfl, l, zs, rfl, hl, h64, fun zs' p hp1 hp2 np => ?_⟩
    refine ⟨_, rfl, (n : Int), rfl, ⟨by omega, by omega, by omega, by omega, by omega⟩, fun q nq => ?_⟩
    rw [rgV_ups]
    have pq : p ≠ q := fun e => by rw [e] at nq; rw [upd_same] at nq; cases nq
    refine ⟨.list (zs'.map PyData.int), .list ((ups n).map PyData.int), .lst (SqL.of (by rw [upd_ne pq, upd_same])) (dp_ints _), .lst (SqL.of upd_same) (dp_ints _), shaped_ints _, shaped_ints _, ?_⟩
    rw [eqv_ints, decide_eq_decide.mpr (sorted_iff (n := n) hp1 hp2 h0)]
    exact k _ ((Same.upd np).trans (Same.upd nq))
theorem scStay : FnScope ["row", "asked", "steps", "thing"] ["row", "asked"] (defScope sStay) := ⟨rfl, rfl, rfl, by decide +kernel, rfl, by decide +kernel, by decide +kernel⟩
theorem take_more {α : Type} : ∀ {l : List α} {i : Nat} {x : α}, l[i]? = some x → l.take (i + 1) = l.take i ++ [x]
  | [], i, x, h => by simp at h
  | a :: l, 0, x, h => by
    have e : a = x := Option.some.inj h
    subst e
    rfl
  | a :: l, i + 1, x, h => by
    have ih := take_more (l := l) (i := i) (x := x) h
    show a :: l.take (i + 1) = a :: l.take i ++ [x]
    rw [ih]
    rfl
theorem nV_get {l : List Nat} {i : Nat} {y : V} (h : (nV l)[i]? = some y) : ∃ n, l[i]? = some n ∧ y = .int (n : Int) := by
  unfold nV at h
  rw [List.getElem?_map] at h
  cases e : l[i]? with
  | none =>
    rw [e] at h
    cases h
  | some n =>
    rw [e] at h
    exact ⟨n, rfl, (Option.some.inj h).symm⟩
theorem nV_at {l : List Nat} {i n : Nat} (h : l[i]? = some n) : (nV l)[i]? = some (.int (n : Int)) := by
  unfold nV
  rw [List.getElem?_map, h]
  rfl
theorem nV_flat (l : List Nat) : (nV l).all flatV = true := List.all_eq_true.mpr fun x hx => by
  obtain ⟨n, _, rfl⟩ := List.mem_map.mp hx
  rfl
theorem eqV_nat {m n : Nat} : eqV (.int (m : Int)) (.int (n : Int)) = decide (m = n) := by
  have : eqV (.int (m : Int)) (.int (n : Int)) = decide ((m : Int) = (n : Int)) := rfl
  rw [this]
  exact decide_eq_decide.mpr Int.ofNat_inj
/-- what row.index(thing) asks and gives -/
theorem index_nat {K : PySem.W.Frag} {H : Hp} {l : Addr} {r : List Nat} {t : Nat} {Q : VK} (hl : SqL K H l (nV r)) (ht : t ∈ r) (k : Q (.int (((Si88.steps r t : Nat) : Int) - 1)) H) : rIndex K (.ref l) [.int (t : Int)] H Q := by
  obtain ⟨j, h1, h2⟩ := at_of_mem ht
  refine ⟨l, nV r, .int (t : Int), j, .int (t : Int), rfl, rfl, hl, rfl, nV_flat r, nV_at h1, by rw [eqV_nat]; exact decide_eq_true rfl, fun m z hm hz => ?_, ?_⟩
  · obtain ⟨u, hu, rfl⟩ := nV_get hz
    rw [eqV_nat]
    exact decide_eq_false fun e => h2 m hm (by rw [hu, e])
  · rw [steps_at h1 h2] at k
    have e : ((j + 1 : Nat) : Int) - 1 = (j : Int) := by omega
    rw [e] at k
    exact k
theorem ok_stay {f : Addr} {fd : FuncData} (F : Fun K "steps_if_it_stays" "steps_if_it_stays" sStay f fd) : FnOk P w K mg base CX0 1 f fd ["row", "asked"] (spStay K) := by
  refine F.ok scStay (fun vs H Q E h => ?_) (fun cdv A outer s H vs Q E hr h => ?_)
  · obtain ⟨l, k, r, a, rfl, _⟩ := h
    rfl
  · obtain ⟨l, k, r, a, rfl, hl, hk, ha, q⟩ := h
    refine ⟨_, pss_cons (ps_set (i := 2) scStay.nd rfl (Or.inl rfl) pe_int)
      (pss_cons (ps_for PassesOwn.never rfl (pi_list (pv 1)) (pg_name (i := 3) scStay.nd rfl (Or.inl rfl))
        (pss_one (ps_aug (i := 2) scStay.nd rfl (Or.inl rfl) (pe_op op_add (pe_bm PySem.F.plainAttrs_list PySem.F.slot_list_index PySem.F.type_list_index mt_index (pv 0) (pa_cons (pv 3) pa_nil)) pe_int) ip_add)))
      (pss_one (ps_ret (pv 2)))), ?_⟩
    refine ⟨_, rfl, k, rfl, ⟨_, hk⟩, for_list (K := K) (a := k) (xs := nV a) (fun i σ H' => ∃ v : Option V, σ = [some (.ref l), some (.ref k), some (.int ((Si88.fixed r (a.take i) : Nat) : Int)), v] ∧ H' = H) ⟨none, rfl, rfl⟩ (fun i σ H' _ ⟨_, _, e⟩ => e ▸ hk) ?_ ?_⟩
    · rintro i y σ H' hi ⟨v, rfl, rfl⟩
      obtain ⟨t, ht, rfl⟩ := nV_get hi
      refine ⟨_, rfl, _, rfl, .inl ⟨rfl, _, hl⟩, _, rfl, ?_⟩
      dsimp only [tNil]
      refine index_nat hl (ha t (List.mem_of_getElem? ht)) ?_
      refine ⟨_, _, rfl, rfl, _, _, rfl, rfl, some (.int (t : Int)), ?_, rfl⟩
      rw [take_more ht, fixed_snoc]
      have e : ((Si88.fixed r (a.take i) : Nat) : Int) + ((((Si88.steps r t : Nat) : Int) - 1) + 1) = ((Si88.fixed r (a.take i) + Si88.steps r t : Nat) : Int) := by omega
      rw [← e]
      rfl
    · rintro σ H' ⟨v, rfl, rfl⟩
      refine ⟨_, rfl, ?_⟩
      have e : a.take (nV a).length = a := by
        unfold nV
        rw [List.length_map, List.take_length]
      rw [e]
      exact q
end
end Cr

/-! Rules of my own. Dicts whose keys are rows or pairs of rows, as things of the reader's own (HO.ext); tuples of which it is known that they bear no dict (so that t.index(x) can be called), held as known objects (HO.frz). -/
namespace Cr
open PySem PySem.Spec PyProof.Rows L2
/-! ### kinds of keys -/
/-- what is no tuple -/
def NoTup (u : HO) : Prop := (∀ l, u ≠ .tup l) ∧ ∀ o l, u ≠ .frz o (.tup l)
theorem rd_off {H : Hp} {b d : Addr} {l : List V} {u o : HO} (hd : H d = some u) (nt : NoTup u) (r : Rd H b (.tup l)) : Rd (upd H d o) b (.tup l) := by
  rcases r with r | ⟨ob, r⟩
  · exact .inl (by rw [upd_ne (fun e => nt.1 l (by rw [e, hd] at r; exact Option.some.inj r))]; exact r)
  · exact .inr ⟨ob, by rw [upd_ne (fun e => nt.2 ob l (by rw [e, hd] at r; exact Option.some.inj r))]; exact r⟩
theorem rd_same {H H' : Hp} {b : Addr} {u : HO} (r : Rd H b u) (s : Same H H') : Rd H' b u := by
  rcases r with r | ⟨ob, r⟩
  · exact .inl (s _ _ r)
  · exact .inr ⟨ob, s _ _ r⟩
structure KeyTy (κ : Type) where
  nk : κ → NestedKey
  At : Hp → Addr → κ → Prop
  inj : ∀ {a b : κ}, nk a = nk b → a = b
  same : ∀ {H H' : Hp} {b : Addr} {k : κ}, At H b k → Same H H' → At H' b k
  off : ∀ {H : Hp} {d b : Addr} {u o : HO} {k : κ}, H d = some u → NoTup u → At H b k → At (upd H d o) b k
  is : ∀ {P : Program} {w : World} {H : Hp} {h : Heap} {b : Addr} {k : κ}, HOk P w H h → At H b k → (nestedKind P w).is h (nk k) b
theorem num_list : ∀ {a b : List Nat}, (a.map fun n : Nat => NestedKey.num (n : Int)) = (b.map fun n : Nat => NestedKey.num (n : Int)) → a = b
  | [], [], _ => rfl
  | [], _ :: _, h => by cases h
  | _ :: _, [], h => by cases h
  | x :: a, y :: b, h => by
    rw [List.map_cons, List.map_cons] at h
    injection h with h1 h2
    injection h1 with h1
    rw [Int.ofNat_inj.mp h1, num_list h2]
theorem num_depth : ∀ l : List Nat, NestedKey.depthAll (l.map fun n : Nat => NestedKey.num (n : Int)) = 0
  | [] => rfl
  | n :: l => by
    show max (NestedKey.depth (.num (n : Int))) (NestedKey.depthAll (l.map fun n : Nat => NestedKey.num (n : Int))) = 0
    rw [num_depth l]
    rfl
def nkR (r : List Nat) : NestedKey := .tup (r.map fun n : Nat => NestedKey.num (n : Int))
theorem nkR_inj {a b : List Nat} (h : nkR a = nkR b) : a = b := by
  unfold nkR at h
  injection h with h
  exact num_list h
theorem num_all {h : Heap} : ∀ {l : List Nat} {us : List Value}, Vals (nV l) us → NestedAll h (l.map fun n : Nat => NestedKey.num (n : Int)) us
  | [], _, r => by
    cases r
    exact .nil
  | n :: l, _, r => by
    have r' : Vals (V.int (n : Int) :: nV l) _ := r
    cases r' with
    | cons a t =>
      obtain ⟨t0, rfl⟩ := a
      exact .cons (.int _ _) (num_all t)
theorem tup_here {P : Program} {w : World} {H : Hp} {h : Heap} {b : Addr} {l : List V} (ok : HOk P w H h) (r : Rd H b (.tup l)) : ∃ us o n, Vals l us ∧ h.get? b = some o ∧ o.cls = .type "tuple" ∧ o.data = .seq us.toArray n := by
  obtain ⟨_, us, v, o, g1, g2, n, g3⟩ := (show ObjOk P w H h b (.tup l) from r.ok ok)
  exact ⟨us, o, n, v, g1, g2, g3⟩
theorem row_key {P : Program} {w : World} {H : Hp} {h : Heap} {b : Addr} {l : List Nat} (ok : HOk P w H h) (r : Rd H b (.tup (nV l))) : NestedIs h (nkR l) (.ref b) := by
  obtain ⟨us, o, n, v, g1, g2, g3⟩ := tup_here ok r
  exact .tup g1 g2 g3 (by simpa using num_all v)
/-- a row -/
def TR : KeyTy (List Nat) where
  nk := nkR
  At := fun H b r => Rd H b (.tup (nV r))
  inj := nkR_inj
  same := rd_same
  off := rd_off
  is := fun {P w H h b k} ok r => ⟨row_key ok r, by
    unfold nkR
    simp only [NestedKey.depth, num_depth]
    decide⟩
/-- a pair of rows -/
def TP : KeyTy (List Nat × List Nat) where
  nk := fun k => .tup [nkR k.1, nkR k.2]
  At := fun H b k => ∃ p q, Rd H b (.tup [.ref p, .ref q]) ∧ Rd H p (.tup (nV k.1)) ∧ Rd H q (.tup (nV k.2))
  inj := fun {a b} h => by
    injection h with h
    injection h with h1 h2
    injection h2 with h2 _
    exact Prod.ext (nkR_inj h1) (nkR_inj h2)
  same := fun ⟨p, q, h1, h2, h3⟩ s => ⟨p, q, rd_same h1 s, rd_same h2 s, rd_same h3 s⟩
  off := fun hd nt ⟨p, q, h1, h2, h3⟩ => ⟨p, q, rd_off hd nt h1, rd_off hd nt h2, rd_off hd nt h3⟩
  is := fun {P w H h b k} ok ⟨p, q, h1, h2, h3⟩ => by
    obtain ⟨us, o, n, v, g1, g2, g3⟩ := tup_here ok h1
    cases v with
    | cons v1 v =>
      cases v with
      | cons v2 v =>
        cases v
        cases v1
        cases v2
        refine ⟨.tup g1 g2 g3 (.cons (row_key ok h2) (.cons (row_key ok h3) .nil)), ?_⟩
        unfold nkR
        simp only [NestedKey.depth, NestedKey.depthAll, num_depth]
        decide
/-! ### the dict -/
/-- its own object, by its entries -/
def rawD (P : Program) (w : World) (d : Addr) (xs : List (NestedKey × Addr × Value)) : Heap → Prop := fun h =>
  ∃ o es ep, h.get? d = some o ∧ o.ExactDict ∧ o.data = .dict es ep ∧ es.toList = xs.map (entryOfKey (nestedKind P w)) ∧ (xs.map (·.1)).Nodup
section
variable {κ : Type}
abbrev KR (T : KeyTy κ) (H : Hp) : List (κ × V) → List (NestedKey × Addr × Value) → Prop := Paired fun p q => q.1 = T.nk p.1 ∧ T.At H q.2.1 p.1 ∧ RelV p.2 q.2.2
/-- u is how a dict with these keys and values is held -/
structure RD (T : KeyTy κ) (P : Program) (w : World) (H : Hp) (d : Addr) (u : HO) (kvs : List (κ × V)) : Prop where
  ex : ∃ xs, u = .ext (rawD P w d xs) ∧ KR T H kvs xs
  sz : kvs.length ≤ sizeLine
  sys : (d == sysModules) = false
variable {T : KeyTy κ} {P : Program} {w : World} {H H' : Hp} {h : Heap} {d : Addr} {u o : HO} {kvs : List (κ × V)} {xs : List (NestedKey × Addr × Value)}
theorem KR.same (r : KR T H kvs xs) (s : Same H H') : KR T H' kvs xs := Paired.mapP r fun _ _ z => ⟨z.1, T.same z.2.1 s, z.2.2⟩
theorem KR.off (hd : H d = some u) (nt : NoTup u) (r : KR T H kvs xs) : KR T (upd H d o) kvs xs := Paired.mapP r fun _ _ z => ⟨z.1, T.off hd nt z.2.1, z.2.2⟩
theorem RD.same (D : RD T P w H d u kvs) (s : Same H H') : RD T P w H' d u kvs := by
  obtain ⟨xs, h1, h2⟩ := D.ex
  exact ⟨⟨xs, h1, KR.same h2 s⟩, D.sz, D.sys⟩
theorem RD.off {e : Addr} {z y : HO} (D : RD T P w H d u kvs) (he : H e = some z) (nt : NoTup z) : RD T P w (upd H e y) d u kvs := by
  obtain ⟨xs, h1, h2⟩ := D.ex
  exact ⟨⟨xs, h1, KR.off he nt h2⟩, D.sz, D.sys⟩
theorem RD.notup (D : RD T P w H d u kvs) : NoTup u := by
  obtain ⟨xs, rfl, _⟩ := D.ex
  exact ⟨fun _ z => (nomatch z), fun _ _ z => (nomatch z)⟩
theorem RD.notupF (D : RD T P w H d u kvs) (ob : Obj) : NoTup (.frz ob u) := by
  obtain ⟨xs, rfl, _⟩ := D.ex
  exact ⟨fun _ z => (nomatch z), fun _ _ z => (nomatch z)⟩
theorem RD.mut (D : RD T P w H d u kvs) : Mut (some u) := by
  obtain ⟨xs, rfl, _⟩ := D.ex
  exact True.intro
theorem raw_held (e : rawD P w d xs h) : ObjOk P w H h d (.ext (rawD P w d xs)) :=
  ⟨e, let ⟨o, _, _, ho, _⟩ := e; ⟨o, ho⟩, fun _ _ ⟨o, es, ep, ho, r⟩ k => ⟨o, es, ep, k _ ho, r⟩⟩
theorem raw_of (m : h.DictOfH (nestedKind P w) d xs) : rawD P w d xs h := let ⟨o, es, ep, h1, h2, h3, h4, _, h5⟩ := m; ⟨o, es, ep, h1, h2, h3, h4, h5⟩
theorem keys_held (ok : HOk P w H h) (r : KR T H kvs xs) : ∀ x ∈ xs, (nestedKind P w).is h x.1 x.2.1 := by
  induction r with
  | nil => exact fun x hx => nomatch hx
  | @cons p q ps qs hq t ih =>
    intro x hx
    rcases List.mem_cons.mp hx with rfl | hx
    · rw [hq.1]
      exact T.is ok hq.2.1
    · exact ih x hx
theorem RD.dict (D : RD T P w H d u kvs) (ok : HOk P w H h) (hd : Rd H d u) : ∃ xs, u = .ext (rawD P w d xs) ∧ KR T H kvs xs ∧ h.DictOfH (nestedKind P w) d xs := by
  obtain ⟨xs, rfl, r⟩ := D.ex
  obtain ⟨⟨o, es, ep, g1, g2, g3, g4, g5⟩, _⟩ := (show ObjOk P w H h d (.ext (rawD P w d xs)) from hd.ok ok)
  exact ⟨xs, rfl, r, o, es, ep, g1, g2, g3, g4, keys_held ok r, g5⟩
variable [DecidableEq κ]
theorem KR.val (r : KR T H kvs xs) (k : κ) : RelO (valV kvs k) ((atKey xs (T.nk k)).map (·.2)) := by
  induction r with
  | nil => exact True.intro
  | @cons p q ps qs z t ih =>
    by_cases e : p.1 = k
    · have e' : q.1 = T.nk k := by rw [z.1, e]
      have b : atKey (q :: qs) (T.nk k) = some q.2 := by simp [atKey, e']
      rw [valV_pos e, b]
      exact z.2.2
    · have e' : ¬ q.1 = T.nk k := fun y => e (T.inj (z.1.symm.trans y))
      have b : atKey (q :: qs) (T.nk k) = atKey qs (T.nk k) := by simp [atKey, e']
      rw [valV_neg e, b]
      exact ih
theorem KR.repl (r : KR T H kvs xs) (k : κ) {y : V} {v : Value} (ry : RelV y v) : KR T H (kvs.map fun kv => if kv.1 = k then (kv.1, y) else kv) (xs.map (putAt (T.nk k) v)) := by
  induction r with
  | nil => exact .nil
  | @cons p q ps qs z t ih =>
    rw [List.map_cons, List.map_cons]
    refine .cons ?_ ih
    unfold putAt
    by_cases e : p.1 = k
    · rw [if_pos e, if_pos (by rw [z.1, e])]
      exact ⟨z.1, z.2.1, ry⟩
    · rw [if_neg e, if_neg (fun y => e (T.inj (z.1.symm.trans y)))]
      exact z
theorem KR.put (r : KR T H kvs xs) (k : κ) {b : Addr} {y : V} {v : Value} (hb : T.At H b k) (ry : RelV y v) : KR T H (putK kvs k y) (storedH xs (T.nk k) b v) := by
  have e : (kvs.any fun kv => decide (kv.1 = k)) = (atKey xs (T.nk k)).isSome := by rw [valV_any, (r.val k).isSome_eq, Option.isSome_map]
  unfold putK storedH
  rw [e]
  by_cases q : (atKey xs (T.nk k)).isSome = true
  · rw [if_pos q, if_pos q]
    exact r.repl k ry
  · rw [if_neg q, if_neg q]
    exact Paired.snoc r ⟨rfl, hb, ry⟩
end
/-! ### its rules -/
theorem deep_room {A : Around} (hu : A.units + 64 < cLine) {P : Program} {w : World} : (nestedKind P w).room A.in1 := by
  show A.units + 1 + 8 < cLine
  omega
section
variable {κ : Type} [DecidableEq κ]
def tDNewR (T : KeyTy κ) (P : Program) (w : World) : TE := fun _ H Q => ∀ p u, H p = none → RD T P w (upd H p u) p u [] → Q (.ref p) (upd H p u)
def tDGetR (T : KeyTy κ) (P : Program) (w : World) (td ty : TE) : TE := fun σ H Q => td σ H fun x H1 => ty σ H1 fun y H2 => ∃ d b u kvs k v, x = .ref d ∧ y = .ref b ∧ Rd H2 d u ∧ RD T P w H2 d u kvs ∧ T.At H2 b k ∧ valV kvs k = some v ∧ Q v H2
def tDGet2R (T : KeyTy κ) (P : Program) (w : World) (td ty tx : TE) : TE := fun σ H Q => td σ H fun x H1 => ∃ d u kvs, x = .ref d ∧ Rd H1 d u ∧ RD T P w H1 d u kvs ∧ ty σ H1 fun y H2 => tx σ H2 fun z H3 => ∃ b u' kvs' k, y = .ref b ∧ Rd H3 d u' ∧ RD T P w H3 d u' kvs' ∧ T.At H3 b k ∧ Q ((valV kvs' k).getD z) H3
def sDPutR (T : KeyTy κ) (P : Program) (w : World) (td ty tv : TE) : TS := fun D σ H => tv σ H fun v H1 => td σ H1 fun x H2 => ty σ H2 fun y H3 => ∃ d b u kvs k, x = .ref d ∧ y = .ref b ∧ H3 d = some u ∧ RD T P w H3 d u kvs ∧ T.At H3 b k ∧ kvs.length < sizeLine ∧
  ∀ u', RD T P w (upd H3 d u') d u' (putK kvs k v) → D.nx σ (upd H3 d u')
def tDispR (T : KeyTy κ) (P : Program) (w : World) (tk tv : TE) : TE := fun σ H Q => ∀ p u, H p = none → RD T P w (upd H p u) p u [] → tk σ (upd H p u) fun x H1 => tv σ H1 fun y H2 => ∃ b k, x = .ref b ∧ H2 p = some u ∧ T.At H2 b k ∧
  ∀ u', RD T P w (upd H2 p u') p u' [(k, y)] → Q (.ref p) (upd H2 p u')
variable {T : KeyTy κ} {X : Cx} {o i value e f : Expr} {pos pos' apos cpos : Pos} {td ty tv tx : TE}
theorem new_dict {pins : List (Addr × Obj)} {σ : L2.St} {H : Hp} {s : Shared} (I : Inv X pins σ H s) : ∃ u, Inv X pins σ (upd H s.heap.objs.size u) { s with heap := s.heap.push { cls := .type "dict", data := .dict #[] } } ∧ RD T X.prog X.w (upd H s.heap.objs.size u) s.heap.objs.size u [] :=
  ⟨.ext (rawD X.prog X.w s.heap.objs.size []), I.laid (t' := s.toks) (fun _ _ q => Heap.get?_push_of_some _ q) (Nat.le_refl _) (raw_held (raw_of (Heap.DictOfH.new s.heap))), ⟨[], rfl, .nil⟩, Nat.zero_le _, beq_eq_false_iff_ne.mpr (Nat.ne_of_gt I.big)⟩
theorem pe_dnewR : PE X (.Dict [] [] pos) (tDNewR T X.prog X.w) := ⟨fun pins s σ H Q I h => by
  obtain ⟨u, I', D⟩ := new_dict (T := T) I
  exact wpAny_Dict_empty ⟨.ref _, _, I', rfl, h _ _ (I.hok.fresh (Nat.le_refl _)) D⟩⟩
theorem pe_dgetR (hu : X.A.units + 64 < cLine) (ho : PE X o td) (hi : PE X i ty) (hs : NoSl i) : PE X (.Subscript o i pos) (tDGetR T X.prog X.w td ty) := by
  refine ⟨fun pins s σ H Q I h => subD_of PySem.F.slot_dict_getitem.lookup hs (thn (ho.run pins s σ H _ I h) fun a s1 ⟨x, H1, I1, rx, q1⟩ => thn (hi.run pins s1 σ H1 _ I1 q1) fun c s2 ⟨y, H2, I2, ry, d, b, u, kvs, k, v, ex, ey, hd, D, at', hv, q2⟩ => ?_)⟩
  subst ex ey
  obtain rfl : a = Value.ref d := rx
  obtain rfl : c = Value.ref b := ry
  obtain ⟨xs, _, rel, m⟩ := D.dict I2.hok hd
  obtain ⟨v', hv', rv'⟩ := RelO.some_of (v := v) (o := (atKey xs (T.nk k)).map (·.2)) (by rw [← hv]; exact rel.val k)
  obtain ⟨p, hp, rfl⟩ := Option.map_eq_some_iff.mp hv'
  exact ⟨m.typeIs, wpAny_getItem_heap (deep_room hu) (T.is I2.hok at') m hp ⟨v, H2, I2.tok _, rv', q2⟩⟩
theorem pe_dget2R (hu : X.A.units + 64 < cLine) (ho : PE X o td) (he : PE X e ty) (hf : PE X f tx) (m : M2 X o "get" apos e f cpos) : PE X (.Call (.Attribute o "get" apos) [e, f] [] cpos) (tDGet2R T X.prog X.w td ty tx) := by
  refine ⟨fun pins s σ H Q I h => ?_⟩
  refine wpAny_Call_method m.base m.few m.line PySem.F.plainAttrs_dict PySem.F.slot_dict_get PySem.F.type_dict_get (thn (ho.run pins s σ H _ I h) fun a s1 ⟨x, H1, I1, rx, d, u, kvs, ex, hd, D, q1⟩ => ?_)
  subst ex
  obtain rfl : a = Value.ref d := rx
  obtain ⟨_, _, _, m1⟩ := D.dict I1.hok hd
  refine ⟨m1.typeIs, fun b e => ?_, ?_⟩
  · cases e
    obtain ⟨ob, _, _, g1, g2, _⟩ := m1
    exact ⟨ob, g1, g2.2.1⟩
  rw [m.trees]
  refine Calls.callWith_builtin rfl (Calls.evalArgs_plain (Calls.spliced_cons (thn (he.run pins s1 σ H1 _ I1 q1) fun c s2 ⟨y, H2, I2, ry, q2⟩ => Calls.spliced_cons (thn (hf.run pins s2 σ H2 _ I2 q2) fun g s3 ⟨z, H3, I3, rz, b, u', kvs', k, ey, hd3, D3, at', q3⟩ => Calls.spliced_nil ?_))))
  subst ey
  obtain rfl : c = Value.ref b := ry
  obtain ⟨xs, _, rel, m3⟩ := D3.dict I3.hok hd3
  refine call_meetsIn PySem.F.slot_dict_get m3.typeIs PySem.F.entry_dict_get (PySem.F.args_dict_get_3 _ _ _) (meetsH_dict_get_default (nestedKind X.prog X.w) d b D3.sys g) ⟨deep_room hu, T.nk k, xs, T.is I3.hok at', m3, _, H3, I3.tok _, ?_, q3⟩
  exact (rel.val k).getD rz
theorem ps_dputR (hu : X.A.units + 64 < cLine) (ho : PE X o td) (hi : PE X i ty) (hv : PE X value tv) (hs : swapsWith value (some (.Subscript o i pos')) pos.line X.env = pure false) : PS X (.Assign [.Subscript o i pos'] value pos) (sDPutR T X.prog X.w td ty tv) := by
  refine ⟨fun pins s σ H D I h => wpAny_Assign_Subscript (thn (hv.run pins s σ H _ I h) fun g s1 ⟨v, H1, I1, rv, q1⟩ => thn (ho.run pins s1 σ H1 _ I1 q1) fun a s2 ⟨x, H2, I2, rx, q2⟩ => thn (hi.run pins s2 σ H2 _ I2 q2) fun c s3 ⟨y, H3, I3, ry, d, b, u, kvs, k, ex, ey, hd, N, at', hl, q3⟩ => ?_) hs⟩
  subst ex ey
  obtain rfl : a = Value.ref d := rx
  obtain rfl : c = Value.ref b := ry
  obtain ⟨xs, eu, rel, m⟩ := N.dict I3.hok (.inl hd)
  refine wpAny_setItem_heap (hsz := by rw [← Paired.length rel]; exact N.sz) (deep_room hu) (T.is I3.hok at') m fun h' m' sb => ?_
  obtain ⟨ob, _, _, hob, _⟩ := id m'
  refine ⟨σ, _, d_write (ob := .ext (rawD X.prog X.w d (storedH xs (T.nk k) b g))) I3 (by rw [hd]; exact N.mut) sb ⟨ob, hob⟩ (raw_held (raw_of m')), q3 _ ⟨⟨_, rfl, KR.off hd N.notup (rel.put k at' rv)⟩, ?_, N.sys⟩⟩
  have := length_putK kvs k v
  omega
/-- a display of one pair -/
theorem pe_dispR (hu : X.A.units + 64 < cLine) (hk : PE X e ty) (hv : PE X f tv) : PE X (.Dict [some e] [f] pos) (tDispR T X.prog X.w ty tv) := by
  refine ⟨fun pins s σ H Q I h => ?_⟩
  obtain ⟨u, I1, D⟩ := new_dict (T := T) I
  rw [arm_eval_Dict, zip_pairTrees [some e] [f] X.env pos rfl rfl, dictDisplay_pairs (pairTrees [some e] [f] X.env pos) (by intro z; cases z) (by show 1 < 17; decide)]
  refine wpAny_bind (wpAny_standAt (wpAny_bind (wpAny_subDictH (knd := nestedKind X.prog X.w) (by show X.A.units + 8 < cLine; omega) (by show 1 ≤ 15; decide) ?_)))
  refine pairTrees_cons_walk (thn (hk.run pins _ σ _ _ I1 (h _ _ (I.hok.fresh (Nat.le_refl _)) D)) fun a s1 ⟨x, H1, I2, rx, q1⟩ => thn (hv.run pins s1 σ H1 _ I2 q1) fun c s2 ⟨y, H2, I3, ry, b, k, ex, hp, at', q2⟩ => pairTrees_nil_walk ?_)
  subst ex
  obtain rfl : a = Value.ref b := rx
  obtain ⟨xs, eu, r0⟩ := D.ex
  cases r0
  have D2 : RD T X.prog X.w H2 s.heap.objs.size u [] := ⟨⟨[], eu, .nil⟩, D.sz, D.sys⟩
  obtain ⟨xs, eu', r0, m⟩ := D2.dict I3.hok (.inl hp)
  cases r0
  refine ⟨[(T.nk k, b, c)], ⟨rfl, rfl, T.is I3.hok at', True.intro⟩, m, fun h' tk m' sb => wpAny_pure ?_⟩
  have m2 : h'.DictOfH (nestedKind X.prog X.w) s.heap.objs.size [(T.nk k, b, c)] := m'
  obtain ⟨ob, _, _, hob, _⟩ := id m2
  exact ⟨.ref _, _, d_write (ob := .ext (rawD X.prog X.w s.heap.objs.size [(T.nk k, b, c)])) I3 (by rw [hp]; exact D.mut) sb ⟨ob, hob⟩ (raw_held (raw_of m2)), rfl, q2 _ ⟨⟨_, rfl, .cons ⟨rfl, T.off hp D.notup at', ry⟩ .nil⟩, by show 1 ≤ sizeLine; decide, D.sys⟩⟩
end
/-! ### its keys, walked while it is locked -/
section
variable {κ : Type}
def ItR (T : KeyTy κ) (P : Program) (w : World) (d : Addr) (ob : Obj) (u : HO) (kvs : List (κ × V)) : It :=
  ⟨fun i H => H d = some (.frz ob u) ∧ RD T P w H d u kvs ∧ i < kvs.length, fun i H x H' => H' = H ∧ ∃ k v b, kvs[i]? = some (k, v) ∧ x = .ref b ∧ T.At H b k, fun i H => H d = some (.frz ob u) ∧ RD T P w H d u kvs ∧ kvs.length ≤ i⟩
theorem KR.get {T : KeyTy κ} {H : Hp} {kvs : List (κ × V)} {xs : List (NestedKey × Addr × Value)} (r : KR T H kvs xs) : ∀ {i : Nat} {k : κ} {v : V}, kvs[i]? = some (k, v) → ∃ y, xs[i]? = some y ∧ T.At H y.2.1 k ∧ RelV v y.2.2 := by
  induction r with
  | nil =>
    intro i k v e
    simp at e
  | @cons p q ps qs z t ih =>
    intro i k v e
    cases i with
    | zero =>
      have e' : p = (k, v) := Option.some.inj e
      subst e'
      exact ⟨q, rfl, z.2.1, z.2.2⟩
    | succ i => exact ih (by simpa using e)
variable {T : KeyTy κ} {P : Program} {w : World} {K : PySem.W.Frag} {tg : Expr} {d : Addr} {ob : Obj} {u : HO} {kvs : List (κ × V)} {es : Array DictEntry} {ep : Nat}
/-- what is known of the locked one -/
theorem locked {H : Hp} {h : Heap} (D : RD T P w H d u kvs) (ok : HOk P w H h) (hd : H d = some (.frz ob u)) : h.get? d = some ob ∧ ob.ExactDict ∧ ∃ es ep, ob.data = .dict es ep ∧ es.size = kvs.length ∧
    ∀ (i : Nat) (k : κ) (v : V), kvs[i]? = some (k, v) → ∃ en b, es[i]? = some en ∧ en.key = .ref b ∧ T.At H b k := by
  have hob : h.get? d = some ob := (ok d _ hd).1
  obtain ⟨xs, rfl, r, m⟩ := D.dict ok (.inr ⟨ob, hd⟩)
  obtain ⟨o', es, ep, g1, g2, g3, g4, g5, _⟩ := m
  rw [hob] at g1
  cases g1
  refine ⟨hob, g2, es, ep, g3, (size_of_entries g4).trans (Paired.length r).symm, fun i k v e => ?_⟩
  obtain ⟨y, hy, a, _⟩ := r.get e
  have q := entry_at g4 i
  rw [hy] at q
  exact ⟨_, y.2.1, q, rfl, a⟩
theorem turn_keysR (it : Addr) (hdt : ob.data = .dict es ep) : Turn P w K tg (ItR T P w d ob u kvs) [it] it (fun i h => h.IsKeyIter it d i kvs.length ep) where
  mem := List.mem_singleton.mpr rfl
  obj := fun i h st b hb => by
    obtain rfl : b = it := List.mem_singleton.mp hb
    obtain ⟨oi, e, _, dd⟩ := st
    exact ⟨oi, e, fun v z => by rw [dd] at z; cases z⟩
  keep := fun i h h' st k => st.at fun oi e => k it (List.mem_singleton.mpr rfl) oi e
  item := by
    rintro X rfl rfl rfl hc i pins s σ H E I hf st ⟨hd, D, hi⟩
    obtain ⟨f0, f1, f2, f3, f4, f5⟩ := hf it (List.mem_singleton.mpr rfl)
    obtain ⟨hob, _, es', ep', hdt', hsz, ent⟩ := locked D I.hok hd
    obtain ⟨rfl, rfl⟩ := dict_ep hdt hdt'
    obtain ⟨k, v, hkv⟩ : ∃ k v, kvs[i]? = some (k, v) := ⟨kvs[i].1, kvs[i].2, List.getElem?_eq_getElem hi⟩
    obtain ⟨en, b, hen, hkey, ha⟩ := ent i k v hkv
    refine next_key_item st hob hdt hsz hen fun h' st' sb => ?_
    have I' : Inv X pins σ H { s with heap := h' } := I.turned (t' := s.toks) (fun c oc hc' e => (sb.2 c hc').trans e) f0 f1 f3 f4 f5
    obtain ⟨oi, e1, e2, e3⟩ := id st'
    exact ⟨_, rfl, go_of (s := { s with heap := h' }) e1 e2 e3 (by decide) ⟨.ref b, H, I', hkey, ⟨rfl, k, v, b, hkv, rfl, ha⟩, st', fun c hc' => (hf c hc').1⟩⟩
  done := by
    rintro X rfl rfl rfl hc i pins s σ H E I hf st ⟨hd, D, hi⟩
    obtain ⟨f0, f1, f2, f3, f4, f5⟩ := hf it (List.mem_singleton.mpr rfl)
    obtain ⟨hob, _, es', ep', hdt', hsz, _⟩ := locked D I.hok hd
    obtain ⟨rfl, rfl⟩ := dict_ep hdt hdt'
    exact next_key_end (I.ok.hd hc) st hob hdt hsz hi fun h' eb => ⟨rfl, I.turned (t' := s.toks) (fun c oc hc' e => eb c oc hc' e) f0 f1 f3 f4 f5⟩
  self := fun A i s Q E st h => wpAny_pyIter_keyiter st h
def iKeysR (T : KeyTy κ) (P : Program) (w : World) (td : TE) : TI := fun σ H R => td σ H fun x H1 => ∃ d ob u kvs, x = .ref d ∧ H1 d = some (.frz ob u) ∧ RD T P w H1 d u kvs ∧ R (ItR T P w d ob u kvs) H1
theorem pi_keysR {X : Cx} {e : Expr} {td : TE} (he : PE X e td) : PI X tg e (iKeysR T X.prog X.w td) := by
  refine ⟨fun pins s σ H R I h => thn (he.run pins s σ H _ I h) fun a s1 ⟨x, H1, I1, rx, d, ob, u, kvs, ex, hd, D, q⟩ => ?_⟩
  subst ex
  obtain rfl : a = Value.ref d := rx
  obtain ⟨hob, hx, es, ep, hdt, hsz, _⟩ := locked D I1.hok hd
  refine iter_keys D.sys hob hx hdt (pi_one (tk := s1.toks) I1 _ (turn_keysR _ hdt) ⟨_, Heap.get?_push_size _ rfl, rfl, ?_⟩ q)
  rw [hsz]
  rfl
theorem walk_keysR : Walk (ItR T P w d ob u kvs) kvs.length (fun H => H d = some (.frz ob u) ∧ RD T P w H d u kvs) (fun i H x H' => H' = H ∧ ∃ k v b, kvs[i]? = some (k, v) ∧ x = .ref b ∧ T.At H b k) :=
  ⟨fun _ _ hi q => ⟨q.1, q.2, hi⟩, fun _ q => ⟨q.1, q.2, Nat.le_refl _⟩, fun _ _ _ _ _ _ y => y⟩
end
end Cr

/-! Tuples that are known to bear no dict: made, put together, asked for a thing's place. The least of a dict's values. -/
namespace Cr
open PySem PySem.Spec PyProof.Rows L2
/-- a tuple without a dict of its own -/
def TupF (H : Hp) (b : Addr) (l : List V) : Prop := ∃ ob : Obj, H b = some (.frz ob (.tup l)) ∧ ob.dict = none
theorem TupF.rd {H : Hp} {b : Addr} {l : List V} (t : TupF H b l) : Rd H b (.tup l) := let ⟨ob, h, _⟩ := t; .inr ⟨ob, h⟩
theorem TupF.same {H H' : Hp} {b : Addr} {l : List V} (t : TupF H b l) (s : Same H H') : TupF H' b l := let ⟨ob, h, e⟩ := t; ⟨ob, s _ _ h, e⟩
theorem TupF.off {H : Hp} {b d : Addr} {l : List V} {u o : HO} (t : TupF H b l) (hd : H d = some u) (nt : NoTup u) : TupF (upd H d o) b l := by
  obtain ⟨ob, h, e⟩ := t
  refine ⟨ob, ?_, e⟩
  rw [upd_ne (fun z => nt.2 ob l (by rw [z, hd] at h; exact Option.some.inj h))]
  exact h
theorem TupF.new {H : Hp} {p : Addr} {ob : Obj} {l : List V} (e : ob.dict = none) : TupF (upd H p (.frz ob (.tup l))) p l := ⟨ob, upd_same, e⟩
def tTupF (t : TA) : TE := fun σ H Q => t σ H fun xs H1 => xs.length ≤ sizeLine ∧ ∀ p ob, H1 p = none → ob.dict = none → Q (.ref p) (upd H1 p (.frz ob (.tup xs)))
def rCatF (K : PySem.W.Frag) : V → V → Hp → VK → Prop := fun x y H Q => ∃ a b xs ys, x = .ref a ∧ y = .ref b ∧ SqT K H a xs ∧ SqT K H b ys ∧ xs.length + ys.length ≤ sizeLine ∧ ys ≠ [] ∧
  (xs = [] → Q (.ref b) H) ∧ (xs ≠ [] → ∀ p ob, H p = none → ob.dict = none → Q (.ref p) (upd H p (.frz ob (.tup (xs ++ ys)))))
section
variable {X : Cx} {es : List Expr} {t : TA} {pos : Pos}
theorem laid_tup {pins : List (Addr × Obj)} {σ : L2.St} {H : Hp} {s : Shared} {xs : List V} {us : List Value} {n t' : Nat} (I : Inv X pins σ H s) (r : Vals xs us) (z : xs.length ≤ sizeLine) :
    Inv X pins σ (upd H s.heap.objs.size (.frz { cls := .type "tuple", data := .seq us.toArray n } (.tup xs))) { s with heap := s.heap.push { cls := .type "tuple", data := .seq us.toArray n }, toks := t' } :=
  I.laid (fun _ _ e => Heap.get?_push_of_some _ e) (Nat.le_refl _) ⟨Heap.get?_push_size _ rfl, z, us, r, _, Heap.get?_push_size _ rfl, rfl, _, rfl⟩
theorem pe_tupF {x1} (h : PA X es t) : PE X (.Tuple es x1 pos) (tTupF t) := by
  refine ⟨fun pins s σ H Q I hq => wpAny_Tuple_spliced (thn (h.run pos pins s σ H _ I hq) fun us s1 ⟨xs, H1, I1, r, z, q⟩ => ⟨by rw [← r.length]; exact z, ?_⟩)⟩
  exact ⟨.ref _, _, laid_tup (t' := s1.toks) I1 r z, rfl, q _ _ (I1.hok.fresh (Nat.le_refl _)) rfl⟩
theorem op_catF : OpR X (binaryOp .Add) (rCatF X.K) := by
  intro pins s σ H x y v u Q I rx ry h
  obtain ⟨a, b, xs, ys, rfl, rfl, ha, hb, hz, hy, q0, q1⟩ := h
  cases rx
  cases ry
  obtain ⟨us, r1, p1, _⟩ := I.tuple ha
  obtain ⟨us2, r2, p2, _⟩ := I.tuple hb
  by_cases hx : xs = []
  · subst hx
    cases r1
    exact cat_tup0 p1 p2 ⟨.ref b, H, I, rfl, q0 rfl⟩
  · refine HT.cat_tup p1 p2 (fun z => hx (r1.nil_iff.mp z)) (fun z => absurd (r2.nil_iff.mp z) hy) (fun _ => ?_) (by rw [← r1.length, ← r2.length]; exact hz)
    exact ⟨.ref _, _, laid_tup (t' := s.toks) I (r1.append r2) (by rw [List.length_append]; exact hz), rfl, q1 hx _ _ (I.hok.fresh (Nat.le_refl _)) rfl⟩
end
/-! ### t.index(x) -/
def rIxT (K : PySem.W.Frag) : V → List V → Hp → VK → Prop := fun x xs H Q => ∃ (a : Addr) (r : List Nat) (t : Nat), x = V.ref a ∧ xs = [.int (t : Int)] ∧ SqT K H a (nV r) ∧ t ∈ r ∧ Q (.int (((Si88.steps r t : Nat) : Int) - 1)) H
def tTIx (K : PySem.W.Frag) (to te : TE) : TE := fun σ H Q => to σ H fun x H1 => ∃ a l, x = .ref a ∧ TupF H1 a l ∧ te σ H1 fun y H2 => rIxT K (.ref a) [y] H2 Q
section
variable {X : Cx}
theorem eqU_nat {t m : Nat} {u : Value} (r : RelV (.int (m : Int)) u) : eqU (.int (t : Int)) u = decide (m = t) := by
  rw [eqU_of r rfl]
  exact eqV_nat
theorem mt_ixT : MtR X "tuple.index" (rIxT X.K) := by
  intro pins s σ H x xs v us Q I rx rxs h
  obtain ⟨a, r, t, rfl, rfl, hs, ht, q⟩ := h
  cases rx
  obtain ⟨k, rfl, rk⟩ := vals1 rxs
  obtain ⟨j, h1, h2⟩ := at_of_mem ht
  obtain ⟨its, rv, ⟨⟨cls, dd, data, sl⟩, ho, hc, n, hd⟩, _⟩ := I.tuple hs
  simp only at hc hd
  subst hc hd
  have at' : ∀ (m : Nat) (hm : m < its.toArray.size), ∃ w, r[m]? = some w ∧ RelV (.int (w : Int)) its.toArray[m] := fun m hm => by
    have e := rv.length
    have hm' : m < its.length := by simpa using hm
    unfold nV at e
    rw [List.length_map] at e
    have hr : r[m]? = some (r[m]'(by omega)) := List.getElem?_eq_getElem (by omega)
    obtain ⟨u, hu, ru⟩ := rv.get (nV_at hr)
    obtain ⟨_, he⟩ := List.getElem?_eq_some_iff.mp hu
    exact ⟨_, hr, by simpa [he] using ru⟩
  have hj : j < its.toArray.size := by
    have e := rv.length
    have := (List.getElem?_eq_some_iff.mp h1).1
    unfold nV at e
    rw [List.length_map] at e
    simpa using e ▸ this
  refine call_meets PySem.F.slot_tuple_index ⟨_, ho, rfl⟩ PySem.F.entry_tuple_index (PySem.F.args_tuple_index_2 _ _) (TI.tuple_indexAt a its.toArray n dd sl k (eqU (.int (t : Int))) j hj ?_ ?_)
    ⟨ho, fun u' hu' => mem_eqAt rk rfl rv (nV_flat r) u' (by simpa using hu'), .int (j : Nat), H, I.tok _, ⟨_, rfl⟩, ?_⟩
  · obtain ⟨w, hw, rw'⟩ := at' j hj
    rw [h1] at hw
    cases hw
    rw [eqU_nat rw']
    exact decide_eq_true rfl
  · intro m hm hmj
    obtain ⟨w, hw, rw'⟩ := at' m hm
    rw [eqU_nat rw']
    exact decide_eq_false fun e => h2 m hmj (e ▸ hw)
  · have e : ((Si88.steps r t : Nat) : Int) - 1 = (j : Int) := by rw [steps_at h1 h2]; omega
    rw [e] at q
    exact q
variable {o e : Expr} {to te : TE} {apos cpos : Pos}
theorem pe_tix (ho : PE X o to) (he : PE X e te) (m : M1 X o "index" apos e cpos) : PE X (.Call (.Attribute o "index" apos) [e] [] cpos) (tTIx X.K to te) := by
  refine ⟨fun pins s σ H Q I h => ?_⟩
  refine wpAny_Call_method m.base m.few m.line PySem.F.plainAttrs_tuple PySem.F.slot_tuple_index PySem.F.type_tuple_index (thn (ho.run pins s σ H _ I h) fun u s1 ⟨x, H1, I1, rx, a, l, ex, tf, q1⟩ => ?_)
  subst ex
  obtain rfl : u = Value.ref a := rx
  obtain ⟨ob, hb, hn⟩ := tf
  obtain ⟨gb, _, us, v, ob', g1, g2, _⟩ := (show ObjOk X.prog X.w H1 s1.heap a (.frz ob (.tup l)) from I1.hok a _ hb)
  refine ⟨⟨ob', g1, g2⟩, fun b e => ?_, ?_⟩
  · cases e
    exact ⟨ob, gb, hn⟩
  rw [m.trees]
  exact Calls.callWith_builtin rfl (Calls.evalArgs_plain (Calls.spliced_cons (thn (he.run pins s1 σ H1 _ I1 q1) fun c s2 ⟨y, H2, I2, ry, q2⟩ => Calls.spliced_nil (mt_ixT pins s2 σ H2 (.ref a) [y] _ _ Q I2 rfl (.cons ry .nil) q2))))
end
/-! ### min(d.values()) -/
def tMinR {κ : Type} (T : KeyTy κ) (P : Program) (w : World) (td : TE) : TE := fun σ H Q => td σ H fun x H1 => ∃ d u kvs is, x = V.ref d ∧ Rd H1 d u ∧ RD T P w H1 d u kvs ∧ kvs.map (·.2) = is.map V.int ∧ is ≠ [] ∧ ∀ m, m ∈ is → (∀ j ∈ is, m ≤ j) → Q (.int m) H1
section
variable {κ : Type} {T : KeyTy κ} {X : Cx} {o : Expr} {p pos apos mpos : Pos} {td : TE}
theorem KR.vals {H : Hp} {kvs : List (κ × V)} {xs : List (NestedKey × Addr × Value)} {is : List Int} (r : KR T H kvs xs) (hv : kvs.map (·.2) = is.map V.int) : ∀ {i : Nat} {y : NestedKey × Addr × Value}, xs[i]? = some y → ∃ t, y.2.2 = Value.int (is.getD i 0) t := by
  induction r generalizing is with
  | nil =>
    intro i y e
    simp at e
  | @cons p q ps qs z t ih =>
    cases is with
    | nil => cases hv
    | cons k is =>
      rw [List.map_cons, List.map_cons] at hv
      injection hv with e1 e2
      intro i y e
      cases i with
      | zero =>
        have e' : q = y := Option.some.inj e
        subst e'
        have z2 := z.2.2
        rw [e1] at z2
        exact z2
      | succ i => exact ih e2 (by simpa using e)
/-- o.values() -/
abbrev valuesOf (o : Expr) (apos mpos : Pos) : Expr := .Call (.Attribute o "values" apos) [] [] mpos
theorem pe_minR (hc : X.calm = true) (hg : Gl X "min") (hm : X.mg "min" = none) (hd : PE X o td) (plain : attributeBase o "values" X.env (eval o X.env) = eval o X.env := by rfl) (oneRow : (apos.endLine == mpos.line) = true := by rfl)
    (one : starEach [valuesOf o apos mpos] X.env = [(false, eval (valuesOf o apos mpos) X.env)] := by rfl) : PE X (.Call (.Name "min" p) [valuesOf o apos mpos] [] pos) (tMinR T X.prog X.w td) := by
  refine ⟨fun pins s σ H Q I h => wpAny_Call_Name_kw (ld_blt I hg hm (u := .builtin "min") (by decide +kernel) ?_ (by decide +kernel) (by decide +kernel))⟩
  rw [one]
  refine PySem.callWith_builtin1 (wpAny_Call_method0_late plain oneRow (thn (hd.run pins s σ H _ I h) fun c s1 ⟨x, H1, I1, r1, d, u, kvs, is, ex, hR, D, hv, hne, q⟩ => ?_))
  subst ex
  obtain rfl : c = Value.ref d := r1
  obtain ⟨xs, _, rel, m⟩ := D.dict I1.hok hR
  obtain ⟨es, ep, raw, n1, ent⟩ := m.raw
  obtain ⟨ob, g1, g2, g3⟩ := id raw
  refine ⟨"dict", "dict.values", PySem.F.plainAttrs_dict, PySem.F.slot_dict_values, PySem.F.type_dict_values, m.typeIs, fun b e => ?_, Calls.callWith_builtin rfl (PySem.evalArgs_none ?_)⟩
  · cases e
    exact ⟨ob, g1, g2.2.1⟩
  refine call_meetsIn PySem.F.slot_dict_values m.typeIs PySem.F.entry_dict_values (PySem.F.args_dict_values_1 _) (meets_dict_values_raw d D.sys) ⟨⟨es, ep, raw⟩, ?_⟩
  -- the view, laid behind all that was there
  generalize hview : s1.heap.push { cls := .type "dict_values", data := .fields #[.ref d] } = h1
  have old : ∀ b ob, s1.heap.get? b = some ob → h1.get? b = some ob := fun b ob e => hview ▸ Heap.get?_push_of_some _ e
  have view : h1.IsValuesView s1.heap.objs.size d := hview ▸ ⟨_, Heap.get?_push_size _ rfl, rfl, rfl⟩
  have grown : h1.objs.size = s1.heap.objs.size + 1 := hview ▸ Heap.size_push _ _
  have below : d < s1.heap.objs.size := Heap.lt_size g1
  have far : d < h1.objs.size := grown ▸ Nat.lt_succ_of_lt below
  have size : es.size = is.length := by
    have e1 := congrArg List.length hv
    rw [List.length_map, List.length_map] at e1
    rw [n1, ← e1]
    exact (Paired.length rel).symm
  have some1 : 0 < es.size := size ▸ List.length_pos_iff.mpr hne
  have each : ∀ (i : Nat) (v : Value), (∃ hi : i < es.size, v = es[i].val) → ∃ t, v = Value.int (is.getD i 0) t := fun i v ⟨hi, e⟩ => by
    obtain ⟨y, hy, _, e2, _⟩ := ent i hi
    obtain ⟨t, et⟩ := rel.vals hv hy
    exact ⟨t, by rw [e, e2, et]⟩
  refine call_min_walk (wpAny_pyIter_values_raw view (raw.at (old d)) ?_)
  refine ⟨_, _, _, _, _, _, _, rfl, Walks.rawValues (A := X.A.in1) (I.ok.hd hc) h1.objs.size d (Nat.ne_of_lt far) es ep, ⟨⟨_, Heap.get?_push_size _ rfl, rfl, rfl⟩, (raw.at (old d)).at fun ob e => Heap.get?_push_of_some _ e⟩, fun b hb => ?_, some1, CmpOf.ints_lt (fun i => is.getD i 0) each, fun v h' tk hP hk => ?_⟩
  · show b < (h1.push _).objs.size
    rw [Heap.size_push]
    simp only [List.mem_cons, List.not_mem_nil, or_false] at hb
    rcases hb with e | e
    · rw [e]
      exact Nat.lt_succ_self _
    · rw [e]
      exact Nat.lt_succ_of_lt far
  · obtain ⟨t, rfl⟩ := each _ v hP
    obtain ⟨b1, b2⟩ := argBest_lt (fun i => is.getD i 0) (es.size - 1)
    have inside : argBest (fun i j => decide (is.getD i 0 < is.getD j 0)) (es.size - 1) < is.length := by omega
    have get : ∀ i, i < is.length → is.getD i 0 ∈ is := fun i hi => by
      rw [List.getD_eq_getElem?_getD, List.getElem?_eq_getElem hi]
      exact List.getElem_mem hi
    refine ⟨.int _, H1, I1.kept (t' := tk) fun b ob e => hk b ob (fun z => ?_) (Heap.get?_push_of_some _ (old b ob e)), ⟨t, rfl⟩, q _ (get _ inside) fun j hj => ?_⟩
    · have e1 : b = h1.objs.size := List.mem_singleton.mp z
      have e2 := Heap.lt_size e
      rw [e1, grown] at e2
      exact absurd e2 (Nat.not_lt.mpr (Nat.le_succ _))
    · obtain ⟨i, hi, rfl⟩ := List.mem_iff_getElem.mp hj
      have e2 : is.getD i 0 = is[i] := by
        rw [List.getD_eq_getElem?_getD, List.getElem?_eq_getElem hi]
        rfl
      rw [← e2]
      exact b2 i (by omega)
end
end Cr

namespace Cr
open PySem PySem.Spec PyProof.Rows L2
open PySem.W (Codec)
abbrev sInit : Stmt := inClass (top 24) 0
abbrev sBegins : Stmt := inClass (top 24) 1
abbrev sLaid : Stmt := inClass (top 24) 2
abbrev sAsks : Stmt := inClass (top 24) 3
abbrev sFixed : Stmt := inClass (top 24) 4
/-! ### A shelf in the heap -/
def bf (rw ak : Addr) : List (Str × V) := [("row", .ref rw), ("asked", .ref ak)]
theorem lk_here {k : Str} {v : V} {r : List (Str × V)} : List.lookup k ((k, v) :: r) = some v := by
  have e : (k == k) = true := beq_self_eq_true k
  simp only [List.lookup, e]
theorem lk_past {k g : Str} {v : V} {r : List (Str × V)} (h : (k == g) = false) : List.lookup k ((g, v) :: r) = List.lookup k r := by
  simp only [List.lookup, h]
theorem put_here {f : Str} {v x : V} {r : List (Str × V)} : putF f v ((f, x) :: r) = (f, v) :: r := if_pos rfl
theorem put_past {f g : Str} {v x : V} {r : List (Str × V)} (h : ¬ g = f) : putF f v ((g, x) :: r) = (g, x) :: putF f v r := if_neg h
theorem bf_row (rw ak : Addr) : (bf rw ak).lookup ("row" : Str) = some (.ref rw) := lk_here
theorem bf_asked (rw ak : Addr) : (bf rw ak).lookup ("asked" : Str) = some (.ref ak) := (lk_past (by decide +kernel)).trans lk_here
theorem bf_no (rw ak : Addr) {m : Str} (h1 : (m == "row") = false) (h2 : (m == "asked") = false) : (bf rw ak).lookup m = none := (lk_past h1).trans ((lk_past h2).trans rfl)
theorem bf_putR (rw ak q : Addr) : putF "row" (.ref q) (bf rw ak) = bf q ak := put_here
theorem bf_putA (rw ak q : Addr) : putF "asked" (.ref q) (bf rw ak) = bf rw q := (put_past (by decide +kernel)).trans (congrArg _ put_here)
theorem bf_new (rw ak : Addr) : putF "asked" (.ref ak) (putF "row" (.ref rw) []) = bf rw ak := (put_past (by decide +kernel)).trans rfl
structure ShelfAt (C : Addr) (H : Hp) (a rw ak : Addr) (s : Si88.Shelf) : Prop where
  ins : ∃ dx, H a = some (.ins C dx (bf rw ak))
  row : H rw = some (.lst (nV s.row))
  ask : H ak = some (.lst (nV s.asked))
  ne : rw ≠ ak
theorem ShelfAt.nr {C : Addr} {H : Hp} {a rw ak : Addr} {s : Si88.Shelf} (S : ShelfAt C H a rw ak s) : rw ≠ a := by
  obtain ⟨dx, h⟩ := S.ins
  exact ne_of S.row h (by intro z; cases z)
theorem ShelfAt.na {C : Addr} {H : Hp} {a rw ak : Addr} {s : Si88.Shelf} (S : ShelfAt C H a rw ak s) : ak ≠ a := by
  obtain ⟨dx, h⟩ := S.ins
  exact ne_of S.ask h (by intro z; cases z)
theorem ShelfAt.same {C : Addr} {H H' : Hp} {a rw ak : Addr} {s : Si88.Shelf} (S : ShelfAt C H a rw ak s) (e : Same H H') : ShelfAt C H' a rw ak s := by
  obtain ⟨dx, h⟩ := S.ins
  exact ⟨⟨dx, e _ _ h⟩, e _ _ S.row, e _ _ S.ask, S.ne⟩
/-- what a call may change: the shelf itself and its list of what was asked for; new lists may take their places -/
structure Keeps (H H' : Hp) (a rw ak rw' ak' : Addr) : Prop where
  all : ∀ b o, H b = some o → b ≠ a → b ≠ ak → H' b = some o
  rw : rw' = rw ∨ H rw' = none
  ak : ak' = ak ∨ H ak' = none
theorem Keeps.of_same {H H' : Hp} {a rw ak : Addr} (e : Same H H') : Keeps H H' a rw ak rw ak := ⟨fun b o h _ _ => e b o h, .inl rfl, .inl rfl⟩
/-- what a call on the shelf gives: a new list of what is answered, and the shelf as it is then -/
def Gives (C : Addr) (k : Req) (H : Hp) (a : Addr) (Q : VK) : Prop := ∃ rw ak s, ShelfAt C H a rw ak s ∧ Good s ∧
  ∀ H' p rw' ak', ShelfAt C H' a rw' ak' (next s k) → H p = none → H' p = some (.lst ((ans s k).map V.int)) → p ≠ rw' → p ≠ ak' → Keeps H H' a rw ak rw' ak' → Q (.ref p) H'
/-- nothing of the shelf changes, a new list is made -/
theorem gives_same {C : Addr} {k : Req} {H H1 : Hp} {a rw ak p : Addr} {s : Si88.Shelf} {Q : VK} {l : List V} (S : ShelfAt C H a rw ak s) (e1 : Same H H1) (np : H1 p = none) (hn : next s k = s) (ha : l = (ans s k).map V.int)
    (q : ∀ H' p rw' ak', ShelfAt C H' a rw' ak' (next s k) → H p = none → H' p = some (.lst ((ans s k).map V.int)) → p ≠ rw' → p ≠ ak' → Keeps H H' a rw ak rw' ak' → Q (.ref p) H') : Q (.ref p) (upd H1 p (.lst l)) := by
  have S1 := S.same e1
  refine q _ p rw ak (by rw [hn]; exact S1.same (Same.upd np)) (e1.free np) (by rw [upd_same, ha]) (fun e => ?_) (fun e => ?_) (Keeps.of_same (e1.trans (Same.upd np)))
  · rw [e, S1.row] at np; cases np
  · rw [e, S1.ask] at np; cases np
/-! ### Promises -/
def spInit (C : Addr) : Sp := fun vs H Q _ => ∃ (p dx : Addr), vs = [.ref p] ∧ H p = some (.ins C dx []) ∧ ∀ H' rw ak, ShelfAt C H' p rw ak Si88.init → H rw = none → H ak = none → (∀ b o, H b = some o → b ≠ p → H' b = some o) → Q .non H'
def spBegins (C : Addr) : Sp := fun vs H Q _ => ∃ (a : Addr) (x : Int), vs = [.ref a, .int x] ∧ 0 ≤ x ∧ Gives C (.begins x) H a Q
def spLaid (K : PySem.W.Frag) (C : Addr) : Sp := fun vs H Q _ => ∃ (a l : Addr) (xs : List Int), vs = [.ref a, .ref l] ∧ SqL K H l (xs.map V.int) ∧ xs.length ≤ 6 ∧ (∀ z ∈ xs, inside z) ∧ Gives C (.laid xs) H a Q
def spAsks (C : Addr) : Sp := fun vs H Q _ => ∃ (a : Addr) (x : Int), vs = [.ref a, .int x] ∧ 0 ≤ x ∧ Gives C (.asks x) H a Q
def spFixed (K : PySem.W.Frag) (C : Addr) : Sp := fun vs H Q _ => ∃ (a l : Addr) (xs : List Int), vs = [.ref a, .ref l] ∧ SqL K H l (xs.map V.int) ∧ xs.length ≤ 6 ∧ (∀ z ∈ xs, inside z) ∧ Gives C (.fixed xs) H a Q
structure Txt (K : PySem.W.Frag) (mg : Str → Option Value) (C : Addr) : Prop where
  cl : Cls K C
  nR : NoAttr K C "row"
  nA : NoAttr K C "asked"
  gC : mg "Shelf" = some (.ref C)
  bn : Bn mg
  gT : ∃ t, mg "MOST_THINGS" = some (.int 4 t)
  gM : ∃ t, mg "MOST_TIMES" = some (.int 10 t)
section
variable {P : Program} {w : World} {K : PySem.W.Frag} {mg : Str → Option Value} {base : Heap}
theorem scInit : FnScope ["self"] ["self"] (defScope sInit) := ⟨rfl, rfl, rfl, by decide +kernel, rfl, by decide +kernel, by decide +kernel⟩
theorem ok_init {f C : Addr} {fd : FuncData} (F : Fun K "__init__" "Shelf.__init__" sInit f fd) (T : Txt K mg C) : FnOk P w K mg base CX0 1 f fd ["self"] (spInit C) := by
  refine F.ok scInit (fun vs H Q E h => ?_) (fun cdv A outer s H vs Q E hr h => ?_)
  · obtain ⟨p, dx, rfl, _⟩ := h
    rfl
  · obtain ⟨p, dx, rfl, hp, k⟩ := h
    refine ⟨_, pss_cons (ps_fld (pv 0) (pe_lst (pa_cons pe_int pa_nil)) rfl) (pss_one (ps_fld (pv 0) (pe_lst pa_nil) rfl)), ?_⟩
    refine ⟨(by show 1 ≤ sizeLine; decide), fun r nr => ?_⟩
    have e1 : Same H (upd H r (.lst [V.int 0])) := Same.upd nr
    refine ⟨_, rfl, p, C, dx, [], rfl, e1 _ _ hp, T.cl, T.nR, (by show 0 < 1000; decide), ?_⟩
    refine ⟨(by show 0 ≤ sizeLine; decide), fun q nq => ?_⟩
    refine ⟨_, rfl, p, C, dx, _, rfl, by rw [upd_ne (fun e => by rw [← e, upd_same] at nq; cases nq), upd_same], T.cl, T.nA, (by show 1 < 1000; decide), ?_⟩
    have rp : r ≠ p := fun e => by rw [e, hp] at nr; cases nr
    have qp : q ≠ p := fun e => by rw [e, upd_same] at nq; cases nq
    have qr : q ≠ r := fun e => by rw [e, upd_ne rp, upd_same] at nq; cases nq
    have nq0 : H q = none := by rw [upd_ne qp, upd_ne qr] at nq; exact nq
    refine k _ r q ⟨⟨dx, by rw [upd_same]; exact congrArg (fun z => some (HO.ins C dx z)) (bf_new r q)⟩, ?_, ?_, fun e => qr e.symm⟩ nr nq0 fun b o e hb => ?_
    · rw [upd_ne rp, upd_ne (fun e => qr e.symm), upd_ne rp, upd_same]
      rfl
    · rw [upd_ne qp, upd_same]
      rfl
    · rw [upd_ne hb, upd_ne (fun z => by rw [z, nq0] at e; cases e), upd_ne hb, upd_ne (fun z => by rw [z, nr] at e; cases e)]
      exact e
/-! what the specification says of each -/
theorem begins_no {s : Si88.Shelf} {x : Int} (h : x.toNat < 1 ∨ 4 < x.toNat) : next s (.begins x) = s ∧ ans s (.begins x) = [-1] := by
  have e : Si88.step s (Si88.Call.begins x.toNat) = (s, Si88.ok (-1)) := if_pos h
  unfold next ans
  show (Si88.step s (Si88.Call.begins x.toNat)).1 = s ∧ (Si88.step s (Si88.Call.begins x.toNat)).2.v :: (Si88.step s (Si88.Call.begins x.toNat)).2.l = [-1]
  rw [e]
  exact ⟨rfl, rfl⟩
theorem begins_yes {s : Si88.Shelf} {x : Int} (h : ¬ (x.toNat < 1 ∨ 4 < x.toNat)) : next s (.begins x) = ⟨List.range x.toNat, []⟩ ∧ ans s (.begins x) = [0] := by
  have e : Si88.step s (Si88.Call.begins x.toNat) = (⟨List.range x.toNat, []⟩, Si88.ok 0) := if_neg h
  unfold next ans
  show (Si88.step s (Si88.Call.begins x.toNat)).1 = _ ∧ (Si88.step s (Si88.Call.begins x.toNat)).2.v :: (Si88.step s (Si88.Call.begins x.toNat)).2.l = [0]
  rw [e]
  exact ⟨rfl, rfl⟩
theorem scBegins : FnScope ["self", "things"] ["self", "things"] (defScope sBegins) := ⟨rfl, rfl, rfl, by decide +kernel, rfl, by decide +kernel, by decide +kernel⟩
theorem ok_begins {f C : Addr} {fd : FuncData} (F : Fun K "begins" "Shelf.begins" sBegins f fd) (T : Txt K mg C) : FnOk P w K mg base CX0 1 f fd ["self", "things"] (spBegins C) := by
  obtain ⟨tT, gT⟩ := T.gT
  refine F.ok scBegins (fun vs H Q E h => ?_) (fun cdv A outer s H vs Q E hr h => ?_)
  · obtain ⟨a, x, rfl, _⟩ := h
    rfl
  · obtain ⟨a, x, rfl, x0, rw_, ak, s, S, G, k⟩ := h
    refine ⟨_, pss_cons (ps_if (PW.pt (pw_or (pt_cmpR op_lt (pv 1) pe_int (nomark _)) (pw_or1 (pt_cmpR op_gt (pv 1) (pe_glob (v := .int 4) rfl gT ⟨_, rfl⟩) (nomark _)))))
        (pss_one (ps_ret (pe_lst (pa_cons (pe_un un_neg pe_int) pa_nil)))) pss_nil)
      (pss_cons (ps_fld (pv 0) (pe_listRg rfl (by rfl) T.bn.list (prg_1 (by rfl) T.bn.range (pv 1))) rfl)
      (pss_cons (ps_fld (pv 0) (pe_lst pa_nil) rfl)
      (pss_one (ps_ret (pe_lst (pa_cons pe_int pa_nil)))))), ?_⟩
    have no : (x.toNat < 1 ∨ 4 < x.toNat) → ∀ p, H p = none → Q (.ref p) (upd H p (.lst [V.int (-1)])) := fun h p np => by
      obtain ⟨e1, e2⟩ := begins_no (s := s) h
      exact gives_same S (Same.refl H) np e1 (by rw [e2]; rfl) k
    refine ⟨_, rfl, _, _, rfl, rfl, _, rfl, ite2 (fun c => ?_) (fun c => ?_)⟩
    · refine iteT ⟨_, rfl, (by show 1 ≤ sizeLine; decide), fun p np => ?_⟩
      have c' : x < 1 := of_decide_eq_true c
      exact no (.inl (by omega)) p np
    · have c' : ¬ x < 1 := fun z => c (decide_eq_true z)
      refine ⟨_, rfl, _, _, rfl, rfl, _, rfl, ite2 (fun c2 => ?_) (fun c2 => ?_)⟩
      · refine ⟨_, rfl, (by show 1 ≤ sizeLine; decide), fun p np => ?_⟩
        have c2' : (4 : Int) < x := of_decide_eq_true c2
        exact no (.inr (by omega)) p np
      · have c2' : ¬ (4 : Int) < x := fun z => c2 (decide_eq_true z)
        have hn : ¬ (x.toNat < 1 ∨ 4 < x.toNat) := by omega
        obtain ⟨e1, e2⟩ := begins_yes (s := s) hn
        obtain ⟨dx, hins⟩ := S.ins
        refine ⟨_, rfl, x, rfl, ⟨by omega, by omega, by omega, by omega, by omega⟩, fun r nr => ?_⟩
        have er : rgV 0 x = nV (List.range x.toNat) := by
          have e3 : x = ((x.toNat : Nat) : Int) := by omega
          conv => lhs; rw [e3]
          rw [rgV_ups, nV_int]
          rfl
        rw [er]
        have rp : r ≠ a := fun e => by rw [e, hins] at nr; cases nr
        refine ⟨_, rfl, a, C, dx, _, rfl, by rw [upd_ne (fun e => rp e.symm)]; exact hins, T.cl, T.nR, (by show 2 < 1000; decide), ?_⟩
        rw [bf_putR]
        refine ⟨(by show 0 ≤ sizeLine; decide), fun q nq => ?_⟩
        have qp : q ≠ a := fun e => by rw [e, upd_same] at nq; cases nq
        have qr : q ≠ r := fun e => by rw [e, upd_ne rp, upd_same] at nq; cases nq
        have nq0 : H q = none := by rw [upd_ne qp, upd_ne qr] at nq; exact nq
        refine ⟨_, rfl, a, C, dx, _, rfl, by rw [upd_ne (fun e => qp e.symm), upd_same], T.cl, T.nA, (by show 2 < 1000; decide), ?_⟩
        rw [bf_putA]
        refine ⟨(by show 1 ≤ sizeLine; decide), fun p np => ?_⟩
        have pa : p ≠ a := fun e => by rw [e, upd_same] at np; cases np
        have pq : p ≠ q := fun e => by rw [e, upd_ne qp, upd_same] at np; cases np
        have pr : p ≠ r := fun e => by rw [e, upd_ne rp, upd_ne (fun z => qr z.symm), upd_ne rp, upd_same] at np; cases np
        have np0 : H p = none := by rw [upd_ne pa, upd_ne pq, upd_ne pa, upd_ne pr] at np; exact np
        refine k _ p r q ?_ np0 (by rw [upd_same, e2]; rfl) pr pq ⟨fun b o e hb _ => ?_, .inr nr, .inr nq0⟩
        · rw [e1]
          refine ⟨⟨dx, ?_⟩, ?_, ?_, fun e => qr e.symm⟩
          · rw [upd_ne (fun z => pa z.symm), upd_same]
          · rw [upd_ne (fun z => pr z.symm), upd_ne rp, upd_ne (fun z => qr z.symm), upd_ne rp, upd_same]
          · rw [upd_ne (fun z => pq z.symm), upd_ne qp, upd_same]
            rfl
        · rw [upd_ne (fun z => by rw [z, np0] at e; cases e), upd_ne hb, upd_ne (fun z => by rw [z, nq0] at e; cases e), upd_ne hb, upd_ne (fun z => by rw [z, nr] at e; cases e)]
          exact e
theorem isRow_not {s : Si88.Shelf} {xs : List Int} (h : ¬ (xs.map Int.toNat).Perm (List.range s.row.length)) : s.isRow (xs.map Int.toNat) = false := by
  cases e : s.isRow (xs.map Int.toNat) with
  | false => rfl
  | true => exact absurd ((isRow_iff s _).mp e) h
theorem laid_no {s : Si88.Shelf} {xs : List Int} (h : ¬ (xs.map Int.toNat).Perm (List.range s.row.length)) : next s (.laid xs) = s ∧ ans s (.laid xs) = [-1] := by
  have e : Si88.step s (Si88.Call.laid (xs.map Int.toNat)) = (s, Si88.ok (-1)) := if_pos (isRow_not h)
  show (Si88.step s (Si88.Call.laid (xs.map Int.toNat))).1 = s ∧ (Si88.step s (Si88.Call.laid (xs.map Int.toNat))).2.v :: (Si88.step s (Si88.Call.laid (xs.map Int.toNat))).2.l = [-1]
  rw [e]
  exact ⟨rfl, rfl⟩
theorem laid_late {s : Si88.Shelf} {xs : List Int} (h : (xs.map Int.toNat).Perm (List.range s.row.length)) (ha : s.asked ≠ []) : next s (.laid xs) = s ∧ ans s (.laid xs) = [-4] := by
  have e : Si88.step s (Si88.Call.laid (xs.map Int.toNat)) = (s, Si88.ok (-4)) := (if_neg (by rw [(isRow_iff s _).mpr h]; exact fun z => by cases z)).trans (if_pos ha)
  show (Si88.step s (Si88.Call.laid (xs.map Int.toNat))).1 = s ∧ (Si88.step s (Si88.Call.laid (xs.map Int.toNat))).2.v :: (Si88.step s (Si88.Call.laid (xs.map Int.toNat))).2.l = [-4]
  rw [e]
  exact ⟨rfl, rfl⟩
theorem laid_yes {s : Si88.Shelf} {xs : List Int} (h : (xs.map Int.toNat).Perm (List.range s.row.length)) (ha : s.asked = []) : next s (.laid xs) = { s with row := xs.map Int.toNat } ∧ ans s (.laid xs) = [0] := by
  have e : Si88.step s (Si88.Call.laid (xs.map Int.toNat)) = ({ s with row := xs.map Int.toNat }, Si88.ok 0) := (if_neg (by rw [(isRow_iff s _).mpr h]; exact fun z => by cases z)).trans (if_neg (fun z => z ha))
  show (Si88.step s (Si88.Call.laid (xs.map Int.toNat))).1 = _ ∧ (Si88.step s (Si88.Call.laid (xs.map Int.toNat))).2.v :: (Si88.step s (Si88.Call.laid (xs.map Int.toNat))).2.l = [0]
  rw [e]
  exact ⟨rfl, rfl⟩
theorem nV_toNat {xs : List Int} (h : ∀ z ∈ xs, 0 ≤ z) : nV (xs.map Int.toNat) = xs.map V.int := by
  rw [nV_int, ofNat_map h]
theorem nV_length (l : List Nat) : (nV l).length = l.length := List.length_map _
structure Once (K : PySem.W.Frag) (mg : Str → Option Value) (f : Addr) (fd : FuncData) : Prop where
  F : Fun K "has_each_once" "has_each_once" sOnce f fd
  g : mg "has_each_once" = some (.ref f)
  b : Binds K fd ["row", "things"] []
theorem scLaid : FnScope ["self", "row"] ["self", "row"] (defScope sLaid) := ⟨rfl, rfl, rfl, by decide +kernel, rfl, by decide +kernel, by decide +kernel⟩
theorem ok_laid {f C fO : Addr} {fd fdO : FuncData} (F : Fun K "laid" "Shelf.laid" sLaid f fd) (T : Txt K mg C) (O : Once K mg fO fdO) : FnOk P w K mg base CX0 2 f fd ["self", "row"] (spLaid K C) := by
  have GO : FnOk P w K mg base CX0 1 fO fdO ["row", "things"] (spOnce K) := ok_once O.F T.bn
  refine F.ok scLaid (fun vs H Q E h => ?_) (fun cdv A outer s H vs Q E hr h => ?_)
  · obtain ⟨a, l, xs, rfl, _⟩ := h
    rfl
  · obtain ⟨a, l, xs, rfl, hl, h6, hin, rw_, ak, s, S, G, k⟩ := h
    refine ⟨_, pss_cons (ps_if (pt_not (pt_val (pe_call GO hr (by rfl) O.g O.F.kp O.b .nil pass0 (pa_cons (pv 1) (pa_cons (pe_callB call_len_seq (by rfl) T.bn.len PySem.boot_len (pa_cons (pe_fld (pv 0) rfl) pa_nil)) pa_nil)))))
        (pss_one (ps_ret (pe_lst (pa_cons (pe_un un_neg pe_int) pa_nil)))) pss_nil)
      (pss_cons (ps_if (pt_cmpR op_gt (pe_callB call_len_seq (by rfl) T.bn.len PySem.boot_len (pa_cons (pe_fld (pv 0) rfl) pa_nil)) pe_int (nomark _))
        (pss_one (ps_ret (pe_lst (pa_cons (pe_un un_neg pe_int) pa_nil)))) pss_nil)
      (pss_cons (ps_fld (pv 0) (pe_callTy call_list_of (by rfl) T.bn.list (by decide +kernel) (pa_cons (pv 1) pa_nil)) rfl)
      (pss_one (ps_ret (pe_lst (pa_cons pe_int pa_nil)))))), ?_⟩
    obtain ⟨dx, hins⟩ := S.ins
    have g0 : ∀ z ∈ xs, 0 ≤ z := fun z hz => (hin z hz).1
    refine ⟨_, rfl, _, rfl, a, C, dx, _, _, rfl, hins, T.cl, T.nR, bf_row _ _, rw_, _, rfl, .inl (SqL.of S.row), ?_⟩
    refine ⟨l, xs, s.row.length, by rw [nV_length]; rfl, hl, by omega, g0, by have := G.few; omega, fun H1 s1 => ?_⟩
    refine ⟨_, rfl, ?_⟩
    have S1 := S.same s1
    by_cases c : (xs.map Int.toNat).Perm (List.range s.row.length)
    · rw [decide_eq_true c]
      refine iteF ?_
      refine ⟨_, rfl, a, C, dx, _, _, rfl, s1 _ _ hins, T.cl, T.nA, bf_asked _ _, ak, _, rfl, .inl (SqL.of S1.ask), _, _, rfl, rfl, _, rfl, ite2 (fun c2 => ?_) (fun c2 => ?_)⟩
      · have c2' : (0 : Int) < ((nV s.asked).length : Int) := of_decide_eq_true c2
        rw [nV_length] at c2'
        obtain ⟨e1, e2⟩ := laid_late c (s := s) (fun z => by rw [z] at c2'; exact absurd c2' (by decide))
        refine ⟨_, rfl, (by show 1 ≤ sizeLine; decide), fun p np => ?_⟩
        exact gives_same S s1 np e1 (by rw [e2]; rfl) k
      · have c2' : ¬ (0 : Int) < ((nV s.asked).length : Int) := fun z => c2 (decide_eq_true z)
        rw [nV_length] at c2'
        obtain ⟨e1, e2⟩ := laid_yes c (s := s) (List.eq_nil_of_length_eq_zero (by omega))
        refine ⟨_, rfl, l, _, rfl, .inl (s1.seq hl), fun r nr => ?_⟩
        have rp : r ≠ a := fun e => by rw [e, s1 _ _ hins] at nr; cases nr
        have rk : r ≠ ak := fun e => by rw [e, S1.ask] at nr; cases nr
        refine ⟨_, rfl, a, C, dx, _, rfl, by rw [upd_ne (fun e => rp e.symm)]; exact s1 _ _ hins, T.cl, T.nR, (by show 2 < 1000; decide), ?_⟩
        rw [bf_putR]
        refine ⟨(by show 1 ≤ sizeLine; decide), fun p np => ?_⟩
        have pa : p ≠ a := fun e => by rw [e, upd_same] at np; cases np
        have pr : p ≠ r := fun e => by rw [e, upd_ne rp, upd_same] at np; cases np
        have np1 : H1 p = none := by rw [upd_ne pa, upd_ne pr] at np; exact np
        have pk : p ≠ ak := fun e => by rw [e, S1.ask] at np1; cases np1
        refine k _ p r ak ?_ (s1.free np1) (by rw [upd_same, e2]; rfl) pr pk ⟨fun b o e hb _ => ?_, .inr (s1.free nr), .inl rfl⟩
        · rw [e1]
          refine ⟨⟨dx, by rw [upd_ne (fun z => pa z.symm), upd_same]⟩, ?_, ?_, rk⟩
          · rw [upd_ne (fun z => pr z.symm), upd_ne rp, upd_same]
            exact congrArg (fun z => some (HO.lst z)) (nV_toNat g0).symm
          · rw [upd_ne (fun z => pk z.symm), upd_ne S.na, upd_ne (fun z => rk z.symm)]
            exact S1.ask
        · have e' := s1 _ _ e
          rw [upd_ne (fun z => by rw [z, np1] at e'; cases e'), upd_ne hb, upd_ne (fun z => by rw [z, nr] at e'; cases e')]
          exact e'
    · rw [decide_eq_false c]
      refine iteT ?_
      obtain ⟨e1, e2⟩ := laid_no c (s := s)
      refine ⟨_, rfl, (by show 1 ≤ sizeLine; decide), fun p np => ?_⟩
      exact gives_same S s1 np e1 (by rw [e2]; rfl) k
theorem asks_no {s : Si88.Shelf} {x : Int} (h : s.row.length ≤ x.toNat) : next s (.asks x) = s ∧ ans s (.asks x) = [-2] := by
  have e : Si88.step s (Si88.Call.asks x.toNat) = (s, Si88.ok (-2)) := if_pos h
  show (Si88.step s (Si88.Call.asks x.toNat)).1 = s ∧ (Si88.step s (Si88.Call.asks x.toNat)).2.v :: (Si88.step s (Si88.Call.asks x.toNat)).2.l = [-2]
  rw [e]
  exact ⟨rfl, rfl⟩
theorem asks_full {s : Si88.Shelf} {x : Int} (h : ¬ s.row.length ≤ x.toNat) (h2 : 10 ≤ s.asked.length) : next s (.asks x) = s ∧ ans s (.asks x) = [-5] := by
  have e : Si88.step s (Si88.Call.asks x.toNat) = (s, Si88.ok (-5)) := (if_neg h).trans (if_pos h2)
  show (Si88.step s (Si88.Call.asks x.toNat)).1 = s ∧ (Si88.step s (Si88.Call.asks x.toNat)).2.v :: (Si88.step s (Si88.Call.asks x.toNat)).2.l = [-5]
  rw [e]
  exact ⟨rfl, rfl⟩
theorem asks_yes {s : Si88.Shelf} {x : Int} (h : ¬ s.row.length ≤ x.toNat) (h2 : ¬ 10 ≤ s.asked.length) : next s (.asks x) = { s with asked := s.asked ++ [x.toNat] } ∧ ans s (.asks x) = [((s.asked.length : Nat) : Int) + 1] := by
  have e : Si88.step s (Si88.Call.asks x.toNat) = ({ s with asked := s.asked ++ [x.toNat] }, Si88.ok (((s.asked.length : Nat) : Int) + 1)) := (if_neg h).trans (if_neg h2)
  show (Si88.step s (Si88.Call.asks x.toNat)).1 = _ ∧ (Si88.step s (Si88.Call.asks x.toNat)).2.v :: (Si88.step s (Si88.Call.asks x.toNat)).2.l = _
  rw [e]
  exact ⟨rfl, rfl⟩
theorem inV_nat {l : List Nat} {x : Int} (h : 0 ≤ x) : inV (.int x) (nV l) = decide (x.toNat ∈ l) := by
  unfold inV nV
  rw [List.any_map]
  have e : x = ((x.toNat : Nat) : Int) := by omega
  by_cases c : x.toNat ∈ l
  · rw [decide_eq_true c]
    refine List.any_eq_true.mpr ⟨x.toNat, c, ?_⟩
    show eqV (.int ((x.toNat : Nat) : Int)) (.int x) = true
    rw [e, eqV_nat]
    exact decide_eq_true rfl
  · rw [decide_eq_false c]
    refine List.any_eq_false.mpr fun m hm => ?_
    show ¬ eqV (.int (m : Int)) (.int x) = true
    rw [e, eqV_nat]
    exact fun z => c ((of_decide_eq_true z) ▸ hm)
theorem row_mem {s : Si88.Shelf} (G : Good s) {t : Nat} : t ∈ s.row ↔ t < s.row.length := G.row.mem_iff.trans List.mem_range
theorem nV_snoc (l : List Nat) {x : Int} (h : 0 ≤ x) : nV l ++ [V.int x] = nV (l ++ [x.toNat]) := by
  unfold nV
  rw [List.map_append]
  have e : x = ((x.toNat : Nat) : Int) := by omega
  conv => lhs; rw [e]
  rfl
theorem scAsks : FnScope ["self", "thing"] ["self", "thing"] (defScope sAsks) := ⟨rfl, rfl, rfl, by decide +kernel, rfl, by decide +kernel, by decide +kernel⟩
theorem ok_asks {f C : Addr} {fd : FuncData} (F : Fun K "asks" "Shelf.asks" sAsks f fd) (T : Txt K mg C) : FnOk P w K mg base CX0 1 f fd ["self", "thing"] (spAsks C) := by
  obtain ⟨tM, gM⟩ := T.gM
  refine F.ok scAsks (fun vs H Q E h => ?_) (fun cdv A outer s H vs Q E hr h => ?_)
  · obtain ⟨a, x, rfl, _⟩ := h
    rfl
  · obtain ⟨a, x, rfl, x0, rw_, ak, s, S, G, k⟩ := h
    refine ⟨_, pss_cons (ps_if (pt_cmpR op_notIn_seq (pv 1) (pe_fld (pv 0) rfl) (by rfl))
        (pss_one (ps_ret (pe_lst (pa_cons (pe_un un_neg pe_int) pa_nil)))) pss_nil)
      (pss_cons (ps_if (pt_cmpR op_ge (pe_callB call_len_seq (by rfl) T.bn.len PySem.boot_len (pa_cons (pe_fld (pv 0) rfl) pa_nil)) (pe_glob (v := .int 10) rfl gM ⟨_, rfl⟩) (nomark _))
        (pss_one (ps_ret (pe_lst (pa_cons (pe_un un_neg pe_int) pa_nil)))) pss_nil)
      (pss_cons (ps_expr (pe_bm PySem.F.plainAttrs_list PySem.F.slot_list_append PySem.F.type_list_append mt_append (pe_fld (pv 0) rfl) (pa_cons (pv 1) pa_nil)))
      (pss_one (ps_ret (pe_lst (pa_cons (pe_callB call_len_seq (by rfl) T.bn.len PySem.boot_len (pa_cons (pe_fld (pv 0) rfl) pa_nil)) pa_nil)))))), ?_⟩
    obtain ⟨dx, hins⟩ := S.ins
    refine ⟨_, rfl, _, rfl, a, C, dx, _, _, rfl, hins, T.cl, T.nR, bf_row _ _, rw_, _, rfl, .inl (SqL.of S.row), rfl, nV_flat _, ?_⟩
    refine ⟨_, rfl, ?_⟩
    rw [inV_nat x0]
    by_cases c : x.toNat ∈ s.row
    · rw [decide_eq_true c]
      refine iteF ?_
      have c1 := (row_mem G).mp c
      refine ⟨_, rfl, a, C, dx, _, _, rfl, hins, T.cl, T.nA, bf_asked _ _, ak, _, rfl, .inl (SqL.of S.ask), _, _, rfl, rfl, _, rfl, ite2 (fun c2 => ?_) (fun c2 => ?_)⟩
      · have c2' : (10 : Int) ≤ ((nV s.asked).length : Int) := of_decide_eq_true c2
        rw [nV_length] at c2'
        obtain ⟨e1, e2⟩ := asks_full (s := s) (x := x) (by omega) (by omega)
        refine ⟨_, rfl, (by show 1 ≤ sizeLine; decide), fun p np => ?_⟩
        exact gives_same S (Same.refl H) np e1 (by rw [e2]; rfl) k
      · have c2' : ¬ (10 : Int) ≤ ((nV s.asked).length : Int) := fun z => c2 (decide_eq_true z)
        rw [nV_length] at c2'
        obtain ⟨e1, e2⟩ := asks_yes (s := s) (x := x) (by omega) (by omega)
        refine ⟨_, rfl, a, C, dx, _, _, rfl, hins, T.cl, T.nA, bf_asked _ _, .inl ⟨rfl, _, SqL.of S.ask⟩, _, rfl, ak, _, _, rfl, rfl, S.ask, by rw [nV_length]; exact small1000 (by omega), ?_⟩
        rw [nV_snoc _ x0]
        have hins' : (upd H ak (.lst (nV (s.asked ++ [x.toNat])))) a = some (.ins C dx (bf rw_ ak)) := by
          rw [upd_ne (fun e => S.na e.symm)]
          exact hins
        refine ⟨_, rfl, a, C, dx, _, _, rfl, hins', T.cl, T.nA, bf_asked _ _, ak, _, rfl, .inl (SqL.of upd_same), (by show 1 ≤ sizeLine; decide), fun p np => ?_⟩
        have pk : p ≠ ak := fun e => by rw [e, upd_same] at np; cases np
        have np0 : H p = none := by rw [upd_ne pk] at np; exact np
        have pa : p ≠ a := fun e => by rw [e, hins] at np0; cases np0
        have pr : p ≠ rw_ := fun e => by rw [e, S.row] at np0; cases np0
        refine k _ p rw_ ak ?_ np0 ?_ pr pk ⟨fun b o e hb hk => ?_, .inl rfl, .inl rfl⟩
        · rw [e1]
          refine ⟨⟨dx, by rw [upd_ne (fun z => pa z.symm)]; exact hins'⟩, ?_, ?_, S.ne⟩
          · rw [upd_ne (fun z => pr z.symm), upd_ne S.ne]
            exact S.row
          · rw [upd_ne (fun z => pk z.symm), upd_same]
        · rw [upd_same, e2, nV_length, List.length_append]
          refine congrArg (fun z => some (HO.lst [V.int z])) ?_
          show ((s.asked.length + 1 : Nat) : Int) = _
          omega
        · rw [upd_ne (fun z => by rw [z, np0] at e; cases e), upd_ne hk]
          exact e
    · rw [decide_eq_false c]
      refine iteT ?_
      obtain ⟨e1, e2⟩ := asks_no (s := s) (x := x) (by have := mt (row_mem G).mpr c; omega)
      refine ⟨_, rfl, (by show 1 ≤ sizeLine; decide), fun p np => ?_⟩
      exact gives_same S (Same.refl H) np e1 (by rw [e2]; rfl) k
theorem fixed_no {s : Si88.Shelf} {xs : List Int} (h : ¬ (xs.map Int.toNat).Perm (List.range s.row.length)) : next s (.fixed xs) = s ∧ ans s (.fixed xs) = [-1] := by
  have e : Si88.step s (Si88.Call.fixed (xs.map Int.toNat)) = (s, Si88.ok (-1)) := if_pos (isRow_not h)
  show (Si88.step s (Si88.Call.fixed (xs.map Int.toNat))).1 = s ∧ (Si88.step s (Si88.Call.fixed (xs.map Int.toNat))).2.v :: (Si88.step s (Si88.Call.fixed (xs.map Int.toNat))).2.l = [-1]
  rw [e]
  exact ⟨rfl, rfl⟩
theorem fixed_yes {s : Si88.Shelf} {xs : List Int} (h : (xs.map Int.toNat).Perm (List.range s.row.length)) : next s (.fixed xs) = s ∧ ans s (.fixed xs) = [((Si88.fixed (xs.map Int.toNat) s.asked : Nat) : Int)] := by
  have e : Si88.step s (Si88.Call.fixed (xs.map Int.toNat)) = (s, Si88.ok ((Si88.fixed (xs.map Int.toNat) s.asked : Nat) : Int)) := if_neg (by rw [(isRow_iff s _).mpr h]; exact fun z => by cases z)
  show (Si88.step s (Si88.Call.fixed (xs.map Int.toNat))).1 = _ ∧ (Si88.step s (Si88.Call.fixed (xs.map Int.toNat))).2.v :: (Si88.step s (Si88.Call.fixed (xs.map Int.toNat))).2.l = _
  rw [e]
  exact ⟨rfl, rfl⟩
structure Stay (K : PySem.W.Frag) (mg : Str → Option Value) (f : Addr) (fd : FuncData) : Prop where
  F : Fun K "steps_if_it_stays" "steps_if_it_stays" sStay f fd
  g : mg "steps_if_it_stays" = some (.ref f)
  b : Binds K fd ["row", "asked"] []
theorem scFixed : FnScope ["self", "row"] ["self", "row"] (defScope sFixed) := ⟨rfl, rfl, rfl, by decide +kernel, rfl, by decide +kernel, by decide +kernel⟩
theorem ok_fixed {f C fO fS : Addr} {fd fdO fdS : FuncData} (F : Fun K "fixed" "Shelf.fixed" sFixed f fd) (T : Txt K mg C) (O : Once K mg fO fdO) (W : Stay K mg fS fdS) : FnOk P w K mg base CX0 2 f fd ["self", "row"] (spFixed K C) := by
  have GO : FnOk P w K mg base CX0 1 fO fdO ["row", "things"] (spOnce K) := ok_once O.F T.bn
  have GS : FnOk P w K mg base CX0 1 fS fdS ["row", "asked"] (spStay K) := ok_stay W.F
  refine F.ok scFixed (fun vs H Q E h => ?_) (fun cdv A outer s H vs Q E hr h => ?_)
  · obtain ⟨a, l, xs, rfl, _⟩ := h
    rfl
  · obtain ⟨a, l, xs, rfl, hl, h6, hin, rw_, ak, s, S, G, k⟩ := h
    refine ⟨_, pss_cons (ps_if (pt_not (pt_val (pe_call GO hr (by rfl) O.g O.F.kp O.b .nil pass0 (pa_cons (pv 1) (pa_cons (pe_callB call_len_seq (by rfl) T.bn.len PySem.boot_len (pa_cons (pe_fld (pv 0) rfl) pa_nil)) pa_nil)))))
        (pss_one (ps_ret (pe_lst (pa_cons (pe_un un_neg pe_int) pa_nil)))) pss_nil)
      (pss_one (ps_ret (pe_lst (pa_cons (pe_call GS hr (by rfl) W.g W.F.kp W.b .nil pass0 (pa_cons (pv 1) (pa_cons (pe_fld (pv 0) rfl) pa_nil))) pa_nil)))), ?_⟩
    obtain ⟨dx, hins⟩ := S.ins
    have g0 : ∀ z ∈ xs, 0 ≤ z := fun z hz => (hin z hz).1
    refine ⟨_, rfl, _, rfl, a, C, dx, _, _, rfl, hins, T.cl, T.nR, bf_row _ _, rw_, _, rfl, .inl (SqL.of S.row), ?_⟩
    refine ⟨l, xs, s.row.length, by rw [nV_length]; rfl, hl, by omega, g0, by have := G.few; omega, fun H1 s1 => ?_⟩
    refine ⟨_, rfl, ?_⟩
    have S1 := S.same s1
    by_cases c : (xs.map Int.toNat).Perm (List.range s.row.length)
    · rw [decide_eq_true c]
      refine iteF ?_
      obtain ⟨e1, e2⟩ := fixed_yes c (s := s)
      refine ⟨_, rfl, _, rfl, a, C, dx, _, _, rfl, s1 _ _ hins, T.cl, T.nA, bf_asked _ _, l, ak, xs.map Int.toNat, s.asked, rfl, by rw [nV_toNat g0]; exact s1.seq hl, SqL.of S1.ask, fun t ht => c.mem_iff.mpr (List.mem_range.mpr (G.there t ht)), ?_⟩
      refine ⟨(by show 1 ≤ sizeLine; decide), fun p np => ?_⟩
      exact gives_same S s1 np e1 (by rw [e2]; rfl) k
    · rw [decide_eq_false c]
      refine iteT ?_
      obtain ⟨e1, e2⟩ := fixed_no c (s := s)
      refine ⟨_, rfl, (by show 1 ≤ sizeLine; decide), fun p np => ?_⟩
      exact gives_same S s1 np e1 (by rw [e2]; rfl) k
end
end Cr

namespace Cr
open PySem PySem.Spec PyProof.Rows L2
open PySem.W (Codec)
abbrev sMv : Stmt := top 3
abbrev sMore : Stmt := top 4
abbrev sAll : Stmt := top 5
/-! ### parts of a row -/
theorem cut_nat {r : List Nat} {i j : Nat} {a b : Int} (ea : a = (i : Int)) (eb : b = (j : Int)) (hj : j ≤ r.length) (hi : i ≤ j) : cutV (nV r) (some a) (some b) = nV ((r.drop i).take (j - i)) := by
  subst ea eb
  unfold cutV
  rw [HT.sIx_nat, HT.sIx_nat]
  have e : (nV r).length = r.length := List.length_map _
  rw [e, Nat.min_eq_left (show i ≤ r.length by omega), Nat.min_eq_left hj]
  unfold nV
  rw [List.map_take, List.map_drop]
theorem cut_to {r : List Nat} {j : Nat} {b : Int} (eb : b = (j : Int)) (hj : j ≤ r.length) : cutV (nV r) none (some b) = nV (r.take j) := by
  subst eb
  unfold cutV
  rw [HT.sIx_nat]
  have e : (nV r).length = r.length := List.length_map _
  rw [e, Nat.min_eq_left hj]
  show ((nV r).drop 0).take (j - 0) = _
  unfold nV
  rw [List.map_take]
  rfl
theorem cut_from {r : List Nat} {i : Nat} {a : Int} (ea : a = (i : Int)) (hi : i ≤ r.length) : cutV (nV r) (some a) none = nV (r.drop i) := by
  subst ea
  unfold cutV
  rw [HT.sIx_nat]
  have e : (nV r).length = r.length := List.length_map _
  rw [e, Nat.min_eq_left hi]
  show ((nV r).drop i).take (r.length - i) = _
  unfold nV
  rw [List.map_drop, List.take_of_length_le]
  rw [List.length_drop, List.length_map]
  exact Nat.le_refl _
theorem nV_app (a b : List Nat) : nV a ++ nV b = nV (a ++ b) := by
  unfold nV
  rw [List.map_append]
theorem mv_cut {r : List Nat} {p i : Nat} : mv r p i = r.take i ++ (r.drop p).take (p + 1 - p) ++ (r.drop i).take (p - i) ++ r.drop (p + 1) := by
  unfold mv
  have e : p + 1 - p = 1 := by omega
  rw [e]
/-! ### Promises -/
def spMvL (K : PySem.W.Frag) : Sp := fun vs H Q _ => ∃ (l : Addr) (r : List Nat) (p i : Nat), vs = [.ref l, .int (p : Int), .int (i : Int)] ∧ SqL K H l (nV r) ∧ r.length ≤ 4 ∧ i ≤ p ∧ p < r.length ∧
  ∀ H' q, Same H H' → H q = none → H' q = some (.lst (nV (mv r p i))) → Q (.ref q) H'
def spMvT : Sp := fun vs H Q _ => ∃ (l : Addr) (r : List Nat) (p i : Nat), vs = [.ref l, .int (p : Int), .int (i : Int)] ∧ Rd H l (.tup (nV r)) ∧ r.length ≤ 4 ∧ i ≤ p ∧ p < r.length ∧
  ∀ H' q, Same H H' → Rd H' q (.tup (nV (mv r p i))) → Q (.ref q) H'
section
variable {P : Program} {w : World} {K : PySem.W.Frag} {mg : Str → Option Value} {base : Heap}
theorem scMv : FnScope ["row", "place", "to"] ["row", "place", "to"] (defScope sMv) := ⟨rfl, rfl, rfl, by decide +kernel, rfl, by decide +kernel, by decide +kernel⟩
theorem ok_mvL {f : Addr} {fd : FuncData} (F : Fun K "moved_ahead" "moved_ahead" sMv f fd) : FnOk P w K mg base CX0 1 f fd ["row", "place", "to"] (spMvL K) := by
  refine F.ok scMv (fun vs H Q E h => ?_) (fun cdv A outer s H vs Q E hr h => ?_)
  · obtain ⟨l, r, p, i, rfl, _⟩ := h
    rfl
  · obtain ⟨l, r, p, i, rfl, hl, h4, hi, hp, k⟩ := h
    refine ⟨_, pss_one (ps_ret (pe_op op_cat (pe_op op_cat (pe_op op_cat
        (pe_slice sl_list (pv 0) po_none (po_some (pv 2)))
        (pe_slice sl_list (pv 0) (po_some (pv 1)) (po_some (pe_op op_add (pv 1) pe_int))))
        (pe_slice sl_list (pv 0) (po_some (pv 2)) (po_some (pv 1))))
        (pe_slice sl_list (pv 0) (po_some (pe_op op_add (pv 1) pe_int)) po_none))), ?_⟩
    have lens : ∀ {a b : List Nat}, a.length ≤ 10 → b.length ≤ 10 → (nV a).length + (nV b).length ≤ sizeLine := fun {a b} ha hb => by
      have e1 : (nV a).length = a.length := List.length_map _
      have e2 : (nV b).length = b.length := List.length_map _
      rw [e1, e2]
      exact Nat.le_trans (by omega : a.length + b.length ≤ 20) (by decide)
    have e1 : cutV (nV r) none (some (i : Int)) = nV (r.take i) := cut_to rfl (by omega)
    have e2 : cutV (nV r) (some (p : Int)) (some ((p : Int) + 1)) = nV ((r.drop p).take (p + 1 - p)) := cut_nat (j := p + 1) rfl rfl (by omega) (by omega)
    have e3 : cutV (nV r) (some (i : Int)) (some (p : Int)) = nV ((r.drop i).take (p - i)) := cut_nat rfl rfl (by omega) hi
    have e4 : cutV (nV r) (some ((p : Int) + 1)) none = nV (r.drop (p + 1)) := cut_from (i := p + 1) rfl (by omega)
    have l1 : (r.take i).length ≤ 4 := by rw [List.length_take]; omega
    have l2 : ((r.drop p).take (p + 1 - p)).length ≤ 1 := by rw [List.length_take]; omega
    have l3 : ((r.drop i).take (p - i)).length ≤ 4 := by rw [List.length_take]; omega
    have l4 : (r.drop (p + 1)).length ≤ 4 := by rw [List.length_drop]; omega
    refine ⟨_, rfl, _, rfl, _, rfl, l, _, rfl, hl, fun q1 n1 => ?_⟩
    rw [e1]
    have s1 := Same.upd (o := .lst (nV (r.take i))) n1
    refine ⟨_, rfl, _, rfl, _, rfl, _, rfl, _, _, rfl, rfl, _, rfl, l, _, rfl, s1.seq hl, fun q2 n2 => ?_⟩
    rw [e2]
    have t2 := Same.upd (o := .lst (nV ((r.drop p).take (p + 1 - p)))) n2
    have s2 := s1.trans t2
    have b1 : (upd H q1 (.lst (nV (r.take i)))) q1 = some (.lst (nV (r.take i))) := upd_same
    refine ⟨_, _, _, _, rfl, rfl, t2 _ _ b1, upd_same, lens (by omega) (by omega), fun c1 m1 => ?_⟩
    rw [nV_app]
    have s3 := s2.trans (Same.upd (o := .lst (nV (r.take i ++ (r.drop p).take (p + 1 - p)))) m1)
    refine ⟨_, rfl, _, rfl, _, rfl, _, rfl, _, rfl, l, _, rfl, s3.seq hl, fun q3 n3 => ?_⟩
    rw [e3]
    have t4 := Same.upd (o := .lst (nV ((r.drop i).take (p - i)))) n3
    have s4 := s3.trans t4
    refine ⟨_, _, _, _, rfl, rfl, t4 _ _ upd_same, upd_same, lens (by rw [List.length_append]; omega) (by omega), fun c2 m2 => ?_⟩
    rw [nV_app]
    have s5 := s4.trans (Same.upd (o := .lst (nV (r.take i ++ (r.drop p).take (p + 1 - p) ++ (r.drop i).take (p - i)))) m2)
    refine ⟨_, rfl, _, rfl, _, _, rfl, rfl, _, rfl, l, _, rfl, s5.seq hl, fun q4 n4 => ?_⟩
    rw [e4]
    have t6 := Same.upd (o := .lst (nV (r.drop (p + 1)))) n4
    have s6 := s5.trans t6
    refine ⟨_, _, _, _, rfl, rfl, t6 _ _ upd_same, upd_same, lens (by rw [List.length_append, List.length_append]; omega) (by omega), fun c3 m3 => ?_⟩
    rw [nV_app, ← mv_cut]
    exact k _ _ (s6.trans (Same.upd m3)) (s6.free m3) upd_same
theorem slA_any {H : Hp} {a : Addr} {xs : List V} {lo hi : Option Int} {Q : VK} (h : Rd H a (.tup xs)) (k : ∀ H' q, Same H H' → Rd H' q (.tup (cutV xs lo hi)) → Q (.ref q) H') : rSlA K (.ref a) lo hi H Q := by
  refine ⟨a, xs, rfl, .inl h, fun w => k H a (Same.refl H) ?_, fun _ p np => k _ p (Same.upd np) (.inl upd_same)⟩
  have e : cutV xs lo hi = xs := by
    unfold cutV
    rw [w.1, w.2, List.drop_zero, Nat.sub_zero, List.take_length]
  rw [e]
  exact h
theorem catA_any {H : Hp} {a b : Addr} {xs ys : List V} {Q : VK} (h : Rd H a (.tup xs)) (h2 : Rd H b (.tup ys)) (z : xs.length + ys.length ≤ sizeLine) (k : ∀ H' q, Same H H' → Rd H' q (.tup (xs ++ ys)) → Q (.ref q) H') : rCatA K (.ref a) (.ref b) H Q := by
  refine ⟨a, b, xs, ys, rfl, rfl, .inl h, .inl h2, z, fun e => k H b (Same.refl H) ?_, fun _ e => k H a (Same.refl H) ?_, fun _ _ p np => k _ p (Same.upd np) (.inl upd_same)⟩
  · rw [e, List.nil_append]
    exact h2
  · rw [e, List.append_nil]
    exact h
theorem ok_mvT {f : Addr} {fd : FuncData} (F : Fun K "moved_ahead" "moved_ahead" sMv f fd) : FnOk P w K mg base CX0 1 f fd ["row", "place", "to"] spMvT := by
  refine F.ok scMv (fun vs H Q E h => ?_) (fun cdv A outer s H vs Q E hr h => ?_)
  · obtain ⟨l, r, p, i, rfl, _⟩ := h
    rfl
  · obtain ⟨l, r, p, i, rfl, hl, h4, hi, hp, k⟩ := h
    refine ⟨_, pss_one (ps_ret (pe_op op_catA (pe_op op_catA (pe_op op_catA
        (pe_slice sl_tupA (pv 0) po_none (po_some (pv 2)))
        (pe_slice sl_tupA (pv 0) (po_some (pv 1)) (po_some (pe_op op_add (pv 1) pe_int))))
        (pe_slice sl_tupA (pv 0) (po_some (pv 2)) (po_some (pv 1))))
        (pe_slice sl_tupA (pv 0) (po_some (pe_op op_add (pv 1) pe_int)) po_none))), ?_⟩
    have lens : ∀ {a b : List Nat}, a.length ≤ 10 → b.length ≤ 10 → (nV a).length + (nV b).length ≤ sizeLine := fun {a b} ha hb => by
      have e1 : (nV a).length = a.length := List.length_map _
      have e2 : (nV b).length = b.length := List.length_map _
      rw [e1, e2]
      exact Nat.le_trans (by omega : a.length + b.length ≤ 20) (by decide)
    have e1 : cutV (nV r) none (some (i : Int)) = nV (r.take i) := cut_to rfl (by omega)
    have e2 : cutV (nV r) (some (p : Int)) (some ((p : Int) + 1)) = nV ((r.drop p).take (p + 1 - p)) := cut_nat (j := p + 1) rfl rfl (by omega) (by omega)
    have e3 : cutV (nV r) (some (i : Int)) (some (p : Int)) = nV ((r.drop i).take (p - i)) := cut_nat rfl rfl (by omega) hi
    have e4 : cutV (nV r) (some ((p : Int) + 1)) none = nV (r.drop (p + 1)) := cut_from (i := p + 1) rfl (by omega)
    have l1 : (r.take i).length ≤ 4 := by rw [List.length_take]; omega
    have l2 : ((r.drop p).take (p + 1 - p)).length ≤ 1 := by rw [List.length_take]; omega
    have l3 : ((r.drop i).take (p - i)).length ≤ 4 := by rw [List.length_take]; omega
    have l4 : (r.drop (p + 1)).length ≤ 4 := by rw [List.length_drop]; omega
    refine ⟨_, rfl, _, rfl, _, rfl, slA_any hl fun H1 q1 s1 g1 => ?_⟩
    rw [e1] at g1
    refine ⟨_, rfl, _, rfl, _, rfl, _, rfl, _, _, rfl, rfl, _, rfl, slA_any (rd_same hl s1) fun H2 q2 s2 g2 => ?_⟩
    rw [e2] at g2
    refine catA_any (rd_same g1 s2) g2 (lens (by omega) (by omega)) fun H3 q3 s3 g3 => ?_
    rw [nV_app] at g3
    have s13 := s1.trans (s2.trans s3)
    refine ⟨_, rfl, _, rfl, _, rfl, _, rfl, _, rfl, slA_any (rd_same hl s13) fun H4 q4 s4 g4 => ?_⟩
    rw [e3] at g4
    refine catA_any (rd_same g3 s4) g4 (lens (by rw [List.length_append]; omega) (by omega)) fun H5 q5 s5 g5 => ?_
    rw [nV_app] at g5
    have s15 := s13.trans (s4.trans s5)
    refine ⟨_, rfl, _, rfl, _, _, rfl, rfl, _, rfl, ?_⟩
    dsimp only [tNoPart]
    refine slA_any (rd_same hl s15) fun H6 q6 s6 g6 => ?_
    rw [e4] at g6
    refine catA_any (rd_same g5 s6) g6 (lens (by rw [List.length_append, List.length_append]; omega) (by omega)) fun H7 q7 s7 g7 => ?_
    rw [nV_app, ← mv_cut] at g7
    exact k _ _ (s15.trans (s6.trans s7)) g7
/-! ### the steps in a row that is a tuple -/
def spStayT (K : PySem.W.Frag) : Sp := fun vs H Q _ => ∃ (l k : Addr) (r a : List Nat), vs = [.ref l, .ref k] ∧ TupF H l (nV r) ∧ SqL K H k (nV a) ∧ (∀ t ∈ a, t ∈ r) ∧
  Q (.int ((Si88.fixed r a : Nat) : Int)) H
theorem ok_stayT {f : Addr} {fd : FuncData} (F : Fun K "steps_if_it_stays" "steps_if_it_stays" sStay f fd) : FnOk P w K mg base CX0 1 f fd ["row", "asked"] (spStayT K) := by
  refine F.ok scStay (fun vs H Q E h => ?_) (fun cdv A outer s H vs Q E hr h => ?_)
  · obtain ⟨l, k, r, a, rfl, _⟩ := h
    rfl
  · obtain ⟨l, k, r, a, rfl, hl, hk, ha, q⟩ := h
    refine ⟨_, pss_cons (ps_set (i := 2) scStay.nd rfl (Or.inl rfl) pe_int)
      (pss_cons (ps_for PassesOwn.never rfl (pi_list (pv 1)) (pg_name (i := 3) scStay.nd rfl (Or.inl rfl))
        (pss_one (ps_aug (i := 2) scStay.nd rfl (Or.inl rfl) (pe_op op_add (pe_tix (pv 0) (pv 3) ⟨rfl, rfl, rfl, rfl⟩) pe_int) ip_add)))
      (pss_one (ps_ret (pv 2)))), ?_⟩
    refine ⟨_, rfl, k, rfl, ⟨_, hk⟩, for_list (K := K) (a := k) (xs := nV a) (fun i σ H' => ∃ v : Option V, σ = [some (.ref l), some (.ref k), some (.int ((Si88.fixed r (a.take i) : Nat) : Int)), v] ∧ H' = H) ⟨none, rfl, rfl⟩ (fun i σ H' _ ⟨_, _, e⟩ => e ▸ hk) ?_ ?_⟩
    · rintro i y σ H' hi ⟨v, rfl, rfl⟩
      obtain ⟨t, ht, rfl⟩ := nV_get hi
      refine ⟨_, rfl, _, rfl, l, _, rfl, hl, _, rfl, l, r, t, rfl, rfl, .inl hl.rd, ha t (List.mem_of_getElem? ht), ?_⟩
      refine ⟨_, _, rfl, rfl, _, _, rfl, rfl, some (.int (t : Int)), ?_, rfl⟩
      rw [take_more ht, fixed_snoc]
      have e : ((Si88.fixed r (a.take i) : Nat) : Int) + ((((Si88.steps r t : Nat) : Int) - 1) + 1) = ((Si88.fixed r (a.take i) + Si88.steps r t : Nat) : Int) := by omega
      rw [← e]
      rfl
    · rintro σ H' ⟨v, rfl, rfl⟩
      refine ⟨_, rfl, ?_⟩
      have e : a.take (nV a).length = a := by
        unfold nV
        rw [List.length_map, List.take_length]
      rw [e]
      exact q
theorem _root_.L2.Same.put {H H' : Hp} {g : Addr} {o : HO} (s : Same H H') (n : H g = none) : Same H (L2.upd H' g o) := fun b u e => by
  rw [upd_ne (ne_of_none e n)]
  exact s _ _ e
/-! ### lists of rows -/
def RowsF (H : Hp) (a : Addr) (rs : List (List Nat)) : Prop := ∃ qs : List Addr, H a = some (.lst (qs.map V.ref)) ∧ Paired (fun q r => TupF H q (nV r)) qs rs
theorem RowsF.same {H H' : Hp} {a : Addr} {rs : List (List Nat)} (R : RowsF H a rs) (s : Same H H') : RowsF H' a rs := by
  obtain ⟨qs, h, p⟩ := R
  exact ⟨qs, s _ _ h, Paired.mapP p fun _ _ t => t.same s⟩
theorem notup_lst {l : List V} : NoTup (.lst l) := ⟨fun _ z => (nomatch z), fun _ _ z => (nomatch z)⟩
theorem RowsF.snoc {H : Hp} {a p : Addr} {qs : List Addr} {rs : List (List Nat)} {r : List Nat} (h : H a = some (.lst (qs.map V.ref))) (R : Paired (fun q r => TupF H q (nV r)) qs rs) (t : TupF H p (nV r)) :
    RowsF (upd H a (.lst (qs.map V.ref ++ [.ref p]))) a (rs ++ [r]) := by
  refine ⟨qs ++ [p], by rw [upd_same, List.map_append]; rfl, Paired.snoc (Paired.mapP R fun _ _ z => z.off h notup_lst) (t.off h notup_lst)⟩
theorem RowsF.get {H : Hp} {qs : List Addr} {rs : List (List Nat)} (R : Paired (fun q r => TupF H q (nV r)) qs rs) {i : Nat} {x : V} (h : (qs.map V.ref)[i]? = some x) : ∃ q r, x = .ref q ∧ rs[i]? = some r ∧ TupF H q (nV r) := by
  rw [List.getElem?_map] at h
  obtain ⟨q, hq, rfl⟩ := Option.map_eq_some_iff.mp h
  obtain ⟨r, hr, t⟩ := paired_get R hq
  exact ⟨q, r, rfl, hr, t⟩
def spMore : Sp := fun vs H Q _ => ∃ (l : Addr) (rs : List (List Nat)) (n : Nat), vs = [.ref l, .int (n : Int)] ∧ RowsF H l rs ∧ rs.length ≤ 24 ∧ n ≤ 4 ∧ (∀ r ∈ rs, r.length ≤ 4) ∧
  ∀ H' a, Same H H' → H a = none → RowsF H' a (more n rs) → Q (.ref a) H'
def mores (r : List Nat) (k : Nat) : List (List Nat) := ((List.range k).filter fun t => !r.contains t).map fun t => r ++ [t]
theorem mores_succ {r : List Nat} {k : Nat} : mores r (k + 1) = mores r k ++ (if k ∈ r then [] else [r ++ [k]]) := by
  unfold mores
  rw [List.range_succ, List.filter_append, List.map_append]
  by_cases h : k ∈ r
  · rw [if_pos h, List.filter_cons_of_neg (by simpa using h)]
    rfl
  · rw [if_neg h, List.filter_cons_of_pos (by simpa using h)]
    rfl
theorem mores_le (r : List Nat) (k : Nat) : (mores r k).length ≤ k := by
  unfold mores
  rw [List.length_map]
  have := List.length_filter_le (fun t => !r.contains t) (List.range k)
  rwa [List.length_range] at this
theorem more_snoc {n : Nat} {rs : List (List Nat)} {r : List Nat} : more n (rs ++ [r]) = more n rs ++ mores r n := by
  unfold more mores
  rw [List.flatMap_append, List.flatMap_singleton]
theorem more_le {n : Nat} : ∀ rs : List (List Nat), (more n rs).length ≤ rs.length * n
  | [] => by simp [more]
  | r :: rs => by
    have ih := more_le (n := n) rs
    have e : more n (r :: rs) = mores r n ++ more n rs := rfl
    have := mores_le r n
    rw [e, List.length_append, List.length_cons, Nat.succ_mul]
    omega
theorem scMore : FnScope ["rows", "things", "longer", "row", "thing"] ["rows", "things"] (defScope sMore) := ⟨rfl, rfl, rfl, by decide +kernel, rfl, by decide +kernel, by decide +kernel⟩
theorem ok_more {f : Addr} {fd : FuncData} (F : Fun K "with_one_more" "with_one_more" sMore f fd) (T : Bn mg) : FnOk P w K mg base CX0 1 f fd ["rows", "things"] spMore := by
  refine F.ok scMore (fun vs H Q E h => ?_) (fun cdv A outer s H vs Q E hr h => ?_)
  · obtain ⟨l, rs, n, rfl, _⟩ := h
    rfl
  · obtain ⟨l, rs, n, rfl, hl, h24, hn, h4, k⟩ := h
    refine ⟨_, pss_cons (ps_set (i := 2) scMore.nd rfl (Or.inl rfl) (pe_lst pa_nil))
      (pss_cons (ps_for PassesOwn.never rfl (pi_list (pv 0)) (pg_name (i := 3) scMore.nd rfl (Or.inl rfl))
        (pss_one (ps_for PassesOwn.never rfl (pi_range1 (by rfl) T.range (pa_cons (pv 1) pa_nil)) (pg_name (i := 4) scMore.nd rfl (Or.inl rfl))
          (pss_one (ps_if (pt_cmpR op_notIn_seq (pv 4) (pv 3) (by rfl))
            (pss_one (ps_expr (pe_bm PySem.F.plainAttrs_list PySem.F.slot_list_append PySem.F.type_list_append mt_append (pv 2) (pa_cons (pe_op op_catF (pv 3) (pe_tupF (pa_cons (pv 4) pa_nil))) pa_nil)))) pss_nil)))))
      (pss_one (ps_ret (pv 2)))), ?_⟩
    obtain ⟨qs, hqs, hrows⟩ := hl
    have hlen : (qs.map V.ref).length = rs.length := by rw [List.length_map]; exact Paired.length hrows
    refine ⟨(by show 0 ≤ sizeLine; decide), fun g ng => ?_⟩
    refine ⟨_, rfl, l, rfl, ⟨_, SqL.of (Same.upd ng _ _ hqs)⟩, for_list (K := K) (a := l) (xs := qs.map V.ref) (fun i σ H' => ∃ v3 v4 : Option V, σ = [some (.ref l), some (.int (n : Int)), some (.ref g), v3, v4] ∧ Same H H' ∧ RowsF H' g (more n (rs.take i)))
      ⟨none, none, rfl, Same.upd ng, [], upd_same, .nil⟩ (fun i σ H' _ ⟨_, _, _, s', _⟩ => SqL.of (s' _ _ hqs)) ?_ ?_⟩
    · rintro i x σ H1 hi ⟨v3, v4, rfl, s1, hg⟩
      obtain ⟨q, r, rfl, hr, _⟩ := RowsF.get hrows hi
      have tq : TupF H q (nV r) := by
        obtain ⟨q', r', e, hr', t⟩ := RowsF.get hrows hi
        cases e
        rw [hr] at hr'
        cases hr'
        exact t
      have hrl := h4 r (List.mem_of_getElem? hr)
      refine ⟨_, rfl, (n : Int), rfl, by omega, by omega, for_range (lo := 0) (n := n) (fun j σ H' => ∃ v4 : Option V, σ = [some (.ref l), some (.int (n : Int)), some (.ref g), some (.ref q), v4] ∧ Same H H' ∧ RowsF H' g (more n (rs.take i) ++ mores r j)) ?_ ?_ ?_⟩
      · refine ⟨v4, rfl, s1, ?_⟩
        have e : mores r 0 = [] := rfl
        rw [e, List.append_nil]
        exact hg
      · rintro j σ H2 hj ⟨v4, rfl, s2, hg2⟩
        have ej : (0 : Int) + (j : Int) = (j : Int) := Int.zero_add _
        rw [ej]
        have tq2 := tq.same s2
        refine ⟨_, rfl, _, rfl, q, _, rfl, .inr (.inl tq2.rd), rfl, nV_flat _, ?_⟩
        refine ⟨_, rfl, ?_⟩
        rw [inV_nat (Int.natCast_nonneg j), Int.toNat_natCast, mores_succ]
        by_cases c : j ∈ r
        · rw [decide_eq_true c, if_pos c, List.append_nil]
          refine iteF ?_
          exact ⟨_, rfl, s2, hg2⟩
        · rw [decide_eq_false c, if_neg c]
          refine iteT ?_
          obtain ⟨gs, hgs, hgr⟩ := hg2
          have room : gs.length < 1000 := by
            have e1 := Paired.length hgr
            rw [List.length_append] at e1
            have e2 := more_le (n := n) (rs.take i)
            have e3 := mores_le r j
            have e4 : (rs.take i).length ≤ 24 := by rw [List.length_take]; omega
            have e5 : (rs.take i).length * n ≤ 24 * 4 := Nat.mul_le_mul e4 hn
            omega
          have e0 : ([V.int (j : Int)] : List V) = nV [j] := rfl
          refine ⟨_, rfl, .inl ⟨rfl, _, SqL.of hgs⟩, _, rfl, _, rfl, (by show 1 ≤ sizeLine; decide), fun p ob np eb => ?_⟩
          have s3 : Same H2 (upd H2 p (.frz ob (.tup [V.int (j : Int)]))) := Same.upd np
          have tp : TupF (upd H2 p (.frz ob (.tup [V.int (j : Int)]))) p (nV [j]) := TupF.new eb
          have gr3 : Paired (fun q r => TupF (upd H2 p (.frz ob (.tup [V.int (j : Int)]))) q (nV r)) gs (more n (rs.take i) ++ mores r j) := Paired.mapP hgr fun _ _ z => z.same s3
          refine ⟨q, p, nV r, [V.int (j : Int)], rfl, rfl, .inl (tq2.same s3).rd, .inl tp.rd, Nat.le_trans (m := 10) (by rw [nV_length]; show r.length + 1 ≤ 10; omega) (by decide), fun z => (nomatch z), fun hr0 => ?_, fun hr0 p2 ob2 np2 eb2 => ?_⟩
          · refine ⟨g, _, _, rfl, rfl, s3 _ _ hgs, by rw [List.length_map]; exact small1000 (by omega), ?_⟩
            have er : r = [] := by
              cases r with
              | nil => rfl
              | cons => cases hr0
            refine ⟨_, rfl, (s2.trans s3).put ng, ?_⟩
            rw [← List.append_assoc]
            exact RowsF.snoc (s3 _ _ hgs) gr3 (by rw [er]; exact tp)
          · have s4 : Same (upd H2 p (.frz ob (.tup [V.int (j : Int)]))) (upd (upd H2 p (.frz ob (.tup [V.int (j : Int)]))) p2 (.frz ob2 (.tup (nV r ++ [V.int (j : Int)])))) := Same.upd np2
            refine ⟨g, _, _, rfl, rfl, s4 _ _ (s3 _ _ hgs), by rw [List.length_map]; exact small1000 (by omega), ?_⟩
            refine ⟨_, rfl, ((s2.trans s3).trans s4).put ng, ?_⟩
            rw [← List.append_assoc]
            refine RowsF.snoc (s4 _ _ (s3 _ _ hgs)) (Paired.mapP gr3 fun _ _ z => z.same s4) ?_
            rw [← nV_app]
            exact TupF.new eb2
      · rintro σ H2 ⟨v4, rfl, s2, hg2⟩
        refine ⟨_, v4, rfl, s2, ?_⟩
        rw [take_more hr, more_snoc]
        exact hg2
    · rintro σ H1 ⟨v3, v4, rfl, s1, hg⟩
      refine ⟨_, rfl, k H1 g s1 ng ?_⟩
      rw [hlen, List.take_length] at hg
      exact hg
def spAll : Sp := fun vs H Q _ => ∃ n : Nat, vs = [.int (n : Int)] ∧ n ≤ 4 ∧ ∀ H' a, Same H H' → H a = none → RowsF H' a (allRows n) → Q (.ref a) H'
structure More (K : PySem.W.Frag) (mg : Str → Option Value) (f : Addr) (fd : FuncData) : Prop where
  F : Fun K "with_one_more" "with_one_more" sMore f fd
  g : mg "with_one_more" = some (.ref f)
  b : Binds K fd ["rows", "things"] []
theorem scAll : FnScope ["things", "rows", "length"] ["things"] (defScope sAll) := ⟨rfl, rfl, rfl, by decide +kernel, rfl, by decide +kernel, by decide +kernel⟩
theorem ok_all {f fM : Addr} {fd fdM : FuncData} (F : Fun K "all_rows" "all_rows" sAll f fd) (T : Bn mg) (M : More K mg fM fdM) : FnOk P w K mg base CX0 2 f fd ["things"] spAll := by
  have GM : FnOk P w K mg base CX0 1 fM fdM ["rows", "things"] spMore := ok_more M.F T
  refine F.ok scAll (fun vs H Q E h => ?_) (fun cdv A outer s H vs Q E hr h => ?_)
  · obtain ⟨n, rfl, _⟩ := h
    rfl
  · obtain ⟨n, rfl, hn, k⟩ := h
    refine ⟨_, pss_cons (ps_set (i := 1) scAll.nd rfl (Or.inl rfl) (pe_lst (pa_cons (pe_tupF pa_nil) pa_nil)))
      (pss_cons (ps_for PassesOwn.never rfl (pi_range1 (by rfl) T.range (pa_cons (pv 0) pa_nil)) (pg_name (i := 2) scAll.nd rfl (Or.inl rfl))
        (pss_one (ps_set (i := 1) scAll.nd rfl (Or.inl rfl) (pe_call GM hr (by rfl) M.g M.F.kp M.b .nil pass0 (pa_cons (pv 1) (pa_cons (pv 0) pa_nil))))))
      (pss_one (ps_ret (pv 1)))), ?_⟩
    refine ⟨(by show 0 ≤ sizeLine; decide), fun p ob np eb => ⟨(by show 1 ≤ sizeLine; decide), fun a na => ?_⟩⟩
    have s1 : Same H (upd H p (.frz ob (.tup []))) := Same.upd np
    have s2 := s1.trans (Same.upd (o := .lst [.ref p]) na)
    have t2 : TupF (upd (upd H p (.frz ob (.tup []))) a (.lst [.ref p])) p (nV []) := TupF.same (TupF.new eb) (Same.upd na)
    refine ⟨_, rfl, (n : Int), rfl, by omega, by omega, for_range (lo := 0) (n := n) (fun j σ H' => ∃ (b : Addr) (v2 : Option V), σ = [some (.int (n : Int)), some (.ref b), v2] ∧ Same H H' ∧ H b = none ∧ RowsF H' b (mRows n j)) ?_ ?_ ?_⟩
    · exact ⟨a, none, rfl, s2, s1.free na, [p], upd_same, .cons t2 .nil⟩
    · rintro j σ H2 hj ⟨b, v2, rfl, s3, nb, R⟩
      refine ⟨_, rfl, _, rfl, b, mRows n j, n, rfl, R, mRows_length hn (by omega), hn, fun r hr => by rw [mRows_each r hr]; omega, fun H3 c s4 nc R3 => ?_⟩
      exact ⟨c, _, rfl, s3.trans s4, s3.free nc, R3⟩
    · rintro σ H2 ⟨b, v2, rfl, s3, nb, R⟩
      refine ⟨_, rfl, k H2 b s3 nb ?_⟩
      rw [← mRows_is hn]
      exact R
end
end Cr

namespace Cr
open PySem PySem.Spec PyProof.Rows L2
open PySem.W (Codec)
abbrev sBest : Stmt := top 7
def spBest (K : PySem.W.Frag) : Sp := fun vs H Q _ => ∃ (k : Addr) (n : Nat) (a : List Nat) (x : Si88.Best), vs = [.int (n : Int), .ref k] ∧ SqL K H k (nV a) ∧ n ≤ 4 ∧ (∀ t ∈ a, t < n) ∧ Found (fun r => Si88.fixed r a) (allRows n) x ∧
  ∀ H' p, Same H H' → H p = none → H' p = some (.lst ([V.int (x.steps : Int), V.int (x.many : Int)] ++ nV x.row)) → Q (.ref p) H'
theorem count_nat (m : Nat) : ∀ l : List Nat, (l.map fun m : Nat => (m : Int)).count (m : Int) = l.count m
  | [] => rfl
  | x :: l => by
    rw [List.map_cons, List.count_cons, List.count_cons, count_nat m l]
    by_cases e : x = m
    · subst e
      simp
    · have e' : ¬ (x : Int) = (m : Int) := fun z => e (Int.ofNat_inj.mp z)
      simp [e, e']
structure All (K : PySem.W.Frag) (mg : Str → Option Value) (f : Addr) (fd : FuncData) : Prop where
  F : Fun K "all_rows" "all_rows" sAll f fd
  g : mg "all_rows" = some (.ref f)
  b : Binds K fd ["things"] []
section
variable {P : Program} {w : World} {K : PySem.W.Frag} {mg : Str → Option Value} {base : Heap}
theorem scBest : FnScope ["things", "asked", "rows", "steps", "fewest", "first", "row"] ["things", "asked"] (defScope sBest) := ⟨rfl, rfl, rfl, by decide +kernel, rfl, by decide +kernel, by decide +kernel⟩
theorem ok_best {f fA fM fS : Addr} {fd fdA fdM fdS : FuncData} (F : Fun K "best_that_stays" "best_that_stays" sBest f fd) (T : Bn mg) (hmin : mg "min" = none) (A' : All K mg fA fdA) (M : More K mg fM fdM) (W : Stay K mg fS fdS) :
    FnOk P w K mg base CX0 3 f fd ["things", "asked"] (spBest K) := by
  have GA : FnOk P w K mg base CX0 2 fA fdA ["things"] spAll := ok_all A'.F T M
  have GS : FnOk P w K mg base CX0 1 fS fdS ["row", "asked"] (spStayT K) := ok_stayT W.F
  refine F.ok scBest (fun vs H Q E h => ?_) (fun cdv A outer s H vs Q E hr h => ?_)
  · obtain ⟨k, n, a, x, rfl, _⟩ := h
    rfl
  · obtain ⟨k, n, a, x, rfl, hk, hn, ha, hx, q⟩ := h
    refine ⟨_, pss_cons (ps_set (i := 2) scBest.nd rfl (Or.inl rfl) (pe_call GA hr (by rfl) A'.g A'.F.kp A'.b .nil pass0 (pa_cons (pv 0) pa_nil)))
      (pss_cons (ps_setLc (i := 3) (own := [("row", 6)]) (g := gName 6) (tt := tYes) rfl scBest.nd rfl rfl (sw_true rfl rfl rfl (by decide +kernel)) (pi_list (pv 2)) (blkOk_by (N := ["things", "asked", "rows", "steps", "fewest", "first", "row"]) (own := [("row", 6)]) (sc := defScope sBest) (by decide +kernel)) (fun _ _ _ _ _ => pg_name (i := 6) scBest.nd rfl (Or.inl rfl)) (fun _ _ _ _ _ => pts_nil)
        (fun _ _ _ _ _ => pe_call GS (hr.mono (by decide)) (by rfl) W.g W.F.kp W.b .nil pass0 (pa_cons (pv 6) (pa_cons (pv 1) pa_nil))))
      (pss_cons (ps_set (i := 4) scBest.nd rfl (Or.inl rfl) (pe_callB (cr_min rfl) (by rfl) hmin (by decide +kernel) (pa_cons (pv 3) pa_nil)))
      (pss_cons (ps_set (i := 5) scBest.nd rfl (Or.inl rfl) (pe_ix ix_list (pv 2) (pe_bm PySem.F.plainAttrs_list PySem.F.slot_list_index PySem.F.type_list_index mt_index (pv 3) (pa_cons (pv 4) pa_nil)) (fun _ _ => rfl)))
      (pss_one (ps_ret (pe_op op_cat (pe_lst (pa_cons (pv 4) (pa_cons (pe_bm PySem.F.plainAttrs_list PySem.F.slot_list_count PySem.F.type_list_count mt_lcount (pv 3) (pa_cons (pv 4) pa_nil)) pa_nil)))
        (pe_callTy call_list_of (by rfl) T.list (by decide +kernel) (pa_cons (pv 5) pa_nil)))))))), ?_⟩
    -- rows = all_rows(things)
    refine ⟨_, rfl, n, rfl, hn, fun H1 rw1 s1 n1 R => ?_⟩
    obtain ⟨qs, hqs, hrows⟩ := id R
    have hlen : (qs.map V.ref).length = (allRows n).length := by rw [List.length_map]; exact Paired.length hrows
    have h24 := allRows_length hn
    -- steps = [.. for row in rows]
    refine ⟨_, rfl, rw1, rfl, ⟨_, SqL.of hqs⟩, fun D nD => lc_list (K := K) (a := rw1) (xs := qs.map V.ref) (fun i H' => Same H1 H' ∧ H' D = some (.lst (nV (((allRows n).take i).map fun r => Si88.fixed r a)))) ?_ ?_ ?_ ?_⟩
    · exact ⟨Same.upd nD, upd_same⟩
    · rintro i H' _ ⟨s', _⟩
      exact SqL.of (s' _ _ hqs)
    · rintro i y H' hi ⟨s', hD⟩
      obtain ⟨q', r, rfl, hr, tq⟩ := RowsF.get hrows hi
      have hmem : r ∈ allRows n := List.mem_of_getElem? hr
      refine ⟨rfl, _, rfl, _, rfl, q', k, r, a, rfl, tq.same s', (s1.trans s').seq hk, fun t ht => (row_at hmem).mpr (ha t ht), ?_⟩
      refine ⟨_, hD, ?_, s'.put nD, ?_⟩
      · rw [nV_length, List.length_map, List.length_take]
        exact small1000 (by omega)
      · rw [upd_same, take_more hr, List.map_append, ← nV_app]
        rfl
    · rintro H2 ⟨s2, hD⟩
      rw [hlen, List.take_length] at hD
      -- fewest = min(steps)
      have hss : nV ((allRows n).map fun r => Si88.fixed r a) = (((allRows n).map fun r => Si88.fixed r a).map fun m : Nat => (m : Int)).map V.int := nV_int _
      have ne : 0 < ((allRows n).map fun r => Si88.fixed r a).length := by
        rw [List.length_map]
        exact List.length_pos_iff.mpr fun e => by
          have : List.range n ∈ allRows n := mem_allRows.mpr (.refl _)
          rw [e] at this
          cases this
      refine ⟨_, rfl, D, _, rfl, SqL.of (by rw [← hss]; exact hD), by rw [List.length_map]; exact ne, fun m hm hle => ?_⟩
      obtain ⟨m', hm', rfl⟩ := List.mem_map.mp hm
      have hle' : ∀ y ∈ (allRows n).map (fun r => Si88.fixed r a), m' ≤ y := fun y hy => Int.ofNat_le.mp (hle _ (List.mem_map_of_mem hy))
      -- first = rows[steps.index(fewest)]
      obtain ⟨j, hj1, hj2⟩ := at_of_mem hm'
      obtain ⟨r, hr, hrm⟩ : ∃ r, (allRows n)[j]? = some r ∧ Si88.fixed r a = m' := by
        rw [List.getElem?_map] at hj1
        exact Option.map_eq_some_iff.mp hj1
      have hfound := best_of (f := fun r => Si88.fixed r a) hle' hr hrm hj2
      have ex := hx.unique hfound
      subst ex
      have hD3 : SqL K H2 D (nV ((allRows n).map fun r => Si88.fixed r a)) := SqL.of hD
      refine ⟨_, rfl, _, rfl, .inl ⟨rfl, _, hD3⟩, _, rfl, ?_⟩
      dsimp only [tNil]
      refine index_nat hD3 hm' ?_
      rw [steps_at hj1 hj2]
      have ej : ((j + 1 : Nat) : Int) - 1 = (j : Int) := by omega
      rw [ej]
      obtain ⟨q1, hq1, tq1⟩ : ∃ q1, (qs.map V.ref)[j]? = some (.ref q1) ∧ TupF H1 q1 (nV r) := by
        have hjl : j < (qs.map V.ref).length := by rw [hlen]; exact (List.getElem?_eq_some_iff.mp hr).1
        obtain ⟨q', r', e, hr', t'⟩ := RowsF.get hrows (List.getElem?_eq_getElem hjl)
        rw [hr] at hr'
        cases hr'
        exact ⟨q', by rw [← e]; exact List.getElem?_eq_getElem hjl, t'⟩
      refine ⟨rw1, _, _, _, rfl, rfl, SqL.of (s2 _ _ hqs), atI_nat hq1, ?_⟩
      -- return [fewest, steps.count(fewest)] + list(first)
      refine ⟨_, rfl, _, rfl, .inl ⟨rfl, _, hD3⟩, _, rfl, D, _, _, rfl, rfl, by rw [← hss]; exact hD3, ?_⟩
      refine ⟨(by show 2 ≤ sizeLine; decide), fun c nc => ?_⟩
      have s3 : Same H2 (upd H2 c (.lst [V.int (m' : Int), V.int ((((allRows n).map fun r => Si88.fixed r a).map fun m : Nat => (m : Int)).count (m' : Int) : Nat)])) := Same.upd nc
      refine ⟨_, rfl, q1, _, rfl, .inr (.inl ((tq1.same s2).same s3).rd), fun e ne' => ?_⟩
      refine ⟨_, _, _, _, rfl, rfl, (Same.upd ne') _ _ upd_same, upd_same, ?_, fun p np => ?_⟩
      · rw [nV_length, row_length (List.mem_of_getElem? hr)]
        exact Nat.le_trans (m := 6) (by show 2 + n ≤ 6; omega) (by decide)
      · refine q _ p ((s1.trans s2).trans (s3.trans ((Same.upd ne').trans (Same.upd np)))) ?_ ?_
        · exact ((s1.trans s2).trans (s3.trans (Same.upd ne'))).free np
        · rw [upd_same, count_nat]
end
end Cr

namespace Cr
open PySem PySem.Spec PyProof.Rows L2
open PySem.W (Codec)
abbrev sEx : Stmt := top 9
abbrev sBetw : Stmt := top 10
def spEx : Sp := fun vs H Q _ => ∃ (p q : Addr) (n : Nat) (one other : List Nat), vs = [.ref p, .ref q] ∧ TupF H p (nV one) ∧ TupF H q (nV other) ∧ n ≤ 4 ∧ one ∈ allRows n ∧ other ∈ allRows n ∧ Q (.int (Si88.apart one other : Nat)) H
theorem row_get {n i : Nat} {r : List Nat} (h : r ∈ allRows n) (hi : i < n) : r[i]? = some (r.getD i 0) ∧ r.getD i 0 < n := by
  have hl : i < r.length := by rw [row_length h]; exact hi
  have e : r.getD i 0 = r[i] := by
    rw [List.getD_eq_getElem?_getD, List.getElem?_eq_getElem hl]
    rfl
  rw [e]
  exact ⟨List.getElem?_eq_getElem hl, (row_at h).mp (List.getElem_mem hl)⟩
section
variable {P : Program} {w : World} {K : PySem.W.Frag} {mg : Str → Option Value} {base : Heap}
theorem scEx : FnScope ["one", "other", "pairs", "place", "ahead"] ["one", "other"] (defScope sEx) := ⟨rfl, rfl, rfl, by decide +kernel, rfl, by decide +kernel, by decide +kernel⟩
theorem ok_ex {f : Addr} {fd : FuncData} (F : Fun K "exchanges" "exchanges" sEx f fd) (T : Bn mg) : FnOk P w K mg base CX0 1 f fd ["one", "other"] spEx := by
  refine F.ok scEx (fun vs H Q E h => ?_) (fun cdv A outer s H vs Q E hr h => ?_)
  · obtain ⟨p, q, n, one, other, rfl, _⟩ := h
    rfl
  · obtain ⟨p, q, n, one, other, rfl, h1, h2, hn, m1, m2, k⟩ := h
    refine ⟨_, pss_cons (ps_set (i := 2) scEx.nd rfl (Or.inl rfl) pe_int)
      (pss_cons (ps_for PassesOwn.never rfl (pi_range1 (by rfl) T.range (pa_cons (pe_callB call_len_seq (by rfl) T.len PySem.boot_len (pa_cons (pv 0) pa_nil)) pa_nil)) (pg_name (i := 3) scEx.nd rfl (Or.inl rfl))
        (pss_one (ps_for PassesOwn.never rfl (pi_range1 (by rfl) T.range (pa_cons (pv 3) pa_nil)) (pg_name (i := 4) scEx.nd rfl (Or.inl rfl))
          (pss_one (ps_if (pt_cmpR op_lt (pe_tix (pv 1) (pe_ix ix_tup (pv 0) (pv 3) (fun _ _ => rfl)) ⟨rfl, rfl, rfl, rfl⟩) (pe_tix (pv 1) (pe_ix ix_tup (pv 0) (pv 4) (fun _ _ => rfl)) ⟨rfl, rfl, rfl, rfl⟩) (nomark _))
            (pss_one (ps_aug (i := 2) scEx.nd rfl (Or.inl rfl) pe_int ip_add)) pss_nil)))))
      (pss_one (ps_ret (pv 2)))), ?_⟩
    have l1 : (nV one).length = n := by rw [nV_length, row_length m1]
    refine ⟨_, rfl, p, _, rfl, .inr (.inl h1.rd), ?_⟩
    rw [l1]
    refine ⟨(n : Int), rfl, by omega, by omega, for_range (lo := 0) (n := n) (fun j σ H' => ∃ v3 v4 : Option V, σ = [some (.ref p), some (.ref q), some (.int (invs one other j : Nat)), v3, v4] ∧ H' = H) ?_ ?_ ?_⟩
    · exact ⟨none, none, rfl, rfl⟩
    · rintro j σ H' hj ⟨v3, v4, rfl, rfl⟩
      have ej : (0 : Int) + (j : Int) = (j : Int) := Int.zero_add _
      rw [ej]
      refine ⟨_, rfl, (j : Int), rfl, by omega, by omega, for_range (lo := 0) (n := j) (fun i σ H2 => ∃ v4 : Option V, σ = [some (.ref p), some (.ref q), some (.int (invs one other j + inv1 one other j i : Nat)), some (.int (j : Int)), v4] ∧ H2 = H') ?_ ?_ ?_⟩
      · exact ⟨v4, rfl, rfl⟩
      · rintro i σ H2 hi ⟨v4, rfl, rfl⟩
        have ei : (0 : Int) + (i : Int) = (i : Int) := Int.zero_add _
        rw [ei]
        obtain ⟨g1, b1⟩ := row_get m1 hj
        obtain ⟨g2, b2⟩ := row_get (i := i) m1 (by omega)
        refine ⟨_, rfl, q, _, rfl, h2, _, rfl, _, rfl, p, _, _, _, rfl, rfl, .inl h1.rd, atI_nat (nV_at g1), q, other, _, rfl, rfl, .inl h2.rd, (row_at m2).mpr b1, ?_⟩
        refine ⟨_, rfl, q, _, rfl, h2, _, rfl, _, rfl, p, _, _, _, rfl, rfl, .inl h1.rd, atI_nat (nV_at g2), q, other, _, rfl, rfl, .inl h2.rd, (row_at m2).mpr b2, ?_⟩
        refine ⟨_, _, rfl, rfl, _, rfl, ?_⟩
        rw [inv1_succ]
        refine ite2 (fun c => ?_) (fun c => ?_)
        · have c' := of_decide_eq_true c
          have c2 : Si88.steps other (one.getD j 0) < Si88.steps other (one.getD i 0) := by omega
          rw [if_pos c2]
          exact ⟨_, rfl, _, _, rfl, rfl, some (.int (i : Int)), rfl, rfl⟩
        · have c' : ¬ ((Si88.steps other (one.getD j 0) : Nat) : Int) - 1 < ((Si88.steps other (one.getD i 0) : Nat) : Int) - 1 := fun z => c (decide_eq_true z)
          have c2 : ¬ Si88.steps other (one.getD j 0) < Si88.steps other (one.getD i 0) := by omega
          rw [if_neg c2]
          exact ⟨_, rfl, rfl⟩
      · rintro σ H2 ⟨v4, rfl, rfl⟩
        refine ⟨some (.int (j : Int)), v4, ?_, rfl⟩
        rw [invs_succ]
    · rintro σ H' ⟨v3, v4, rfl, rfl⟩
      refine ⟨_, rfl, ?_⟩
      rw [invs_is hn m1 m2]
      exact k
/-! ### what lies between the rows -/
structure Ex (K : PySem.W.Frag) (mg : Str → Option Value) (f : Addr) (fd : FuncData) : Prop where
  F : Fun K "exchanges" "exchanges" sEx f fd
  g : mg "exchanges" = some (.ref f)
  b : Binds K fd ["one", "other"] []
/-- all that is between is told -/
def Told (n : Nat) (kvs : List ((List Nat × List Nat) × V)) : Prop := ∀ one ∈ allRows n, ∀ other ∈ allRows n, valV kvs (one, other) = some (.int (Si88.apart one other : Nat))
def spBetw (P : Program) (w : World) : Sp := fun vs H Q _ => ∃ (l : Addr) (n : Nat), vs = [.ref l] ∧ n ≤ 4 ∧ RowsF H l (allRows n) ∧
  ∀ H' d u kvs, Same H H' → H d = none → H' d = some u → RD TP P w H' d u kvs → Told n kvs → Q (.ref d) H'
theorem tupF_get {H : Hp} {qs : List Addr} {rs : List (List Nat)} (R : Paired (fun q r => TupF H q (nV r)) qs rs) {i : Nat} {x : V} (h : (qs.map V.ref)[i]? = some x) {H' : Hp} (s : Same H H') : ∃ q r, x = .ref q ∧ rs[i]? = some r ∧ TupF H' q (nV r) := by
  obtain ⟨q, r, e, hr, t⟩ := RowsF.get R h
  exact ⟨q, r, e, hr, t.same s⟩
theorem scBetw : FnScope ["rows", "between", "one", "other"] ["rows"] (defScope sBetw) := ⟨rfl, rfl, rfl, by decide +kernel, rfl, by decide +kernel, by decide +kernel⟩
theorem ok_betw {f fE : Addr} {fd fdE : FuncData} (F : Fun K "exchanges_between" "exchanges_between" sBetw f fd) (T : Bn mg) (X : Ex K mg fE fdE) : FnOk P w K mg base CX0 2 f fd ["rows"] (spBetw P w) := by
  have GE : FnOk P w K mg base CX0 1 fE fdE ["one", "other"] spEx := ok_ex X.F T
  refine F.ok scBetw (fun vs H Q E h => ?_) (fun cdv A outer s H vs Q E hr h => ?_)
  · obtain ⟨l, n, rfl, _⟩ := h
    rfl
  · obtain ⟨l, n, rfl, hn, hl, k⟩ := h
    refine ⟨_, pss_cons (ps_set (i := 1) scBetw.nd rfl (Or.inl rfl) (pe_dnewR (T := TP)))
      (pss_cons (ps_for PassesOwn.never rfl (pi_list (pv 0)) (pg_name (i := 2) scBetw.nd rfl (Or.inl rfl))
        (pss_one (ps_for PassesOwn.never rfl (pi_list (pv 0)) (pg_name (i := 3) scBetw.nd rfl (Or.inl rfl))
          (pss_one (ps_dputR (T := TP) hr.units (pv 1) (pe_tup (pa_cons (pv 2) (pa_cons (pv 3) pa_nil))) (pe_call GE hr (by rfl) X.g X.F.kp X.b .nil pass0 (pa_cons (pv 2) (pa_cons (pv 3) pa_nil))) rfl)))))
      (pss_one (ps_ret (pv 1)))), ?_⟩
    obtain ⟨qs, hqs, hrows⟩ := hl
    have hlen : (qs.map V.ref).length = (allRows n).length := by rw [List.length_map]; exact Paired.length hrows
    have h24 := allRows_length hn
    intro d u nd D0
    have sd : Same H (upd H d u) := Same.upd nd
    refine ⟨_, rfl, l, rfl, ⟨_, SqL.of (sd _ _ hqs)⟩, for_list (K := K) (a := l) (xs := qs.map V.ref) (fun i σ H' => ∃ (u : HO) (kvs : List ((List Nat × List Nat) × V)) (v2 v3 : Option V), σ = [some (.ref l), some (.ref d), v2, v3] ∧ Same H H' ∧ H' d = some u ∧ RD TP P w H' d u kvs ∧ kvs.length ≤ i * 24 ∧
        ∀ one ∈ (allRows n).take i, ∀ other ∈ allRows n, valV kvs (one, other) = some (.int (Si88.apart one other : Nat))) ?_ ?_ ?_ ?_⟩
    · exact ⟨u, [], none, none, rfl, sd, upd_same, D0, Nat.zero_le _, fun one h => by rw [List.take_zero] at h; cases h⟩
    · rintro i σ H' _ ⟨_, _, _, _, _, s', _⟩
      exact SqL.of (s' _ _ hqs)
    · rintro i x σ H1 hi ⟨u1, kvs1, v2, v3, rfl, s1, hd1, D1, z1, t1⟩
      obtain ⟨q1, one, rfl, hr1, _⟩ := tupF_get hrows hi (Same.refl H)
      have m1 : one ∈ allRows n := List.mem_of_getElem? hr1
      have hi' : i < 24 := Nat.lt_of_lt_of_le (List.getElem?_eq_some_iff.mp hr1).1 h24
      refine ⟨_, rfl, l, rfl, ⟨_, SqL.of (s1 _ _ hqs)⟩, for_list (K := K) (a := l) (xs := qs.map V.ref) (fun j σ H' => ∃ (u : HO) (kvs : List ((List Nat × List Nat) × V)) (v3 : Option V), σ = [some (.ref l), some (.ref d), some (.ref q1), v3] ∧ Same H H' ∧ H' d = some u ∧ RD TP P w H' d u kvs ∧ kvs.length ≤ i * 24 + j ∧
        (∀ one ∈ (allRows n).take i, ∀ other ∈ allRows n, valV kvs (one, other) = some (.int (Si88.apart one other : Nat))) ∧ ∀ other ∈ (allRows n).take j, valV kvs (one, other) = some (.int (Si88.apart one other : Nat))) ?_ ?_ ?_ ?_⟩
      · exact ⟨u1, kvs1, v3, rfl, s1, hd1, D1, z1, t1, fun other h => by rw [List.take_zero] at h; cases h⟩
      · rintro j σ H' _ ⟨_, _, _, _, s', _⟩
        exact SqL.of (s' _ _ hqs)
      · rintro j y σ H2 hj ⟨u2, kvs2, v3, rfl, s2, hd2, D2, z2, t2, w2⟩
        obtain ⟨q2, other, rfl, hr2, tq2⟩ := tupF_get hrows hj s2
        obtain ⟨q1', one', e1, hr1', tq1⟩ := tupF_get hrows hi s2
        cases e1
        rw [hr1] at hr1'
        cases hr1'
        have m2 : other ∈ allRows n := List.mem_of_getElem? hr2
        have hj' : j < 24 := Nat.lt_of_lt_of_le (List.getElem?_eq_some_iff.mp hr2).1 h24
        refine ⟨_, rfl, _, rfl, q1, q2, n, one, other, rfl, tq1, tq2, hn, m1, m2, _, rfl, _, rfl, _, rfl, (by show 2 ≤ sizeLine; decide), fun p np => ?_⟩
        have s3 : Same H2 (upd H2 p (.tup [.ref q1, .ref q2])) := Same.upd np
        refine ⟨d, p, u2, kvs2, (one, other), rfl, rfl, s3 _ _ hd2, D2.same s3, ⟨q1, q2, .inl upd_same, (tq1.same s3).rd, (tq2.same s3).rd⟩, Nat.lt_of_le_of_lt (m := 1000) (by omega) (by decide), fun u' D' => ?_⟩
        refine ⟨u', _, _, rfl, (s2.trans s3).put nd, upd_same, D', ?_, fun a ha b hb => ?_, fun b hb => ?_⟩
        · have := length_putK kvs2 (one, other) (.int (Si88.apart one other : Nat))
          omega
        · rw [valV_put]
          by_cases e : (a, b) = (one, other)
          · cases e
            rw [if_pos rfl]
          · rw [if_neg e]
            exact t2 a ha b hb
        · rw [valV_put]
          by_cases e : (one, b) = (one, other)
          · cases e
            rw [if_pos rfl]
          · rw [if_neg e]
            rw [take_more hr2] at hb
            rcases List.mem_append.mp hb with hb | hb
            · exact w2 b hb
            · exact absurd (by rw [List.mem_singleton.mp hb]) e
      · rintro σ H2 ⟨u2, kvs2, v3, rfl, s2, hd2, D2, z2, t2, w2⟩
        rw [hlen] at z2 w2
        rw [List.take_length] at w2
        refine ⟨u2, kvs2, _, v3, rfl, s2, hd2, D2, by omega, fun a ha b hb => ?_⟩
        rw [take_more hr1] at ha
        rcases List.mem_append.mp ha with ha | ha
        · exact t2 a ha b hb
        · rw [List.mem_singleton.mp ha]
          exact w2 b hb
    · rintro σ H1 ⟨u1, kvs1, v2, v3, rfl, s1, hd1, D1, z1, t1⟩
      rw [hlen, List.take_length] at t1
      exact ⟨_, rfl, k H1 d u1 kvs1 s1 nd hd1 D1 t1⟩
end
end Cr

namespace Cr
open PySem PySem.Spec PyProof.Rows L2
open PySem.W (Codec)
abbrev sLex : Stmt := top 11
abbrev sPut : Stmt := top 12
/-- rows that are tuples without a dict of their own -/
def TF : KeyTy (List Nat) where
  nk := nkR
  At := fun H b r => TupF H b (nV r)
  inj := nkR_inj
  same := TupF.same
  off := fun hd nt t => t.off hd nt
  is := fun ok t => TR.is ok t.rd
/-- rows and numbers, as the dict holds them -/
def dv (ls : List (List Nat × Nat)) : List (List Nat × V) := ls.map fun p => (p.1, V.int (p.2 : Int))
theorem dv_length (ls : List (List Nat × Nat)) : (dv ls).length = ls.length := List.length_map _
theorem dv_get {ls : List (List Nat × Nat)} {i : Nat} {k : List Nat} {v : V} (h : (dv ls)[i]? = some (k, v)) : ∃ m, ls[i]? = some (k, m) ∧ v = .int (m : Int) := by
  unfold dv at h
  rw [List.getElem?_map] at h
  obtain ⟨p, hp, e⟩ := Option.map_eq_some_iff.mp h
  injection e with e1 e2
  subst e1
  exact ⟨p.2, hp, e2.symm⟩
theorem dv_val : ∀ {ls : List (List Nat × Nat)} {k : List Nat} {m : Nat}, (ls.map (·.1)).Nodup → (k, m) ∈ ls → valV (dv ls) k = some (.int (m : Int))
  | [], _, _, _, h => by cases h
  | p :: ls, k, m, d, h => by
    rw [List.map_cons, List.nodup_cons] at d
    have e : dv (p :: ls) = (p.1, V.int (p.2 : Int)) :: dv ls := rfl
    rw [e]
    rcases List.mem_cons.mp h with rfl | h
    · exact valV_pos rfl
    · rw [valV_neg (fun z => d.1 (by rw [show p.1 = k from z]; exact List.mem_map_of_mem (f := (·.1)) h)), dv_val d.2 h]
theorem dv_none : ∀ {ls : List (List Nat × Nat)} {k : List Nat}, k ∉ ls.map (·.1) → valV (dv ls) k = none
  | [], _, _ => rfl
  | p :: ls, k, h => by
    rw [List.map_cons] at h
    have e : dv (p :: ls) = (p.1, V.int (p.2 : Int)) :: dv ls := rfl
    rw [e, valV_neg (fun z => h (List.mem_cons.mpr (.inl z.symm))), dv_none fun m => h (List.mem_cons_of_mem _ m)]
/-- a thing was locked and is as it was -/
theorem unlock_same {H H' : Hp} {d : Addr} {u : HO} {ob : Obj} (h : H d = some u) (s : Same (upd H d (.frz ob u)) H') : Same H (upd H' d u) := fun b o e => by
  by_cases hb : b = d
  · subst hb
    rw [h] at e
    cases e
    exact upd_same
  · rw [upd_ne hb]
    exact s _ _ (by rw [upd_ne hb]; exact e)
theorem tick {H H' : Hp} {d b : Addr} {u o : HO} {ob : Obj} (s : Same (upd H d (.frz ob u)) H') (hb : H' b = some o) (ne : ∀ ob', o ≠ .frz ob' u) : (upd H' d u) b = some o := by
  rw [upd_ne (fun e => by
    have := s d _ upd_same
    rw [← e, hb] at this
    exact ne _ (Option.some.inj this))]
  exact hb
def toRow (ls : List (List Nat × Nat)) (q : List Nat) : List Nat := ls.map fun s => s.2 + Si88.apart s.1 q
def exch (ls : List (List Nat × Nat)) (rs : List (List Nat)) : List (List Nat × Nat) := rs.map fun q => (q, Si88.leastOf (toRow ls q))
def spLex (P : Program) (w : World) : Sp := fun vs H Q _ => ∃ (dl l db : Addr) (ul ub : HO) (n : Nat) (ls : List (List Nat × Nat)) (kb : List ((List Nat × List Nat) × V)), vs = [.ref dl, .ref l, .ref db] ∧ n ≤ 4 ∧ H dl = some ul ∧ RD TR P w H dl ul (dv ls) ∧
  ls ≠ [] ∧ ls.length ≤ 96 ∧ (ls.map (·.1)).Nodup ∧ (∀ p ∈ ls, p.1 ∈ allRows n) ∧ RowsF H l (allRows n) ∧ H db = some ub ∧ RD TP P w H db ub kb ∧ Told n kb ∧
  ∀ H' d u, Same H H' → H d = none → H' d = some u → RD TF P w H' d u (dv (exch ls (allRows n))) → Q (.ref d) H'
section
variable {P : Program} {w : World} {K : PySem.W.Frag} {mg : Str → Option Value} {base : Heap}
theorem scLex : FnScope ["least", "rows", "between", "exchanged", "row", "start"] ["least", "rows", "between"] (defScope sLex) := ⟨rfl, rfl, rfl, by decide +kernel, rfl, by decide +kernel, by decide +kernel⟩
theorem ok_lex {f : Addr} {fd : FuncData} (F : Fun K "least_once_exchanged" "least_once_exchanged" sLex f fd) (hmin : mg "min" = none) : FnOk P w K mg base CX0 1 f fd ["least", "rows", "between"] (spLex P w) := by
  refine F.ok scLex (fun vs H Q E h => ?_) (fun cdv A outer s H vs Q E hr h => ?_)
  · obtain ⟨dl, l, db, ul, ub, n, ls, kb, rfl, _⟩ := h
    rfl
  · obtain ⟨dl, l, db, ul, ub, n, ls, kb, rfl, hn, hdl, DL, hne, h96, hnd, hin, hl, hdb, DB, told, k⟩ := h
    refine ⟨_, pss_cons (ps_set (i := 3) scLex.nd rfl (Or.inl rfl) (pe_dnewR (T := TF)))
      (pss_cons (ps_for PassesOwn.never rfl (pi_list (pv 1)) (pg_name (i := 4) scLex.nd rfl (Or.inr rfl))
        (pss_one (ps_dputR (T := TF) hr.units (pv 3) (pv 4) (pe_callB (cr_min rfl) (by rfl) hmin (by decide +kernel) (pa_cons
          (pe_lock (pe_lc (own := [("start", 5)]) (g := gName 5) (tt := tYes) (te := tOp (rI0 fun i j => V.int (i + j)) (tDGetR TR P w (tVar 0) (tVar 5)) (tDGetR TP P w (tVar 2) (tTup (tCons (tVar 5) (tCons (tVar 4) tNil))))) rfl scLex.nd (pi_keysR (T := TR) (pv 0)) (blkOk_by (N := ["least", "rows", "between", "exchanged", "row", "start"]) (own := [("start", 5)]) (sc := defScope sLex) (by decide +kernel)) (fun _ _ _ _ _ => pg_name (i := 5) scLex.nd rfl (Or.inl rfl)) (fun _ _ _ _ _ => pts_nil)
            (fun _ _ _ _ _ => pe_op op_add (pe_dgetR (T := TR) hr.units (pv 0) (pv 5) (fun _ _ => rfl)) (pe_dgetR (T := TP) hr.units (pv 2) (pe_tup (pa_cons (pv 5) (pa_cons (pv 4) pa_nil))) (fun _ _ => rfl))))) pa_nil)) rfl)))
      (pss_one (ps_ret (pv 3)))), ?_⟩
    obtain ⟨qs, hqs, hrows⟩ := hl
    have hlen : (qs.map V.ref).length = (allRows n).length := by rw [List.length_map]; exact Paired.length hrows
    have h24 := allRows_length hn
    intro d u0 nd D0
    have sd : Same H (upd H d u0) := Same.upd nd
    refine ⟨_, rfl, l, rfl, ⟨_, SqL.of (sd _ _ hqs)⟩, for_list (K := K) (a := l) (xs := qs.map V.ref) (fun i σ H' => ∃ (u : HO) (v4 v5 : Option V), σ = [some (.ref dl), some (.ref l), some (.ref db), some (.ref d), v4, v5] ∧ Same H H' ∧ H' d = some u ∧ RD TF P w H' d u (dv (exch ls ((allRows n).take i)))) ?_ ?_ ?_ ?_⟩
    · refine ⟨u0, none, none, rfl, sd, upd_same, ?_⟩
      rw [List.take_zero]
      exact D0
    · rintro i σ H' _ ⟨_, _, _, _, s', _⟩
      exact SqL.of (s' _ _ hqs)
    · rintro i x σ H1 hi ⟨u1, v4, v5, rfl, s1, hd1, D1⟩
      obtain ⟨q1, r, rfl, hr1, tq1⟩ := tupF_get hrows hi s1
      have m1 : r ∈ allRows n := List.mem_of_getElem? hr1
      have hi' : i < 24 := Nat.lt_of_lt_of_le (List.getElem?_eq_some_iff.mp hr1).1 h24
      have hdl1 := s1 _ _ hdl
      have DL1 := DL.same s1
      refine ⟨dl, ul, hdl1, DL.mut, fun od => ⟨_, rfl, dl, od, ul, dv ls, rfl, upd_same, DL1.off hdl1 DL.notup, fun e ne => ?_⟩⟩
      have hdbL : (upd H1 dl (.frz od ul)) db = some ub ∨ ∃ o, (upd H1 dl (.frz od ul)) db = some (.frz o ub) := by
        by_cases h : db = dl
        · right
          have : ub = ul := by
            have h1 := hdb
            rw [h, hdl] at h1
            exact (Option.some.inj h1).symm
          exact ⟨od, by rw [h, this]; exact upd_same⟩
        · left
          rw [upd_ne h]
          exact s1 _ _ hdb
      refine lc_it (walk_keysR (T := TR) (P := P) (w := w) (d := dl) (ob := od) (u := ul) (kvs := dv ls)) (fun j H' => Same (upd H1 dl (.frz od ul)) H' ∧ H' e = some (.lst (nV (toRow (ls.take j) r)))) ?_ ?_ ?_ ?_
      · exact ⟨Same.upd ne, upd_same⟩
      · rintro j H' _ ⟨s', _⟩
        exact ⟨s' _ _ upd_same, (DL1.off hdl1 DL.notup).same s'⟩
      · rintro j x H2 H3 hj ⟨s2, he2⟩ ⟨rfl, k1, v, b, hk, rfl, hat⟩
        obtain ⟨m, hm, rfl⟩ := dv_get hk
        have hmem : (k1, m) ∈ ls := List.mem_of_getElem? hm
        refine ⟨rfl, _, rfl, _, rfl, dl, b, ul, dv ls, k1, .int (m : Int), rfl, rfl, .inr ⟨od, s2 _ _ upd_same⟩, (DL1.off hdl1 DL.notup).same s2, hat, dv_val hnd hmem, _, rfl, _, rfl, _, rfl, (by show 2 ≤ sizeLine; decide), fun p np => ?_⟩
        have s3 : Same H3 (upd H3 p (.tup [.ref b, .ref q1])) := Same.upd np
        have tq3 : TupF H3 q1 (nV r) := (tq1.off hdl1 DL.notup).same s2
        refine ⟨db, p, ub, kb, (k1, r), .int (Si88.apart k1 r : Nat), rfl, rfl, rd_same (rd_same hdbL s2) s3, (((DB.same s1).off hdl1 DL.notup).same s2).same s3, ⟨b, q1, .inl upd_same, rd_same hat s3, (tq3.same s3).rd⟩, told k1 (hin _ hmem) r m1, ?_⟩
        refine ⟨_, _, rfl, rfl, _, s3 _ _ he2, ?_, ?_, ?_⟩
        · rw [nV_length]
          unfold toRow
          rw [List.length_map, List.length_take]
          exact small1000 (by omega)
        · refine (s2.trans s3).put ne
        · rw [upd_same]
          unfold toRow
          rw [take_more hm, List.map_append, ← nV_app]
          rfl
      · rintro H2 ⟨s2, he2⟩
        rw [dv_length, List.take_length] at he2
        refine ⟨s2 _ _ upd_same, ?_⟩
        have su : Same H1 (upd H2 dl ul) := unlock_same hdl1 s2
        have heu : (upd H2 dl ul) e = some (.lst (nV (toRow ls r))) := tick s2 he2 fun _ z => (nomatch z)
        have hss : nV (toRow ls r) = ((toRow ls r).map fun m : Nat => (m : Int)).map V.int := nV_int _
        have tne : toRow ls r ≠ [] := fun z => hne (List.map_eq_nil_iff.mp z)
        refine ⟨e, _, rfl, SqL.of (by rw [← hss]; exact heu), by rw [List.length_map]; exact List.length_pos_iff.mpr tne, fun m hm hle => ?_⟩
        obtain ⟨m', hm', rfl⟩ := List.mem_map.mp hm
        have em : m' = Si88.leastOf (toRow ls r) := (leastOf_eq hm' fun y hy => Int.ofNat_le.mp (hle _ (List.mem_map_of_mem hy))).symm
        refine ⟨_, rfl, _, rfl, d, q1, u1, dv (exch ls ((allRows n).take i)), r, rfl, rfl, su _ _ hd1, D1.same su, tq1.same su, ?_, fun u' D' => ?_⟩
        · rw [dv_length]
          unfold exch
          rw [List.length_map, List.length_take]
          exact small1000 (by omega)
        · refine ⟨u', _, _, rfl, (s1.trans su).put nd, upd_same, ?_⟩
          rw [take_more hr1]
          have hput : putK (dv (exch ls ((allRows n).take i))) r (.int (m' : Int)) = dv (exch ls ((allRows n).take i ++ [r])) := by
            rw [putK_new]
            · rw [em]
              unfold exch dv
              rw [List.map_append, List.map_append]
              rfl
            · refine dv_none fun z => ?_
              unfold exch at z
              rw [List.map_map] at z
              have z' : r ∈ (allRows n).take i := by
                obtain ⟨y, hy, e⟩ := List.mem_map.mp z
                have e' : y = r := e
                exact e' ▸ hy
              obtain ⟨j, hj, e⟩ := List.mem_iff_getElem.mp z'
              rw [List.getElem_take] at e
              rw [List.length_take] at hj
              have hri := (List.getElem?_eq_some_iff.mp hr1)
              obtain ⟨hil, hie⟩ := hri
              have := (List.getElem_inj (allRows_nodup hn)).mp (e.trans hie.symm)
              omega
          rw [← hput]
          exact D'
    · rintro σ H1 ⟨u1, v4, v5, rfl, s1, hd1, D1⟩
      rw [hlen, List.take_length] at D1
      exact ⟨_, rfl, k H1 d u1 s1 nd hd1 D1⟩
end
end Cr

namespace Cr
open PySem PySem.Spec PyProof.Rows L2
open PySem.W (Codec)
/-! ### the lesser one is kept -/
theorem any_dv (q : List Nat) : ∀ ls : List (List Nat × Nat), ((dv ls).any fun kv => decide (kv.1 = q)) = ls.any fun p => decide (p.1 = q)
  | [] => rfl
  | p :: ls => by
    have e : dv (p :: ls) = (p.1, V.int (p.2 : Int)) :: dv ls := rfl
    rw [e, List.any_cons, List.any_cons, any_dv q ls]
theorem keep_put {ls : List (List Nat × Nat)} {q : List Nat} {n : Nat} (d : (ls.map (·.1)).Nodup) : ∃ i : Int, (valV (dv ls) q).getD (.int (n : Int)) = .int i ∧ putK (dv ls) q (.int (if (n : Int) < i then (n : Int) else i)) = dv (keepLess ls q n) := by
  by_cases c : (ls.any fun p => decide (p.1 = q)) = true
  · obtain ⟨p0, hp0, e0⟩ := List.any_eq_true.mp c
    have e0' : p0.1 = q := of_decide_eq_true e0
    have hv : valV (dv ls) q = some (.int (p0.2 : Int)) := dv_val d (by rw [← e0']; exact hp0)
    refine ⟨(p0.2 : Int), by rw [hv]; rfl, ?_⟩
    unfold putK keepLess
    rw [any_dv, if_pos c, if_pos c]
    unfold dv
    rw [List.map_map, List.map_map]
    refine List.map_congr_left fun p hp => ?_
    show (if p.1 = q then (p.1, _) else (p.1, V.int (p.2 : Int))) = ((if p.1 = q then (p.1, min p.2 n) else p).1, V.int (((if p.1 = q then (p.1, min p.2 n) else p).2 : Nat) : Int))
    by_cases e : p.1 = q
    · rw [if_pos e, if_pos e]
      have hv2 : valV (dv ls) q = some (.int (p.2 : Int)) := dv_val d (by rw [← e]; exact hp)
      rw [hv] at hv2
      have e2 : (p0.2 : Int) = (p.2 : Int) := by
        injection hv2 with h
        injection h
      show (p.1, V.int _) = (p.1, V.int ((min p.2 n : Nat) : Int))
      have e3 : (if (n : Int) < (p0.2 : Int) then (n : Int) else (p0.2 : Int)) = ((min p.2 n : Nat) : Int) := by
        split <;> omega
      rw [e3]
    · rw [if_neg e, if_neg e]
  · have hk : q ∉ ls.map (·.1) := fun z => by
      obtain ⟨p, hp, e⟩ := List.mem_map.mp z
      exact c (List.any_eq_true.mpr ⟨p, hp, decide_eq_true e⟩)
    have hv := dv_none hk
    refine ⟨(n : Int), by rw [hv]; rfl, ?_⟩
    rw [if_neg (Int.lt_irrefl _), putK_new _ hv]
    unfold keepLess
    rw [if_neg c]
    unfold dv
    rw [List.map_append]
    rfl
theorem keep_nodup {ls : List (List Nat × Nat)} {q : List Nat} {n : Nat} (d : (ls.map (·.1)).Nodup) : ((keepLess ls q n).map (·.1)).Nodup := by
  unfold keepLess
  by_cases c : (ls.any fun p => decide (p.1 = q)) = true
  · rw [if_pos c, List.map_map]
    have e : (ls.map ((fun x : List Nat × Nat => x.1) ∘ fun p => if p.1 = q then (p.1, min p.2 n) else p)) = ls.map (·.1) := List.map_congr_left fun p _ => by
      show (if p.1 = q then (p.1, min p.2 n) else p).1 = p.1
      split <;> rfl
    rw [e]
    exact d
  · rw [if_neg c, List.map_append]
    refine List.nodup_append.mpr ⟨d, by simp, fun a ha b hb e => c ?_⟩
    obtain ⟨p, hp, ep⟩ := List.mem_map.mp ha
    have hb' : b = q := List.mem_singleton.mp hb
    exact List.any_eq_true.mpr ⟨p, hp, decide_eq_true (ep.trans (e.trans hb'))⟩
theorem keep_in {ls : List (List Nat × Nat)} {q : List Nat} {n : Nat} {S : List Nat → Prop} (h : ∀ p ∈ ls, S p.1) (hq : S q) : ∀ p ∈ keepLess ls q n, S p.1 := by
  unfold keepLess
  intro p hp
  by_cases c : (ls.any fun p => decide (p.1 = q)) = true
  · rw [if_pos c] at hp
    obtain ⟨p1, hp1, rfl⟩ := List.mem_map.mp hp
    have := h p1 hp1
    split <;> exact this
  · rw [if_neg c] at hp
    rcases List.mem_append.mp hp with hp | hp
    · exact h p hp
    · rw [List.mem_singleton.mp hp]
      exact hq
theorem keep_length (ls : List (List Nat × Nat)) (q : List Nat) (n : Nat) : (keepLess ls q n).length ≤ ls.length + 1 := by
  unfold keepLess
  split
  · rw [List.length_map]; omega
  · rw [List.length_append]; exact Nat.le_refl _
theorem keep_ne (ls : List (List Nat × Nat)) (q : List Nat) (n : Nat) : keepLess ls q n ≠ [] := by
  unfold keepLess
  by_cases c : (ls.any fun p => decide (p.1 = q)) = true
  · rw [if_pos c]
    intro e
    have e' := List.map_eq_nil_iff.mp e
    rw [e'] at c
    cases c
  · rw [if_neg c]
    simp
/-- a list of ways, each row once -/
structure Ways (n : Nat) (ls : List (List Nat × Nat)) : Prop where
  nd : (ls.map (·.1)).Nodup
  rows : ∀ p ∈ ls, p.1 ∈ allRows n
def spPut (P : Program) (w : World) : Sp := fun vs H Q _ => ∃ (dl : Addr) (ul : HO) (n t : Nat) (ls : List (List Nat × Nat)), vs = [.ref dl, .int (t : Int)] ∧ n ≤ 4 ∧ t < n ∧ H dl = some ul ∧ RD TF P w H dl ul (dv ls) ∧ ls ≠ [] ∧ ls.length ≤ 24 ∧ Ways n ls ∧
  ∀ H' d u ls', Same H H' → H d = none → H' d = some u → RD TR P w H' d u (dv ls') → ls' ≠ [] → ls'.length ≤ 96 → Ways n ls' →
    (∀ (g : List Nat → Nat) (x : Nat), below ls' g x ↔ ∀ p ∈ ls, ∀ y ∈ Si88.aheads p.1 t, x ≤ p.2 + Si88.steps p.1 t + g y) → Q (.ref d) H'
structure Mv (K : PySem.W.Frag) (mg : Str → Option Value) (f : Addr) (fd : FuncData) : Prop where
  F : Fun K "moved_ahead" "moved_ahead" sMv f fd
  g : mg "moved_ahead" = some (.ref f)
  b : Binds K fd ["row", "place", "to"] []
section
variable {P : Program} {w : World} {K : PySem.W.Frag} {mg : Str → Option Value} {base : Heap}
theorem scPut : FnScope ["least", "thing", "put_back", "row", "place", "steps", "to", "after"] ["least", "thing"] (defScope sPut) := ⟨rfl, rfl, rfl, by decide +kernel, rfl, by decide +kernel, by decide +kernel⟩
theorem ok_put {f fM : Addr} {fd fdM : FuncData} (F : Fun K "least_once_put_back" "least_once_put_back" sPut f fd) (T : Bn mg) (hmin : mg "min" = none) (M : Mv K mg fM fdM) : FnOk P w K mg base CX0 2 f fd ["least", "thing"] (spPut P w) := by
  have GM : FnOk P w K mg base CX0 1 fM fdM ["row", "place", "to"] spMvT := ok_mvT M.F
  refine F.ok scPut (fun vs H Q E h => ?_) (fun cdv A outer s H vs Q E hr h => ?_)
  · obtain ⟨dl, ul, n, t, ls, rfl, _⟩ := h
    rfl
  · obtain ⟨dl, ul, n, t, ls, rfl, hn, ht, hdl, DL, hne, h24, WL, k⟩ := h
    refine ⟨_, pss_cons (ps_set (i := 2) scPut.nd rfl (Or.inl rfl) (pe_dnewR (T := TR)))
      (pss_cons (ps_lock (ps_for PassesOwn.never rfl (pi_keysR (T := TF) (pv 0)) (pg_name (i := 3) scPut.nd rfl (Or.inl rfl))
        (pss_cons (ps_set (i := 4) scPut.nd rfl (Or.inl rfl) (pe_tix (pv 3) (pv 1) ⟨rfl, rfl, rfl, rfl⟩))
        (pss_cons (ps_set (i := 5) scPut.nd rfl (Or.inl rfl) (pe_op op_add (pe_op op_add (pe_dgetR (T := TF) hr.units (pv 0) (pv 3) (fun _ _ => rfl)) (pv 4)) pe_int))
        (pss_one (ps_for PassesOwn.never rfl (pi_range1 (by rfl) T.range (pa_cons (pe_op op_add (pv 4) pe_int) pa_nil)) (pg_name (i := 6) scPut.nd rfl (Or.inl rfl))
          (pss_cons (ps_set (i := 7) scPut.nd rfl (Or.inl rfl) (pe_call GM hr (by rfl) M.g M.F.kp M.b .nil pass0 (pa_cons (pv 3) (pa_cons (pv 4) (pa_cons (pv 6) pa_nil)))))
          (pss_one (ps_dputR (T := TR) hr.units (pv 2) (pv 7) (pe_callB (call_min2 rfl) (by rfl) hmin (by decide +kernel) (pa_cons (pe_dget2R (T := TR) hr.units (pv 2) (pv 7) (pv 5) ⟨rfl, rfl, rfl, rfl⟩) (pa_cons (pv 5) pa_nil))) rfl)))))))))
      (pss_one (ps_ret (pv 2)))), ?_⟩
    intro d u0 nd D0
    have dne : dl ≠ d := ne_of_none hdl nd
    have hdl0 : (upd H d u0) dl = some ul := by rw [upd_ne dne]; exact hdl
    refine ⟨dl, ul, hdl0, DL.mut, fun od => ?_⟩
    have ndl : (upd H dl (.frz od ul)) d = none := by rw [upd_ne (fun e => dne e.symm)]; exact nd
    have s0 : Same (upd H dl (.frz od ul)) (upd (upd H d u0) dl (.frz od ul)) := fun b o e => by
      by_cases hb : b = dl
      · subst hb
        rw [upd_same] at e ⊢
        exact e
      · rw [upd_ne hb] at e ⊢
        rw [upd_ne (ne_of_none e nd)]
        exact e
    have DLl : RD TF P w (upd H dl (.frz od ul)) dl ul (dv ls) := DL.off hdl DL.notup
    refine ⟨_, rfl, dl, od, ul, dv ls, rfl, upd_same, DLl.same s0, for_it (walk_keysR (T := TF) (P := P) (w := w) (d := dl) (ob := od) (u := ul) (kvs := dv ls)) (fun i σ H' => ∃ (u : HO) (acc : List (List Nat × Nat)) (v3 v4 v5 v6 v7 : Option V), σ = [some (.ref dl), some (.int (t : Int)), some (.ref d), v3, v4, v5, v6, v7] ∧ Same (upd H dl (.frz od ul)) H' ∧ H' d = some u ∧ RD TR P w H' d u (dv acc) ∧
        acc.length ≤ i * 4 ∧ (0 < i → acc ≠ []) ∧ Ways n acc ∧ ∀ (g : List Nat → Nat) (x : Nat), below acc g x ↔ ∀ p ∈ ls.take i, ∀ y ∈ Si88.aheads p.1 t, x ≤ p.2 + Si88.steps p.1 t + g y) ?_ ?_ ?_ ?_⟩
    · refine ⟨u0, [], none, none, none, none, none, rfl, s0, by rw [upd_ne (fun e => dne e.symm), upd_same], D0.off hdl0 DL.notup, Nat.zero_le _, fun z => absurd z (Nat.lt_irrefl _), ⟨List.nodup_nil, fun p h => by cases h⟩, fun g x => ?_⟩
      rw [List.take_zero]
      exact ⟨fun _ p h => (by cases h), fun _ p h => (by cases h)⟩
    · rintro i σ H' _ ⟨_, _, _, _, _, _, _, _, s', _⟩
      exact ⟨s' _ _ upd_same, DLl.same s'⟩
    · rintro i x σ H1 H2 hi ⟨u1, acc, v3, v4, v5, v6, v7, rfl, s1, hd1, D1, z1, ne1, W1, b1⟩ ⟨rfl, q, v, b, hq, rfl, hat⟩
      obtain ⟨c, hc, rfl⟩ := dv_get hq
      have hmem : (q, c) ∈ ls := List.mem_of_getElem? hc
      have m1 : q ∈ allRows n := WL.rows _ hmem
      have hq4 : q.length ≤ 4 := by rw [row_length m1]; exact hn
      have hqd : q.Nodup := (mem_allRows.mp m1).nodup_iff.mpr List.nodup_range
      have hi' : i < 24 := Nat.lt_of_lt_of_le (List.getElem?_eq_some_iff.mp hc).1 h24
      obtain ⟨p, hp1, hp2⟩ := at_of_mem ((row_at m1).mpr ht)
      have hpl : p < q.length := (List.getElem?_eq_some_iff.mp hp1).1
      have hst : Si88.steps q t = p + 1 := steps_at hp1 hp2
      have tq : TupF H2 b (nV q) := hat
      -- place = row.index(thing)
      refine ⟨_, rfl, b, _, rfl, tq, _, rfl, b, q, t, rfl, rfl, .inl tq.rd, (row_at m1).mpr ht, ?_⟩
      have ep : ((Si88.steps q t : Nat) : Int) - 1 = (p : Int) := by rw [hst]; omega
      rw [ep]
      -- steps = least[row] + place + 1
      refine ⟨_, rfl, _, rfl, dl, b, ul, dv ls, q, .int (c : Int), rfl, rfl, .inr ⟨od, s1 _ _ upd_same⟩, DLl.same s1, hat, dv_val WL.nd hmem, _, rfl, _, _, rfl, rfl, _, _, rfl, rfl, ?_⟩
      have es : ((c : Int) + (p : Int)) + 1 = ((c + Si88.steps q t : Nat) : Int) := by rw [hst]; omega
      -- for to in range(place + 1)
      refine ⟨_, rfl, _, _, rfl, rfl, ((p + 1 : Nat) : Int), rfl, by omega, by omega, for_range (lo := 0) (n := p + 1) (fun j σ H' => ∃ (u : HO) (acc : List (List Nat × Nat)) (v6 v7 : Option V), σ = [some (.ref dl), some (.int (t : Int)), some (.ref d), some (.ref b), some (.int (p : Int)), some (.int ((c : Int) + (p : Int) + 1)), v6, v7] ∧ Same (upd H dl (.frz od ul)) H' ∧ TupF H' b (nV q) ∧ H' d = some u ∧ RD TR P w H' d u (dv acc) ∧
        acc.length ≤ i * 4 + j ∧ (0 < i + j → acc ≠ []) ∧ Ways n acc ∧ ∀ (g : List Nat → Nat) (x : Nat), below acc g x ↔ (∀ p ∈ ls.take i, ∀ y ∈ Si88.aheads p.1 t, x ≤ p.2 + Si88.steps p.1 t + g y) ∧ ∀ y ∈ (List.range j).map (mv q p), x ≤ c + Si88.steps q t + g y) ?_ ?_ ?_⟩
      · refine ⟨u1, acc, v6, v7, rfl, s1, tq, hd1, D1, z1, ne1, W1, fun g x => (b1 g x).trans ⟨fun h => ⟨h, fun y hy => (by cases hy)⟩, fun h => h.1⟩⟩
      · rintro j σ H3 hj ⟨u2, acc2, v6, v7, rfl, s2, tq2, hd2, D2, z2, ne2, W2, b2⟩
        have ej : (0 : Int) + (j : Int) = (j : Int) := Int.zero_add _
        rw [ej]
        -- after = moved_ahead(row, place, to)
        refine ⟨_, rfl, _, rfl, _, rfl, b, q, p, j, rfl, tq2.rd, hq4, by omega, hpl, fun H4 e s4 he => ?_⟩
        have D4 := D2.same s4
        have hd4 := s4 _ _ hd2
        obtain ⟨i0, hi0, hput⟩ := keep_put (q := mv q p j) (n := c + Si88.steps q t) W2.nd
        have es' : (c : Int) + (p : Int) + 1 = ((c + Si88.steps q t : Nat) : Int) := es
        -- put_back[after] = min(put_back.get(after, steps), steps)
        refine ⟨_, rfl, d, u2, dv acc2, rfl, .inl hd4, D4, _, rfl, _, rfl, e, u2, dv acc2, mv q p j, rfl, .inl hd4, D4, he, _, rfl, i0, (c : Int) + (p : Int) + 1, ?_, ?_⟩
        · rw [es', hi0]
        · have m4 : mv q p j ∈ allRows n := mem_allRows.mpr ((mv_perm hqd hp1 (by omega)).trans (mem_allRows.mp m1))
          refine ⟨_, rfl, _, rfl, d, e, u2, dv acc2, mv q p j, rfl, rfl, hd4, D4, he, by rw [dv_length]; exact small1000 (by omega), fun u' D' => ?_⟩
          rw [es', hput] at D'
          refine ⟨u', keepLess acc2 (mv q p j) (c + Si88.steps q t), _, _, rfl, (s2.trans s4).put ndl, (tq2.same s4).off hd4 D4.notup, upd_same, D', ?_, fun _ => keep_ne _ _ _, ⟨keep_nodup W2.nd, keep_in W2.rows m4⟩, fun g x => ?_⟩
          · have := keep_length acc2 (mv q p j) (c + Si88.steps q t)
            omega
          · rw [below_keepLess, b2, List.range_succ, List.map_append]
            constructor
            · rintro ⟨⟨h1, h2⟩, h3⟩
              refine ⟨h1, fun y hy => ?_⟩
              rcases List.mem_append.mp hy with hy | hy
              · exact h2 y hy
              · have : y = mv q p j := List.mem_singleton.mp hy
                rw [this]
                exact h3
            · rintro ⟨h1, h2⟩
              exact ⟨⟨h1, fun y hy => h2 y (List.mem_append_left _ hy)⟩, h2 _ (List.mem_append_right _ (List.mem_singleton.mpr rfl))⟩
      · rintro σ H3 ⟨u2, acc2, v6, v7, rfl, s2, tq2, hd2, D2, z2, ne2, W2, b2⟩
        refine ⟨u2, acc2, _, _, _, v6, v7, rfl, s2, hd2, D2, by omega, fun _ => ne2 (by omega), W2, fun g x => (b2 g x).trans ?_⟩
        rw [take_more hc, ← mv_aheads hqd hp1 hp2]
        constructor
        · rintro ⟨h1, h2⟩ p' hp'
          rcases List.mem_append.mp hp' with hp' | hp'
          · exact h1 p' hp'
          · rw [List.mem_singleton.mp hp']
            exact h2
        · exact fun h => ⟨fun p' hp' => h p' (List.mem_append_left _ hp'), h (q, c) (List.mem_append_right _ (List.mem_singleton.mpr rfl))⟩
    · rintro σ H1 ⟨u1, acc, v3, v4, v5, v6, v7, rfl, s1, hd1, D1, z1, ne1, W1, b1⟩
      rw [dv_length, List.take_length] at b1
      rw [dv_length] at z1 ne1
      refine ⟨s1 _ _ upd_same, ?_⟩
      refine ⟨_, rfl, k (upd H1 dl ul) d u1 acc (unlock_same hdl s1) nd (tick s1 hd1 fun ob' z => ?_) (D1.off (s1 _ _ upd_same) (DL.notupF od)) (ne1 (List.length_pos_iff.mpr hne)) (by omega) W1 b1⟩
      obtain ⟨xs, eu, _⟩ := D1.ex
      rw [eu] at z
      cases z
end
end Cr

namespace Cr
open PySem PySem.Spec PyProof.Rows L2
open PySem.W (Codec)
abbrev sLeast : Stmt := top 13
def spLeast (K : PySem.W.Frag) : Sp := fun vs H Q _ => ∃ (l k : Addr) (n : Nat) (r a : List Nat), vs = [.ref l, .ref k] ∧ SqL K H l (nV r) ∧ SqL K H k (nV a) ∧ n ≤ 4 ∧ r ∈ allRows n ∧ (∀ t ∈ a, t < n) ∧
  ∀ H', Same H H' → Q (.int (left (allRows n) a r : Nat)) H'
structure Betw (K : PySem.W.Frag) (mg : Str → Option Value) (f : Addr) (fd : FuncData) : Prop where
  F : Fun K "exchanges_between" "exchanges_between" sBetw f fd
  g : mg "exchanges_between" = some (.ref f)
  b : Binds K fd ["rows"] []
structure Lex (K : PySem.W.Frag) (mg : Str → Option Value) (f : Addr) (fd : FuncData) : Prop where
  F : Fun K "least_once_exchanged" "least_once_exchanged" sLex f fd
  g : mg "least_once_exchanged" = some (.ref f)
  b : Binds K fd ["least", "rows", "between"] []
structure Put (K : PySem.W.Frag) (mg : Str → Option Value) (f : Addr) (fd : FuncData) : Prop where
  F : Fun K "least_once_put_back" "least_once_put_back" sPut f fd
  g : mg "least_once_put_back" = some (.ref f)
  b : Binds K fd ["least", "thing"] []
theorem exch_ways {n : Nat} {ls : List (List Nat × Nat)} (hn : n ≤ 4) : Ways n (exch ls (allRows n)) := by
  refine ⟨?_, fun p hp => ?_⟩
  · unfold exch
    rw [List.map_map]
    have e : (allRows n).map ((fun x : List Nat × Nat => x.1) ∘ fun q => (q, Si88.leastOf (toRow ls q))) = allRows n := by
      conv => rhs; rw [← List.map_id (allRows n)]
      exact List.map_congr_left fun q _ => rfl
    rw [e]
    exact allRows_nodup hn
  · obtain ⟨q, hq, rfl⟩ := List.mem_map.mp hp
    exact hq
theorem allRows_ne {n : Nat} : allRows n ≠ [] := fun e => by
  have : List.range n ∈ allRows n := mem_allRows.mpr (.refl _)
  rw [e] at this
  cases this
theorem drop_get {α : Type} {l : List α} {i : Nat} {x : α} (h : l[i]? = some x) : l.drop i = x :: l.drop (i + 1) := by
  obtain ⟨hi, e⟩ := List.getElem?_eq_some_iff.mp h
  rw [List.drop_eq_getElem_cons hi, e]
section
variable {P : Program} {w : World} {K : PySem.W.Frag} {mg : Str → Option Value} {base : Heap}
theorem scLeast : FnScope ["row", "asked", "rows", "between", "least", "thing"] ["row", "asked"] (defScope sLeast) := ⟨rfl, rfl, rfl, by decide +kernel, rfl, by decide +kernel, by decide +kernel⟩
theorem ok_least {f fA fM fB fE fX fP fV : Addr} {fd fdA fdM fdB fdE fdX fdP fdV : FuncData} (F : Fun K "least_at_all" "least_at_all" sLeast f fd) (T : Bn mg) (hmin : mg "min" = none) (htup : mg "tuple" = none) (A' : All K mg fA fdA) (M : More K mg fM fdM)
    (B : Betw K mg fB fdB) (X : Ex K mg fE fdE) (L : Lex K mg fX fdX) (U : Put K mg fP fdP) (W : Mv K mg fV fdV) : FnOk P w K mg base CX0 3 f fd ["row", "asked"] (spLeast K) := by
  have GA : FnOk P w K mg base CX0 2 fA fdA ["things"] spAll := ok_all A'.F T M
  have GB : FnOk P w K mg base CX0 2 fB fdB ["rows"] (spBetw P w) := ok_betw B.F T X
  have GX : FnOk P w K mg base CX0 1 fX fdX ["least", "rows", "between"] (spLex P w) := ok_lex L.F hmin
  have GP : FnOk P w K mg base CX0 2 fP fdP ["least", "thing"] (spPut P w) := ok_put U.F T hmin W
  refine F.ok scLeast (fun vs H Q E h => ?_) (fun cdv A outer s H vs Q E hr h => ?_)
  · obtain ⟨l, k, n, r, a, rfl, _⟩ := h
    rfl
  · obtain ⟨l, k, n, r, a, rfl, hl, hk, hn, hrow, ha, q⟩ := h
    refine ⟨_, pss_cons (ps_set (i := 2) scLeast.nd rfl (Or.inl rfl) (pe_call GA hr (by rfl) A'.g A'.F.kp A'.b .nil pass0 (pa_cons (pe_callB call_len_seq (by rfl) T.len PySem.boot_len (pa_cons (pv 0) pa_nil)) pa_nil)))
      (pss_cons (ps_set (i := 3) scLeast.nd rfl (Or.inl rfl) (pe_call GB hr (by rfl) B.g B.F.kp B.b .nil pass0 (pa_cons (pv 2) pa_nil)))
      (pss_cons (ps_set (i := 4) scLeast.nd rfl (Or.inl rfl) (pe_dispR (T := TR) hr.units (pe_callTy call_tuple_of (by rfl) htup (by decide +kernel) (pa_cons (pv 0) pa_nil)) pe_int))
      (pss_cons (ps_for PassesOwn.never rfl (pi_list (pv 1)) (pg_name (i := 5) scLeast.nd rfl (Or.inl rfl))
        (pss_one (ps_set (i := 4) scLeast.nd rfl (Or.inl rfl) (pe_call GP hr (by rfl) U.g U.F.kp U.b .nil pass0 (pa_cons (pe_call GX (hr.mono (by decide)) (by rfl) L.g L.F.kp L.b .nil pass0 (pa_cons (pv 4) (pa_cons (pv 2) (pa_cons (pv 3) pa_nil)))) (pa_cons (pv 5) pa_nil))))))
      (pss_one (ps_ret (pe_minR (T := TR) rfl (by rfl) hmin (pv 4))))))), ?_⟩
    have hrl := row_length hrow
    -- rows, between
    refine ⟨_, rfl, l, _, rfl, .inl hl, n, by rw [nV_length, hrl]; rfl, hn, fun H1 rw1 s1 n1 R1 => ?_⟩
    refine ⟨_, rfl, rw1, n, rfl, hn, R1, fun H2 db ub kb s2 n2 hdb DB told => ?_⟩
    have s02 := s1.trans s2
    -- least = {tuple(row): 0}
    intro p u np D0
    have sp := Same.upd (o := u) np
    refine ⟨_, rfl, l, _, rfl, .inl ⟨sp.seq (s02.seq hl), fun e ne => ?_⟩⟩
    have se := Same.upd (o := .tup (nV r)) ne
    refine ⟨e, r, rfl, se _ _ upd_same, .inl upd_same, fun u' D' => ?_⟩
    have s3 : Same H2 (upd (upd (upd H2 p u) e (.tup (nV r))) p u') := (sp.trans se).put np
    have hkl : (nV a).length = a.length := nV_length a
    refine ⟨_, rfl, k, rfl, ⟨_, s3.seq (s02.seq hk)⟩, for_list (K := K) (a := k) (xs := nV a) (fun i σ H' => ∃ (dl : Addr) (ul : HO) (ls : List (List Nat × Nat)) (v5 : Option V), σ = [some (.ref l), some (.ref k), some (.ref rw1), some (.ref db), some (.ref dl), v5] ∧ Same H2 H' ∧ H' dl = some ul ∧ RD TR P w H' dl ul (dv ls) ∧ ls ≠ [] ∧ ls.length ≤ 96 ∧ Ways n ls ∧
        ∀ x, below ls (left (allRows n) (a.drop i)) x ↔ x ≤ left (allRows n) a r) ?_ ?_ ?_ ?_⟩
    · refine ⟨p, u', [(r, 0)], none, rfl, s3, upd_same, D', by simp, by show 1 ≤ 96; decide, ⟨by simp, fun y hy => by rw [List.mem_singleton.mp hy]; exact hrow⟩, fun x => ?_⟩
      rw [List.drop_zero]
      constructor
      · intro h
        have := h (r, 0) (List.mem_singleton.mpr rfl)
        have e0 : (r, 0).2 + left (allRows n) a (r, 0).1 = left (allRows n) a r := Nat.zero_add _
        rwa [e0] at this
      · intro h y hy
        rw [List.mem_singleton.mp hy]
        show x ≤ 0 + left (allRows n) a r
        omega
    · rintro i σ H' _ ⟨_, _, _, _, _, s', _⟩
      exact s'.seq (s02.seq hk)
    · rintro i x σ H3 hi ⟨dl, ul, ls, v5, rfl, s4, hdl, DL, hne, h96, WL, bl⟩
      obtain ⟨t, hti, rfl⟩ := nV_get hi
      have ht : t < n := ha t (List.mem_of_getElem? hti)
      refine ⟨_, rfl, _, rfl, _, rfl, dl, rw1, db, ul, ub, n, ls, kb, rfl, hn, hdl, DL, hne, h96, WL.nd, WL.rows, (R1.same s2).same s4, s4 _ _ hdb, DB.same s4, told, fun H4 d4 u4 s5 n4 hd4 D4 => ?_⟩
      refine ⟨_, rfl, d4, u4, n, t, exch ls (allRows n), rfl, hn, ht, hd4, D4, fun z => allRows_ne (List.map_eq_nil_iff.mp z), ?_, exch_ways hn, fun H5 d5 u5 ls5 s6 n5 hd5 D5 ne5 z5 W5 b5 => ?_⟩
      · unfold exch
        rw [List.length_map]
        exact allRows_length hn
      · refine ⟨d5, u5, ls5, _, rfl, (s4.trans s5).trans s6, hd5, D5, ne5, z5, W5, fun x => ?_⟩
        rw [← bl x, drop_get hti]
        refine below_step hne fun g x => (b5 g x).trans ?_
        constructor
        · exact fun h q' hq' y hy => h (q', Si88.leastOf (toRow ls q')) (List.mem_map_of_mem (f := fun q => (q, Si88.leastOf (toRow ls q))) hq') y hy
        · intro h p' hp' y hy
          obtain ⟨q', hq', rfl⟩ := List.mem_map.mp hp'
          exact h q' hq' y hy
    · rintro σ H3 ⟨dl, ul, ls, v5, rfl, s4, hdl, DL, hne, h96, WL, bl⟩
      rw [hkl, List.drop_length] at bl
      refine ⟨_, rfl, dl, ul, dv ls, ls.map fun p => (p.2 : Int), rfl, .inl hdl, DL, ?_, fun z => hne (List.map_eq_nil_iff.mp z), fun m hm hle => ?_⟩
      · unfold dv
        rw [List.map_map, List.map_map]
        rfl
      · obtain ⟨p', hp', rfl⟩ := List.mem_map.mp hm
        have z1 : p'.2 ≤ left (allRows n) a r := (bl p'.2).mp fun y hy => by
          have := Int.ofNat_le.mp (hle _ (List.mem_map_of_mem (f := fun p : List Nat × Nat => (p.2 : Int)) hy))
          show p'.2 ≤ y.2 + 0
          omega
        have z2 : left (allRows n) a r ≤ p'.2 := (bl _).mpr (Nat.le_refl _) p' hp'
        have e : p'.2 = left (allRows n) a r := Nat.le_antisymm z1 z2
        rw [e]
        exact q H3 (s02.trans s4)
end
end Cr

namespace Cr
open PySem PySem.Spec PyProof.Rows L2
open PySem.W (Codec)
abbrev sTimes : Stmt := top 18
abbrev sPlace : Stmt := top 19
abbrev sRuled : Stmt := top 20
def spTimes (K : PySem.W.Frag) : Sp := fun vs H Q _ => ∃ (l k : Addr) (r now : List Nat) (t p : Nat), vs = [.ref l, .int (p : Int), .ref k] ∧ SqL K H l (nV r) ∧ SqL K H k (nV now) ∧ r.length ≤ 4 ∧ r[p]? = some t ∧
  ∀ i, lessAt now r t p i → Q (.int (i : Int)) H
def spPlace (K : PySem.W.Frag) : Sp := fun vs H Q _ => ∃ (l k : Addr) (r now : List Nat) (t p c : Nat), vs = [.int (c : Int), .ref l, .int (p : Int), .ref k] ∧ SqL K H l (nV r) ∧ SqL K H k (nV now) ∧ r.length ≤ 4 ∧ r.Nodup ∧ r[p]? = some t ∧
  ∀ i, i ≤ p → mv r p i = put c now r t → Q (.int (i : Int)) H
structure TxR (mg : Str → Option Value) : Prop where
  g0 : ∃ t, mg "TO_THE_FRONT" = some (.int 0 t)
  g1 : ∃ t, mg "ONE_AHEAD" = some (.int 1 t)
  g2 : ∃ t, mg "BY_TIMES" = some (.int 2 t)
  max : mg "max" = none
  enu : mg "enumerate" = none
structure Times (K : PySem.W.Frag) (mg : Str → Option Value) (f : Addr) (fd : FuncData) : Prop where
  F : Fun K "place_by_times" "place_by_times" sTimes f fd
  g : mg "place_by_times" = some (.ref f)
  b : Binds K fd ["row", "place", "till_then"] []
structure Place (K : PySem.W.Frag) (mg : Str → Option Value) (f : Addr) (fd : FuncData) : Prop where
  F : Fun K "place_by_rule" "place_by_rule" sPlace f fd
  g : mg "place_by_rule" = some (.ref f)
  b : Binds K fd ["which", "row", "place", "till_then"] []
theorem get_nat {r : List Nat} {i : Nat} (h : i < r.length) : r[i]? = some (r.getD i 0) := by
  rw [List.getD_eq_getElem?_getD, List.getElem?_eq_getElem h]
  rfl
section
variable {P : Program} {w : World} {K : PySem.W.Frag} {mg : Str → Option Value} {base : Heap}
theorem scTimes : FnScope ["row", "place", "till_then", "times", "ahead"] ["row", "place", "till_then"] (defScope sTimes) := ⟨rfl, rfl, rfl, by decide +kernel, rfl, by decide +kernel, by decide +kernel⟩
theorem ok_times {f : Addr} {fd : FuncData} (F : Fun K "place_by_times" "place_by_times" sTimes f fd) (T : Bn mg) : FnOk P w K mg base CX0 1 f fd ["row", "place", "till_then"] (spTimes K) := by
  refine F.ok scTimes (fun vs H Q E h => ?_) (fun cdv A outer s H vs Q E hr h => ?_)
  · obtain ⟨l, k, r, now, t, p, rfl, _⟩ := h
    rfl
  · obtain ⟨l, k, r, now, t, p, rfl, hl, hk, h4, hp, q⟩ := h
    refine ⟨_, pss_cons (ps_set (i := 3) scTimes.nd rfl (Or.inl rfl) (pe_bm PySem.F.plainAttrs_list PySem.F.slot_list_count PySem.F.type_list_count mt_lcount (pv 2) (pa_cons (pe_ix ix_list (pv 0) (pv 1) (fun _ _ => rfl)) pa_nil)))
      (pss_cons (ps_for PassesOwn.never rfl (pi_range1 (by rfl) T.range (pa_cons (pv 1) pa_nil)) (pg_name (i := 4) scTimes.nd rfl (Or.inl rfl))
        (pss_one (ps_if (pt_cmpR op_lt (pe_bm PySem.F.plainAttrs_list PySem.F.slot_list_count PySem.F.type_list_count mt_lcount (pv 2) (pa_cons (pe_ix ix_list (pv 0) (pv 4) (fun _ _ => rfl)) pa_nil)) (pv 3) (nomark _))
          (pss_one (ps_ret (pv 4))) pss_nil)))
      (pss_one (ps_ret (pv 1)))), ?_⟩
    have hpl : p < r.length := (List.getElem?_eq_some_iff.mp hp).1
    have hnow : nV now = (now.map fun m : Nat => (m : Int)).map V.int := nV_int _
    refine ⟨_, rfl, .inl ⟨rfl, _, hk⟩, _, rfl, _, rfl, l, _, _, _, rfl, rfl, hl, atI_nat (nV_at hp), k, _, _, rfl, rfl, by rw [← hnow]; exact hk, ?_⟩
    rw [count_nat]
    refine ⟨_, rfl, (p : Int), rfl, by omega, by omega, for_range (lo := 0) (n := p) (fun j σ H' => ∃ v4 : Option V, σ = [some (.ref l), some (.int (p : Int)), some (.ref k), some (.int (now.count t : Nat)), v4] ∧ H' = H ∧ ∀ m, m < j → ¬ now.count (r.getD m 0) < now.count t) ?_ ?_ ?_⟩
    · exact ⟨none, rfl, rfl, fun m hm => absurd hm (Nat.not_lt_zero m)⟩
    · rintro j σ H' hj ⟨v4, rfl, rfl, hm⟩
      have ej : (0 : Int) + (j : Int) = (j : Int) := Int.zero_add _
      rw [ej]
      refine ⟨_, rfl, .inl ⟨rfl, _, hk⟩, _, rfl, _, rfl, l, _, _, _, rfl, rfl, hl, atI_nat (nV_at (get_nat (by omega))), k, _, _, rfl, rfl, by rw [← hnow]; exact hk, ?_⟩
      rw [count_nat]
      refine ⟨_, rfl, _, _, rfl, rfl, _, rfl, ite2 (fun c => ?_) (fun c => ?_)⟩
      · have c' := Int.ofNat_lt.mp (of_decide_eq_true c)
        exact ⟨_, rfl, q j ⟨by omega, hm, fun _ => c'⟩⟩
      · have c' : ¬ now.count (r.getD j 0) < now.count t := fun z => c (decide_eq_true (Int.ofNat_lt.mpr z))
        refine ⟨_, rfl, rfl, fun m hm' => ?_⟩
        by_cases e : m = j
        · rw [e]; exact c'
        · exact hm m (by omega)
    · rintro σ H' ⟨v4, rfl, rfl, hm⟩
      exact ⟨_, rfl, q p ⟨Nat.le_refl _, hm, fun z => absurd z (Nat.lt_irrefl _)⟩⟩
theorem scPlace : FnScope ["which", "row", "place", "till_then"] ["which", "row", "place", "till_then"] (defScope sPlace) := ⟨rfl, rfl, rfl, by decide +kernel, rfl, by decide +kernel, by decide +kernel⟩
theorem ok_place {f fT : Addr} {fd fdT : FuncData} (F : Fun K "place_by_rule" "place_by_rule" sPlace f fd) (T : Bn mg) (X : TxR mg) (I : Times K mg fT fdT) : FnOk P w K mg base CX0 2 f fd ["which", "row", "place", "till_then"] (spPlace K) := by
  obtain ⟨t0, g0⟩ := X.g0
  obtain ⟨t1, g1⟩ := X.g1
  have GT : FnOk P w K mg base CX0 1 fT fdT ["row", "place", "till_then"] (spTimes K) := ok_times I.F T
  refine F.ok scPlace (fun vs H Q E h => ?_) (fun cdv A outer s H vs Q E hr h => ?_)
  · obtain ⟨l, k, r, now, t, p, c, rfl, _⟩ := h
    rfl
  · obtain ⟨l, k, r, now, t, p, c, rfl, hl, hk, h4, hd, hp, q⟩ := h
    refine ⟨_, pss_cons (ps_if (pt_cmpR op_eq (pv 0) (pe_glob (v := .int 0) rfl g0 ⟨_, rfl⟩) (nomark _)) (pss_one (ps_ret pe_int)) pss_nil)
      (pss_cons (ps_if (pt_cmpR op_eq (pv 0) (pe_glob (v := .int 1) rfl g1 ⟨_, rfl⟩) (nomark _)) (pss_one (ps_ret (pe_callB (call_max2 rfl) (by rfl) X.max (by decide +kernel) (pa_cons (pe_op op_sub (pv 2) pe_int) (pa_cons pe_int pa_nil))))) pss_nil)
      (pss_one (ps_ret (pe_call GT hr (by rfl) I.g I.F.kp I.b .nil pass0 (pa_cons (pv 1) (pa_cons (pv 2) (pa_cons (pv 3) pa_nil))))))), ?_⟩
    have ci : ∀ m : Nat, V.int (c : Int) = V.int (m : Int) → c = m := fun m e => by
      injection e with e
      exact Int.ofNat_inj.mp e
    refine ⟨_, rfl, rfl, _, rfl, ite2 (fun e => ?_) (fun e => ?_)⟩
    · have e0 : c = 0 := ci 0 (of_decide_eq_true e)
      subst e0
      exact q 0 (Nat.zero_le _) (front_is hd hp)
    · have e0 : ¬ c = 0 := fun z => e (decide_eq_true (by rw [z]; rfl))
      refine ⟨_, rfl, rfl, _, rfl, ite2 (fun e => ?_) (fun e => ?_)⟩
      · have e1 : c = 1 := ci 1 (of_decide_eq_true e)
        subst e1
        refine ⟨_, rfl, _, _, rfl, rfl, _, _, rfl, ?_⟩
        have em : (if (0 : Int) > (p : Int) - 1 then (0 : Int) else (p : Int) - 1) = ((p - 1 : Nat) : Int) := by
          split <;> omega
        rw [em]
        exact q (p - 1) (Nat.sub_le _ _) (one_is hd hp)
      · have e1 : ¬ c = 1 := fun z => e (decide_eq_true (by rw [z]; rfl))
        refine ⟨_, rfl, _, rfl, _, rfl, l, k, r, now, t, p, rfl, hl, hk, h4, hp, fun i hi => q i hi.1 ?_⟩
        have ep : put c now r t = Si88.byCount now r t := by
          unfold put
          rw [if_neg e0, if_neg e1]
        rw [ep]
        exact times_is hd hp hi
/-! ### the steps by a rule -/
def spRuled (K : PySem.W.Frag) : Sp := fun vs H Q _ => ∃ (l k : Addr) (n c : Nat) (r a : List Nat), vs = [.int (c : Int), .ref l, .ref k] ∧ H l = some (.lst (nV r)) ∧ SqL K H k (nV a) ∧ n ≤ 4 ∧ r ∈ allRows n ∧ (∀ t ∈ a, t < n) ∧
  ∀ H' p, Same H H' → H p = none → H' p = some (.lst (V.int ((Si88.ruled c [] r a).1 : Nat) :: nV (Si88.ruled c [] r a).2)) → Q (.ref p) H'
theorem put_row {n c : Nat} {now r : List Nat} {t p i : Nat} (m : r ∈ allRows n) (hp : r[p]? = some t) (hi : i ≤ p) (e : mv r p i = put c now r t) : put c now r t ∈ allRows n := by
  rw [← e]
  have hd : r.Nodup := (mem_allRows.mp m).nodup_iff.mpr List.nodup_range
  exact mem_allRows.mpr ((mv_perm hd hp hi).trans (mem_allRows.mp m))
theorem scRuled : FnScope ["which", "row", "asked", "steps", "before", "thing", "place", "till_then"] ["which", "row", "asked"] (defScope sRuled) := ⟨rfl, rfl, rfl, by decide +kernel, rfl, by decide +kernel, by decide +kernel⟩
theorem ok_ruled {f fT fP fV : Addr} {fd fdT fdP fdV : FuncData} (F : Fun K "steps_by_rule" "steps_by_rule" sRuled f fd) (T : Bn mg) (X : TxR mg) (I : Times K mg fT fdT) (U : Place K mg fP fdP) (W : Mv K mg fV fdV) : FnOk P w K mg base CX0 3 f fd ["which", "row", "asked"] (spRuled K) := by
  have GP : FnOk P w K mg base CX0 2 fP fdP ["which", "row", "place", "till_then"] (spPlace K) := ok_place U.F T X I
  have GV : FnOk P w K mg base CX0 1 fV fdV ["row", "place", "to"] (spMvL K) := ok_mvL W.F
  refine F.ok scRuled (fun vs H Q E h => ?_) (fun cdv A outer s H vs Q E hr h => ?_)
  · obtain ⟨l, k, n, c, r, a, rfl, _⟩ := h
    rfl
  · obtain ⟨l, k, n, c, r, a, rfl, hl, hk, hn, hrow, ha, q⟩ := h
    refine ⟨_, pss_cons (ps_set (i := 3) scRuled.nd rfl (Or.inl rfl) pe_int)
      (pss_cons (ps_for PassesOwn.never rfl (pi_enum (by rfl) X.enu (pa_cons (pv 2) pa_nil)) (pg_tup rfl (pgs_cons (pg_name (i := 4) scRuled.nd rfl (Or.inl rfl)) (pgs_cons (pg_name (i := 5) scRuled.nd rfl (Or.inl rfl)) pgs_nil)))
        (pss_cons (ps_set (i := 6) scRuled.nd rfl (Or.inl rfl) (pe_bm PySem.F.plainAttrs_list PySem.F.slot_list_index PySem.F.type_list_index mt_index (pv 1) (pa_cons (pv 5) pa_nil)))
        (pss_cons (ps_aug (i := 3) scRuled.nd rfl (Or.inl rfl) (pe_op op_add (pv 6) pe_int) ip_add)
        (pss_cons (ps_set (i := 7) scRuled.nd rfl (Or.inl rfl) (pe_slice sl_list (pv 2) po_none (po_some (pe_op op_add (pv 4) pe_int))))
        (pss_one (ps_set (i := 1) scRuled.nd rfl (Or.inl rfl) (pe_call GV (hr.mono (by decide)) (by rfl) W.g W.F.kp W.b .nil pass0 (pa_cons (pv 1) (pa_cons (pv 6) (pa_cons
          (pe_call GP hr (by rfl) U.g U.F.kp U.b .nil pass0 (pa_cons (pv 0) (pa_cons (pv 1) (pa_cons (pv 6) (pa_cons (pv 7) pa_nil))))) pa_nil))))))))))
      (pss_one (ps_ret (pe_op op_cat (pe_lst (pa_cons (pv 3) pa_nil)) (pv 1))))), ?_⟩
    refine ⟨_, rfl, k, nV a, rfl, hk, for_it (walk_enum (K := K) (a := k) (xs := nV a)) (fun i σ H' => ∃ (l' : Addr) (r' : List Nat) (S : Nat) (v4 v5 v6 v7 : Option V), σ = [some (.int (c : Int)), some (.ref l'), some (.ref k), some (.int (S : Int)), v4, v5, v6, v7] ∧ Same H H' ∧ H' l' = some (.lst (nV r')) ∧ r' ∈ allRows n ∧
        (Si88.ruled c [] r a).1 = S + (Si88.ruled c (a.take i) r' (a.drop i)).1 ∧ (Si88.ruled c [] r a).2 = (Si88.ruled c (a.take i) r' (a.drop i)).2) ?_ ?_ ?_ ?_⟩
    · exact ⟨l, r, 0, none, none, none, none, rfl, Same.refl H, hl, hrow, by rw [List.take_zero, List.drop_zero]; omega, by rw [List.take_zero, List.drop_zero]⟩
    · rintro i σ H' _ ⟨_, _, _, _, _, _, _, _, s', _⟩
      exact s'.seq hk
    · rintro i x σ H1 H2 hi ⟨l', r', S, v4, v5, v6, v7, rfl, s1, hl1, m1, e1, e2⟩ ⟨T', y1, y2, rfl, nT, rfl, hy1, hy2⟩
      cases hy1
      obtain ⟨t, hti, rfl⟩ := nV_get hy2
      have ht : t < n := ha t (List.mem_of_getElem? hti)
      have s2 : Same H1 (upd H1 T' (.tup [.int (i : Int), .int (t : Int)])) := Same.upd nT
      have hd : r'.Nodup := (mem_allRows.mp m1).nodup_iff.mpr List.nodup_range
      have h4 : r'.length ≤ 4 := by rw [row_length m1]; exact hn
      have hl2 : SqL K (upd H1 T' (.tup [.int (i : Int), .int (t : Int)])) l' (nV r') := SqL.of (s2 _ _ hl1)
      obtain ⟨p, hp1, hp2⟩ := at_of_mem ((row_at m1).mpr ht)
      have hpl : p < r'.length := (List.getElem?_eq_some_iff.mp hp1).1
      -- before, thing; place = row.index(thing)
      refine ⟨T', _, rfl, SqT.of upd_same, rfl, _, _, rfl, _, _, rfl, rfl, ?_⟩
      refine ⟨_, rfl, .inl ⟨rfl, _, hl2⟩, _, rfl, ?_⟩
      dsimp only [tNil]
      refine index_nat hl2 ((row_at m1).mpr ht) ?_
      have hst : Si88.steps r' t = p + 1 := steps_at hp1 hp2
      have ep : ((Si88.steps r' t : Nat) : Int) - 1 = (p : Int) := by rw [hst]; omega
      rw [ep]
      -- steps += place + 1
      refine ⟨_, rfl, _, rfl, _, _, rfl, rfl, _, _, rfl, rfl, ?_⟩
      -- till_then = asked[:before + 1]
      have hil : i < a.length := (List.getElem?_eq_some_iff.mp hti).1
      refine ⟨_, rfl, _, rfl, _, _, rfl, rfl, _, rfl, k, _, rfl, (s1.trans s2).seq hk, fun b nb => ?_⟩
      have ecut : cutV (nV a) none (some ((i : Int) + 1)) = nV (a.take (i + 1)) := cut_to (j := i + 1) rfl (by omega)
      rw [ecut]
      have s3 := Same.upd (o := .lst (nV (a.take (i + 1)))) nb
      -- row = moved_ahead(row, place, place_by_rule(which, row, place, till_then))
      refine ⟨_, rfl, _, rfl, _, rfl, _, rfl, _, rfl, _, rfl, l', b, r', a.take (i + 1), t, p, c, rfl, s3.seq hl2, SqL.of upd_same, h4, hd, hp1, fun j hj hmv => ?_⟩
      refine ⟨l', r', p, j, rfl, s3.seq hl2, h4, hj, hpl, fun H4 e s4 ne he => ?_⟩
      rw [hmv] at he
      refine ⟨e, put c (a.take (i + 1)) r' t, S + Si88.steps r' t, some (.int (i : Int)), some (.int (t : Int)), some (.int (p : Int)), some (.ref b), ?_, ((s1.trans s2).trans s3).trans s4, he, put_row m1 hp1 hj hmv, ?_, ?_⟩
      · have eS : (S : Int) + ((p : Int) + 1) = ((S + Si88.steps r' t : Nat) : Int) := by rw [hst]; omega
        rw [← eS]
        rfl
      · rw [e1, drop_get hti, ruled_cons, take_more hti]
        show S + (Si88.steps r' t + _) = _
        omega
      · rw [e2, drop_get hti, ruled_cons, take_more hti]
    · rintro σ H1 ⟨l', r', S, v4, v5, v6, v7, rfl, s1, hl1, m1, e1, e2⟩
      rw [nV_length, List.drop_length] at e1 e2
      have e1' : (Si88.ruled c [] r a).1 = S := e1
      have e2' : (Si88.ruled c [] r a).2 = r' := e2
      refine ⟨_, rfl, (by show 1 ≤ sizeLine; decide), fun b nb => ?_⟩
      have s2 := Same.upd (o := .lst [.int (S : Int)]) nb
      refine ⟨_, rfl, _, _, _, _, rfl, rfl, upd_same, s2 _ _ hl1, ?_, fun p np => ?_⟩
      · rw [nV_length, row_length m1]
        exact Nat.le_trans (m := 5) (by show 1 + n ≤ 5; omega) (by decide)
      · refine q _ p ((s1.trans s2).trans (Same.upd np)) ((s1.trans s2).free np) ?_
        rw [upd_same, e1', e2']
        rfl
end
end Cr

namespace Cr
open PySem PySem.Spec PyProof.Rows L2
open PySem.W (Codec)
abbrev sBestM : Stmt := inClass (top 24) 5
abbrev sRuleM : Stmt := inClass (top 24) 6
abbrev sLeastM : Stmt := inClass (top 24) 7
/-- nothing of the shelf changes, the list that is answered is new -/
theorem gives_at {C : Addr} {k : Req} {H H1 : Hp} {a rw ak p : Addr} {s : Si88.Shelf} {Q : VK} {l : List V} (S : ShelfAt C H a rw ak s) (e1 : Same H H1) (np : H p = none) (hp : H1 p = some (.lst l)) (hn : next s k = s) (ha : l = (ans s k).map V.int)
    (q : ∀ H' p rw' ak', ShelfAt C H' a rw' ak' (next s k) → H p = none → H' p = some (.lst ((ans s k).map V.int)) → p ≠ rw' → p ≠ ak' → Keeps H H' a rw ak rw' ak' → Q (.ref p) H') : Q (.ref p) H1 := by
  refine q _ p rw ak (by rw [hn]; exact S.same e1) np (by rw [hp, ha]) (fun e => ?_) (fun e => ?_) (Keeps.of_same e1)
  · rw [e, S.row] at np; cases np
  · rw [e, S.ask] at np; cases np
theorem ints_nV (l : List Nat) : (Si88.ints l).map V.int = nV l := by
  unfold Si88.ints
  exact (nV_int l).symm
theorem best_ans {s : Si88.Shelf} {x : Si88.Best} (h : s.best = some x) : next s .best = s ∧ (ans s .best).map V.int = [V.int (x.steps : Int), V.int (x.many : Int)] ++ nV x.row := by
  refine ⟨rfl, ?_⟩
  have e : (Si88.step s .best).2 = ⟨((x.steps : Nat) : Int), Si88.ints (x.many :: x.row)⟩ := by
    show (match s.best with
      | none => Si88.ok (-6)
      | some x => ⟨((x.steps : Nat) : Int), Si88.ints (x.many :: x.row)⟩) = _
    rw [h]
  show ((Si88.step s .best).2.v :: (Si88.step s .best).2.l).map V.int = _
  rw [e, List.map_cons, ints_nV]
  rfl
theorem rule_no {s : Si88.Shelf} {x : Int} (h : 2 < x.toNat) : next s (.rule x) = s ∧ ans s (.rule x) = [-1] := by
  have e : Si88.step s (.rule x.toNat) = (s, Si88.ok (-1)) := if_pos h
  show (Si88.step s (.rule x.toNat)).1 = s ∧ (Si88.step s (.rule x.toNat)).2.v :: (Si88.step s (.rule x.toNat)).2.l = [-1]
  rw [e]
  exact ⟨rfl, rfl⟩
theorem rule_yes {s : Si88.Shelf} {x : Int} (h : ¬ 2 < x.toNat) : next s (.rule x) = s ∧ (ans s (.rule x)).map V.int = V.int ((Si88.ruled x.toNat [] s.row s.asked).1 : Nat) :: nV (Si88.ruled x.toNat [] s.row s.asked).2 := by
  have e : Si88.step s (.rule x.toNat) = (s, ⟨(((Si88.ruled x.toNat [] s.row s.asked).1 : Nat) : Int), Si88.ints (Si88.ruled x.toNat [] s.row s.asked).2⟩) := if_neg h
  show (Si88.step s (.rule x.toNat)).1 = s ∧ ((Si88.step s (.rule x.toNat)).2.v :: (Si88.step s (.rule x.toNat)).2.l).map V.int = _
  rw [e, List.map_cons, ints_nV]
  exact ⟨rfl, rfl⟩
theorem least_ans {s : Si88.Shelf} (G : Good s) : next s .least = s ∧ (ans s .least).map V.int = [V.int (left (allRows s.row.length) s.asked s.row : Nat)] := by
  refine ⟨rfl, ?_⟩
  rw [← least_is G]
  rfl
def spBestM (C : Addr) : Sp := fun vs H Q _ => ∃ a : Addr, vs = [.ref a] ∧ Gives C .best H a Q
def spRuleM (C : Addr) : Sp := fun vs H Q _ => ∃ (a : Addr) (x : Int), vs = [.ref a, .int x] ∧ 0 ≤ x ∧ Gives C (.rule x) H a Q
def spLeastM (C : Addr) : Sp := fun vs H Q _ => ∃ a : Addr, vs = [.ref a] ∧ Gives C .least H a Q
section
variable {P : Program} {w : World} {K : PySem.W.Frag} {mg : Str → Option Value} {base : Heap}
theorem scBestM : FnScope ["self"] ["self"] (defScope sBestM) := ⟨rfl, rfl, rfl, by decide +kernel, rfl, by decide +kernel, by decide +kernel⟩
theorem ok_bestM {f C fB : Addr} {fd fdB : FuncData} (F : Fun K "best" "Shelf.best" sBestM f fd) (T : Txt K mg C) (GB : FnOk P w K mg base CX0 3 fB fdB ["things", "asked"] (spBest K)) (gB : mg "best_that_stays" = some (.ref fB)) (kB : PySem.W.keepIn K (.ref fB) = true) (bB : Binds K fdB ["things", "asked"] []) :
    FnOk P w K mg base CX0 4 f fd ["self"] (spBestM C) := by
  refine F.ok scBestM (fun vs H Q E h => ?_) (fun cdv A outer s H vs Q E hr h => ?_)
  · obtain ⟨a, rfl, _⟩ := h
    rfl
  · obtain ⟨a, rfl, rw_, ak, s, S, G, k⟩ := h
    refine ⟨_, pss_one (ps_ret (pe_call GB hr (by rfl) gB kB bB .nil pass0 (pa_cons (pe_callB call_len_seq (by rfl) T.bn.len PySem.boot_len (pa_cons (pe_fld (pv 0) rfl) pa_nil)) (pa_cons (pe_fld (pv 0) rfl) pa_nil)))), ?_⟩
    obtain ⟨dx, hins⟩ := S.ins
    obtain ⟨x, hx, hf⟩ := best_found s
    obtain ⟨e1, e2⟩ := best_ans hx
    refine ⟨_, rfl, a, C, dx, _, _, rfl, hins, T.cl, T.nR, bf_row _ _, rw_, _, rfl, .inl (SqL.of S.row), _, rfl, a, C, dx, _, _, rfl, hins, T.cl, T.nA, bf_asked _ _, ?_⟩
    refine ⟨ak, s.row.length, s.asked, x, by rw [nV_length]; rfl, SqL.of S.ask, G.few, G.there, hf, fun H1 p s1 np hp => ?_⟩
    exact gives_at S s1 np hp e1 e2.symm k
theorem scRuleM : FnScope ["self", "which"] ["self", "which"] (defScope sRuleM) := ⟨rfl, rfl, rfl, by decide +kernel, rfl, by decide +kernel, by decide +kernel⟩
theorem ok_ruleM {f C fR : Addr} {fd fdR : FuncData} (F : Fun K "rule" "Shelf.rule" sRuleM f fd) (T : Txt K mg C) (X : TxR mg) (GR : FnOk P w K mg base CX0 3 fR fdR ["which", "row", "asked"] (spRuled K)) (gR : mg "steps_by_rule" = some (.ref fR)) (kR : PySem.W.keepIn K (.ref fR) = true) (bR : Binds K fdR ["which", "row", "asked"] []) :
    FnOk P w K mg base CX0 4 f fd ["self", "which"] (spRuleM C) := by
  obtain ⟨t2, g2⟩ := X.g2
  refine F.ok scRuleM (fun vs H Q E h => ?_) (fun cdv A outer s H vs Q E hr h => ?_)
  · obtain ⟨a, x, rfl, _⟩ := h
    rfl
  · obtain ⟨a, x, rfl, x0, rw_, ak, s, S, G, k⟩ := h
    refine ⟨_, pss_cons (ps_if (pt_cmpR op_gt (pv 1) (pe_glob (v := .int 2) rfl g2 ⟨_, rfl⟩) (nomark _)) (pss_one (ps_ret (pe_lst (pa_cons (pe_un un_neg pe_int) pa_nil)))) pss_nil)
      (pss_one (ps_ret (pe_call GR hr (by rfl) gR kR bR .nil pass0 (pa_cons (pv 1) (pa_cons (pe_fld (pv 0) rfl) (pa_cons (pe_fld (pv 0) rfl) pa_nil)))))), ?_⟩
    obtain ⟨dx, hins⟩ := S.ins
    refine ⟨_, rfl, _, _, rfl, rfl, _, rfl, ite2 (fun c => ?_) (fun c => ?_)⟩
    · have c' : (2 : Int) < x := of_decide_eq_true c
      obtain ⟨e1, e2⟩ := rule_no (s := s) (x := x) (by omega)
      refine ⟨_, rfl, (by show 1 ≤ sizeLine; decide), fun p np => ?_⟩
      exact gives_same S (Same.refl H) np e1 (by rw [e2]; rfl) k
    · have c' : ¬ (2 : Int) < x := fun z => c (decide_eq_true z)
      obtain ⟨e1, e2⟩ := rule_yes (s := s) (x := x) (by omega)
      have ex : ((x.toNat : Nat) : Int) = x := Int.toNat_of_nonneg x0
      refine ⟨_, rfl, _, rfl, a, C, dx, _, _, rfl, hins, T.cl, T.nR, bf_row _ _, _, rfl, a, C, dx, _, _, rfl, hins, T.cl, T.nA, bf_asked _ _, ?_⟩
      refine ⟨rw_, ak, s.row.length, x.toNat, s.row, s.asked, by rw [ex]; rfl, S.row, SqL.of S.ask, G.few, mem_allRows.mpr G.row, G.there, fun H1 p s1 np hp => ?_⟩
      exact gives_at S s1 np hp e1 e2.symm k
theorem scLeastM : FnScope ["self"] ["self"] (defScope sLeastM) := ⟨rfl, rfl, rfl, by decide +kernel, rfl, by decide +kernel, by decide +kernel⟩
theorem ok_leastM {f C fL : Addr} {fd fdL : FuncData} (F : Fun K "least" "Shelf.least" sLeastM f fd) (T : Txt K mg C) (GL : FnOk P w K mg base CX0 3 fL fdL ["row", "asked"] (spLeast K)) (gL : mg "least_at_all" = some (.ref fL)) (kL : PySem.W.keepIn K (.ref fL) = true) (bL : Binds K fdL ["row", "asked"] []) :
    FnOk P w K mg base CX0 4 f fd ["self"] (spLeastM C) := by
  refine F.ok scLeastM (fun vs H Q E h => ?_) (fun cdv A outer s H vs Q E hr h => ?_)
  · obtain ⟨a, rfl, _⟩ := h
    rfl
  · obtain ⟨a, rfl, rw_, ak, s, S, G, k⟩ := h
    refine ⟨_, pss_one (ps_ret (pe_lst (pa_cons (pe_call GL hr (by rfl) gL kL bL .nil pass0 (pa_cons (pe_fld (pv 0) rfl) (pa_cons (pe_fld (pv 0) rfl) pa_nil))) pa_nil))), ?_⟩
    obtain ⟨dx, hins⟩ := S.ins
    obtain ⟨e1, e2⟩ := least_ans G
    refine ⟨_, rfl, a, C, dx, _, _, rfl, hins, T.cl, T.nR, bf_row _ _, _, rfl, a, C, dx, _, _, rfl, hins, T.cl, T.nA, bf_asked _ _, ?_⟩
    refine ⟨rw_, ak, s.row.length, s.row, s.asked, rfl, SqL.of S.row, SqL.of S.ask, G.few, mem_allRows.mpr G.row, G.there, fun H1 s1 => ⟨(by show 1 ≤ sizeLine; decide), fun p np => ?_⟩⟩
    exact gives_same S s1 np e1 e2.symm k
end
end Cr

namespace Cr
open PySem PySem.Spec PyProof.Rows L2
open PySem.W (Codec)
abbrev sLen : Stmt := top 34
abbrev sTo : Stmt := top 35
abbrev sAns : Stmt := top 36
/-! ### a part of a list -/
theorem cutV_mid {pre mid post : List V} {i j : Int} (hi : i = (pre.length : Nat)) (hj : j = ((pre.length + mid.length : Nat) : Int)) : cutV (pre ++ (mid ++ post)) (some i) (some j) = mid := by
  subst hi hj
  unfold cutV
  rw [HT.sIx_nat, HT.sIx_nat, List.length_append, List.length_append, Nat.min_eq_left (by omega), Nat.min_eq_left (by omega), List.drop_left]
  have e : pre.length + mid.length - pre.length = mid.length := by omega
  rw [e, List.take_left]
theorem get_mid {α : Type} {pre post : List α} {mid : List α} {j : Nat} {v : α} (h : mid[j]? = some v) : (pre ++ (mid ++ post))[pre.length + j]? = some v := by
  rw [List.getElem?_append_right (by omega), Nat.add_sub_cancel_left, List.getElem?_append_left (List.getElem?_eq_some_iff.mp h).1]
  exact h
/-! ### Promises -/
/-- calls is a list in which a call begins at start -/
def AtCall (K : PySem.W.Frag) (H : Hp) (l : Addr) (i : Int) (k : Req) : Prop := ∃ pre post : List Int, SqL K H l ((pre ++ (k.flat ++ post)).map V.int) ∧ i = (pre.length : Nat)
def spLen (K : PySem.W.Frag) : Sp := fun vs H Q _ => ∃ (l : Addr) (i : Int) (k : Req), vs = [.ref l, .int i] ∧ AtCall K H l i k ∧ ∀ H', Same H H' → Q (.int (k.flat.length : Nat)) H'
def spTo (K : PySem.W.Frag) (C : Addr) : Sp := fun vs H Q _ => ∃ (a l : Addr) (k : Req), vs = [.ref a, .ref l] ∧ SqL K H l (k.flat.map V.int) ∧ k.ok ∧ Gives C k H a Q
def spAns (K : PySem.W.Frag) : Sp := fun vs H Q _ => ∃ (l : Addr) (ks : List Req), vs = [.ref l] ∧ SqL K H l ((ks.flatMap Req.flat).map V.int) ∧ (∀ k ∈ ks, k.ok) ∧ (play Si88.init ks).length ≤ 10000000 ∧
  ∀ (H' : Hp) (p : Addr), H' p = some (.lst ((play Si88.init ks).map V.int)) → Q (.ref p) H'
section
variable {P : Program} {w : World} {K : PySem.W.Frag} {mg : Str → Option Value} {base : Heap}
/-! ### how long a call is -/
structure TxN (mg : Str → Option Value) : Prop where
  n0 : ∃ t, mg "BEGINS" = some (.int 0 t)
  n1 : ∃ t, mg "LAID" = some (.int 1 t)
  n2 : ∃ t, mg "ASKS" = some (.int 2 t)
  n3 : ∃ t, mg "FIXED" = some (.int 3 t)
  n4 : ∃ t, mg "BEST" = some (.int 4 t)
  n5 : ∃ t, mg "RULE" = some (.int 5 t)
  n6 : ∃ t, mg "LEAST" = some (.int 6 t)
theorem AtCall.same {H H' : Hp} {l : Addr} {i : Int} {k : Req} (a : AtCall K H l i k) (s : Same H H') : AtCall K H' l i k := let ⟨pre, post, h, e⟩ := a; ⟨pre, post, s.seq h, e⟩
theorem at_flat {pre post : List Int} {k : Req} {j : Nat} {z i : Int} (h : k.flat[j]? = some z) (e : i = ((pre.length + j : Nat) : Int)) : atI ((pre ++ (k.flat ++ post)).map V.int) i = some (.int z) := by
  rw [e]
  refine atI_nat ?_
  rw [List.getElem?_map, get_mid h]
  rfl
/-- the number that a call begins with -/
def Req.num : Req → Nat
  | .begins _ => 0
  | .laid _ => 1
  | .asks _ => 2
  | .fixed _ => 3
  | .best => 4
  | .rule _ => 5
  | .least => 6
theorem num_flat (k : Req) : k.flat[0]? = some (k.num : Int) := by cases k <;> rfl
theorem scLen : FnScope ["calls", "start"] ["calls", "start"] (defScope sLen) := ⟨rfl, rfl, rfl, by decide +kernel, rfl, by decide +kernel, by decide +kernel⟩
theorem ok_len {f : Addr} {fd : FuncData} (F : Fun K "call_length" "call_length" sLen f fd) (X : TxN mg) : FnOk P w K mg base CX0 1 f fd ["calls", "start"] (spLen K) := by
  obtain ⟨t1, g1⟩ := X.n1
  obtain ⟨t3, g3⟩ := X.n3
  obtain ⟨t4, g4⟩ := X.n4
  obtain ⟨t6, g6⟩ := X.n6
  refine F.ok scLen (fun vs H Q E h => ?_) (fun cdv A outer s H vs Q E hr h => ?_)
  · obtain ⟨l, i, k, rfl, _⟩ := h
    rfl
  · obtain ⟨l, i, k, rfl, hat, q⟩ := h
    refine ⟨_, pss_cons (ps_if (pt_cmpR op_in_seq (pe_ix ix_list (pv 0) (pv 1) (fun _ _ => rfl)) (pe_tup (pa_cons (pe_glob (v := .int 1) rfl g1 ⟨_, rfl⟩) (pa_cons (pe_glob (v := .int 3) rfl g3 ⟨_, rfl⟩) pa_nil))) (by rfl))
        (pss_one (ps_ret (pe_op op_add pe_int (pe_ix ix_list (pv 0) (pe_op op_add (pv 1) pe_int) (fun _ _ => rfl))))) pss_nil)
      (pss_cons (ps_if (pt_cmpR op_in_seq (pe_ix ix_list (pv 0) (pv 1) (fun _ _ => rfl)) (pe_tup (pa_cons (pe_glob (v := .int 4) rfl g4 ⟨_, rfl⟩) (pa_cons (pe_glob (v := .int 6) rfl g6 ⟨_, rfl⟩) pa_nil))) (by rfl))
        (pss_one (ps_ret pe_int)) pss_nil)
      (pss_one (ps_ret pe_int))), ?_⟩
    obtain ⟨pre, post, hl, ei⟩ := hat
    have a0 : atI ((pre ++ (k.flat ++ post)).map V.int) i = some (.int (k.num : Int)) := at_flat (num_flat k) ei
    refine ⟨_, rfl, _, rfl, l, _, _, _, rfl, rfl, hl, a0, (by show 2 ≤ sizeLine; decide), fun p np => ?_⟩
    have s1 := Same.upd (o := .tup [V.int 1, V.int 3]) np
    refine ⟨p, _, rfl, .inr (.inl (.inl upd_same)), rfl, rfl, _, rfl, ?_⟩
    have i13 : inV (.int (k.num : Int)) [V.int 1, V.int 3] = decide (k.num = 1 ∨ k.num = 3) := by cases k <;> rfl
    have i46 : inV (.int (k.num : Int)) [V.int 4, V.int 6] = decide (k.num = 4 ∨ k.num = 6) := by cases k <;> rfl
    rw [i13]
    refine ite2 (fun c => ?_) (fun c => ?_)
    · obtain ⟨m, hm, hz⟩ : ∃ m : Nat, k.flat[1]? = some (m : Int) ∧ k.flat.length = 2 + m := by
        have c' := of_decide_eq_true c
        cases k with
        | laid xs => exact ⟨xs.length, rfl, by show xs.length + 1 + 1 = _; omega⟩
        | fixed xs => exact ⟨xs.length, rfl, by show xs.length + 1 + 1 = _; omega⟩
        | _ => simp [Req.num] at c'
      refine ⟨_, rfl, _, rfl, _, _, rfl, rfl, l, _, _, _, rfl, rfl, s1.seq hl, at_flat hm (by rw [ei]; rfl), _, _, rfl, rfl, ?_⟩
      have e : (2 : Int) + (m : Int) = ((k.flat.length : Nat) : Int) := by rw [hz]; omega
      have q' := q _ s1
      rw [← e] at q'
      exact q'
    · have c1 : ¬ (k.num = 1 ∨ k.num = 3) := fun z => c (decide_eq_true z)
      refine ⟨_, rfl, _, rfl, l, _, _, _, rfl, rfl, s1.seq hl, a0, (by show 2 ≤ sizeLine; decide), fun p2 np2 => ?_⟩
      have s2 := s1.trans (Same.upd (o := .tup [V.int 4, V.int 6]) np2)
      refine ⟨p2, _, rfl, .inr (.inl (.inl upd_same)), rfl, rfl, _, rfl, ?_⟩
      rw [i46]
      refine ite2 (fun c => ?_) (fun c => ?_)
      · have e : k.flat.length = 1 := by
          have c' := of_decide_eq_true c
          cases k with
          | best => rfl
          | least => rfl
          | _ => simp [Req.num] at c'
        have q' := q _ s2
        rw [e] at q'
        exact q'
      · have c2 : ¬ (k.num = 4 ∨ k.num = 6) := fun z => c (decide_eq_true z)
        have e : k.flat.length = 2 := by
          cases k with
          | begins x => rfl
          | asks x => rfl
          | rule x => rfl
          | laid xs => exact absurd (.inl rfl) c1
          | fixed xs => exact absurd (.inr rfl) c1
          | best => exact absurd (.inl rfl) c2
          | least => exact absurd (.inr rfl) c2
        have q' := q _ s2
        rw [e] at q'
        exact q'
/-! ### one call is answered -/
theorem iteY {c A B : Prop} [Decidable c] (hc : c) (h : A) : if decide c = true then A else B := by
  rw [if_pos (decide_eq_true hc)]
  exact h
theorem iteN {c A B : Prop} [Decidable c] (hc : ¬ c) (h : B) : if decide c = true then A else B := by
  rw [if_neg (fun z => hc (of_decide_eq_true z))]
  exact h
theorem cut_two (x y : V) (l : List V) : cutV (x :: y :: l) (some 2) none = l := by
  unfold cutV
  have e : ((2 : Nat) : Int) = 2 := rfl
  rw [← e, HT.sIx_nat]
  have e2 : min 2 (x :: y :: l).length = 2 := by simp
  rw [e2]
  show (l).take ((x :: y :: l).length - 2) = l
  rw [List.take_of_length_le]
  simp
theorem Gives.same {C : Addr} {k : Req} {H H1 : Hp} {a : Addr} {Q : VK} (g : Gives C k H a Q) (s : Same H H1) : Gives C k H1 a Q := by
  obtain ⟨rw_, ak, sh, S, G, q⟩ := g
  refine ⟨rw_, ak, sh, S.same s, G, fun H' p rw' ak' S' np hp h1 h2 kp => q H' p rw' ak' S' (s.free np) hp h1 h2 ⟨fun b o e => kp.all b o (s _ _ e), ?_, ?_⟩⟩
  · exact kp.rw.imp id fun z => s.free z
  · exact kp.ak.imp id fun z => s.free z
theorem scTo : FnScope ["shelf", "call", "number"] ["shelf", "call"] (defScope sTo) := ⟨rfl, rfl, rfl, by decide +kernel, rfl, by decide +kernel, by decide +kernel⟩
theorem ok_to {f C fb fl fa ff ft fr fe : Addr} {fd db dl da df dt dr de : FuncData} (F : Fun K "answer_to" "answer_to" sTo f fd) (cl : Cls K C) (X : TxN mg)
    (Mb : Meth K C "begins" fb) (Gb : FnOk P w K mg base CX0 1 fb db ["self", "things"] (spBegins C)) (bb : Binds K db ["self", "things"] [])
    (Ml : Meth K C "laid" fl) (Gl : FnOk P w K mg base CX0 2 fl dl ["self", "row"] (spLaid K C)) (bl : Binds K dl ["self", "row"] [])
    (Ma : Meth K C "asks" fa) (Ga : FnOk P w K mg base CX0 1 fa da ["self", "thing"] (spAsks C)) (ba : Binds K da ["self", "thing"] [])
    (Mf : Meth K C "fixed" ff) (Gf : FnOk P w K mg base CX0 2 ff df ["self", "row"] (spFixed K C)) (bf : Binds K df ["self", "row"] [])
    (Mt : Meth K C "best" ft) (Gt : FnOk P w K mg base CX0 4 ft dt ["self"] (spBestM C)) (bt : Binds K dt ["self"] [])
    (Mr : Meth K C "rule" fr) (Gr : FnOk P w K mg base CX0 4 fr dr ["self", "which"] (spRuleM C)) (br : Binds K dr ["self", "which"] [])
    (Me : Meth K C "least" fe) (Ge : FnOk P w K mg base CX0 4 fe de ["self"] (spLeastM C)) (be : Binds K de ["self"] []) :
    FnOk P w K mg base CX0 5 f fd ["shelf", "call"] (spTo K C) := by
  obtain ⟨t0, g0⟩ := X.n0
  obtain ⟨t1, g1⟩ := X.n1
  obtain ⟨t2, g2⟩ := X.n2
  obtain ⟨t3, g3⟩ := X.n3
  obtain ⟨t4, g4⟩ := X.n4
  obtain ⟨t5, g5⟩ := X.n5
  obtain ⟨t6, g6⟩ := X.n6
  refine F.ok scTo (fun vs H Q E h => ?_) (fun cdv A outer s H vs Q E hr h => ?_)
  · obtain ⟨a, l, k, rfl, _⟩ := h
    rfl
  · obtain ⟨a, l, k, rfl, hl, hok, hg⟩ := h
    refine ⟨_, pss_cons (ps_set (i := 2) scTo.nd rfl (Or.inl rfl) (pe_ix ix_list (pv 1) pe_int (fun _ _ => rfl)))
      (pss_cons (ps_if (pt_cmpR op_eq (pv 2) (pe_glob (v := .int 0) rfl g0 ⟨_, rfl⟩) (nomark _)) (pss_one (ps_ret (pe_meth (pv 0) cl Mb Gb (hr.mono (by decide)) bb .nil pass0 (pa_cons (pe_ix ix_list (pv 1) pe_int (fun _ _ => rfl)) pa_nil)))) pss_nil)
      (pss_cons (ps_if (pt_cmpR op_eq (pv 2) (pe_glob (v := .int 1) rfl g1 ⟨_, rfl⟩) (nomark _)) (pss_one (ps_ret (pe_meth (pv 0) cl Ml Gl (hr.mono (by decide)) bl .nil pass0 (pa_cons (pe_slice sl_list (pv 1) (po_some pe_int) po_none) pa_nil)))) pss_nil)
      (pss_cons (ps_if (pt_cmpR op_eq (pv 2) (pe_glob (v := .int 2) rfl g2 ⟨_, rfl⟩) (nomark _)) (pss_one (ps_ret (pe_meth (pv 0) cl Ma Ga (hr.mono (by decide)) ba .nil pass0 (pa_cons (pe_ix ix_list (pv 1) pe_int (fun _ _ => rfl)) pa_nil)))) pss_nil)
      (pss_cons (ps_if (pt_cmpR op_eq (pv 2) (pe_glob (v := .int 3) rfl g3 ⟨_, rfl⟩) (nomark _)) (pss_one (ps_ret (pe_meth (pv 0) cl Mf Gf (hr.mono (by decide)) bf .nil pass0 (pa_cons (pe_slice sl_list (pv 1) (po_some pe_int) po_none) pa_nil)))) pss_nil)
      (pss_cons (ps_if (pt_cmpR op_eq (pv 2) (pe_glob (v := .int 4) rfl g4 ⟨_, rfl⟩) (nomark _)) (pss_one (ps_ret (pe_meth0 (pv 0) cl Mt Gt (hr.mono (by decide)) bt .nil pass0))) pss_nil)
      (pss_cons (ps_if (pt_cmpR op_eq (pv 2) (pe_glob (v := .int 5) rfl g5 ⟨_, rfl⟩) (nomark _)) (pss_one (ps_ret (pe_meth (pv 0) cl Mr Gr (hr.mono (by decide)) br .nil pass0 (pa_cons (pe_ix ix_list (pv 1) pe_int (fun _ _ => rfl)) pa_nil)))) pss_nil)
      (pss_cons (ps_if (pt_cmpR op_eq (pv 2) (pe_glob (v := .int 6) rfl g6 ⟨_, rfl⟩) (nomark _)) (pss_one (ps_ret (pe_meth0 (pv 0) cl Me Ge (hr.mono (by decide)) be .nil pass0))) pss_nil)
      (pss_one ps_never)))))))), ?_⟩
    obtain ⟨rw_, ak, sh, S, G, q⟩ := id hg
    obtain ⟨dx, hins⟩ := S.ins
    cases k with
    | begins x =>
      refine ⟨_, rfl, l, _, _, .int 0, rfl, rfl, hl, atI_nat (j := 0) rfl, ?_⟩
      refine ⟨_, rfl, rfl, _, rfl, iteY rfl ?_⟩
      exact ⟨_, rfl, a, dx, _, rfl, hins, bf_no _ _ (by decide +kernel) (by decide +kernel), _, rfl, l, _, _, .int x, rfl, rfl, hl, atI_nat (j := 1) rfl, a, x, rfl, hok.1, hg⟩
    | laid xs =>
      refine ⟨_, rfl, l, _, _, .int 1, rfl, rfl, hl, atI_nat (j := 0) rfl, ?_⟩
      refine ⟨_, rfl, rfl, _, rfl, iteN (by decide) ?_⟩
      refine ⟨_, rfl, rfl, _, rfl, iteY rfl ?_⟩
      refine ⟨_, rfl, a, dx, _, rfl, hins, bf_no _ _ (by decide +kernel) (by decide +kernel), _, rfl, _, rfl, l, _, rfl, hl, fun c nc => ?_⟩
      have ec : cutV ((Req.laid xs).flat.map V.int) (some 2) none = xs.map V.int := cut_two _ _ _
      rw [ec]
      exact ⟨a, c, xs, rfl, SqL.of upd_same, hok.1, hok.2, hg.same (Same.upd nc)⟩
    | asks x =>
      refine ⟨_, rfl, l, _, _, .int 2, rfl, rfl, hl, atI_nat (j := 0) rfl, ?_⟩
      refine ⟨_, rfl, rfl, _, rfl, iteN (by decide) ?_⟩
      refine ⟨_, rfl, rfl, _, rfl, iteN (by decide) ?_⟩
      refine ⟨_, rfl, rfl, _, rfl, iteY rfl ?_⟩
      exact ⟨_, rfl, a, dx, _, rfl, hins, bf_no _ _ (by decide +kernel) (by decide +kernel), _, rfl, l, _, _, .int x, rfl, rfl, hl, atI_nat (j := 1) rfl, a, x, rfl, hok.1, hg⟩
    | fixed xs =>
      refine ⟨_, rfl, l, _, _, .int 3, rfl, rfl, hl, atI_nat (j := 0) rfl, ?_⟩
      refine ⟨_, rfl, rfl, _, rfl, iteN (by decide) ?_⟩
      refine ⟨_, rfl, rfl, _, rfl, iteN (by decide) ?_⟩
      refine ⟨_, rfl, rfl, _, rfl, iteN (by decide) ?_⟩
      refine ⟨_, rfl, rfl, _, rfl, iteY rfl ?_⟩
      refine ⟨_, rfl, a, dx, _, rfl, hins, bf_no _ _ (by decide +kernel) (by decide +kernel), _, rfl, _, rfl, l, _, rfl, hl, fun c nc => ?_⟩
      have ec : cutV ((Req.fixed xs).flat.map V.int) (some 2) none = xs.map V.int := cut_two _ _ _
      rw [ec]
      exact ⟨a, c, xs, rfl, SqL.of upd_same, hok.1, hok.2, hg.same (Same.upd nc)⟩
    | best =>
      refine ⟨_, rfl, l, _, _, .int 4, rfl, rfl, hl, atI_nat (j := 0) rfl, ?_⟩
      refine ⟨_, rfl, rfl, _, rfl, iteN (by decide) ?_⟩
      refine ⟨_, rfl, rfl, _, rfl, iteN (by decide) ?_⟩
      refine ⟨_, rfl, rfl, _, rfl, iteN (by decide) ?_⟩
      refine ⟨_, rfl, rfl, _, rfl, iteN (by decide) ?_⟩
      refine ⟨_, rfl, rfl, _, rfl, iteY rfl ?_⟩
      exact ⟨_, rfl, a, dx, _, rfl, hins, bf_no _ _ (by decide +kernel) (by decide +kernel), a, rfl, hg⟩
    | rule x =>
      refine ⟨_, rfl, l, _, _, .int 5, rfl, rfl, hl, atI_nat (j := 0) rfl, ?_⟩
      refine ⟨_, rfl, rfl, _, rfl, iteN (by decide) ?_⟩
      refine ⟨_, rfl, rfl, _, rfl, iteN (by decide) ?_⟩
      refine ⟨_, rfl, rfl, _, rfl, iteN (by decide) ?_⟩
      refine ⟨_, rfl, rfl, _, rfl, iteN (by decide) ?_⟩
      refine ⟨_, rfl, rfl, _, rfl, iteN (by decide) ?_⟩
      refine ⟨_, rfl, rfl, _, rfl, iteY rfl ?_⟩
      exact ⟨_, rfl, a, dx, _, rfl, hins, bf_no _ _ (by decide +kernel) (by decide +kernel), _, rfl, l, _, _, .int x, rfl, rfl, hl, atI_nat (j := 1) rfl, a, x, rfl, hok.1, hg⟩
    | least =>
      refine ⟨_, rfl, l, _, _, .int 6, rfl, rfl, hl, atI_nat (j := 0) rfl, ?_⟩
      refine ⟨_, rfl, rfl, _, rfl, iteN (by decide) ?_⟩
      refine ⟨_, rfl, rfl, _, rfl, iteN (by decide) ?_⟩
      refine ⟨_, rfl, rfl, _, rfl, iteN (by decide) ?_⟩
      refine ⟨_, rfl, rfl, _, rfl, iteN (by decide) ?_⟩
      refine ⟨_, rfl, rfl, _, rfl, iteN (by decide) ?_⟩
      refine ⟨_, rfl, rfl, _, rfl, iteN (by decide) ?_⟩
      refine ⟨_, rfl, rfl, _, rfl, iteY rfl ?_⟩
      exact ⟨_, rfl, a, dx, _, rfl, hins, bf_no _ _ (by decide +kernel) (by decide +kernel), a, rfl, hg⟩
/-! ### answers: the walk over the calls -/
structure Turn (K : PySem.W.Frag) (C : Addr) (ks : List Req) (H0 : Hp) (l sh g : Addr) (i : Nat) (H : Hp) : Prop where
  le : i ≤ ks.length
  same : Same H0 H
  shelf : ∃ rw ak s out, ShelfAt C H sh rw ak s ∧ Good s ∧ H g = some (.lst (out.map V.int)) ∧ g ≠ rw ∧ g ≠ ak ∧ H0 rw = none ∧ H0 ak = none ∧ play Si88.init ks = out ++ play s (ks.drop i)
def atStart (σ : List (Option V)) : Int := match σ with
  | [_, _, _, some (V.int z), _, _] => z
  | _ => 0
theorem scAns : FnScope ["calls", "shelf", "given", "start", "end", "answer"] ["calls"] (defScope sAns) := ⟨rfl, rfl, rfl, by decide +kernel, rfl, by decide +kernel, by decide +kernel⟩
theorem ok_ans {f C fI fL fT : Addr} {fd fdI fdL fdT : FuncData} (F : Fun K "answers" "answers" sAns f fd) (T : Txt K mg C) (M : Mk K C fI) (GI : FnOk P w K mg base CX0 1 fI fdI ["self"] (spInit C)) (bI : Binds K fdI ["self"] [])
    (GL : FnOk P w K mg base CX0 1 fL fdL ["calls", "start"] (spLen K)) (gL : mg "call_length" = some (.ref fL)) (kL : PySem.W.keepIn K (.ref fL) = true) (bL : Binds K fdL ["calls", "start"] [])
    (GT : FnOk P w K mg base CX0 5 fT fdT ["shelf", "call"] (spTo K C)) (gT : mg "answer_to" = some (.ref fT)) (kT : PySem.W.keepIn K (.ref fT) = true) (bT : Binds K fdT ["shelf", "call"] []) :
    FnOk P w K mg base CX0 6 f fd ["calls"] (spAns K) := by
  refine F.ok scAns (fun vs H Q E h => ?_) (fun cdv A outer s H vs Q E hr h => ?_)
  · obtain ⟨l, ks, rfl, _⟩ := h
    rfl
  · obtain ⟨l, ks, rfl, hl, hok, hsz, k⟩ := h
    refine ⟨_, pss_cons (ps_set (i := 1) scAns.nd rfl (Or.inl rfl) (pe_make0 M GI (hr.mono (by decide)) (by rfl) T.gC bI .nil pass0))
      (pss_cons (ps_set (i := 2) scAns.nd rfl (Or.inl rfl) (pe_lst pa_nil))
      (pss_cons (ps_set (i := 3) scAns.nd rfl (Or.inl rfl) pe_int)
      (pss_cons (ps_while PassesOwn.never (pt_cmpR op_lt (pv 3) (pe_callB call_len_seq (by rfl) T.bn.len PySem.boot_len (pa_cons (pv 0) pa_nil)) (nomark _))
        (pss_cons (ps_set (i := 4) scAns.nd rfl (Or.inl rfl) (pe_op op_add (pv 3) (pe_call GL (hr.mono (by decide)) (by rfl) gL kL bL .nil pass0 (pa_cons (pv 0) (pa_cons (pv 3) pa_nil)))))
        (pss_cons (ps_set (i := 5) scAns.nd rfl (Or.inl rfl) (pe_call GT hr (by rfl) gT kT bT .nil pass0 (pa_cons (pv 1) (pa_cons (pe_slice sl_list (pv 0) (po_some (pv 3)) (po_some (pv 4))) pa_nil))))
        (pss_cons (ps_expr (pe_bm PySem.F.plainAttrs_list PySem.F.slot_list_append PySem.F.type_list_append mt_append (pv 2) (pa_cons (pe_callB call_len_seq (by rfl) T.bn.len PySem.boot_len (pa_cons (pv 5) pa_nil)) pa_nil)))
        (pss_cons (ps_expr (pe_bm PySem.F.plainAttrs_list PySem.F.slot_list_extend PySem.F.type_list_extend mt_extend (pv 2) (pa_cons (pv 5) pa_nil)))
        (pss_one (ps_set (i := 3) scAns.nd rfl (Or.inl rfl) (pv 4))))))))
      (pss_one (ps_ret (pv 2)))))), ?_⟩
    -- shelf = Shelf()
    intro sh dx nsh ndx ne
    refine ⟨sh, dx, rfl, upd_same, fun H1 rw0 ak0 S0 nr0 na0 kp => ⟨rfl, ?_⟩⟩
    have s01 : Same H H1 := fun b o e => kp b o (by rw [upd_ne (ne_of_none e nsh), upd_ne (ne_of_none e ndx)]; exact e) (ne_of_none e nsh)
    have free : ∀ {b : Addr}, (upd (upd H dx (.own sh)) sh (.ins C dx [])) b = none → H b = none := fun {b} e => by
      cases q : H b with
      | none => rfl
      | some o =>
        rw [upd_ne (ne_of_none q nsh), upd_ne (ne_of_none q ndx), q] at e
        cases e
    -- given = []
    refine ⟨(by show 0 ≤ sizeLine; decide), fun g ng => ?_⟩
    have T0 : Turn K C ks H l sh g 0 (upd H1 g (.lst [])) := by
      refine ⟨Nat.zero_le _, s01.trans (Same.upd ng), rw0, ak0, Si88.init, [], S0.same (Same.upd ng), good_init, upd_same, ?_, ?_, free nr0, free na0, rfl⟩
      · intro e; rw [e, S0.row] at ng; cases ng
      · intro e; rw [e, S0.ask] at ng; cases ng
    have hg0 : H g = none := s01.free ng
    have hgs : g ≠ sh := fun e => by
      obtain ⟨d, q⟩ := S0.ins
      rw [e, q] at ng; cases ng
    -- start = 0; while start < len(calls):
    refine while_by (fun σ H' => ∃ (i : Nat) (v4 v5 : Option V), σ = [some (.ref l), some (.ref sh), some (.ref g), some (.int ((at_ ks i : Nat) : Int)), v4, v5] ∧ Turn K C ks H l sh g i H') (fun σ _ => ((ks.flatMap Req.flat).length - atStart σ).toNat)
      ⟨0, none, none, rfl, T0⟩ ?_ ?_
    · rintro σ H2 ⟨i, v4, v5, rfl, Tn⟩
      obtain ⟨hle, s02, rw2, ak2, s2, out, S2, G2, hgl, gr, ga, nr2, na2, hplay⟩ := Tn
      refine ⟨_, rfl, _, rfl, l, _, rfl, .inl (s02.seq hl), _, _, rfl, rfl, _, rfl, ?_⟩
      rw [List.length_map]
      refine ite2 (fun c => ?_) (fun c => ?_)
      · have c1 : ((at_ ks i : Nat) : Int) < (((ks.flatMap Req.flat).length : Nat) : Int) := of_decide_eq_true c
        have hi : i < ks.length := (at_end hle).mp (Int.ofNat_lt.mp c1)
        obtain ⟨kq, hk⟩ : ∃ kq, ks[i]? = some kq := ⟨_, List.getElem?_eq_getElem hi⟩
        have hsp := split_at hk
        have hl2 : SqL K H2 l (((ks.take i).flatMap Req.flat ++ (kq.flat ++ (ks.drop (i + 1)).flatMap Req.flat)).map V.int) := by
          rw [← hsp]; exact s02.seq hl
        -- end = start + call_length(calls, start)
        refine ⟨_, rfl, _, rfl, _, rfl, l, _, kq, rfl, ⟨_, _, hl2, rfl⟩, fun H3 s23 => ?_⟩
        refine ⟨_, _, rfl, rfl, ?_⟩
        -- answer = answer_to(shelf, calls[start:end])
        have hl3 := s23.seq hl2
        refine ⟨_, rfl, _, rfl, _, rfl, _, rfl, _, rfl, _, rfl, l, _, rfl, hl3, fun c3 nc3 => ?_⟩
        have ecut : cutV (((ks.take i).flatMap Req.flat ++ (kq.flat ++ (ks.drop (i + 1)).flatMap Req.flat)).map V.int) (some ((at_ ks i : Nat) : Int)) (some (((at_ ks i : Nat) : Int) + ((kq.flat.length : Nat) : Int))) = kq.flat.map V.int := by
          rw [List.map_append, List.map_append]
          refine cutV_mid ?_ ?_
          · rw [List.length_map]; rfl
          · rw [List.length_map, List.length_map]
            show ((at_ ks i : Nat) : Int) + _ = ((at_ ks i + kq.flat.length : Nat) : Int)
            omega
        rw [ecut]
        have s34 : Same H3 (upd H3 c3 (.lst (kq.flat.map V.int))) := Same.upd nc3
        have s24 := s23.trans s34
        refine ⟨sh, c3, kq, rfl, SqL.of upd_same, hok kq (List.mem_of_getElem? hk), rw2, ak2, s2, S2.same s24, G2, fun H5 p rw5 ak5 S5 np hp pr pa kp5 => ?_⟩
        have np2 : H2 p = none := s24.free np
        have np0 : H p = none := s02.free np2
        have hg5 : H5 g = some (.lst (out.map V.int)) := kp5.all _ _ (s24 _ _ hgl) hgs ga
        have pg : p ≠ g := fun e => by rw [e, hgl] at np2; cases np2
        have s05 : Same H H5 := fun b o e => by
          have hsh : b ≠ sh := ne_of_none e nsh
          exact kp5.all _ _ (s24 _ _ (s02 _ _ e)) hsh (ne_of_none e na2)
        have gr5 : g ≠ rw5 := fun e => by
          rcases kp5.rw with q | q
          · exact gr (e.trans q)
          · rw [← e, s24 _ _ hgl] at q; cases q
        have ga5 : g ≠ ak5 := fun e => by
          rcases kp5.ak with q | q
          · exact ga (e.trans q)
          · rw [← e, s24 _ _ hgl] at q; cases q
        have nr5 : H rw5 = none := by
          rcases kp5.rw with q | q
          · rw [q]; exact nr2
          · exact (s02.trans s24).free q
        have na5 : H ak5 = none := by
          rcases kp5.ak with q | q
          · rw [q]; exact na2
          · exact (s02.trans s24).free q
        have hpl := play_drop hk s2
        have hsize : out.length + ((ans s2 kq).length + 1) ≤ 10000000 := by
          have := hsz
          rw [hplay, hpl] at this
          simp only [List.length_append, List.length_cons] at this
          omega
        -- given.append(len(answer))
        refine ⟨_, rfl, .inl ⟨rfl, _, SqL.of hg5⟩, _, rfl, p, _, rfl, .inl (SqL.of hp), g, _, _, rfl, rfl, hg5, by rw [List.length_map]; exact Nat.lt_of_lt_of_le (by omega : out.length < 10000000) (by decide), ?_⟩
        -- given.extend(answer)
        have hp6 : (upd H5 g (.lst (out.map V.int ++ [V.int ((((ans s2 kq).map V.int).length : Nat) : Int)]))) p = some (.lst ((ans s2 kq).map V.int)) := by
          rw [upd_ne pg]; exact hp
        refine ⟨_, rfl, .inl ⟨rfl, _, SqL.of upd_same⟩, _, rfl, g, p, _, _, rfl, rfl, upd_same, hp6, ?_, ?_⟩
        · rw [List.length_append, List.length_map, List.length_map]
          refine Nat.le_trans (m := 10000000) ?_ (by decide)
          show out.length + 1 + _ ≤ _
          omega
        · refine ⟨_, rfl, ?_⟩
          have e4 : ((at_ ks i : Nat) : Int) + ((kq.flat.length : Nat) : Int) = ((at_ ks (i + 1) : Nat) : Int) := by
            rw [at_succ hk]; omega
          have hfp := flat_pos kq
          refine ⟨⟨i + 1, some (.int ((at_ ks (i + 1) : Nat) : Int)), some (.ref p), ?_, ⟨hi, ?_, rw5, ak5, next s2 kq, out ++ (((ans s2 kq).length : Nat) : Int) :: ans s2 kq, ?_, good_next G2, ?_, gr5, ga5, nr5, na5, ?_⟩⟩, ?_⟩
          · rw [← e4]
            rfl
          · intro b o e
            have hb := s05 b o e
            have bg : b ≠ g := ne_of_none e hg0
            rw [upd_ne bg, upd_ne bg]
            exact hb
          · obtain ⟨d5, q5⟩ := S5.ins
            refine ⟨⟨d5, ?_⟩, ?_, ?_, S5.ne⟩
            · rw [upd_ne (fun z => hgs z.symm), upd_ne (fun z => hgs z.symm)]; exact q5
            · rw [upd_ne (fun z => gr5 z.symm), upd_ne (fun z => gr5 z.symm)]; exact S5.row
            · rw [upd_ne (fun z => ga5 z.symm), upd_ne (fun z => ga5 z.symm)]; exact S5.ask
          · rw [upd_same]
            refine congrArg (fun z => some (HO.lst z)) ?_
            rw [List.map_append, List.map_cons, List.append_assoc, List.length_map]
            rfl
          · rw [hplay, hpl, List.append_assoc]
            rfl
          · show ((ks.flatMap Req.flat).length - (((at_ ks i : Nat) : Int) + ((kq.flat.length : Nat) : Int))).toNat < ((ks.flatMap Req.flat).length - ((at_ ks i : Nat) : Int)).toNat
            omega
      · have c1 : ¬ ((at_ ks i : Nat) : Int) < (((ks.flatMap Req.flat).length : Nat) : Int) := fun z => c (decide_eq_true z)
        have hi : ¬ i < ks.length := fun z => c1 (Int.ofNat_lt.mpr ((at_end hle).mpr z))
        -- return given
        refine ⟨_, rfl, ?_⟩
        refine k H2 g ?_
        rw [hgl, hplay, List.drop_eq_nil_of_le (by omega)]
        show some (HO.lst (out.map V.int)) = some (HO.lst ((out ++ []).map V.int))
        rw [List.append_nil]
    · intro σ H' Q' Q'' hq h
      obtain ⟨v, e, v2, e2, p, ys, e3, h3, i, j, e4, e5, k, e6, q⟩ := h
      exact ⟨v, e, v2, e2, p, ys, e3, h3, i, j, e4, e5, k, e6, hq _ _ q⟩
end
end Cr

namespace Cr
open PySem PySem.Spec PyProof.Rows L2
open PySem.W (Codec)
theorem all_mk {P : Program} {w : World} {K : PySem.W.Frag} {h : Heap} {mg : Str → Option Value} {fa C fOnce fStay fMv fMore fAll fBestF fEx fBetw fLex fPut fLeastF fTimes fPlace fRuled fInit fBegins fLaid fAsks fFixed fBestM fRuleM fLeastM fLen fTo fAns : Addr} (X : K.In h) (G : h.Ns mainGlobals mg) (hfa : mg "answers" = some (.ref fa))
    {odOnce anOnce odStay anStay odMv anMv odMore anMore odAll anAll odBestF anBestF odEx anEx odBetw anBetw odLex anLex odPut anPut odLeastF anLeastF odTimes anTimes odPlace anPlace odRuled anRuled odInit anInit odBegins anBegins odLaid anLaid odAsks anAsks odFixed anFixed odBestM anBestM odRuleM anRuleM odLeastM anLeastM odLen anLen odTo anTo odAns anAns : Option Addr} {slOnce slStay slMv slMore slAll slBestF slEx slBetw slLex slPut slLeastF slTimes slPlace slRuled slInit slBegins slLaid slAsks slFixed slBestM slRuleM slLeastM slLen slTo slAns : Array (Option Value)} {ocOnce kVOnce dcOnce pmOnce cdOnce ctOnce ocStay kVStay dcStay pmStay cdStay ctStay ocMv kVMv dcMv pmMv cdMv ctMv ocMore kVMore dcMore pmMore cdMore ctMore ocAll kVAll dcAll pmAll cdAll ctAll ocBestF kVBestF dcBestF pmBestF cdBestF ctBestF ocEx kVEx dcEx pmEx cdEx ctEx ocBetw kVBetw dcBetw pmBetw cdBetw ctBetw ocLex kVLex dcLex pmLex cdLex ctLex ocPut kVPut dcPut pmPut cdPut ctPut ocLeastF kVLeastF dcLeastF pmLeastF cdLeastF ctLeastF ocTimes kVTimes dcTimes pmTimes cdTimes ctTimes ocPlace kVPlace dcPlace pmPlace cdPlace ctPlace ocRuled kVRuled dcRuled pmRuled cdRuled ctRuled ocInit kVInit dcInit pmInit cdInit ctInit ocBegins kVBegins dcBegins pmBegins cdBegins ctBegins ocLaid kVLaid dcLaid pmLaid cdLaid ctLaid ocAsks kVAsks dcAsks pmAsks cdAsks ctAsks ocFixed kVFixed dcFixed pmFixed cdFixed ctFixed ocBestM kVBestM dcBestM pmBestM cdBestM ctBestM ocRuleM kVRuleM dcRuleM pmRuleM cdRuleM ctRuleM ocLeastM kVLeastM dcLeastM pmLeastM cdLeastM ctLeastM ocLen kVLen dcLen pmLen cdLen ctLen ocTo kVTo dcTo pmTo cdTo ctTo ocAns kVAns dcAns pmAns cdAns ctAns : Value} {tTO_THE_FRONT tONE_AHEAD tBY_TIMES tMOST_THINGS tMOST_TIMES tBEGINS tLAID tASKS tFIXED tBEST tRULE tLEAST : Tok}
    (aC : PySem.W.nsIn K mainGlobals "Shelf" = some (some (.ref C)))
    (aOnce : PySem.W.nsIn K mainGlobals "has_each_once" = some (some (.ref fOnce)))
    (lOnce : K.lookup fOnce = some ⟨ocOnce, odOnce, .func (PySem.W.fnOf "has_each_once" "has_each_once" (defArgs sOnce) (defBody sOnce) (defScope sOnce) .none kVOnce dcOnce pmOnce anOnce cdOnce ctOnce), slOnce⟩) (cOnce : PySem.W.codeIn K cdOnce "has_each_once" = true) (kOnce : PySem.W.keepIn K (.ref fOnce) = true)
    (aStay : PySem.W.nsIn K mainGlobals "steps_if_it_stays" = some (some (.ref fStay)))
    (lStay : K.lookup fStay = some ⟨ocStay, odStay, .func (PySem.W.fnOf "steps_if_it_stays" "steps_if_it_stays" (defArgs sStay) (defBody sStay) (defScope sStay) .none kVStay dcStay pmStay anStay cdStay ctStay), slStay⟩) (cStay : PySem.W.codeIn K cdStay "steps_if_it_stays" = true) (kStay : PySem.W.keepIn K (.ref fStay) = true)
    (aMv : PySem.W.nsIn K mainGlobals "moved_ahead" = some (some (.ref fMv)))
    (lMv : K.lookup fMv = some ⟨ocMv, odMv, .func (PySem.W.fnOf "moved_ahead" "moved_ahead" (defArgs sMv) (defBody sMv) (defScope sMv) .none kVMv dcMv pmMv anMv cdMv ctMv), slMv⟩) (cMv : PySem.W.codeIn K cdMv "moved_ahead" = true) (kMv : PySem.W.keepIn K (.ref fMv) = true)
    (aMore : PySem.W.nsIn K mainGlobals "with_one_more" = some (some (.ref fMore)))
    (lMore : K.lookup fMore = some ⟨ocMore, odMore, .func (PySem.W.fnOf "with_one_more" "with_one_more" (defArgs sMore) (defBody sMore) (defScope sMore) .none kVMore dcMore pmMore anMore cdMore ctMore), slMore⟩) (cMore : PySem.W.codeIn K cdMore "with_one_more" = true) (kMore : PySem.W.keepIn K (.ref fMore) = true)
    (aAll : PySem.W.nsIn K mainGlobals "all_rows" = some (some (.ref fAll)))
    (lAll : K.lookup fAll = some ⟨ocAll, odAll, .func (PySem.W.fnOf "all_rows" "all_rows" (defArgs sAll) (defBody sAll) (defScope sAll) .none kVAll dcAll pmAll anAll cdAll ctAll), slAll⟩) (cAll : PySem.W.codeIn K cdAll "all_rows" = true) (kAll : PySem.W.keepIn K (.ref fAll) = true)
    (aBestF : PySem.W.nsIn K mainGlobals "best_that_stays" = some (some (.ref fBestF)))
    (lBestF : K.lookup fBestF = some ⟨ocBestF, odBestF, .func (PySem.W.fnOf "best_that_stays" "best_that_stays" (defArgs sBest) (defBody sBest) (defScope sBest) .none kVBestF dcBestF pmBestF anBestF cdBestF ctBestF), slBestF⟩) (cBestF : PySem.W.codeIn K cdBestF "best_that_stays" = true) (kBestF : PySem.W.keepIn K (.ref fBestF) = true)
    (aEx : PySem.W.nsIn K mainGlobals "exchanges" = some (some (.ref fEx)))
    (lEx : K.lookup fEx = some ⟨ocEx, odEx, .func (PySem.W.fnOf "exchanges" "exchanges" (defArgs sEx) (defBody sEx) (defScope sEx) .none kVEx dcEx pmEx anEx cdEx ctEx), slEx⟩) (cEx : PySem.W.codeIn K cdEx "exchanges" = true) (kEx : PySem.W.keepIn K (.ref fEx) = true)
    (aBetw : PySem.W.nsIn K mainGlobals "exchanges_between" = some (some (.ref fBetw)))
    (lBetw : K.lookup fBetw = some ⟨ocBetw, odBetw, .func (PySem.W.fnOf "exchanges_between" "exchanges_between" (defArgs sBetw) (defBody sBetw) (defScope sBetw) .none kVBetw dcBetw pmBetw anBetw cdBetw ctBetw), slBetw⟩) (cBetw : PySem.W.codeIn K cdBetw "exchanges_between" = true) (kBetw : PySem.W.keepIn K (.ref fBetw) = true)
    (aLex : PySem.W.nsIn K mainGlobals "least_once_exchanged" = some (some (.ref fLex)))
    (lLex : K.lookup fLex = some ⟨ocLex, odLex, .func (PySem.W.fnOf "least_once_exchanged" "least_once_exchanged" (defArgs sLex) (defBody sLex) (defScope sLex) .none kVLex dcLex pmLex anLex cdLex ctLex), slLex⟩) (cLex : PySem.W.codeIn K cdLex "least_once_exchanged" = true) (kLex : PySem.W.keepIn K (.ref fLex) = true)
    (aPut : PySem.W.nsIn K mainGlobals "least_once_put_back" = some (some (.ref fPut)))
    (lPut : K.lookup fPut = some ⟨ocPut, odPut, .func (PySem.W.fnOf "least_once_put_back" "least_once_put_back" (defArgs sPut) (defBody sPut) (defScope sPut) .none kVPut dcPut pmPut anPut cdPut ctPut), slPut⟩) (cPut : PySem.W.codeIn K cdPut "least_once_put_back" = true) (kPut : PySem.W.keepIn K (.ref fPut) = true)
    (aLeastF : PySem.W.nsIn K mainGlobals "least_at_all" = some (some (.ref fLeastF)))
    (lLeastF : K.lookup fLeastF = some ⟨ocLeastF, odLeastF, .func (PySem.W.fnOf "least_at_all" "least_at_all" (defArgs sLeast) (defBody sLeast) (defScope sLeast) .none kVLeastF dcLeastF pmLeastF anLeastF cdLeastF ctLeastF), slLeastF⟩) (cLeastF : PySem.W.codeIn K cdLeastF "least_at_all" = true) (kLeastF : PySem.W.keepIn K (.ref fLeastF) = true)
    (aTimes : PySem.W.nsIn K mainGlobals "place_by_times" = some (some (.ref fTimes)))
    (lTimes : K.lookup fTimes = some ⟨ocTimes, odTimes, .func (PySem.W.fnOf "place_by_times" "place_by_times" (defArgs sTimes) (defBody sTimes) (defScope sTimes) .none kVTimes dcTimes pmTimes anTimes cdTimes ctTimes), slTimes⟩) (cTimes : PySem.W.codeIn K cdTimes "place_by_times" = true) (kTimes : PySem.W.keepIn K (.ref fTimes) = true)
    (aPlace : PySem.W.nsIn K mainGlobals "place_by_rule" = some (some (.ref fPlace)))
    (lPlace : K.lookup fPlace = some ⟨ocPlace, odPlace, .func (PySem.W.fnOf "place_by_rule" "place_by_rule" (defArgs sPlace) (defBody sPlace) (defScope sPlace) .none kVPlace dcPlace pmPlace anPlace cdPlace ctPlace), slPlace⟩) (cPlace : PySem.W.codeIn K cdPlace "place_by_rule" = true) (kPlace : PySem.W.keepIn K (.ref fPlace) = true)
    (aRuled : PySem.W.nsIn K mainGlobals "steps_by_rule" = some (some (.ref fRuled)))
    (lRuled : K.lookup fRuled = some ⟨ocRuled, odRuled, .func (PySem.W.fnOf "steps_by_rule" "steps_by_rule" (defArgs sRuled) (defBody sRuled) (defScope sRuled) .none kVRuled dcRuled pmRuled anRuled cdRuled ctRuled), slRuled⟩) (cRuled : PySem.W.codeIn K cdRuled "steps_by_rule" = true) (kRuled : PySem.W.keepIn K (.ref fRuled) = true)
    (aInit : PySem.W.findIn K (.ref C) "__init__" = some (some (.ref fInit))) (iInit : PySem.W.isFn K (.ref fInit) = true)
    (lInit : K.lookup fInit = some ⟨ocInit, odInit, .func (PySem.W.fnOf "__init__" "Shelf.__init__" (defArgs sInit) (defBody sInit) (defScope sInit) .none kVInit dcInit pmInit anInit cdInit ctInit), slInit⟩) (cInit : PySem.W.codeIn K cdInit "Shelf.__init__" = true) (kInit : PySem.W.keepIn K (.ref fInit) = true)
    (aBegins : PySem.W.findIn K (.ref C) "begins" = some (some (.ref fBegins))) (iBegins : PySem.W.isFn K (.ref fBegins) = true)
    (lBegins : K.lookup fBegins = some ⟨ocBegins, odBegins, .func (PySem.W.fnOf "begins" "Shelf.begins" (defArgs sBegins) (defBody sBegins) (defScope sBegins) .none kVBegins dcBegins pmBegins anBegins cdBegins ctBegins), slBegins⟩) (cBegins : PySem.W.codeIn K cdBegins "Shelf.begins" = true) (kBegins : PySem.W.keepIn K (.ref fBegins) = true)
    (aLaid : PySem.W.findIn K (.ref C) "laid" = some (some (.ref fLaid))) (iLaid : PySem.W.isFn K (.ref fLaid) = true)
    (lLaid : K.lookup fLaid = some ⟨ocLaid, odLaid, .func (PySem.W.fnOf "laid" "Shelf.laid" (defArgs sLaid) (defBody sLaid) (defScope sLaid) .none kVLaid dcLaid pmLaid anLaid cdLaid ctLaid), slLaid⟩) (cLaid : PySem.W.codeIn K cdLaid "Shelf.laid" = true) (kLaid : PySem.W.keepIn K (.ref fLaid) = true)
    (aAsks : PySem.W.findIn K (.ref C) "asks" = some (some (.ref fAsks))) (iAsks : PySem.W.isFn K (.ref fAsks) = true)
    (lAsks : K.lookup fAsks = some ⟨ocAsks, odAsks, .func (PySem.W.fnOf "asks" "Shelf.asks" (defArgs sAsks) (defBody sAsks) (defScope sAsks) .none kVAsks dcAsks pmAsks anAsks cdAsks ctAsks), slAsks⟩) (cAsks : PySem.W.codeIn K cdAsks "Shelf.asks" = true) (kAsks : PySem.W.keepIn K (.ref fAsks) = true)
    (aFixed : PySem.W.findIn K (.ref C) "fixed" = some (some (.ref fFixed))) (iFixed : PySem.W.isFn K (.ref fFixed) = true)
    (lFixed : K.lookup fFixed = some ⟨ocFixed, odFixed, .func (PySem.W.fnOf "fixed" "Shelf.fixed" (defArgs sFixed) (defBody sFixed) (defScope sFixed) .none kVFixed dcFixed pmFixed anFixed cdFixed ctFixed), slFixed⟩) (cFixed : PySem.W.codeIn K cdFixed "Shelf.fixed" = true) (kFixed : PySem.W.keepIn K (.ref fFixed) = true)
    (aBestM : PySem.W.findIn K (.ref C) "best" = some (some (.ref fBestM))) (iBestM : PySem.W.isFn K (.ref fBestM) = true)
    (lBestM : K.lookup fBestM = some ⟨ocBestM, odBestM, .func (PySem.W.fnOf "best" "Shelf.best" (defArgs sBestM) (defBody sBestM) (defScope sBestM) .none kVBestM dcBestM pmBestM anBestM cdBestM ctBestM), slBestM⟩) (cBestM : PySem.W.codeIn K cdBestM "Shelf.best" = true) (kBestM : PySem.W.keepIn K (.ref fBestM) = true)
    (aRuleM : PySem.W.findIn K (.ref C) "rule" = some (some (.ref fRuleM))) (iRuleM : PySem.W.isFn K (.ref fRuleM) = true)
    (lRuleM : K.lookup fRuleM = some ⟨ocRuleM, odRuleM, .func (PySem.W.fnOf "rule" "Shelf.rule" (defArgs sRuleM) (defBody sRuleM) (defScope sRuleM) .none kVRuleM dcRuleM pmRuleM anRuleM cdRuleM ctRuleM), slRuleM⟩) (cRuleM : PySem.W.codeIn K cdRuleM "Shelf.rule" = true) (kRuleM : PySem.W.keepIn K (.ref fRuleM) = true)
    (aLeastM : PySem.W.findIn K (.ref C) "least" = some (some (.ref fLeastM))) (iLeastM : PySem.W.isFn K (.ref fLeastM) = true)
    (lLeastM : K.lookup fLeastM = some ⟨ocLeastM, odLeastM, .func (PySem.W.fnOf "least" "Shelf.least" (defArgs sLeastM) (defBody sLeastM) (defScope sLeastM) .none kVLeastM dcLeastM pmLeastM anLeastM cdLeastM ctLeastM), slLeastM⟩) (cLeastM : PySem.W.codeIn K cdLeastM "Shelf.least" = true) (kLeastM : PySem.W.keepIn K (.ref fLeastM) = true)
    (aLen : PySem.W.nsIn K mainGlobals "call_length" = some (some (.ref fLen)))
    (lLen : K.lookup fLen = some ⟨ocLen, odLen, .func (PySem.W.fnOf "call_length" "call_length" (defArgs sLen) (defBody sLen) (defScope sLen) .none kVLen dcLen pmLen anLen cdLen ctLen), slLen⟩) (cLen : PySem.W.codeIn K cdLen "call_length" = true) (kLen : PySem.W.keepIn K (.ref fLen) = true)
    (aTo : PySem.W.nsIn K mainGlobals "answer_to" = some (some (.ref fTo)))
    (lTo : K.lookup fTo = some ⟨ocTo, odTo, .func (PySem.W.fnOf "answer_to" "answer_to" (defArgs sTo) (defBody sTo) (defScope sTo) .none kVTo dcTo pmTo anTo cdTo ctTo), slTo⟩) (cTo : PySem.W.codeIn K cdTo "answer_to" = true) (kTo : PySem.W.keepIn K (.ref fTo) = true)
    (aAns : PySem.W.nsIn K mainGlobals "answers" = some (some (.ref fAns)))
    (lAns : K.lookup fAns = some ⟨ocAns, odAns, .func (PySem.W.fnOf "answers" "answers" (defArgs sAns) (defBody sAns) (defScope sAns) .none kVAns dcAns pmAns anAns cdAns ctAns), slAns⟩) (cAns : PySem.W.codeIn K cdAns "answers" = true) (kAns : PySem.W.keepIn K (.ref fAns) = true)
    (pgC : PySem.W.plainGet K C Str.empty = true) (hdC : PySem.W.hasDictIn K C = true) (poC : PySem.W.plainOver K C = true) (saC : PySem.W.findIn K (.ref C) "__setattr__" = some (some (.builtin "object.__setattr__"))) (mkC : PySem.W.makesIn K C = true) (kcC : PySem.W.keepIn K (.ref C) = true)
    (nCrow : PySem.W.findIn K (.ref C) "row" = some none)
    (nCasked : PySem.W.findIn K (.ref C) "asked" = some none)
    (gTO_THE_FRONT : PySem.W.nsIn K mainGlobals "TO_THE_FRONT" = some (some (.int 0 tTO_THE_FRONT)))
    (gONE_AHEAD : PySem.W.nsIn K mainGlobals "ONE_AHEAD" = some (some (.int 1 tONE_AHEAD)))
    (gBY_TIMES : PySem.W.nsIn K mainGlobals "BY_TIMES" = some (some (.int 2 tBY_TIMES)))
    (gMOST_THINGS : PySem.W.nsIn K mainGlobals "MOST_THINGS" = some (some (.int 4 tMOST_THINGS)))
    (gMOST_TIMES : PySem.W.nsIn K mainGlobals "MOST_TIMES" = some (some (.int 10 tMOST_TIMES)))
    (gBEGINS : PySem.W.nsIn K mainGlobals "BEGINS" = some (some (.int 0 tBEGINS)))
    (gLAID : PySem.W.nsIn K mainGlobals "LAID" = some (some (.int 1 tLAID)))
    (gASKS : PySem.W.nsIn K mainGlobals "ASKS" = some (some (.int 2 tASKS)))
    (gFIXED : PySem.W.nsIn K mainGlobals "FIXED" = some (some (.int 3 tFIXED)))
    (gBEST : PySem.W.nsIn K mainGlobals "BEST" = some (some (.int 4 tBEST)))
    (gRULE : PySem.W.nsIn K mainGlobals "RULE" = some (some (.int 5 tRULE)))
    (gLEAST : PySem.W.nsIn K mainGlobals "LEAST" = some (some (.int 6 tLEAST)))
    (zlen : PySem.W.nsIn K mainGlobals "len" = some none)
    (zsorted : PySem.W.nsIn K mainGlobals "sorted" = some none)
    (zlist : PySem.W.nsIn K mainGlobals "list" = some none)
    (zrange : PySem.W.nsIn K mainGlobals "range" = some none)
    (zmin : PySem.W.nsIn K mainGlobals "min" = some none)
    (zmax : PySem.W.nsIn K mainGlobals "max" = some none)
    (ztuple : PySem.W.nsIn K mainGlobals "tuple" = some none)
    (zenumerate : PySem.W.nsIn K mainGlobals "enumerate" = some none) :
    ∃ fd : FuncData, (∀ (s : Shared) (us : List Value), us.length = (["calls"] : List Str).length → BindsTo s fd ⟨us, []⟩ ((["calls"] : List Str).zip us)) ∧ ∀ base : Heap, K.In base → base.Ns mainGlobals mg → FnOk P w K mg base CX0 6 fa fd ["calls"] (spAns K) := by
  have e := hfa.symm.trans (PySem.W.mg_of X G aAns)
  cases e
  have FOnce := fun_mk (st := sOnce) lOnce cOnce kOnce
  have bOnce := FOnce.binds (ps := ["row", "things"]) fun _ _ _ _ _ _ us hl => match us, hl with | [_, _], _ => rfl
  have FStay := fun_mk (st := sStay) lStay cStay kStay
  have bStay := FStay.binds (ps := ["row", "asked"]) fun _ _ _ _ _ _ us hl => match us, hl with | [_, _], _ => rfl
  have FMv := fun_mk (st := sMv) lMv cMv kMv
  have bMv := FMv.binds (ps := ["row", "place", "to"]) fun _ _ _ _ _ _ us hl => match us, hl with | [_, _, _], _ => rfl
  have FMore := fun_mk (st := sMore) lMore cMore kMore
  have bMore := FMore.binds (ps := ["rows", "things"]) fun _ _ _ _ _ _ us hl => match us, hl with | [_, _], _ => rfl
  have FAll := fun_mk (st := sAll) lAll cAll kAll
  have bAll := FAll.binds (ps := ["things"]) fun _ _ _ _ _ _ us hl => match us, hl with | [_], _ => rfl
  have FBestF := fun_mk (st := sBest) lBestF cBestF kBestF
  have bBestF := FBestF.binds (ps := ["things", "asked"]) fun _ _ _ _ _ _ us hl => match us, hl with | [_, _], _ => rfl
  have FEx := fun_mk (st := sEx) lEx cEx kEx
  have bEx := FEx.binds (ps := ["one", "other"]) fun _ _ _ _ _ _ us hl => match us, hl with | [_, _], _ => rfl
  have FBetw := fun_mk (st := sBetw) lBetw cBetw kBetw
  have bBetw := FBetw.binds (ps := ["rows"]) fun _ _ _ _ _ _ us hl => match us, hl with | [_], _ => rfl
  have FLex := fun_mk (st := sLex) lLex cLex kLex
  have bLex := FLex.binds (ps := ["least", "rows", "between"]) fun _ _ _ _ _ _ us hl => match us, hl with | [_, _, _], _ => rfl
  have FPut := fun_mk (st := sPut) lPut cPut kPut
  have bPut := FPut.binds (ps := ["least", "thing"]) fun _ _ _ _ _ _ us hl => match us, hl with | [_, _], _ => rfl
  have FLeastF := fun_mk (st := sLeast) lLeastF cLeastF kLeastF
  have bLeastF := FLeastF.binds (ps := ["row", "asked"]) fun _ _ _ _ _ _ us hl => match us, hl with | [_, _], _ => rfl
  have FTimes := fun_mk (st := sTimes) lTimes cTimes kTimes
  have bTimes := FTimes.binds (ps := ["row", "place", "till_then"]) fun _ _ _ _ _ _ us hl => match us, hl with | [_, _, _], _ => rfl
  have FPlace := fun_mk (st := sPlace) lPlace cPlace kPlace
  have bPlace := FPlace.binds (ps := ["which", "row", "place", "till_then"]) fun _ _ _ _ _ _ us hl => match us, hl with | [_, _, _, _], _ => rfl
  have FRuled := fun_mk (st := sRuled) lRuled cRuled kRuled
  have bRuled := FRuled.binds (ps := ["which", "row", "asked"]) fun _ _ _ _ _ _ us hl => match us, hl with | [_, _, _], _ => rfl
  have FInit := fun_mk (st := sInit) lInit cInit kInit
  have bInit := FInit.binds (ps := ["self"]) fun _ _ _ _ _ _ us hl => match us, hl with | [_], _ => rfl
  have FBegins := fun_mk (st := sBegins) lBegins cBegins kBegins
  have bBegins := FBegins.binds (ps := ["self", "things"]) fun _ _ _ _ _ _ us hl => match us, hl with | [_, _], _ => rfl
  have FLaid := fun_mk (st := sLaid) lLaid cLaid kLaid
  have bLaid := FLaid.binds (ps := ["self", "row"]) fun _ _ _ _ _ _ us hl => match us, hl with | [_, _], _ => rfl
  have FAsks := fun_mk (st := sAsks) lAsks cAsks kAsks
  have bAsks := FAsks.binds (ps := ["self", "thing"]) fun _ _ _ _ _ _ us hl => match us, hl with | [_, _], _ => rfl
  have FFixed := fun_mk (st := sFixed) lFixed cFixed kFixed
  have bFixed := FFixed.binds (ps := ["self", "row"]) fun _ _ _ _ _ _ us hl => match us, hl with | [_, _], _ => rfl
  have FBestM := fun_mk (st := sBestM) lBestM cBestM kBestM
  have bBestM := FBestM.binds (ps := ["self"]) fun _ _ _ _ _ _ us hl => match us, hl with | [_], _ => rfl
  have FRuleM := fun_mk (st := sRuleM) lRuleM cRuleM kRuleM
  have bRuleM := FRuleM.binds (ps := ["self", "which"]) fun _ _ _ _ _ _ us hl => match us, hl with | [_, _], _ => rfl
  have FLeastM := fun_mk (st := sLeastM) lLeastM cLeastM kLeastM
  have bLeastM := FLeastM.binds (ps := ["self"]) fun _ _ _ _ _ _ us hl => match us, hl with | [_], _ => rfl
  have FLen := fun_mk (st := sLen) lLen cLen kLen
  have bLen := FLen.binds (ps := ["calls", "start"]) fun _ _ _ _ _ _ us hl => match us, hl with | [_, _], _ => rfl
  have FTo := fun_mk (st := sTo) lTo cTo kTo
  have bTo := FTo.binds (ps := ["shelf", "call"]) fun _ _ _ _ _ _ us hl => match us, hl with | [_, _], _ => rfl
  have FAns := fun_mk (st := sAns) lAns cAns kAns
  have bAns := FAns.binds (ps := ["calls"]) fun _ _ _ _ _ _ us hl => match us, hl with | [_], _ => rfl
  have T : Txt K mg C := ⟨⟨pgC, hdC, poC, saC⟩, nCrow, nCasked, PySem.W.mg_of X G aC, ⟨PySem.W.mg_none_of X G zlen, PySem.W.mg_none_of X G zsorted, PySem.W.mg_none_of X G zlist, PySem.W.mg_none_of X G zrange⟩, ⟨_, PySem.W.mg_of X G gMOST_THINGS⟩, ⟨_, PySem.W.mg_of X G gMOST_TIMES⟩⟩
  have N : TxN mg := ⟨⟨_, PySem.W.mg_of X G gBEGINS⟩, ⟨_, PySem.W.mg_of X G gLAID⟩, ⟨_, PySem.W.mg_of X G gASKS⟩, ⟨_, PySem.W.mg_of X G gFIXED⟩, ⟨_, PySem.W.mg_of X G gBEST⟩, ⟨_, PySem.W.mg_of X G gRULE⟩, ⟨_, PySem.W.mg_of X G gLEAST⟩⟩
  have R : TxR mg := ⟨⟨_, PySem.W.mg_of X G gTO_THE_FRONT⟩, ⟨_, PySem.W.mg_of X G gONE_AHEAD⟩, ⟨_, PySem.W.mg_of X G gBY_TIMES⟩, PySem.W.mg_none_of X G zmax, PySem.W.mg_none_of X G zenumerate⟩
  have zm := PySem.W.mg_none_of X G zmin
  have oOnce : Once K mg fOnce _ := ⟨FOnce, PySem.W.mg_of X G aOnce, bOnce⟩
  have oStay : Stay K mg fStay _ := ⟨FStay, PySem.W.mg_of X G aStay, bStay⟩
  have oMv : Mv K mg fMv _ := ⟨FMv, PySem.W.mg_of X G aMv, bMv⟩
  have oMore : More K mg fMore _ := ⟨FMore, PySem.W.mg_of X G aMore, bMore⟩
  have oAll : All K mg fAll _ := ⟨FAll, PySem.W.mg_of X G aAll, bAll⟩
  have oEx : Ex K mg fEx _ := ⟨FEx, PySem.W.mg_of X G aEx, bEx⟩
  have oBetw : Betw K mg fBetw _ := ⟨FBetw, PySem.W.mg_of X G aBetw, bBetw⟩
  have oLex : Lex K mg fLex _ := ⟨FLex, PySem.W.mg_of X G aLex, bLex⟩
  have oPut : Put K mg fPut _ := ⟨FPut, PySem.W.mg_of X G aPut, bPut⟩
  have oTimes : Times K mg fTimes _ := ⟨FTimes, PySem.W.mg_of X G aTimes, bTimes⟩
  have oPlace : Place K mg fPlace _ := ⟨FPlace, PySem.W.mg_of X G aPlace, bPlace⟩
  exact ⟨PySem.W.fnOf "answers" "answers" (defArgs sAns) (defBody sAns) (defScope sAns) .none kVAns dcAns pmAns anAns cdAns ctAns, fun s us hu => match us, hu with | [_], _ => .of_eq rfl, fun base _ _ => ok_ans FAns T ⟨mkC, aInit, iInit, kcC⟩ (ok_init FInit T) bInit (ok_len FLen N) (PySem.W.mg_of X G aLen) kLen bLen (ok_to FTo T.cl N ⟨aBegins, iBegins, kBegins⟩ (ok_begins FBegins T) bBegins ⟨aLaid, iLaid, kLaid⟩ (ok_laid FLaid T oOnce) bLaid ⟨aAsks, iAsks, kAsks⟩ (ok_asks FAsks T) bAsks ⟨aFixed, iFixed, kFixed⟩ (ok_fixed FFixed T oOnce oStay) bFixed ⟨aBestM, iBestM, kBestM⟩ (ok_bestM FBestM T (ok_best FBestF T.bn zm oAll oMore oStay) (PySem.W.mg_of X G aBestF) kBestF bBestF) bBestM ⟨aRuleM, iRuleM, kRuleM⟩ (ok_ruleM FRuleM T R (ok_ruled FRuled T.bn R oTimes oPlace oMv) (PySem.W.mg_of X G aRuled) kRuled bRuled) bRuleM ⟨aLeastM, iLeastM, kLeastM⟩ (ok_leastM FLeastM T (ok_least FLeastF T.bn zm (PySem.W.mg_none_of X G ztuple) oAll oMore oBetw oEx oLex oPut oMv) (PySem.W.mg_of X G aLeastF) kLeastF bLeastF) bLeastM) (PySem.W.mg_of X G aTo) kTo bTo⟩
end Cr
open PySem PySem.W PyProof.Rows
set_option maxRecDepth 100000 in
set_option maxHeartbeats 0 in
theorem PySem.Challenge.cw_counterrow_s01_answers_holds : PySem.Challenge.rw_counterrow_s01_answers.Holds := by
  w_on; k_headS; (case hw => exact ⟨[.list [.int 2, .int 0]], by decide +kernel, by decide +kernel⟩)
  k_fillS
  refine L2.walk_specK (r := PySem.Challenge.rw_counterrow_s01_answers) (k := 6) (CX := L2.CX0) (ps := ["calls"]) (sp := fun K => Cr.spAns K) (by decide +kernel) rfl rfl ⟨rfl, by decide, by decide⟩ (fun w h Y => PySem.W.kIn_of Y) ?F ?S (fun _ _ _ _ z => z)
  case F =>
    intro w mg fa h Y KX G hmg
    refine' Cr.all_mk KX G hmg ?aC ?aOnce ?lOnce ?cOnce ?kOnce ?aStay ?lStay ?cStay ?kStay ?aMv ?lMv ?cMv ?kMv ?aMore ?lMore ?cMore ?kMore ?aAll ?lAll ?cAll ?kAll ?aBestF ?lBestF ?cBestF ?kBestF ?aEx ?lEx ?cEx ?kEx ?aBetw ?lBetw ?cBetw ?kBetw ?aLex ?lLex ?cLex ?kLex ?aPut ?lPut ?cPut ?kPut ?aLeastF ?lLeastF ?cLeastF ?kLeastF ?aTimes ?lTimes ?cTimes ?kTimes ?aPlace ?lPlace ?cPlace ?kPlace ?aRuled ?lRuled ?cRuled ?kRuled ?aInit ?iInit ?lInit ?cInit ?kInit ?aBegins ?iBegins ?lBegins ?cBegins ?kBegins ?aLaid ?iLaid ?lLaid ?cLaid ?kLaid ?aAsks ?iAsks ?lAsks ?cAsks ?kAsks ?aFixed ?iFixed ?lFixed ?cFixed ?kFixed ?aBestM ?iBestM ?lBestM ?cBestM ?kBestM ?aRuleM ?iRuleM ?lRuleM ?cRuleM ?kRuleM ?aLeastM ?iLeastM ?lLeastM ?cLeastM ?kLeastM ?aLen ?lLen ?cLen ?kLen ?aTo ?lTo ?cTo ?kTo ?aAns ?lAns ?cAns ?kAns ?pgC ?hdC ?poC ?saC ?mkC ?kcC ?nCrow ?nCasked ?gTO_THE_FRONT ?gONE_AHEAD ?gBY_TIMES ?gMOST_THINGS ?gMOST_TIMES ?gBEGINS ?gLAID ?gASKS ?gFIXED ?gBEST ?gRULE ?gLEAST ?zlen ?zsorted ?zlist ?zrange ?zmin ?zmax ?ztuple ?zenumerate
    (case aC => k_is)
    (case aOnce => k_is)
    (case lOnce => k_is)
    (case cOnce => k_is)
    (case kOnce => k_is)
    (case aStay => k_is)
    (case lStay => k_is)
    (case cStay => k_is)
    (case kStay => k_is)
    (case aMv => k_is)
    (case lMv => k_is)
    (case cMv => k_is)
    (case kMv => k_is)
    (case aMore => k_is)
    (case lMore => k_is)
    (case cMore => k_is)
    (case kMore => k_is)
    (case aAll => k_is)
    (case lAll => k_is)
    (case cAll => k_is)
    (case kAll => k_is)
    (case aBestF => k_is)
    (case lBestF => k_is)
    (case cBestF => k_is)
    (case kBestF => k_is)
    (case aEx => k_is)
    (case lEx => k_is)
    (case cEx => k_is)
    (case kEx => k_is)
    (case aBetw => k_is)
    (case lBetw => k_is)
    (case cBetw => k_is)
    (case kBetw => k_is)
    (case aLex => k_is)
    (case lLex => k_is)
    (case cLex => k_is)
    (case kLex => k_is)
    (case aPut => k_is)
    (case lPut => k_is)
    (case cPut => k_is)
    (case kPut => k_is)
    (case aLeastF => k_is)
    (case lLeastF => k_is)
    (case cLeastF => k_is)
    (case kLeastF => k_is)
    (case aTimes => k_is)
    (case lTimes => k_is)
    (case cTimes => k_is)
    (case kTimes => k_is)
    (case aPlace => k_is)
    (case lPlace => k_is)
    (case cPlace => k_is)
    (case kPlace => k_is)
    (case aRuled => k_is)
    (case lRuled => k_is)
    (case cRuled => k_is)
    (case kRuled => k_is)
    (case aInit => k_is)
    (case iInit => k_is)
    (case lInit => k_is)
    (case cInit => k_is)
    (case kInit => k_is)
    (case aBegins => k_is)
    (case iBegins => k_is)
    (case lBegins => k_is)
    (case cBegins => k_is)
    (case kBegins => k_is)
    (case aLaid => k_is)
    (case iLaid => k_is)
    (case lLaid => k_is)
    (case cLaid => k_is)
    (case kLaid => k_is)
    (case aAsks => k_is)
    (case iAsks => k_is)
    (case lAsks => k_is)
    (case cAsks => k_is)
    (case kAsks => k_is)
    (case aFixed => k_is)
    (case iFixed => k_is)
    (case lFixed => k_is)
    (case cFixed => k_is)
    (case kFixed => k_is)
    (case aBestM => k_is)
    (case iBestM => k_is)
    (case lBestM => k_is)
    (case cBestM => k_is)
    (case kBestM => k_is)
    (case aRuleM => k_is)
    (case iRuleM => k_is)
    (case lRuleM => k_is)
    (case cRuleM => k_is)
    (case kRuleM => k_is)
    (case aLeastM => k_is)
    (case iLeastM => k_is)
    (case lLeastM => k_is)
    (case cLeastM => k_is)
    (case kLeastM => k_is)
    (case aLen => k_is)
    (case lLen => k_is)
    (case cLen => k_is)
    (case kLen => k_is)
    (case aTo => k_is)
    (case lTo => k_is)
    (case cTo => k_is)
    (case kTo => k_is)
    (case aAns => k_is)
    (case lAns => k_is)
    (case cAns => k_is)
    (case kAns => k_is)
    (case pgC => k_is)
    (case hdC => k_is)
    (case poC => k_is)
    (case saC => k_is)
    (case mkC => k_is)
    (case kcC => k_is)
    (case nCrow => k_is)
    (case nCasked => k_is)
    (case gTO_THE_FRONT => k_is)
    (case gONE_AHEAD => k_is)
    (case gBY_TIMES => k_is)
    (case gMOST_THINGS => k_is)
    (case gMOST_TIMES => k_is)
    (case gBEGINS => k_is)
    (case gLAID => k_is)
    (case gASKS => k_is)
    (case gFIXED => k_is)
    (case gBEST => k_is)
    (case gRULE => k_is)
    (case gLEAST => k_is)
    (case zlen => k_is)
    (case zsorted => k_is)
    (case zlist => k_is)
    (case zrange => k_is)
    (case zmin => k_is)
    (case zmax => k_is)
    (case ztuple => k_is)
    (case zenumerate => k_is)
  case S =>
    intro K H xs a hO hwi hask hx
    cases hx with
    | cons h1 h2 =>
      cases h2
      cases h1 with
      | lst hs ha =>
        have e := L2.ints_dw a.1 _ ha
        subst e
        have hq : PySi88.answers_asked a.1 = true := hask
        obtain ⟨ks, e1, e2, e3, e4, e5⟩ := Cr.asked_is hq
        refine ⟨_, ks, rfl, by rw [← e1]; exact hs, e2, by rw [← e4]; exact e5, fun H' p hp => ?_⟩
        show L2.Dw K H' (.ref p) (.list ((PySi88.answers a.1).map WData.int))
        rw [e4]
        exact .lst (L2.SqL.of hp) (L2.dw_ints _)

#print axioms PySem.Challenge.cw_counterrow_s01_answers_holds
