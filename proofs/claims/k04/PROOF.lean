import PyProof.Rows.All
import Wide.All
import OpenK.AllK
import Wide.FinOn
import HandS.ForMost
import HandS.Walk
import HandS.Evl
import HandS.NoneIn
import HandS.Style
import HandS.Conv
import HandS.Set
import HandS.Strs
import HandS.SetFor
import HandS.SortInts
import HandS.IsInst
import PySem.Challenge.RW_signsets_k04_whole_the_fewest_ranges
set_option Elab.async false
set_option linter.all false
set_option maxRecDepth 100000
set_option maxHeartbeats 4000001
namespace SM
/-- whether a sign is in one of the ranges -/
def memB (rs : List (Nat × Nat)) (k : Nat) : Bool := rs.any fun r => decide (r.1 ≤ k) && decide (k ≤ r.2)
/-- the start of the run behind sign i, and the runs told so far -/
def st (m : Nat → Bool) : Nat → Nat
  | 0 => 0
  | i + 1 => if m i = true then st m i else i + 1
def told (m : Nat → Bool) : Nat → List (Nat × Nat)
  | 0 => []
  | i + 1 => if m i = true then (if st m i = i then told m i ++ [(i, i)] else (told m i).dropLast ++ [(st m i, i)]) else told m i
theorem st_yes {m : Nat → Bool} {i : Nat} (h : m i = true) : st m (i + 1) = st m i := by rw [st, if_pos h]
theorem st_no {m : Nat → Bool} {i : Nat} (h : m i = false) : st m (i + 1) = i + 1 := by rw [st, if_neg (by rw [h]; decide)]
theorem memB_nil (k : Nat) : memB [] k = false := rfl
theorem memB_cons (r : Nat × Nat) (rs : List (Nat × Nat)) (k : Nat) : memB (r :: rs) k = ((decide (r.1 ≤ k) && decide (k ≤ r.2)) || memB rs k) := rfl
theorem memB_append (a b : List (Nat × Nat)) (k : Nat) : memB (a ++ b) k = (memB a k || memB b k) := List.any_append
theorem memB_one (r : Nat × Nat) (k : Nat) : memB [r] k = (decide (r.1 ≤ k) && decide (k ≤ r.2)) := by
  rw [memB_cons, memB_nil, Bool.or_false]
theorem memB_iff {rs : List (Nat × Nat)} {k : Nat} : memB rs k = true ↔ ∃ r ∈ rs, r.1 ≤ k ∧ k ≤ r.2 := by
  unfold memB
  rw [List.any_eq_true]
  constructor
  · rintro ⟨r, h, e⟩
    rw [Bool.and_eq_true, decide_eq_true_eq, decide_eq_true_eq] at e
    exact ⟨r, h, e⟩
  · rintro ⟨r, h, e⟩
    exact ⟨r, h, by rw [Bool.and_eq_true, decide_eq_true_eq, decide_eq_true_eq]; exact e⟩
theorem memB_perm {a b : List (Nat × Nat)} (h : ∀ r, r ∈ a ↔ r ∈ b) (k : Nat) : memB a k = memB b k := by
  rw [Bool.eq_iff_iff, memB_iff, memB_iff]
  constructor
  · rintro ⟨r, q, e⟩; exact ⟨r, (h r).mp q, e⟩
  · rintro ⟨r, q, e⟩; exact ⟨r, (h r).mpr q, e⟩
theorem st_le (m : Nat → Bool) : ∀ i, st m i ≤ i
  | 0 => Nat.le_refl 0
  | i + 1 => by
    have := st_le m i
    unfold st
    split <;> omega
/-- rising, with a gap between each two -/
structure Sep (rs : List (Nat × Nat)) : Prop where
  le : ∀ r ∈ rs, r.1 ≤ r.2
  gap : rs.Pairwise fun r s => r.2 + 1 < s.1
/-- what the loop keeps -/
structure Kept (m : Nat → Bool) (i : Nat) : Prop where
  run : ∀ k, st m i ≤ k → k < i → m k = true
  edge : st m i = 0 ∨ ∃ j, st m i = j + 1 ∧ m j = false
  shape : ∃ pre, told m i = pre ++ (if st m i < i then [(st m i, i - 1)] else []) ∧ Sep pre ∧ (∀ r ∈ pre, r.2 + 1 < st m i) ∧ (∀ k, k < st m i → memB pre k = m k)
theorem kept (m : Nat → Bool) : ∀ i, Kept m i
  | 0 => ⟨fun k _ h => absurd h (Nat.not_lt_zero k), .inl rfl, [], rfl, ⟨fun _ h => by simp at h, List.Pairwise.nil⟩, fun _ h => by simp at h, fun k h => absurd h (Nat.not_lt_zero k)⟩
  | i + 1 => by
    have K := kept m i
    have hle := st_le m i
    obtain ⟨pre, e, sp, hb, hm⟩ := K.shape
    cases hi : m i with
    | true =>
      have es : st m (i + 1) = st m i := by rw [st, if_pos hi]
      refine ⟨fun k h1 h2 => ?_, ?_, pre, ?_, sp, ?_, ?_⟩
      · rw [es] at h1
        by_cases c : k = i
        · rw [c]; exact hi
        · exact K.run k h1 (by omega)
      · rw [es]; exact K.edge
      · rw [es, if_pos (by omega), Nat.add_sub_cancel, told, if_pos hi]
        by_cases c : st m i = i
        · rw [if_pos c, e, if_neg (by omega), List.append_nil, c]
        · rw [if_neg c, e, if_pos (by omega), List.dropLast_concat]
      · rw [es]; exact hb
      · rw [es]; exact hm
    | false =>
      have es : st m (i + 1) = i + 1 := by rw [st, if_neg (by rw [hi]; decide)]
      have et : told m (i + 1) = told m i := by rw [told, if_neg (by rw [hi]; decide)]
      refine ⟨fun k h1 h2 => by omega, .inr ⟨i, es, hi⟩, told m i, ?_, ?_, ?_, ?_⟩
      · rw [es, if_neg (by omega), List.append_nil, et]
      · rw [e]
        by_cases c : st m i < i
        · rw [if_pos c]
          refine ⟨fun r h => ?_, ?_⟩
          · rcases List.mem_append.mp h with h | h
            · exact sp.le r h
            · rw [List.mem_singleton.mp h]; show st m i ≤ i - 1; omega
          · refine List.pairwise_append.mpr ⟨sp.gap, List.pairwise_singleton _ _, fun r h s hs => ?_⟩
            rw [List.mem_singleton.mp hs]
            exact hb r h
        · rw [if_neg c, List.append_nil]; exact sp
      · intro r h
        rw [es]
        rw [e] at h
        rcases List.mem_append.mp h with h | h
        · have := hb r h; omega
        · by_cases c : st m i < i
          · rw [if_pos c] at h
            rw [List.mem_singleton.mp h]
            show i - 1 + 1 < i + 1
            omega
          · rw [if_neg c] at h; simp at h
      · intro k hk
        rw [es] at hk
        rw [e, memB_append]
        by_cases c : st m i < i
        · rw [if_pos c, memB_one]
          by_cases c2 : k < st m i
          · rw [hm k c2, decide_eq_false (show ¬ st m i ≤ k by omega), Bool.false_and, Bool.or_false]
          · have np : memB pre k = false := by
              cases q : memB pre k with
              | false => rfl
              | true =>
                obtain ⟨r, hr, _, h2⟩ := memB_iff.mp q
                have := hb r hr
                omega
            rw [np, Bool.false_or]
            by_cases c3 : k = i
            · rw [c3, hi, decide_eq_false (show ¬ i ≤ i - 1 by omega), Bool.and_false]
            · rw [K.run k (by omega) (by omega), decide_eq_true (show st m i ≤ k by omega), decide_eq_true (show k ≤ i - 1 by omega)]; rfl
        · rw [if_neg c, memB_nil, Bool.or_false]
          by_cases c2 : k < st m i
          · exact hm k c2
          · have ek : k = i := by omega
            subst ek
            rw [hi]
            cases q : memB pre k with
            | false => rfl
            | true =>
              obtain ⟨r, hr, _, h2⟩ := memB_iff.mp q
              have := hb r hr
              omega
theorem told_sep (m : Nat → Bool) (n : Nat) : Sep (told m n) := by
  obtain ⟨pre, e, sp, hb, hm⟩ := (kept m n).shape
  rw [e]
  by_cases c : st m n < n
  · rw [if_pos c]
    refine ⟨fun r h => ?_, ?_⟩
    · rcases List.mem_append.mp h with h | h
      · exact sp.le r h
      · rw [List.mem_singleton.mp h]; show st m n ≤ n - 1; omega
    · refine List.pairwise_append.mpr ⟨sp.gap, List.pairwise_singleton _ _, fun r h s hs => ?_⟩
      rw [List.mem_singleton.mp hs]
      exact hb r h
  · rw [if_neg c, List.append_nil]; exact sp
theorem told_below (m : Nat → Bool) (n : Nat) : ∀ r ∈ told m n, r.2 < n := by
  obtain ⟨pre, e, sp, hb, hm⟩ := (kept m n).shape
  have hle := st_le m n
  intro r h
  rw [e] at h
  rcases List.mem_append.mp h with h | h
  · have := hb r h; omega
  · by_cases c : st m n < n
    · rw [if_pos c] at h
      rw [List.mem_singleton.mp h]
      show n - 1 < n
      omega
    · rw [if_neg c] at h; simp at h
theorem told_mem (m : Nat → Bool) (n k : Nat) (hk : k < n) : memB (told m n) k = m k := by
  have K := kept m n
  have hle := st_le m n
  obtain ⟨pre, e, sp, hb, hm⟩ := K.shape
  rw [e, memB_append]
  by_cases c2 : k < st m n
  · rw [hm k c2]
    by_cases c : st m n < n
    · rw [if_pos c, memB_one, decide_eq_false (show ¬ st m n ≤ k by omega), Bool.false_and, Bool.or_false]
    · rw [if_neg c, memB_nil, Bool.or_false]
  · rw [if_pos (by omega), memB_one, K.run k (by omega) hk, decide_eq_true (show st m n ≤ k by omega), decide_eq_true (show k ≤ n - 1 by omega)]
    exact Bool.or_true _
theorem st_congr {m m' : Nat → Bool} : ∀ n, (∀ k, k < n → m k = m' k) → st m n = st m' n
  | 0, _ => rfl
  | n + 1, h => by
    rw [st, st, h n (Nat.lt_succ_self n), st_congr n fun k hk => h k (Nat.lt_succ_of_lt hk)]
theorem told_congr {m m' : Nat → Bool} : ∀ n, (∀ k, k < n → m k = m' k) → told m n = told m' n
  | 0, _ => rfl
  | n + 1, h => by
    have h' : ∀ k, k < n → m k = m' k := fun k hk => h k (Nat.lt_succ_of_lt hk)
    rw [told, told, h n (Nat.lt_succ_self n), st_congr n h', told_congr n h']
theorem sep_len : ∀ (rs : List (Nat × Nat)) (a n : Nat), Sep rs → (∀ r ∈ rs, a ≤ r.1 ∧ r.2 < n) → a ≤ n + 1 → 2 * rs.length + a ≤ n + 1
  | [], a, n, _, _, h => by simpa using h
  | r :: rs, a, n, s, h, ha => by
    have h1 := s.le r List.mem_cons_self
    have h2 := h r List.mem_cons_self
    have g := List.pairwise_cons.mp s.gap
    have s' : Sep rs := ⟨fun q hq => s.le q (List.mem_cons_of_mem _ hq), g.2⟩
    have ih := sep_len rs (r.2 + 2) n s' (fun q hq => by
      have a1 := g.1 q hq
      have a2 := h q (List.mem_cons_of_mem _ hq)
      exact ⟨by omega, a2.2⟩) (by omega)
    rw [List.length_cons]
    omega
theorem told_len (m : Nat → Bool) (n : Nat) : 2 * (told m n).length ≤ n + 1 := by
  have := sep_len (told m n) 0 n (told_sep m n) (fun r h => ⟨Nat.zero_le _, told_below m n r h⟩) (by omega)
  omega
theorem st_true : ∀ n, st (fun _ => true) n = 0
  | 0 => rfl
  | n + 1 => by rw [st, if_pos rfl, st_true n]
theorem told_true : ∀ n, told (fun _ => true) (n + 1) = [(0, n)]
  | 0 => rfl
  | n + 1 => by
    rw [told, if_pos rfl, st_true, if_neg (by omega), told_true n]; rfl
theorem told_false : ∀ n, told (fun _ => false) n = []
  | 0 => rfl
  | n + 1 => by rw [told, if_neg (by decide), told_false n]
/-- a set that can be -/
structure Good (n : Nat) (rs : List (Nat × Nat)) : Prop where
  len : rs.length ≤ 40
  ok : ∀ r ∈ rs, r.1 ≤ r.2 ∧ r.2 < n
theorem told_good (m : Nat → Bool) {n : Nat} (h : n ≤ 64) : Good n (told m n) :=
  ⟨by have := told_len m n; omega, fun r hr => ⟨(told_sep m n).le r hr, told_below m n r hr⟩⟩
theorem memB_lt {n : Nat} {rs : List (Nat × Nat)} (g : ∀ r ∈ rs, r.1 ≤ r.2 ∧ r.2 < n) {k : Nat} (h : memB rs k = true) : k < n := by
  obtain ⟨r, hr, h1, h2⟩ := memB_iff.mp h
  have := g r hr
  omega
end SM

namespace SM
theorem sortedNat : ∀ {a b : List Nat}, a.Pairwise (· < ·) → b.Pairwise (· < ·) → (∀ k, k ∈ a ↔ k ∈ b) → a = b
  | [], [], _, _, _ => rfl
  | [], y :: b, _, _, h => absurd ((h y).mpr List.mem_cons_self) (by simp)
  | x :: a, [], _, _, h => absurd ((h x).mp List.mem_cons_self) (by simp)
  | x :: a, y :: b, ha, hb, h => by
    obtain ⟨a1, a2⟩ := List.pairwise_cons.mp ha
    obtain ⟨b1, b2⟩ := List.pairwise_cons.mp hb
    have e : x = y := by
      rcases List.mem_cons.mp ((h x).mp List.mem_cons_self) with e | e
      · exact e
      · rcases List.mem_cons.mp ((h y).mpr List.mem_cons_self) with e' | e'
        · exact e'.symm
        · have := b1 x e; have := a1 y e'; omega
    subst e
    refine congrArg (x :: ·) (sortedNat a2 b2 fun k => ⟨fun hk => ?_, fun hk => ?_⟩)
    · rcases List.mem_cons.mp ((h k).mp (List.mem_cons_of_mem _ hk)) with e | e
      · have := a1 k hk; omega
      · exact e
    · rcases List.mem_cons.mp ((h k).mpr (List.mem_cons_of_mem _ hk)) with e | e
      · have := b1 k hk; omega
      · exact e
theorem sortedInt : ∀ {a b : List Int}, a.Pairwise (· < ·) → b.Pairwise (· < ·) → (∀ k, k ∈ a ↔ k ∈ b) → a = b
  | [], [], _, _, _ => rfl
  | [], y :: b, _, _, h => absurd ((h y).mpr List.mem_cons_self) (by simp)
  | x :: a, [], _, _, h => absurd ((h x).mp List.mem_cons_self) (by simp)
  | x :: a, y :: b, ha, hb, h => by
    obtain ⟨a1, a2⟩ := List.pairwise_cons.mp ha
    obtain ⟨b1, b2⟩ := List.pairwise_cons.mp hb
    have e : x = y := by
      rcases List.mem_cons.mp ((h x).mp List.mem_cons_self) with e | e
      · exact e
      · rcases List.mem_cons.mp ((h y).mpr List.mem_cons_self) with e' | e'
        · exact e'.symm
        · have := b1 x e; have := a1 y e'; omega
    subst e
    refine congrArg (x :: ·) (sortedInt a2 b2 fun k => ⟨fun hk => ?_, fun hk => ?_⟩)
    · rcases List.mem_cons.mp ((h k).mp (List.mem_cons_of_mem _ hk)) with e | e
      · have := a1 k hk; omega
      · exact e
    · rcases List.mem_cons.mp ((h k).mpr (List.mem_cons_of_mem _ hk)) with e | e
      · have := b1 k hk; omega
      · exact e
theorem range_lt (n : Nat) : (List.range n).Pairwise (· < ·) := List.pairwise_lt_range
theorem filt_lt (n : Nat) (f : Nat → Bool) : ((List.range n).filter f).Pairwise (· < ·) := (range_lt n).filter f
theorem mem_filt {n : Nat} {f : Nat → Bool} {k : Nat} : k ∈ (List.range n).filter f ↔ k < n ∧ f k = true := by
  rw [List.mem_filter, List.mem_range]
theorem sep_tri : ∀ {rs : List (Nat × Nat)}, Sep rs → ∀ r ∈ rs, ∀ q ∈ rs, r = q ∨ r.2 + 1 < q.1 ∨ q.2 + 1 < r.1
  | [], _, r, hr, _, _ => by simp at hr
  | x :: rs, s, r, hr, q, hq => by
    obtain ⟨g1, g2⟩ := List.pairwise_cons.mp s.gap
    have s' : Sep rs := ⟨fun z hz => s.le z (List.mem_cons_of_mem _ hz), g2⟩
    rcases List.mem_cons.mp hr with e1 | h1
    · rcases List.mem_cons.mp hq with e2 | h2
      · exact .inl (e1.trans e2.symm)
      · rw [e1]; exact .inr (.inl (g1 q h2))
    · rcases List.mem_cons.mp hq with e2 | h2
      · rw [e2]; exact .inr (.inr (g1 r h1))
      · exact sep_tri s' r h1 q h2
theorem sep_fst : ∀ {rs : List (Nat × Nat)}, Sep rs → (rs.map Prod.fst).Pairwise (· < ·) := fun {rs} s => by
  refine List.pairwise_map.mpr ?_
  have h : rs.Pairwise fun r q => r.2 + 1 < q.1 := s.gap
  refine (List.pairwise_iff_forall_sublist.mpr fun {a b} hs => ?_)
  have h1 := List.pairwise_iff_forall_sublist.mp h hs
  have h2 := s.le a (hs.subset (by simp))
  omega
theorem sep_snd : ∀ {rs : List (Nat × Nat)}, Sep rs → (rs.map Prod.snd).Pairwise (· < ·) := fun {rs} s => by
  refine List.pairwise_map.mpr ?_
  have h : rs.Pairwise fun r q => r.2 + 1 < q.1 := s.gap
  refine (List.pairwise_iff_forall_sublist.mpr fun {a b} hs => ?_)
  have h1 := List.pairwise_iff_forall_sublist.mp h hs
  have h2 := s.le b (hs.subset (by simp))
  omega
/-- the first and last signs of runs -/
def isF (m : Nat → Bool) (k : Nat) : Bool := m k && (decide (k = 0) || !m (k - 1))
def isL (n : Nat) (m : Nat → Bool) (k : Nat) : Bool := m k && (decide (k + 1 = n) || !m (k + 1))
theorem told_fst (m : Nat → Bool) (n : Nat) : (told m n).map Prod.fst = (List.range n).filter (isF m) := by
  have s := told_sep m n
  refine sortedNat (sep_fst s) (filt_lt n _) fun k => ?_
  rw [mem_filt, List.mem_map]
  constructor
  · rintro ⟨r, hr, rfl⟩
    have h1 := s.le r hr
    have h2 := told_below m n r hr
    refine ⟨by omega, ?_⟩
    have h3 : m r.1 = true := by rw [← told_mem m n r.1 (by omega)]; exact memB_iff.mpr ⟨r, hr, Nat.le_refl _, h1⟩
    unfold isF
    rw [h3, Bool.true_and]
    by_cases c : r.1 = 0
    · rw [decide_eq_true c]; rfl
    · rw [decide_eq_false c, Bool.false_or, Bool.not_eq_true']
      cases hm : m (r.1 - 1) with
      | false => rfl
      | true =>
        rw [← told_mem m n (r.1 - 1) (by omega)] at hm
        obtain ⟨q, hq, q1, q2⟩ := memB_iff.mp hm
        rcases sep_tri s r hr q hq with e | e | e
        · subst e; omega
        · omega
        · omega
  · rintro ⟨hk, hf⟩
    unfold isF at hf
    obtain ⟨f1, f2⟩ := Bool.and_eq_true_iff.mp hf
    rw [← told_mem m n k hk] at f1
    obtain ⟨r, hr, r1, r2⟩ := memB_iff.mp f1
    refine ⟨r, hr, ?_⟩
    by_cases c : r.1 = k
    · exact c
    · exfalso
      rw [decide_eq_false (show ¬ k = 0 by omega), Bool.false_or, Bool.not_eq_true', ← told_mem m n (k - 1) (by omega)] at f2
      have := memB_iff.mpr ⟨r, hr, show r.1 ≤ k - 1 by omega, show k - 1 ≤ r.2 by omega⟩
      rw [this] at f2; cases f2
theorem told_snd (m : Nat → Bool) (n : Nat) : (told m n).map Prod.snd = (List.range n).filter (isL n m) := by
  have s := told_sep m n
  refine sortedNat (sep_snd s) (filt_lt n _) fun k => ?_
  rw [mem_filt, List.mem_map]
  constructor
  · rintro ⟨r, hr, rfl⟩
    have h1 := s.le r hr
    have h2 := told_below m n r hr
    refine ⟨h2, ?_⟩
    have h3 : m r.2 = true := by rw [← told_mem m n r.2 h2]; exact memB_iff.mpr ⟨r, hr, h1, Nat.le_refl _⟩
    unfold isL
    rw [h3, Bool.true_and]
    by_cases c : r.2 + 1 = n
    · rw [decide_eq_true c]; rfl
    · rw [decide_eq_false c, Bool.false_or, Bool.not_eq_true']
      cases hm : m (r.2 + 1) with
      | false => rfl
      | true =>
        rw [← told_mem m n (r.2 + 1) (by omega)] at hm
        obtain ⟨q, hq, q1, q2⟩ := memB_iff.mp hm
        rcases sep_tri s r hr q hq with e | e | e
        · subst e; omega
        · omega
        · have := s.le q hq; omega
  · rintro ⟨hk, hf⟩
    unfold isL at hf
    obtain ⟨f1, f2⟩ := Bool.and_eq_true_iff.mp hf
    rw [← told_mem m n k hk] at f1
    obtain ⟨r, hr, r1, r2⟩ := memB_iff.mp f1
    refine ⟨r, hr, ?_⟩
    have h2 := told_below m n r hr
    by_cases c : r.2 = k
    · exact c
    · exfalso
      rw [decide_eq_false (show ¬ k + 1 = n by omega), Bool.false_or, Bool.not_eq_true', ← told_mem m n (k + 1) (by omega)] at f2
      have := memB_iff.mpr ⟨r, hr, show r.1 ≤ k + 1 by omega, show k + 1 ≤ r.2 by omega⟩
      rw [this] at f2; cases f2
/-- all numbers of the ranges, as they come -/
def cat (rs : List (Nat × Nat)) : List Int := rs.flatMap fun r => (List.range (r.2 + 1 - r.1)).map fun i => ((r.1 : Int) + (i : Nat))
theorem mem_cat {rs : List (Nat × Nat)} {k : Int} : k ∈ cat rs ↔ ∃ j : Nat, k = (j : Int) ∧ memB rs j = true := by
  unfold cat
  rw [List.mem_flatMap]
  constructor
  · rintro ⟨r, hr, h⟩
    obtain ⟨i, hi, rfl⟩ := List.mem_map.mp h
    rw [List.mem_range] at hi
    exact ⟨r.1 + i, by omega, memB_iff.mpr ⟨r, hr, by omega, by omega⟩⟩
  · rintro ⟨j, rfl, h⟩
    obtain ⟨r, hr, h1, h2⟩ := memB_iff.mp h
    exact ⟨r, hr, List.mem_map.mpr ⟨j - r.1, List.mem_range.mpr (by omega), by omega⟩⟩
theorem cat_len {n : Nat} : ∀ {rs : List (Nat × Nat)}, (∀ r ∈ rs, r.1 ≤ r.2 ∧ r.2 < n) → (cat rs).length ≤ rs.length * n
  | [], _ => by simp [cat]
  | r :: rs, h => by
    have ih := cat_len (rs := rs) fun q hq => h q (List.mem_cons_of_mem _ hq)
    have h1 := h r List.mem_cons_self
    have e : (cat (r :: rs)).length = (r.2 + 1 - r.1) + (cat rs).length := by
      unfold cat
      rw [List.flatMap_cons, List.length_append, List.length_map, List.length_range]
    rw [e, List.length_cons, Nat.succ_mul]
    omega
theorem int_lt {l : List Nat} (h : l.Pairwise (· < ·)) : (l.map fun k : Nat => (k : Int)).Pairwise (· < ·) := List.pairwise_map.mpr (h.imp fun {a b} z => by omega)
end SM

namespace SM
theorem fewest_aux {m : Nat → Bool} : ∀ (ts rs : List (Nat × Nat)), Sep ts → (∀ t ∈ ts, m (t.2 + 1) = false) → (∀ r ∈ rs, ∀ k, r.1 ≤ k → k ≤ r.2 → m k = true) → (∀ t ∈ ts, ∃ r ∈ rs, r.1 ≤ t.1 ∧ t.1 ≤ r.2) → ts.length ≤ rs.length
  | [], rs, _, _, _, _ => Nat.zero_le _
  | t :: ts, rs, s, hm, hr, hx => by
    obtain ⟨r, hrm, r1, r2⟩ := hx t List.mem_cons_self
    have hr2 : r.2 ≤ t.2 := by
      have tl := s.le t List.mem_cons_self
      by_cases c : t.2 + 1 ≤ r.2
      · have := hr r hrm (t.2 + 1) (by omega) c
        rw [hm t List.mem_cons_self] at this; cases this
      · omega
    obtain ⟨g1, g2⟩ := List.pairwise_cons.mp s.gap
    have s' : Sep ts := ⟨fun z hz => s.le z (List.mem_cons_of_mem _ hz), g2⟩
    have ih := fewest_aux ts (rs.erase r) s' (fun z hz => hm z (List.mem_cons_of_mem _ hz)) (fun z hz => hr z (List.mem_of_mem_erase hz)) (fun z hz => by
      obtain ⟨q, hq, q1, q2⟩ := hx z (List.mem_cons_of_mem _ hz)
      have gz := g1 z hz
      refine ⟨q, (List.mem_erase_of_ne (fun e => ?_)).mpr hq, q1, q2⟩
      subst e; omega)
    rw [List.length_erase_of_mem hrm] at ih
    have hp : 0 < rs.length := List.length_pos_of_mem hrm
    rw [List.length_cons]
    omega
/-- no list of ranges of the same signs is shorter -/
theorem fewest {n : Nat} {f : Nat → Bool} {rs : List (Nat × Nat)} (hg : ∀ r ∈ rs, r.1 ≤ r.2 ∧ r.2 < n) (h : ∀ k, k < n → memB rs k = f k) : (told f n).length ≤ rs.length := by
  have s := told_sep f n
  refine fewest_aux (m := fun k => decide (k < n) && f k) _ rs s (fun t ht => ?_) (fun r hr k h1 h2 => ?_) (fun t ht => ?_)
  · have tb := told_below f n t ht
    have tl := s.le t ht
    cases hc : (decide (t.2 + 1 < n) && f (t.2 + 1)) with
    | false => rfl
    | true =>
      obtain ⟨c1, c2⟩ := Bool.and_eq_true_iff.mp hc
      have c1 := of_decide_eq_true c1
      rw [← told_mem f n _ c1] at c2
      obtain ⟨q, hq, q1, q2⟩ := memB_iff.mp c2
      rcases sep_tri s t ht q hq with e | e | e
      · subst e; omega
      · omega
      · omega
  · have := hg r hr
    have hk : k < n := by omega
    rw [decide_eq_true hk, Bool.true_and, ← h k hk]
    exact memB_iff.mpr ⟨r, hr, h1, h2⟩
  · have tb := told_below f n t ht
    have tl := s.le t ht
    have hk : t.1 < n := by omega
    have : memB rs t.1 = true := by
      rw [h t.1 hk, ← told_mem f n t.1 hk]
      exact memB_iff.mpr ⟨t, ht, Nat.le_refl _, tl⟩
    exact memB_iff.mp this
/-- the sign ahead of a run, and the run before it -/
theorem told_ahead {f : Nat → Bool} {n : Nat} {r : Nat × Nat} (hr : r ∈ told f n) (h0 : r.1 ≠ 0) : f (r.1 - 1) = false := by
  have h : r.1 ∈ (told f n).map Prod.fst := List.mem_map.mpr ⟨r, hr, rfl⟩
  rw [told_fst, mem_filt] at h
  obtain ⟨_, h2⟩ := h
  unfold isF at h2
  have h3 := (Bool.and_eq_true_iff.mp h2).2
  rw [decide_eq_false h0, Bool.false_or, Bool.not_eq_true'] at h3
  exact h3
theorem told_gap {f : Nat → Bool} {n i : Nat} {r q : Nat × Nat} (hr : (told f n)[i]? = some r) (hq : (told f n)[i + 1]? = some q) : r.2 + 1 < q.1 := by
  obtain ⟨h1, e1⟩ := List.getElem?_eq_some_iff.mp hr
  obtain ⟨h2, e2⟩ := List.getElem?_eq_some_iff.mp hq
  have := List.pairwise_iff_getElem.mp (told_sep f n).gap i (i + 1) h1 h2 (Nat.lt_succ_self i)
  rw [e1, e2] at this
  exact this
theorem told_run {f : Nat → Bool} {n : Nat} {r : Nat × Nat} (hr : r ∈ told f n) {k : Nat} (h1 : r.1 ≤ k) (h2 : k ≤ r.2) : f k = true := by
  have := told_below f n r hr
  rw [← told_mem f n k (by omega)]
  exact memB_iff.mpr ⟨r, hr, h1, h2⟩
theorem memB_of_perm {a b : List (Nat × Nat)} (h : a.Perm b) (k : Nat) : memB a k = memB b k := memB_perm (fun r => h.mem_iff) k
end SM

/-! values by their data: what a reading makes, told by data alone -/
namespace SB
open PySem L2 Evl
variable {K : PySem.W.Frag} {σ : L2.St} {H H' H1 : Hp}
mutual
theorem dpMono (e : Ex H H') : ∀ (d : PyData) (v : V), Dp K H v d → Dp K H' v d
  | .none, _, h => by cases h; exact .non
  | .bool b, _, h => by cases h; exact .bl b
  | .int i, _, h => by cases h; exact .int i
  | .str x, _, h => by cases h; exact .str x
  | .list ds, _, h => by
    cases h with
    | lst hs ha => exact .lst (ex_l e hs) (dpAllMono e ds _ ha)
  | .tuple ds, _, h => by
    cases h with
    | tup hs ha => exact .tup (ex_t e hs) (dpAllMono e ds _ ha)
  | .dict _, _, h => by cases h
theorem dpAllMono (e : Ex H H') : ∀ (ds : List PyData) (vs : List V), DpAll K H vs ds → DpAll K H' vs ds
  | [], _, h => by cases h; exact .nil
  | d :: ds, _, h => by
    cases h with
    | cons h1 h2 => exact .cons (dpMono e d _ h1) (dpAllMono e ds _ h2)
end
theorem mono {d : PyData} {v : V} (e : Ex H H') (h : Dp K H v d) : Dp K H' v d := dpMono e d v h
theorem monoA {ds : List PyData} {vs : List V} (e : Ex H H') (h : DpAll K H vs ds) : DpAll K H' vs ds := dpAllMono e ds vs h
theorem dpInt {v : V} {i : Int} (h : Dp K H v (.int i)) : v = .int i := by cases h; rfl
theorem dpBool {v : V} {b : Bool} (h : Dp K H v (.bool b)) : v = .bl b := by cases h; rfl
theorem dpStr {v : V} {x : Str} (h : Dp K H v (.str x)) : v = .str x := by cases h; rfl
theorem dpList {v : V} {ds : List PyData} (h : Dp K H v (.list ds)) : ∃ a xs, v = .ref a ∧ SqL K H a xs ∧ DpAll K H xs ds := by
  cases h with
  | lst hs ha => exact ⟨_, _, rfl, hs, ha⟩
theorem dpTuple {v : V} {ds : List PyData} (h : Dp K H v (.tuple ds)) : ∃ a xs, v = .ref a ∧ SqT K H a xs ∧ DpAll K H xs ds := by
  cases h with
  | tup hs ha => exact ⟨_, _, rfl, hs, ha⟩
theorem allNil {vs : List V} (h : DpAll K H vs []) : vs = [] := by cases h; rfl
theorem allCons {vs : List V} {d : PyData} {ds : List PyData} (h : DpAll K H vs (d :: ds)) : ∃ x xs, vs = x :: xs ∧ Dp K H x d ∧ DpAll K H xs ds := by
  cases h with
  | cons h1 h2 => exact ⟨_, _, rfl, h1, h2⟩
theorem all1 {vs : List V} {d : PyData} (h : DpAll K H vs [d]) : ∃ x, vs = [x] ∧ Dp K H x d := by
  obtain ⟨x, xs, rfl, h1, h2⟩ := allCons h
  rw [allNil h2]
  exact ⟨x, rfl, h1⟩
theorem all2 {vs : List V} {d e : PyData} (h : DpAll K H vs [d, e]) : ∃ x y, vs = [x, y] ∧ Dp K H x d ∧ Dp K H y e := by
  obtain ⟨x, xs, rfl, h1, h2⟩ := allCons h
  obtain ⟨y, rfl, h3⟩ := all1 h2
  exact ⟨x, y, rfl, h1, h3⟩
theorem all3 {vs : List V} {d e f : PyData} (h : DpAll K H vs [d, e, f]) : ∃ x y z, vs = [x, y, z] ∧ Dp K H x d ∧ Dp K H y e ∧ Dp K H z f := by
  obtain ⟨x, xs, rfl, h1, h2⟩ := allCons h
  obtain ⟨y, z, rfl, h3, h4⟩ := all2 h2
  exact ⟨x, y, z, rfl, h1, h3, h4⟩
theorem allLen : ∀ {ds : List PyData} {vs : List V}, DpAll K H vs ds → vs.length = ds.length
  | [], _, h => by cases h; rfl
  | d :: ds, _, h => by
    cases h with
    | cons h1 h2 => rw [List.length_cons, List.length_cons, allLen h2]
theorem allGet : ∀ {ds : List PyData} {vs : List V} {i : Nat} {d : PyData}, DpAll K H vs ds → ds[i]? = some d → ∃ x, vs[i]? = some x ∧ Dp K H x d
  | [], _, i, _, h, e => by simp at e
  | d :: ds, _, 0, _, h, e => by
    cases h with
    | cons h1 h2 => simp at e; subst e; exact ⟨_, rfl, h1⟩
  | d :: ds, _, i + 1, _, h, e => by
    cases h with
    | cons h1 h2 =>
      obtain ⟨x, q, r⟩ := allGet h2 (show ds[i]? = some _ by simpa using e)
      exact ⟨x, by simpa using q, r⟩
theorem allAt : ∀ {ds : List PyData} {vs : List V} {i : Nat} {x : V}, DpAll K H vs ds → vs[i]? = some x → Dp K H x (ds.getD i .none)
  | [], _, i, _, h, e => by cases h; simp at e
  | d :: ds, _, 0, _, h, e => by
    cases h with
    | cons h1 h2 => simp at e; subst e; exact h1
  | d :: ds, _, i + 1, _, h, e => by
    cases h with
    | cons h1 h2 =>
      have q := allAt h2 (i := i) (by simpa using e)
      simpa using q
theorem allApp : ∀ {ds es : List PyData} {vs ws : List V}, DpAll K H vs ds → DpAll K H ws es → DpAll K H (vs ++ ws) (ds ++ es)
  | [], _, _, _, h, k => by cases h; exact k
  | d :: ds, _, _, _, h, k => by
    cases h with
    | cons h1 h2 => exact .cons h1 (allApp h2 k)
theorem allSet {d : PyData} {x : V} (hx : Dp K H x d) : ∀ {ds : List PyData} {vs : List V} (i : Nat), DpAll K H vs ds → DpAll K H (vs.set i x) (ds.set i d)
  | [], _, _, h => by cases h; exact .nil
  | e :: ds, _, 0, h => by
    cases h with
    | cons h1 h2 => exact .cons hx h2
  | e :: ds, _, i + 1, h => by
    cases h with
    | cons h1 h2 => exact .cons h1 (allSet hx i h2)
theorem allRev : ∀ {ds : List PyData} {vs : List V}, DpAll K H vs ds → DpAll K H vs.reverse ds.reverse
  | [], _, h => by cases h; exact .nil
  | d :: ds, _, h => by
    cases h with
    | cons h1 h2 =>
      rw [List.reverse_cons, List.reverse_cons]
      exact allApp (allRev h2) (.cons h1 .nil)
theorem allTake : ∀ {ds : List PyData} {vs : List V} (n : Nat), DpAll K H vs ds → DpAll K H (vs.take n) (ds.take n)
  | _, _, 0, _ => by simp; exact .nil
  | [], _, n + 1, h => by cases h; exact .nil
  | d :: ds, _, n + 1, h => by
    cases h with
    | cons h1 h2 => exact .cons h1 (allTake n h2)
theorem allOfInts : ∀ ns : List Int, DpAll K H (ns.map V.int) (ns.map PyData.int)
  | [] => .nil
  | n :: ns => .cons (.int n) (allOfInts ns)
theorem intsOfAll : ∀ {ns : List Int} {vs : List V}, DpAll K H vs (ns.map PyData.int) → vs = ns.map V.int
  | [], _, h => by cases h; rfl
  | n :: ns, _, h => by
    cases h with
    | cons h1 h2 => rw [dpInt h1, intsOfAll h2]; rfl
theorem allOfBls : ∀ bs : List Bool, DpAll K H (bs.map V.bl) (bs.map PyData.bool)
  | [] => .nil
  | n :: ns => .cons (.bl n) (allOfBls ns)
theorem blsOfAll : ∀ {bs : List Bool} {vs : List V}, DpAll K H vs (bs.map PyData.bool) → vs = bs.map V.bl
  | [], _, h => by cases h; rfl
  | n :: ns, _, h => by
    cases h with
    | cons h1 h2 => rw [dpBool h1, blsOfAll h2]; rfl
theorem dpRef {v : V} {ds : List PyData} (h : Dp K H v (.list ds)) : ∃ a, v = .ref a := by
  obtain ⟨a, _, e, _⟩ := dpList h
  exact ⟨a, e⟩

/-! ### what evaluates to which data -/
/-- a new list of that data -/
def NewL (K : PySem.W.Frag) (H : Hp) (Q : VK) (ds : List PyData) : Prop := ∀ p xs H', H p = none → Ex H H' → H' p = some (.lst xs) → DpAll K H' xs ds → Q (.ref p) H'
def EvN (K : PySem.W.Frag) (te : TE) (σ : L2.St) (H : Hp) (ds : List PyData) : Prop := ∀ H1, Ex H H1 → ∀ Q : VK, NewL K H1 Q ds → te σ H1 Q
def EvD (K : PySem.W.Frag) (te : TE) (σ : L2.St) (H : Hp) (d : PyData) : Prop := ∀ H1, Ex H H1 → ∀ Q : VK, (∀ v H2, Ex H1 H2 → Dp K H2 v d → Q v H2) → te σ H1 Q
def EvDA (K : PySem.W.Frag) (ta : TA) (σ : L2.St) (H : Hp) (ds : List PyData) : Prop := ∀ H1, Ex H H1 → ∀ Q : List V → Hp → Prop, (∀ vs H2, Ex H1 H2 → DpAll K H2 vs ds → Q vs H2) → ta σ H1 Q
/-- a promise: arguments by data, a new list by data -/
def spN (K : PySem.W.Frag) (R : List PyData → List PyData → Prop) : Sp := fun vs H Q _ => ∃ ds out, DpAll K H vs ds ∧ R ds out ∧ NewL K H Q out
/-- a promise: arguments by data, a value by data -/
def spV (K : PySem.W.Frag) (R : List PyData → PyData → Prop) : Sp := fun vs H Q _ => ∃ ds out, DpAll K H vs ds ∧ R ds out ∧ ∀ v H', Ex H H' → Dp K H' v out → Q v H'
section
variable {ta tb te : TE} {tA : TA} {d e : PyData} {ds es : List PyData} {v : V} {E : XK}
theorem EvN.asD (h : EvN K te σ H ds) : EvD K te σ H (.list ds) := fun H1 e Q q => h H1 e Q fun p xs H2 _ e2 hp ha => q _ H2 e2 (.lst (sq_of hp) ha)
theorem EvD.mono (e : Ex H H') (h : EvD K te σ H d) : EvD K te σ H' d := fun H1 a Q q => h H1 (e.trans a) Q q
theorem EvN.mono (e : Ex H H') (h : EvN K te σ H ds) : EvN K te σ H' ds := fun H1 a Q q => h H1 (e.trans a) Q q
theorem EvDA.mono (e : Ex H H') (h : EvDA K tA σ H ds) : EvDA K tA σ H' ds := fun H1 a Q q => h H1 (e.trans a) Q q
theorem EvD.of (h : Ev te σ H v) (hd : Dp K H v d) : EvD K te σ H d := fun H1 e Q q => h H1 e Q fun H2 e2 => q v H2 e2 (SB.mono (e.trans e2) hd)
theorem dVar {i : Nat} (h : σ[i]? = some (some v)) (hd : Dp K H v d) : EvD K (tVar i) σ H d := EvD.of (ev_var h) hd
theorem dInt {i : Int} : EvD K (tC (.int i)) σ H (.int i) := EvD.of ev_c (.int i)
theorem dBl {i : Bool} : EvD K (tC (.bl i)) σ H (.bool i) := EvD.of ev_c (.bl i)
theorem EvD.int {i : Int} (h : EvD K te σ H (.int i)) : Ev te σ H (.int i) := fun H1 e Q q => h H1 e Q fun v H2 e2 hd => by rw [dpInt hd]; exact q H2 e2
theorem EvD.bl {i : Bool} (h : EvD K te σ H (.bool i)) : Ev te σ H (.bl i) := fun H1 e Q q => h H1 e Q fun v H2 e2 hd => by rw [dpBool hd]; exact q H2 e2
theorem iD {i : Int} (h : Ev te σ H (.int i)) : EvD K te σ H (.int i) := EvD.of h (.int i)
theorem bD {i : Bool} (h : Ev te σ H (.bl i)) : EvD K te σ H (.bool i) := EvD.of h (.bl i)
theorem daNil : EvDA K tNil σ H [] := fun H1 _ Q q => q [] H1 (Ex.refl H1) .nil
theorem daCons (h : EvD K te σ H d) (hr : EvDA K tA σ H ds) : EvDA K (tCons te tA) σ H (d :: ds) := fun H1 e Q q =>
  h H1 e _ fun v H2 e2 hd => hr H2 (e.trans e2) _ fun vs H3 e3 ha => q _ H3 (e2.trans e3) (.cons (SB.mono e3 hd) ha)
theorem da1 (h : EvD K te σ H d) : EvDA K (tCons te tNil) σ H [d] := daCons h daNil
theorem da2 (h : EvD K ta σ H d) (h' : EvD K tb σ H e) : EvDA K (tCons ta (tCons tb tNil)) σ H [d, e] := daCons h (da1 h')
theorem nCall {R : List PyData → List PyData → Prop} (ha : EvDA K tA σ H ds) (hr : R ds es) : EvN K (tCall (spN K R) [] E tA) σ H es := fun H1 e Q q =>
  ha H1 e _ fun vs H2 e2 hd => by
    refine ⟨ds, es, ?_, hr, fun p xs H3 hp e3 h3 h4 => q p xs H3 (fresh_back e2 hp) (e2.trans e3) h3 h4⟩
    rw [List.append_nil]
    exact hd
theorem vCall {R : List PyData → PyData → Prop} (ha : EvDA K tA σ H ds) (hr : R ds d) : EvD K (tCall (spV K R) [] E tA) σ H d := fun H1 e Q q =>
  ha H1 e _ fun vs H2 e2 hd => by
    refine ⟨ds, d, ?_, hr, fun v H3 e3 h3 => q v H3 (e2.trans e3) h3⟩
    rw [List.append_nil]
    exact hd
theorem dTup (h : EvDA K tA σ H ds) (hl : ds.length ≤ 100000) : EvD K (tTup tA) σ H (.tuple ds) := fun H1 e Q q =>
  h H1 e _ fun vs H2 e2 ha => ⟨sz_of (by rw [allLen ha]; exact hl), fun p hp => q _ _ (e2.trans (Ex.new hp)) (.tup (st_of upd_same) (monoA (Ex.new hp) ha))⟩
theorem nLst (h : EvDA K tA σ H ds) (hl : ds.length ≤ 100000) : EvN K (tLst tA) σ H ds := fun H1 e Q q =>
  h H1 e _ fun vs H2 e2 ha => ⟨sz_of (by rw [allLen ha]; exact hl), fun p hp => q p vs _ (fresh_back e2 hp) (e2.trans (Ex.new hp)) upd_same (monoA (Ex.new hp) ha)⟩
theorem eqD (ha : EvD K ta σ H d) (hb : EvD K tb σ H e) (sd : SeqAt.shaped d = true) (se : SeqAt.shaped e = true) : Ev (tOp (rEqD K) ta tb) σ H (.bl (PyData.eqv d e)) := fun H1 a Q q =>
  ha H1 a _ fun v H2 e2 hd => hb H2 (a.trans e2) _ fun u H3 e3 he => ⟨d, e, SB.mono e3 hd, he, sd, se, q H3 (e2.trans e3)⟩
theorem neD (ha : EvD K ta σ H d) (hb : EvD K tb σ H e) (sd : SeqAt.shaped d = true) (se : SeqAt.shaped e = true) : Ev (tOp (rNeD K) ta tb) σ H (.bl (!PyData.eqv d e)) := fun H1 a Q q =>
  ha H1 a _ fun v H2 e2 hd => hb H2 (a.trans e2) _ fun u H3 e3 he => ⟨d, e, SB.mono e3 hd, he, sd, se, q H3 (e2.trans e3)⟩
/-- xs[i] -/
theorem dIxL {i : Int} (ha : EvD K ta σ H (.list ds)) (hb : Ev tb σ H (.int i)) (h : atI ds i = some d) : EvD K (tOp (rIxL K) ta tb) σ H d := fun H1 a Q q =>
  ha H1 a _ fun v H2 e2 hd => hb H2 (a.trans e2) _ fun H3 e3 => by
    obtain ⟨p, xs, rfl, hs, hA⟩ := dpList (SB.mono e3 hd)
    have key : ∃ x, atI xs i = some x ∧ Dp K H3 x d := by
      have hl := allLen hA
      unfold atI at h ⊢
      rw [hl]
      cases q : ixN ds.length i with
      | none => rw [q] at h; cases h
      | some j => rw [q] at h; exact allGet hA h
    obtain ⟨x, hx, hdx⟩ := key
    exact ⟨p, xs, i, x, rfl, rfl, hs, hx, q x H3 (e2.trans e3) hdx⟩
end

/-! ### one list is changed: what stands beside it -/
def rm (H : Hp) (D : Addr) : Hp := fun a => if a = D then none else H a
theorem rmSame {D : Addr} : rm H D D = none := by unfold rm; rw [if_pos rfl]
theorem rmNe {D a : Addr} (h : a ≠ D) : rm H D a = H a := by unfold rm; rw [if_neg h]
theorem rmEx {D : Addr} : Ex (rm H D) H := fun a o h => by
  by_cases c : a = D
  · rw [c, rmSame] at h; cases h
  · rw [rmNe c] at h; exact h
theorem rmMono {D : Addr} (e : Ex H H') : Ex (rm H D) (rm H' D) := fun a o h => by
  by_cases c : a = D
  · rw [c, rmSame] at h; cases h
  · rw [rmNe c] at h ⊢; exact e a o h
theorem rmUpd {D : Addr} {o : HO} : rm (upd H D o) D = rm H D := by
  funext a
  by_cases c : a = D
  · rw [c, rmSame, rmSame]
  · rw [rmNe c, rmNe c, upd_ne c]
theorem rmNew {D p : Addr} {o : HO} (h : p ≠ D) : rm (upd H p o) D = upd (rm H D) p o := by
  funext a
  by_cases c : a = D
  · rw [c, rmSame, upd_ne (Ne.symm h), rmSame]
  · rw [rmNe c]
    by_cases c2 : a = p
    · rw [c2, upd_same, upd_same]
    · rw [upd_ne c2, upd_ne c2, rmNe c]
theorem rmFree {D : Addr} (h : H D = none) : rm H D = H := by
  funext a
  by_cases c : a = D
  · rw [c, rmSame, h]
  · rw [rmNe c]
/-- what H has stays if D is new to it -/
theorem exRm {D : Addr} (e : Ex H H') (h : H D = none) : Ex H (rm H' D) := fun a o q => by
  rw [rmNe (ne_of_none q h)]
  exact e a o q
mutual
/-- no list within -/
def noL : PyData → Bool
  | .none => true
  | .bool _ => true
  | .int _ => true
  | .str _ => true
  | .list _ => false
  | .tuple ds => noLs ds
  | .dict _ => false
def noLs : List PyData → Bool
  | [] => true
  | d :: ds => noL d && noLs ds
end
theorem sqtRm {D a : Addr} {ys xs : List V} (hD : H D = some (.lst ys)) (h : SqT K H a xs) : SqT K (rm H D) a xs := by
  rcases h with (h | ⟨o, h⟩) | h
  · refine .inl (.inl ?_)
    rw [rmNe (ne_of h hD (by intro z; cases z))]; exact h
  · refine .inl (.inr ⟨o, ?_⟩)
    rw [rmNe (ne_of h hD (by intro z; cases z))]; exact h
  · exact .inr h
mutual
theorem dpRm {D : Addr} {ys : List V} (hD : H D = some (.lst ys)) : ∀ (d : PyData) (v : V), noL d = true → Dp K H v d → Dp K (rm H D) v d
  | .none, _, _, h => by cases h; exact .non
  | .bool b, _, _, h => by cases h; exact .bl b
  | .int i, _, _, h => by cases h; exact .int i
  | .str x, _, _, h => by cases h; exact .str x
  | .list ds, _, n, h => by cases n
  | .tuple ds, _, n, h => by
    cases h with
    | tup hs ha => exact .tup (sqtRm hD hs) (dpAllRm hD ds _ n ha)
  | .dict _, _, _, h => by cases h
theorem dpAllRm {D : Addr} {ys : List V} (hD : H D = some (.lst ys)) : ∀ (ds : List PyData) (vs : List V), noLs ds = true → DpAll K H vs ds → DpAll K (rm H D) vs ds
  | [], _, _, h => by cases h; exact .nil
  | d :: ds, _, n, h => by
    have n' := Bool.and_eq_true_iff.mp n
    cases h with
    | cons h1 h2 => exact .cons (dpRm hD d _ n'.1 h1) (dpAllRm hD ds _ n'.2 h2)
end
/-- evaluated while the list at D is at work: the value's data does not lean on D -/
def EvX (K : PySem.W.Frag) (te : TE) (σ : L2.St) (H : Hp) (D : Addr) (d : PyData) : Prop :=
  ∀ H1, Ex H H1 → (∃ ys, H1 D = some (.lst ys)) → ∀ Q : VK, (∀ v H2, Ex H1 H2 → Dp K (rm H2 D) v d → Q v H2) → te σ H1 Q
section
variable {ta tb te : TE} {tA : TA} {d e : PyData} {ds es : List PyData} {v : V} {D : Addr}
theorem EvD.x (h : EvD K te σ H d) (hn : noL d = true) : EvX K te σ H D d := fun H1 e hD Q q => h H1 e Q fun v H2 e2 hd => by
  obtain ⟨ys, hD⟩ := hD
  exact q v H2 e2 (dpRm (e2 D _ hD) d v hn hd)
theorem EvN.x (h : EvN K te σ H ds) (hn : noLs ds = true) : EvX K te σ H D (.list ds) := fun H1 e hD Q q => h H1 e Q fun p xs H2 hp e2 h2 ha => by
  obtain ⟨ys, hD⟩ := hD
  refine q _ H2 e2 (.lst (sq_of ?_) (dpAllRm (e2 D _ hD) ds xs hn ha))
  rw [rmNe (fun z => by rw [z, hD] at hp; cases hp)]
  exact h2
end
/-! ### walks -/
def YD (K : PySem.W.Frag) (o : Nat → PyData) : Nat → Hp → V → Hp → Prop := fun i H x H' => Ex H H' ∧ Dp K H' x (o i)
/-- over what stands in H already -/
def WkE (K : PySem.W.Frag) (wi : TI) (σ : L2.St) (H : Hp) (n : Nat) (o : Nat → PyData) : Prop := ∀ H1, Ex H H1 → ∀ R : It → Hp → Prop, (∀ J H2, Ex H1 H2 → Walk J n (fun H' => Ex H H') (YD K o) → R J H2) → wi σ H1 R
/-- over something new -/
def WkN (K : PySem.W.Frag) (wi : TI) (σ : L2.St) (H : Hp) (n : Nat) (o : Nat → PyData) : Prop := ∀ H1, Ex H H1 → ∀ R : It → Hp → Prop, (∀ J H2, Ex H1 H2 → Walk J n (fun H' => Ex H2 H') (YD K o) → R J H2) → wi σ H1 R
section
variable {wi : TI} {n : Nat} {o : Nat → PyData} {g : TG} {tb : TS} {D : Ends} {tt : TT} {te tl : TE} {tA : TA} {ds es : List PyData} {v : V}
theorem WkE.asN (h : WkE K wi σ H n o) : WkN K wi σ H n o := fun H1 e R q => h H1 e R fun J H2 e2 w => q J H2 e2 (w.mono (fun H' e3 => (e.trans e2).trans e3) fun _ _ _ _ _ _ y => y)
theorem walkL {a : Addr} {xs : List V} (hs : SqL K H a xs) (ha : DpAll K H xs ds) : Walk (Itl K a) ds.length (fun H' => Ex H H') (YD K fun i => ds.getD i .none) := by
  have w := walk_list (K := K) (a := a) (xs := xs)
  rw [allLen ha] at w
  exact w.mono (fun H' e => ex_l e hs) fun i H1 x H2 hi e y => by
    obtain ⟨rfl, hx⟩ := y
    exact ⟨Ex.refl _, SB.mono e (allAt ha hx)⟩
theorem walkEn {a : Addr} {xs : List V} (hs : SqL K H a xs) (ha : DpAll K H xs ds) : Walk (Ite K a) ds.length (fun H' => Ex H H') (YD K fun i => .tuple [.int (i : Nat), ds.getD i .none]) := by
  have w := walk_enum (K := K) (a := a) (xs := xs)
  rw [allLen ha] at w
  exact w.mono (fun H' e => ex_l e hs) fun i H1 x H2 hi e y => by
    obtain ⟨T, x1, x2, rfl, hT, rfl, h1, h2⟩ := y
    have e1 : V.int (i : Nat) = x1 := Option.some.inj h1
    subst e1
    exact ⟨Ex.new hT, .tup (st_of upd_same) (.cons (.int _) (.cons (SB.mono (e.trans (Ex.new hT)) (allAt ha h2)) .nil))⟩
theorem walkZ {a b : Addr} {xs ys : List V} (hs : SqL K H a xs) (ha : DpAll K H xs ds) (hs' : SqL K H b ys) (ha' : DpAll K H ys es) (hl : ds.length = es.length) : Walk (Itz K a b) ds.length (fun H' => Ex H H') (YD K fun i => .tuple [ds.getD i .none, es.getD i .none]) := by
  have w := walk_zip (K := K) (a := a) (b := b) (xs := xs) (ys := ys) (n := ds.length) (by rw [allLen ha, allLen ha', ← hl, Nat.min_self])
  exact w.mono (fun H' e => ⟨ex_l e hs, ex_l e hs'⟩) fun i H1 x H2 hi e y => by
    obtain ⟨T, x1, x2, rfl, hT, rfl, h1, h2⟩ := y
    have e' := e.trans (Ex.new (o := .tup [x1, x2]) hT)
    exact ⟨Ex.new hT, .tup (st_of upd_same) (.cons (SB.mono e' (allAt ha h1)) (.cons (SB.mono e' (allAt ha' h2)) .nil))⟩
theorem wkList (h : Ev tl σ H v) (hd : Dp K H v (.list ds)) : WkE K (iList K tl) σ H ds.length (fun i => ds.getD i .none) := fun H1 e R q => h H1 e _ fun H2 e2 => by
  obtain ⟨a, xs, rfl, hs, ha⟩ := dpList hd
  exact ⟨a, rfl, ⟨xs, ex_l (e.trans e2) hs⟩, q _ H2 e2 (walkL hs ha)⟩
theorem wkEnum (h : Ev tl σ H v) (hd : Dp K H v (.list ds)) : WkE K (iEnum K (tCons tl tNil)) σ H ds.length (fun i => .tuple [.int (i : Nat), ds.getD i .none]) := fun H1 e R q => h H1 e _ fun H2 e2 => by
  obtain ⟨a, xs, rfl, hs, ha⟩ := dpList hd
  exact ⟨a, xs, rfl, ex_l (e.trans e2) hs, q _ H2 e2 (walkEn hs ha)⟩
theorem wkZip {tl' : TE} {v' : V} (h : Ev tl σ H v) (hd : Dp K H v (.list ds)) (h' : Ev tl' σ H v') (hd' : Dp K H v' (.list es)) (hl : ds.length = es.length) : WkE K (iZip K (tCons tl (tCons tl' tNil))) σ H ds.length (fun i => .tuple [ds.getD i .none, es.getD i .none]) := fun H1 e R q => h H1 e _ fun H2 e2 => h' H2 (e.trans e2) _ fun H3 e3 => by
  obtain ⟨a, xs, rfl, hs, ha⟩ := dpList hd
  obtain ⟨b, ys, rfl, hs', ha'⟩ := dpList hd'
  have e' := (e.trans e2).trans e3
  exact ⟨a, b, xs, ys, rfl, ex_l e' hs, ex_l e' hs', q _ H3 (e2.trans e3) (walkZ hs ha hs' ha' hl)⟩
theorem wkNew (h : EvD K tl σ H (.list ds)) : WkN K (iList K tl) σ H ds.length (fun i => ds.getD i .none) := fun H1 e R q => h H1 e _ fun v H2 e2 hd => by
  obtain ⟨a, xs, rfl, hs, ha⟩ := dpList hd
  exact ⟨a, rfl, ⟨xs, hs⟩, q _ H2 e2 (walkL hs ha)⟩
theorem wkRange1 {j : Int} (h : EvA tA σ H [.int j]) (hb : -(2 ^ 62) ≤ j ∧ j < 2 ^ 62) : WkE K (iRng1 tA) σ H j.toNat (fun i => .int (i : Nat)) := fun H1 e R q => h H1 e _ fun H2 e2 => by
  refine ⟨j, rfl, hb.1, hb.2, q _ H2 e2 (walk_range.mono (fun _ _ => trivial) fun i H3 x H4 _ _ y => ?_)⟩
  obtain ⟨rfl, rfl⟩ := y
  refine ⟨Ex.refl _, ?_⟩
  show Dp K _ (V.int (0 + (i : Int))) _
  rw [Int.zero_add]
  exact .int _
theorem wkRange2 {i j : Int} (h : EvA tA σ H [.int i, .int j]) (hb : -(2 ^ 62) ≤ i ∧ i < 2 ^ 62 ∧ -(2 ^ 62) ≤ j ∧ j < 2 ^ 62) : WkE K (iRng2 tA) σ H (j - i).toNat (fun k => .int (i + (k : Nat))) := fun H1 e R q => h H1 e _ fun H2 e2 => by
  refine ⟨i, j, rfl, hb, q _ H2 e2 (walk_range.mono (fun _ _ => trivial) fun i H3 x H4 _ _ y => ?_)⟩
  obtain ⟨rfl, rfl⟩ := y
  exact ⟨Ex.refl _, .int _⟩
theorem gPair {i j : Nat} {x : V} {d e : PyData} {Q : L2.St → Hp → Prop} (h : Dp K H x (.tuple [d, e])) (q : ∀ y z, Dp K H y d → Dp K H z e → Q ((σ.set i (some y)).set j (some z)) H) : gTup K 2 (gCons (gName i) (gCons (gName j) gNil)) x σ H Q := by
  obtain ⟨a, xs, rfl, hs, ha⟩ := dpTuple h
  obtain ⟨y, z, rfl, h1, h2⟩ := all2 ha
  exact ⟨a, _, rfl, hs, rfl, y, [z], rfl, z, [], rfl, rfl, q y z h1 h2⟩
theorem sFor {B : Hp} (eB : Ex B H) (hw : WkE K wi σ B n o) (Pv : Nat → L2.St → Hp → Prop) (h0 : ∀ H2, Ex H H2 → Pv 0 σ H2) (hG : ∀ i σ' H', i ≤ n → Pv i σ' H' → Ex B H')
    (hs : ∀ i x σ' H' H'', i < n → Pv i σ' H' → Ex H' H'' → Dp K H'' x (o i) → g x σ' H'' fun σ2 H2 => tb { D with nx := Pv (i + 1), ct := Pv (i + 1), bk := D.nx } σ2 H2) (hd : ∀ σ' H', Pv n σ' H' → D.nx σ' H') : tFor wi g tb D σ H :=
  hw H eB _ fun J H2 e w => for_it w Pv (h0 H2 e) hG (fun i x σ' H' H'' hi p y => hs i x σ' H' H'' hi p y.1 y.2) hd
/-- what a comprehension tells -/
def outs (n : Nat) (f : Nat → Bool) (out : Nat → PyData) : List PyData := ((List.range n).filter f).map out
theorem outsYes {f : Nat → Bool} {out : Nat → PyData} (h : f n = true) : outs (n + 1) f out = outs n f out ++ [out n] := by
  unfold outs
  rw [List.range_succ, List.filter_append, List.map_append, List.filter_cons, if_pos h]; rfl
theorem outsNo {f : Nat → Bool} {out : Nat → PyData} (h : f n = false) : outs (n + 1) f out = outs n f out := by
  unfold outs
  rw [List.range_succ, List.filter_append, List.map_append, List.filter_cons, if_neg (by rw [h]; decide)]
  exact List.append_nil _
theorem outsLen (n : Nat) (f : Nat → Bool) (out : Nat → PyData) : (outs n f out).length ≤ n := by
  unfold outs
  rw [List.length_map]
  have h := List.length_filter_le f (List.range n)
  rw [List.length_range] at h
  exact h
theorem nLc {vs : List Nat} (f : Nat → Bool) (out : Nat → PyData) (hn : n ≤ 50000) (hw : WkN K wi σ H n o)
    (ht : ∀ Dl i x H', i < n → Ex H H' → Dp K H' x (o i) → ∃ σ2, (∀ Q : L2.St → Hp → Prop, Q σ2 H' → g x (wipe σ vs) H' Q) ∧ wipe σ2 vs = wipe σ vs ∧ EvT tt σ2 H' (f i) ∧ (f i = true → EvX K te σ2 H' Dl (out i))) :
    EvN K (tLc wi g tt te vs) σ H (outs n f out) := fun H1 e1 Q q => hw H1 e1 _ fun J H2 e2 w => fun Dl hD => by
  refine lc_it w (fun i H' => Ex H2 H' ∧ ∃ acc, H' Dl = some (.lst acc) ∧ DpAll K (rm H' Dl) acc (outs i f out)) ⟨Ex.new hD, [], upd_same, .nil⟩ (fun i H' _ p => p.1) (fun i x H' H'' hi p y => ?_) (fun H' p => ?_)
  · obtain ⟨eP, acc, hacc, hall⟩ := p
    obtain ⟨eY, dY⟩ := y
    obtain ⟨σ2, hg, hwi, hT, hE⟩ := ht Dl i x H'' hi (((e1.trans e2).trans eP).trans eY) dY
    refine hg _ ⟨hwi, hT H'' (Ex.refl _) _ fun H3 e3 => ?_⟩
    have e13 := eY.trans e3
    cases hf : f i with
    | true =>
      show te σ2 H3 _
      refine hE hf H3 e3 ⟨acc, e13 Dl _ hacc⟩ _ fun y H4 e4 hd => ⟨acc, e4 Dl _ (e13 Dl _ hacc), sz_lt ?_, Ex.mut ((eP.trans e13).trans e4) hD, acc ++ [y], upd_same, ?_⟩
      · rw [allLen hall]
        have := outsLen i f out
        omega
      · rw [rmUpd, outsYes hf]
        exact allApp (monoA (rmMono (e13.trans e4)) hall) (.cons hd .nil)
    | false =>
      show Ex H2 H3 ∧ _
      refine ⟨eP.trans e13, acc, e13 Dl _ hacc, ?_⟩
      rw [outsNo hf]
      exact monoA (rmMono e13) hall
  · obtain ⟨eP, acc, hacc, hall⟩ := p
    exact q Dl acc H' (fresh_back e2 hD) (e2.trans eP) hacc (monoA rmEx hall)
theorem sAsgN {i : Nat} {D : Ends} (h : EvN K te σ H ds) (k : ∀ p xs H1, H p = none → Ex H H1 → H1 p = some (.lst xs) → DpAll K H1 xs ds → D.nx (σ.set i (some (.ref p))) H1) : tAsg te (gName i) D σ H := h H (Ex.refl H) _ k
theorem sAsgD {i : Nat} {D : Ends} {d : PyData} (h : EvD K te σ H d) (k : ∀ v H1, Ex H H1 → Dp K H1 v d → D.nx (σ.set i (some v)) H1) : tAsg te (gName i) D σ H := h H (Ex.refl H) _ k
theorem sRetN {D : Ends} (h : EvN K te σ H ds) (k : NewL K H D.rt ds) : tRet te D σ H := h H (Ex.refl H) _ k
theorem sRetD {D : Ends} {d : PyData} (h : EvD K te σ H d) (k : ∀ v H1, Ex H H1 → Dp K H1 v d → D.rt v H1) : tRet te D σ H := h H (Ex.refl H) _ k
theorem NewL.ex {Q : VK} (e : Ex H H1) (q : NewL K H Q ds) : NewL K H1 Q ds := fun p xs H2 hp e2 h2 ha => q p xs H2 (fresh_back e hp) (e.trans e2) h2 ha
end
/-! ### a op b op c op d -/
section
variable {X : Cx} {a b c d : Expr} {ta tb tc td : TE} {pos : Pos}
def tChain3 (r r' r'' : R2) (ta tb tc td : TE) : TE := fun σ H Q => ta σ H fun x H1 => tb σ H1 fun y H2 => r x y H2 fun z H3 => ∃ k, z = .bl k ∧
  (if k = true then tc σ H3 fun w' H4 => r' y w' H4 fun z' H5 => ∃ k', z' = .bl k' ∧ (if k' = true then td σ H5 fun u' H6 => r'' w' u' H6 Q else Q (.bl false) H5) else Q (.bl false) H3)
theorem pt_chain3 {op op' op'' : CmpOp} {r r' r'' : R2} (ho : OpR X (compareOp op) r) (ho' : OpR X (compareOp op') r') (ho'' : OpR X (compareOp op'') r'') (ha : PE X a ta) (hb : PE X b tb) (hc : PE X c tc) (hd : PE X d td)
    (hm : PySem.lastMarks [op, op', op''] [b, c, d] = false := by with_unfolding_all rfl) : PT X (.Compare a [op, op', op''] [b, c, d] pos) (tTest (tChain3 r r' r'' ta tb tc td)) := by
  refine ⟨fun pins s σ H Q I h => ?_⟩
  refine PyProof.Rows.isTrue_chain (thn (ha.run pins s σ H _ I h) fun v s1 ⟨x, H1, I1, r1, q1⟩ => PyProof.Rows.test_link (thn (hb.run pins s1 σ H1 _ I1 q1) fun u s2 ⟨y, H2, I2, r2, q2⟩ =>
    thn (ho pins s2 σ H2 x y v u _ I2 r1 r2 q2) fun d3 s3 ⟨z, H3, I3, r3, k, ek, q3⟩ => ?_)) hm
  subst ek; cases r3
  refine wpAny_truthy_bool ?_
  cases k with
  | false =>
    obtain ⟨k', e', q'⟩ := q3
    cases e'
    exact PyProof.Rows.ite_ff ⟨H3, I3, q'⟩
  | true =>
    refine PyProof.Rows.ite_tt (PyProof.Rows.test_link (thn (hc.run pins s3 σ H3 _ I3 q3) fun w' s4 ⟨z', H4, I4, r4, q4⟩ => thn (ho' pins s4 σ H4 y z' u w' _ I4 r2 r4 q4) fun d' s5 ⟨z2, H5, I5, r5, k2, e2, q5⟩ => ?_))
    subst e2; cases r5
    refine wpAny_truthy_bool ?_
    cases k2 with
    | false =>
      obtain ⟨k', e', q'⟩ := q5
      cases e'
      exact PyProof.Rows.ite_ff ⟨H5, I5, q'⟩
    | true =>
      refine PyProof.Rows.ite_tt (PyProof.Rows.test_last (thn (hd.run pins s5 σ H5 _ I5 q5) fun w2 s6 ⟨z3, H6, I6, r6, q6⟩ => thn (ho'' pins s6 σ H6 z' z3 w' w2 _ I6 r4 r6 q6) fun d7 s7 ⟨z4, H7, I7, r7, k4, e4, q7⟩ => ?_))
      subst e4; cases r7
      exact wpAny_truthy_bool ⟨H7, I7, q7⟩
theorem ev_chain3 {f f' f'' : Int → Int → Bool} {i j k l : Int} {H : Hp} (ha : Ev ta σ H (.int i)) (hb : Ev tb σ H (.int j)) (hc : Ev tc σ H (.int k)) (hd : Ev td σ H (.int l)) :
    Ev (tChain3 (rI0 fun a b => .bl (f a b)) (rI0 fun a b => .bl (f' a b)) (rI0 fun a b => .bl (f'' a b)) ta tb tc td) σ H (.bl (f i j && f' j k && f'' k l)) := fun H1 e Q q =>
  ha H1 e _ fun H2 e2 => hb H2 (e.trans e2) _ fun H3 e3 => ⟨i, j, rfl, rfl, f i j, rfl, by
    generalize f i j = A at q ⊢
    cases A with
    | false => exact iteF (q H3 (e2.trans e3))
    | true =>
      refine iteT (hc H3 ((e.trans e2).trans e3) _ fun H4 e4 => ⟨j, k, rfl, rfl, f' j k, rfl, ?_⟩)
      generalize f' j k = A at q ⊢
      cases A with
      | false => exact iteF (q H4 ((e2.trans e3).trans e4))
      | true => exact iteT (hd H4 (((e.trans e2).trans e3).trans e4) _ fun H5 e5 => ⟨k, l, rfl, rfl, q H5 (((e2.trans e3).trans e4).trans e5)⟩)⟩
theorem ev_chain2 {f f' : Int → Int → Bool} {i j k : Int} {H : Hp} (ha : Ev ta σ H (.int i)) (hb : Ev tb σ H (.int j)) (hc : Ev tc σ H (.int k)) :
    Ev (tChain (rI0 fun a b => .bl (f a b)) (rI0 fun a b => .bl (f' a b)) ta tb tc) σ H (.bl (f i j && f' j k)) := fun H1 e Q q =>
  ha H1 e _ fun H2 e2 => hb H2 (e.trans e2) _ fun H3 e3 => ⟨i, j, rfl, rfl, f i j, rfl, by
    generalize f i j = A at q ⊢
    cases A with
    | false => exact iteF (q H3 (e2.trans e3))
    | true => exact iteT (hc H3 ((e.trans e2).trans e3) _ fun H4 e4 => ⟨j, k, rfl, rfl, q H4 ((e2.trans e3).trans e4)⟩)⟩
end
end SB

/-! set(xs) of a list of ints, and sorted of such a set, of any number -/
namespace SC
open PySem PySem.Spec PyProof.Rows L2
abbrev nS (w : World) : Obj := { cls := .type "set", dict := none, data := .set #[] 0 (.fresh 0 0 (!w.params.followText "set-order")) }
section
variable {P : Program} {w : World} {A : Around} {E : Value → Shared → Prop} {s : Shared}
theorem callSetL {l : Addr} {items : Array Value} {ns : List Int} {Q : Value → Shared → Prop} (jh : A.handled = none) (jl : s.heap.IsList l items) (ji : IntsAre items.toList ns) (jb : ns.length + 1 < scanBound)
    (q : ∀ h' tk c, SetR w h' s.heap.objs.size (fun j => decide (j ∈ ns)) c → c ≤ ns.length → (∀ b o, s.heap.get? b = some o → h'.get? b = some o) → Q (.ref s.heap.objs.size) { s with heap := h', toks := tk }) :
    wpAny (model P w) A (PySem.call (.type "set") [.ref l]) Q E s := by
  have jz : items.size = ns.length := by rw [← Array.length_toList]; exact IntsAre.length ji
  obtain ⟨c0, t0, jm⟩ := F.called_set.mro
  have jM := F.called_set.made; have jU := F.called_set.sub
  refine wpAny_call (codeAny_of_tree ?_); show wpAny _ _ (callAny (.type "set") _) _ _ _
  refine wpAny_pure ⟨Code.quiet_builtin _ (by decide +kernel), codeAny_builtin F.entry_type_call ?_⟩; rw [Around.under_plain (weight_type_call_type "set" [.ref l] []) rfl]
  have u1 := F.called_set.notType; have u2 := F.called_set.canCreate; have u3 := F.typeCall_set_1 (.ref l)
  repeat any_goals first | assumption | wp_step
  refine codeAny_mono (code_set_led1 (.ref l) (E := E) (Q₁ := fun ob s1 => ob = .ref s.heap.objs.size ∧ s1 = { s with heap := s.heap.push (nS w) }) ⟨rfl, rfl⟩) fun r s1 jr => ?_
  match r, jr with
  | .error e, jr => exact jr
  | .ok (.ret ob), jr =>
    obtain ⟨rfl, rfl⟩ := jr
    have jS : (s.heap.push (nS w)).get? s.heap.objs.size = some (nS w) := Heap.get?_push_size _ rfl
    have jT : Shared.TypeIs { s with heap := s.heap.push (nS w) } (.ref s.heap.objs.size) "set" := ⟨_, jS, rfl⟩
    have u4 := F.called_set.init.lookup; have u5 := F.called_set.init.bind (.ref s.heap.objs.size)
    repeat any_goals first | assumption | wp_step
    refine codeAny_mono (codeAny_call_builtin (R := wants (fun r s2 => r = .none ∧ ∃ h' tk c, s2 = { s with heap := h', toks := tk } ∧ SetR w h' s.heap.objs.size (fun j => decide (j ∈ ns)) c ∧ c ≤ ns.length ∧ (∀ b o, s.heap.get? b = some o → h'.get? b = some o)) E) F.called_set.init.plain F.entry_set_init (check_set_init_1 jT ?_)) fun r2 s2 jr2 => ?_
    · obtain ⟨⟨oc, od, ox, os⟩, jo, j1, nl, j2⟩ := jl
      simp only at j1 j2; subst j1; subst j2
      have jo' : (s.heap.push (nS w)).get? l = some { cls := .type "list", dict := od, data := .seq items nl, slots := os } := Heap.get?_push_of_some _ jo
      have j3 := F.sub_list_set; have j4 := F.sub_list_frozenset
      have j5 : (Value.type "list" == Value.type "dict") = false := by decide
      have j6 : (s.heap.push (nS w)).IsList l items := ⟨_, jo', rfl, nl, rfl⟩
      unfold Builtin.«set.__init__» noKeywords Builtin.Frozenset.updateFrom; generalize jP : pyIter = PI; wp_walk; subst jP
      refine wpAny_pyIter_list j6 ?_; refine wpAny_bind (wpAny_runValue ?_)
      have lS : l < s.heap.objs.size := Heap.lt_size jo
      have jz1 : (s.heap.push (nS w)).objs.size = s.heap.objs.size + 1 := Heap.size_push ..
      have jI : l ≠ (s.heap.push (nS w)).objs.size := by rw [jz1]; exact Nat.ne_of_lt (Nat.lt_succ_of_lt lS)
      have jF : s.heap.objs.size ∉ [(s.heap.push (nS w)).objs.size, l] := by
        rw [jz1]; intro z
        rcases List.mem_cons.mp z with z | z
        · exact absurd z (Nat.ne_of_lt (Nat.lt_succ_self _))
        · exact absurd (List.mem_singleton.mp z) (Nat.ne_of_gt lS)
      have jV : ∀ (i : Nat) (v : Value), items[i]? = some v → ∃ k t, ns[i]? = some k ∧ v = .int k t := fun i v hv => by
        have hi : i < ns.length := jz ▸ (Array.getElem?_eq_some_iff.mp hv).1
        obtain ⟨t, e⟩ := IntsAre.int_at ji i v (by rw [Array.getElem?_toList, hv])
        exact ⟨ns[i], t, List.getElem?_eq_getElem hi, by rw [e, List.getD_eq_getElem?_getD, List.getElem?_eq_getElem hi]; rfl⟩
      refine set_update_ints ((Walks.list (show A.in1.in1.in1.handled = none by simp [jh]) _ l jI items).toS) s.heap.objs.size jF ns jz jb jV (items.size - 0) 0 _ (by omega) (Nat.zero_le _) ⟨⟨_, Heap.get?_push_size _ rfl, rfl, rfl⟩, (j6.push _)⟩ ?_ ?_
      · exact ⟨0, Nat.le_refl 0, setR_new_at (Heap.get?_push_of_some _ jS)⟩
      · intro s3 c3 m3 z3 R3
        obtain ⟨h3, g3, d3, t3, o3⟩ := s3
        obtain rfl : g3 = s.gens := m3.gens
        obtain rfl : d3 = s.drawn := m3.drawn
        obtain rfl : o3 = s.os := m3.os
        show wpAny _ _ _ _ _ _; refine wpAny_pure ?_; show wpAny _ _ (ret Value.none) _ _ _
        refine wpAny_pure ⟨rfl, h3, t3, c3, rfl, R3, jz ▸ z3, fun b o e => ?_⟩
        have b0 : b < s.heap.objs.size := Heap.lt_size e
        refine m3.heap b o (fun z => ?_) (Heap.get?_push_of_some _ (Heap.get?_push_of_some _ e))
        rcases List.mem_cons.mp z with z | z
        · exact absurd z (Nat.ne_of_lt b0)
        · exact absurd ((List.mem_singleton.mp z).trans jz1) (Nat.ne_of_lt (Nat.lt_succ_of_lt b0))
    · match r2, jr2 with
      | .error e, jr2 => exact jr2
      | .ok (.ret r), jr2 =>
        obtain ⟨rfl, h', tk, c', rfl, R', z', k'⟩ := jr2
        repeat any_goals first | assumption | wp_step
        exact q _ _ _ R' z' k'
theorem sortedSet {a : Addr} {S : Int → Bool} {n : Nat} {Q : Value → Shared → Prop} (R : SetR w s.heap a S n) (jh : A.handled = none)
    (q : ∀ s' p (out : Array Value) (c : Nat) (ns : List Int), (∀ b o, s.heap.get? b = some o → s'.heap.get? b = some o) → s'.gens = s.gens → s'.os = s.os → s.heap.objs.size ≤ p → s'.heap.get? p = some (seqObj "list" out c) →
      IntsAre out.toList ns → ns.Pairwise (· < ·) → (∀ k, k ∈ ns ↔ S k = true) → ns.length = n → Q (.ref p) s') : wpAny (model P w) A (PySem.call (.builtin "sorted") [.ref a]) Q E s := by
  obtain ⟨o, es, ep, t, ho, hex, hd, g, nd, hm, hb, hf, hn, hr, hl⟩ := R
  refine Calls.call_function_entry kind_sorted plain_sorted entry_sorted (args_sorted1 _) ?_; unfold Builtin.«sorted»
  refine wpAny_bind (m := checkCount "sorted" 1 1 _) (wpAny_pure ?_); refine wpAny_bind (collect_set (A := A.in1) jh ⟨o, ho, hex.1, hd⟩ hf hb hr hl fun s1 vs k1 hz g1 o1 pm => ?_)
  have vl : vs.length = n := by rw [pm.length_eq, List.length_map, Array.length_toList]; exact hn
  have zl : vs.length ≤ sizeLine := by
    have : scanBound ≤ sizeLine := by decide
    omega
  have vI : IntsAre vs (vs.map Builtin.Re.reRawOf) := ints_of vs fun v hv => by
    obtain ⟨e, he, qe⟩ := List.mem_map.mp (pm.mem_iff.mp hv)
    obtain ⟨k, tk, z1, _⟩ := g e he
    exact ⟨k, tk, by rw [← qe, z1]⟩
  have pk : (vs.map Builtin.Re.reRawOf).Perm (es.toList.map keyOf) := by
    have qq := pm.map Builtin.Re.reRawOf
    rwa [List.map_map] at qq
  refine wpAny_bind (wpAny_newList ?_ zl)
  have oL : (s1.heap.push (seqObj "list" vs.toArray 0)).get? s1.heap.objs.size = some (seqObj "list" vs.toArray 0) := Heap.get?_push_size _ rfl
  refine wpAny_bind (wpAny_holding (wpAny_call_entry slot_list_sort ⟨_, oL, rfl⟩ entry_list_sort (SrtO.list_sort_ord SrtO.swo_int oL zl (fun h2 => SrtO.ints_sortable vI h2) fun out x1 x2 => ⟨_, rfl, ?_⟩) (args_list_sort _)))
  obtain ⟨y1, y2, y3⟩ := SrtO.ints_out vI x1 x2
  obtain ⟨c, hc⟩ := sortedHeap_at (vs := vs) (out := out.toArray) oL
  have pn : (out.map SrtO.iv).Perm (es.toList.map keyOf) := y2.trans pk
  refine wpAny_pure ⟨_, rfl, q _ s1.heap.objs.size out.toArray c (out.map SrtO.iv) (fun b u e => ?_) g1 o1 hz hc y1 (lt_of_le_nodup _ y3 (pn.nodup_iff.mpr nd)) (fun k => by rw [pn.mem_iff, ← hm k]) ?_⟩
  · have e1 := k1 b u e
    have lt1 := Heap.lt_size e1
    show (sortedHeap (s1.heap.push (seqObj "list" vs.toArray 0)) s1.heap.objs.size vs out.toArray).get? b = some u
    rw [sortedHeap_old (Nat.ne_of_lt lt1) (by rw [size_push']; exact Nat.lt_succ_of_lt lt1)]
    exact Heap.get?_push_of_some _ e1
  · rw [pn.length_eq, List.length_map, Array.length_toList]; exact hn
end
/-- set(xs), ints; sorted of it -/
def rSetI (K : PySem.W.Frag) (w : World) : List V → Hp → VK → Prop := fun vs H Q => ∃ (a : Addr) (ns : List Int), vs = [V.ref a] ∧ SqL K H a (ns.map V.int) ∧ ns.length + 1 < scanBound ∧ ∀ c p, H p = none → Q (.ref p) (upd H p (SetO w p (fun j => decide (j ∈ ns)) c))
def rSortS (w : World) : List V → Hp → VK → Prop := fun vs H Q => ∃ (a : Addr) (S : Int → Bool) (n : Nat), vs = [V.ref a] ∧ H a = some (SetO w a S n) ∧ ∀ (ns : List Int) (p : Addr), ns.Pairwise (· < ·) → (∀ k : Int, k ∈ ns ↔ S k = true) → ns.length = n → ns.length ≤ sizeLine → H p = none → Q (.ref p) (upd H p (.lst (ns.map V.int)))
section
variable {X : Cx}
theorem crSetI (hc : X.calm = true) : CallR X (.type "set") (rSetI X.K X.w) := by
  intro pins s σ H vs us Q I r h
  obtain ⟨a, ns, rfl, hs, hb, q⟩ := h
  obtain ⟨its, rv, hl, hz⟩ := I.list hs
  rw [Vals.ref1 r]
  refine callSetL (ns := ns) (I.ok.hd hc) hl.isList (by simpa using rv.ints) hb fun h' tk c R hc' k => ?_
  have hn : H s.heap.objs.size = none := I.hok.fresh (Nat.le_refl _)
  exact ⟨.ref _, upd H s.heap.objs.size (SetO X.w s.heap.objs.size (fun j => decide (j ∈ ns)) c), I.laid (t' := tk) k (Nat.le_refl _) (setO_new R), rfl, q c _ hn⟩
theorem crSortS (hc : X.calm = true) : CallR X (.builtin "sorted") (rSortS X.w) := by
  intro pins s σ H vs us Q I r h
  obtain ⟨a, S, n, rfl, ha, q⟩ := h
  have R := setO_get I ha
  have hsz : n < scanBound := by
    obtain ⟨o, es, ep, t, _, _, _, _, _, _, hb, _, hn, _⟩ := R
    omega
  rw [Vals.ref1 r]
  refine sortedSet R (I.ok.hd hc) fun s' p out c ns k g o hp hg hi hs hm hl => ?_
  have hlen : (ns.map V.int).length ≤ sizeLine := by
    have : scanBound ≤ sizeLine := by decide
    rw [List.length_map]; omega
  have hn : H p = none := I.hok.fresh hp
  have J : Inv X pins σ (upd H p (.lst (ns.map V.int))) { s with heap := s'.heap, gens := s'.gens, drawn := s'.drawn, toks := s'.toks } := I.call (ch := []) (Un.laid k hp hn) (I.hok.laid k hp ⟨hlen, out.toList, c, vals_of_ints hi, hg⟩) (by rw [g]; exact I.bare) (fun _ z => nomatch z)
  have e : s' = { s with heap := s'.heap, gens := s'.gens, drawn := s'.drawn, toks := s'.toks } := by cases s'; cases s; cases o; rfl
  rw [e]
  exact ⟨.ref p, _, J, rfl, q ns p hs hm hl (by rw [List.length_map] at hlen; exact hlen) hn⟩
end
end SC

namespace SG
open PySem PySem.Spec PyProof.Rows L2 Evl SB SM
def topS (i : Nat) : Stmt := PySem.Challenge.pw_signsets_k04_whole_the_fewest_ranges.main.body.getD i (.Pass ⟨0, 0, 0, 0⟩)
abbrev sCheckSize : Stmt := topS 7
abbrev nCheckSize : List Str := ["size"]
theorem scCheckSize : FnScope nCheckSize ["size"] (defScope sCheckSize) := ⟨rfl, rfl, rfl, by decide +kernel, rfl, by decide +kernel, by decide +kernel⟩
abbrev sCheckSet : Stmt := topS 8
abbrev nCheckSet : List Str := ["size", "ranges", "number", "at", "first", "last"]
theorem scCheckSet : FnScope nCheckSet ["size", "ranges", "number"] (defScope sCheckSet) := ⟨rfl, rfl, rfl, by decide +kernel, rfl, by decide +kernel, by decide +kernel⟩
abbrev sMarksOf : Stmt := topS 9
abbrev nMarksOf : List Str := ["size", "ranges", "marks", "first", "last", "sign"]
theorem scMarksOf : FnScope nMarksOf ["size", "ranges"] (defScope sMarksOf) := ⟨rfl, rfl, rfl, by decide +kernel, rfl, by decide +kernel, by decide +kernel⟩
abbrev sCheckedMarks : Stmt := topS 10
abbrev nCheckedMarks : List Str := ["size", "sets", "number", "ranges"]
theorem scCheckedMarks : FnScope nCheckedMarks ["size", "sets"] (defScope sCheckedMarks) := ⟨rfl, rfl, rfl, by decide +kernel, rfl, by decide +kernel, by decide +kernel⟩
abbrev sRangesOf : Stmt := topS 11
abbrev nRangesOf : List Str := ["marks", "told", "start", "sign", "marked"]
theorem scRangesOf : FnScope nRangesOf ["marks"] (defScope sRangesOf) := ⟨rfl, rfl, rfl, by decide +kernel, rfl, by decide +kernel, by decide +kernel⟩
abbrev sMembers : Stmt := topS 12
abbrev nMembers : List Str := ["size", "ranges", "marks", "sign", "marked"]
theorem scMembers : FnScope nMembers ["size", "ranges"] (defScope sMembers) := ⟨rfl, rfl, rfl, by decide +kernel, rfl, by decide +kernel, by decide +kernel⟩
abbrev sPlain : Stmt := topS 13
abbrev nPlain : List Str := ["size", "ranges"]
theorem scPlain : FnScope nPlain ["size", "ranges"] (defScope sPlain) := ⟨rfl, rfl, rfl, by decide +kernel, rfl, by decide +kernel, by decide +kernel⟩
abbrev sLawDice : Stmt := topS 15
abbrev nLawDice : List Str := ["_law_script", "_law_k", "_law_found", "_law_cell"]
theorem scLawDice : FnScope nLawDice ["_law_script", "_law_k"] (defScope sLawDice) := ⟨rfl, rfl, rfl, by decide +kernel, rfl, by decide +kernel, by decide +kernel⟩
abbrev sLawOff : Stmt := topS 16
abbrev nLawOff : List Str := ["_law_d", "_law_most", "_law_found"]
theorem scLawOff : FnScope nLawOff ["_law_d", "_law_most"] (defScope sLawOff) := ⟨rfl, rfl, rfl, by decide +kernel, rfl, by decide +kernel, by decide +kernel⟩
abbrev sLawMixed : Stmt := topS 17
abbrev nLawMixed : List Str := ["_law_d", "_law_row", "_law_left", "_law_found"]
theorem scLawMixed : FnScope nLawMixed ["_law_d", "_law_row"] (defScope sLawMixed) := ⟨rfl, rfl, rfl, by decide +kernel, rfl, by decide +kernel, by decide +kernel⟩
abbrev sLawSize : Stmt := topS 18
abbrev nLawSize : List Str := ["_law_d"]
theorem scLawSize : FnScope nLawSize ["_law_d"] (defScope sLawSize) := ⟨rfl, rfl, rfl, by decide +kernel, rfl, by decide +kernel, by decide +kernel⟩
abbrev sLawSet : Stmt := topS 19
abbrev nLawSet : List Str := ["_law_d", "_law_size_here", "_law_most", "_law_wide", "_law_found", "_law_turn", "_law_first"]
theorem scLawSet : FnScope nLawSet ["_law_d", "_law_size_here", "_law_most"] (defScope sLawSet) := ⟨rfl, rfl, rfl, by decide +kernel, rfl, by decide +kernel, by decide +kernel⟩
abbrev sLawMembers : Stmt := topS 20
abbrev nLawMembers : List Str := ["_law_size_here", "_law_ranges", "_law_found", "_law_first", "_law_last"]
theorem scLawMembers : FnScope nLawMembers ["_law_size_here", "_law_ranges"] (defScope sLawMembers) := ⟨rfl, rfl, rfl, by decide +kernel, rfl, by decide +kernel, by decide +kernel⟩
abbrev sLaw : Stmt := topS 21
abbrev nLaw : List Str := ["_law_script", "_law_d", "_law_size_here", "_law_ranges", "_law_numbers", "_law_found", "_law_k", "_law_first", "_law_last", "_law_lacking", "_law_other", "_law_at", "_law_number"]
theorem scLaw : FnScope nLaw ["_law_script"] (defScope sLaw) := ⟨rfl, rfl, rfl, by decide +kernel, rfl, by decide +kernel, by decide +kernel⟩
/-! ### data -/
def rD (r : Nat × Nat) : PyData := .tuple [.int (r.1 : Int), .int (r.2 : Int)]
def sD (rs : List (Nat × Nat)) : PyData := .list (rs.map rD)
def bls (n : Nat) (m : Nat → Bool) : List PyData := (List.range n).map fun i => .bool (m i)
theorem bls_len (n : Nat) (m : Nat → Bool) : (bls n m).length = n := by unfold bls; rw [List.length_map, List.length_range]
theorem getD_bls {n i : Nat} (m : Nat → Bool) (h : i < n) : (bls n m).getD i .none = .bool (m i) := by
  unfold bls
  rw [List.getD_eq_getElem?_getD, List.getElem?_map, List.getElem?_range h]; rfl
theorem getD_map {α : Type} (f : α → PyData) : ∀ {xs : List α} {i : Nat} {x : α}, xs[i]? = some x → (xs.map f).getD i .none = f x := fun {xs i x} h => by
  rw [List.getD_eq_getElem?_getD, List.getElem?_map, h]; rfl
theorem noLs_map {α : Type} {f : α → PyData} (h : ∀ x, noL (f x) = true) : ∀ xs : List α, noLs (xs.map f) = true
  | [] => rfl
  | x :: xs => by
    show (noL (f x) && noLs (xs.map f)) = true
    rw [h x, noLs_map h xs]; rfl
theorem noL_rD (r : Nat × Nat) : noL (rD r) = true := rfl
theorem noL_bls (n : Nat) (m : Nat → Bool) : noLs (bls n m) = true := noLs_map (fun _ => rfl) _
section
variable {P : Program} {w : World} {K : PySem.W.Frag} {mg : Str → Option Value} {base : Heap}
/-! ### check_size -/
def RSize : List PyData → PyData → Prop := fun ds out => ∃ n : Nat, ds = [.int (n : Int)] ∧ 1 ≤ n ∧ n ≤ 64 ∧ out = .none
theorem ok_size {f : Addr} {fd : FuncData} {k : Nat} {t : Tok} (F : Fun K "check_size" "check_size" sCheckSize f fd) (g64 : mg "MOST_SIGNS" = some (.int 64 t)) : FnOk P w K mg base CX0 (k + 1) f fd ["size"] (spV K RSize) := by
  refine F.ok scCheckSize (fun vs H Q E h => ?_) (fun cdv A outer s H vs Q E hr h => ?_)
  · obtain ⟨ds, out, ha, ⟨n, rfl, _⟩, _⟩ := h
    exact allLen ha
  · obtain ⟨ds, out, ha, ⟨n, rfl, h1, h2, rfl⟩, q⟩ := h
    obtain ⟨x, rfl, hx⟩ := all1 ha
    cases dpInt hx
    refine ⟨_, pss_one (ps_if (pt_not (pt_chain op_le op_le pe_int (pv 0) (pe_glob (v := .int 64) rfl g64 ⟨_, rfl⟩))) (pss_one ps_never) pss_nil), ?_⟩
    refine s_if (b := false) (et_is (et_not (et_test (ev_chain2 (f := fun a b => decide (a ≤ b)) (f' := fun a b => decide (a ≤ b)) ev_c (ev_var rfl) ev_c))) ?_) (fun z => nomatch z) (fun _ H1 e => q _ H1 e .non)
    rw [decide_eq_true (show (1 : Int) ≤ (n : Int) by omega), decide_eq_true (show (n : Int) ≤ 64 by omega)]; rfl
/-! ### check_set -/
def RSet : List PyData → PyData → Prop := fun ds out => ∃ (n : Nat) (rs : List (Nat × Nat)) (k : Int), ds = [.int (n : Int), sD rs, .int k] ∧ Good n rs ∧ out = .none
theorem ok_set {f : Addr} {fd : FuncData} {k : Nat} {t : Tok} (F : Fun K "check_set" "check_set" sCheckSet f fd) (g40 : mg "MOST_RANGES" = some (.int 40 t)) (me : mg "enumerate" = none) : FnOk P w K mg base CX0 (k + 1) f fd ["size", "ranges", "number"] (spV K RSet) := by
  refine F.ok scCheckSet (fun vs H Q E h => ?_) (fun cdv A outer s H vs Q E hr h => ?_)
  · obtain ⟨ds, out, ha, ⟨n, rs, k, rfl, _⟩, _⟩ := h
    exact allLen ha
  · obtain ⟨ds, out, ha, ⟨n, rs, kk, rfl, hg, rfl⟩, q⟩ := h
    obtain ⟨x, y, z, rfl, hx, hy, hz⟩ := all3 ha
    cases dpInt hx
    cases dpInt hz
    have nd := scCheckSet.nd
    refine ⟨_, pss_one (ps_for PassesOwn.never rfl (pi_enum (by rfl) me (pa_cons (pv 1) pa_nil))
      (pg_tup rfl (pgs_cons (pg_name (i := 3) nd rfl (.inl rfl)) (pgs_cons (pg_tup rfl (pgs_cons (pg_name (i := 4) nd rfl (.inl rfl)) (pgs_cons (pg_name (i := 5) nd rfl (.inl rfl)) pgs_nil))) pgs_nil)))
      (pss_one (ps_if (PW.pt (pw_or (pt_cmpR op_eq (pv 3) (pe_glob (v := .int 40) rfl g40 ⟨_, rfl⟩) (nomark _)) (pw_or1 (pt_not (pt_chain3 op_le op_le op_lt pe_int (pv 4) (pv 5) (pv 0))))))
        (pss_one ps_never) pss_nil))), ?_⟩
    refine sFor (B := H) (Ex.refl H) (wkEnum (ev_var (v := y) rfl) hy) (fun i σ' H' => Ex H H' ∧ ∃ a b c, σ' = [some (.int (n : Int)), some y, some (.int kk), a, b, c]) (fun H2 e => ⟨e, none, none, none, rfl⟩) (fun i σ' H' _ p => p.1) (fun i x σ' H' H'' hi p e hd => ?_) (fun σ' H' p => q _ H' p.1 .non)
    obtain ⟨e0, a, b, c, rfl⟩ := p
    rw [List.length_map] at hi
    rw [getD_map rD (List.getElem?_eq_getElem hi)] at hd
    obtain ⟨T, xs, rfl, hs, hA⟩ := dpTuple hd
    obtain ⟨u1, u2, rfl, hu1, hu2⟩ := all2 hA
    cases dpInt hu1
    obtain ⟨T2, xs2, rfl, hs2, hA2⟩ := dpTuple hu2
    obtain ⟨v1, v2, rfl, hv1, hv2⟩ := all2 hA2
    cases dpInt hv1
    cases dpInt hv2
    refine ⟨T, _, rfl, hs, rfl, _, _, rfl, _, _, rfl, ⟨T2, _, rfl, hs2, rfl, _, _, rfl, _, _, rfl, rfl, ?_⟩⟩
    refine ⟨rfl, ?_⟩
    have g := hg.ok rs[i] (List.getElem_mem hi)
    have g2 := hg.len
    refine s_if (b := false) (et_is (et_or (et_test (ev_op (ev_var rfl) ev_c (rv_eq rfl))) (fun _ => et_not (et_test (ev_chain3 (f := fun a b => decide (a ≤ b)) (f' := fun a b => decide (a ≤ b)) (f'' := fun a b => decide (a < b)) ev_c (ev_var rfl) (ev_var rfl) (ev_var rfl))))) ?_) (fun z => nomatch z) (fun _ H1 e1 => ⟨(e0.trans e).trans e1, _, _, _, rfl⟩)
    rw [decide_eq_false (show ¬ (V.int (i : Nat) = V.int 40) from fun z => by have := V.int.inj z; omega), decide_eq_true (show (0 : Int) ≤ ((rs[i]).1 : Int) by omega), decide_eq_true (show ((rs[i]).1 : Int) ≤ ((rs[i]).2 : Int) by omega), decide_eq_true (show ((rs[i]).2 : Int) < (n : Int) by omega)]; rfl
end

/-! ### marks_of -/
def mb (n : Nat) (m : Nat → Bool) : List V := (List.range n).map fun i => V.bl (m i)
theorem mb_len (n : Nat) (m : Nat → Bool) : (mb n m).length = n := by unfold mb; rw [List.length_map, List.length_range]
theorem mb_set {n : Nat} {m m' : Nat → Bool} {k : Nat} (h : ∀ i, i < n → m' i = (m i || decide (i = k))) : (mb n m).set k (.bl true) = mb n m' := by
  refine List.ext_getElem? fun i => ?_
  unfold mb
  by_cases hi : i < n
  · rw [List.getElem?_set, List.getElem?_map, List.getElem?_map, List.getElem?_range hi, List.length_map, List.length_range]
    by_cases c : k = i
    · subst c
      rw [if_pos rfl, if_pos hi]
      show _ = some (V.bl (m' k))
      rw [h k hi, decide_eq_true rfl, Bool.or_true]
    · rw [if_neg c]
      show some (V.bl (m i)) = some (V.bl (m' i))
      rw [h i hi, decide_eq_false (Ne.symm c), Bool.or_false]
  · rw [List.getElem?_eq_none (by rw [List.length_set, List.length_map, List.length_range]; omega), List.getElem?_eq_none (by rw [List.length_map, List.length_range]; omega)]
theorem mb_congr {n : Nat} {m m' : Nat → Bool} (h : ∀ i, i < n → m i = m' i) : mb n m = mb n m' := by
  unfold mb
  refine List.map_congr_left fun i hi => ?_
  rw [h i (List.mem_range.mp hi)]
theorem bls_congr {n : Nat} {m m' : Nat → Bool} (h : ∀ i, i < n → m i = m' i) : bls n m = bls n m' := by
  unfold bls
  refine List.map_congr_left fun i hi => ?_
  rw [h i (List.mem_range.mp hi)]
theorem mb_all {K : PySem.W.Frag} {H : Hp} (n : Nat) (m : Nat → Bool) : DpAll K H (mb n m) (bls n m) := by
  have h := allOfBls (K := K) (H := H) ((List.range n).map m)
  rw [List.map_map, List.map_map] at h
  exact h
theorem all_mb {K : PySem.W.Frag} {H : Hp} {n : Nat} {m : Nat → Bool} {vs : List V} (h : DpAll K H vs (bls n m)) : vs = mb n m := by
  have e : bls n m = ((List.range n).map m).map PyData.bool := by rw [List.map_map]; rfl
  rw [e] at h
  rw [blsOfAll h, List.map_map]; rfl
theorem rep_mb : ∀ n : Nat, (List.replicate n [V.bl false]).flatten = mb n fun _ => false
  | 0 => rfl
  | n + 1 => by
    have e : mb (n + 1) (fun _ => false) = [V.bl false] ++ mb n fun _ => false := by
      unfold mb
      rw [List.range_succ_eq_map, List.map_cons, List.map_map]; rfl
    rw [List.replicate_succ, List.flatten_cons, rep_mb n, e]
section
variable {P : Program} {w : World} {K : PySem.W.Frag} {mg : Str → Option Value} {base : Heap}
def RMarks : List PyData → List PyData → Prop := fun ds out => ∃ (n : Nat) (rs : List (Nat × Nat)), ds = [.int (n : Int), sD rs] ∧ n ≤ 64 ∧ Good n rs ∧ out = bls n (memB rs)
theorem ok_marks {f : Addr} {fd : FuncData} {k : Nat} (F : Fun K "marks_of" "marks_of" sMarksOf f fd) (mr : mg "range" = none) : FnOk P w K mg base CX0 (k + 1) f fd ["size", "ranges"] (spN K RMarks) := by
  refine F.ok scMarksOf (fun vs H Q E h => ?_) (fun cdv A outer s H vs Q E hr h => ?_)
  · obtain ⟨ds, out, ha, ⟨n, rs, rfl, _⟩, _⟩ := h
    exact allLen ha
  · obtain ⟨ds, out, ha, ⟨n, rs, rfl, h64, hg, rfl⟩, q⟩ := h
    obtain ⟨x, y, rfl, hx, hy⟩ := all2 ha
    cases dpInt hx
    have nd := scMarksOf.nd
    refine ⟨_, pss_cons (ps_set (i := 2) nd rfl (.inl rfl) (pe_op op_rep (pe_lst (pa_cons pe_bl pa_nil)) (pv 0)))
      (pss_cons (ps_for PassesOwn.never rfl (pi_list (pv 1)) (pg_tup rfl (pgs_cons (pg_name (i := 3) nd rfl (.inl rfl)) (pgs_cons (pg_name (i := 4) nd rfl (.inl rfl)) pgs_nil)))
        (pss_one (ps_for PassesOwn.never rfl (pi_range2 (by rfl) mr (pa_cons (pv 3) (pa_cons (pe_op op_add (pv 4) pe_int) pa_nil))) (pg_name (i := 5) nd rfl (.inl rfl))
          (pss_one (ps_asg pe_bl (pg_sub (pv 2) (pv 5) set_list))))))
      (pss_one (ps_ret (pv 2)))), ?_⟩
    refine ⟨by show 1 ≤ sizeLine; decide, fun l hl => ⟨.int (n : Int), rfl, l, (n : Int), [.bl false], rfl, rfl, upd_same, by omega, by omega, ?_, fun p hp => ?_⟩⟩
    · show 1 * (n : Int).toNat ≤ sizeLine
      exact sz_of (by omega)
    have e1 : Ex H (upd (upd H l (.lst [.bl false])) p (.lst (List.replicate (n : Int).toNat [V.bl false]).flatten)) := (Ex.new hl).trans (Ex.new hp)
    have hp0 : H p = none := fresh_back (Ex.new hl) hp
    have h1 : (upd (upd H l (.lst [.bl false])) p (.lst (List.replicate (n : Int).toNat [V.bl false]).flatten)) p = some (.lst (mb n fun _ => false)) := by
      rw [upd_same, Int.toNat_natCast, rep_mb]
    generalize upd (upd H l (.lst [.bl false])) p (.lst (List.replicate (n : Int).toNat [V.bl false]).flatten) = H1 at e1 h1 ⊢
    refine sFor (B := H) e1 (wkList (ev_var (v := y) rfl) hy) (fun i σ' H' => Ex H H' ∧ H' p = some (.lst (mb n (memB (rs.take i)))) ∧ ∃ a b c, σ' = [some (.int (n : Int)), some y, some (.ref p), a, b, c]) (fun H2 e => ⟨e1.trans e, e p _ h1, none, none, none, rfl⟩) (fun i σ' H' _ p => p.1) (fun i x σ' H' H'' hi pv' e hd => ?_) (fun σ' H' pv' => ?_)
    · obtain ⟨e0, h0, a, b, c, rfl⟩ := pv'
      rw [List.length_map] at hi
      rw [getD_map rD (List.getElem?_eq_getElem hi)] at hd
      have g := hg.ok rs[i] (List.getElem_mem hi)
      generalize hr' : rs[i] = r at hd g
      refine gPair hd fun y1 z1 hy1 hz1 => ?_
      cases dpInt hy1
      cases dpInt hz1
      refine s_forR2 (lo := (r.1 : Int)) (n := (r.2 : Int) + 1) (ea_cons (ev_var rfl) (ea_cons (ev_op (ev_var rfl) ev_c rv_I0) ea_nil)) ⟨by omega, by omega, by omega, by omega⟩
        (fun j σ' H' => Ex H H' ∧ H' p = some (.lst (mb n fun k => memB (rs.take i) k || (decide (r.1 ≤ k) && decide (k < r.1 + j)))) ∧ ∃ c, σ' = [some (.int (n : Int)), some y, some (.ref p), some (.int (r.1 : Int)), some (.int (r.2 : Int)), c]) (fun H2 e2 => ⟨(e0.trans e).trans e2, ?_, c, rfl⟩) (fun j σ' H2 hj p2 => ?_) (fun σ' H2 p2 => ?_)
      · rw [e2 p _ (e p _ h0)]
        refine congrArg (fun z => some (HO.lst z)) (mb_congr fun k _ => ?_)
        rw [show (decide (r.1 ≤ k) && decide (k < r.1 + 0)) = false by
          rw [Bool.and_eq_false_iff]
          by_cases c : r.1 ≤ k
          · right; rw [decide_eq_false]; omega
          · left; rw [decide_eq_false c], Bool.or_false]
      · obtain ⟨e3, h3, c, rfl⟩ := p2
        refine s_setL (j := r.1 + j) h3 ev_c (ev_var rfl) (ev_is (ev_var rfl) (congrArg V.int (by omega))) (by rw [mb_len]; omega) fun H4 e4 => ⟨Ex.mut (e3.trans e4) hp0, ?_, _, rfl⟩
        rw [upd_same, mb_set (m' := fun k => memB (rs.take i) k || (decide (r.1 ≤ k) && decide (k < r.1 + (j + 1))))]
        intro k _
        rw [Bool.or_assoc]
        refine congrArg _ ?_
        rw [Bool.eq_iff_iff]
        simp only [Bool.and_eq_true, Bool.or_eq_true, decide_eq_true_eq]
        omega
      · obtain ⟨e3, h3, c, rfl⟩ := p2
        refine ⟨e3, ?_, _, _, _, rfl⟩
        rw [h3]
        refine congrArg (fun z => some (HO.lst z)) (mb_congr fun k _ => ?_)
        rw [List.take_add_one, List.getElem?_eq_getElem hi, hr']
        show _ = memB (rs.take i ++ [r]) k
        rw [memB_append, memB_one]
        refine congrArg _ ?_
        rw [Bool.eq_iff_iff]
        simp only [Bool.and_eq_true, decide_eq_true_eq]
        omega
    · obtain ⟨e0, h0, a, b, c, rfl⟩ := pv'
      rw [List.length_map, List.take_length] at h0
      exact ⟨.ref p, rfl, q p _ H' hp0 e0 h0 (mb_all n _)⟩
end

/-! ### checked_marks -/
theorem range_getD {α β : Type} (g : α → β) (d : α) : ∀ xs : List α, (List.range xs.length).map (fun i => g (xs.getD i d)) = xs.map g
  | [] => rfl
  | x :: xs => by
    rw [List.length_cons, List.range_succ_eq_map, List.map_cons, List.map_map, List.map_cons, ← range_getD g d xs]
    rfl
theorem outs_all (n : Nat) (out : Nat → PyData) : outs n (fun _ => true) out = (List.range n).map out := by
  unfold outs
  rw [List.filter_eq_self.mpr (fun _ _ => rfl)]
theorem et_yes {σ : L2.St} {H : Hp} : EvT tYes σ H true := fun H1 _ Q q => q H1 (Ex.refl H1)
theorem sDropD {K : PySem.W.Frag} {σ : L2.St} {H : Hp} {te : TE} {D : Ends} {d : PyData} (h : EvD K te σ H d) (k : ∀ H1, Ex H H1 → D.nx σ H1) : tDrop te D σ H := h H (Ex.refl H) _ fun _ H1 e _ => k H1 e
theorem getD_at {α : Type} {xs : List α} {i : Nat} (d : α) (h : i < xs.length) : xs.getD i d = xs[i] := by
  rw [List.getD_eq_getElem?_getD, List.getElem?_eq_getElem h]; rfl
section
variable {P : Program} {w : World} {K : PySem.W.Frag} {mg : Str → Option Value} {base : Heap}
def mD (n : Nat) (rs : List (Nat × Nat)) : PyData := .list (bls n (memB rs))
def RChecked : List PyData → List PyData → Prop := fun ds out => ∃ (n : Nat) (rss : List (List (Nat × Nat))), ds = [.int (n : Int), .list (rss.map sD)] ∧ 1 ≤ n ∧ n ≤ 64 ∧ rss.length ≤ 100 ∧ (∀ rs ∈ rss, Good n rs) ∧ out = rss.map (mD n)
theorem ok_checked {f f1 f2 f3 : Addr} {fd fd1 fd2 fd3 : FuncData} {k : Nat} (F : Fun K "checked_marks" "checked_marks" sCheckedMarks f fd)
    (F1 : FnOk P w K mg base CX0 (k + 1) f1 fd1 ["size"] (spV K RSize)) (g1 : mg "check_size" = some (.ref f1)) (k1 : PySem.W.keepIn K (.ref f1) = true) (b1 : Binds K fd1 ["size"] [])
    (F2 : FnOk P w K mg base CX0 (k + 1) f2 fd2 ["size", "ranges", "number"] (spV K RSet)) (g2 : mg "check_set" = some (.ref f2)) (k2 : PySem.W.keepIn K (.ref f2) = true) (b2 : Binds K fd2 ["size", "ranges", "number"] [])
    (F3 : FnOk P w K mg base CX0 (k + 1) f3 fd3 ["size", "ranges"] (spN K RMarks)) (g3 : mg "marks_of" = some (.ref f3)) (k3 : PySem.W.keepIn K (.ref f3) = true) (b3 : Binds K fd3 ["size", "ranges"] [])
    (me : mg "enumerate" = none) : FnOk P w K mg base CX0 (k + 2) f fd ["size", "sets"] (spN K RChecked) := by
  refine F.ok scCheckedMarks (fun vs H Q E h => ?_) (fun cdv A outer s H vs Q E hr h => ?_)
  · obtain ⟨ds, out, ha, ⟨n, rss, rfl, _⟩, _⟩ := h
    exact allLen ha
  · obtain ⟨ds, out, ha, ⟨n, rss, rfl, hn1, hn64, hl, hg, rfl⟩, q⟩ := h
    obtain ⟨x, y, rfl, hx, hy⟩ := all2 ha
    cases dpInt hx
    have nd := scCheckedMarks.nd
    refine ⟨_, pss_cons (ps_expr (pe_call F1 hr (by rfl) g1 k1 b1 .nil pass0 (pa_cons (pv 0) pa_nil)))
      (pss_cons (ps_for PassesOwn.never rfl (pi_enum (by rfl) me (pa_cons (pv 1) pa_nil)) (pg_tup rfl (pgs_cons (pg_name (i := 2) nd rfl (.inl rfl)) (pgs_cons (pg_name (i := 3) nd rfl (.inl rfl)) pgs_nil)))
        (pss_one (ps_expr (pe_call F2 hr (by rfl) g2 k2 b2 .nil pass0 (pa_cons (pv 0) (pa_cons (pv 3) (pa_cons (pv 2) pa_nil)))))))
      (pss_one (ps_ret (pe_lc (own := [("ranges", 3)]) (g := gName 3) (tt := tYes) rfl nd (pi_list (pv 1)) (blkOk_by (own := [("ranges", 3)]) (N := nCheckedMarks) (sc := defScope sCheckedMarks) (by decide +kernel))
        (fun _ _ _ _ _ => pg_name (i := 3) nd rfl (Or.inl rfl)) (fun _ _ _ _ _ => pts_nil) (fun _ _ _ _ _ => pe_call F3 hr (by rfl) g3 k3 b3 .nil pass0 (pa_cons (pv 0) (pa_cons (pv 3) pa_nil))))))), ?_⟩
    refine sDropD (vCall (K := K) (da1 (dVar rfl (.int (n : Int)))) ⟨n, rfl, hn1, hn64, rfl⟩) fun H1 e1 => ?_
    refine sFor (B := H) e1 (wkEnum (ev_var (v := y) rfl) hy) (fun i σ' H' => Ex H H' ∧ ∃ a b, σ' = [some (.int (n : Int)), some y, a, b]) (fun H2 e => ⟨e1.trans e, none, none, rfl⟩) (fun i σ' H' _ p => p.1) (fun i x σ' H' H'' hi p e hd => ?_) (fun σ' H' p => ?_)
    · obtain ⟨e0, a, b, rfl⟩ := p
      rw [List.length_map] at hi
      rw [getD_map sD (List.getElem?_eq_getElem hi)] at hd
      refine gPair hd fun y1 z1 hy1 hz1 => ?_
      cases dpInt hy1
      exact sDropD (vCall (K := K) (daCons (dVar rfl (.int (n : Int))) (da2 (dVar (v := z1) rfl hz1) (dVar (v := .int (i : Nat)) rfl (.int _)))) ⟨n, rss[i], (i : Nat), rfl, hg _ (List.getElem_mem hi), rfl⟩) fun H2 e2 => ⟨(e0.trans e).trans e2, _, _, rfl⟩
    · obtain ⟨e0, a, b, rfl⟩ := p
      have N := nLc (K := K) (σ := [some (.int (n : Int)), some y, a, b]) (H := H') (wi := iList K (tVar 1)) (g := gName 3) (tt := tYes) (te := tCall (spN K RMarks) [] E0 (tCons (tVar 0) (tCons (tVar 3) tNil))) (vs := [3]) (fun _ => true) (fun i => mD n (rss.getD i [])) (by rw [List.length_map]; omega) (wkList (ev_var (v := y) rfl) (SB.mono e0 hy)).asN (fun Dl i x H3 hi e3 hd => by
        rw [List.length_map] at hi
        rw [getD_map sD (List.getElem?_eq_getElem hi)] at hd
        refine ⟨_, fun Q q => q, rfl, et_yes, fun _ => ?_⟩
        have c := nCall (K := K) (E := E0) (R := RMarks) (σ := [some (.int (n : Int)), some y, a, some x]) (H := H3) (da2 (ta := tVar 0) (tb := tVar 3) (dVar (v := .int (n : Int)) rfl (.int (n : Int))) (dVar (v := x) rfl hd)) ⟨n, rss[i], rfl, hn64, hg _ (List.getElem_mem hi), rfl⟩
        have c2 := c.x (D := Dl) (noL_bls n (memB rss[i]))
        rw [getD_at [] hi]
        exact c2)
      rw [outs_all, List.length_map, range_getD (mD n)] at N
      exact sRetN N (q.ex e0)
end

/-! ### ranges_of -/
theorem told_ne {m : Nat → Bool} {i : Nat} (h : st m i < i) : told m i ≠ [] := by
  obtain ⟨pre, e, _⟩ := (kept m i).shape
  rw [e, if_pos h]
  simp
theorem set_last {α : Type} (x : α) : ∀ xs : List α, xs ≠ [] → xs.set (xs.length - 1) x = xs.dropLast ++ [x]
  | [], h => absurd rfl h
  | [a], _ => rfl
  | a :: b :: r, _ => by
    have ih := set_last x (b :: r) (by simp)
    show a :: ((b :: r).set ((b :: r).length - 1) x) = a :: ((b :: r).dropLast ++ [x])
    rw [ih]
theorem ixN_last {n : Nat} (h : 0 < n) : ixN n (-1) = some (n - 1) := by
  unfold ixN
  rw [if_neg (by decide), if_pos (by omega)]
  exact congrArg some (by omega)
theorem sSetLast {σ : L2.St} {H : Hp} {te ta tb : TE} {D : Ends} {l : Addr} {xs ys : List V} (hl : H l = some (.lst xs)) (h : EvU te σ H ys) (ho : Ev ta σ H (.ref l)) (hi : Ev tb σ H (.int (-1))) (hx : 0 < xs.length)
    (k : ∀ p H1, Ex H H1 → H1 p = some (.tup ys) → D.nx σ (upd H1 l (.lst (xs.set (xs.length - 1) (.ref p))))) : tAsg te (gSub ta tb rSetL) D σ H := h H (Ex.refl H) _ fun p H1 _ e1 hp => ho H1 e1 _ fun H2 e2 => hi H2 (e1.trans e2) _ fun H3 e3 =>
  ⟨l, xs, -1, xs.length - 1, rfl, rfl, ((e1.trans e2).trans e3) l _ hl, ixN_last hx, k p H3 ((e1.trans e2).trans e3) ((e2.trans e3) p _ hp)⟩
section
variable {P : Program} {w : World} {K : PySem.W.Frag} {mg : Str → Option Value} {base : Heap}
def RRanges : List PyData → List PyData → Prop := fun ds out => ∃ (n : Nat) (m : Nat → Bool), ds = [.list (bls n m)] ∧ n ≤ 64 ∧ out = (told m n).map rD
theorem ok_ranges {f : Addr} {fd : FuncData} {k : Nat} (F : Fun K "ranges_of" "ranges_of" sRangesOf f fd) (me : mg "enumerate" = none) : FnOk P w K mg base CX0 (k + 1) f fd ["marks"] (spN K RRanges) := by
  refine F.ok scRangesOf (fun vs H Q E h => ?_) (fun cdv A outer s H vs Q E hr h => ?_)
  · obtain ⟨ds, out, ha, ⟨n, m, rfl, _⟩, _⟩ := h
    exact allLen ha
  · obtain ⟨ds, out, ha, ⟨n, m, rfl, h64, rfl⟩, q⟩ := h
    obtain ⟨y, rfl, hy⟩ := all1 ha
    have nd := scRangesOf.nd
    refine ⟨_, pss_cons (ps_set (i := 1) nd rfl (.inl rfl) (pe_lst pa_nil)) (pss_cons (ps_set (i := 2) nd rfl (.inl rfl) pe_int)
      (pss_cons (ps_for PassesOwn.never rfl (pi_enum (by rfl) me (pa_cons (pv 0) pa_nil)) (pg_tup rfl (pgs_cons (pg_name (i := 3) nd rfl (.inl rfl)) (pgs_cons (pg_name (i := 4) nd rfl (.inl rfl)) pgs_nil)))
        (pss_one (ps_if (pt_not (pt_val (pv 4))) (pss_one (ps_set (i := 2) nd rfl (.inl rfl) (pe_op op_add (pv 3) pe_int)))
          (pss_one (ps_if (pt_cmpR op_eq (pv 2) (pv 3) (nomark _))
            (pss_one (ps_expr (pe_bm PySem.F.plainAttrs_list PySem.F.slot_list_append PySem.F.type_list_append mt_append (pv 1) (pa_cons (pe_tup (pa_cons (pv 2) (pa_cons (pv 3) pa_nil))) pa_nil))))
            (pss_one (ps_asg (pe_tup (pa_cons (pv 2) (pa_cons (pv 3) pa_nil))) (pg_sub (pv 1) (pe_un un_neg pe_int) set_list))))))))
      (pss_one (ps_ret (pv 1))))), ?_⟩
    refine ⟨Nat.zero_le _, fun l hl => ?_⟩
    have e1 : Ex H (upd H l (.lst [])) := Ex.new hl
    have h1 : (upd H l (.lst [])) l = some (.lst []) := upd_same
    generalize upd H l (.lst []) = H1 at e1 h1 ⊢
    refine sFor (B := H) e1 (wkEnum (ev_var (v := y) rfl) hy) (fun i σ' H' => Ex H H' ∧ (∃ acc, H' l = some (.lst acc) ∧ DpAll K (rm H' l) acc ((told m i).map rD)) ∧ ∃ a b, σ' = [some y, some (.ref l), some (.int (st m i : Nat)), a, b]) (fun H2 e => ⟨e1.trans e, ⟨[], e l _ h1, .nil⟩, none, none, rfl⟩) (fun i σ' H' _ p => p.1) (fun i x σ' H' H'' hi p e hd => ?_) (fun σ' H' p => ?_)
    · obtain ⟨e0, ⟨acc, h0, hA⟩, a, b, rfl⟩ := p
      rw [bls_len] at hi
      rw [getD_bls m hi] at hd
      have e0'' := e0.trans e
      have h0'' := e l _ h0
      have hA'' := monoA (rmMono (D := l) e) hA
      have hlen : acc.length = (told m i).length := by rw [allLen hA, List.length_map]
      have hshort : acc.length < 100000 := by have := told_len m i; omega
      have hle := st_le m i
      refine gPair hd fun y1 z1 hy1 hz1 => ?_
      cases dpInt hy1
      cases dpBool hz1
      refine s_if (b := !m i) (et_not (et_B (ev_var rfl))) (fun hb H2 e2 => ?_) (fun hb H2 e2 => ?_)
      · have hm : m i = false := by simpa using hb
        refine s_asg (ev_op (z := .int ((i + 1 : Nat) : Int)) (ev_var rfl) ev_c (fun H3 _ _ q => ⟨_, _, rfl, rfl, q H3 (Ex.refl H3)⟩)) fun H3 e3 => ⟨(e0''.trans e2).trans e3, ⟨acc, (e2.trans e3) l _ h0'', ?_⟩, some (.int (i : Nat)), some (.bl (m i)), ?_⟩
        · rw [told, if_neg (by rw [hm]; decide)]
          exact monoA (rmMono (e2.trans e3)) hA''
        · rw [st_no hm]; rfl
      · have hm : m i = true := by simpa using hb
        have es : st m (i + 1) = st m i := st_yes hm
        have tup : ∀ {H3 H4 : Hp} {p : Addr} {xs : List V}, H3 l = some (.lst xs) → H3 p = some (.tup [.int (st m i : Nat), .int (i : Nat)]) → H4 = H3 → Dp K (rm H4 l) (.ref p) (rD (st m i, i)) := fun {H3 H4 p xs} a b c => by
          subst c
          refine .tup (st_of ?_) (.cons (.int _) (.cons (.int _) .nil))
          rw [rmNe (ne_of b a (by intro z; cases z))]
          exact b
        refine s_if (b := decide (V.int (st m i : Nat) = V.int (i : Nat))) (et_test (ev_op (ev_var rfl) (ev_var rfl) (rv_eq rfl))) (fun hb2 H3 e3 => ?_) (fun hb2 H3 e3 => ?_)
        · have hst : st m i = i := by
            have z := V.int.inj (of_decide_eq_true hb2)
            omega
          have e23 := e2.trans e3
          refine s_appU (e23 l _ h0'') (ev_var rfl) (eu_tup (ea_cons (ev_var rfl) (ea_cons (ev_var rfl) ea_nil)) (by show 2 ≤ 100000; decide)) hshort fun p H4 hp e4 h4 => ⟨Ex.mut ((e0''.trans e23).trans e4) hl, ⟨_, upd_same, ?_⟩, some (.int (i : Nat)), some (.bl (m i)), ?_⟩
          · rw [rmUpd, told, if_pos hm, if_pos hst, List.map_append]
            refine allApp (monoA (rmMono (e23.trans e4)) hA'') (.cons ?_ .nil)
            have t := tup (e4 l _ (e23 l _ h0'')) h4 rfl
            rw [hst] at t
            exact t
          · rw [es]; rfl
        · have hst : st m i ≠ i := fun z => by
            rw [z, decide_eq_true rfl] at hb2; cases hb2
          have e23 := e2.trans e3
          have hne := told_ne (m := m) (i := i) (by omega)
          have hpos : 0 < acc.length := by
            rw [hlen]
            exact List.length_pos_iff.mpr hne
          refine sSetLast (e23 l _ h0'') (eu_tup (ea_cons (ev_var rfl) (ea_cons (ev_var rfl) ea_nil)) (by show 2 ≤ 100000; decide)) (ev_var rfl) (ev_un ev_c ru_neg) hpos fun p H4 e4 h4 => ⟨Ex.mut ((e0''.trans e23).trans e4) hl, ⟨_, upd_same, ?_⟩, some (.int (i : Nat)), some (.bl (m i)), ?_⟩
          · have t := allSet (tup (e4 l _ (e23 l _ h0'')) h4 rfl) (acc.length - 1) (monoA (rmMono (e23.trans e4)) hA'')
            rw [rmUpd, told, if_pos hm, if_neg hst]
            rw [hlen] at t ⊢
            rw [← List.map_set, set_last _ _ hne] at t
            exact t
          · rw [es]; rfl
    · obtain ⟨e0, ⟨acc, h0, hA⟩, a, b, rfl⟩ := p
      rw [bls_len] at hA
      exact ⟨.ref l, rfl, q l acc H' hl e0 h0 (monoA rmEx hA)⟩
end

/-! ### the six functions -/
def iD' (i : Nat) : PyData := .int (i : Int)
theorem sAsgUn2 {K : PySem.W.Frag} {σ : L2.St} {H : Hp} {te : TE} {D : Ends} {i j : Nat} {d e : PyData} (h : EvD K te σ H (.list [d, e])) (k : ∀ x y H1, Ex H H1 → Dp K H1 x d → Dp K H1 y e → D.nx ((σ.set i (some x)).set j (some y)) H1) :
    tAsg te (gUnl K 2 (gCons (gName i) (gCons (gName j) gNil))) D σ H := h H (Ex.refl H) _ fun v H1 e1 hd => by
  obtain ⟨a, xs, rfl, hs, ha⟩ := dpList hd
  obtain ⟨x, y, rfl, h1, h2⟩ := all2 ha
  exact ⟨a, _, rfl, hs, rfl, x, [y], rfl, y, [], rfl, rfl, k x y H1 e1 h1 h2⟩
section
variable {P : Program} {w : World} {K : PySem.W.Frag} {mg : Str → Option Value} {base : Heap}
/-- what plain and the like tell: of a size and a set | two sets -/
def R1 (out : Nat → List (Nat × Nat) → List PyData) : List PyData → List PyData → Prop := fun ds o => ∃ (n : Nat) (rs : List (Nat × Nat)), ds = [.int (n : Int), sD rs] ∧ 1 ≤ n ∧ n ≤ 64 ∧ Good n rs ∧ o = out n rs
def R2' (op : Bool → Bool → Bool) : List PyData → List PyData → Prop := fun ds o => ∃ (n : Nat) (rs ss : List (Nat × Nat)), ds = [.int (n : Int), sD rs, sD ss] ∧ 1 ≤ n ∧ n ≤ 64 ∧ Good n rs ∧ Good n ss ∧ o = (told (fun k => op (memB rs k) (memB ss k)) n).map rD
abbrev RMembers := R1 fun n rs => ((List.range n).filter (memB rs)).map iD'
abbrev RPlain := R1 fun n rs => (told (memB rs) n).map rD
abbrev ROthers := R1 fun n rs => (told (fun k => !memB rs k) n).map rD
theorem marks0 {σ : L2.St} {H : Hp} {n : Nat} {rs : List (Nat × Nat)} {y : V} (h0 : σ[0]? = some (some (.int (n : Int)))) (h1 : σ[1]? = some (some y)) (hy : Dp K H y (sD rs)) (hn : 1 ≤ n ∧ n ≤ 64) (hg : Good n rs) :
    EvD K (tOp (rIxL K) (tCall (spN K RChecked) [] E0 (tCons (tVar 0) (tCons (tLst (tCons (tVar 1) tNil)) tNil))) (tC (.int 0))) σ H (mD n rs) :=
  dIxL (nCall (da2 (dVar h0 (.int (n : Int))) (nLst (da1 (dVar h1 hy)) (by show 1 ≤ 100000; decide)).asD) ⟨n, [rs], rfl, hn.1, hn.2, by show 1 ≤ 100; decide, fun r hr => by rw [List.mem_singleton.mp hr]; exact hg, rfl⟩).asD ev_c rfl
theorem ok_members {f f1 : Addr} {fd fd1 : FuncData} {k : Nat} (F : Fun K "members" "members" sMembers f fd)
    (F1 : FnOk P w K mg base CX0 (k + 2) f1 fd1 ["size", "sets"] (spN K RChecked)) (g1 : mg "checked_marks" = some (.ref f1)) (k1 : PySem.W.keepIn K (.ref f1) = true) (b1 : Binds K fd1 ["size", "sets"] [])
    (me : mg "enumerate" = none) : FnOk P w K mg base CX0 (k + 3) f fd ["size", "ranges"] (spN K RMembers) := by
  refine F.ok scMembers (fun vs H Q E h => ?_) (fun cdv A outer s H vs Q E hr h => ?_)
  · obtain ⟨ds, out, ha, ⟨n, rs, rfl, _⟩, _⟩ := h
    exact allLen ha
  · obtain ⟨ds, out, ha, ⟨n, rs, rfl, hn1, hn64, hg, rfl⟩, q⟩ := h
    obtain ⟨x, y, rfl, hx, hy⟩ := all2 ha
    cases dpInt hx
    have nd := scMembers.nd
    refine ⟨_, pss_cons (ps_set (i := 2) nd rfl (.inl rfl) (pe_ix ix_list (pe_call F1 hr (by rfl) g1 k1 b1 .nil pass0 (pa_cons (pv 0) (pa_cons (pe_lst (pa_cons (pv 1) pa_nil)) pa_nil))) pe_int (fun _ _ => rfl)))
      (pss_one (ps_ret (pe_lc (own := [("sign", 3), ("marked", 4)]) (g := gTup K 2 (gCons (gName 3) (gCons (gName 4) gNil))) (tt := tB (tVar 4)) rfl nd (pi_enum (by rfl) me (pa_cons (pv 2) pa_nil)) (blkOk_by (own := [("sign", 3), ("marked", 4)]) (N := nMembers) (sc := defScope sMembers) (by decide +kernel))
        (fun _ _ _ _ _ => pg_tup rfl (pgs_cons (pg_name (i := 3) nd rfl (Or.inl rfl)) (pgs_cons (pg_name (i := 4) nd rfl (Or.inl rfl)) pgs_nil))) (fun _ _ _ _ _ => pts_one (pt_val (pv 4))) (fun _ _ _ _ _ => pv 3)))), ?_⟩
    refine sAsgD (marks0 rfl rfl hy ⟨hn1, hn64⟩ hg) fun v H1 e1 hv => ?_
    have N := nLc (K := K) (σ := [some (.int (n : Int)), some y, some v, none, none]) (H := H1) (wi := iEnum K (tCons (tVar 2) tNil)) (g := gTup K 2 (gCons (gName 3) (gCons (gName 4) gNil))) (tt := tB (tVar 4)) (te := tVar 3) (vs := [3, 4]) (memB rs) iD' (by rw [bls_len]; omega) (wkEnum (ev_var (v := v) rfl) hv).asN (fun Dl i x H3 hi e3 hd => by
      rw [bls_len] at hi
      rw [getD_bls _ hi] at hd
      refine ⟨[some (.int (n : Int)), some y, some v, some (.int (i : Nat)), some (.bl (memB rs i))], fun Q q => gPair hd fun y1 z1 hy1 hz1 => ?_, rfl, et_B (ev_var rfl), fun _ => (dVar (d := iD' i) rfl (.int _)).x rfl⟩
      cases dpInt hy1
      cases dpBool hz1
      exact q)
    rw [bls_len] at N
    exact sRetN N (q.ex e1)
theorem ok_plain {f f1 f2 : Addr} {fd fd1 fd2 : FuncData} {k : Nat} (F : Fun K "plain" "plain" sPlain f fd)
    (F1 : FnOk P w K mg base CX0 (k + 2) f1 fd1 ["size", "sets"] (spN K RChecked)) (g1 : mg "checked_marks" = some (.ref f1)) (k1 : PySem.W.keepIn K (.ref f1) = true) (b1 : Binds K fd1 ["size", "sets"] [])
    (F2 : FnOk P w K mg base CX0 (k + 2) f2 fd2 ["marks"] (spN K RRanges)) (g2 : mg "ranges_of" = some (.ref f2)) (k2 : PySem.W.keepIn K (.ref f2) = true) (b2 : Binds K fd2 ["marks"] []) : FnOk P w K mg base CX0 (k + 3) f fd ["size", "ranges"] (spN K RPlain) := by
  refine F.ok scPlain (fun vs H Q E h => ?_) (fun cdv A outer s H vs Q E hr h => ?_)
  · obtain ⟨ds, out, ha, ⟨n, rs, rfl, _⟩, _⟩ := h
    exact allLen ha
  · obtain ⟨ds, out, ha, ⟨n, rs, rfl, hn1, hn64, hg, rfl⟩, q⟩ := h
    obtain ⟨x, y, rfl, hx, hy⟩ := all2 ha
    cases dpInt hx
    refine ⟨_, pss_one (ps_ret (pe_call F2 hr (by rfl) g2 k2 b2 .nil pass0 (pa_cons (pe_ix ix_list (pe_call F1 hr (by rfl) g1 k1 b1 .nil pass0 (pa_cons (pv 0) (pa_cons (pe_lst (pa_cons (pv 1) pa_nil)) pa_nil))) pe_int (fun _ _ => rfl)) pa_nil))), ?_⟩
    exact sRetN (nCall (da1 (marks0 rfl rfl hy ⟨hn1, hn64⟩ hg)) ⟨n, memB rs, rfl, hn64, rfl⟩) q
/-- two sets, taken together by op: the comprehension's element -/
theorem two_sets {op : Bool → Bool → Bool} {te : TE} {D : Ends} {Q : VK} {n : Nat} {rs ss : List (Nat × Nat)} {H : Hp} {y z : V} (hrt : D.rt = Q) (hn1 : 1 ≤ n) (hn64 : n ≤ 64) (hg : Good n rs) (hg' : Good n ss) (hy : Dp K H y (sD rs)) (hz : Dp K H z (sD ss))
    (q : NewL K H Q ((told (fun k => op (memB rs k) (memB ss k)) n).map rD)) (he : ∀ (σ : L2.St) (H : Hp) (a b : Bool), σ[5]? = some (some (.bl a)) → σ[6]? = some (some (.bl b)) → Ev te σ H (.bl (op a b))) :
    tSeq (tAsg (tCall (spN K RChecked) [] E0 (tCons (tVar 0) (tCons (tLst (tCons (tVar 1) (tCons (tVar 2) tNil))) tNil))) (gUnl K 2 (gCons (gName 3) (gCons (gName 4) gNil))))
      (tRet (tCall (spN K RRanges) [] E0 (tCons (tLc (iZip K (tCons (tVar 3) (tCons (tVar 4) tNil))) (gTup K 2 (gCons (gName 5) (gCons (gName 6) gNil))) tYes te [5, 6]) tNil))) D [some (.int (n : Int)), some y, some z, none, none, none, none] H := by
  have gg : ∀ r ∈ [rs, ss], Good n r := fun r hr => by
    rcases List.mem_cons.mp hr with rfl | hr
    · exact hg
    · rw [List.mem_singleton.mp hr]; exact hg'
  refine sAsgUn2 (K := K) (nCall (da2 (dVar rfl (.int (n : Int))) (nLst (da2 (dVar (v := y) rfl hy) (dVar (v := z) rfl hz)) (by show 2 ≤ 100000; decide)).asD) ⟨n, [rs, ss], rfl, hn1, hn64, by show 2 ≤ 100; decide, gg, rfl⟩).asD fun u v H1 e1 hu hv => ?_
  have N := nLc (K := K) (σ := [some (.int (n : Int)), some y, some z, some u, some v, none, none]) (H := H1) (wi := iZip K (tCons (tVar 3) (tCons (tVar 4) tNil))) (g := gTup K 2 (gCons (gName 5) (gCons (gName 6) gNil))) (tt := tYes) (te := te) (vs := [5, 6]) (fun _ => true) (fun i => .bool (op (memB rs i) (memB ss i))) (by rw [bls_len]; omega) (wkZip (ev_var (v := u) rfl) hu (ev_var (v := v) rfl) hv (by rw [bls_len, bls_len])).asN (fun Dl i x H3 hi e3 hd => by
    rw [bls_len] at hi
    rw [getD_bls _ hi, getD_bls _ hi] at hd
    refine ⟨[some (.int (n : Int)), some y, some z, some u, some v, some (.bl (memB rs i)), some (.bl (memB ss i))], fun Q q => gPair hd fun y1 z1 hy1 hz1 => ?_, rfl, et_yes, fun _ => (bD (he _ _ _ _ rfl rfl)).x rfl⟩
    cases dpBool hy1
    cases dpBool hz1
    exact q)
  rw [bls_len, outs_all] at N
  refine sRetN (nCall (da1 N.asD) ⟨n, fun k => op (memB rs k) (memB ss k), rfl, hn64, rfl⟩) ?_
  rw [hrt]
  exact q.ex e1
end

/-! ### the law's own draws -/
structure DOk (s : List Int) : Prop where
  ex : ∃ a b r, s = a :: b :: r ∧ 0 ≤ a ∧ 0 ≤ b ∧ ∀ x ∈ r, 0 < x
/-- the draws stand at d -/
def DSt (H : Hp) (d : Addr) : Prop := ∃ s : List Int, H d = some (.lst (s.map V.int)) ∧ DOk s ∧ s.length ≤ 100
/-- what a call that draws may do -/
structure Dk (d : Addr) (H H' : Hp) : Prop where
  st : DSt H' d
  ex : Ex (rm H d) (rm H' d)
theorem Dk.refl {d : Addr} {H : Hp} (h : DSt H d) : Dk d H H := ⟨h, Ex.refl _⟩
theorem Dk.trans {d : Addr} {H H1 H2 : Hp} (a : Dk d H H1) (b : Dk d H1 H2) : Dk d H H2 := ⟨b.st, a.ex.trans b.ex⟩
theorem Dk.of {d : Addr} {H H1 : Hp} (h : DSt H d) (e : Ex H H1) : Dk d H H1 := by
  obtain ⟨s, h1, h2, h3⟩ := h
  exact ⟨⟨s, e d _ h1, h2, h3⟩, rmMono e⟩
theorem Dk.fresh {d : Addr} {H H1 : Hp} (a : Dk d H H1) {p : Addr} (h : H1 p = none) : H p = none := by
  obtain ⟨s, h1, _⟩ := a.st
  have hp : p ≠ d := fun z => by rw [z, h1] at h; cases h
  have q := fresh_back a.ex (p := p) (by rw [rmNe hp]; exact h)
  rw [rmNe hp] at q
  exact q
theorem Dk.keep {d : Addr} {H H1 : Hp} (a : Dk d H H1) {p : Addr} {o : HO} (hp : p ≠ d) (h : H p = some o) : H1 p = some o := by
  have q := a.ex p o (by rw [rmNe hp]; exact h)
  rw [rmNe hp] at q
  exact q
theorem DSt.ne {H : Hp} {d p : Addr} (h : DSt H d) (hp : H p = none) : p ≠ d := fun z => by
  obtain ⟨s, h1, _⟩ := h
  rw [z, h1] at hp; cases hp
theorem DSt.ne' {H : Hp} {d p : Addr} (h : DSt H d) (hp : H p = some (.lst [])) : p ≠ d := fun z => by
  obtain ⟨s, h1, ⟨a, b, r, e, _⟩, _⟩ := h
  rw [z, h1, e] at hp; cases hp
def diceF (k : Int) (ns : List Int) : Int := ns.foldl (fun a c => (a * 31 + (if c < 0 then -c else c)) % 2147483647) k
theorem diceF_nn {k : Int} (hk : 0 ≤ k ∧ k < 2147483647) : ∀ ns : List Int, 0 ≤ diceF k ns ∧ diceF k ns < 2147483647 := by
  intro ns
  induction ns generalizing k with
  | nil => exact hk
  | cons c r ih =>
    refine ih (k := (k * 31 + (if c < 0 then -c else c)) % 2147483647) ⟨?_, ?_⟩
    · exact Int.emod_nonneg _ (by decide)
    · exact Int.emod_lt_of_pos _ (by decide)
def big (ns : List Int) : List Int := ns.filter fun c => decide ((10 : Int) ^ 18 ≤ c)
theorem dice_ok {k : Int} (hk : 0 ≤ k ∧ k < 2147483647) (ns : List Int) : DOk (diceF k ns :: 0 :: big ns) :=
  ⟨_, _, _, rfl, (diceF_nn hk ns).1, Int.le_refl 0, fun x hx => by
    have h := of_decide_eq_true (List.mem_filter.mp hx).2
    have : (0 : Int) < 10 ^ 18 := by decide
    omega⟩
theorem nCat {K : PySem.W.Frag} {σ : L2.St} {H : Hp} {ta tb : TE} {ds es : List PyData} (ha : EvN K ta σ H ds) (hb : EvN K tb σ H es) (hl : ds.length + es.length ≤ 100000) : EvN K (tOp rCat ta tb) σ H (ds ++ es) := fun H1 e Q q =>
  ha H1 e _ fun l xs H2 hl' e2 h2 a2 => hb H2 (e.trans e2) _ fun b zs H3 hb' e3 h3 a3 => ⟨l, b, xs, zs, rfl, rfl, e3 l _ h2, h3, sz_of (by rw [allLen a2, allLen a3]; exact hl), fun p hp =>
    q p _ _ (fresh_back (e2.trans e3) hp) ((e2.trans e3).trans (Ex.new hp)) upd_same (monoA (Ex.new hp) (allApp (monoA e3 a2) a3))⟩
theorem outs_map (f : Int → Bool) : ∀ ns : List Int, outs ns.length (fun i => f (ns.getD i 0)) (fun i => .int (ns.getD i 0)) = (ns.filter f).map PyData.int := by
  intro ns
  have key : ∀ ns : List Int, ((List.range ns.length).filter (fun i => f (ns.getD i 0))).map (fun i => ns.getD i 0) = ns.filter f := by
    intro ns
    induction ns with
    | nil => rfl
    | cons x r ih =>
      rw [List.length_cons, List.range_succ_eq_map, List.filter_cons, List.filter_map]
      have e : (List.filter ((fun i => f ((x :: r).getD i 0)) ∘ Nat.succ) (List.range r.length)) = List.filter (fun i => f (r.getD i 0)) (List.range r.length) := rfl
      rw [e]
      have e2 : ((List.filter (fun i => f (r.getD i 0)) (List.range r.length)).map Nat.succ).map (fun i => (x :: r).getD i 0) = r.filter f := by
        rw [List.map_map, ← ih]; rfl
      by_cases c : f x = true
      · rw [if_pos (show f ((x :: r).getD 0 0) = true from c), List.map_cons, e2, List.filter_cons, if_pos c]; rfl
      · rw [if_neg (show ¬ f ((x :: r).getD 0 0) = true from c), e2, List.filter_cons, if_neg c]
  unfold outs
  rw [← key ns, List.map_map]; rfl
theorem getD_int {ns : List Int} {i : Nat} (h : i < ns.length) : (ns.map PyData.int).getD i .none = .int (ns.getD i 0) := by
  rw [getD_map PyData.int (List.getElem?_eq_getElem h), getD_at 0 h]
section
variable {P : Program} {w : World} {K : PySem.W.Frag} {mg : Str → Option Value} {base : Heap}
def RDice : List PyData → List PyData → Prop := fun ds out => ∃ (ns : List Int) (k : Int), ds = [.list (ns.map PyData.int), .int k] ∧ ns.length ≤ 63 ∧ 0 ≤ k ∧ k < 2147483647 ∧ out = (diceF k ns :: 0 :: big ns).map PyData.int
theorem ok_dice {f : Addr} {fd : FuncData} {k : Nat} (F : Fun K "_law_dice" "_law_dice" sLawDice f fd) (ma : mg "abs" = none) : FnOk P w K mg base CX0 (k + 1) f fd ["_law_script", "_law_k"] (spN K RDice) := by
  refine F.ok scLawDice (fun vs H Q E h => ?_) (fun cdv A outer s H vs Q E hr h => ?_)
  · obtain ⟨ds, out, ha, ⟨n, rs, rfl, _⟩, _⟩ := h
    exact allLen ha
  · obtain ⟨ds, out, ha, ⟨ns, kk, rfl, hl, hk0, hk1, rfl⟩, q⟩ := h
    obtain ⟨y, x, rfl, hy, hx⟩ := all2 ha
    cases dpInt hx
    have nd := scLawDice.nd
    refine ⟨_, pss_cons (ps_set (i := 2) nd rfl (.inl rfl) (pv 1))
      (pss_cons (ps_for PassesOwn.never rfl (pi_list (pv 0)) (pg_name (i := 3) nd rfl (.inl rfl))
        (pss_one (ps_set (i := 2) nd rfl (.inl rfl) (pe_op op_mod (pe_op op_add (pe_op op_mul (pv 2) pe_int) (pe_callB call_abs (by rfl) ma (by decide +kernel) (pa_cons (pv 3) pa_nil))) pe_int))))
      (pss_one (ps_ret (pe_op op_cat (pe_lst (pa_cons (pv 2) (pa_cons pe_int pa_nil))) (pe_lc (own := [("_law_cell", 3)]) (g := gName 3) (tt := tTest (tOp (rI0 fun i j => .bl (decide (j ≤ i))) (tVar 3) (tOp (rI CPow fun i j => .int (i ^ j.toNat)) (tC (.int 10)) (tC (.int 18))))) rfl nd (pi_list (pv 0)) (blkOk_by (own := [("_law_cell", 3)]) (N := nLawDice) (sc := defScope sLawDice) (by decide +kernel))
        (fun _ _ _ _ _ => pg_name (i := 3) nd rfl (Or.inl rfl)) (fun _ _ _ _ _ => pts_one (pt_cmpR op_ge (pv 3) (pe_op op_pow pe_int pe_int) (nomark _))) (fun _ _ _ _ _ => pv 3)))))), ?_⟩
    refine s_asg (ev_var (v := .int kk) rfl) fun H1 e1 => ?_
    refine sFor (B := H) e1 (wkList (ev_var (v := y) rfl) hy) (fun i σ' H' => Ex H H' ∧ ∃ a, σ' = [some y, some (.int kk), some (.int (diceF kk (ns.take i))), a]) (fun H2 e => ⟨e1.trans e, none, rfl⟩) (fun i σ' H' _ p => p.1) (fun i x σ' H' H'' hi p e hd => ?_) (fun σ' H' p => ?_)
    · obtain ⟨e0, a, rfl⟩ := p
      rw [List.length_map] at hi
      rw [getD_int hi] at hd
      cases dpInt hd
      refine s_asg (ev_op (ev_op (x := .int (diceF kk (ns.take i) * 31)) (y := .int (if ns.getD i 0 < 0 then -ns.getD i 0 else ns.getD i 0)) (ev_op (ev_var (v := .int (diceF kk (ns.take i))) rfl) ev_c (rv_I (.inr ⟨by decide, by decide⟩))) (fun H3 _ Q q => ⟨_, rfl, _, rfl, q H3 (Ex.refl H3)⟩) rv_I0) ev_c (rv_I (by decide))) fun H3 e3 => ⟨(e0.trans e).trans e3, some (.int (ns.getD i 0)), ?_⟩
      rw [List.take_add_one, List.getElem?_eq_getElem hi, getD_at 0 hi]
      unfold diceF
      rw [List.foldl_append]; rfl
    · obtain ⟨e0, a, rfl⟩ := p
      have N := nLc (K := K) (σ := [some y, some (.int kk), some (.int (diceF kk ns)), a]) (H := H') (wi := iList K (tVar 0)) (g := gName 3) (tt := tTest (tOp (rI0 fun i j => .bl (decide (j ≤ i))) (tVar 3) (tOp (rI CPow fun i j => .int (i ^ j.toNat)) (tC (.int 10)) (tC (.int 18))))) (te := tVar 3) (vs := [3]) (fun i => decide ((10 : Int) ^ 18 ≤ ns.getD i 0)) (fun i => .int (ns.getD i 0)) (by rw [List.length_map]; omega) (wkList (ev_var (v := y) rfl) (SB.mono e0 hy)).asN (fun Dl i x H3 hi e3 hd => by
        rw [List.length_map] at hi
        rw [getD_int hi] at hd
        cases dpInt hd
        exact ⟨_, fun Q q => q, rfl, et_test (ev_op (ev_var (v := .int (ns.getD i 0)) rfl) (ev_op (z := .int ((10 : Int) ^ 18)) ev_c ev_c (rv_I ⟨by decide, by decide, by decide⟩)) rv_I0), fun _ => (dVar (d := .int (ns.getD i 0)) rfl (.int _)).x rfl⟩)
      rw [List.length_map, outs_map (fun c => decide ((10 : Int) ^ 18 ≤ c))] at N
      rw [List.length_map, List.take_length]
      refine sRetN (nCat (nLst (da2 (dVar (v := .int (diceF kk ns)) rfl (.int _)) dInt) (by show 2 ≤ 100000; decide)) N ?_) (q.ex e0)
      have : (ns.filter (fun c => decide ((10 : Int) ^ 18 ≤ c))).length ≤ ns.length := List.length_filter_le _ _
      rw [List.length_map]
      show 2 + _ ≤ 100000
      omega
end

section
variable {P : Program} {w : World} {K : PySem.W.Frag} {mg : Str → Option Value} {base : Heap}
/-! ### _law_off -/
def spOff : Sp := fun vs H Q _ => ∃ (d : Addr) (m : Int), vs = [.ref d, .int m] ∧ DSt H d ∧ 0 < m ∧ m < 1000000 ∧ ∀ r H', 0 ≤ r → r < m → Dk d H H' → Q (.int r) H'
theorem dk_upd {d : Addr} {H H1 : Hp} {s : List Int} (e : Ex (rm H d) (rm H1 d)) (ok : DOk s) (hl : s.length ≤ 100) : Dk d H (upd H1 d (.lst (s.map V.int))) :=
  ⟨⟨s, upd_same, ok, hl⟩, by rw [rmUpd]; exact e⟩
theorem at0 {a b : Int} {r : List Int} : atI ((a :: b :: r).map V.int) 0 = some (.int a) := atI_nat (j := 0) rfl
theorem at1 {a b : Int} {r : List Int} : atI ((a :: b :: r).map V.int) 1 = some (.int b) := atI_nat (j := 1) rfl
theorem ok_off {f : Addr} {fd : FuncData} {k : Nat} (F : Fun K "_law_off" "_law_off" sLawOff f fd) (ml : mg "len" = none) : FnOk P w K mg base CX0 (k + 1) f fd ["_law_d", "_law_most"] spOff := by
  refine F.ok scLawOff (fun vs H Q E h => ?_) (fun cdv A outer s H vs Q E hr h => ?_)
  · obtain ⟨d, m, rfl, _⟩ := h
    rfl
  · obtain ⟨d, m, rfl, ⟨s0, hd, ok, hl⟩, hm0, hm1, q⟩ := h
    obtain ⟨a, b, r, rfl, ha, hb, hr'⟩ := ok.ex
    have nd := scLawOff.nd
    refine ⟨_, pss_cut (ps_if (PW.pt (pw_and (pt_cmpR op_eq (pe_ix ix_list (pv 0) pe_int (fun _ _ => rfl)) pe_int (nomark _)) (pw_and1 (pt_cmpR op_gt (pe_callB call_len_seq (by rfl) ml PySem.boot_len (pa_cons (pv 0) pa_nil)) pe_int (nomark _)))))
        (pss_one (ps_asg (pe_bm PySem.F.plainAttrs_list PySem.F.slot_list_pop PySem.F.type_list_pop mt_popAt (pv 0) (pa_cons pe_int pa_nil)) (pg_sub (pv 0) pe_int set_list))) pss_nil)
      (pss_cons (ps_if (pt_cmpR op_gt (pe_ix ix_list (pv 0) pe_int (fun _ _ => rfl)) pe_int (nomark _))
        (pss_cons (ps_set (i := 2) nd rfl (.inl rfl) (pe_op op_mod (pe_ix ix_list (pv 0) pe_int (fun _ _ => rfl)) (pv 1)))
        (pss_cons (ps_asg (pe_op op_fdiv (pe_ix ix_list (pv 0) pe_int (fun _ _ => rfl)) (pv 1)) (pg_sub (pv 0) pe_int set_list)) (pss_one (ps_ret (pv 2))))) pss_nil)
      (pss_cons (ps_asg (pe_op op_mod (pe_op op_add (pe_op op_mul (pe_ix ix_list (pv 0) pe_int (fun _ _ => rfl)) pe_int) pe_int) pe_int) (pg_sub (pv 0) pe_int set_list))
      (pss_one (ps_ret (pe_op op_mod (pe_op op_fdiv (pe_ix ix_list (pv 0) pe_int (fun _ _ => rfl)) pe_int) (pv 1)))))), ?_⟩
    refine ⟨fun σ' H' => σ' = [some (.ref d), some (.int m), none] ∧ Dk d H H', ?_, fun σ' H1 hM => ?_⟩
    · -- if d[1] == 0 and len(d) > 2
      have dk0 : Dk d H H := Dk.refl ⟨_, hd, ok, hl⟩
      refine ⟨.ref d, rfl, d, _, 1, .int b, rfl, rfl, SqL.of hd, at1, rfl, _, rfl, ite2 (fun c => ?_) (fun c => ?_)⟩
      · refine ⟨.ref d, rfl, d, _, rfl, .inl (SqL.of hd), _, _, rfl, rfl, _, rfl, ite2 (fun c2 => ?_) (fun c2 => ?_)⟩
        · have hlen : 2 < (a :: b :: r).length := by
            have := of_decide_eq_true c2
            rw [List.length_map] at this
            omega
          obtain ⟨x, r', rfl⟩ : ∃ x r', r = x :: r' := by
            cases r with
            | nil => simp at hlen
            | cons x r' => exact ⟨x, r', rfl⟩
          refine ⟨.ref d, rfl, .inl ⟨rfl, _, SqL.of hd⟩, d, _, 2, 2, .int x, rfl, rfl, hd, by decide, by decide, (ixN_seq (ixN_nat (j := 2) (by rw [List.length_map]; exact hlen))).1, rfl, ?_⟩
          refine ⟨.ref d, rfl, d, _, 1, 1, rfl, rfl, upd_same, ixN_nat (j := 1) (by show 1 < (r'.map V.int).length + 1 + 1; omega), ?_⟩
          refine ⟨rfl, ?_⟩
          rw [upd_upd]
          refine dk_upd (s := a :: x :: r') (Ex.refl _) ⟨a, x, r', rfl, ha, Int.le_of_lt (hr' x List.mem_cons_self), fun z hz => hr' z (List.mem_cons_of_mem _ hz)⟩ (by simp only [List.length_cons] at hl ⊢; omega)
        · exact ⟨rfl, dk0⟩
      · exact iteF ⟨rfl, dk0⟩
    · obtain ⟨rfl, D1⟩ := hM
      obtain ⟨⟨s1, hd1, ok1, hl1⟩, ex1⟩ := D1
      obtain ⟨a, b, r, rfl, ha, hb, hr'⟩ := ok1.ex
      refine ⟨.ref d, rfl, d, _, 1, .int b, rfl, rfl, SqL.of hd1, at1, _, _, rfl, rfl, _, rfl, ite2 (fun c => ?_) (fun c => ?_)⟩
      · have hb0 : 0 < b := of_decide_eq_true c
        refine ⟨.ref d, rfl, d, _, 1, .int b, rfl, rfl, SqL.of hd1, at1, .int m, rfl, b, m, rfl, rfl, hm0, ?_⟩
        refine ⟨.ref d, rfl, d, _, 1, .int b, rfl, rfl, SqL.of hd1, at1, .int m, rfl, b, m, rfl, rfl, ⟨hm0, by omega⟩, ?_⟩
        refine ⟨.ref d, rfl, d, _, 1, 1, rfl, rfl, hd1, ixN_nat (j := 1) (by show 1 < (r.map V.int).length + 1 + 1; omega), ?_⟩
        refine ⟨.int (b % m), rfl, q _ _ (Int.emod_nonneg _ (by omega)) (Int.emod_lt_of_pos _ hm0) ?_⟩
        exact dk_upd (s := a :: (b / m) :: r) ex1 ⟨a, b / m, r, rfl, ha, Int.ediv_nonneg hb (by omega), hr'⟩ hl1
      · refine ⟨.ref d, rfl, d, _, 0, .int a, rfl, rfl, SqL.of hd1, at0, a, 48271, rfl, rfl, .inr ⟨by decide, by decide⟩, a * 48271, 11, rfl, rfl, a * 48271 + 11, 2147483647, rfl, rfl, (show (0 : Int) < 2147483647 by decide), ?_⟩
        refine ⟨.ref d, rfl, d, _, 0, 0, rfl, rfl, hd1, ixN_nat (j := 0) (by show 0 < (r.map V.int).length + 1 + 1; omega), ?_⟩
        refine ⟨.ref d, rfl, d, ((a * 48271 + 11) % 2147483647 :: b :: r).map V.int, 0, .int ((a * 48271 + 11) % 2147483647), rfl, rfl, SqL.of upd_same, at0, (a * 48271 + 11) % 2147483647, 64, rfl, rfl, ⟨by decide, by decide⟩, .int m, rfl, (a * 48271 + 11) % 2147483647 / 64, m, rfl, rfl, hm0, ?_⟩
        refine q _ _ (Int.emod_nonneg _ (by omega)) (Int.emod_lt_of_pos _ hm0) ?_
        exact dk_upd (s := (a * 48271 + 11) % 2147483647 :: b :: r) ex1 ⟨_, b, r, rfl, Int.emod_nonneg _ (by decide), hb, hr'⟩ hl1
end

/-! ### _law_size, _law_set -/
theorem offCall {d : Addr} {m : Int} {j : Nat} {te : TE} {σ : L2.St} {H : Hp} {Q : VK} (h0 : σ[j]? = some (some (.ref d))) (ht : ∀ Q : VK, Q (.int m) H → te σ H Q) (hd : DSt H d) (hm : 0 < m ∧ m < 1000000)
    (k : ∀ r H', 0 ≤ r → r < m → Dk d H H' → Q (.int r) H') : tCall spOff [] E0 (tCons (tVar j) (tCons te tNil)) σ H Q :=
  ⟨.ref d, h0, ht _ ⟨d, m, rfl, hd, hm.1, hm.2, k⟩⟩
theorem small_at {xs : List Int} {r : Int} (h0 : 0 ≤ r) (h1 : r < xs.length) : atI (xs.map V.int) r = some (.int (xs.getD r.toNat 0)) := by
  obtain ⟨j, rfl⟩ : ∃ j : Nat, r = (j : Int) := ⟨r.toNat, by omega⟩
  have hj : j < xs.length := by omega
  rw [Int.toNat_natCast]
  refine atI_nat ?_
  rw [List.getElem?_map, List.getElem?_eq_getElem hj, getD_at 0 hj]; rfl
section
variable {P : Program} {w : World} {K : PySem.W.Frag} {mg : Str → Option Value} {base : Heap}
def spSize : Sp := fun vs H Q _ => ∃ d : Addr, vs = [.ref d] ∧ DSt H d ∧ ∀ (n : Nat) H', 1 ≤ n → n ≤ 64 → Dk d H H' → Q (.int (n : Int)) H'
theorem ok_lsize {f f1 : Addr} {fd fd1 : FuncData} {k : Nat} (F : Fun K "_law_size" "_law_size" sLawSize f fd)
    (F1 : FnOk P w K mg base CX0 (k + 1) f1 fd1 ["_law_d", "_law_most"] spOff) (g1 : mg "_law_off" = some (.ref f1)) (k1 : PySem.W.keepIn K (.ref f1) = true) (b1 : Binds K fd1 ["_law_d", "_law_most"] []) : FnOk P w K mg base CX0 (k + 2) f fd ["_law_d"] spSize := by
  refine F.ok scLawSize (fun vs H Q E h => ?_) (fun cdv A outer s H vs Q E hr h => ?_)
  · obtain ⟨d, rfl, _⟩ := h
    rfl
  · obtain ⟨d, rfl, hd, q⟩ := h
    refine ⟨_, pss_one (ps_ret (pe_ix ix_list (pe_lst (pa_cons pe_int (pa_cons pe_int (pa_cons pe_int (pa_cons (pe_op op_add pe_int (pe_call F1 hr (by rfl) g1 k1 b1 .nil pass0 (pa_cons (pv 0) (pa_cons pe_int pa_nil)))) pa_nil)))))
      (pe_call F1 hr (by rfl) g1 k1 b1 .nil pass0 (pa_cons (pv 0) (pa_cons pe_int pa_nil))) (fun _ _ => rfl))), ?_⟩
    refine offCall (d := d) (m := 64) rfl (fun Q q => q) hd (by decide) fun r H1 hr0 hr1 D1 => ⟨1, r, rfl, rfl, by show 4 ≤ sizeLine; decide, fun p hp => ?_⟩
    have D2 := D1.trans (Dk.of D1.st (Ex.new (o := .lst [.int 8, .int 20, .int 64, .int (1 + r)]) hp))
    refine offCall (d := d) (m := 4) rfl (fun Q q => q) D2.st (by decide) fun r2 H3 hs0 hs1 D3 => ?_
    have hpd : p ≠ d := D1.st.ne hp
    refine ⟨p, ([8, 20, 64, 1 + r] : List Int).map V.int, r2, _, rfl, rfl, SqL.of (D3.keep hpd upd_same), small_at hs0 hs1, ?_⟩
    have D := D2.trans D3
    obtain ⟨j, rfl⟩ : ∃ j : Nat, r2 = (j : Int) := ⟨r2.toNat, by omega⟩
    obtain ⟨i, rfl⟩ : ∃ i : Nat, r = (i : Int) := ⟨r.toNat, by omega⟩
    rw [Int.toNat_natCast]
    have hj : j < 4 := by omega
    match j, hj with
    | 0, _ => exact q 8 H3 (by decide) (by decide) D
    | 1, _ => exact q 20 H3 (by decide) (by decide) D
    | 2, _ => exact q 64 H3 (by decide) (by decide) D
    | 3, _ =>
      have z := q (1 + i) H3 (by omega) (by omega) D
      rw [Int.natCast_add] at z
      exact z
def spLSet (K : PySem.W.Frag) : Sp := fun vs H Q _ => ∃ (d : Addr) (n m : Nat), vs = [.ref d, .int (n : Int), .int (m : Int)] ∧ DSt H d ∧ 1 ≤ n ∧ n ≤ 64 ∧ m ≤ 40 ∧
  ∀ (rs : List (Nat × Nat)) p xs H', rs.length ≤ m → (∀ r ∈ rs, r.1 ≤ r.2 ∧ r.2 < n) → H p = none → Dk d H H' → H' p = some (.lst xs) → DpAll K (rm H' d) xs (rs.map rD) → Q (.ref p) H'
theorem ok_lset {f f1 : Addr} {fd fd1 : FuncData} {k : Nat} (F : Fun K "_law_set" "_law_set" sLawSet f fd)
    (F1 : FnOk P w K mg base CX0 (k + 1) f1 fd1 ["_law_d", "_law_most"] spOff) (g1 : mg "_law_off" = some (.ref f1)) (k1 : PySem.W.keepIn K (.ref f1) = true) (b1 : Binds K fd1 ["_law_d", "_law_most"] [])
    (mr : mg "range" = none) (mm : mg "min" = none) : FnOk P w K mg base CX0 (k + 2) f fd ["_law_d", "_law_size_here", "_law_most"] (spLSet K) := by
  refine F.ok scLawSet (fun vs H Q E h => ?_) (fun cdv A outer s H vs Q E hr h => ?_)
  · obtain ⟨d, n, m, rfl, _⟩ := h
    rfl
  · obtain ⟨d, n, m, rfl, hd, hn1, hn64, hm, q⟩ := h
    have nd := scLawSet.nd
    refine ⟨_, pss_cons (ps_set (i := 3) nd rfl (.inl rfl) (pe_ix ix_list (pe_lst (pa_cons pe_int (pa_cons pe_int (pa_cons (pv 1) pa_nil)))) (pe_call F1 hr (by rfl) g1 k1 b1 .nil pass0 (pa_cons (pv 0) (pa_cons pe_int pa_nil))) (fun _ _ => rfl)))
      (pss_cons (ps_set (i := 4) nd rfl (.inl rfl) (pe_lst pa_nil))
      (pss_cons (ps_for PassesOwn.never rfl (pi_range1 (by rfl) mr (pa_cons (pe_call F1 hr (by rfl) g1 k1 b1 .nil pass0 (pa_cons (pv 0) (pa_cons (pe_op op_add (pv 2) pe_int) pa_nil))) pa_nil)) (pg_name (i := 5) nd rfl (.inl rfl))
        (pss_cons (ps_set (i := 6) nd rfl (.inl rfl) (pe_call F1 hr (by rfl) g1 k1 b1 .nil pass0 (pa_cons (pv 0) (pa_cons (pv 1) pa_nil))))
        (pss_one (ps_expr (pe_bm PySem.F.plainAttrs_list PySem.F.slot_list_append PySem.F.type_list_append mt_append (pv 4) (pa_cons (pe_tup (pa_cons (pv 6) (pa_cons
          (pe_callB (call_min2 rfl) (by rfl) mm (by decide +kernel) (pa_cons (pe_op op_sub (pv 1) pe_int) (pa_cons (pe_op op_add (pv 6) (pe_call F1 hr (by rfl) g1 k1 b1 .nil pass0 (pa_cons (pv 0) (pa_cons (pv 3) pa_nil)))) pa_nil))) pa_nil))) pa_nil))))))
      (pss_one (ps_ret (pv 4))))), ?_⟩
    refine ⟨.int (n : Int), rfl, by show 3 ≤ sizeLine; decide, fun p hp => ?_⟩
    have D1 := Dk.of hd (Ex.new (o := .lst [.int 1, .int 3, .int (n : Int)]) hp)
    refine offCall (d := d) (m := 3) rfl (fun Q q => q) D1.st (by decide) fun r H2 hr0 hr1 D2 => ?_
    refine ⟨p, ([1, 3, (n : Int)] : List Int).map V.int, r, _, rfl, rfl, SqL.of (D2.keep (hd.ne hp) upd_same), small_at hr0 hr1, ?_⟩
    have D := D1.trans D2
    obtain ⟨v, hv, hv1, hv2⟩ : ∃ v : Int, ([1, 3, (n : Int)] : List Int).getD r.toNat 0 = v ∧ 0 < v ∧ v < 1000000 := by
      obtain ⟨j, rfl⟩ : ∃ j : Nat, r = (j : Int) := ⟨r.toNat, by omega⟩
      rw [Int.toNat_natCast]
      have hj : j < 3 := by omega
      match j, hj with
      | 0, _ => exact ⟨1, rfl, by decide, by decide⟩
      | 1, _ => exact ⟨3, rfl, by decide, by decide⟩
      | 2, _ => exact ⟨(n : Int), rfl, by omega, by omega⟩
    rw [hv]
    refine ⟨Nat.zero_le _, fun l hl => ?_⟩
    have hl0 : H l = none := D.fresh hl
    have hld : l ≠ d := hd.ne hl0
    have D3 := D.trans (Dk.of D.st (Ex.new (o := .lst []) hl))
    have h3 : (upd H2 l (.lst [])) l = some (.lst []) := upd_same
    generalize upd H2 l (.lst []) = H3 at D3 h3 ⊢
    refine offCall (d := d) (m := (m : Int) + 1) rfl (fun Q q => ⟨.int (m : Int), rfl, (m : Int), 1, rfl, rfl, q⟩) D3.st ⟨by omega, by omega⟩ fun t H4 ht0 ht1 D4 => ⟨t, rfl, by omega, by omega, ?_⟩
    refine for_range (lo := 0) (n := t.toNat) (fun i σ' H' => Dk d H H' ∧ (∃ (acc : List V) (rs : List (Nat × Nat)), rs.length = i ∧ (∀ r ∈ rs, r.1 ≤ r.2 ∧ r.2 < n) ∧ H' l = some (.lst acc) ∧ DpAll K (rm (rm H' d) l) acc (rs.map rD)) ∧ ∃ a b, σ' = [some (.ref d), some (.int (n : Int)), some (.int (m : Int)), some (.int v), some (.ref l), a, b]) ⟨D3.trans D4, ⟨[], [], rfl, fun _ h => by simp at h, D4.keep hld h3, .nil⟩, none, none, rfl⟩ (fun i σ' H5 hi p => ?_) (fun σ' H5 p => ?_)
    · obtain ⟨D5, ⟨acc, rs, hrl, hrs, h5, hA⟩, a, b, rfl⟩ := p
      refine offCall (d := d) (m := (n : Int)) rfl (fun Q q => ⟨.int (n : Int), rfl, q⟩) D5.st ⟨by omega, by omega⟩ fun x H6 hx0 hx1 D6 => ?_
      refine ⟨.ref l, rfl, .inl ⟨rfl, _, SqL.of (D6.keep hld h5)⟩, .int x, rfl, .int (n : Int), rfl, (n : Int), 1, rfl, rfl, .int x, rfl, ?_⟩
      refine offCall (d := d) (m := v) rfl (fun Q q => ⟨.int v, rfl, q⟩) D6.st ⟨hv1, hv2⟩ fun y H7 hy0 hy1 D7 => ⟨x, y, rfl, rfl, (n : Int) - 1, x + y, rfl, by show 2 ≤ sizeLine; decide, fun T hT => ?_⟩
      have D56 := D6.trans D7
      have h7 : H7 l = some (.lst acc) := D56.keep hld h5
      have hTl : T ≠ l := Ne.symm (ne_of_none h7 hT)
      have hTd : T ≠ d := D7.st.ne hT
      obtain ⟨z, hz, hz1, hz2⟩ : ∃ z : Nat, (if x + y < (n : Int) - 1 then x + y else (n : Int) - 1) = (z : Int) ∧ x ≤ (z : Int) ∧ z < n := by
        by_cases c : x + y < (n : Int) - 1
        · exact ⟨(x + y).toNat, by rw [if_pos c]; omega, by omega, by omega⟩
        · exact ⟨n - 1, by rw [if_neg c]; omega, by omega, by omega⟩
      rw [hz]
      refine ⟨l, acc, _, rfl, rfl, ?_, sz_lt ?_, ?_⟩
      · rw [upd_ne (Ne.symm hTl)]; exact h7
      · rw [allLen hA, List.length_map]; omega
      · have D8 := (D5.trans D56).trans (Dk.of D7.st (Ex.new (o := .tup [.int x, .int (z : Int)]) hT))
        refine ⟨⟨?_, ?_⟩, ⟨acc ++ [.ref T], rs ++ [(x.toNat, z)], ?_, ?_, upd_same, ?_⟩, some (.int (0 + (i : Int))), some (.int x), rfl⟩
        · obtain ⟨s', e1, e2, e3⟩ := D8.st
          exact ⟨s', by rw [upd_ne (Ne.symm hld)]; exact e1, e2, e3⟩
        · rw [rmNew hld]
          exact Ex.mut D8.ex (by rw [rmNe hld]; exact hl0)
        · rw [List.length_append, hrl]; rfl
        · intro r hr2
          rcases List.mem_append.mp hr2 with h | h
          · exact hrs r h
          · rw [List.mem_singleton.mp h]
            exact ⟨by show x.toNat ≤ z; omega, hz2⟩
        · rw [rmNew hld, rmUpd, List.map_append]
          have eN : Ex (rm (rm H5 d) l) (rm (rm (upd H7 T (.tup [.int x, .int (z : Int)])) d) l) := rmMono (D56.ex.trans (rmMono (Ex.new hT)))
          refine allApp (monoA eN hA) (.cons (.tup (st_of (xs := [.int x, .int (z : Int)]) ?_) (.cons ?_ (.cons (.int _) .nil))) .nil)
          · rw [rmNe hTl, rmNe hTd, upd_same]
          · show Dp K _ (.int x) (.int ((x.toNat : Nat) : Int))
            rw [Int.toNat_of_nonneg hx0]
            exact .int x
    · obtain ⟨D5, ⟨acc, rs, hrl, hrs, h5, hA⟩, a, b, rfl⟩ := p
      exact ⟨.ref l, rfl, q rs l acc H5 (by omega) hrs hl0 D5 h5 (monoA rmEx hA)⟩
end

/-! ### sets by what is in them -/
theorem canMap {α : Type} {f : α → PyData} (h : ∀ x, (f x).canLay0 = true) : ∀ xs : List α, PyData.canLayAll0 (xs.map f) = true
  | [] => rfl
  | x :: xs => by
    show ((f x).canLay0 && PyData.canLayAll0 (xs.map f)) = true
    rw [h x, canMap h xs]; rfl
theorem depMap {α : Type} {f : α → PyData} {k : Nat} (h : ∀ x, (f x).depth ≤ k) : ∀ xs : List α, PyData.depthAll (xs.map f) ≤ k
  | [] => Nat.zero_le k
  | x :: xs => by
    show max (f x).depth (PyData.depthAll (xs.map f)) ≤ k
    have a := h x
    have b := depMap h xs
    omega
theorem shList {α : Type} {f : α → PyData} (h1 : ∀ x, (f x).canLay0 = true) (h2 : ∀ x, (f x).depth ≤ 10) (xs : List α) : SeqAt.shaped (.list (xs.map f)) = true := by
  have a : (PyData.list (xs.map f)).canLay0 = true := by
    show PyData.canLayAll0 (xs.map f) = true
    exact canMap h1 xs
  have b : (PyData.list (xs.map f)).depth ≤ 64 := by
    show PyData.depthAll (xs.map f) + 1 ≤ 64
    have := depMap h2 xs
    omega
  show ((PyData.list (xs.map f)).canLay0 && decide ((PyData.list (xs.map f)).depth ≤ 64)) = true
  rw [a, decide_eq_true b]; rfl
theorem sh_sD (rs : List (Nat × Nat)) : SeqAt.shaped (sD rs) = true := shList (fun _ => rfl) (fun _ => (by show (1 : Nat) ≤ 10; decide)) rs
theorem eqvSame {d : PyData} (h : SeqAt.shaped d = true) : PyData.eqv d d = true := SeqAt.eqv_refl d (SeqAt.canLay_of_shaped h)
section
variable {K : PySem.W.Frag} {σ : L2.St} {H : Hp} {ta tb ts : TE} {n : Nat} {f g : Nat → Bool}
/-- a set that can be, told by its signs -/
def SetV (K : PySem.W.Frag) (te : TE) (σ : L2.St) (H : Hp) (n : Nat) (f : Nat → Bool) : Prop := ∃ rs, EvD K te σ H (sD rs) ∧ Good n rs ∧ ∀ k, k < n → memB rs k = f k
/-- the fewest ranges of these signs -/
def TellV (K : PySem.W.Frag) (te : TE) (σ : L2.St) (H : Hp) (n : Nat) (f : Nat → Bool) : Prop := EvD K te σ H (sD (told f n))
theorem TellV.s (h : TellV K ta σ H n f) (hn : n ≤ 64) : SetV K ta σ H n f := ⟨_, h, told_good f hn, fun k hk => told_mem f n k hk⟩
theorem TellV.mono {H' : Hp} (e : Ex H H') (h : TellV K ta σ H n f) : TellV K ta σ H' n f := EvD.mono e h
theorem t2 {op : Bool → Bool → Bool} (hs : Ev ts σ H (.int (n : Int))) (ha : SetV K ta σ H n f) (hb : SetV K tb σ H n g) (hn : 1 ≤ n ∧ n ≤ 64) : TellV K (tCall (spN K (R2' op)) [] E0 (tCons ts (tCons ta (tCons tb tNil)))) σ H n (fun k => op (f k) (g k)) := by
  obtain ⟨rs, h1, g1, m1⟩ := ha
  obtain ⟨ss, h2, g2, m2⟩ := hb
  have e : told (fun k => op (f k) (g k)) n = told (fun k => op (memB rs k) (memB ss k)) n := told_congr n fun k hk => by rw [m1 k hk, m2 k hk]
  unfold TellV
  rw [e]
  exact (nCall (daCons (iD hs) (da2 h1 h2)) ⟨n, rs, ss, rfl, hn.1, hn.2, g1, g2, rfl⟩).asD
theorem tPlain (hs : Ev ts σ H (.int (n : Int))) (ha : SetV K ta σ H n f) (hn : 1 ≤ n ∧ n ≤ 64) : TellV K (tCall (spN K RPlain) [] E0 (tCons ts (tCons ta tNil))) σ H n f := by
  obtain ⟨rs, h1, g1, m1⟩ := ha
  have e : told f n = told (memB rs) n := told_congr n fun k hk => (m1 k hk).symm
  unfold TellV
  rw [e]
  exact (nCall (da2 (iD hs) h1) ⟨n, rs, rfl, hn.1, hn.2, g1, rfl⟩).asD
theorem tOthers (hs : Ev ts σ H (.int (n : Int))) (ha : SetV K ta σ H n f) (hn : 1 ≤ n ∧ n ≤ 64) : TellV K (tCall (spN K ROthers) [] E0 (tCons ts (tCons ta tNil))) σ H n (fun k => !f k) := by
  obtain ⟨rs, h1, g1, m1⟩ := ha
  have e : told (fun k => !f k) n = told (fun k => !memB rs k) n := told_congr n fun k hk => by rw [m1 k hk]
  unfold TellV
  rw [e]
  exact (nCall (da2 (iD hs) h1) ⟨n, rs, rfl, hn.1, hn.2, g1, rfl⟩).asD
theorem neT (ha : TellV K ta σ H n f) (hb : TellV K tb σ H n g) (h : ∀ k, k < n → f k = g k) : EvT (tTest (tOp (rNeD K) ta tb)) σ H false := by
  refine et_is (et_test (neD ha hb (sh_sD _) (sh_sD _))) ?_
  rw [told_congr n h, eqvSame (sh_sD _)]; rfl
theorem eqT (ha : TellV K ta σ H n f) (hb : TellV K tb σ H n g) (h : ∀ k, k < n → f k = g k) : Ev (tOp (rEqD K) ta tb) σ H (.bl true) := by
  refine ev_is (eqD ha hb (sh_sD _) (sh_sD _)) ?_
  rw [told_congr n h, eqvSame (sh_sD _)]
/-- xs[:k], xs[::-1] -/
theorem nCut {ds : List PyData} {k : Nat} (ha : EvD K ta σ H (.list ds)) : EvN K (tSl (rSlL K) ta tNoPart (tPart (tC (.int (k : Int))))) σ H (ds.take k) := fun H1 e Q q => ha H1 e _ fun v H2 e2 hd => by
  obtain ⟨a, xs, rfl, hs, hA⟩ := dpList hd
  refine ⟨(k : Int), rfl, a, xs, rfl, hs, fun p hp => ?_⟩
  have ec : cutV xs none (some (k : Int)) = xs.take k := by
    unfold cutV
    rw [HT.sIx_none, HT.sIx_nat, List.drop_zero, Nat.sub_zero]
    by_cases c : k ≤ xs.length
    · rw [Nat.min_eq_left c]
    · rw [Nat.min_eq_right (by omega), List.take_of_length_le (Nat.le_refl _), List.take_of_length_le (by omega)]
  exact q p _ _ (fresh_back e2 hp) (e2.trans (Ex.new hp)) upd_same (by rw [ec]; exact monoA (Ex.new hp) (allTake k hA))
theorem nRev {ds : List PyData} (ha : EvD K ta σ H (.list ds)) : EvN K (tRevL K ta) σ H ds.reverse := fun H1 e Q q => ha H1 e _ fun v H2 e2 hd => by
  obtain ⟨a, xs, rfl, hs, hA⟩ := dpList hd
  exact ⟨a, xs, rfl, hs, fun p hp => q p _ _ (fresh_back e2 hp) (e2.trans (Ex.new hp)) upd_same (monoA (Ex.new hp) (allRev hA))⟩
end
/-- the draws at the start -/
theorem dst_of {K : PySem.W.Frag} {H : Hp} {p : Addr} {xs : List V} {k : Int} {ns : List Int} (hk : 0 ≤ k ∧ k < 2147483647) (hl : ns.length ≤ 63) (h : H p = some (.lst xs)) (ha : DpAll K H xs ((diceF k ns :: 0 :: big ns).map PyData.int)) : DSt H p := by
  refine ⟨_, ?_, dice_ok hk ns, ?_⟩
  · rw [h, intsOfAll ha]
  · have : (big ns).length ≤ ns.length := List.length_filter_le _ _
    show (big ns).length + 1 + 1 ≤ 100
    omega

/-! ### _law_alike -/
mutual
def wide : PyData → Bool
  | .list ds => decide (ds.length ≤ 1000) && wides ds
  | .tuple ds => decide (ds.length ≤ 1000) && wides ds
  | _ => true
def wides : List PyData → Bool
  | [] => true
  | d :: ds => wide d && wides ds
end
theorem wides_at : ∀ {ds : List PyData} {i : Nat} {d : PyData}, wides ds = true → ds[i]? = some d → wide d = true
  | [], i, _, _, e => by simp at e
  | x :: xs, 0, d, h, e => by
    have h' := Bool.and_eq_true_iff.mp h
    simp at e; subst e; exact h'.1
  | x :: xs, i + 1, d, h, e => by
    have h' := Bool.and_eq_true_iff.mp h
    exact wides_at h'.2 (by simpa using e)
theorem dep_at : ∀ {ds : List PyData} {i : Nat} {d : PyData}, ds[i]? = some d → d.depth ≤ PyData.depthAll ds
  | [], i, _, e => by simp at e
  | x :: xs, 0, d, e => by
    simp at e; subst e
    show x.depth ≤ max x.depth (PyData.depthAll xs)
    omega
  | x :: xs, i + 1, d, e => by
    have h : xs[i]? = some d := by simpa using e
    have ih := dep_at h
    show d.depth ≤ max x.depth (PyData.depthAll xs)
    omega
def tyN : PyData → String
  | .none => "NoneType"
  | .bool _ => "bool"
  | .int _ => "int"
  | .str _ => "str"
  | .list _ => "list"
  | .tuple _ => "tuple"
  | .dict _ => "dict"
theorem kb_bool_bool : kitB "bool" "bool" = some true := by decide +kernel
theorem kb_bool_int : kitB "bool" "int" = some true := by decide +kernel
theorem kb_bool_str : kitB "bool" "str" = some false := by decide +kernel
theorem kb_bool_list : kitB "bool" "list" = some false := by decide +kernel
theorem kb_bool_tuple : kitB "bool" "tuple" = some false := by decide +kernel
theorem kb_int_bool : kitB "int" "bool" = some false := by decide +kernel
theorem kb_int_int : kitB "int" "int" = some true := by decide +kernel
theorem kb_int_str : kitB "int" "str" = some false := by decide +kernel
theorem kb_int_list : kitB "int" "list" = some false := by decide +kernel
theorem kb_int_tuple : kitB "int" "tuple" = some false := by decide +kernel
theorem kb_str_bool : kitB "str" "bool" = some false := by decide +kernel
theorem kb_str_int : kitB "str" "int" = some false := by decide +kernel
theorem kb_str_str : kitB "str" "str" = some true := by decide +kernel
theorem kb_str_list : kitB "str" "list" = some false := by decide +kernel
theorem kb_str_tuple : kitB "str" "tuple" = some false := by decide +kernel
theorem kb_list_bool : kitB "list" "bool" = some false := by decide +kernel
theorem kb_list_int : kitB "list" "int" = some false := by decide +kernel
theorem kb_list_str : kitB "list" "str" = some false := by decide +kernel
theorem kb_list_list : kitB "list" "list" = some true := by decide +kernel
theorem kb_list_tuple : kitB "list" "tuple" = some false := by decide +kernel
theorem kb_tuple_bool : kitB "tuple" "bool" = some false := by decide +kernel
theorem kb_tuple_int : kitB "tuple" "int" = some false := by decide +kernel
theorem kb_tuple_str : kitB "tuple" "str" = some false := by decide +kernel
theorem kb_tuple_list : kitB "tuple" "list" = some false := by decide +kernel
theorem kb_tuple_tuple : kitB "tuple" "tuple" = some true := by decide +kernel
section
variable {K : PySem.W.Frag} {σ : L2.St} {H : Hp}
theorem tyx : ∀ {d : PyData} {v : V}, Dp K H v d → TyX K H v (.type (tyN d))
  | .none, _, h => by cases h; exact .base .non
  | .bool b, _, h => by cases h; exact .base (.bl b)
  | .int i, _, h => by cases h; exact .base (.int i)
  | .str x, _, h => by cases h; exact .base (.str x)
  | .list ds, _, h => by
    obtain ⟨a, xs, rfl, hs, _⟩ := dpList h
    rcases hs with (hs | ⟨o, hs⟩) | ⟨o, its, n, hk, hc, _⟩
    · exact .base (.lst hs)
    · exact .base (.frz hs)
    · exact .kList hk hc
  | .tuple ds, _, h => by
    obtain ⟨a, xs, rfl, hs, _⟩ := dpTuple h
    rcases hs with (hs | ⟨o, hs⟩) | ⟨o, its, n, hk, hc, _⟩
    · exact .base (.tup hs)
    · exact .fTuple hs
    · exact .kTuple hk hc
  | .dict _, _, h => by cases h
abbrev tIsi (K : PySem.W.Frag) (j : Nat) (c : String) : TE := tCB (rIsi K) (tCons (tVar j) (tCons (tC (.ty c)) tNil))
theorem isi {j : Nat} {v : V} {d : PyData} {c : String} {b : Bool} (h : σ[j]? = some (some v)) (hd : Dp K H v d) (hk : kitB (tyN d) c = some b) : Ev (tIsi K j c) σ H (.bl b) := fun H1 e Q q =>
  ⟨v, h, v, .ty c, .type (tyN d), .type c, b, rfl, .ty c, tyx (SB.mono e hd), kit_ty hk, q H1 (Ex.refl H1)⟩
theorem lenD {j : Nat} {v : V} {ds : List PyData} {r : List V → Hp → VK → Prop} (h : σ[j]? = some (some v)) (hd : Dp K H v (.list ds) ∨ Dp K H v (.tuple ds)) (hr : r = fun xs H Q => ∃ p ys, xs = [.ref p] ∧ (SqL K H p ys ∨ SqT K H p ys) ∧ Q (.int ys.length) H) : Ev (tCB r (tCons (tVar j) tNil)) σ H (.int (ds.length : Int)) := fun H1 e Q q => by
  subst hr
  rcases hd with hd | hd
  · obtain ⟨a, xs, rfl, hs, ha⟩ := dpList (SB.mono e hd)
    exact ⟨.ref a, h, a, xs, rfl, .inl hs, by rw [allLen ha]; exact q H1 (Ex.refl H1)⟩
  · obtain ⟨a, xs, rfl, hs, ha⟩ := dpTuple (SB.mono e hd)
    exact ⟨.ref a, h, a, xs, rfl, .inr hs, by rw [allLen ha]; exact q H1 (Ex.refl H1)⟩
theorem ixD {j k : Nat} {v : V} {ds : List PyData} {i : Nat} {d : PyData} (h : σ[j]? = some (some v)) (hk : σ[k]? = some (some (.int (i : Nat)))) (hd : Dp K H v (.list ds) ∨ Dp K H v (.tuple ds)) (hi : ds[i]? = some d) : EvD K (tOp (rIx K) (tVar j) (tVar k)) σ H d := fun H1 e Q q => by
  rcases hd with hd | hd
  · obtain ⟨a, xs, rfl, hs, ha⟩ := dpList (SB.mono e hd)
    obtain ⟨x, hx, hdx⟩ := allGet ha hi
    exact ⟨.ref a, h, .int (i : Nat), hk, .inl ⟨a, xs, (i : Nat), x, rfl, rfl, hs, atI_nat hx, q x H1 (Ex.refl H1) hdx⟩⟩
  · obtain ⟨a, xs, rfl, hs, ha⟩ := dpTuple (SB.mono e hd)
    obtain ⟨x, hx, hdx⟩ := allGet ha hi
    exact ⟨.ref a, h, .int (i : Nat), hk, .inr (.inl ⟨a, xs, (i : Nat), x, rfl, rfl, hs, atI_nat hx, q x H1 (Ex.refl H1) hdx⟩)⟩
end
/-- the same data twice: told True -/
def spAlike (K : PySem.W.Frag) (k : Nat) : Sp := fun vs H Q _ => ∃ d, DpAll K H vs [d, d] ∧ wide d = true ∧ d.depth < k ∧ ∀ H', Ex H H' → Q (.bl true) H'
section
variable {P : Program} {w : World} {K : PySem.W.Frag} {mg : Str → Option Value} {base : Heap}
end

/-! ### _law_members, _law_told, _law_others -/
section
variable {K : PySem.W.Frag} {w : World} {σ : L2.St} {H : Hp}
theorem nSorted {ta : TE} {ns out : List Int} (h : EvD K ta σ H (.list (ns.map PyData.int))) (hb : ns.length < 4000) (ho : out.Pairwise (· < ·)) (hm : ∀ k, k ∈ out ↔ k ∈ ns) : EvN K (tCB (SC.rSortS w) (tCons (tCB (SC.rSetI K w) (tCons ta tNil)) tNil)) σ H (out.map PyData.int) := fun H1 e Q q =>
  h H1 e _ fun v H2 e2 hd => by
    obtain ⟨a, xs, rfl, hs, hA⟩ := dpList hd
    have hx := intsOfAll hA
    subst hx
    refine ⟨a, ns, rfl, hs, by show ns.length + 1 < 4096; omega, fun c p hp => ⟨p, _, c, rfl, upd_same, fun ns' q' hs' hm' _ _ hq => ?_⟩⟩
    have eo : ns' = out := sortedInt hs' ho fun k => by rw [hm' k, hm k, decide_eq_true_eq]
    subst eo
    exact q q' _ _ (fresh_back (e2.trans (Ex.new hp)) hq) ((e2.trans (Ex.new hp)).trans (Ex.new hq)) upd_same (allOfInts _)
/-- xs + ys, both tracked -/
theorem nCat2 {ta tb : TE} {l b : Addr} {xs ys : List V} {ds es : List PyData} (ha : Ev ta σ H (.ref l)) (hl : H l = some (.lst xs)) (hA : DpAll K H xs ds) (hb : Ev tb σ H (.ref b)) (hl' : H b = some (.lst ys)) (hB : DpAll K H ys es) (hz : ds.length + es.length ≤ 100000) : EvN K (tOp rCat ta tb) σ H (ds ++ es) := fun H1 e Q q =>
  ha H1 e _ fun H2 e2 => hb H2 (e.trans e2) _ fun H3 e3 => ⟨l, b, xs, ys, rfl, rfl, ((e.trans e2).trans e3) l _ hl, ((e.trans e2).trans e3) b _ hl', sz_of (by rw [allLen hA, allLen hB]; exact hz), fun p hp =>
    q p _ _ (fresh_back (e2.trans e3) hp) ((e2.trans e3).trans (Ex.new hp)) upd_same (allApp (monoA (((e.trans e2).trans e3).trans (Ex.new hp)) hA) (monoA (((e.trans e2).trans e3).trans (Ex.new hp)) hB))⟩
theorem inInts {ns : List Int} {x : Int} : inV (.int x) (ns.map V.int) = decide (x ∈ ns) := by
  induction ns with
  | nil => rfl
  | cons y r ih =>
    show (eqV (.int y) (.int x) || inV (.int x) (r.map V.int)) = _
    rw [ih]
    show ((y == x) || decide (x ∈ r)) = _
    rw [Bool.eq_iff_iff]
    simp only [Bool.or_eq_true, beq_iff_eq, decide_eq_true_eq, List.mem_cons]
    constructor
    · rintro (h | h)
      · exact .inl h.symm
      · exact .inr h
    · rintro (h | h)
      · exact .inl h.symm
      · exact .inr h
theorem flatInts (ns : List Int) : (ns.map V.int).all flatV = true := by
  rw [List.all_map]
  exact List.all_eq_true.mpr fun _ _ => rfl
/-- x in numbers, x not in numbers -/
theorem inD {neg : Bool} {ta tb : TE} {x : Int} {ns : List Int} {v : V} (ha : Ev ta σ H (.int x)) (hb : Ev tb σ H v) (hd : Dp K H v (.list (ns.map PyData.int))) : Ev (tOp (rIn K neg) ta tb) σ H (.bl (if neg then !decide (x ∈ ns) else decide (x ∈ ns))) := fun H1 e Q q =>
  ha H1 e _ fun H2 e2 => hb H2 (e.trans e2) _ fun H3 e3 => by
    obtain ⟨a, xs, rfl, hs, hA⟩ := dpList (SB.mono ((e.trans e2).trans e3) hd)
    have hx := intsOfAll hA
    subst hx
    refine ⟨a, _, rfl, .inl hs, rfl, flatInts ns, ?_⟩
    rw [inInts]
    exact q H3 (e2.trans e3)
end
def msD (ms : List Nat) : List PyData := ms.map iD'
theorem msD_int (ms : List Nat) : msD ms = (ms.map fun k : Nat => (k : Int)).map PyData.int := by unfold msD; rw [List.map_map]; rfl
theorem mem_ints {ms : List Nat} {x : Int} : x ∈ (ms.map fun k : Nat => (k : Int)) ↔ ∃ k : Nat, k ∈ ms ∧ (k : Int) = x := List.mem_map
theorem outs_filter (ms : List Nat) (f : Nat → Bool) : outs ms.length (fun i => f (ms.getD i 0)) (fun i => iD' (ms.getD i 0)) = msD (ms.filter f) := by
  have h := outs_map (fun c => f c.toNat) (ms.map fun k : Nat => (k : Int))
  have e : ∀ i, (ms.map fun k : Nat => (k : Int)).getD i 0 = ((ms.getD i 0 : Nat) : Int) := fun i => by
    rw [List.getD_eq_getElem?_getD, List.getD_eq_getElem?_getD, List.getElem?_map]
    cases ms[i]? <;> rfl
  rw [List.length_map] at h
  have e1 : (fun i => f ((ms.map fun k : Nat => (k : Int)).getD i 0).toNat) = fun i => f (ms.getD i 0) := funext fun i => by rw [e i, Int.toNat_natCast]
  have e2 : (fun i => PyData.int ((ms.map fun k : Nat => (k : Int)).getD i 0)) = fun i => iD' (ms.getD i 0) := funext fun i => by rw [e i]; rfl
  rw [e1, e2] at h
  rw [h, msD_int, List.filter_map]
  rfl
section
variable {P : Program} {w : World} {K : PySem.W.Frag} {mg : Str → Option Value} {base : Heap}
def RMem : List PyData → List PyData → Prop := fun ds o => ∃ (n : Nat) (rs : List (Nat × Nat)), ds = [.int (n : Int), sD rs] ∧ n ≤ 64 ∧ Good n rs ∧ o = msD ((List.range n).filter (memB rs))
theorem ok_lmem {f : Addr} {fd : FuncData} {k : Nat} (F : Fun K "_law_members" "_law_members" sLawMembers f fd) (mL : mg "list" = none) (mr : mg "range" = none) (mso : mg "sorted" = none) (mse : mg "set" = none) : FnOk P w K mg base CX0 (k + 1) f fd ["_law_size_here", "_law_ranges"] (spN K RMem) := by
  refine F.ok scLawMembers (fun vs H Q E h => ?_) (fun cdv A outer s H vs Q E hr h => ?_)
  · obtain ⟨ds, out, ha, ⟨n, rs, rfl, _⟩, _⟩ := h
    exact allLen ha
  · obtain ⟨ds, out, ha, ⟨n, rs, rfl, h64, hg, rfl⟩, q⟩ := h
    obtain ⟨x, y, rfl, hx, hy⟩ := all2 ha
    cases dpInt hx
    have nd := scLawMembers.nd
    refine ⟨_, pss_cons (ps_set (i := 2) nd rfl (.inl rfl) (pe_lst pa_nil))
      (pss_cons (ps_for PassesOwn.never rfl (pi_list (pv 1)) (pg_tup rfl (pgs_cons (pg_name (i := 3) nd rfl (.inl rfl)) (pgs_cons (pg_name (i := 4) nd rfl (.inl rfl)) pgs_nil)))
        (pss_one (ps_set (i := 2) nd rfl (.inl rfl) (pe_op op_cat (pv 2) (pe_listRg rfl (by rfl) mL (prg_2 (by rfl) mr (pv 3) (pe_op op_add (pv 4) pe_int)))))))
      (pss_one (ps_ret (pe_callB (SC.crSortS rfl) (by rfl) mso (by decide +kernel) (pa_cons (pe_callTy (SC.crSetI rfl) (by rfl) mse (by decide +kernel) (pa_cons (pv 2) pa_nil)) pa_nil))))), ?_⟩
    refine ⟨Nat.zero_le _, fun l0 hl0 => ?_⟩
    refine sFor (B := H) (Ex.new hl0) (wkList (ev_var (v := y) rfl) hy) (fun i σ' H' => Ex H H' ∧ ∃ l a b, H' l = some (.lst ((cat (rs.take i)).map V.int)) ∧ σ' = [some (.int (n : Int)), some y, some (.ref l), a, b]) (fun H2 e => ⟨(Ex.new hl0).trans e, l0, none, none, e l0 _ upd_same, rfl⟩) (fun i σ' H' _ p => p.1) (fun i x σ' H' H'' hi p e hd => ?_) (fun σ' H' p => ?_)
    · obtain ⟨e0, l, a, b, hl, rfl⟩ := p
      rw [List.length_map] at hi
      rw [getD_map rD (List.getElem?_eq_getElem hi)] at hd
      have g := hg.ok rs[i] (List.getElem_mem hi)
      have gl : (cat (rs.take i)).length ≤ 64 * 64 := by
        have h1 := cat_len (n := n) (rs := rs.take i) fun r hr => hg.ok r (List.mem_of_mem_take hr)
        have h2 : (rs.take i).length ≤ 40 := by rw [List.length_take]; have := hg.len; omega
        have h3 : (rs.take i).length * n ≤ 64 * 64 := Nat.mul_le_mul (by omega) h64
        omega
      generalize hr' : rs[i] = r at hd g
      refine gPair hd fun y1 z1 hy1 hz1 => ?_
      cases dpInt hy1
      cases dpInt hz1
      refine ⟨.ref l, rfl, .int (r.1 : Int), rfl, .int (r.2 : Int), rfl, (r.2 : Int), 1, rfl, rfl, (r.1 : Int), (r.2 : Int) + 1, rfl, rfl, RgOk.of_le (by omega) (by omega) (by omega) (by omega), fun c hc => ?_⟩
      refine ⟨l, c, _, _, rfl, rfl, by rw [upd_ne (ne_of_none (e l _ hl) hc)]; exact e l _ hl, upd_same, sz_of ?_, fun p hp => ?_⟩
      · rw [rgV_length, List.length_map]; omega
      · refine ⟨((e0.trans e).trans (Ex.new hc)).trans (Ex.new hp), p, some (.int (r.1 : Int)), some (.int (r.2 : Int)), ?_, rfl⟩
        rw [upd_same, List.take_add_one, List.getElem?_eq_getElem hi, hr']
        refine congrArg (fun z => some (HO.lst z)) ?_
        unfold cat rgV
        show _ = ((rs.take i ++ [r]).flatMap _).map V.int
        rw [List.flatMap_append, List.map_append, List.flatMap_cons, List.flatMap_nil, List.append_nil, List.map_map, show ((r.2 : Int) + 1 - (r.1 : Int)).toNat = r.2 + 1 - r.1 by omega]
        rfl
    · obtain ⟨e0, l, a, b, hl, rfl⟩ := p
      rw [List.length_map, List.take_length] at hl
      have gl : (cat rs).length < 4000 := by
        have h1 := cat_len (n := n) (rs := rs) hg.ok
        have h3 : rs.length * n ≤ 40 * 64 := Nat.mul_le_mul hg.len h64
        omega
      have S := nSorted (K := K) (w := w) (σ := [some (.int (n : Int)), some y, some (.ref l), a, b]) (H := H') (ta := tVar 2) (ns := cat rs) (out := ((List.range n).filter (memB rs)).map fun k : Nat => (k : Int)) (dVar (v := .ref l) rfl (.lst (sq_of hl) (allOfInts _))) gl (int_lt (filt_lt _ _)) (fun k => by
        rw [mem_ints, mem_cat]
        constructor
        · rintro ⟨j, h1, rfl⟩
          exact ⟨j, rfl, (mem_filt.mp h1).2⟩
        · rintro ⟨j, rfl, h1⟩
          exact ⟨j, mem_filt.mpr ⟨memB_lt hg.ok h1, h1⟩, rfl⟩)
      rw [← msD_int] at S
      exact sRetN S (q.ex e0)
def RTold : List PyData → List PyData → Prop := fun ds o => ∃ (n : Nat) (m : Nat → Bool), ds = [.list (msD ((List.range n).filter m))] ∧ n ≤ 64 ∧ o = (told m n).map rD
theorem filt_filt (n : Nat) (m g : Nat → Bool) : ((List.range n).filter m).filter g = (List.range n).filter fun k => m k && g k := by
  rw [List.filter_filter]
  refine List.filter_congr fun k _ => ?_
  exact Bool.and_comm _ _
def ROth : List PyData → List PyData → Prop := fun ds o => ∃ (n : Nat) (m : Nat → Bool), ds = [.int (n : Int), .list (msD ((List.range n).filter m))] ∧ n ≤ 64 ∧ o = msD ((List.range n).filter fun k => !m k)
end

/-! ### lists of new lists -/
inductive Parts (K : PySem.W.Frag) (H H' : Hp) : List Addr → List (List PyData) → Prop
  | nil : Parts K H H' [] []
  | cons {a : Addr} {xs : List V} {ds : List PyData} {ps : List Addr} {dss : List (List PyData)} : H a = none → H' a = some (.lst xs) → DpAll K H' xs ds → Parts K H H' ps dss → Parts K H H' (a :: ps) (ds :: dss)
section
variable {K : PySem.W.Frag} {σ : L2.St} {H H' H'' : Hp}
theorem Parts.mono {ps : List Addr} {dss : List (List PyData)} (e : Ex H' H'') (h : Parts K H H' ps dss) : Parts K H H'' ps dss := by
  induction h with
  | nil => exact .nil
  | cons h1 h2 h3 _ ih => exact .cons h1 (e _ _ h2) (monoA e h3) ih
theorem Parts.back {H0 : Hp} {ps : List Addr} {dss : List (List PyData)} (e : Ex H0 H) (h : Parts K H H' ps dss) : Parts K H0 H' ps dss := by
  induction h with
  | nil => exact .nil
  | cons h1 h2 h3 _ ih => exact .cons (fresh_back e h1) h2 h3 ih
theorem Parts.app {ps qs : List Addr} {dss ess : List (List PyData)} (h : Parts K H H' ps dss) (h' : Parts K H H' qs ess) : Parts K H H' (ps ++ qs) (dss ++ ess) := by
  induction h with
  | nil => exact h'
  | cons h1 h2 h3 _ ih => exact .cons h1 h2 h3 ih
theorem Parts.dp {ps : List Addr} {dss : List (List PyData)} (h : Parts K H H' ps dss) : DpAll K H' (ps.map V.ref) (dss.map PyData.list) := by
  induction h with
  | nil => exact .nil
  | cons h1 h2 h3 _ ih => exact .cons (.lst (sq_of h2) h3) ih
theorem Parts.fresh {ps : List Addr} {dss : List (List PyData)} (h : Parts K H H' ps dss) : ∀ a ∈ ps, H a = none := by
  induction h with
  | nil => intro a ha; simp at ha
  | cons h1 h2 h3 _ ih =>
    intro b hb
    rcases List.mem_cons.mp hb with e | e
    · rw [e]; exact h1
    · exact ih b e
theorem Parts.lists {ps : List Addr} {dss : List (List PyData)} {k : Nat} (h : Parts K H H' ps dss) (hk : ∀ ds ∈ dss, ds.length ≤ k) : ∀ a ∈ ps, ∃ xs, H' a = some (.lst xs) ∧ xs.length ≤ k := by
  induction h with
  | nil => intro a ha; simp at ha
  | cons h1 h2 h3 _ ih =>
    intro b hb
    rcases List.mem_cons.mp hb with e | e
    · rw [e]; exact ⟨_, h2, by rw [allLen h3]; exact hk _ List.mem_cons_self⟩
    · exact ih (fun ds hds => hk ds (List.mem_cons_of_mem _ hds)) b e
theorem Parts.len {ps : List Addr} {dss : List (List PyData)} (h : Parts K H H' ps dss) : ps.length = dss.length := by
  induction h with
  | nil => rfl
  | cons h1 h2 h3 _ ih => rw [List.length_cons, List.length_cons, ih]
def EvPs (K : PySem.W.Frag) (ta : TA) (σ : L2.St) (H : Hp) (dss : List (List PyData)) : Prop := ∀ H1, Ex H H1 → ∀ Q : List V → Hp → Prop, (∀ ps H2, Ex H1 H2 → Parts K H1 H2 ps dss → Q (ps.map V.ref) H2) → ta σ H1 Q
theorem psNil : EvPs K tNil σ H [] := fun H1 _ Q q => q [] H1 (Ex.refl H1) .nil
theorem psCons {te : TE} {tA : TA} {ds : List PyData} {dss : List (List PyData)} (h : EvN K te σ H ds) (hr : EvPs K tA σ H dss) : EvPs K (tCons te tA) σ H (ds :: dss) := fun H1 e Q q =>
  h H1 e _ fun p xs H2 hp e2 h2 a2 => hr H2 (e.trans e2) _ fun ps H3 e3 pr => q (p :: ps) H3 (e2.trans e3) (.cons hp (e3 p _ h2) (monoA e3 a2) (pr.back e2))
/-- a new list of new lists -/
def NewP (K : PySem.W.Frag) (H : Hp) (Q : VK) (dss : List (List PyData)) : Prop := ∀ p ps H', H p = none → Ex H H' → H' p = some (.lst (ps.map V.ref)) → Parts K H H' ps dss → p ∉ ps → Q (.ref p) H'
theorem Parts.notin {ps : List Addr} {dss : List (List PyData)} {p : Addr} (h : Parts K H H' ps dss) (hp : H' p = none) : p ∉ ps := fun z => by
  have : ∀ {ps : List Addr} {dss : List (List PyData)}, Parts K H H' ps dss → p ∈ ps → False := by
    intro ps dss h
    induction h with
    | nil => intro z; simp at z
    | cons h1 h2 h3 _ ih =>
      intro z
      rcases List.mem_cons.mp z with e | e
      · rw [← e, hp] at h2; cases h2
      · exact ih e
  exact this h z
theorem pLst {tA : TA} {dss : List (List PyData)} {Q : VK} (h : EvPs K tA σ H dss) (hl : dss.length ≤ 100000) (q : NewP K H Q dss) : tLst tA σ H Q :=
  h H (Ex.refl H) _ fun ps H1 e1 pr => ⟨sz_of (by rw [List.length_map, pr.len]; exact hl), fun p hp => q p ps _ (fresh_back e1 hp) (e1.trans (Ex.new hp)) upd_same (pr.mono (Ex.new hp)) (pr.notin hp)⟩
theorem sAsgP {tA : TA} {dss : List (List PyData)} {D : Ends} {i : Nat} (h : EvPs K tA σ H dss) (hl : dss.length ≤ 100000) (k : ∀ p ps H', H p = none → Ex H H' → H' p = some (.lst (ps.map V.ref)) → Parts K H H' ps dss → p ∉ ps → D.nx (σ.set i (some (.ref p))) H') : tAsg (tLst tA) (gName i) D σ H := pLst (Q := fun x H1 => D.nx (σ.set i (some x)) H1) h hl k
theorem nListOf {ta : TE} {r : List V → Hp → VK → Prop} {ds : List PyData} (h : EvD K ta σ H (.list ds)) (hr : r = fun xs H Q => ∃ p ys, xs = [.ref p] ∧ (SqL K H p ys ∨ SqT K H p ys) ∧ ∀ l, H l = none → Q (.ref l) (upd H l (.lst ys))) : EvN K (tCB r (tCons ta tNil)) σ H ds := fun H1 e Q q => by
  subst hr
  refine h H1 e _ fun v H2 e2 hd => ?_
  obtain ⟨a, xs, rfl, hs, hA⟩ := dpList hd
  exact ⟨a, xs, rfl, .inl hs, fun l hl => q l xs _ (fresh_back e2 hl) (e2.trans (Ex.new hl)) upd_same (monoA (Ex.new hl) hA)⟩
/-- u = [..], what is in it told beside it -/
theorem sAsgX {tA : TA} {ds : List PyData} {D : Ends} {i : Nat} (h : EvDA K tA σ H ds) (hl : ds.length ≤ 100000) (k : ∀ u vs H1, H u = none → Ex H H1 → H1 u = some (.lst vs) → DpAll K (rm H1 u) vs ds → D.nx (σ.set i (some (.ref u))) H1) : tAsg (tLst tA) (gName i) D σ H :=
  h H (Ex.refl H) _ fun vs H1 e1 ha => ⟨sz_of (by rw [allLen ha]; exact hl), fun u hu => k u vs _ (fresh_back e1 hu) (e1.trans (Ex.new hu)) upd_same (by rw [rmUpd, rmFree hu]; exact ha)⟩
theorem sAppX {te ta : TE} {u : Addr} {vs : List V} {ds : List PyData} {d : PyData} {D : Ends} (hu : H u = some (.lst vs)) (hA : DpAll K (rm H u) vs ds) (hs : vs.length < 100000) (ht : Ev ta σ H (.ref u)) (h : EvX K te σ H u d)
    (k : ∀ vs' H2, H2 u = some (.lst vs') → DpAll K (rm H2 u) vs' (ds ++ [d]) → (∀ B : Hp, B u = none → Ex B H → Ex B H2) → D.nx σ H2) : tDrop (tBM K "list" rAppend ta (tCons te tNil)) D σ H :=
  ht H (Ex.refl H) _ fun H1 e1 => ⟨.inl ⟨rfl, vs, sq_of (e1 u _ hu)⟩, h H1 e1 ⟨vs, e1 u _ hu⟩ _ fun y H2 e2 hd => ⟨u, vs, y, rfl, rfl, e2 u _ (e1 u _ hu), sz_lt hs, k _ _ upd_same (by
    rw [rmUpd]
    exact allApp (monoA (rmMono (e1.trans e2)) hA) (.cons hd .nil)) fun B hB eB => Ex.mut (eB.trans (e1.trans e2)) hB⟩⟩
theorem sForN {wi : TI} {n : Nat} {o : Nat → PyData} {g : TG} {tb : TS} {D : Ends} (hw : WkN K wi σ H n o) (Pv : Hp → Nat → L2.St → Hp → Prop) (h0 : ∀ B, Ex H B → Pv B 0 σ B) (hG : ∀ B i σ' H', Pv B i σ' H' → Ex B H')
    (hs : ∀ B i x σ' H' H'', Ex H B → i < n → Pv B i σ' H' → Ex H' H'' → Dp K H'' x (o i) → g x σ' H'' fun σ2 H2 => tb { D with nx := Pv B (i + 1), ct := Pv B (i + 1), bk := D.nx } σ2 H2) (hd : ∀ B σ' H', Ex H B → Pv B n σ' H' → D.nx σ' H') : tFor wi g tb D σ H :=
  hw H (Ex.refl H) _ fun J B e w => for_it w (Pv B) (h0 B e) (fun i σ' H' _ p => hG B i σ' H' p) (fun i x σ' H' H'' hi p y => hs B i x σ' H' H'' e hi p y.1 y.2) (fun σ' H' p => hd B σ' H' e p)
theorem gTriple {i j l : Nat} {x : V} {d e f : PyData} {Q : L2.St → Hp → Prop} (h : Dp K H x (.tuple [d, e, f])) (q : ∀ y z u, Dp K H y d → Dp K H z e → Dp K H u f → Q (((σ.set i (some y)).set j (some z)).set l (some u)) H) : gTup K 3 (gCons (gName i) (gCons (gName j) (gCons (gName l) gNil))) x σ H Q := by
  obtain ⟨a, xs, rfl, hs, ha⟩ := dpTuple h
  obtain ⟨y, z, u, rfl, h1, h2, h3⟩ := all3 ha
  exact ⟨a, _, rfl, hs, rfl, y, [z, u], rfl, z, [u], rfl, u, [], rfl, rfl, q y z u h1 h2 h3⟩
end
/-! ### _law_all -/
def allD (n : Nat) (rs ss : List (Nat × Nat)) : List (List PyData) :=
  [msD ((List.range n).filter (memB rs)), (told (memB rs) n).map rD, (told (fun k => !memB rs k) n).map rD, (told (fun k => memB rs k || memB ss k) n).map rD, (told (fun k => memB rs k && memB ss k) n).map rD, (told (fun k => memB rs k && !memB ss k) n).map rD]
def spAll (K : PySem.W.Frag) : Sp := fun vs H Q _ => ∃ (n : Nat) (rs ss : List (Nat × Nat)), DpAll K H vs [.int (n : Int), sD rs, sD ss] ∧ 1 ≤ n ∧ n ≤ 64 ∧ Good n rs ∧ Good n ss ∧ NewP K H Q (allD n rs ss)
/-- a def of the text: its promise, and where it stands -/
structure Def (P : Program) (w : World) (K : PySem.W.Frag) (mg : Str → Option Value) (base : Heap) (k : Nat) (x : Str) (ps : List Str) (sp : Sp) : Prop where
  ex : ∃ f fd, FnOk P w K mg base CX0 k f fd ps sp ∧ mg x = some (.ref f) ∧ PySem.W.keepIn K (.ref f) = true ∧ Binds K fd ps []
section
variable {P : Program} {w : World} {K : PySem.W.Frag} {mg : Str → Option Value} {base : Heap}
end

/-! ### lists of tuples stay when a list is changed -/
theorem keepT {K : PySem.W.Frag} {H : Hp} {D : Addr} {ys zs xs : List V} {ds : List PyData} (hD : H D = some (.lst ys)) (hn : noLs ds = true) (h : DpAll K H xs ds) : DpAll K (upd H D (.lst zs)) xs ds := by
  have a := dpAllRm hD ds xs hn h
  rw [← rmUpd (o := .lst zs)] at a
  exact monoA rmEx a
theorem Dk.keepT {K : PySem.W.Frag} {d : Addr} {H H' : Hp} {xs : List V} {ds : List PyData} (D : Dk d H H') (hd : DSt H d) (hn : noLs ds = true) (h : DpAll K H xs ds) : DpAll K H' xs ds := by
  obtain ⟨s, hs, _⟩ := hd
  exact monoA rmEx (monoA D.ex (dpAllRm hs ds xs hn h))
theorem noRs (rs : List (Nat × Nat)) : noLs (rs.map rD) = true := noLs_map noL_rD rs
theorem noMs (ms : List Nat) : noLs (msD ms) = true := noLs_map (fun _ => rfl) ms
theorem allErase {K : PySem.W.Frag} {H : Hp} : ∀ {ds : List PyData} {vs : List V} (i : Nat), DpAll K H vs ds → DpAll K H (vs.eraseIdx i) (ds.eraseIdx i)
  | [], _, _, h => by cases h; exact .nil
  | e :: ds, _, 0, h => by
    cases h with
    | cons h1 h2 => exact h2
  | e :: ds, _, i + 1, h => by
    cases h with
    | cons h1 h2 => exact .cons h1 (allErase i h2)
theorem erase_map {α β : Type} (f : α → β) : ∀ (l : List α) (j : Nat), (l.map f).eraseIdx j = (l.eraseIdx j).map f
  | [], j => by simp
  | a :: r, 0 => by simp
  | a :: r, j + 1 => by
    have ih := erase_map f r j
    simp [ih]
theorem erase_perm {α : Type} : ∀ {l : List α} {j : Nat} {x : α}, l[j]? = some x → (x :: l.eraseIdx j).Perm l
  | [], _, _, h => by simp at h
  | a :: r, 0, x, h => by
    have e : a = x := by simpa using h
    rw [e]; exact List.Perm.refl _
  | a :: r, j + 1, x, h => by
    have ih := erase_perm (l := r) (j := j) (x := x) (by simpa using h)
    exact (List.Perm.swap a x _).trans (ih.cons a)
/-! ### _law_mixed -/
def spMixed (K : PySem.W.Frag) : Sp := fun vs H Q _ => ∃ (d : Addr) (v : V) (rs : List (Nat × Nat)), vs = [.ref d, v] ∧ DSt H d ∧ Dp K H v (sD rs) ∧ rs.length ≤ 100 ∧
  ∀ (us : List (Nat × Nat)) p xs H', us.Perm rs → H p = none → Dk d H H' → H' p = some (.lst xs) → DpAll K H' xs (us.map rD) → Q (.ref p) H'
theorem eqv_nil (r : Nat × Nat) (rs : List (Nat × Nat)) : PyData.eqv (sD (r :: rs)) (.list []) = false := by
  unfold sD
  rw [List.map_cons]
  simp [PyData.eqv, PyData.eqvAll]
section
variable {P : Program} {w : World} {K : PySem.W.Frag} {mg : Str → Option Value} {base : Heap}
theorem ok_lmix {f f1 : Addr} {fd fd1 : FuncData} {k : Nat} (F : Fun K "_law_mixed" "_law_mixed" sLawMixed f fd)
    (F1 : FnOk P w K mg base CX0 (k + 1) f1 fd1 ["_law_d", "_law_most"] spOff) (g1 : mg "_law_off" = some (.ref f1)) (k1 : PySem.W.keepIn K (.ref f1) = true) (b1 : Binds K fd1 ["_law_d", "_law_most"] []) (mL : mg "list" = none) (ml : mg "len" = none) : FnOk P w K mg base CX0 (k + 2) f fd ["_law_d", "_law_row"] (spMixed K) := by
  refine F.ok scLawMixed (fun vs H Q E h => ?_) (fun cdv A outer s H vs Q E hr h => ?_)
  · obtain ⟨d, v, rs, rfl, _⟩ := h
    rfl
  · obtain ⟨d, v, rs, rfl, hd, hv, hlen, q⟩ := h
    have nd := scLawMixed.nd
    refine ⟨_, pss_cons (ps_set (i := 2) nd rfl (.inl rfl) (pe_callTy call_list_of (by rfl) mL (by decide +kernel) (pa_cons (pv 1) pa_nil)))
      (pss_cons (ps_set (i := 3) nd rfl (.inl rfl) (pe_lst pa_nil))
      (pss_cons (ps_while PassesOwn.never (pt_cmpR (op_neD hr.units) (pv 2) (pe_lst pa_nil) (nomark _))
        (pss_one (ps_expr (pe_bm PySem.F.plainAttrs_list PySem.F.slot_list_append PySem.F.type_list_append mt_append (pv 3) (pa_cons (pe_bm PySem.F.plainAttrs_list PySem.F.slot_list_pop PySem.F.type_list_pop mt_popAt (pv 2) (pa_cons (pe_call F1 hr (by rfl) g1 k1 b1 .nil pass0 (pa_cons (pv 0) (pa_cons (pe_callB call_len_seq (by rfl) ml PySem.boot_len (pa_cons (pv 2) pa_nil)) pa_nil))) pa_nil)) pa_nil)))))
      (pss_one (ps_ret (pv 3))))), ?_⟩
    refine sAsgN (nListOf (dVar (v := v) rfl hv) rfl) fun l x0 H1 hl e1 h1 A1 => ?_
    refine ⟨Nat.zero_le _, fun g hg => ?_⟩
    have hlg : l ≠ g := ne_of_none h1 hg
    have hld : l ≠ d := hd.ne hl
    have hg0 : H g = none := fresh_back e1 hg
    have hgd : g ≠ d := hd.ne hg0
    have E2 : Ex H (upd H1 g (.lst [])) := e1.trans (Ex.new hg)
    refine s_while (fun m σ' H' => σ' = [some (.ref d), some v, some (.ref l), some (.ref g)] ∧ Dk d H H' ∧ ∃ (lrs frs : List (Nat × Nat)) (lx fx : List V), H' l = some (.lst lx) ∧ H' g = some (.lst fx) ∧ DpAll K H' lx (lrs.map rD) ∧ DpAll K H' fx (frs.map rD) ∧ (frs ++ lrs).Perm rs ∧ lrs.length = m) rs.length ⟨rfl, Dk.of hd E2, rs, [], x0, [], by rw [upd_ne hlg]; exact h1, upd_same, monoA (Ex.new hg) A1, .nil, by exact List.Perm.refl _, rfl⟩ (fun m σ' H' hW => ?_)
    obtain ⟨rfl, D, lrs, frs, lx, fx, hl', hg', AL, AF, pm, hm⟩ := hW
    have dl : Dp K H' (.ref l) (sD lrs) := .lst (sq_of hl') AL
    refine ⟨_, et_test (neD (dVar (v := .ref l) rfl dl) (nLst daNil (Nat.zero_le _)).asD (sh_sD lrs) rfl), fun hb H2 e2 => ?_, fun hb H2 e2 => ?_⟩
    · have hne : lrs ≠ [] := fun z => by
        subst z
        rw [show PyData.eqv (sD []) (.list []) = true from eqvSame (sh_sD [])] at hb; cases hb
      have hpos : 0 < lrs.length := List.length_pos_iff.mpr hne
      have hxl : lx.length = lrs.length := by rw [allLen AL, List.length_map]
      have hle : frs.length + lrs.length = rs.length := by rw [← List.length_append]; exact pm.length_eq
      have D2 := D.trans (Dk.of D.st e2)
      refine ⟨fun σ2 H3 => σ2 = [some (.ref d), some v, some (.ref l), some (.ref g)] ∧ Dk d H H3 ∧ ∃ (lrs' frs' : List (Nat × Nat)) (lx fx : List V), H3 l = some (.lst lx) ∧ H3 g = some (.lst fx) ∧ DpAll K H3 lx (lrs'.map rD) ∧ DpAll K H3 fx (frs'.map rD) ∧ (frs' ++ lrs').Perm rs ∧ lrs'.length + 1 = lrs.length, fun σ2 H3 hN => ?_, ?_⟩
      · obtain ⟨z1, z2, lrs', frs', lx', fx', y1, y2, y3, y4, y5, y6⟩ := hN
        exact ⟨lrs'.length, by omega, z1, z2, lrs', frs', lx', fx', y1, y2, y3, y4, y5, rfl⟩
      · refine ⟨.ref g, rfl, .inl ⟨rfl, _, SqL.of (e2 g _ hg')⟩, .ref l, rfl, .inl ⟨rfl, _, SqL.of (e2 l _ hl')⟩, ?_⟩
        refine offCall (d := d) (m := (lx.length : Int)) rfl (fun Q q => ⟨.ref l, rfl, l, lx, rfl, .inl (SqL.of (e2 l _ hl')), q⟩) D2.st ⟨by omega, by omega⟩ fun r H3 hr0 hr1 D3 => ?_
        obtain ⟨j, rfl⟩ : ∃ j : Nat, r = (j : Int) := ⟨r.toNat, by omega⟩
        have hj : j < lx.length := by omega
        have hj' : j < lrs.length := by omega
        have h3l : H3 l = some (.lst lx) := D3.keep hld (e2 l _ hl')
        have h3g : H3 g = some (.lst fx) := D3.keep hgd (e2 g _ hg')
        have AL3 : DpAll K H3 lx (lrs.map rD) := D3.keepT D2.st (noRs lrs) (monoA e2 AL)
        have AF3 : DpAll K H3 fx (frs.map rD) := D3.keepT D2.st (noRs frs) (monoA e2 AF)
        obtain ⟨y, hy, hdy⟩ := allGet AL3 (i := j) (d := rD lrs[j]) (by rw [List.getElem?_map, List.getElem?_eq_getElem hj']; rfl)
        refine ⟨l, lx, (j : Int), j, y, rfl, rfl, h3l, by omega, by omega, (ixN_seq (ixN_nat hj)).1, hy, ?_⟩
        have g4 : (upd H3 l (.lst (lx.eraseIdx j))) g = some (.lst fx) := by rw [upd_ne (Ne.symm hlg)]; exact h3g
        refine ⟨g, fx, y, rfl, rfl, g4, sz_lt (by rw [allLen AF, List.length_map]; omega), rfl, ?_, lrs.eraseIdx j, frs ++ [lrs[j]], lx.eraseIdx j, fx ++ [y], ?_, upd_same, ?_, ?_, ?_, ?_⟩
        · have D4 := D2.trans D3
          obtain ⟨s', z1, z2, z3⟩ := D4.st
          refine ⟨⟨s', by rw [upd_ne (Ne.symm hgd), upd_ne (Ne.symm hld)]; exact z1, z2, z3⟩, ?_⟩
          rw [rmNew hgd, rmNew hld]
          exact Ex.mut (Ex.mut D4.ex (by rw [rmNe hld]; exact hl)) (by rw [rmNe hgd]; exact hg0)
        · rw [upd_ne hlg, upd_same]
        · have z := allErase j (SG.keepT (zs := fx ++ [y]) g4 (noRs lrs) (SG.keepT (zs := lx.eraseIdx j) h3l (noRs lrs) AL3))
          rw [erase_map] at z
          exact z
        · rw [List.map_append]
          have nr : noL (rD lrs[j]) = true := rfl
          exact SG.keepT g4 (by rw [← List.map_append]; exact noRs _) (allApp (SG.keepT h3l (noRs frs) AF3) (.cons (by
            have z : DpAll K (upd H3 l (.lst (lx.eraseIdx j))) [y] [rD lrs[j]] := SG.keepT h3l rfl (.cons hdy .nil)
            obtain ⟨y', e', z'⟩ := all1 z
            cases e'
            exact z') .nil))
        · have pe := erase_perm (List.getElem?_eq_getElem hj')
          rw [List.append_assoc]
          exact ((pe.append_left frs)).trans pm
        · rw [List.length_eraseIdx, if_pos hj']; omega
    · have hnil : lrs = [] := by
        cases lrs with
        | nil => rfl
        | cons r rest => rw [eqv_nil] at hb; cases hb
      subst hnil
      rw [List.append_nil] at pm
      exact ⟨.ref g, rfl, q frs g fx H2 pm hg0 (D.trans (Dk.of D.st e2)) (e2 g _ hg') (monoA e2 AF)⟩
end

/-! ### the law of k04 -/
def spLaw (K : PySem.W.Frag) : Sp := fun vs H Q _ => ∃ (a : Addr) (ns : List Int), vs = [.ref a] ∧ SqL K H a (ns.map V.int) ∧ ns.length ≤ 63 ∧ ∀ H', Q (.bl true) H'
theorem setCall2 {K : PySem.W.Frag} {d : Addr} {n m i j : Nat} {te : TE} {σ : L2.St} {H : Hp} {Q : VK} (h1 : σ[i]? = some (some (.ref d))) (h2 : σ[j]? = some (some (.int (n : Int)))) (ht : ∀ Q : VK, Q (.int (m : Int)) H → te σ H Q) (hd : DSt H d) (hn : 1 ≤ n ∧ n ≤ 64) (hm : m ≤ 40)
    (k : ∀ (rs : List (Nat × Nat)) p xs H', Good n rs → H p = none → Dk d H H' → H' p = some (.lst xs) → DpAll K (rm H' d) xs (rs.map rD) → Q (.ref p) H') : tCall (spLSet K) [] E0 (tCons (tVar i) (tCons (tVar j) (tCons te tNil))) σ H Q :=
  ⟨.ref d, h1, .int (n : Int), h2, ht _ ⟨d, n, m, rfl, hd, hn.1, hn.2, hm, fun rs p xs H' hl hg hp D hx ha => k rs p xs H' ⟨by omega, hg⟩ hp D hx ha⟩⟩
theorem msD_len (ms : List Nat) : (msD ms).length = ms.length := List.length_map ..
theorem filt_len (n : Nat) (f : Nat → Bool) : ((List.range n).filter f).length ≤ n := by
  have := List.length_filter_le f (List.range n)
  rw [List.length_range] at this
  exact this
theorem outs_none {n : Nat} {out : Nat → PyData} : outs n (fun _ => false) out = [] := by
  unfold outs
  rw [List.filter_eq_nil_iff.mpr (fun _ _ => by decide)]; rfl
theorem sh_msD (ms : List Nat) : SeqAt.shaped (.list (msD ms)) = true := shList (f := iD') (fun _ => rfl) (fun _ => (by show (0 : Nat) ≤ 10; decide)) ms
section
variable {K : PySem.W.Frag} {σ : L2.St} {H : Hp}
theorem sAsgPair {te : TE} {D : Ends} {i j : Nat} {d e : PyData} (h : EvD K te σ H (.tuple [d, e])) (k : ∀ x y H1, Ex H H1 → Dp K H1 x d → Dp K H1 y e → D.nx ((σ.set i (some x)).set j (some y)) H1) : tAsg te (gTup K 2 (gCons (gName i) (gCons (gName j) gNil))) D σ H := h H (Ex.refl H) _ fun v H1 e1 hd => gPair hd fun x y hx hy => k x y H1 e1 hx hy
theorem dIxT {ta tb : TE} {ds : List PyData} {d : PyData} {i : Int} (ha : EvD K ta σ H (.tuple ds)) (hb : Ev tb σ H (.int i)) (h : atI ds i = some d) : EvD K (tOp (rIxT K) ta tb) σ H d := fun H1 a Q q =>
  ha H1 a _ fun v H2 e2 hd => hb H2 (a.trans e2) _ fun H3 e3 => by
    obtain ⟨p, xs, rfl, hs, hA⟩ := dpTuple (SB.mono e3 hd)
    have key : ∃ x, atI xs i = some x ∧ Dp K H3 x d := by
      have hl := allLen hA
      unfold atI at h ⊢
      rw [hl]
      cases q : ixN ds.length i with
      | none => rw [q] at h; cases h
      | some j => rw [q] at h; exact allGet hA h
    obtain ⟨x, hx, hdx⟩ := key
    exact ⟨p, xs, i, x, rfl, rfl, hs, hx, q x H3 (e2.trans e3) hdx⟩
end
theorem parts3 {K : PySem.W.Frag} {H H' : Hp} {ps : List Addr} {d e f : List PyData} (h : Parts K H H' ps [d, e, f]) : ∃ a b c xs ys zs, ps = [a, b, c] ∧ (H a = none ∧ H b = none ∧ H c = none) ∧ (H' a = some (.lst xs) ∧ DpAll K H' xs d) ∧ (H' b = some (.lst ys) ∧ DpAll K H' ys e) ∧ H' c = some (.lst zs) ∧ DpAll K H' zs f := by
  cases h with
  | cons h1 h2 h3 h4 =>
    cases h4 with
    | cons k1 k2 k3 k4 =>
      cases k4 with
      | cons l1 l2 l3 l4 =>
        cases l4
        exact ⟨_, _, _, _, _, _, rfl, ⟨h1, k1, l1⟩, ⟨h2, h3⟩, ⟨k2, k3⟩, l2, l3⟩
section
variable {P : Program} {w : World} {K : PySem.W.Frag} {mg : Str → Option Value} {base : Heap}
theorem ok_law {f : Addr} {fd : FuncData} (F : Fun K "law" "law" sLaw f fd) (dD : Def P w K mg base 3 "_law_dice" ["_law_script", "_law_k"] (spN K RDice)) (dOF : Def P w K mg base 3 "_law_off" ["_law_d", "_law_most"] spOff) (dZ : Def P w K mg base 3 "_law_size" ["_law_d"] spSize) (dT : Def P w K mg base 3 "_law_set" ["_law_d", "_law_size_here", "_law_most"] (spLSet K))
    (dME : Def P w K mg base 3 "_law_members" ["_law_size_here", "_law_ranges"] (spN K RMem)) (dMX : Def P w K mg base 3 "_law_mixed" ["_law_d", "_law_row"] (spMixed K)) (dP : Def P w K mg base 3 "plain" ["size", "ranges"] (spN K RPlain)) (dM : Def P w K mg base 3 "members" ["size", "ranges"] (spN K RMembers))
    (mr : mg "range" = none) (ml : mg "len" = none) : FnOk P w K mg base CX0 4 f fd ["_law_script"] (spLaw K) := by
  obtain ⟨fD, fdD, FD, gD, kD, bD⟩ := dD.ex
  obtain ⟨fOF, fdOF, FOF, gOF, kOF, bOF⟩ := dOF.ex
  obtain ⟨fZ, fdZ, FZ, gZ, kZ, bZ⟩ := dZ.ex
  obtain ⟨fT, fdT, FT, gT, kT, bT⟩ := dT.ex
  obtain ⟨fME, fdME, FME, gME, kME, bME⟩ := dME.ex
  obtain ⟨fMX, fdMX, FMX, gMX, kMX, bMX⟩ := dMX.ex
  obtain ⟨fP, fdP, FP, gP, kP, bP⟩ := dP.ex
  obtain ⟨fM, fdM, FM, gM, kM, bM⟩ := dM.ex
  refine F.ok scLaw (fun vs H Q E h => ?_) (fun cdv A outer s H vs Q E hr h => ?_)
  · obtain ⟨a, ns, rfl, _⟩ := h
    rfl
  · obtain ⟨a, ns, rfl, hS, hl, q⟩ := h
    have nd := scLaw.nd
    refine ⟨_, (pss_cons (ps_set (i := 1) nd rfl (.inl rfl) (pe_call FD (hr.mono (by decide)) (by rfl) gD kD bD .nil pass0 (pa_cons (pv 0) (pa_cons (pe_int) pa_nil))))
        (pss_cons (ps_set (i := 2) nd rfl (.inl rfl) (pe_call FZ (hr.mono (by decide)) (by rfl) gZ kZ bZ .nil pass0 (pa_cons (pv 1) pa_nil)))
        (pss_cons (ps_set (i := 3) nd rfl (.inl rfl) (pe_call FT (hr.mono (by decide)) (by rfl) gT kT bT .nil pass0 (pa_cons (pv 1) (pa_cons (pv 2) (pa_cons (pe_int) pa_nil)))))
        (pss_cons (ps_set (i := 4) nd rfl (.inr rfl) (pe_call FME (hr.mono (by decide)) (by rfl) gME kME bME .nil pass0 (pa_cons (pv 2) (pa_cons (pv 3) pa_nil))))
        (pss_cons (ps_set (i := 5) nd rfl (.inl rfl) (pe_call FP (hr.mono (by decide)) (by rfl) gP kP bP .nil pass0 (pa_cons (pv 2) (pa_cons (pv 3) pa_nil))))
        (pss_cons (ps_for PassesOwn.never rfl (pi_range1 (by rfl) mr (pa_cons (pe_callB call_len_seq (by rfl) ml PySem.boot_len (pa_cons (pv 5) pa_nil)) pa_nil)) (pg_name (i := 6) nd rfl (.inl rfl)) (pss_cons (ps_asg (pe_ix ix_list (pv 5) (pv 6) (fun _ _ => rfl)) (pg_tup rfl (pgs_cons (pg_name (i := 7) nd rfl (.inl rfl)) (pgs_cons (pg_name (i := 8) nd rfl (.inl rfl)) pgs_nil))))
        (pss_cons (ps_setLc (i := 9) (own := [("_law_number", 12)]) (g := gName 12) (tt := tTest (tOp (rIn K true) (tVar 12) (tVar 4))) (te := tVar 12) rfl nd rfl rfl (sw_true rfl rfl rfl (by decide +kernel)) (pi_range2 (by rfl) mr (pa_cons (pv 7) (pa_cons (pe_op op_add (pv 8) pe_int) pa_nil))) (blkOk_by (own := [("_law_number", 12)]) (N := nLaw) (sc := defScope sLaw) (by decide +kernel)) (fun _ _ _ _ _ => pg_name (i := 12) nd rfl (Or.inl rfl)) (fun _ _ _ _ _ => pts_one (pt_cmpR op_notIn_seq (pv 12) (pv 4) (by rfl))) (fun _ _ _ _ _ => pv 12))
        (pss_cons (ps_if (PW.pt (pw_or (pt_not (pt_cmpR op_le (pv 7) (pv 8) (nomark _))) (pw_or (pt_cmpR (op_neD hr.units) (pv 9) (pe_lst pa_nil) (nomark _)) (pw_or1 (pt_cmpR op_in_seq (pe_op op_sub (pv 7) pe_int) (pv 4) (by rfl)))))) (pss_one (ps_ret pe_bl)) pss_nil)
        (pss_one (ps_if (PW.pt (pw_and (pt_cmpR op_gt (pv 6) pe_int (nomark _)) (pw_and1 (pt_cmpR op_ge (pe_op op_add (pe_ix ix_tup (pe_ix ix_list (pv 5) (pe_op op_sub (pv 6) pe_int) (fun _ _ => rfl)) pe_int (fun _ _ => rfl)) pe_int) (pv 7) (nomark _))))) (pss_one (ps_ret pe_bl)) pss_nil))))))
        (pss_cons (ps_if (PW.pt (pw_or (pt_cmpR (op_neD hr.units) (pe_call FM (hr.mono (by decide)) (by rfl) gM kM bM .nil pass0 (pa_cons (pv 2) (pa_cons (pv 5) pa_nil))) (pv 4) (nomark _)) (pw_or1 (pt_cmpR op_gt (pe_callB call_len_seq (by rfl) ml PySem.boot_len (pa_cons (pv 5) pa_nil)) (pe_callB call_len_seq (by rfl) ml PySem.boot_len (pa_cons (pv 3) pa_nil)) (nomark _))))) (pss_one (ps_ret pe_bl)) pss_nil)
        (pss_cons (ps_set (i := 10) nd rfl (.inl rfl) (pe_lst pa_nil))
        (pss_cons (ps_for PassesOwn.never rfl (pi_list (pe_call FMX (hr.mono (by decide)) (by rfl) gMX kMX bMX .nil pass0 (pa_cons (pv 1) (pa_cons (pv 5) pa_nil)))) (pg_tup rfl (pgs_cons (pg_name (i := 7) nd rfl (.inl rfl)) (pgs_cons (pg_name (i := 8) nd rfl (.inl rfl)) pgs_nil))) (pss_cons (ps_set (i := 11) nd rfl (.inl rfl) (pe_op op_add (pv 7) (pe_call FOF (hr.mono (by decide)) (by rfl) gOF kOF bOF .nil pass0 (pa_cons (pv 1) (pa_cons (pe_op op_add (pe_op op_sub (pv 8) (pv 7)) pe_int) pa_nil)))))
        (pss_one (ps_set (i := 10) nd rfl (.inl rfl) (pe_op op_cat (pv 10) (pe_ix ix_list (pe_lst (pa_cons (pe_lst (pa_cons (pe_tup (pa_cons (pv 7) (pa_cons (pv 8) pa_nil))) pa_nil)) (pa_cons (pe_lst (pa_cons (pe_tup (pa_cons (pv 7) (pa_cons (pv 11) pa_nil))) (pa_cons (pe_tup (pa_cons (pv 11) (pa_cons (pv 8) pa_nil))) pa_nil))) (pa_cons (pe_lst (pa_cons (pe_tup (pa_cons (pv 7) (pa_cons (pv 11) pa_nil))) (pa_cons (pe_tup (pa_cons (pv 7) (pa_cons (pv 8) pa_nil))) pa_nil))) pa_nil)))) (pe_call FOF (hr.mono (by decide)) (by rfl) gOF kOF bOF .nil pass0 (pa_cons (pv 1) (pa_cons (pe_int) pa_nil))) (fun _ _ => rfl)))))))
        (pss_cons (ps_if (pt_cmpR op_gt (pe_callB call_len_seq (by rfl) ml PySem.boot_len (pa_cons (pv 10) pa_nil)) pe_int (nomark _)) (pss_one (ps_ret pe_bl)) pss_nil)
        (pss_one (ps_ret (pe_and (pe_cmpR (op_eqD hr.units) (pe_call FP (hr.mono (by decide)) (by rfl) gP kP bP .nil pass0 (pa_cons (pv 2) (pa_cons (pv 10) pa_nil))) (pv 5) (nomark _)) (pe_and (pe_cmpR (op_eqD hr.units) (pe_call FM (hr.mono (by decide)) (by rfl) gM kM bM .nil pass0 (pa_cons (pv 2) (pa_cons (pv 10) pa_nil))) (pv 4) (nomark _)) (pe_one (pe_cmpR op_le (pe_callB call_len_seq (by rfl) ml PySem.boot_len (pa_cons (pv 5) pa_nil)) (pe_callB call_len_seq (by rfl) ml PySem.boot_len (pa_cons (pv 10) pa_nil)) (nomark _))))))))))))))))), ?_⟩
    have hScr : Dp K H (.ref a) (.list (ns.map PyData.int)) := .lst hS (allOfInts ns)
    refine sAsgN (nCall (da2 (dVar rfl hScr) dInt) ⟨ns, 0, rfl, hl, by decide, by decide, rfl⟩) fun d xs H1 hd e1 h1 a1 => ?_
    have d1 : DSt H1 d := dst_of (by decide) hl h1 a1
    refine ⟨.ref d, rfl, d, rfl, d1, fun n H2 hn1 hn64 D2 => ?_⟩
    have hn : 1 ≤ n ∧ n ≤ 64 := ⟨hn1, hn64⟩
    refine setCall2 (d := d) (n := n) (m := 40) rfl rfl (fun Q q => q) D2.st hn (by decide) fun rs p1 x1 H3 g1 hp1 D3 h31 A31 => ?_
    have d3 : DSt H3 d := D3.st
    have s1 : Dp K H3 (.ref p1) (sD rs) := .lst (sq_of h31) (monoA rmEx A31)
    refine sAsgN (nCall (da2 (dVar rfl (.int (n : Int))) (dVar (v := .ref p1) rfl s1)) ⟨n, rs, rfl, hn64, g1, rfl⟩) fun pn xn H4 hpn e4 h4n A4n => ?_
    refine sAsgN (nCall (R := RPlain) (da2 (dVar rfl (.int (n : Int))) (dVar (v := .ref p1) rfl (SB.mono e4 s1))) ⟨n, rs, rfl, hn1, hn64, g1, rfl⟩) fun pf xf H5 hpf e5 h5f A5f => ?_
    obtain ⟨ts, hts⟩ : ∃ ts, ts = told (memB rs) n := ⟨_, rfl⟩
    replace A5f : DpAll K H5 xf (ts.map rD) := by rw [hts]; exact A5f
    have tl : ts.length ≤ 32 := by rw [hts]; have := told_len (memB rs) n; omega
    have tg : Good n ts := by rw [hts]; exact told_good _ hn64
    have dF : Dp K H5 (.ref pf) (sD ts) := .lst (sq_of h5f) A5f
    have dN : Dp K H5 (.ref pn) (.list (msD ((List.range n).filter (memB rs)))) := .lst (sq_of (e5 pn _ h4n)) (monoA e5 A4n)
    have dN' : Dp K H5 (.ref pn) (.list ((((List.range n).filter (memB rs)).map fun k : Nat => (k : Int)).map PyData.int)) := by rw [← msD_int]; exact dN
    have s5 := SB.mono (e4.trans e5) s1
    have flen : (sD ts) = .list (ts.map rD) := rfl
    refine sFor (K := K) (B := H5) (Ex.refl H5) (wkRange1 (j := (ts.length : Int)) (ea_cons (ev_is (lenD (v := .ref pf) rfl (.inl dF) rfl) (by rw [List.length_map])) ea_nil) ⟨by omega, by omega⟩) (fun i σ' H' => Ex H5 H' ∧ ∃ b6 b7 b8 b9, σ' = [some (.ref a), some (.ref d), some (.int (n : Int)), some (.ref p1), some (.ref pn), some (.ref pf), b6, b7, b8, b9, none, none, none]) (fun H2 e => ⟨e, none, none, none, none, rfl⟩) (fun i σ' H' _ p => p.1) (fun i x σ' H' H'' hi p e hd => ?_) (fun σ' H6 p => ?_)
    · obtain ⟨e0, b6, b7, b8, b9, rfl⟩ := p
      rw [Int.toNat_natCast] at hi
      cases dpInt hd
      have hti : ts[i] ∈ told (memB rs) n := by rw [← hts]; exact List.getElem_mem hi
      have gi := tg.ok ts[i] (List.getElem_mem hi)
      have e0' := e0.trans e
      have run : ∀ k, ts[i].1 ≤ k → k ≤ ts[i].2 → memB rs k = true := fun k h1 h2 => told_run hti h1 h2
      have ahead : ts[i].1 ≠ 0 → memB rs (ts[i].1 - 1) = false := told_ahead hti
      have gap : ∀ r, ts[i - 1]? = some r → 0 < i → r.2 + 1 < ts[i].1 := fun r hr h0 => by
        rw [hts] at hr
        refine told_gap hr ?_
        rw [show i - 1 + 1 = i by omega, ← hts, List.getElem?_eq_getElem hi]
      generalize hri : ts[i] = r at gi run ahead gap
      refine sAsgPair (dIxL (i := (i : Nat)) (d := rD r) (dVar (v := .ref pf) rfl (SB.mono e0' dF)) (ev_var rfl) (atI_nat (by rw [List.getElem?_map, List.getElem?_eq_getElem hi, hri]; rfl))) fun y1 y2 H6 e6 hy1 hy2 => ?_
      cases dpInt hy1
      cases dpInt hy2
      have e06 := e0'.trans e6
      have N := nLc (K := K) (σ := [some (.ref a), some (.ref d), some (.int (n : Int)), some (.ref p1), some (.ref pn), some (.ref pf), some (.int (i : Nat)), some (.int (r.1 : Int)), some (.int (r.2 : Int)), b9, none, none, none]) (H := H6) (wi := iRng2 (tCons (tVar 7) (tCons (tOp (rI0 fun i j => .int (i + j)) (tVar 8) (tC (.int 1))) tNil))) (g := gName 12) (tt := tTest (tOp (rIn K true) (tVar 12) (tVar 4))) (te := tVar 12) (vs := [12]) (n := ((r.2 : Int) + 1 - (r.1 : Int)).toNat) (fun _ => false) (fun _ => .none) (by omega) (wkRange2 (ea_cons (ev_var rfl) (ea_cons (ev_op (ev_var rfl) ev_c rv_I0) ea_nil)) ⟨by omega, by omega, by omega, by omega⟩).asN (fun Dl j x H7 hj e7 hd => by
        cases dpInt hd
        refine ⟨[some (.ref a), some (.ref d), some (.int (n : Int)), some (.ref p1), some (.ref pn), some (.ref pf), some (.int (i : Nat)), some (.int (r.1 : Int)), some (.int (r.2 : Int)), b9, none, none, some (.int ((r.1 : Int) + (j : Nat)))], fun Q q => q, rfl, et_is (et_test (inD (neg := true) (ev_var rfl) (ev_var (v := .ref pn) rfl) (SB.mono (e06.trans e7) dN'))) ?_, fun z => nomatch z⟩
        show (!decide _) = false
        rw [decide_eq_true]; rfl
        exact mem_ints.mpr ⟨r.1 + j, mem_filt.mpr ⟨by omega, run _ (by omega) (by omega)⟩, by omega⟩)
      rw [outs_none] at N
      refine sAsgN N fun pl xl H7 hpl e7 h7 A7 => ?_
      have e07 := e06.trans e7
      refine s_if (b := false) (et_is (et_or (a := !true) (et_not (et_is (et_test (ev_op (x := .int (r.1 : Int)) (y := .int (r.2 : Int)) (ev_var rfl) (ev_var rfl) rv_I0)) (decide_eq_true (show (r.1 : Int) ≤ (r.2 : Int) by omega)))) fun _ => et_or (a := !true) (b := false) (et_is (et_test (neD (d := .list []) (e := .list []) (dVar (v := .ref pl) rfl (.lst (sq_of h7) A7)) (nLst daNil (Nat.zero_le _)).asD rfl rfl)) (congrArg (fun z => !z) (eqvSame rfl))) fun _ => et_is (et_test (inD (neg := false) (x := (r.1 : Int) - 1) (ev_op (ev_var (v := .int (r.1 : Int)) rfl) ev_c rv_I0) (ev_var (v := .ref pn) rfl) (SB.mono e07 dN'))) ?_) rfl) (fun z => nomatch z) (fun _ H8 e8 => ?_)
      · show decide _ = false
        refine decide_eq_false fun hm => ?_
        obtain ⟨j, hj, ej⟩ := mem_ints.mp hm
        have h0 : r.1 ≠ 0 := by omega
        have hja := (mem_filt.mp hj).2
        rw [show j = r.1 - 1 by omega, ahead h0] at hja; cases hja
      have e08 := e07.trans e8
      have fin : ∀ H9, Ex H8 H9 → Ex H5 H9 ∧ ∃ b6 b7 b8 b9, ([some (.ref a), some (.ref d), some (.int (n : Int)), some (.ref p1), some (.ref pn), some (.ref pf), some (.int (i : Nat)), some (.int (r.1 : Int)), some (.int (r.2 : Int)), some (.ref pl), none, none, none] : L2.St) = [some (.ref a), some (.ref d), some (.int (n : Int)), some (.ref p1), some (.ref pn), some (.ref pf), b6, b7, b8, b9, none, none, none] := fun H9 e9 => ⟨e08.trans e9, _, _, _, _, rfl⟩
      by_cases c : 0 < i
      · have hpi : i - 1 < ts.length := by omega
        have gg := gap ts[i - 1] (List.getElem?_eq_getElem hpi) c
        exact s_if (b := false) (et_is (et_and (a := true) (b := false) (et_is (et_test (ev_op (x := .int (i : Nat)) (y := .int 0) (ev_var rfl) ev_c rv_I0)) (decide_eq_true (show (0 : Int) < ((i : Nat) : Int) by omega))) fun _ => et_is (et_test (ev_op (ev_op (x := .int (ts[i - 1].2 : Int)) (dIxT (d := .int (ts[i - 1].2 : Int)) (i := 1) (dIxL (i := ((i - 1 : Nat) : Int)) (d := rD ts[i - 1]) (dVar (v := .ref pf) rfl (SB.mono e08 dF)) (ev_is (ev_op (x := .int (i : Nat)) (ev_var rfl) ev_c rv_I0) (congrArg V.int (by omega))) (atI_nat (by rw [List.getElem?_map, List.getElem?_eq_getElem hpi]; rfl))) ev_c rfl).int ev_c rv_I0) (ev_var (v := .int (r.1 : Int)) rfl) rv_I0)) (decide_eq_false (show ¬ ((r.1 : Int) ≤ (ts[i - 1].2 : Int) + 1) by omega))) rfl) (fun z => nomatch z) (fun _ H9 e9 => fin H9 e9)
      · exact s_if (b := false) (et_is (et_and (a := false) (b := false) (et_is (et_test (ev_op (x := .int (i : Nat)) (y := .int 0) (ev_var rfl) ev_c rv_I0)) (decide_eq_false (show ¬ (0 : Int) < ((i : Nat) : Int) by omega))) fun z => nomatch z) rfl) (fun z => nomatch z) (fun _ H9 e9 => fin H9 e9)
    · obtain ⟨e6, b6, b7, b8, b9, rfl⟩ := p
      have hmm : (List.range n).filter (memB ts) = (List.range n).filter (memB rs) := List.filter_congr fun k hk => by rw [hts]; exact told_mem _ n k (List.mem_range.mp hk)
      refine s_if (b := false) (et_is (et_or (a := !true) (b := false) (et_is (et_test (neD (nCall (R := RMembers) (da2 (dVar (v := .int (n : Int)) rfl (.int (n : Int))) (dVar (v := .ref pf) rfl (SB.mono e6 dF))) ⟨n, ts, rfl, hn1, hn64, tg, rfl⟩).asD (dVar (v := .ref pn) rfl (SB.mono e6 dN)) (sh_msD _) (sh_msD _))) (by
        show (!PyData.eqv (.list (msD ((List.range n).filter (memB ts)))) _) = _
        rw [hmm, eqvSame (sh_msD _)])) fun _ => et_is (et_test (ev_op (lenD (v := .ref pf) rfl (.inl (SB.mono e6 dF)) rfl) (lenD (v := .ref p1) rfl (.inl (SB.mono e6 s5)) rfl) rv_I0)) (decide_eq_false ?_)) rfl) (fun z => nomatch z) (fun _ H7 e7 => ?_)
      · rw [List.length_map, List.length_map]
        have := fewest (n := n) (f := memB rs) (rs := rs) g1.ok (fun _ _ => rfl)
        rw [← hts] at this
        omega
      refine ⟨Nat.zero_le _, fun po hpo => ?_⟩
      have e57 := e6.trans e7
      have e58 : Ex H5 (upd H7 po (.lst [])) := e57.trans (Ex.new hpo)
      have h8o : (upd H7 po (.lst [])) po = some (.lst []) := upd_same
      generalize upd H7 po (.lst []) = H8 at e58 h8o
      have d5 : DSt H5 d := (Dk.of d3 (e4.trans e5)).st
      have D8 : Dk d H5 H8 := Dk.of d5 e58
      have pfd : pf ≠ d := (Dk.of d3 e4).st.ne hpf
      have pnd : pn ≠ d := d3.ne hpn
      refine ⟨.ref d, rfl, .ref pf, rfl, d, .ref pf, ts, rfl, D8.st, SB.mono e58 dF, by omega, fun us pm xm H9 pu hpm D9 h9m A9m => ?_⟩
      have pmd : pm ≠ d := D8.st.ne hpm
      refine ⟨pm, rfl, ⟨xm, sq_of h9m⟩, ?_⟩
      have hul : us.length = ts.length := pu.length_eq
      have hxm : xm.length = us.length := by rw [allLen A9m, List.length_map]
      have h5n := e5 pn _ h4n
      have A5n := monoA e5 A4n
      have D59 := D8.trans D9
      refine for_list (K := K) (a := pm) (xs := xm) (fun i σ' H' => DSt H' d ∧ H' pm = some (.lst xm) ∧ DpAll K H' xm (us.map rD) ∧ H' pf = some (.lst xf) ∧ DpAll K H' xf (ts.map rD) ∧ H' pn = some (.lst xn) ∧ DpAll K H' xn (msD ((List.range n).filter (memB rs))) ∧
        ∃ (po : Addr) (xo : List V) (os : List (Nat × Nat)), H' po = some (.lst xo) ∧ po ≠ d ∧ DpAll K H' xo (os.map rD) ∧ (∀ r ∈ os, r.1 ≤ r.2 ∧ r.2 < n) ∧ (∀ k, memB os k = memB (us.take i) k) ∧ os.length ≤ 2 * i ∧ ∃ b7 b8 b11, σ' = [some (.ref a), some (.ref d), some (.int (n : Int)), some (.ref p1), some (.ref pn), some (.ref pf), b6, b7, b8, b9, some (.ref po), b11, none]) ⟨D9.st, h9m, A9m, D59.keep pfd h5f, D59.keepT d5 (noRs ts) A5f, D59.keep pnd h5n, D59.keepT d5 (noMs _) A5n, po, [], [], D9.keep (D8.st.ne' h8o) h8o, D8.st.ne' h8o, .nil, fun _ h => by simp at h, fun _ => rfl, Nat.zero_le _, b7, b8, none, rfl⟩ (fun i σ' H' _ p => sq_of p.2.1) (fun i x σ' H' hx p => ?_) (fun σ' Hz p => ?_)
      · obtain ⟨dz, k1, k2, k3, k4, k5, k6, po, xo, os, ko, kd, kA, kg, km, kl, b7, b8, b11, rfl⟩ := p
        have hil : i < us.length := by rw [← hxm]; exact (List.getElem?_eq_some_iff.mp hx).1
        have hdx := allAt k2 hx
        rw [getD_map rD (List.getElem?_eq_getElem hil)] at hdx
        have hum : us[i] ∈ ts := pu.mem_iff.mp (List.getElem_mem hil)
        have gu := tg.ok us[i] hum
        generalize hri : us[i] = r at hdx gu
        refine gPair hdx fun y1 y2 hy1 hy2 => ?_
        cases dpInt hy1
        cases dpInt hy2
        -- at = first + _law_off(d, last - first + 1)
        refine ⟨.int (r.1 : Int), rfl, ?_⟩
        refine offCall (d := d) (m := (r.2 : Int) - (r.1 : Int) + 1) rfl (fun Q q => ⟨.int (r.2 : Int), rfl, .int (r.1 : Int), rfl, (r.2 : Int), (r.1 : Int), rfl, rfl, (r.2 : Int) - (r.1 : Int), 1, rfl, rfl, q⟩) dz ⟨by omega, by omega⟩ fun o Ha ho0 ho1 Da => ⟨(r.1 : Int), o, rfl, rfl, ?_⟩
        obtain ⟨at', hat, hat1, hat2⟩ : ∃ at' : Nat, (r.1 : Int) + o = (at' : Int) ∧ r.1 ≤ at' ∧ at' ≤ r.2 := ⟨((r.1 : Int) + o).toNat, by omega, by omega, by omega⟩
        show gName 11 (.int ((r.1 : Int) + o)) _ _ _
        rw [hat]
        -- other + [..][..]
        refine ⟨.ref po, rfl, ?_⟩
        refine pLst (K := K) (psCons (ds := [(r.1, r.2)].map rD) (nLst (da1 (dTup (da2 (dVar (v := .int (r.1 : Int)) rfl (.int (r.1 : Int))) (dVar (v := .int (r.2 : Int)) rfl (.int (r.2 : Int)))) (by show 2 ≤ 100000; decide))) (by show 1 ≤ 100000; decide)) (psCons (ds := [(r.1, at'), (at', r.2)].map rD) (nLst (da2 (dTup (da2 (dVar (v := .int (r.1 : Int)) rfl (.int (r.1 : Int))) (dVar (v := .int (at' : Int)) rfl (.int (at' : Int)))) (by show 2 ≤ 100000; decide)) (dTup (da2 (dVar (v := .int (at' : Int)) rfl (.int (at' : Int))) (dVar (v := .int (r.2 : Int)) rfl (.int (r.2 : Int)))) (by show 2 ≤ 100000; decide))) (by show 2 ≤ 100000; decide)) (psCons (ds := [(r.1, at'), (r.1, r.2)].map rD) (nLst (da2 (dTup (da2 (dVar (v := .int (r.1 : Int)) rfl (.int (r.1 : Int))) (dVar (v := .int (at' : Int)) rfl (.int (at' : Int)))) (by show 2 ≤ 100000; decide)) (dTup (da2 (dVar (v := .int (r.1 : Int)) rfl (.int (r.1 : Int))) (dVar (v := .int (r.2 : Int)) rfl (.int (r.2 : Int)))) (by show 2 ≤ 100000; decide))) (by show 2 ≤ 100000; decide)) psNil))) (by show 3 ≤ 100000; decide) fun ql ps Hb hql eb hbq pr nq => ?_
        obtain ⟨q1, q2, q3, w1, w2, w3, rfl, ⟨n1, n2, n3⟩, ⟨hq1, A1⟩, ⟨hq2, A2⟩, hq3, A3⟩ := parts3 pr
        have Db := Da.trans (Dk.of Da.st eb)
        refine offCall (d := d) (m := 3) rfl (fun Q q => q) Db.st (by decide) fun v Hc hv0 hv1 Dc => ?_
        have Dac := Db.trans Dc
        have qld : ql ≠ d := Da.st.ne hql
        obtain ⟨j, rfl⟩ : ∃ j : Nat, v = (j : Int) := ⟨v.toNat, by omega⟩
        have hj : j < 3 := by omega
        obtain ⟨qj, wj, cs, hqj, hqjd, hcj, Aj, hcs, hcl, hcm⟩ : ∃ (qj : Addr) (wj : List V) (cs : List (Nat × Nat)), ([q1, q2, q3].map V.ref)[j]? = some (.ref qj) ∧ qj ≠ d ∧ Hc qj = some (.lst wj) ∧ DpAll K Hc wj (cs.map rD) ∧ (∀ z ∈ cs, z.1 ≤ z.2 ∧ z.2 < n) ∧ cs.length ≤ 2 ∧ ∀ k, memB cs k = (decide (r.1 ≤ k) && decide (k ≤ r.2)) := by
          have two : ∀ (x y : Nat × Nat), (x.1 ≤ x.2 ∧ x.2 < n) → (y.1 ≤ y.2 ∧ y.2 < n) → ∀ z ∈ [x, y], z.1 ≤ z.2 ∧ z.2 < n := fun x y hx hy z hz => by
            rcases List.mem_cons.mp hz with e | e
            · rw [e]; exact hx
            · rw [List.mem_singleton.mp e]; exact hy
          match j, hj with
          | 0, _ => exact ⟨q1, w1, [(r.1, r.2)], rfl, Da.st.ne n1, Dc.keep (Da.st.ne n1) hq1, Dc.keepT Db.st (noRs _) A1, fun z hz => by rw [List.mem_singleton.mp hz]; exact gu, by show 1 ≤ 2; decide, fun k => memB_one _ k⟩
          | 1, _ => exact ⟨q2, w2, [(r.1, at'), (at', r.2)], rfl, Da.st.ne n2, Dc.keep (Da.st.ne n2) hq2, Dc.keepT Db.st (noRs _) A2, two _ _ ⟨hat1, by show at' < n; omega⟩ ⟨hat2, gu.2⟩, by show 2 ≤ 2; decide, fun k => by
              rw [memB_cons, memB_one, Bool.eq_iff_iff]
              simp only [Bool.or_eq_true, Bool.and_eq_true, decide_eq_true_eq]
              omega⟩
          | 2, _ => exact ⟨q3, w3, [(r.1, at'), (r.1, r.2)], rfl, Da.st.ne n3, Dc.keep (Da.st.ne n3) hq3, Dc.keepT Db.st (noRs _) A3, two _ _ ⟨hat1, by show at' < n; omega⟩ gu, by show 2 ≤ 2; decide, fun k => by
              rw [memB_cons, memB_one, Bool.eq_iff_iff]
              simp only [Bool.or_eq_true, Bool.and_eq_true, decide_eq_true_eq]
              omega⟩
        refine ⟨ql, _, (j : Int), .ref qj, rfl, rfl, sq_of (Dc.keep qld hbq), atI_nat hqj, ?_⟩
        have hco : Hc po = some (.lst xo) := Dac.keep kd ko
        have kAc := Dac.keepT dz (noRs os) kA
        refine ⟨po, qj, xo, wj, rfl, rfl, hco, hcj, sz_of (by rw [allLen kA, allLen Aj, List.length_map, List.length_map]; omega), fun pz hpz => ?_⟩
        have eN : Ex Hc (upd Hc pz (.lst (xo ++ wj))) := Ex.new hpz
        have Dz := Dac.trans (Dk.of Dac.st eN)
        refine ⟨Dz.st, Dz.keep pmd k1, Dz.keepT dz (noRs us) k2, Dz.keep pfd k3, Dz.keepT dz (noRs ts) k4, Dz.keep pnd k5, Dz.keepT dz (noMs _) k6, pz, xo ++ wj, os ++ cs, upd_same, Dac.st.ne hpz, by rw [List.map_append]; exact monoA eN (allApp kAc Aj), fun z hz => ?_, fun k => ?_, by rw [List.length_append]; omega, some (.int (r.1 : Int)), some (.int (r.2 : Int)), some (.int (at' : Int)), rfl⟩
        · rcases List.mem_append.mp hz with h | h
          · exact kg z h
          · exact hcs z h
        · rw [memB_append, km k, hcm k, List.take_add_one, List.getElem?_eq_getElem hil, hri]
          show _ = memB (us.take i ++ [r]) k
          rw [memB_append, memB_one]
      · obtain ⟨dz, k1, k2, k3, k4, k5, k6, po, xo, os, ko, kd, kA, kg, km, kl, b7, b8, b11, rfl⟩ := p
        rw [hxm, List.take_of_length_le (Nat.le_refl _)] at km
        have dO : Dp K Hz (.ref po) (sD os) := .lst (sq_of ko) kA
        have dF' : Dp K Hz (.ref pf) (sD ts) := .lst (sq_of k3) k4
        have dN2 : Dp K Hz (.ref pn) (.list (msD ((List.range n).filter (memB rs)))) := .lst (sq_of k5) k6
        have hmem : ∀ k, k < n → memB os k = memB rs k := fun k hk => by
          rw [km k, memB_of_perm pu k, hts, told_mem _ n k hk]
        refine s_if (b := decide ((40 : Int) < (os.length : Int))) (et_test (ev_op (ev_is (lenD (v := .ref po) rfl (.inl dO) rfl) (by rw [List.length_map])) ev_c rv_I0)) (fun hb Hy ey => q Hy) (fun hb Hy ey => ?_)
        have hol : os.length ≤ 40 := by
          have := of_decide_eq_false hb
          omega
        have go : Good n os := ⟨hol, kg⟩
        have et : told (memB os) n = ts := by rw [hts]; exact told_congr n hmem
        have em : (List.range n).filter (memB os) = (List.range n).filter (memB rs) := List.filter_congr fun k hk => hmem k (List.mem_range.mp hk)
        have A1 := nCall (K := K) (σ := [some (.ref a), some (.ref d), some (.int (n : Int)), some (.ref p1), some (.ref pn), some (.ref pf), b6, b7, b8, b9, some (.ref po), b11, none]) (H := Hy) (E := E0) (R := RPlain) (da2 (ta := tVar 2) (tb := tVar 10) (dVar (v := .int (n : Int)) rfl (.int (n : Int))) (dVar (v := .ref po) rfl (SB.mono ey dO))) ⟨n, os, rfl, hn1, hn64, go, rfl⟩
        have A2 := nCall (K := K) (σ := [some (.ref a), some (.ref d), some (.int (n : Int)), some (.ref p1), some (.ref pn), some (.ref pf), b6, b7, b8, b9, some (.ref po), b11, none]) (H := Hy) (E := E0) (R := RMembers) (da2 (ta := tVar 2) (tb := tVar 10) (dVar (v := .int (n : Int)) rfl (.int (n : Int))) (dVar (v := .ref po) rfl (SB.mono ey dO))) ⟨n, os, rfl, hn1, hn64, go, rfl⟩
        dsimp only at A1 A2
        rw [et] at A1
        rw [em] at A2
        refine s_ret (v := .bl true) (ev_is (ev_andV (a := true) (ev_is (eqD A1.asD (dVar (v := .ref pf) rfl (SB.mono ey dF')) (sh_sD ts) (sh_sD ts)) (congrArg V.bl (eqvSame (sh_sD ts)))) fun _ => ev_andV (a := true) (b := true) (ev_is (eqD A2.asD (dVar (v := .ref pn) rfl (SB.mono ey dN2)) (sh_msD _) (sh_msD _)) (congrArg V.bl (eqvSame (sh_msD _)))) fun _ => ev_is (ev_op (lenD (v := .ref pf) rfl (.inl (SB.mono ey dF')) rfl) (lenD (v := .ref po) rfl (.inl (SB.mono ey dO)) rfl) rv_I0) (congrArg V.bl (decide_eq_true ?_))) rfl) fun H9 _ => q H9
        rw [List.length_map, List.length_map]
        have := fewest (n := n) (f := memB rs) (rs := os) kg hmem
        rw [← hts] at this
        omega
end

section
theorem all_mk {l : PySem.W.OpenLaw} {w : World} {K : PySem.W.Frag} {h : Heap} {mg : Str → Option Value} {fa : Addr} (X : K.In h) (G : h.Ns mainGlobals mg) (hfa : mg "law" = some (.ref fa))
    {f0 : Addr} {od0 an0 : Option Addr} {sl0 : Array (Option Value)} {oc0 kV0 dc0 pm0 cd0 ct0 : Value}
    (a0 : PySem.W.nsIn K mainGlobals "check_size" = some (some (.ref f0))) (l0 : K.lookup f0 = some ⟨oc0, od0, .func (PySem.W.fnOf "check_size" "check_size" (defArgs sCheckSize) (defBody sCheckSize) (defScope sCheckSize) .none kV0 dc0 pm0 an0 cd0 ct0), sl0⟩) (c0 : PySem.W.codeIn K cd0 "check_size" = true) (k0 : PySem.W.keepIn K (.ref f0) = true)
    {f1 : Addr} {od1 an1 : Option Addr} {sl1 : Array (Option Value)} {oc1 kV1 dc1 pm1 cd1 ct1 : Value}
    (a1 : PySem.W.nsIn K mainGlobals "check_set" = some (some (.ref f1))) (l1 : K.lookup f1 = some ⟨oc1, od1, .func (PySem.W.fnOf "check_set" "check_set" (defArgs sCheckSet) (defBody sCheckSet) (defScope sCheckSet) .none kV1 dc1 pm1 an1 cd1 ct1), sl1⟩) (c1 : PySem.W.codeIn K cd1 "check_set" = true) (k1 : PySem.W.keepIn K (.ref f1) = true)
    {f2 : Addr} {od2 an2 : Option Addr} {sl2 : Array (Option Value)} {oc2 kV2 dc2 pm2 cd2 ct2 : Value}
    (a2 : PySem.W.nsIn K mainGlobals "marks_of" = some (some (.ref f2))) (l2 : K.lookup f2 = some ⟨oc2, od2, .func (PySem.W.fnOf "marks_of" "marks_of" (defArgs sMarksOf) (defBody sMarksOf) (defScope sMarksOf) .none kV2 dc2 pm2 an2 cd2 ct2), sl2⟩) (c2 : PySem.W.codeIn K cd2 "marks_of" = true) (k2 : PySem.W.keepIn K (.ref f2) = true)
    {f3 : Addr} {od3 an3 : Option Addr} {sl3 : Array (Option Value)} {oc3 kV3 dc3 pm3 cd3 ct3 : Value}
    (a3 : PySem.W.nsIn K mainGlobals "checked_marks" = some (some (.ref f3))) (l3 : K.lookup f3 = some ⟨oc3, od3, .func (PySem.W.fnOf "checked_marks" "checked_marks" (defArgs sCheckedMarks) (defBody sCheckedMarks) (defScope sCheckedMarks) .none kV3 dc3 pm3 an3 cd3 ct3), sl3⟩) (c3 : PySem.W.codeIn K cd3 "checked_marks" = true) (k3 : PySem.W.keepIn K (.ref f3) = true)
    {f4 : Addr} {od4 an4 : Option Addr} {sl4 : Array (Option Value)} {oc4 kV4 dc4 pm4 cd4 ct4 : Value}
    (a4 : PySem.W.nsIn K mainGlobals "ranges_of" = some (some (.ref f4))) (l4 : K.lookup f4 = some ⟨oc4, od4, .func (PySem.W.fnOf "ranges_of" "ranges_of" (defArgs sRangesOf) (defBody sRangesOf) (defScope sRangesOf) .none kV4 dc4 pm4 an4 cd4 ct4), sl4⟩) (c4 : PySem.W.codeIn K cd4 "ranges_of" = true) (k4 : PySem.W.keepIn K (.ref f4) = true)
    {f5 : Addr} {od5 an5 : Option Addr} {sl5 : Array (Option Value)} {oc5 kV5 dc5 pm5 cd5 ct5 : Value}
    (a5 : PySem.W.nsIn K mainGlobals "members" = some (some (.ref f5))) (l5 : K.lookup f5 = some ⟨oc5, od5, .func (PySem.W.fnOf "members" "members" (defArgs sMembers) (defBody sMembers) (defScope sMembers) .none kV5 dc5 pm5 an5 cd5 ct5), sl5⟩) (c5 : PySem.W.codeIn K cd5 "members" = true) (k5 : PySem.W.keepIn K (.ref f5) = true)
    {f6 : Addr} {od6 an6 : Option Addr} {sl6 : Array (Option Value)} {oc6 kV6 dc6 pm6 cd6 ct6 : Value}
    (a6 : PySem.W.nsIn K mainGlobals "plain" = some (some (.ref f6))) (l6 : K.lookup f6 = some ⟨oc6, od6, .func (PySem.W.fnOf "plain" "plain" (defArgs sPlain) (defBody sPlain) (defScope sPlain) .none kV6 dc6 pm6 an6 cd6 ct6), sl6⟩) (c6 : PySem.W.codeIn K cd6 "plain" = true) (k6 : PySem.W.keepIn K (.ref f6) = true)
    {f7 : Addr} {od7 an7 : Option Addr} {sl7 : Array (Option Value)} {oc7 kV7 dc7 pm7 cd7 ct7 : Value}
    (a7 : PySem.W.nsIn K mainGlobals "_law_dice" = some (some (.ref f7))) (l7 : K.lookup f7 = some ⟨oc7, od7, .func (PySem.W.fnOf "_law_dice" "_law_dice" (defArgs sLawDice) (defBody sLawDice) (defScope sLawDice) .none kV7 dc7 pm7 an7 cd7 ct7), sl7⟩) (c7 : PySem.W.codeIn K cd7 "_law_dice" = true) (k7 : PySem.W.keepIn K (.ref f7) = true)
    {f8 : Addr} {od8 an8 : Option Addr} {sl8 : Array (Option Value)} {oc8 kV8 dc8 pm8 cd8 ct8 : Value}
    (a8 : PySem.W.nsIn K mainGlobals "_law_off" = some (some (.ref f8))) (l8 : K.lookup f8 = some ⟨oc8, od8, .func (PySem.W.fnOf "_law_off" "_law_off" (defArgs sLawOff) (defBody sLawOff) (defScope sLawOff) .none kV8 dc8 pm8 an8 cd8 ct8), sl8⟩) (c8 : PySem.W.codeIn K cd8 "_law_off" = true) (k8 : PySem.W.keepIn K (.ref f8) = true)
    {f9 : Addr} {od9 an9 : Option Addr} {sl9 : Array (Option Value)} {oc9 kV9 dc9 pm9 cd9 ct9 : Value}
    (a9 : PySem.W.nsIn K mainGlobals "_law_size" = some (some (.ref f9))) (l9 : K.lookup f9 = some ⟨oc9, od9, .func (PySem.W.fnOf "_law_size" "_law_size" (defArgs sLawSize) (defBody sLawSize) (defScope sLawSize) .none kV9 dc9 pm9 an9 cd9 ct9), sl9⟩) (c9 : PySem.W.codeIn K cd9 "_law_size" = true) (k9 : PySem.W.keepIn K (.ref f9) = true)
    {f10 : Addr} {od10 an10 : Option Addr} {sl10 : Array (Option Value)} {oc10 kV10 dc10 pm10 cd10 ct10 : Value}
    (a10 : PySem.W.nsIn K mainGlobals "_law_set" = some (some (.ref f10))) (l10 : K.lookup f10 = some ⟨oc10, od10, .func (PySem.W.fnOf "_law_set" "_law_set" (defArgs sLawSet) (defBody sLawSet) (defScope sLawSet) .none kV10 dc10 pm10 an10 cd10 ct10), sl10⟩) (c10 : PySem.W.codeIn K cd10 "_law_set" = true) (k10 : PySem.W.keepIn K (.ref f10) = true)
    {f11 : Addr} {od11 an11 : Option Addr} {sl11 : Array (Option Value)} {oc11 kV11 dc11 pm11 cd11 ct11 : Value}
    (a11 : PySem.W.nsIn K mainGlobals "_law_members" = some (some (.ref f11))) (l11 : K.lookup f11 = some ⟨oc11, od11, .func (PySem.W.fnOf "_law_members" "_law_members" (defArgs sLawMembers) (defBody sLawMembers) (defScope sLawMembers) .none kV11 dc11 pm11 an11 cd11 ct11), sl11⟩) (c11 : PySem.W.codeIn K cd11 "_law_members" = true) (k11 : PySem.W.keepIn K (.ref f11) = true)
    {f12 : Addr} {od12 an12 : Option Addr} {sl12 : Array (Option Value)} {oc12 kV12 dc12 pm12 cd12 ct12 : Value}
    (a12 : PySem.W.nsIn K mainGlobals "_law_mixed" = some (some (.ref f12))) (l12 : K.lookup f12 = some ⟨oc12, od12, .func (PySem.W.fnOf "_law_mixed" "_law_mixed" (defArgs sLawMixed) (defBody sLawMixed) (defScope sLawMixed) .none kV12 dc12 pm12 an12 cd12 ct12), sl12⟩) (c12 : PySem.W.codeIn K cd12 "_law_mixed" = true) (k12 : PySem.W.keepIn K (.ref f12) = true)
    {f13 : Addr} {od13 an13 : Option Addr} {sl13 : Array (Option Value)} {oc13 kV13 dc13 pm13 cd13 ct13 : Value}
    (a13 : PySem.W.nsIn K mainGlobals "law" = some (some (.ref f13))) (l13 : K.lookup f13 = some ⟨oc13, od13, .func (PySem.W.fnOf "law" "law" (defArgs sLaw) (defBody sLaw) (defScope sLaw) .none kV13 dc13 pm13 an13 cd13 ct13), sl13⟩) (c13 : PySem.W.codeIn K cd13 "law" = true) (k13 : PySem.W.keepIn K (.ref f13) = true)
    (z0 : PySem.W.nsIn K mainGlobals "enumerate" = some none)
    (z1 : PySem.W.nsIn K mainGlobals "range" = some none)
    (z2 : PySem.W.nsIn K mainGlobals "abs" = some none)
    (z3 : PySem.W.nsIn K mainGlobals "len" = some none)
    (z4 : PySem.W.nsIn K mainGlobals "min" = some none)
    (z5 : PySem.W.nsIn K mainGlobals "list" = some none)
    (z6 : PySem.W.nsIn K mainGlobals "sorted" = some none)
    (z7 : PySem.W.nsIn K mainGlobals "set" = some none)
    {t0 : Tok} (y0 : PySem.W.nsIn K mainGlobals "MOST_SIGNS" = some (some (.int 64 t0)))
    {t1 : Tok} (y1 : PySem.W.nsIn K mainGlobals "MOST_RANGES" = some (some (.int 40 t1))) :
    ∃ fd : FuncData, (∀ (s : Shared) (v : Value), BindsTo s fd ⟨[v], []⟩ [("_law_script", v)]) ∧ ∀ base : Heap, K.In base → base.Ns mainGlobals mg → FnOk l.prog w K mg base CX0 4 fa fd ["_law_script"] (spLaw K) := by
  have eL := hfa.symm.trans (PySem.W.mg_of X G a13)
  cases eL
  have FCheckSize := fun_mk (st := sCheckSize) l0 c0 k0
  have FCheckSet := fun_mk (st := sCheckSet) l1 c1 k1
  have FMarksOf := fun_mk (st := sMarksOf) l2 c2 k2
  have FCheckedMarks := fun_mk (st := sCheckedMarks) l3 c3 k3
  have FRangesOf := fun_mk (st := sRangesOf) l4 c4 k4
  have FMembers := fun_mk (st := sMembers) l5 c5 k5
  have FPlain := fun_mk (st := sPlain) l6 c6 k6
  have FLawDice := fun_mk (st := sLawDice) l7 c7 k7
  have FLawOff := fun_mk (st := sLawOff) l8 c8 k8
  have FLawSize := fun_mk (st := sLawSize) l9 c9 k9
  have FLawSet := fun_mk (st := sLawSet) l10 c10 k10
  have FLawMembers := fun_mk (st := sLawMembers) l11 c11 k11
  have FLawMixed := fun_mk (st := sLawMixed) l12 c12 k12
  have FLaw := fun_mk (st := sLaw) l13 c13 k13
  have BCheckSize := FCheckSize.binds (ps := ["size"]) fun _ _ _ _ _ _ us hl => match us, hl with | [_], _ => rfl
  have GCheckSize := PySem.W.mg_of X G a0
  have KCheckSize := k0
  have BCheckSet := FCheckSet.binds (ps := ["size", "ranges", "number"]) fun _ _ _ _ _ _ us hl => match us, hl with | [_, _, _], _ => rfl
  have GCheckSet := PySem.W.mg_of X G a1
  have KCheckSet := k1
  have BMarksOf := FMarksOf.binds (ps := ["size", "ranges"]) fun _ _ _ _ _ _ us hl => match us, hl with | [_, _], _ => rfl
  have GMarksOf := PySem.W.mg_of X G a2
  have KMarksOf := k2
  have BCheckedMarks := FCheckedMarks.binds (ps := ["size", "sets"]) fun _ _ _ _ _ _ us hl => match us, hl with | [_, _], _ => rfl
  have GCheckedMarks := PySem.W.mg_of X G a3
  have KCheckedMarks := k3
  have BRangesOf := FRangesOf.binds (ps := ["marks"]) fun _ _ _ _ _ _ us hl => match us, hl with | [_], _ => rfl
  have GRangesOf := PySem.W.mg_of X G a4
  have KRangesOf := k4
  have BMembers := FMembers.binds (ps := ["size", "ranges"]) fun _ _ _ _ _ _ us hl => match us, hl with | [_, _], _ => rfl
  have GMembers := PySem.W.mg_of X G a5
  have KMembers := k5
  have BPlain := FPlain.binds (ps := ["size", "ranges"]) fun _ _ _ _ _ _ us hl => match us, hl with | [_, _], _ => rfl
  have GPlain := PySem.W.mg_of X G a6
  have KPlain := k6
  have BLawDice := FLawDice.binds (ps := ["_law_script", "_law_k"]) fun _ _ _ _ _ _ us hl => match us, hl with | [_, _], _ => rfl
  have GLawDice := PySem.W.mg_of X G a7
  have KLawDice := k7
  have BLawOff := FLawOff.binds (ps := ["_law_d", "_law_most"]) fun _ _ _ _ _ _ us hl => match us, hl with | [_, _], _ => rfl
  have GLawOff := PySem.W.mg_of X G a8
  have KLawOff := k8
  have BLawSize := FLawSize.binds (ps := ["_law_d"]) fun _ _ _ _ _ _ us hl => match us, hl with | [_], _ => rfl
  have GLawSize := PySem.W.mg_of X G a9
  have KLawSize := k9
  have BLawSet := FLawSet.binds (ps := ["_law_d", "_law_size_here", "_law_most"]) fun _ _ _ _ _ _ us hl => match us, hl with | [_, _, _], _ => rfl
  have GLawSet := PySem.W.mg_of X G a10
  have KLawSet := k10
  have BLawMembers := FLawMembers.binds (ps := ["_law_size_here", "_law_ranges"]) fun _ _ _ _ _ _ us hl => match us, hl with | [_, _], _ => rfl
  have GLawMembers := PySem.W.mg_of X G a11
  have KLawMembers := k11
  have BLawMixed := FLawMixed.binds (ps := ["_law_d", "_law_row"]) fun _ _ _ _ _ _ us hl => match us, hl with | [_, _], _ => rfl
  have GLawMixed := PySem.W.mg_of X G a12
  have KLawMixed := k12
  have m_enumerate := PySem.W.mg_none_of X G z0
  have m_range := PySem.W.mg_none_of X G z1
  have m_abs := PySem.W.mg_none_of X G z2
  have m_len := PySem.W.mg_none_of X G z3
  have m_min := PySem.W.mg_none_of X G z4
  have m_list := PySem.W.mg_none_of X G z5
  have m_sorted := PySem.W.mg_none_of X G z6
  have m_set := PySem.W.mg_none_of X G z7
  have m_MOST_SIGNS := PySem.W.mg_of X G y0
  have m_MOST_RANGES := PySem.W.mg_of X G y1
  refine ⟨PySem.W.fnOf "law" "law" (defArgs sLaw) (defBody sLaw) (defScope sLaw) .none kV13 dc13 pm13 an13 cd13 ct13, fun s v => .of_eq rfl, fun base _ _ => ?_⟩
  have OCheckSize := ok_size (P := l.prog) (w := w) (base := base) (k := 0) FCheckSize m_MOST_SIGNS
  have OCheckSet := ok_set (P := l.prog) (w := w) (base := base) (k := 0) FCheckSet m_MOST_RANGES m_enumerate
  have OMarksOf := ok_marks (P := l.prog) (w := w) (base := base) (k := 0) FMarksOf m_range
  have OCheckedMarks := ok_checked (k := 0) FCheckedMarks OCheckSize GCheckSize KCheckSize BCheckSize OCheckSet GCheckSet KCheckSet BCheckSet OMarksOf GMarksOf KMarksOf BMarksOf m_enumerate
  have ORangesOf := ok_ranges (P := l.prog) (w := w) (base := base) (k := 1) FRangesOf m_enumerate
  have OMembers := ok_members (k := 0) FMembers OCheckedMarks GCheckedMarks KCheckedMarks BCheckedMarks m_enumerate
  have OPlain := ok_plain (k := 0) FPlain OCheckedMarks GCheckedMarks KCheckedMarks BCheckedMarks ORangesOf GRangesOf KRangesOf BRangesOf
  have OLawDice := ok_dice (P := l.prog) (w := w) (base := base) (k := 2) FLawDice m_abs
  have OLawOff := ok_off (P := l.prog) (w := w) (base := base) (k := 1) FLawOff m_len
  have OLawSize := ok_lsize (k := 1) FLawSize OLawOff GLawOff KLawOff BLawOff
  have OLawSet := ok_lset (k := 1) FLawSet OLawOff GLawOff KLawOff BLawOff m_range m_min
  have OLawMembers := ok_lmem (P := l.prog) (w := w) (base := base) (k := 2) FLawMembers m_list m_range m_sorted m_set
  have OLawMixed := ok_lmix (k := 1) FLawMixed OLawOff GLawOff KLawOff BLawOff m_list m_len
  exact ok_law FLaw ⟨⟨_, _, OLawDice, GLawDice, KLawDice, BLawDice⟩⟩ ⟨⟨_, _, ok_off (P := l.prog) (w := w) (base := base) (k := 2) FLawOff m_len, GLawOff, KLawOff, BLawOff⟩⟩ ⟨⟨_, _, OLawSize, GLawSize, KLawSize, BLawSize⟩⟩ ⟨⟨_, _, OLawSet, GLawSet, KLawSet, BLawSet⟩⟩ ⟨⟨_, _, OLawMembers, GLawMembers, KLawMembers, BLawMembers⟩⟩ ⟨⟨_, _, OLawMixed, GLawMixed, KLawMixed, BLawMixed⟩⟩ ⟨⟨_, _, OPlain, GPlain, KPlain, BPlain⟩⟩ ⟨⟨_, _, OMembers, GMembers, KMembers, BMembers⟩⟩ m_range m_len
end
end SG
open PySem PySem.W PyProof.Rows
set_option maxHeartbeats 0 in
theorem PySem.Challenge.cw_signsets_k04_whole_the_fewest_ranges_holds : PySem.Challenge.rw_signsets_k04_whole_the_fewest_ranges.Holds := by
  w_on; o_law; k_head; (case hw => w_witness2)
  k_fill
  refine L2.walk_of (l := PySem.Challenge.rw_signsets_k04_whole_the_fewest_ranges) (n := 63) (k := 4) (x := "_law_script") (CX := fun _ => L2.CX0) (sp := fun w => SG.spLaw _) rfl (by decide) rfl ⟨rfl, by decide, by decide⟩ (fun w h Y => PySem.W.kIn_of Y) ?F (fun _ _ a ns hl _ hS => ⟨a, ns, rfl, hS, hl, fun _ => rfl⟩) (fun _ _ _ _ _ h => h)
  case F =>
    intro w mg fa h KX G hmg
    refine' SG.all_mk KX G hmg ?a0 ?l0 ?c0 ?k0 ?a1 ?l1 ?c1 ?k1 ?a2 ?l2 ?c2 ?k2 ?a3 ?l3 ?c3 ?k3 ?a4 ?l4 ?c4 ?k4 ?a5 ?l5 ?c5 ?k5 ?a6 ?l6 ?c6 ?k6 ?a7 ?l7 ?c7 ?k7 ?a8 ?l8 ?c8 ?k8 ?a9 ?l9 ?c9 ?k9 ?a10 ?l10 ?c10 ?k10 ?a11 ?l11 ?c11 ?k11 ?a12 ?l12 ?c12 ?k12 ?a13 ?l13 ?c13 ?k13 ?z0 ?z1 ?z2 ?z3 ?z4 ?z5 ?z6 ?z7 ?y0 ?y1
    (case a0 => k_is); (case l0 => k_is); (case c0 => k_is); (case k0 => k_is); (case a1 => k_is); (case l1 => k_is); (case c1 => k_is); (case k1 => k_is)
    (case a2 => k_is); (case l2 => k_is); (case c2 => k_is); (case k2 => k_is); (case a3 => k_is); (case l3 => k_is); (case c3 => k_is); (case k3 => k_is)
    (case a4 => k_is); (case l4 => k_is); (case c4 => k_is); (case k4 => k_is); (case a5 => k_is); (case l5 => k_is); (case c5 => k_is); (case k5 => k_is)
    (case a6 => k_is); (case l6 => k_is); (case c6 => k_is); (case k6 => k_is); (case a7 => k_is); (case l7 => k_is); (case c7 => k_is); (case k7 => k_is)
    (case a8 => k_is); (case l8 => k_is); (case c8 => k_is); (case k8 => k_is); (case a9 => k_is); (case l9 => k_is); (case c9 => k_is); (case k9 => k_is)
    (case a10 => k_is); (case l10 => k_is); (case c10 => k_is); (case k10 => k_is); (case a11 => k_is); (case l11 => k_is); (case c11 => k_is); (case k11 => k_is)
    (case a12 => k_is); (case l12 => k_is); (case c12 => k_is); (case k12 => k_is); (case a13 => k_is); (case l13 => k_is); (case c13 => k_is); (case k13 => k_is)
    (case z0 => k_is); (case z1 => k_is); (case z2 => k_is); (case z3 => k_is); (case z4 => k_is); (case z5 => k_is); (case z6 => k_is); (case z7 => k_is)
    (case y0 => k_is); (case y1 => k_is)

