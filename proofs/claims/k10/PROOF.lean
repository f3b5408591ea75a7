import PyProof.Rows.All
import Wide.All
import OpenK.AllK
import Wide.FinOn
import HandS.ForMost
import HandS.Walk
import HandS.Evl
import HandS.NoneIn
import HandS.Style
import HandS.Conv
import HandS.Set
import HandS.Strs
import HandS.SetFor
import HandS.SortInts
import HandS.IsInst
import HandS.SetKeys
import KE.DatumOrd
import PyProof.Rows.StrPadWhole
import HandS.SetBool
import HandS.TupLen
import PyProof.DictMoreH
import PySem.Challenge.RW_signsets_k10_whole_classes
set_option Elab.async false
set_option linter.all false
set_option maxRecDepth 100000
set_option maxHeartbeats 4000001
namespace SM
/-- whether a sign is in one of the ranges -/
def memB (rs : List (Nat × Nat)) (k : Nat) : Bool := rs.any fun r => decide (r.1 ≤ k) && decide (k ≤ r.2)
/-- the start of the run behind sign i, and the runs told so far -/
def st (m : Nat → Bool) : Nat → Nat
  | 0 => 0
  | i + 1 => if m i = true then st m i else i + 1
def told (m : Nat → Bool) : Nat → List (Nat × Nat)
  | 0 => []
  | i + 1 => if m i = true then (if st m i = i then told m i ++ [(i, i)] else (told m i).dropLast ++ [(st m i, i)]) else told m i
theorem st_yes {m : Nat → Bool} {i : Nat} (h : m i = true) : st m (i + 1) = st m i := by rw [st, if_pos h]
theorem st_no {m : Nat → Bool} {i : Nat} (h : m i = false) : st m (i + 1) = i + 1 := by rw [st, if_neg (by rw [h]; decide)]
theorem memB_nil (k : Nat) : memB [] k = false := rfl
theorem memB_cons (r : Nat × Nat) (rs : List (Nat × Nat)) (k : Nat) : memB (r :: rs) k = ((decide (r.1 ≤ k) && decide (k ≤ r.2)) || memB rs k) := rfl
theorem memB_append (a b : List (Nat × Nat)) (k : Nat) : memB (a ++ b) k = (memB a k || memB b k) := List.any_append
theorem memB_one (r : Nat × Nat) (k : Nat) : memB [r] k = (decide (r.1 ≤ k) && decide (k ≤ r.2)) := by
  rw [memB_cons, memB_nil, Bool.or_false]
theorem memB_iff {rs : List (Nat × Nat)} {k : Nat} : memB rs k = true ↔ ∃ r ∈ rs, r.1 ≤ k ∧ k ≤ r.2 := by
  unfold memB
  rw [List.any_eq_true]
  constructor
  · rintro ⟨r, h, e⟩
    rw [Bool.and_eq_true, decide_eq_true_eq, decide_eq_true_eq] at e
    exact ⟨r, h, e⟩
  · rintro ⟨r, h, e⟩
    exact ⟨r, h, by rw [Bool.and_eq_true, decide_eq_true_eq, decide_eq_true_eq]; exact e⟩
theorem memB_perm {a b : List (Nat × Nat)} (h : ∀ r, r ∈ a ↔ r ∈ b) (k : Nat) : memB a k = memB b k := by
  rw [Bool.eq_iff_iff, memB_iff, memB_iff]
  constructor
  · rintro ⟨r, q, e⟩; exact ⟨r, (h r).mp q, e⟩
  · rintro ⟨r, q, e⟩; exact ⟨r, (h r).mpr q, e⟩
theorem st_le (m : Nat → Bool) : ∀ i, st m i ≤ i
  | 0 => Nat.le_refl 0
  | i + 1 => by
    have := st_le m i
    unfold st
    split <;> omega
/-- rising, with a gap between each two -/
structure Sep (rs : List (Nat × Nat)) : Prop where
  le : ∀ r ∈ rs, r.1 ≤ r.2
  gap : rs.Pairwise fun r s => r.2 + 1 < s.1
/-- what the loop keeps -/
structure Kept (m : Nat → Bool) (i : Nat) : Prop where
  run : ∀ k, st m i ≤ k → k < i → m k = true
  edge : st m i = 0 ∨ ∃ j, st m i = j + 1 ∧ m j = false
  shape : ∃ pre, told m i = pre ++ (if st m i < i then [(st m i, i - 1)] else []) ∧ Sep pre ∧ (∀ r ∈ pre, r.2 + 1 < st m i) ∧ (∀ k, k < st m i → memB pre k = m k)
theorem kept (m : Nat → Bool) : ∀ i, Kept m i
  | 0 => ⟨fun k _ h => absurd h (Nat.not_lt_zero k), .inl rfl, [], rfl, ⟨fun _ h => by simp at h, List.Pairwise.nil⟩, fun _ h => by simp at h, fun k h => absurd h (Nat.not_lt_zero k)⟩
  | i + 1 => by
    have K := kept m i
    have hle := st_le m i
    obtain ⟨pre, e, sp, hb, hm⟩ := K.shape
    cases hi : m i with
    | true =>
      have es : st m (i + 1) = st m i := by rw [st, if_pos hi]
      refine ⟨fun k h1 h2 => ?_, ?_, pre, ?_, sp, ?_, ?_⟩
      · rw [es] at h1
        by_cases c : k = i
        · rw [c]; exact hi
        · exact K.run k h1 (by omega)
      · rw [es]; exact K.edge
      · rw [es, if_pos (by omega), Nat.add_sub_cancel, told, if_pos hi]
        by_cases c : st m i = i
        · rw [if_pos c, e, if_neg (by omega), List.append_nil, c]
        · rw [if_neg c, e, if_pos (by omega), List.dropLast_concat]
      · rw [es]; exact hb
      · rw [es]; exact hm
    | false =>
      have es : st m (i + 1) = i + 1 := by rw [st, if_neg (by rw [hi]; decide)]
      have et : told m (i + 1) = told m i := by rw [told, if_neg (by rw [hi]; decide)]
      refine ⟨fun k h1 h2 => by omega, .inr ⟨i, es, hi⟩, told m i, ?_, ?_, ?_, ?_⟩
      · rw [es, if_neg (by omega), List.append_nil, et]
      · rw [e]
        by_cases c : st m i < i
        · rw [if_pos c]
          refine ⟨fun r h => ?_, ?_⟩
          · rcases List.mem_append.mp h with h | h
            · exact sp.le r h
            · rw [List.mem_singleton.mp h]; show st m i ≤ i - 1; omega
          · refine List.pairwise_append.mpr ⟨sp.gap, List.pairwise_singleton _ _, fun r h s hs => ?_⟩
            rw [List.mem_singleton.mp hs]
            exact hb r h
        · rw [if_neg c, List.append_nil]; exact sp
      · intro r h
        rw [es]
        rw [e] at h
        rcases List.mem_append.mp h with h | h
        · have := hb r h; omega
        · by_cases c : st m i < i
          · rw [if_pos c] at h
            rw [List.mem_singleton.mp h]
            show i - 1 + 1 < i + 1
            omega
          · rw [if_neg c] at h; simp at h
      · intro k hk
        rw [es] at hk
        rw [e, memB_append]
        by_cases c : st m i < i
        · rw [if_pos c, memB_one]
          by_cases c2 : k < st m i
          · rw [hm k c2, decide_eq_false (show ¬ st m i ≤ k by omega), Bool.false_and, Bool.or_false]
          · have np : memB pre k = false := by
              cases q : memB pre k with
              | false => rfl
              | true =>
                obtain ⟨r, hr, _, h2⟩ := memB_iff.mp q
                have := hb r hr
                omega
            rw [np, Bool.false_or]
            by_cases c3 : k = i
            · rw [c3, hi, decide_eq_false (show ¬ i ≤ i - 1 by omega), Bool.and_false]
            · rw [K.run k (by omega) (by omega), decide_eq_true (show st m i ≤ k by omega), decide_eq_true (show k ≤ i - 1 by omega)]; rfl
        · rw [if_neg c, memB_nil, Bool.or_false]
          by_cases c2 : k < st m i
          · exact hm k c2
          · have ek : k = i := by omega
            subst ek
            rw [hi]
            cases q : memB pre k with
            | false => rfl
            | true =>
              obtain ⟨r, hr, _, h2⟩ := memB_iff.mp q
              have := hb r hr
              omega
theorem told_sep (m : Nat → Bool) (n : Nat) : Sep (told m n) := by
  obtain ⟨pre, e, sp, hb, hm⟩ := (kept m n).shape
  rw [e]
  by_cases c : st m n < n
  · rw [if_pos c]
    refine ⟨fun r h => ?_, ?_⟩
    · rcases List.mem_append.mp h with h | h
      · exact sp.le r h
      · rw [List.mem_singleton.mp h]; show st m n ≤ n - 1; omega
    · refine List.pairwise_append.mpr ⟨sp.gap, List.pairwise_singleton _ _, fun r h s hs => ?_⟩
      rw [List.mem_singleton.mp hs]
      exact hb r h
  · rw [if_neg c, List.append_nil]; exact sp
theorem told_below (m : Nat → Bool) (n : Nat) : ∀ r ∈ told m n, r.2 < n := by
  obtain ⟨pre, e, sp, hb, hm⟩ := (kept m n).shape
  have hle := st_le m n
  intro r h
  rw [e] at h
  rcases List.mem_append.mp h with h | h
  · have := hb r h; omega
  · by_cases c : st m n < n
    · rw [if_pos c] at h
      rw [List.mem_singleton.mp h]
      show n - 1 < n
      omega
    · rw [if_neg c] at h; simp at h
theorem told_mem (m : Nat → Bool) (n k : Nat) (hk : k < n) : memB (told m n) k = m k := by
  have K := kept m n
  have hle := st_le m n
  obtain ⟨pre, e, sp, hb, hm⟩ := K.shape
  rw [e, memB_append]
  by_cases c2 : k < st m n
  · rw [hm k c2]
    by_cases c : st m n < n
    · rw [if_pos c, memB_one, decide_eq_false (show ¬ st m n ≤ k by omega), Bool.false_and, Bool.or_false]
    · rw [if_neg c, memB_nil, Bool.or_false]
  · rw [if_pos (by omega), memB_one, K.run k (by omega) hk, decide_eq_true (show st m n ≤ k by omega), decide_eq_true (show k ≤ n - 1 by omega)]
    exact Bool.or_true _
theorem st_congr {m m' : Nat → Bool} : ∀ n, (∀ k, k < n → m k = m' k) → st m n = st m' n
  | 0, _ => rfl
  | n + 1, h => by
    rw [st, st, h n (Nat.lt_succ_self n), st_congr n fun k hk => h k (Nat.lt_succ_of_lt hk)]
theorem told_congr {m m' : Nat → Bool} : ∀ n, (∀ k, k < n → m k = m' k) → told m n = told m' n
  | 0, _ => rfl
  | n + 1, h => by
    have h' : ∀ k, k < n → m k = m' k := fun k hk => h k (Nat.lt_succ_of_lt hk)
    rw [told, told, h n (Nat.lt_succ_self n), st_congr n h', told_congr n h']
theorem sep_len : ∀ (rs : List (Nat × Nat)) (a n : Nat), Sep rs → (∀ r ∈ rs, a ≤ r.1 ∧ r.2 < n) → a ≤ n + 1 → 2 * rs.length + a ≤ n + 1
  | [], a, n, _, _, h => by simpa using h
  | r :: rs, a, n, s, h, ha => by
    have h1 := s.le r List.mem_cons_self
    have h2 := h r List.mem_cons_self
    have g := List.pairwise_cons.mp s.gap
    have s' : Sep rs := ⟨fun q hq => s.le q (List.mem_cons_of_mem _ hq), g.2⟩
    have ih := sep_len rs (r.2 + 2) n s' (fun q hq => by
      have a1 := g.1 q hq
      have a2 := h q (List.mem_cons_of_mem _ hq)
      exact ⟨by omega, a2.2⟩) (by omega)
    rw [List.length_cons]
    omega
theorem told_len (m : Nat → Bool) (n : Nat) : 2 * (told m n).length ≤ n + 1 := by
  have := sep_len (told m n) 0 n (told_sep m n) (fun r h => ⟨Nat.zero_le _, told_below m n r h⟩) (by omega)
  omega
theorem st_true : ∀ n, st (fun _ => true) n = 0
  | 0 => rfl
  | n + 1 => by rw [st, if_pos rfl, st_true n]
theorem told_true : ∀ n, told (fun _ => true) (n + 1) = [(0, n)]
  | 0 => rfl
  | n + 1 => by
    rw [told, if_pos rfl, st_true, if_neg (by omega), told_true n]; rfl
theorem told_false : ∀ n, told (fun _ => false) n = []
  | 0 => rfl
  | n + 1 => by rw [told, if_neg (by decide), told_false n]
/-- a set that can be -/
structure Good (n : Nat) (rs : List (Nat × Nat)) : Prop where
  len : rs.length ≤ 40
  ok : ∀ r ∈ rs, r.1 ≤ r.2 ∧ r.2 < n
theorem told_good (m : Nat → Bool) {n : Nat} (h : n ≤ 64) : Good n (told m n) :=
  ⟨by have := told_len m n; omega, fun r hr => ⟨(told_sep m n).le r hr, told_below m n r hr⟩⟩
theorem memB_lt {n : Nat} {rs : List (Nat × Nat)} (g : ∀ r ∈ rs, r.1 ≤ r.2 ∧ r.2 < n) {k : Nat} (h : memB rs k = true) : k < n := by
  obtain ⟨r, hr, h1, h2⟩ := memB_iff.mp h
  have := g r hr
  omega
end SM

namespace SM
theorem sortedNat : ∀ {a b : List Nat}, a.Pairwise (· < ·) → b.Pairwise (· < ·) → (∀ k, k ∈ a ↔ k ∈ b) → a = b
  | [], [], _, _, _ => rfl
  | [], y :: b, _, _, h => absurd ((h y).mpr List.mem_cons_self) (by simp)
  | x :: a, [], _, _, h => absurd ((h x).mp List.mem_cons_self) (by simp)
  | x :: a, y :: b, ha, hb, h => by
    obtain ⟨a1, a2⟩ := List.pairwise_cons.mp ha
    obtain ⟨b1, b2⟩ := List.pairwise_cons.mp hb
    have e : x = y := by
      rcases List.mem_cons.mp ((h x).mp List.mem_cons_self) with e | e
      · exact e
      · rcases List.mem_cons.mp ((h y).mpr List.mem_cons_self) with e' | e'
        · exact e'.symm
        · have := b1 x e; have := a1 y e'; omega
    subst e
    refine congrArg (x :: ·) (sortedNat a2 b2 fun k => ⟨fun hk => ?_, fun hk => ?_⟩)
    · rcases List.mem_cons.mp ((h k).mp (List.mem_cons_of_mem _ hk)) with e | e
      · have := a1 k hk; omega
      · exact e
    · rcases List.mem_cons.mp ((h k).mpr (List.mem_cons_of_mem _ hk)) with e | e
      · have := b1 k hk; omega
      · exact e
theorem sortedInt : ∀ {a b : List Int}, a.Pairwise (· < ·) → b.Pairwise (· < ·) → (∀ k, k ∈ a ↔ k ∈ b) → a = b
  | [], [], _, _, _ => rfl
  | [], y :: b, _, _, h => absurd ((h y).mpr List.mem_cons_self) (by simp)
  | x :: a, [], _, _, h => absurd ((h x).mp List.mem_cons_self) (by simp)
  | x :: a, y :: b, ha, hb, h => by
    obtain ⟨a1, a2⟩ := List.pairwise_cons.mp ha
    obtain ⟨b1, b2⟩ := List.pairwise_cons.mp hb
    have e : x = y := by
      rcases List.mem_cons.mp ((h x).mp List.mem_cons_self) with e | e
      · exact e
      · rcases List.mem_cons.mp ((h y).mpr List.mem_cons_self) with e' | e'
        · exact e'.symm
        · have := b1 x e; have := a1 y e'; omega
    subst e
    refine congrArg (x :: ·) (sortedInt a2 b2 fun k => ⟨fun hk => ?_, fun hk => ?_⟩)
    · rcases List.mem_cons.mp ((h k).mp (List.mem_cons_of_mem _ hk)) with e | e
      · have := a1 k hk; omega
      · exact e
    · rcases List.mem_cons.mp ((h k).mpr (List.mem_cons_of_mem _ hk)) with e | e
      · have := b1 k hk; omega
      · exact e
theorem range_lt (n : Nat) : (List.range n).Pairwise (· < ·) := List.pairwise_lt_range
theorem filt_lt (n : Nat) (f : Nat → Bool) : ((List.range n).filter f).Pairwise (· < ·) := (range_lt n).filter f
theorem mem_filt {n : Nat} {f : Nat → Bool} {k : Nat} : k ∈ (List.range n).filter f ↔ k < n ∧ f k = true := by
  rw [List.mem_filter, List.mem_range]
theorem sep_tri : ∀ {rs : List (Nat × Nat)}, Sep rs → ∀ r ∈ rs, ∀ q ∈ rs, r = q ∨ r.2 + 1 < q.1 ∨ q.2 + 1 < r.1
  | [], _, r, hr, _, _ => by simp at hr
  | x :: rs, s, r, hr, q, hq => by
    obtain ⟨g1, g2⟩ := List.pairwise_cons.mp s.gap
    have s' : Sep rs := ⟨fun z hz => s.le z (List.mem_cons_of_mem _ hz), g2⟩
    rcases List.mem_cons.mp hr with e1 | h1
    · rcases List.mem_cons.mp hq with e2 | h2
      · exact .inl (e1.trans e2.symm)
      · rw [e1]; exact .inr (.inl (g1 q h2))
    · rcases List.mem_cons.mp hq with e2 | h2
      · rw [e2]; exact .inr (.inr (g1 r h1))
      · exact sep_tri s' r h1 q h2
theorem sep_fst : ∀ {rs : List (Nat × Nat)}, Sep rs → (rs.map Prod.fst).Pairwise (· < ·) := fun {rs} s => by
  refine List.pairwise_map.mpr ?_
  have h : rs.Pairwise fun r q => r.2 + 1 < q.1 := s.gap
  refine (List.pairwise_iff_forall_sublist.mpr fun {a b} hs => ?_)
  have h1 := List.pairwise_iff_forall_sublist.mp h hs
  have h2 := s.le a (hs.subset (by simp))
  omega
theorem sep_snd : ∀ {rs : List (Nat × Nat)}, Sep rs → (rs.map Prod.snd).Pairwise (· < ·) := fun {rs} s => by
  refine List.pairwise_map.mpr ?_
  have h : rs.Pairwise fun r q => r.2 + 1 < q.1 := s.gap
  refine (List.pairwise_iff_forall_sublist.mpr fun {a b} hs => ?_)
  have h1 := List.pairwise_iff_forall_sublist.mp h hs
  have h2 := s.le b (hs.subset (by simp))
  omega
/-- the first and last signs of runs -/
def isF (m : Nat → Bool) (k : Nat) : Bool := m k && (decide (k = 0) || !m (k - 1))
def isL (n : Nat) (m : Nat → Bool) (k : Nat) : Bool := m k && (decide (k + 1 = n) || !m (k + 1))
theorem told_fst (m : Nat → Bool) (n : Nat) : (told m n).map Prod.fst = (List.range n).filter (isF m) := by
  have s := told_sep m n
  refine sortedNat (sep_fst s) (filt_lt n _) fun k => ?_
  rw [mem_filt, List.mem_map]
  constructor
  · rintro ⟨r, hr, rfl⟩
    have h1 := s.le r hr
    have h2 := told_below m n r hr
    refine ⟨by omega, ?_⟩
    have h3 : m r.1 = true := by rw [← told_mem m n r.1 (by omega)]; exact memB_iff.mpr ⟨r, hr, Nat.le_refl _, h1⟩
    unfold isF
    rw [h3, Bool.true_and]
    by_cases c : r.1 = 0
    · rw [decide_eq_true c]; rfl
    · rw [decide_eq_false c, Bool.false_or, Bool.not_eq_true']
      cases hm : m (r.1 - 1) with
      | false => rfl
      | true =>
        rw [← told_mem m n (r.1 - 1) (by omega)] at hm
        obtain ⟨q, hq, q1, q2⟩ := memB_iff.mp hm
        rcases sep_tri s r hr q hq with e | e | e
        · subst e; omega
        · omega
        · omega
  · rintro ⟨hk, hf⟩
    unfold isF at hf
    obtain ⟨f1, f2⟩ := Bool.and_eq_true_iff.mp hf
    rw [← told_mem m n k hk] at f1
    obtain ⟨r, hr, r1, r2⟩ := memB_iff.mp f1
    refine ⟨r, hr, ?_⟩
    by_cases c : r.1 = k
    · exact c
    · exfalso
      rw [decide_eq_false (show ¬ k = 0 by omega), Bool.false_or, Bool.not_eq_true', ← told_mem m n (k - 1) (by omega)] at f2
      have := memB_iff.mpr ⟨r, hr, show r.1 ≤ k - 1 by omega, show k - 1 ≤ r.2 by omega⟩
      rw [this] at f2; cases f2
theorem told_snd (m : Nat → Bool) (n : Nat) : (told m n).map Prod.snd = (List.range n).filter (isL n m) := by
  have s := told_sep m n
  refine sortedNat (sep_snd s) (filt_lt n _) fun k => ?_
  rw [mem_filt, List.mem_map]
  constructor
  · rintro ⟨r, hr, rfl⟩
    have h1 := s.le r hr
    have h2 := told_below m n r hr
    refine ⟨h2, ?_⟩
    have h3 : m r.2 = true := by rw [← told_mem m n r.2 h2]; exact memB_iff.mpr ⟨r, hr, h1, Nat.le_refl _⟩
    unfold isL
    rw [h3, Bool.true_and]
    by_cases c : r.2 + 1 = n
    · rw [decide_eq_true c]; rfl
    · rw [decide_eq_false c, Bool.false_or, Bool.not_eq_true']
      cases hm : m (r.2 + 1) with
      | false => rfl
      | true =>
        rw [← told_mem m n (r.2 + 1) (by omega)] at hm
        obtain ⟨q, hq, q1, q2⟩ := memB_iff.mp hm
        rcases sep_tri s r hr q hq with e | e | e
        · subst e; omega
        · omega
        · have := s.le q hq; omega
  · rintro ⟨hk, hf⟩
    unfold isL at hf
    obtain ⟨f1, f2⟩ := Bool.and_eq_true_iff.mp hf
    rw [← told_mem m n k hk] at f1
    obtain ⟨r, hr, r1, r2⟩ := memB_iff.mp f1
    refine ⟨r, hr, ?_⟩
    have h2 := told_below m n r hr
    by_cases c : r.2 = k
    · exact c
    · exfalso
      rw [decide_eq_false (show ¬ k + 1 = n by omega), Bool.false_or, Bool.not_eq_true', ← told_mem m n (k + 1) (by omega)] at f2
      have := memB_iff.mpr ⟨r, hr, show r.1 ≤ k + 1 by omega, show k + 1 ≤ r.2 by omega⟩
      rw [this] at f2; cases f2
/-- all numbers of the ranges, as they come -/
def cat (rs : List (Nat × Nat)) : List Int := rs.flatMap fun r => (List.range (r.2 + 1 - r.1)).map fun i => ((r.1 : Int) + (i : Nat))
theorem mem_cat {rs : List (Nat × Nat)} {k : Int} : k ∈ cat rs ↔ ∃ j : Nat, k = (j : Int) ∧ memB rs j = true := by
  unfold cat
  rw [List.mem_flatMap]
  constructor
  · rintro ⟨r, hr, h⟩
    obtain ⟨i, hi, rfl⟩ := List.mem_map.mp h
    rw [List.mem_range] at hi
    exact ⟨r.1 + i, by omega, memB_iff.mpr ⟨r, hr, by omega, by omega⟩⟩
  · rintro ⟨j, rfl, h⟩
    obtain ⟨r, hr, h1, h2⟩ := memB_iff.mp h
    exact ⟨r, hr, List.mem_map.mpr ⟨j - r.1, List.mem_range.mpr (by omega), by omega⟩⟩
theorem cat_len {n : Nat} : ∀ {rs : List (Nat × Nat)}, (∀ r ∈ rs, r.1 ≤ r.2 ∧ r.2 < n) → (cat rs).length ≤ rs.length * n
  | [], _ => by simp [cat]
  | r :: rs, h => by
    have ih := cat_len (rs := rs) fun q hq => h q (List.mem_cons_of_mem _ hq)
    have h1 := h r List.mem_cons_self
    have e : (cat (r :: rs)).length = (r.2 + 1 - r.1) + (cat rs).length := by
      unfold cat
      rw [List.flatMap_cons, List.length_append, List.length_map, List.length_range]
    rw [e, List.length_cons, Nat.succ_mul]
    omega
theorem int_lt {l : List Nat} (h : l.Pairwise (· < ·)) : (l.map fun k : Nat => (k : Int)).Pairwise (· < ·) := List.pairwise_map.mpr (h.imp fun {a b} z => by omega)
end SM

namespace SM
theorem fewest_aux {m : Nat → Bool} : ∀ (ts rs : List (Nat × Nat)), Sep ts → (∀ t ∈ ts, m (t.2 + 1) = false) → (∀ r ∈ rs, ∀ k, r.1 ≤ k → k ≤ r.2 → m k = true) → (∀ t ∈ ts, ∃ r ∈ rs, r.1 ≤ t.1 ∧ t.1 ≤ r.2) → ts.length ≤ rs.length
  | [], rs, _, _, _, _ => Nat.zero_le _
  | t :: ts, rs, s, hm, hr, hx => by
    obtain ⟨r, hrm, r1, r2⟩ := hx t List.mem_cons_self
    have hr2 : r.2 ≤ t.2 := by
      have tl := s.le t List.mem_cons_self
      by_cases c : t.2 + 1 ≤ r.2
      · have := hr r hrm (t.2 + 1) (by omega) c
        rw [hm t List.mem_cons_self] at this; cases this
      · omega
    obtain ⟨g1, g2⟩ := List.pairwise_cons.mp s.gap
    have s' : Sep ts := ⟨fun z hz => s.le z (List.mem_cons_of_mem _ hz), g2⟩
    have ih := fewest_aux ts (rs.erase r) s' (fun z hz => hm z (List.mem_cons_of_mem _ hz)) (fun z hz => hr z (List.mem_of_mem_erase hz)) (fun z hz => by
      obtain ⟨q, hq, q1, q2⟩ := hx z (List.mem_cons_of_mem _ hz)
      have gz := g1 z hz
      refine ⟨q, (List.mem_erase_of_ne (fun e => ?_)).mpr hq, q1, q2⟩
      subst e; omega)
    rw [List.length_erase_of_mem hrm] at ih
    have hp : 0 < rs.length := List.length_pos_of_mem hrm
    rw [List.length_cons]
    omega
/-- no list of ranges of the same signs is shorter -/
theorem fewest {n : Nat} {f : Nat → Bool} {rs : List (Nat × Nat)} (hg : ∀ r ∈ rs, r.1 ≤ r.2 ∧ r.2 < n) (h : ∀ k, k < n → memB rs k = f k) : (told f n).length ≤ rs.length := by
  have s := told_sep f n
  refine fewest_aux (m := fun k => decide (k < n) && f k) _ rs s (fun t ht => ?_) (fun r hr k h1 h2 => ?_) (fun t ht => ?_)
  · have tb := told_below f n t ht
    have tl := s.le t ht
    cases hc : (decide (t.2 + 1 < n) && f (t.2 + 1)) with
    | false => rfl
    | true =>
      obtain ⟨c1, c2⟩ := Bool.and_eq_true_iff.mp hc
      have c1 := of_decide_eq_true c1
      rw [← told_mem f n _ c1] at c2
      obtain ⟨q, hq, q1, q2⟩ := memB_iff.mp c2
      rcases sep_tri s t ht q hq with e | e | e
      · subst e; omega
      · omega
      · omega
  · have := hg r hr
    have hk : k < n := by omega
    rw [decide_eq_true hk, Bool.true_and, ← h k hk]
    exact memB_iff.mpr ⟨r, hr, h1, h2⟩
  · have tb := told_below f n t ht
    have tl := s.le t ht
    have hk : t.1 < n := by omega
    have : memB rs t.1 = true := by
      rw [h t.1 hk, ← told_mem f n t.1 hk]
      exact memB_iff.mpr ⟨t, ht, Nat.le_refl _, tl⟩
    exact memB_iff.mp this
/-- the sign ahead of a run, and the run before it -/
theorem told_ahead {f : Nat → Bool} {n : Nat} {r : Nat × Nat} (hr : r ∈ told f n) (h0 : r.1 ≠ 0) : f (r.1 - 1) = false := by
  have h : r.1 ∈ (told f n).map Prod.fst := List.mem_map.mpr ⟨r, hr, rfl⟩
  rw [told_fst, mem_filt] at h
  obtain ⟨_, h2⟩ := h
  unfold isF at h2
  have h3 := (Bool.and_eq_true_iff.mp h2).2
  rw [decide_eq_false h0, Bool.false_or, Bool.not_eq_true'] at h3
  exact h3
theorem told_gap {f : Nat → Bool} {n i : Nat} {r q : Nat × Nat} (hr : (told f n)[i]? = some r) (hq : (told f n)[i + 1]? = some q) : r.2 + 1 < q.1 := by
  obtain ⟨h1, e1⟩ := List.getElem?_eq_some_iff.mp hr
  obtain ⟨h2, e2⟩ := List.getElem?_eq_some_iff.mp hq
  have := List.pairwise_iff_getElem.mp (told_sep f n).gap i (i + 1) h1 h2 (Nat.lt_succ_self i)
  rw [e1, e2] at this
  exact this
theorem told_run {f : Nat → Bool} {n : Nat} {r : Nat × Nat} (hr : r ∈ told f n) {k : Nat} (h1 : r.1 ≤ k) (h2 : k ≤ r.2) : f k = true := by
  have := told_below f n r hr
  rw [← told_mem f n k (by omega)]
  exact memB_iff.mpr ⟨r, hr, h1, h2⟩
theorem memB_of_perm {a b : List (Nat × Nat)} (h : a.Perm b) (k : Nat) : memB a k = memB b k := memB_perm (fun r => h.mem_iff) k
end SM

namespace SM
/-- the search by halving: whether it is found, and what is looked at -/
def look (ts : List (Nat × Nat)) (x : Nat) : Nat → Nat → Nat → Bool × List (Nat × Nat)
  | 0, _, _ => (false, [])
  | f + 1, lo, hi =>
    if lo < hi then
      if x < (ts.getD ((lo + hi) / 2) (0, 0)).1 then ((look ts x f lo ((lo + hi) / 2)).1, ts.getD ((lo + hi) / 2) (0, 0) :: (look ts x f lo ((lo + hi) / 2)).2)
      else if (ts.getD ((lo + hi) / 2) (0, 0)).2 < x then ((look ts x f ((lo + hi) / 2 + 1) hi).1, ts.getD ((lo + hi) / 2) (0, 0) :: (look ts x f ((lo + hi) / 2 + 1) hi).2)
      else (true, [ts.getD ((lo + hi) / 2) (0, 0)])
    else (false, [])
theorem look_done {ts : List (Nat × Nat)} {x f lo hi : Nat} (h : ¬ lo < hi) : look ts x f lo hi = (false, []) := by
  cases f with
  | zero => rfl
  | succ f => unfold look; rw [if_neg h]
theorem look_less {ts : List (Nat × Nat)} {x f lo hi : Nat} {r : Nat × Nat} (h : lo < hi) (hr : ts.getD ((lo + hi) / 2) (0, 0) = r) (c : x < r.1) : look ts x (f + 1) lo hi = ((look ts x f lo ((lo + hi) / 2)).1, r :: (look ts x f lo ((lo + hi) / 2)).2) := by
  subst hr
  rw [look, if_pos h, if_pos c]
theorem look_more {ts : List (Nat × Nat)} {x f lo hi : Nat} {r : Nat × Nat} (h : lo < hi) (hr : ts.getD ((lo + hi) / 2) (0, 0) = r) (c : ¬ x < r.1) (c2 : r.2 < x) : look ts x (f + 1) lo hi = ((look ts x f ((lo + hi) / 2 + 1) hi).1, r :: (look ts x f ((lo + hi) / 2 + 1) hi).2) := by
  subst hr
  rw [look, if_pos h, if_neg c, if_pos c2]
theorem look_found {ts : List (Nat × Nat)} {x f lo hi : Nat} {r : Nat × Nat} (h : lo < hi) (hr : ts.getD ((lo + hi) / 2) (0, 0) = r) (c : ¬ x < r.1) (c2 : ¬ r.2 < x) : look ts x (f + 1) lo hi = (true, [r]) := by
  subst hr
  rw [look, if_pos h, if_neg c, if_neg c2]
theorem look_len (ts : List (Nat × Nat)) (x : Nat) : ∀ (f lo hi m : Nat), hi - lo < 2 ^ m → (look ts x f lo hi).2.length ≤ m
  | 0, _, _, _, _ => Nat.zero_le _
  | f + 1, lo, hi, m, h => by
    by_cases c : lo < hi
    · cases m with
      | zero => exact absurd h (by simp; omega)
      | succ m =>
        rw [Nat.pow_succ] at h
        by_cases c1 : x < (ts.getD ((lo + hi) / 2) (0, 0)).1
        · rw [look_less c rfl c1]
          have := look_len ts x f lo ((lo + hi) / 2) m (by omega)
          show (look ts x f lo ((lo + hi) / 2)).2.length + 1 ≤ m + 1
          omega
        · by_cases c2 : (ts.getD ((lo + hi) / 2) (0, 0)).2 < x
          · rw [look_more c rfl c1 c2]
            have := look_len ts x f ((lo + hi) / 2 + 1) hi m (by omega)
            show (look ts x f ((lo + hi) / 2 + 1) hi).2.length + 1 ≤ m + 1
            omega
          · rw [look_found c rfl c1 c2]
            show 1 ≤ m + 1
            omega
    · rw [look_done c]; exact Nat.zero_le _
theorem sep_get {ts : List (Nat × Nat)} (s : Sep ts) {i j : Nat} (h : i < j) (hj : j < ts.length) : (ts.getD i (0, 0)).2 + 1 < (ts.getD j (0, 0)).1 := by
  have hi : i < ts.length := by omega
  have := List.pairwise_iff_getElem.mp s.gap i j hi hj h
  rw [List.getD_eq_getElem?_getD, List.getElem?_eq_getElem hi, List.getD_eq_getElem?_getD, List.getElem?_eq_getElem hj]
  exact this
theorem getD_mem' {ts : List (Nat × Nat)} {i : Nat} (h : i < ts.length) : ts.getD i (0, 0) ∈ ts := by
  rw [List.getD_eq_getElem?_getD, List.getElem?_eq_getElem h]
  exact List.getElem_mem h
theorem look_right {ts : List (Nat × Nat)} (s : Sep ts) (x : Nat) : ∀ (f lo hi : Nat), hi - lo ≤ f → hi ≤ ts.length → (∀ i, i < lo → (ts.getD i (0, 0)).2 < x) → (∀ i, hi ≤ i → i < ts.length → x < (ts.getD i (0, 0)).1) → (look ts x f lo hi).1 = memB ts x
  | f, lo, hi, hf, hh, h1, h2 => by
    by_cases c : lo < hi
    · cases f with
      | zero => omega
      | succ f =>
        have hm : (lo + hi) / 2 < ts.length := by omega
        by_cases c1 : x < (ts.getD ((lo + hi) / 2) (0, 0)).1
        · rw [look_less c rfl c1]
          refine look_right s x f lo ((lo + hi) / 2) (by omega) (by omega) h1 fun i i1 i2 => ?_
          by_cases e : i = (lo + hi) / 2
          · rw [e]; exact c1
          · have a := sep_get s (show (lo + hi) / 2 < i by omega) i2
            have b := s.le _ (getD_mem' hm)
            omega
        · by_cases c2 : (ts.getD ((lo + hi) / 2) (0, 0)).2 < x
          · rw [look_more c rfl c1 c2]
            refine look_right s x f ((lo + hi) / 2 + 1) hi (by omega) hh (fun i i1 => ?_) h2
            by_cases e : i = (lo + hi) / 2
            · rw [e]; exact c2
            · have a := sep_get s (show i < (lo + hi) / 2 by omega) hm
              have b := s.le _ (getD_mem' hm)
              omega
          · rw [look_found c rfl c1 c2]
            refine (memB_iff.mpr ⟨_, getD_mem' hm, ?_, ?_⟩).symm <;> omega
    · rw [look_done c]
      cases hq : memB ts x with
      | false => rfl
      | true =>
        obtain ⟨r, hr, r1, r2⟩ := memB_iff.mp hq
        obtain ⟨i, hi, e⟩ := List.getElem_of_mem hr
        have ed : ts.getD i (0, 0) = r := by rw [List.getD_eq_getElem?_getD, List.getElem?_eq_getElem hi, e]; rfl
        by_cases ci : i < lo
        · have := h1 i ci; rw [ed] at this; omega
        · have := h2 i (by omega) hi; rw [ed] at this; omega
end SM

namespace SM
/-! tables: stretches, rows as they come -/
def strt (m : Nat → Bool) (w j : Nat) : List Bool := (List.range w).map fun i => m (j * w + i)
def cnt (n w : Nat) : Nat := (n - 1) / w + 1
def strc (n w : Nat) (m : Nat → Bool) : List (List Bool) := (List.range (cnt n w)).map (strt m w)
def put (rows : List (List Bool)) (s : List Bool) : List (List Bool) := if decide (s ∈ rows) = true then rows else rows ++ [s]
def puts (rows : List (List Bool)) (ss : List (List Bool)) : List (List Bool) := ss.foldl put rows
def tabF (n w : Nat) (t : List (List Nat) × List (List Bool)) (m : Nat → Bool) : List (List Nat) × List (List Bool) :=
  (t.1 ++ [(strc n w m).map fun s => (puts t.2 (strc n w m)).idxOf s], puts t.2 (strc n w m))
def tab (n w : Nat) (ms : List (Nat → Bool)) : List (List Nat) × List (List Bool) := ms.foldl (tabF n w) ([], [])
theorem put_mem (rows : List (List Bool)) (s : List Bool) : s ∈ put rows s := by
  unfold put
  by_cases h : s ∈ rows
  · rw [if_pos (decide_eq_true h)]; exact h
  · rw [if_neg (by rw [decide_eq_false h]; decide)]; simp
theorem put_keep {rows : List (List Bool)} {s x : List Bool} (h : x ∈ rows) : x ∈ put rows s := by
  unfold put
  by_cases c : s ∈ rows
  · rw [if_pos (decide_eq_true c)]; exact h
  · rw [if_neg (by rw [decide_eq_false c]; decide)]; exact List.mem_append_left _ h
theorem puts_keep {x : List Bool} : ∀ {ss rows : List (List Bool)}, x ∈ rows → x ∈ puts rows ss
  | [], _, h => h
  | s :: ss, rows, h => puts_keep (ss := ss) (rows := put rows s) (put_keep h)
theorem puts_mem {x : List Bool} : ∀ {ss rows : List (List Bool)}, x ∈ ss → x ∈ puts rows ss
  | s :: ss, rows, h => by
    rcases List.mem_cons.mp h with e | e
    · subst e; exact puts_keep (ss := ss) (rows := put rows x) (put_mem rows x)
    · exact puts_mem (ss := ss) (rows := put rows s) e
theorem puts_app (rows a b : List (List Bool)) : puts rows (a ++ b) = puts (puts rows a) b := List.foldl_append
theorem put_len (rows : List (List Bool)) (s : List Bool) : (put rows s).length ≤ rows.length + 1 := by
  unfold put
  by_cases c : s ∈ rows
  · rw [if_pos (decide_eq_true c)]; omega
  · rw [if_neg (by rw [decide_eq_false c]; decide), List.length_append]; exact Nat.le_refl _
theorem puts_len : ∀ (ss rows : List (List Bool)), (puts rows ss).length ≤ rows.length + ss.length
  | [], _ => Nat.le_refl _
  | s :: ss, rows => by
    have a := puts_len ss (put rows s)
    have b := put_len rows s
    rw [List.length_cons]
    show (puts (put rows s) ss).length ≤ _
    omega
theorem put_all {rows : List (List Bool)} {s : List Bool} {p : List Bool → Prop} (h : ∀ x ∈ rows, p x) (hs : p s) : ∀ x ∈ put rows s, p x := by
  intro x hx
  unfold put at hx
  by_cases c : s ∈ rows
  · rw [if_pos (decide_eq_true c)] at hx; exact h x hx
  · rw [if_neg (by rw [decide_eq_false c]; decide)] at hx
    rcases List.mem_append.mp hx with e | e
    · exact h x e
    · rw [List.mem_singleton.mp e]; exact hs
theorem puts_all {p : List Bool → Prop} : ∀ {ss rows : List (List Bool)}, (∀ x ∈ rows, p x) → (∀ x ∈ ss, p x) → ∀ x ∈ puts rows ss, p x
  | [], _, h, _ => h
  | s :: ss, rows, h, hs => puts_all (ss := ss) (rows := put rows s) (put_all h (hs s List.mem_cons_self)) fun x hx => hs x (List.mem_cons_of_mem _ hx)
/-- the signs of a set, and those behind the size -/
def line (n w : Nat) (m : Nat → Bool) : List Bool := (List.range n).map m ++ List.replicate w false
theorem line_cut {n w j : Nat} {m : Nat → Bool} (hm : ∀ k, n ≤ k → m k = false) (hj : j * w < n) : ((line n w m).drop (j * w)).take w = strt m w j := by
  refine List.ext_getElem? fun i => ?_
  unfold strt
  by_cases hi : i < w
  · rw [List.getElem?_take, if_pos hi, List.getElem?_drop, List.getElem?_map, List.getElem?_range hi]
    unfold line
    by_cases hk : j * w + i < n
    · rw [List.getElem?_append_left (by rw [List.length_map, List.length_range]; exact hk), List.getElem?_map, List.getElem?_range hk]; rfl
    · rw [List.getElem?_append_right (by rw [List.length_map, List.length_range]; omega), List.length_map, List.length_range, List.getElem?_replicate, if_pos (by omega)]
      show some false = some (m (j * w + i))
      rw [hm _ (by omega)]
  · rw [List.getElem?_take, if_neg hi, List.getElem?_map, List.getElem?_eq_none (by rw [List.length_range]; omega)]; rfl
theorem strt_len (m : Nat → Bool) (w j : Nat) : (strt m w j).length = w := by unfold strt; rw [List.length_map, List.length_range]
theorem strc_len (n w : Nat) (m : Nat → Bool) : (strc n w m).length = cnt n w := by unfold strc; rw [List.length_map, List.length_range]
theorem cnt_lt {n w j : Nat} (hn : 1 ≤ n) (hw : 1 ≤ w) (h : j < cnt n w) : j * w < n := by
  unfold cnt at h
  have h1 : j ≤ (n - 1) / w := by omega
  have h2 := Nat.mul_le_mul_right w h1
  have h3 := Nat.div_mul_le_self (n - 1) w
  omega
theorem cnt_le {n w : Nat} (hn : 1 ≤ n) : cnt n w ≤ n := by
  unfold cnt
  have := Nat.div_le_self (n - 1) w
  omega
end SM

namespace SM
/-! classes: signs by what has them -/
theorem mem_put {rows : List (List Bool)} {s x : List Bool} : x ∈ put rows s ↔ x ∈ rows ∨ x = s := by
  unfold put
  by_cases c : s ∈ rows
  · rw [if_pos (decide_eq_true c)]
    constructor
    · exact .inl
    · rintro (h | h)
      · exact h
      · rw [h]; exact c
  · rw [if_neg (by rw [decide_eq_false c]; decide), List.mem_append, List.mem_singleton]
theorem mem_puts {x : List Bool} : ∀ {ss rows : List (List Bool)}, x ∈ puts rows ss ↔ x ∈ rows ∨ x ∈ ss
  | [], rows => by simp [puts]
  | s :: ss, rows => by
    show x ∈ puts (put rows s) ss ↔ _
    rw [mem_puts (ss := ss), mem_put, List.mem_cons, or_assoc]
theorem put_nodup {rows : List (List Bool)} {s : List Bool} (h : rows.Nodup) : (put rows s).Nodup := by
  unfold put
  by_cases c : s ∈ rows
  · rw [if_pos (decide_eq_true c)]; exact h
  · rw [if_neg (by rw [decide_eq_false c]; decide)]
    refine List.nodup_append.mpr ⟨h, by simp, fun a ha b hb => ?_⟩
    rw [List.mem_singleton.mp hb]
    intro e; subst e; exact c ha
theorem puts_nodup : ∀ {ss rows : List (List Bool)}, rows.Nodup → (puts rows ss).Nodup
  | [], _, h => h
  | s :: ss, rows, h => puts_nodup (ss := ss) (rows := put rows s) (put_nodup h)
theorem len_sub {α : Type} [DecidableEq α] : ∀ {a b : List α}, a.Nodup → (∀ x ∈ a, x ∈ b) → a.length ≤ b.length
  | [], b, _, _ => Nat.zero_le _
  | x :: a, b, h, hs => by
    obtain ⟨h1, h2⟩ := List.nodup_cons.mp h
    have hx := hs x List.mem_cons_self
    have ih := len_sub (a := a) (b := b.erase x) h2 fun y hy => (List.mem_erase_of_ne (fun e : y = x => h1 (e ▸ hy))).mpr (hs y (List.mem_cons_of_mem _ hy))
    rw [List.length_erase_of_mem hx] at ih
    have hp : 0 < b.length := List.length_pos_of_mem hx
    rw [List.length_cons]
    omega
def sg (rss : List (List (Nat × Nat))) (k : Nat) : List Bool := rss.map fun rs => memB rs k
def SG (rss : List (List (Nat × Nat))) (n : Nat) : List (List Bool) := (List.range n).map (sg rss)
def UN (rss : List (List (Nat × Nat))) (n : Nat) : List (List Bool) := puts [] (SG rss n)
def rowF (rss : List (List (Nat × Nat))) (n : Nat) : List Nat := (SG rss n).map fun s => (UN rss n).idxOf s
def clsF (rss : List (List (Nat × Nat))) (n : Nat) : List (List (Nat × Nat)) := (List.range (UN rss n).length).map fun c => told (fun k => decide ((rowF rss n).getD k 0 = c)) n
def evF (rss : List (List (Nat × Nat))) (n : Nat) : List (List Nat) := (List.range rss.length).map fun a => (List.range (UN rss n).length).filter fun c => ((UN rss n).getD c []).getD a false
theorem mem_SG {rss : List (List (Nat × Nat))} {n : Nat} {s : List Bool} : s ∈ SG rss n ↔ ∃ k, k < n ∧ sg rss k = s := by
  unfold SG
  rw [List.mem_map]
  constructor
  · rintro ⟨k, hk, e⟩; exact ⟨k, List.mem_range.mp hk, e⟩
  · rintro ⟨k, hk, e⟩; exact ⟨k, List.mem_range.mpr hk, e⟩
theorem mem_UN {rss : List (List (Nat × Nat))} {n : Nat} {s : List Bool} : s ∈ UN rss n ↔ ∃ k, k < n ∧ sg rss k = s := by
  unfold UN
  rw [mem_puts, mem_SG]
  simp
theorem UN_nodup (rss : List (List (Nat × Nat))) (n : Nat) : (UN rss n).Nodup := puts_nodup List.nodup_nil
theorem UN_len (rss : List (List (Nat × Nat))) (n : Nat) : (UN rss n).length ≤ n := by
  have := puts_len (SG rss n) []
  unfold SG at this
  rw [List.length_map, List.length_range] at this
  simpa [UN, SG] using this
theorem sg_more (rss : List (List (Nat × Nat))) (x k : Nat) : sg (rss ++ [[(x, x)]]) k = sg rss k ++ [decide (k = x)] := by
  unfold sg
  rw [List.map_append]
  refine congrArg _ ?_
  show [memB [(x, x)] k] = _
  rw [memB_one]
  refine congrArg (fun z => [z]) ?_
  rw [Bool.eq_iff_iff]
  simp only [Bool.and_eq_true, decide_eq_true_eq]
  omega
theorem UN_more (rss : List (List (Nat × Nat))) (n x : Nat) : (UN rss n).length ≤ (UN (rss ++ [[(x, x)]]) n).length ∧ (UN (rss ++ [[(x, x)]]) n).length ≤ (UN rss n).length + 1 := by
  constructor
  · have h := len_sub (a := UN rss n) (b := (UN (rss ++ [[(x, x)]]) n).map List.dropLast) (UN_nodup _ _) fun s hs => by
      obtain ⟨k, hk, rfl⟩ := mem_UN.mp hs
      refine List.mem_map.mpr ⟨sg (rss ++ [[(x, x)]]) k, mem_UN.mpr ⟨k, hk, rfl⟩, ?_⟩
      rw [sg_more, List.dropLast_concat]
    rw [List.length_map] at h
    exact h
  · have h := len_sub (a := UN (rss ++ [[(x, x)]]) n) (b := (UN rss n).map (fun s => s ++ [false]) ++ [sg rss x ++ [true]]) (UN_nodup _ _) fun s hs => by
      obtain ⟨k, hk, rfl⟩ := mem_UN.mp hs
      rw [sg_more]
      by_cases c : k = x
      · subst c
        rw [decide_eq_true rfl]
        exact List.mem_append_right _ (List.mem_singleton.mpr rfl)
      · rw [decide_eq_false c]
        exact List.mem_append_left _ (List.mem_map.mpr ⟨sg rss k, mem_UN.mpr ⟨k, hk, rfl⟩, rfl⟩)
    rw [List.length_append, List.length_map] at h
    exact h
end SM

namespace SM
/-! the cells of tables -/
theorem fold_rows (n w : Nat) : ∀ (ms : List (Nat → Bool)) (t : List (List Nat) × List (List Bool)), (ms.foldl (tabF n w) t).2 = puts t.2 (ms.flatMap (strc n w))
  | [], _ => rfl
  | m :: ms, t => by
    rw [List.foldl_cons, fold_rows n w ms, List.flatMap_cons, puts_app]; rfl
theorem tab_rows (n w : Nat) (ms : List (Nat → Bool)) : (tab n w ms).2 = puts [] (ms.flatMap (strc n w)) := fold_rows n w ms _
theorem fold_firsts (n w : Nat) : ∀ (ms : List (Nat → Bool)) (t : List (List Nat) × List (List Bool)), (ms.foldl (tabF n w) t).1.map List.length = t.1.map List.length ++ List.replicate ms.length (cnt n w)
  | [], _ => by simp
  | m :: ms, t => by
    rw [List.foldl_cons, fold_firsts n w ms, List.length_cons, List.replicate_succ]
    show (t.1 ++ [_]).map List.length ++ _ = _
    rw [List.map_append, List.append_assoc, List.map_cons, List.map_nil, List.length_map, strc_len]; rfl
theorem tab_firsts (n w : Nat) (ms : List (Nat → Bool)) : (tab n w ms).1.map List.length = List.replicate ms.length (cnt n w) := by
  have := fold_firsts n w ms ([], [])
  exact this
def CE (n : Nat) (ms : List (Nat → Bool)) (w : Nat) : Nat := ms.length * cnt n w + (puts [] (ms.flatMap (strc n w))).length * w
theorem rows_len (n w : Nat) (ms : List (Nat → Bool)) : ∀ x ∈ puts [] (ms.flatMap (strc n w)), x.length = w :=
  puts_all (fun _ h => absurd h List.not_mem_nil) fun x hx => by
    obtain ⟨m, _, h⟩ := List.mem_flatMap.mp hx
    obtain ⟨j, _, rfl⟩ := List.mem_map.mp h
    exact strt_len m w j
theorem map_const {α β : Type} {f : α → β} {c : β} : ∀ {l : List α}, (∀ x ∈ l, f x = c) → l.map f = List.replicate l.length c
  | [], _ => rfl
  | a :: l, h => by rw [List.map_cons, List.length_cons, List.replicate_succ, h a List.mem_cons_self, map_const fun x hx => h x (List.mem_cons_of_mem _ hx)]
theorem sum_rep (k c : Nat) : (List.replicate k c).sum = k * c := by
  induction k with
  | zero => simp
  | succ k ih => rw [List.replicate_succ, List.sum_cons, ih, Nat.succ_mul]; omega
theorem tab_cells (n w : Nat) (ms : List (Nat → Bool)) : ((tab n w ms).1.map List.length ++ (tab n w ms).2.map List.length).sum = CE n ms w := by
  rw [List.sum_append, tab_firsts, tab_rows, map_const (rows_len n w ms), sum_rep, sum_rep]; rfl
theorem CE_sub {n w : Nat} {ms ms' : List (Nat → Bool)} (hl : ms.length ≤ ms'.length) (h : ∀ m ∈ ms, m ∈ ms') : CE n ms w ≤ CE n ms' w := by
  have a : (puts [] (ms.flatMap (strc n w))).length ≤ (puts [] (ms'.flatMap (strc n w))).length :=
    len_sub (puts_nodup List.nodup_nil) fun x hx => by
      rcases mem_puts.mp hx with h1 | h1
      · exact absurd h1 List.not_mem_nil
      · obtain ⟨m, hm, h2⟩ := List.mem_flatMap.mp h1
        exact mem_puts.mpr (.inr (List.mem_flatMap.mpr ⟨m, h m hm, h2⟩))
  exact Nat.add_le_add (Nat.mul_le_mul_right _ hl) (Nat.mul_le_mul_right _ a)
theorem CE_more {n w : Nat} {ms ms' : List (Nat → Bool)} (hl : ms.length ≤ ms'.length + 1) (h : ∀ m ∈ ms, m ∈ ms') : CE n ms w ≤ CE n ms' w + cnt n w := by
  have a : (puts [] (ms.flatMap (strc n w))).length ≤ (puts [] (ms'.flatMap (strc n w))).length :=
    len_sub (puts_nodup List.nodup_nil) fun x hx => by
      rcases mem_puts.mp hx with h1 | h1
      · exact absurd h1 List.not_mem_nil
      · obtain ⟨m, hm, h2⟩ := List.mem_flatMap.mp h1
        exact mem_puts.mpr (.inr (List.mem_flatMap.mpr ⟨m, h m hm, h2⟩))
  have b := Nat.mul_le_mul_right (cnt n w) hl
  have c := Nat.mul_le_mul_right w a
  rw [Nat.add_mul, Nat.one_mul] at b
  unfold CE
  omega
/-- the least (value, place), places from 1 on, of n + 1 places -/
def lea (f : Nat → Nat) : Nat → Nat × Nat
  | 0 => (f 1, 1)
  | n + 1 => if f (n + 2) < (lea f n).1 then (f (n + 2), n + 2) else lea f n
theorem lea_at (f : Nat → Nat) : ∀ n, (lea f n).1 = f (lea f n).2 ∧ 1 ≤ (lea f n).2 ∧ (lea f n).2 ≤ n + 1
  | 0 => ⟨rfl, Nat.le_refl 1, Nat.le_refl 1⟩
  | n + 1 => by
    have := lea_at f n
    unfold lea
    split
    · exact ⟨rfl, by show 1 ≤ n + 2; omega, by show n + 2 ≤ n + 1 + 1; omega⟩
    · exact ⟨this.1, this.2.1, by omega⟩
theorem lea_le (f : Nat → Nat) : ∀ n w, 1 ≤ w → w ≤ n + 1 → (lea f n).1 ≤ f w ∧ (w < (lea f n).2 → (lea f n).1 < f w)
  | 0, w, h1, h2 => by
    have : w = 1 := by omega
    subst this
    exact ⟨Nat.le_refl _, fun h => absurd h (Nat.lt_irrefl _)⟩
  | n + 1, w, h1, h2 => by
    have ih := lea_le f n
    have at' := lea_at f n
    unfold lea
    split
    · rename_i hlt
      show f (n + 2) ≤ f w ∧ (w < n + 2 → f (n + 2) < f w)
      by_cases e : w = n + 2
      · subst e; exact ⟨Nat.le_refl _, fun h => absurd h (Nat.lt_irrefl _)⟩
      · have := (ih w h1 (by omega)).1
        exact ⟨by omega, fun _ => by omega⟩
    · rename_i hge
      by_cases e : w = n + 2
      · subst e; exact ⟨by omega, fun h => by omega⟩
      · exact ih w h1 (by omega)
theorem lea_mono {f g : Nat → Nat} {n c : Nat} (h : ∀ w, 1 ≤ w → w ≤ n + 1 → f w ≤ g w + c) : (lea f n).1 ≤ (lea g n).1 + c := by
  have a := lea_at g n
  have b := (lea_le f n _ a.2.1 a.2.2).1
  have := h _ a.2.1 a.2.2
  omega
/-- what is asked of a set more: only at the told width -/
theorem lea_more {f g : Nat → Nat} {n : Nat} {c : Nat → Nat} (h : ∀ w, 1 ≤ w → w ≤ n + 1 → f w ≤ g w + c w) : (lea f n).1 ≤ (lea g n).1 + c (lea g n).2 := by
  have a := lea_at g n
  have b := (lea_le f n _ a.2.1 a.2.2).1
  have := h _ a.2.1 a.2.2
  omega
theorem cnt_up {n w : Nat} (hn : 1 ≤ n) (hw : 1 ≤ w) : (n + w - 1) / w = cnt n w := by
  unfold cnt
  rw [show n + w - 1 = (n - 1) + w by omega, Nat.add_div_right _ (by omega)]
end SM

namespace SM
/-! looking into a table -/
theorem put_pre (rows : List (List Bool)) (s : List Bool) : rows <+: put rows s := by
  unfold put
  by_cases c : s ∈ rows
  · rw [if_pos (decide_eq_true c)]; exact List.prefix_rfl
  · rw [if_neg (by rw [decide_eq_false c]; decide)]; exact List.prefix_append _ _
theorem puts_pre : ∀ (ss rows : List (List Bool)), rows <+: puts rows ss
  | [], _ => List.prefix_rfl
  | s :: ss, rows => (put_pre rows s).trans (puts_pre ss (put rows s))
theorem at_pre {α : Type} {a b : List α} {i : Nat} {x : α} (h : a <+: b) (e : a[i]? = some x) : b[i]? = some x := by
  obtain ⟨t, rfl⟩ := h
  rw [List.getElem?_append_left (List.getElem?_eq_some_iff.mp e).1, e]
theorem tabs_pre (n w : Nat) : ∀ (ms : List (Nat → Bool)) (t : List (List Nat) × List (List Bool)), t.1 <+: (ms.foldl (tabF n w) t).1 ∧ t.2 <+: (ms.foldl (tabF n w) t).2
  | [], _ => ⟨List.prefix_rfl, List.prefix_rfl⟩
  | m :: ms, t => by
    have ih := tabs_pre n w ms (tabF n w t m)
    exact ⟨(List.prefix_append _ _).trans ih.1, (puts_pre (strc n w m) t.2).trans ih.2⟩
theorem tabs_at (n w : Nat) : ∀ (ms : List (Nat → Bool)) (t : List (List Nat) × List (List Bool)) (i : Nat) (m : Nat → Bool), ms[i]? = some m → ∀ j, j < cnt n w →
    ∃ L k, (ms.foldl (tabF n w) t).1[t.1.length + i]? = some L ∧ L[j]? = some k ∧ (ms.foldl (tabF n w) t).2[k]? = some (strt m w j)
  | [], _, i, _, h, _, _ => by simp at h
  | m0 :: ms, t, 0, m, h, j, hj => by
    have e : m0 = m := by simpa using h
    subst e
    have pre := tabs_pre n w ms (tabF n w t m0)
    have hs : strt m0 w j ∈ strc n w m0 := by
      unfold strc
      exact List.mem_map.mpr ⟨j, List.mem_range.mpr hj, rfl⟩
    have hm : strt m0 w j ∈ puts t.2 (strc n w m0) := puts_mem hs
    refine ⟨(strc n w m0).map fun s => (puts t.2 (strc n w m0)).idxOf s, (puts t.2 (strc n w m0)).idxOf (strt m0 w j), at_pre pre.1 ?_, ?_, at_pre pre.2 ?_⟩
    · show (t.1 ++ [_])[t.1.length + 0]? = _
      rw [List.getElem?_append_right (by omega)]; simp
    · rw [List.getElem?_map]
      unfold strc
      rw [List.getElem?_map, List.getElem?_range hj]; rfl
    · have hl := List.idxOf_lt_length_iff.mpr hm
      show (puts t.2 (strc n w m0))[_]? = _
      rw [List.getElem?_eq_getElem hl, List.getElem_idxOf hl]
  | m0 :: ms, t, i + 1, m, h, j, hj => by
    have h' : ms[i]? = some m := by simpa using h
    obtain ⟨L, k, a, b, c⟩ := tabs_at n w ms (tabF n w t m0) i m h' j hj
    refine ⟨L, k, ?_, b, c⟩
    have e : (tabF n w t m0).1.length = t.1.length + 1 := by
      show (t.1 ++ [_]).length = _
      rw [List.length_append]; rfl
    rw [e] at a
    rw [List.foldl_cons, show t.1.length + (i + 1) = t.1.length + 1 + i by omega]
    exact a
theorem tab_at {n w i j : Nat} {ms : List (Nat → Bool)} {m : Nat → Bool} (h : ms[i]? = some m) (hj : j < cnt n w) : ∃ L k, (tab n w ms).1[i]? = some L ∧ L[j]? = some k ∧ (tab n w ms).2[k]? = some (strt m w j) := by
  obtain ⟨L, k, a, b, c⟩ := tabs_at n w ms ([], []) i m h j hj
  exact ⟨L, k, by simpa [tab] using a, b, c⟩
theorem tabs_wide (n w : Nat) : ∀ (ms : List (Nat → Bool)) (t : List (List Nat) × List (List Bool)), (∀ r ∈ t.2, r.length = w) → ∀ r ∈ (ms.foldl (tabF n w) t).2, r.length = w
  | [], _, h => h
  | m :: ms, t, h => tabs_wide n w ms (tabF n w t m) (puts_all h fun x hx => by
      unfold strc at hx
      obtain ⟨j, _, rfl⟩ := List.mem_map.mp hx
      exact strt_len m w j)
theorem tab_wide {n w : Nat} {ms : List (Nat → Bool)} : ∀ r ∈ (tab n w ms).2, r.length = w := tabs_wide n w ms ([], []) fun _ h => by simp at h
theorem tab_zero {n w : Nat} {ms : List (Nat → Bool)} (h : ms ≠ []) : ∃ r, (tab n w ms).2[0]? = some r ∧ r.length = w := by
  have hp : 0 < ms.length := List.length_pos_iff.mpr h
  obtain ⟨L, k, _, _, c⟩ := tab_at (n := n) (w := w) (i := 0) (j := 0) (List.getElem?_eq_getElem hp) (by unfold cnt; exact Nat.succ_pos _)
  have hl := (List.getElem?_eq_some_iff.mp c).1
  have h0 : 0 < (tab n w ms).2.length := by omega
  exact ⟨_, List.getElem?_eq_getElem h0, tab_wide _ (List.getElem_mem h0)⟩
theorem strt_at {m : Nat → Bool} {w x : Nat} (hw : 1 ≤ w) : (strt m w (x / w))[x % w]? = some (m x) := by
  unfold strt
  rw [List.getElem?_map, List.getElem?_range (Nat.mod_lt _ hw)]
  show some (m (x / w * w + x % w)) = _
  rw [Nat.mul_comm, Nat.div_add_mod]
theorem cnt_div {n w x : Nat} (hw : 1 ≤ w) (h : x < n) : x / w < cnt n w := by
  unfold cnt
  have : x / w ≤ (n - 1) / w := Nat.div_le_div_right (by omega)
  omega
/-- a stretch that is cut short, filled up -/
theorem short_cut {n w j : Nat} {m : Nat → Bool} (hm : ∀ k, n ≤ k → m k = false) (hj : j * w < n) :
    ((((List.range n).map m).drop (j * w)).take w) ++ List.replicate (w - ((((List.range n).map m).drop (j * w)).take w).length) false = strt m w j := by
  have hl : ((((List.range n).map m).drop (j * w)).take w).length = min w (n - j * w) := by
    rw [List.length_take, List.length_drop, List.length_map, List.length_range]
  refine List.ext_getElem? fun i => ?_
  unfold strt
  by_cases hi : i < w
  · rw [List.getElem?_map, List.getElem?_range hi]
    by_cases hk : j * w + i < n
    · rw [List.getElem?_append_left (by rw [hl]; omega), List.getElem?_take, if_pos hi, List.getElem?_drop, List.getElem?_map, List.getElem?_range hk]; rfl
    · rw [List.getElem?_append_right (by rw [hl]; omega), List.getElem?_replicate, if_pos (by rw [hl]; omega)]
      show some false = some (m (j * w + i))
      rw [hm _ (by omega)]
  · rw [List.getElem?_eq_none (by rw [List.length_append, List.length_replicate, hl]; omega), List.getElem?_eq_none (by rw [List.length_map, List.length_range]; omega)]
end SM

namespace SM
/-! classes: the numbers as they come -/
theorem idx_app {α : Type} [BEq α] [LawfulBEq α] {s : α} : ∀ {a b : List α}, s ∈ a → (a ++ b).idxOf s = a.idxOf s
  | x :: a, b, h => by
    rw [List.cons_append, List.idxOf_cons, List.idxOf_cons]
    cases c : x == s with
    | true => rfl
    | false =>
      rcases List.mem_cons.mp h with e | e
      · rw [e, beq_self_eq_true] at c; cases c
      · rw [idx_app e]
theorem getD_lt {α : Type} {xs : List α} {i : Nat} {d : α} (h : i < xs.length) : xs.getD i d = xs[i] := by
  rw [List.getD_eq_getElem?_getD, List.getElem?_eq_getElem h]; rfl
theorem idx_pre {α : Type} [BEq α] [LawfulBEq α] {a b : List α} {s : α} (h : a <+: b) (hs : s ∈ a) : b.idxOf s = a.idxOf s := by
  obtain ⟨t, rfl⟩ := h
  exact idx_app hs
theorem idx_new {α : Type} [BEq α] [LawfulBEq α] : ∀ {a : List α} {s : α}, s ∉ a → (a ++ [s]).idxOf s = a.length
  | [], s, _ => by simp
  | x :: a, s, h => by
    have h1 : x ≠ s := fun z => h (by rw [z]; exact List.mem_cons_self)
    rw [List.cons_append, List.idxOf_cons, show (x == s) = false from beq_eq_false_iff_ne.mpr h1, List.length_cons, ← idx_new (a := a) (s := s) fun z => h (List.mem_cons_of_mem _ z)]
    rfl
theorem UN_succ (rss : List (List (Nat × Nat))) (i : Nat) : UN rss (i + 1) = put (UN rss i) (sg rss i) := by
  unfold UN SG
  rw [List.range_succ, List.map_append, puts_app]; rfl
theorem UN_pre (rss : List (List (Nat × Nat))) : ∀ {i n : Nat}, i ≤ n → UN rss i <+: UN rss n
  | i, 0, h => by
    have : i = 0 := by omega
    subst this; exact List.prefix_rfl
  | i, n + 1, h => by
    by_cases c : i = n + 1
    · subst c; exact List.prefix_rfl
    · exact (UN_pre rss (show i ≤ n by omega)).trans (by rw [UN_succ]; exact put_pre _ _)
theorem rowF_get (rss : List (List (Nat × Nat))) (n : Nat) : rowF rss n = (List.range n).map fun k => (UN rss n).idxOf (sg rss k) := by
  unfold rowF SG
  rw [List.map_map]; rfl
theorem rowF_len (rss : List (List (Nat × Nat))) (n : Nat) : (rowF rss n).length = n := by rw [rowF_get, List.length_map, List.length_range]
theorem rowF_at {rss : List (List (Nat × Nat))} {n k : Nat} (h : k < n) : (rowF rss n)[k]? = some ((UN rss n).idxOf (sg rss k)) := by
  rw [rowF_get, List.getElem?_map, List.getElem?_range h]; rfl
theorem rowF_lt {rss : List (List (Nat × Nat))} {n : Nat} : ∀ m ∈ rowF rss n, m < (UN rss n).length := fun m hm => by
  rw [rowF_get] at hm
  obtain ⟨k, hk, rfl⟩ := List.mem_map.mp hm
  exact List.idxOf_lt_length_iff.mpr (mem_UN.mpr ⟨k, List.mem_range.mp hk, rfl⟩)
theorem idx_nodup {α : Type} [BEq α] [LawfulBEq α] : ∀ {a : List α} {i : Nat} (h : i < a.length), a.Nodup → a.idxOf a[i] = i
  | x :: a, 0, h, _ => by simp
  | x :: a, i + 1, h, nd => by
    have nd' := List.nodup_cons.mp nd
    have hi : i < a.length := by simpa using h
    have ne : x ≠ a[i] := fun z => nd'.1 (by rw [z]; exact List.getElem_mem hi)
    show (x :: a).idxOf a[i] = i + 1
    rw [List.idxOf_cons, show (x == a[i]) = false from beq_eq_false_iff_ne.mpr ne, idx_nodup hi nd'.2]; rfl
theorem rowF_has {rss : List (List (Nat × Nat))} {n c : Nat} (h : c < (UN rss n).length) : c ∈ rowF rss n := by
  obtain ⟨k, hk, e⟩ := mem_UN.mp (List.getElem_mem h)
  rw [rowF_get]
  exact List.mem_map.mpr ⟨k, List.mem_range.mpr hk, by rw [e]; exact idx_nodup h (UN_nodup rss n)⟩
theorem UN_pos {rss : List (List (Nat × Nat))} {n : Nat} (h : 1 ≤ n) : 1 ≤ (UN rss n).length := List.length_pos_of_mem (mem_UN.mpr ⟨0, h, rfl⟩)
/-- the classes of the a-th set: those of its signs -/
theorem ev_mem {rss : List (List (Nat × Nat))} {n a : Nat} {rs : List (Nat × Nat)} (ha : rss[a]? = some rs) (c : Nat) :
    c ∈ ((List.range (UN rss n).length).filter fun c => ((UN rss n).getD c []).getD a false) ↔ ∃ k, k < n ∧ memB rs k = true ∧ (UN rss n).idxOf (sg rss k) = c := by
  have sgA : ∀ k, (sg rss k).getD a false = memB rs k := fun k => by
    unfold sg
    rw [List.getD_eq_getElem?_getD, List.getElem?_map, ha]; rfl
  rw [List.mem_filter, List.mem_range]
  constructor
  · rintro ⟨h1, h2⟩
    rw [getD_lt h1] at h2
    obtain ⟨k, hk, e⟩ := mem_UN.mp (List.getElem_mem h1)
    refine ⟨k, hk, ?_, by rw [e]; exact idx_nodup h1 (UN_nodup rss n)⟩
    rw [← sgA k, e]; exact h2
  · rintro ⟨k, hk, h2, rfl⟩
    have hm : sg rss k ∈ UN rss n := mem_UN.mpr ⟨k, hk, rfl⟩
    have hl := List.idxOf_lt_length_iff.mpr hm
    refine ⟨hl, ?_⟩
    rw [getD_lt hl, List.getElem_idxOf hl]
    rw [sgA, h2]
end SM

/-! values by their data: what a reading makes, told by data alone -/
namespace SB
open PySem L2 Evl
variable {K : PySem.W.Frag} {σ : L2.St} {H H' H1 : Hp}
mutual
theorem dpMono (e : Ex H H') : ∀ (d : PyData) (v : V), Dp K H v d → Dp K H' v d
  | .none, _, h => by cases h; exact .non
  | .bool b, _, h => by cases h; exact .bl b
  | .int i, _, h => by cases h; exact .int i
  | .str x, _, h => by cases h; exact .str x
  | .list ds, _, h => by
    cases h with
    | lst hs ha => exact .lst (ex_l e hs) (dpAllMono e ds _ ha)
  | .tuple ds, _, h => by
    cases h with
    | tup hs ha => exact .tup (ex_t e hs) (dpAllMono e ds _ ha)
  | .dict _, _, h => by cases h
theorem dpAllMono (e : Ex H H') : ∀ (ds : List PyData) (vs : List V), DpAll K H vs ds → DpAll K H' vs ds
  | [], _, h => by cases h; exact .nil
  | d :: ds, _, h => by
    cases h with
    | cons h1 h2 => exact .cons (dpMono e d _ h1) (dpAllMono e ds _ h2)
end
theorem mono {d : PyData} {v : V} (e : Ex H H') (h : Dp K H v d) : Dp K H' v d := dpMono e d v h
theorem monoA {ds : List PyData} {vs : List V} (e : Ex H H') (h : DpAll K H vs ds) : DpAll K H' vs ds := dpAllMono e ds vs h
theorem dpInt {v : V} {i : Int} (h : Dp K H v (.int i)) : v = .int i := by cases h; rfl
theorem dpBool {v : V} {b : Bool} (h : Dp K H v (.bool b)) : v = .bl b := by cases h; rfl
theorem dpStr {v : V} {x : Str} (h : Dp K H v (.str x)) : v = .str x := by cases h; rfl
theorem dpList {v : V} {ds : List PyData} (h : Dp K H v (.list ds)) : ∃ a xs, v = .ref a ∧ SqL K H a xs ∧ DpAll K H xs ds := by
  cases h with
  | lst hs ha => exact ⟨_, _, rfl, hs, ha⟩
theorem dpTuple {v : V} {ds : List PyData} (h : Dp K H v (.tuple ds)) : ∃ a xs, v = .ref a ∧ SqT K H a xs ∧ DpAll K H xs ds := by
  cases h with
  | tup hs ha => exact ⟨_, _, rfl, hs, ha⟩
theorem allNil {vs : List V} (h : DpAll K H vs []) : vs = [] := by cases h; rfl
theorem allCons {vs : List V} {d : PyData} {ds : List PyData} (h : DpAll K H vs (d :: ds)) : ∃ x xs, vs = x :: xs ∧ Dp K H x d ∧ DpAll K H xs ds := by
  cases h with
  | cons h1 h2 => exact ⟨_, _, rfl, h1, h2⟩
theorem all1 {vs : List V} {d : PyData} (h : DpAll K H vs [d]) : ∃ x, vs = [x] ∧ Dp K H x d := by
  obtain ⟨x, xs, rfl, h1, h2⟩ := allCons h
  rw [allNil h2]
  exact ⟨x, rfl, h1⟩
theorem all2 {vs : List V} {d e : PyData} (h : DpAll K H vs [d, e]) : ∃ x y, vs = [x, y] ∧ Dp K H x d ∧ Dp K H y e := by
  obtain ⟨x, xs, rfl, h1, h2⟩ := allCons h
  obtain ⟨y, rfl, h3⟩ := all1 h2
  exact ⟨x, y, rfl, h1, h3⟩
theorem all3 {vs : List V} {d e f : PyData} (h : DpAll K H vs [d, e, f]) : ∃ x y z, vs = [x, y, z] ∧ Dp K H x d ∧ Dp K H y e ∧ Dp K H z f := by
  obtain ⟨x, xs, rfl, h1, h2⟩ := allCons h
  obtain ⟨y, z, rfl, h3, h4⟩ := all2 h2
  exact ⟨x, y, z, rfl, h1, h3, h4⟩
theorem allLen : ∀ {ds : List PyData} {vs : List V}, DpAll K H vs ds → vs.length = ds.length
  | [], _, h => by cases h; rfl
  | d :: ds, _, h => by
    cases h with
    | cons h1 h2 => rw [List.length_cons, List.length_cons, allLen h2]
theorem allGet : ∀ {ds : List PyData} {vs : List V} {i : Nat} {d : PyData}, DpAll K H vs ds → ds[i]? = some d → ∃ x, vs[i]? = some x ∧ Dp K H x d
  | [], _, i, _, h, e => by simp at e
  | d :: ds, _, 0, _, h, e => by
    cases h with
    | cons h1 h2 => simp at e; subst e; exact ⟨_, rfl, h1⟩
  | d :: ds, _, i + 1, _, h, e => by
    cases h with
    | cons h1 h2 =>
      obtain ⟨x, q, r⟩ := allGet h2 (show ds[i]? = some _ by simpa using e)
      exact ⟨x, by simpa using q, r⟩
theorem allAt : ∀ {ds : List PyData} {vs : List V} {i : Nat} {x : V}, DpAll K H vs ds → vs[i]? = some x → Dp K H x (ds.getD i .none)
  | [], _, i, _, h, e => by cases h; simp at e
  | d :: ds, _, 0, _, h, e => by
    cases h with
    | cons h1 h2 => simp at e; subst e; exact h1
  | d :: ds, _, i + 1, _, h, e => by
    cases h with
    | cons h1 h2 =>
      have q := allAt h2 (i := i) (by simpa using e)
      simpa using q
theorem allApp : ∀ {ds es : List PyData} {vs ws : List V}, DpAll K H vs ds → DpAll K H ws es → DpAll K H (vs ++ ws) (ds ++ es)
  | [], _, _, _, h, k => by cases h; exact k
  | d :: ds, _, _, _, h, k => by
    cases h with
    | cons h1 h2 => exact .cons h1 (allApp h2 k)
theorem allSet {d : PyData} {x : V} (hx : Dp K H x d) : ∀ {ds : List PyData} {vs : List V} (i : Nat), DpAll K H vs ds → DpAll K H (vs.set i x) (ds.set i d)
  | [], _, _, h => by cases h; exact .nil
  | e :: ds, _, 0, h => by
    cases h with
    | cons h1 h2 => exact .cons hx h2
  | e :: ds, _, i + 1, h => by
    cases h with
    | cons h1 h2 => exact .cons h1 (allSet hx i h2)
theorem allRev : ∀ {ds : List PyData} {vs : List V}, DpAll K H vs ds → DpAll K H vs.reverse ds.reverse
  | [], _, h => by cases h; exact .nil
  | d :: ds, _, h => by
    cases h with
    | cons h1 h2 =>
      rw [List.reverse_cons, List.reverse_cons]
      exact allApp (allRev h2) (.cons h1 .nil)
theorem allTake : ∀ {ds : List PyData} {vs : List V} (n : Nat), DpAll K H vs ds → DpAll K H (vs.take n) (ds.take n)
  | _, _, 0, _ => by simp; exact .nil
  | [], _, n + 1, h => by cases h; exact .nil
  | d :: ds, _, n + 1, h => by
    cases h with
    | cons h1 h2 => exact .cons h1 (allTake n h2)
theorem allOfInts : ∀ ns : List Int, DpAll K H (ns.map V.int) (ns.map PyData.int)
  | [] => .nil
  | n :: ns => .cons (.int n) (allOfInts ns)
theorem intsOfAll : ∀ {ns : List Int} {vs : List V}, DpAll K H vs (ns.map PyData.int) → vs = ns.map V.int
  | [], _, h => by cases h; rfl
  | n :: ns, _, h => by
    cases h with
    | cons h1 h2 => rw [dpInt h1, intsOfAll h2]; rfl
theorem allOfBls : ∀ bs : List Bool, DpAll K H (bs.map V.bl) (bs.map PyData.bool)
  | [] => .nil
  | n :: ns => .cons (.bl n) (allOfBls ns)
theorem blsOfAll : ∀ {bs : List Bool} {vs : List V}, DpAll K H vs (bs.map PyData.bool) → vs = bs.map V.bl
  | [], _, h => by cases h; rfl
  | n :: ns, _, h => by
    cases h with
    | cons h1 h2 => rw [dpBool h1, blsOfAll h2]; rfl
theorem dpRef {v : V} {ds : List PyData} (h : Dp K H v (.list ds)) : ∃ a, v = .ref a := by
  obtain ⟨a, _, e, _⟩ := dpList h
  exact ⟨a, e⟩

/-! ### what evaluates to which data -/
/-- a new list of that data -/
def NewL (K : PySem.W.Frag) (H : Hp) (Q : VK) (ds : List PyData) : Prop := ∀ p xs H', H p = none → Ex H H' → H' p = some (.lst xs) → DpAll K H' xs ds → Q (.ref p) H'
def EvN (K : PySem.W.Frag) (te : TE) (σ : L2.St) (H : Hp) (ds : List PyData) : Prop := ∀ H1, Ex H H1 → ∀ Q : VK, NewL K H1 Q ds → te σ H1 Q
def EvD (K : PySem.W.Frag) (te : TE) (σ : L2.St) (H : Hp) (d : PyData) : Prop := ∀ H1, Ex H H1 → ∀ Q : VK, (∀ v H2, Ex H1 H2 → Dp K H2 v d → Q v H2) → te σ H1 Q
def EvDA (K : PySem.W.Frag) (ta : TA) (σ : L2.St) (H : Hp) (ds : List PyData) : Prop := ∀ H1, Ex H H1 → ∀ Q : List V → Hp → Prop, (∀ vs H2, Ex H1 H2 → DpAll K H2 vs ds → Q vs H2) → ta σ H1 Q
/-- a promise: arguments by data, a new list by data -/
def spN (K : PySem.W.Frag) (R : List PyData → List PyData → Prop) : Sp := fun vs H Q _ => ∃ ds out, DpAll K H vs ds ∧ R ds out ∧ NewL K H Q out
/-- a promise: arguments by data, a value by data -/
def spV (K : PySem.W.Frag) (R : List PyData → PyData → Prop) : Sp := fun vs H Q _ => ∃ ds out, DpAll K H vs ds ∧ R ds out ∧ ∀ v H', Ex H H' → Dp K H' v out → Q v H'
section
variable {ta tb te : TE} {tA : TA} {d e : PyData} {ds es : List PyData} {v : V} {E : XK}
theorem EvN.asD (h : EvN K te σ H ds) : EvD K te σ H (.list ds) := fun H1 e Q q => h H1 e Q fun p xs H2 _ e2 hp ha => q _ H2 e2 (.lst (sq_of hp) ha)
theorem EvD.mono (e : Ex H H') (h : EvD K te σ H d) : EvD K te σ H' d := fun H1 a Q q => h H1 (e.trans a) Q q
theorem EvN.mono (e : Ex H H') (h : EvN K te σ H ds) : EvN K te σ H' ds := fun H1 a Q q => h H1 (e.trans a) Q q
theorem EvDA.mono (e : Ex H H') (h : EvDA K tA σ H ds) : EvDA K tA σ H' ds := fun H1 a Q q => h H1 (e.trans a) Q q
theorem EvD.of (h : Ev te σ H v) (hd : Dp K H v d) : EvD K te σ H d := fun H1 e Q q => h H1 e Q fun H2 e2 => q v H2 e2 (SB.mono (e.trans e2) hd)
theorem dVar {i : Nat} (h : σ[i]? = some (some v)) (hd : Dp K H v d) : EvD K (tVar i) σ H d := EvD.of (ev_var h) hd
theorem dInt {i : Int} : EvD K (tC (.int i)) σ H (.int i) := EvD.of ev_c (.int i)
theorem dBl {i : Bool} : EvD K (tC (.bl i)) σ H (.bool i) := EvD.of ev_c (.bl i)
theorem EvD.int {i : Int} (h : EvD K te σ H (.int i)) : Ev te σ H (.int i) := fun H1 e Q q => h H1 e Q fun v H2 e2 hd => by rw [dpInt hd]; exact q H2 e2
theorem EvD.bl {i : Bool} (h : EvD K te σ H (.bool i)) : Ev te σ H (.bl i) := fun H1 e Q q => h H1 e Q fun v H2 e2 hd => by rw [dpBool hd]; exact q H2 e2
theorem iD {i : Int} (h : Ev te σ H (.int i)) : EvD K te σ H (.int i) := EvD.of h (.int i)
theorem bD {i : Bool} (h : Ev te σ H (.bl i)) : EvD K te σ H (.bool i) := EvD.of h (.bl i)
theorem daNil : EvDA K tNil σ H [] := fun H1 _ Q q => q [] H1 (Ex.refl H1) .nil
theorem daCons (h : EvD K te σ H d) (hr : EvDA K tA σ H ds) : EvDA K (tCons te tA) σ H (d :: ds) := fun H1 e Q q =>
  h H1 e _ fun v H2 e2 hd => hr H2 (e.trans e2) _ fun vs H3 e3 ha => q _ H3 (e2.trans e3) (.cons (SB.mono e3 hd) ha)
theorem da1 (h : EvD K te σ H d) : EvDA K (tCons te tNil) σ H [d] := daCons h daNil
theorem da2 (h : EvD K ta σ H d) (h' : EvD K tb σ H e) : EvDA K (tCons ta (tCons tb tNil)) σ H [d, e] := daCons h (da1 h')
theorem nCall {R : List PyData → List PyData → Prop} (ha : EvDA K tA σ H ds) (hr : R ds es) : EvN K (tCall (spN K R) [] E tA) σ H es := fun H1 e Q q =>
  ha H1 e _ fun vs H2 e2 hd => by
    refine ⟨ds, es, ?_, hr, fun p xs H3 hp e3 h3 h4 => q p xs H3 (fresh_back e2 hp) (e2.trans e3) h3 h4⟩
    rw [List.append_nil]
    exact hd
theorem vCall {R : List PyData → PyData → Prop} (ha : EvDA K tA σ H ds) (hr : R ds d) : EvD K (tCall (spV K R) [] E tA) σ H d := fun H1 e Q q =>
  ha H1 e _ fun vs H2 e2 hd => by
    refine ⟨ds, d, ?_, hr, fun v H3 e3 h3 => q v H3 (e2.trans e3) h3⟩
    rw [List.append_nil]
    exact hd
theorem dTup (h : EvDA K tA σ H ds) (hl : ds.length ≤ 100000) : EvD K (tTup tA) σ H (.tuple ds) := fun H1 e Q q =>
  h H1 e _ fun vs H2 e2 ha => ⟨sz_of (by rw [allLen ha]; exact hl), fun p hp => q _ _ (e2.trans (Ex.new hp)) (.tup (st_of upd_same) (monoA (Ex.new hp) ha))⟩
theorem nLst (h : EvDA K tA σ H ds) (hl : ds.length ≤ 100000) : EvN K (tLst tA) σ H ds := fun H1 e Q q =>
  h H1 e _ fun vs H2 e2 ha => ⟨sz_of (by rw [allLen ha]; exact hl), fun p hp => q p vs _ (fresh_back e2 hp) (e2.trans (Ex.new hp)) upd_same (monoA (Ex.new hp) ha)⟩
theorem eqD (ha : EvD K ta σ H d) (hb : EvD K tb σ H e) (sd : SeqAt.shaped d = true) (se : SeqAt.shaped e = true) : Ev (tOp (rEqD K) ta tb) σ H (.bl (PyData.eqv d e)) := fun H1 a Q q =>
  ha H1 a _ fun v H2 e2 hd => hb H2 (a.trans e2) _ fun u H3 e3 he => ⟨d, e, SB.mono e3 hd, he, sd, se, q H3 (e2.trans e3)⟩
theorem neD (ha : EvD K ta σ H d) (hb : EvD K tb σ H e) (sd : SeqAt.shaped d = true) (se : SeqAt.shaped e = true) : Ev (tOp (rNeD K) ta tb) σ H (.bl (!PyData.eqv d e)) := fun H1 a Q q =>
  ha H1 a _ fun v H2 e2 hd => hb H2 (a.trans e2) _ fun u H3 e3 he => ⟨d, e, SB.mono e3 hd, he, sd, se, q H3 (e2.trans e3)⟩
/-- xs[i] -/
theorem dIxL {i : Int} (ha : EvD K ta σ H (.list ds)) (hb : Ev tb σ H (.int i)) (h : atI ds i = some d) : EvD K (tOp (rIxL K) ta tb) σ H d := fun H1 a Q q =>
  ha H1 a _ fun v H2 e2 hd => hb H2 (a.trans e2) _ fun H3 e3 => by
    obtain ⟨p, xs, rfl, hs, hA⟩ := dpList (SB.mono e3 hd)
    have key : ∃ x, atI xs i = some x ∧ Dp K H3 x d := by
      have hl := allLen hA
      unfold atI at h ⊢
      rw [hl]
      cases q : ixN ds.length i with
      | none => rw [q] at h; cases h
      | some j => rw [q] at h; exact allGet hA h
    obtain ⟨x, hx, hdx⟩ := key
    exact ⟨p, xs, i, x, rfl, rfl, hs, hx, q x H3 (e2.trans e3) hdx⟩
end

/-! ### one list is changed: what stands beside it -/
def rm (H : Hp) (D : Addr) : Hp := fun a => if a = D then none else H a
theorem rmSame {D : Addr} : rm H D D = none := by unfold rm; rw [if_pos rfl]
theorem rmNe {D a : Addr} (h : a ≠ D) : rm H D a = H a := by unfold rm; rw [if_neg h]
theorem rmEx {D : Addr} : Ex (rm H D) H := fun a o h => by
  by_cases c : a = D
  · rw [c, rmSame] at h; cases h
  · rw [rmNe c] at h; exact h
theorem rmMono {D : Addr} (e : Ex H H') : Ex (rm H D) (rm H' D) := fun a o h => by
  by_cases c : a = D
  · rw [c, rmSame] at h; cases h
  · rw [rmNe c] at h ⊢; exact e a o h
theorem rmUpd {D : Addr} {o : HO} : rm (upd H D o) D = rm H D := by
  funext a
  by_cases c : a = D
  · rw [c, rmSame, rmSame]
  · rw [rmNe c, rmNe c, upd_ne c]
theorem rmNew {D p : Addr} {o : HO} (h : p ≠ D) : rm (upd H p o) D = upd (rm H D) p o := by
  funext a
  by_cases c : a = D
  · rw [c, rmSame, upd_ne (Ne.symm h), rmSame]
  · rw [rmNe c]
    by_cases c2 : a = p
    · rw [c2, upd_same, upd_same]
    · rw [upd_ne c2, upd_ne c2, rmNe c]
theorem rmFree {D : Addr} (h : H D = none) : rm H D = H := by
  funext a
  by_cases c : a = D
  · rw [c, rmSame, h]
  · rw [rmNe c]
/-- what H has stays if D is new to it -/
theorem exRm {D : Addr} (e : Ex H H') (h : H D = none) : Ex H (rm H' D) := fun a o q => by
  rw [rmNe (ne_of_none q h)]
  exact e a o q
mutual
/-- no list within -/
def noL : PyData → Bool
  | .none => true
  | .bool _ => true
  | .int _ => true
  | .str _ => true
  | .list _ => false
  | .tuple ds => noLs ds
  | .dict _ => false
def noLs : List PyData → Bool
  | [] => true
  | d :: ds => noL d && noLs ds
end
theorem sqtRm {D a : Addr} {ys xs : List V} (hD : H D = some (.lst ys)) (h : SqT K H a xs) : SqT K (rm H D) a xs := by
  rcases h with (h | ⟨o, h⟩) | h
  · refine .inl (.inl ?_)
    rw [rmNe (ne_of h hD (by intro z; cases z))]; exact h
  · refine .inl (.inr ⟨o, ?_⟩)
    rw [rmNe (ne_of h hD (by intro z; cases z))]; exact h
  · exact .inr h
mutual
theorem dpRm {D : Addr} {ys : List V} (hD : H D = some (.lst ys)) : ∀ (d : PyData) (v : V), noL d = true → Dp K H v d → Dp K (rm H D) v d
  | .none, _, _, h => by cases h; exact .non
  | .bool b, _, _, h => by cases h; exact .bl b
  | .int i, _, _, h => by cases h; exact .int i
  | .str x, _, _, h => by cases h; exact .str x
  | .list ds, _, n, h => by cases n
  | .tuple ds, _, n, h => by
    cases h with
    | tup hs ha => exact .tup (sqtRm hD hs) (dpAllRm hD ds _ n ha)
  | .dict _, _, _, h => by cases h
theorem dpAllRm {D : Addr} {ys : List V} (hD : H D = some (.lst ys)) : ∀ (ds : List PyData) (vs : List V), noLs ds = true → DpAll K H vs ds → DpAll K (rm H D) vs ds
  | [], _, _, h => by cases h; exact .nil
  | d :: ds, _, n, h => by
    have n' := Bool.and_eq_true_iff.mp n
    cases h with
    | cons h1 h2 => exact .cons (dpRm hD d _ n'.1 h1) (dpAllRm hD ds _ n'.2 h2)
end
/-- evaluated while the list at D is at work: the value's data does not lean on D -/
def EvX (K : PySem.W.Frag) (te : TE) (σ : L2.St) (H : Hp) (D : Addr) (d : PyData) : Prop :=
  ∀ H1, Ex H H1 → (∃ ys, H1 D = some (.lst ys)) → ∀ Q : VK, (∀ v H2, Ex H1 H2 → Dp K (rm H2 D) v d → Q v H2) → te σ H1 Q
section
variable {ta tb te : TE} {tA : TA} {d e : PyData} {ds es : List PyData} {v : V} {D : Addr}
theorem EvD.x (h : EvD K te σ H d) (hn : noL d = true) : EvX K te σ H D d := fun H1 e hD Q q => h H1 e Q fun v H2 e2 hd => by
  obtain ⟨ys, hD⟩ := hD
  exact q v H2 e2 (dpRm (e2 D _ hD) d v hn hd)
theorem EvN.x (h : EvN K te σ H ds) (hn : noLs ds = true) : EvX K te σ H D (.list ds) := fun H1 e hD Q q => h H1 e Q fun p xs H2 hp e2 h2 ha => by
  obtain ⟨ys, hD⟩ := hD
  refine q _ H2 e2 (.lst (sq_of ?_) (dpAllRm (e2 D _ hD) ds xs hn ha))
  rw [rmNe (fun z => by rw [z, hD] at hp; cases hp)]
  exact h2
end
/-! ### walks -/
def YD (K : PySem.W.Frag) (o : Nat → PyData) : Nat → Hp → V → Hp → Prop := fun i H x H' => Ex H H' ∧ Dp K H' x (o i)
/-- over what stands in H already -/
def WkE (K : PySem.W.Frag) (wi : TI) (σ : L2.St) (H : Hp) (n : Nat) (o : Nat → PyData) : Prop := ∀ H1, Ex H H1 → ∀ R : It → Hp → Prop, (∀ J H2, Ex H1 H2 → Walk J n (fun H' => Ex H H') (YD K o) → R J H2) → wi σ H1 R
/-- over something new -/
def WkN (K : PySem.W.Frag) (wi : TI) (σ : L2.St) (H : Hp) (n : Nat) (o : Nat → PyData) : Prop := ∀ H1, Ex H H1 → ∀ R : It → Hp → Prop, (∀ J H2, Ex H1 H2 → Walk J n (fun H' => Ex H2 H') (YD K o) → R J H2) → wi σ H1 R
section
variable {wi : TI} {n : Nat} {o : Nat → PyData} {g : TG} {tb : TS} {D : Ends} {tt : TT} {te tl : TE} {tA : TA} {ds es : List PyData} {v : V}
theorem WkE.asN (h : WkE K wi σ H n o) : WkN K wi σ H n o := fun H1 e R q => h H1 e R fun J H2 e2 w => q J H2 e2 (w.mono (fun H' e3 => (e.trans e2).trans e3) fun _ _ _ _ _ _ y => y)
theorem walkL {a : Addr} {xs : List V} (hs : SqL K H a xs) (ha : DpAll K H xs ds) : Walk (Itl K a) ds.length (fun H' => Ex H H') (YD K fun i => ds.getD i .none) := by
  have w := walk_list (K := K) (a := a) (xs := xs)
  rw [allLen ha] at w
  exact w.mono (fun H' e => ex_l e hs) fun i H1 x H2 hi e y => by
    obtain ⟨rfl, hx⟩ := y
    exact ⟨Ex.refl _, SB.mono e (allAt ha hx)⟩
theorem walkEn {a : Addr} {xs : List V} (hs : SqL K H a xs) (ha : DpAll K H xs ds) : Walk (Ite K a) ds.length (fun H' => Ex H H') (YD K fun i => .tuple [.int (i : Nat), ds.getD i .none]) := by
  have w := walk_enum (K := K) (a := a) (xs := xs)
  rw [allLen ha] at w
  exact w.mono (fun H' e => ex_l e hs) fun i H1 x H2 hi e y => by
    obtain ⟨T, x1, x2, rfl, hT, rfl, h1, h2⟩ := y
    have e1 : V.int (i : Nat) = x1 := Option.some.inj h1
    subst e1
    exact ⟨Ex.new hT, .tup (st_of upd_same) (.cons (.int _) (.cons (SB.mono (e.trans (Ex.new hT)) (allAt ha h2)) .nil))⟩
theorem walkZ {a b : Addr} {xs ys : List V} (hs : SqL K H a xs) (ha : DpAll K H xs ds) (hs' : SqL K H b ys) (ha' : DpAll K H ys es) (hl : ds.length = es.length) : Walk (Itz K a b) ds.length (fun H' => Ex H H') (YD K fun i => .tuple [ds.getD i .none, es.getD i .none]) := by
  have w := walk_zip (K := K) (a := a) (b := b) (xs := xs) (ys := ys) (n := ds.length) (by rw [allLen ha, allLen ha', ← hl, Nat.min_self])
  exact w.mono (fun H' e => ⟨ex_l e hs, ex_l e hs'⟩) fun i H1 x H2 hi e y => by
    obtain ⟨T, x1, x2, rfl, hT, rfl, h1, h2⟩ := y
    have e' := e.trans (Ex.new (o := .tup [x1, x2]) hT)
    exact ⟨Ex.new hT, .tup (st_of upd_same) (.cons (SB.mono e' (allAt ha h1)) (.cons (SB.mono e' (allAt ha' h2)) .nil))⟩
theorem wkList (h : Ev tl σ H v) (hd : Dp K H v (.list ds)) : WkE K (iList K tl) σ H ds.length (fun i => ds.getD i .none) := fun H1 e R q => h H1 e _ fun H2 e2 => by
  obtain ⟨a, xs, rfl, hs, ha⟩ := dpList hd
  exact ⟨a, rfl, ⟨xs, ex_l (e.trans e2) hs⟩, q _ H2 e2 (walkL hs ha)⟩
theorem wkEnum (h : Ev tl σ H v) (hd : Dp K H v (.list ds)) : WkE K (iEnum K (tCons tl tNil)) σ H ds.length (fun i => .tuple [.int (i : Nat), ds.getD i .none]) := fun H1 e R q => h H1 e _ fun H2 e2 => by
  obtain ⟨a, xs, rfl, hs, ha⟩ := dpList hd
  exact ⟨a, xs, rfl, ex_l (e.trans e2) hs, q _ H2 e2 (walkEn hs ha)⟩
theorem wkZip {tl' : TE} {v' : V} (h : Ev tl σ H v) (hd : Dp K H v (.list ds)) (h' : Ev tl' σ H v') (hd' : Dp K H v' (.list es)) (hl : ds.length = es.length) : WkE K (iZip K (tCons tl (tCons tl' tNil))) σ H ds.length (fun i => .tuple [ds.getD i .none, es.getD i .none]) := fun H1 e R q => h H1 e _ fun H2 e2 => h' H2 (e.trans e2) _ fun H3 e3 => by
  obtain ⟨a, xs, rfl, hs, ha⟩ := dpList hd
  obtain ⟨b, ys, rfl, hs', ha'⟩ := dpList hd'
  have e' := (e.trans e2).trans e3
  exact ⟨a, b, xs, ys, rfl, ex_l e' hs, ex_l e' hs', q _ H3 (e2.trans e3) (walkZ hs ha hs' ha' hl)⟩
theorem wkNew (h : EvD K tl σ H (.list ds)) : WkN K (iList K tl) σ H ds.length (fun i => ds.getD i .none) := fun H1 e R q => h H1 e _ fun v H2 e2 hd => by
  obtain ⟨a, xs, rfl, hs, ha⟩ := dpList hd
  exact ⟨a, rfl, ⟨xs, hs⟩, q _ H2 e2 (walkL hs ha)⟩
theorem wkRange1 {j : Int} (h : EvA tA σ H [.int j]) (hb : -(2 ^ 62) ≤ j ∧ j < 2 ^ 62) : WkE K (iRng1 tA) σ H j.toNat (fun i => .int (i : Nat)) := fun H1 e R q => h H1 e _ fun H2 e2 => by
  refine ⟨j, rfl, hb.1, hb.2, q _ H2 e2 (walk_range.mono (fun _ _ => trivial) fun i H3 x H4 _ _ y => ?_)⟩
  obtain ⟨rfl, rfl⟩ := y
  refine ⟨Ex.refl _, ?_⟩
  show Dp K _ (V.int (0 + (i : Int))) _
  rw [Int.zero_add]
  exact .int _
theorem wkRange2 {i j : Int} (h : EvA tA σ H [.int i, .int j]) (hb : -(2 ^ 62) ≤ i ∧ i < 2 ^ 62 ∧ -(2 ^ 62) ≤ j ∧ j < 2 ^ 62) : WkE K (iRng2 tA) σ H (j - i).toNat (fun k => .int (i + (k : Nat))) := fun H1 e R q => h H1 e _ fun H2 e2 => by
  refine ⟨i, j, rfl, hb, q _ H2 e2 (walk_range.mono (fun _ _ => trivial) fun i H3 x H4 _ _ y => ?_)⟩
  obtain ⟨rfl, rfl⟩ := y
  exact ⟨Ex.refl _, .int _⟩
theorem gPair {i j : Nat} {x : V} {d e : PyData} {Q : L2.St → Hp → Prop} (h : Dp K H x (.tuple [d, e])) (q : ∀ y z, Dp K H y d → Dp K H z e → Q ((σ.set i (some y)).set j (some z)) H) : gTup K 2 (gCons (gName i) (gCons (gName j) gNil)) x σ H Q := by
  obtain ⟨a, xs, rfl, hs, ha⟩ := dpTuple h
  obtain ⟨y, z, rfl, h1, h2⟩ := all2 ha
  exact ⟨a, _, rfl, hs, rfl, y, [z], rfl, z, [], rfl, rfl, q y z h1 h2⟩
theorem sFor {B : Hp} (eB : Ex B H) (hw : WkE K wi σ B n o) (Pv : Nat → L2.St → Hp → Prop) (h0 : ∀ H2, Ex H H2 → Pv 0 σ H2) (hG : ∀ i σ' H', i ≤ n → Pv i σ' H' → Ex B H')
    (hs : ∀ i x σ' H' H'', i < n → Pv i σ' H' → Ex H' H'' → Dp K H'' x (o i) → g x σ' H'' fun σ2 H2 => tb { D with nx := Pv (i + 1), ct := Pv (i + 1), bk := D.nx } σ2 H2) (hd : ∀ σ' H', Pv n σ' H' → D.nx σ' H') : tFor wi g tb D σ H :=
  hw H eB _ fun J H2 e w => for_it w Pv (h0 H2 e) hG (fun i x σ' H' H'' hi p y => hs i x σ' H' H'' hi p y.1 y.2) hd
/-- what a comprehension tells -/
def outs (n : Nat) (f : Nat → Bool) (out : Nat → PyData) : List PyData := ((List.range n).filter f).map out
theorem outsYes {f : Nat → Bool} {out : Nat → PyData} (h : f n = true) : outs (n + 1) f out = outs n f out ++ [out n] := by
  unfold outs
  rw [List.range_succ, List.filter_append, List.map_append, List.filter_cons, if_pos h]; rfl
theorem outsNo {f : Nat → Bool} {out : Nat → PyData} (h : f n = false) : outs (n + 1) f out = outs n f out := by
  unfold outs
  rw [List.range_succ, List.filter_append, List.map_append, List.filter_cons, if_neg (by rw [h]; decide)]
  exact List.append_nil _
theorem outsLen (n : Nat) (f : Nat → Bool) (out : Nat → PyData) : (outs n f out).length ≤ n := by
  unfold outs
  rw [List.length_map]
  have h := List.length_filter_le f (List.range n)
  rw [List.length_range] at h
  exact h
theorem nLc {vs : List Nat} (f : Nat → Bool) (out : Nat → PyData) (hn : n ≤ 50000) (hw : WkN K wi σ H n o)
    (ht : ∀ Dl i x H', i < n → Ex H H' → Dp K H' x (o i) → ∃ σ2, (∀ Q : L2.St → Hp → Prop, Q σ2 H' → g x (wipe σ vs) H' Q) ∧ wipe σ2 vs = wipe σ vs ∧ EvT tt σ2 H' (f i) ∧ (f i = true → EvX K te σ2 H' Dl (out i))) :
    EvN K (tLc wi g tt te vs) σ H (outs n f out) := fun H1 e1 Q q => hw H1 e1 _ fun J H2 e2 w => fun Dl hD => by
  refine lc_it w (fun i H' => Ex H2 H' ∧ ∃ acc, H' Dl = some (.lst acc) ∧ DpAll K (rm H' Dl) acc (outs i f out)) ⟨Ex.new hD, [], upd_same, .nil⟩ (fun i H' _ p => p.1) (fun i x H' H'' hi p y => ?_) (fun H' p => ?_)
  · obtain ⟨eP, acc, hacc, hall⟩ := p
    obtain ⟨eY, dY⟩ := y
    obtain ⟨σ2, hg, hwi, hT, hE⟩ := ht Dl i x H'' hi (((e1.trans e2).trans eP).trans eY) dY
    refine hg _ ⟨hwi, hT H'' (Ex.refl _) _ fun H3 e3 => ?_⟩
    have e13 := eY.trans e3
    cases hf : f i with
    | true =>
      show te σ2 H3 _
      refine hE hf H3 e3 ⟨acc, e13 Dl _ hacc⟩ _ fun y H4 e4 hd => ⟨acc, e4 Dl _ (e13 Dl _ hacc), sz_lt ?_, Ex.mut ((eP.trans e13).trans e4) hD, acc ++ [y], upd_same, ?_⟩
      · rw [allLen hall]
        have := outsLen i f out
        omega
      · rw [rmUpd, outsYes hf]
        exact allApp (monoA (rmMono (e13.trans e4)) hall) (.cons hd .nil)
    | false =>
      show Ex H2 H3 ∧ _
      refine ⟨eP.trans e13, acc, e13 Dl _ hacc, ?_⟩
      rw [outsNo hf]
      exact monoA (rmMono e13) hall
  · obtain ⟨eP, acc, hacc, hall⟩ := p
    exact q Dl acc H' (fresh_back e2 hD) (e2.trans eP) hacc (monoA rmEx hall)
theorem sAsgN {i : Nat} {D : Ends} (h : EvN K te σ H ds) (k : ∀ p xs H1, H p = none → Ex H H1 → H1 p = some (.lst xs) → DpAll K H1 xs ds → D.nx (σ.set i (some (.ref p))) H1) : tAsg te (gName i) D σ H := h H (Ex.refl H) _ k
theorem sAsgD {i : Nat} {D : Ends} {d : PyData} (h : EvD K te σ H d) (k : ∀ v H1, Ex H H1 → Dp K H1 v d → D.nx (σ.set i (some v)) H1) : tAsg te (gName i) D σ H := h H (Ex.refl H) _ k
theorem sRetN {D : Ends} (h : EvN K te σ H ds) (k : NewL K H D.rt ds) : tRet te D σ H := h H (Ex.refl H) _ k
theorem sRetD {D : Ends} {d : PyData} (h : EvD K te σ H d) (k : ∀ v H1, Ex H H1 → Dp K H1 v d → D.rt v H1) : tRet te D σ H := h H (Ex.refl H) _ k
theorem NewL.ex {Q : VK} (e : Ex H H1) (q : NewL K H Q ds) : NewL K H1 Q ds := fun p xs H2 hp e2 h2 ha => q p xs H2 (fresh_back e hp) (e.trans e2) h2 ha
end
/-! ### a op b op c op d -/
section
variable {X : Cx} {a b c d : Expr} {ta tb tc td : TE} {pos : Pos}
def tChain3 (r r' r'' : R2) (ta tb tc td : TE) : TE := fun σ H Q => ta σ H fun x H1 => tb σ H1 fun y H2 => r x y H2 fun z H3 => ∃ k, z = .bl k ∧
  (if k = true then tc σ H3 fun w' H4 => r' y w' H4 fun z' H5 => ∃ k', z' = .bl k' ∧ (if k' = true then td σ H5 fun u' H6 => r'' w' u' H6 Q else Q (.bl false) H5) else Q (.bl false) H3)
theorem pt_chain3 {op op' op'' : CmpOp} {r r' r'' : R2} (ho : OpR X (compareOp op) r) (ho' : OpR X (compareOp op') r') (ho'' : OpR X (compareOp op'') r'') (ha : PE X a ta) (hb : PE X b tb) (hc : PE X c tc) (hd : PE X d td)
    (hm : PySem.lastMarks [op, op', op''] [b, c, d] = false := by with_unfolding_all rfl) : PT X (.Compare a [op, op', op''] [b, c, d] pos) (tTest (tChain3 r r' r'' ta tb tc td)) := by
  refine ⟨fun pins s σ H Q I h => ?_⟩
  refine PyProof.Rows.isTrue_chain (thn (ha.run pins s σ H _ I h) fun v s1 ⟨x, H1, I1, r1, q1⟩ => PyProof.Rows.test_link (thn (hb.run pins s1 σ H1 _ I1 q1) fun u s2 ⟨y, H2, I2, r2, q2⟩ =>
    thn (ho pins s2 σ H2 x y v u _ I2 r1 r2 q2) fun d3 s3 ⟨z, H3, I3, r3, k, ek, q3⟩ => ?_)) hm
  subst ek; cases r3
  refine wpAny_truthy_bool ?_
  cases k with
  | false =>
    obtain ⟨k', e', q'⟩ := q3
    cases e'
    exact PyProof.Rows.ite_ff ⟨H3, I3, q'⟩
  | true =>
    refine PyProof.Rows.ite_tt (PyProof.Rows.test_link (thn (hc.run pins s3 σ H3 _ I3 q3) fun w' s4 ⟨z', H4, I4, r4, q4⟩ => thn (ho' pins s4 σ H4 y z' u w' _ I4 r2 r4 q4) fun d' s5 ⟨z2, H5, I5, r5, k2, e2, q5⟩ => ?_))
    subst e2; cases r5
    refine wpAny_truthy_bool ?_
    cases k2 with
    | false =>
      obtain ⟨k', e', q'⟩ := q5
      cases e'
      exact PyProof.Rows.ite_ff ⟨H5, I5, q'⟩
    | true =>
      refine PyProof.Rows.ite_tt (PyProof.Rows.test_last (thn (hd.run pins s5 σ H5 _ I5 q5) fun w2 s6 ⟨z3, H6, I6, r6, q6⟩ => thn (ho'' pins s6 σ H6 z' z3 w' w2 _ I6 r4 r6 q6) fun d7 s7 ⟨z4, H7, I7, r7, k4, e4, q7⟩ => ?_))
      subst e4; cases r7
      exact wpAny_truthy_bool ⟨H7, I7, q7⟩
theorem ev_chain3 {f f' f'' : Int → Int → Bool} {i j k l : Int} {H : Hp} (ha : Ev ta σ H (.int i)) (hb : Ev tb σ H (.int j)) (hc : Ev tc σ H (.int k)) (hd : Ev td σ H (.int l)) :
    Ev (tChain3 (rI0 fun a b => .bl (f a b)) (rI0 fun a b => .bl (f' a b)) (rI0 fun a b => .bl (f'' a b)) ta tb tc td) σ H (.bl (f i j && f' j k && f'' k l)) := fun H1 e Q q =>
  ha H1 e _ fun H2 e2 => hb H2 (e.trans e2) _ fun H3 e3 => ⟨i, j, rfl, rfl, f i j, rfl, by
    generalize f i j = A at q ⊢
    cases A with
    | false => exact iteF (q H3 (e2.trans e3))
    | true =>
      refine iteT (hc H3 ((e.trans e2).trans e3) _ fun H4 e4 => ⟨j, k, rfl, rfl, f' j k, rfl, ?_⟩)
      generalize f' j k = A at q ⊢
      cases A with
      | false => exact iteF (q H4 ((e2.trans e3).trans e4))
      | true => exact iteT (hd H4 (((e.trans e2).trans e3).trans e4) _ fun H5 e5 => ⟨k, l, rfl, rfl, q H5 (((e2.trans e3).trans e4).trans e5)⟩)⟩
theorem ev_chain2 {f f' : Int → Int → Bool} {i j k : Int} {H : Hp} (ha : Ev ta σ H (.int i)) (hb : Ev tb σ H (.int j)) (hc : Ev tc σ H (.int k)) :
    Ev (tChain (rI0 fun a b => .bl (f a b)) (rI0 fun a b => .bl (f' a b)) ta tb tc) σ H (.bl (f i j && f' j k)) := fun H1 e Q q =>
  ha H1 e _ fun H2 e2 => hb H2 (e.trans e2) _ fun H3 e3 => ⟨i, j, rfl, rfl, f i j, rfl, by
    generalize f i j = A at q ⊢
    cases A with
    | false => exact iteF (q H3 (e2.trans e3))
    | true => exact iteT (hc H3 ((e.trans e2).trans e3) _ fun H4 e4 => ⟨j, k, rfl, rfl, q H4 ((e2.trans e3).trans e4)⟩)⟩
end
end SB

/-! set(xs) of a list of ints, and sorted of such a set, of any number -/
namespace SC
open PySem PySem.Spec PyProof.Rows L2
abbrev nS (w : World) : Obj := { cls := .type "set", dict := none, data := .set #[] 0 (.fresh 0 0 (!w.params.followText "set-order")) }
section
variable {P : Program} {w : World} {A : Around} {E : Value → Shared → Prop} {s : Shared}
theorem callSetL {l : Addr} {items : Array Value} {ns : List Int} {Q : Value → Shared → Prop} (jh : A.handled = none) (jl : s.heap.IsList l items) (ji : IntsAre items.toList ns) (jb : ns.length + 1 < scanBound)
    (q : ∀ h' tk c, SetR w h' s.heap.objs.size (fun j => decide (j ∈ ns)) c → c ≤ ns.length → (∀ b o, s.heap.get? b = some o → h'.get? b = some o) → Q (.ref s.heap.objs.size) { s with heap := h', toks := tk }) :
    wpAny (model P w) A (PySem.call (.type "set") [.ref l]) Q E s := by
  have jz : items.size = ns.length := by rw [← Array.length_toList]; exact IntsAre.length ji
  obtain ⟨c0, t0, jm⟩ := F.called_set.mro
  have jM := F.called_set.made; have jU := F.called_set.sub
  refine wpAny_call (codeAny_of_tree ?_); show wpAny _ _ (callAny (.type "set") _) _ _ _
  refine wpAny_pure ⟨Code.quiet_builtin _ (by decide +kernel), codeAny_builtin F.entry_type_call ?_⟩; rw [Around.under_plain (weight_type_call_type "set" [.ref l] []) rfl]
  have u1 := F.called_set.notType; have u2 := F.called_set.canCreate; have u3 := F.typeCall_set_1 (.ref l)
  repeat any_goals first | assumption | wp_step
  refine codeAny_mono (code_set_led1 (.ref l) (E := E) (Q₁ := fun ob s1 => ob = .ref s.heap.objs.size ∧ s1 = { s with heap := s.heap.push (nS w) }) ⟨rfl, rfl⟩) fun r s1 jr => ?_
  match r, jr with
  | .error e, jr => exact jr
  | .ok (.ret ob), jr =>
    obtain ⟨rfl, rfl⟩ := jr
    have jS : (s.heap.push (nS w)).get? s.heap.objs.size = some (nS w) := Heap.get?_push_size _ rfl
    have jT : Shared.TypeIs { s with heap := s.heap.push (nS w) } (.ref s.heap.objs.size) "set" := ⟨_, jS, rfl⟩
    have u4 := F.called_set.init.lookup; have u5 := F.called_set.init.bind (.ref s.heap.objs.size)
    repeat any_goals first | assumption | wp_step
    refine codeAny_mono (codeAny_call_builtin (R := wants (fun r s2 => r = .none ∧ ∃ h' tk c, s2 = { s with heap := h', toks := tk } ∧ SetR w h' s.heap.objs.size (fun j => decide (j ∈ ns)) c ∧ c ≤ ns.length ∧ (∀ b o, s.heap.get? b = some o → h'.get? b = some o)) E) F.called_set.init.plain F.entry_set_init (check_set_init_1 jT ?_)) fun r2 s2 jr2 => ?_
    · obtain ⟨⟨oc, od, ox, os⟩, jo, j1, nl, j2⟩ := jl
      simp only at j1 j2; subst j1; subst j2
      have jo' : (s.heap.push (nS w)).get? l = some { cls := .type "list", dict := od, data := .seq items nl, slots := os } := Heap.get?_push_of_some _ jo
      have j3 := F.sub_list_set; have j4 := F.sub_list_frozenset
      have j5 : (Value.type "list" == Value.type "dict") = false := by decide
      have j6 : (s.heap.push (nS w)).IsList l items := ⟨_, jo', rfl, nl, rfl⟩
      unfold Builtin.«set.__init__» noKeywords Builtin.Frozenset.updateFrom; generalize jP : pyIter = PI; wp_walk; subst jP
      refine wpAny_pyIter_list j6 ?_; refine wpAny_bind (wpAny_runValue ?_)
      have lS : l < s.heap.objs.size := Heap.lt_size jo
      have jz1 : (s.heap.push (nS w)).objs.size = s.heap.objs.size + 1 := Heap.size_push ..
      have jI : l ≠ (s.heap.push (nS w)).objs.size := by rw [jz1]; exact Nat.ne_of_lt (Nat.lt_succ_of_lt lS)
      have jF : s.heap.objs.size ∉ [(s.heap.push (nS w)).objs.size, l] := by
        rw [jz1]; intro z
        rcases List.mem_cons.mp z with z | z
        · exact absurd z (Nat.ne_of_lt (Nat.lt_succ_self _))
        · exact absurd (List.mem_singleton.mp z) (Nat.ne_of_gt lS)
      have jV : ∀ (i : Nat) (v : Value), items[i]? = some v → ∃ k t, ns[i]? = some k ∧ v = .int k t := fun i v hv => by
        have hi : i < ns.length := jz ▸ (Array.getElem?_eq_some_iff.mp hv).1
        obtain ⟨t, e⟩ := IntsAre.int_at ji i v (by rw [Array.getElem?_toList, hv])
        exact ⟨ns[i], t, List.getElem?_eq_getElem hi, by rw [e, List.getD_eq_getElem?_getD, List.getElem?_eq_getElem hi]; rfl⟩
      refine set_update_ints ((Walks.list (show A.in1.in1.in1.handled = none by simp [jh]) _ l jI items).toS) s.heap.objs.size jF ns jz jb jV (items.size - 0) 0 _ (by omega) (Nat.zero_le _) ⟨⟨_, Heap.get?_push_size _ rfl, rfl, rfl⟩, (j6.push _)⟩ ?_ ?_
      · exact ⟨0, Nat.le_refl 0, setR_new_at (Heap.get?_push_of_some _ jS)⟩
      · intro s3 c3 m3 z3 R3
        obtain ⟨h3, g3, d3, t3, o3⟩ := s3
        obtain rfl : g3 = s.gens := m3.gens
        obtain rfl : d3 = s.drawn := m3.drawn
        obtain rfl : o3 = s.os := m3.os
        show wpAny _ _ _ _ _ _; refine wpAny_pure ?_; show wpAny _ _ (ret Value.none) _ _ _
        refine wpAny_pure ⟨rfl, h3, t3, c3, rfl, R3, jz ▸ z3, fun b o e => ?_⟩
        have b0 : b < s.heap.objs.size := Heap.lt_size e
        refine m3.heap b o (fun z => ?_) (Heap.get?_push_of_some _ (Heap.get?_push_of_some _ e))
        rcases List.mem_cons.mp z with z | z
        · exact absurd z (Nat.ne_of_lt b0)
        · exact absurd ((List.mem_singleton.mp z).trans jz1) (Nat.ne_of_lt (Nat.lt_succ_of_lt b0))
    · match r2, jr2 with
      | .error e, jr2 => exact jr2
      | .ok (.ret r), jr2 =>
        obtain ⟨rfl, h', tk, c', rfl, R', z', k'⟩ := jr2
        repeat any_goals first | assumption | wp_step
        exact q _ _ _ R' z' k'
theorem sortedSet {a : Addr} {S : Int → Bool} {n : Nat} {Q : Value → Shared → Prop} (R : SetR w s.heap a S n) (jh : A.handled = none)
    (q : ∀ s' p (out : Array Value) (c : Nat) (ns : List Int), (∀ b o, s.heap.get? b = some o → s'.heap.get? b = some o) → s'.gens = s.gens → s'.os = s.os → s.heap.objs.size ≤ p → s'.heap.get? p = some (seqObj "list" out c) →
      IntsAre out.toList ns → ns.Pairwise (· < ·) → (∀ k, k ∈ ns ↔ S k = true) → ns.length = n → Q (.ref p) s') : wpAny (model P w) A (PySem.call (.builtin "sorted") [.ref a]) Q E s := by
  obtain ⟨o, es, ep, t, ho, hex, hd, g, nd, hm, hb, hf, hn, hr, hl⟩ := R
  refine Calls.call_function_entry kind_sorted plain_sorted entry_sorted (args_sorted1 _) ?_; unfold Builtin.«sorted»
  refine wpAny_bind (m := checkCount "sorted" 1 1 _) (wpAny_pure ?_); refine wpAny_bind (collect_set (A := A.in1) jh ⟨o, ho, hex.1, hd⟩ hf hb hr hl fun s1 vs k1 hz g1 o1 pm => ?_)
  have vl : vs.length = n := by rw [pm.length_eq, List.length_map, Array.length_toList]; exact hn
  have zl : vs.length ≤ sizeLine := by
    have : scanBound ≤ sizeLine := by decide
    omega
  have vI : IntsAre vs (vs.map Builtin.Re.reRawOf) := ints_of vs fun v hv => by
    obtain ⟨e, he, qe⟩ := List.mem_map.mp (pm.mem_iff.mp hv)
    obtain ⟨k, tk, z1, _⟩ := g e he
    exact ⟨k, tk, by rw [← qe, z1]⟩
  have pk : (vs.map Builtin.Re.reRawOf).Perm (es.toList.map keyOf) := by
    have qq := pm.map Builtin.Re.reRawOf
    rwa [List.map_map] at qq
  refine wpAny_bind (wpAny_newList ?_ zl)
  have oL : (s1.heap.push (seqObj "list" vs.toArray 0)).get? s1.heap.objs.size = some (seqObj "list" vs.toArray 0) := Heap.get?_push_size _ rfl
  refine wpAny_bind (wpAny_holding (wpAny_call_entry slot_list_sort ⟨_, oL, rfl⟩ entry_list_sort (SrtO.list_sort_ord SrtO.swo_int oL zl (fun h2 => SrtO.ints_sortable vI h2) fun out x1 x2 => ⟨_, rfl, ?_⟩) (args_list_sort _)))
  obtain ⟨y1, y2, y3⟩ := SrtO.ints_out vI x1 x2
  obtain ⟨c, hc⟩ := sortedHeap_at (vs := vs) (out := out.toArray) oL
  have pn : (out.map SrtO.iv).Perm (es.toList.map keyOf) := y2.trans pk
  refine wpAny_pure ⟨_, rfl, q _ s1.heap.objs.size out.toArray c (out.map SrtO.iv) (fun b u e => ?_) g1 o1 hz hc y1 (lt_of_le_nodup _ y3 (pn.nodup_iff.mpr nd)) (fun k => by rw [pn.mem_iff, ← hm k]) ?_⟩
  · have e1 := k1 b u e
    have lt1 := Heap.lt_size e1
    show (sortedHeap (s1.heap.push (seqObj "list" vs.toArray 0)) s1.heap.objs.size vs out.toArray).get? b = some u
    rw [sortedHeap_old (Nat.ne_of_lt lt1) (by rw [size_push']; exact Nat.lt_succ_of_lt lt1)]
    exact Heap.get?_push_of_some _ e1
  · rw [pn.length_eq, List.length_map, Array.length_toList]; exact hn
end
/-- set(xs), ints; sorted of it -/
def rSetI (K : PySem.W.Frag) (w : World) : List V → Hp → VK → Prop := fun vs H Q => ∃ (a : Addr) (ns : List Int), vs = [V.ref a] ∧ SqL K H a (ns.map V.int) ∧ ns.length + 1 < scanBound ∧ ∀ c p, H p = none → Q (.ref p) (upd H p (SetO w p (fun j => decide (j ∈ ns)) c))
def rSortS (w : World) : List V → Hp → VK → Prop := fun vs H Q => ∃ (a : Addr) (S : Int → Bool) (n : Nat), vs = [V.ref a] ∧ H a = some (SetO w a S n) ∧ ∀ (ns : List Int) (p : Addr), ns.Pairwise (· < ·) → (∀ k : Int, k ∈ ns ↔ S k = true) → ns.length = n → ns.length ≤ sizeLine → H p = none → Q (.ref p) (upd H p (.lst (ns.map V.int)))
section
variable {X : Cx}
theorem crSetI (hc : X.calm = true) : CallR X (.type "set") (rSetI X.K X.w) := by
  intro pins s σ H vs us Q I r h
  obtain ⟨a, ns, rfl, hs, hb, q⟩ := h
  obtain ⟨its, rv, hl, hz⟩ := I.list hs
  rw [Vals.ref1 r]
  refine callSetL (ns := ns) (I.ok.hd hc) hl.isList (by simpa using rv.ints) hb fun h' tk c R hc' k => ?_
  have hn : H s.heap.objs.size = none := I.hok.fresh (Nat.le_refl _)
  exact ⟨.ref _, upd H s.heap.objs.size (SetO X.w s.heap.objs.size (fun j => decide (j ∈ ns)) c), I.laid (t' := tk) k (Nat.le_refl _) (setO_new R), rfl, q c _ hn⟩
theorem crSortS (hc : X.calm = true) : CallR X (.builtin "sorted") (rSortS X.w) := by
  intro pins s σ H vs us Q I r h
  obtain ⟨a, S, n, rfl, ha, q⟩ := h
  have R := setO_get I ha
  have hsz : n < scanBound := by
    obtain ⟨o, es, ep, t, _, _, _, _, _, _, hb, _, hn, _⟩ := R
    omega
  rw [Vals.ref1 r]
  refine sortedSet R (I.ok.hd hc) fun s' p out c ns k g o hp hg hi hs hm hl => ?_
  have hlen : (ns.map V.int).length ≤ sizeLine := by
    have : scanBound ≤ sizeLine := by decide
    rw [List.length_map]; omega
  have hn : H p = none := I.hok.fresh hp
  have J : Inv X pins σ (upd H p (.lst (ns.map V.int))) { s with heap := s'.heap, gens := s'.gens, drawn := s'.drawn, toks := s'.toks } := I.call (ch := []) (Un.laid k hp hn) (I.hok.laid k hp ⟨hlen, out.toList, c, vals_of_ints hi, hg⟩) (by rw [g]; exact I.bare) (fun _ z => nomatch z)
  have e : s' = { s with heap := s'.heap, gens := s'.gens, drawn := s'.drawn, toks := s'.toks } := by cases s'; cases s; cases o; rfl
  rw [e]
  exact ⟨.ref p, _, J, rfl, q ns p hs hm hl (by rw [List.length_map] at hlen; exact hlen) hn⟩
end
end SC

/-! min of a list of data that are alike: the datum, and the item itself -/
namespace SD
open PySem L2 Evl SB
section
variable {X : Cx}
/-- min(xs) -/
def rMinL (K : PySem.W.Frag) : List V → Hp → VK → Prop := fun vs H Q => ∃ (a : Addr) (xs : List V) (d : PyData) (ds : List PyData), vs = [V.ref a] ∧ SqL K H a xs ∧ DpAll K H xs (d :: ds) ∧ PySem.W.AlikeAll (d :: ds) ∧ PyData.depthAll (d :: ds) < 63 ∧
  ∀ v, v ∈ xs → Dp K H v (PySem.W.minD d ds) → Q v H
theorem cr_minL (hc : X.calm = true) (hu : X.A.units + 64 < cLine) : CallR X (.builtin "min") (rMinL X.K) := by
  intro pins s σ H vs us Q I r h
  obtain ⟨a, xs, d, ds, rfl, hs, hd, hk, hz, q⟩ := h
  obtain ⟨its, rv, hl, _⟩ := I.list hs
  rw [Vals.ref1 r]
  obtain ⟨as, hr⟩ := Dp.readsAll I (d :: ds) xs its hd rv
  refine PySem.W.min_list_data (I.ok.hd hc) hl.isList (by simpa using hr) hk (by omega) fun i v h' tk bs hi hm ho => ?_
  have hi' : its[i]? = some v := by simpa using hi
  obtain ⟨x, hx, rx⟩ : ∃ x, xs[i]? = some x ∧ RelV x v := by
    cases e : xs[i]? with
    | none => have := Vals.none_of rv e; rw [this] at hi'; cases hi'
    | some x =>
      obtain ⟨u, hu', ru⟩ := Vals.get rv e
      rw [hu'] at hi'
      exact ⟨x, rfl, (Option.some.inj hi') ▸ ru⟩
  refine ⟨x, H, I.kept ho, rx, q x (List.mem_of_getElem? hx) ?_⟩
  have hdx := allAt hd hx
  obtain ⟨cs, hrx⟩ := Dp.reads I _ x v hdx rx
  have := (Reads.unique (PySem.W.reads_keeps ho hrx) _ _ hm).1
  rw [← this]; exact hdx
end
open PySem.W in
theorem lea_min (f : Nat → Nat) : ∀ n, minOf (((f 1 : Nat) : Int), (1 : Int)) ((List.range n).map fun i => (((f (i + 2) : Nat) : Int), ((i + 2 : Nat) : Int))) = (((SM.lea f n).1 : Int), ((SM.lea f n).2 : Int))
  | 0 => rfl
  | n + 1 => by
    have ih := lea_min f n
    have ha := SM.lea_at f n
    unfold minOf at ih ⊢
    rw [List.range_succ, List.map_append, List.foldl_append, ih]
    have key : (if ((f (n + 2) : Nat) : Int) = ((SM.lea f n).1 : Int) then decide (((n + 2 : Nat) : Int) < ((SM.lea f n).2 : Int)) else decide (((f (n + 2) : Nat) : Int) < ((SM.lea f n).1 : Int))) = decide (f (n + 2) < (SM.lea f n).1) := by
      by_cases e : f (n + 2) = (SM.lea f n).1
      · rw [if_pos (congrArg _ e), decide_eq_false (by omega), decide_eq_false (by omega)]
      · rw [if_neg (by omega)]
        by_cases c : f (n + 2) < (SM.lea f n).1
        · rw [decide_eq_true (by omega), decide_eq_true c]
        · rw [decide_eq_false (by omega), decide_eq_false c]
    show (if (if ((f (n + 2) : Nat) : Int) = ((SM.lea f n).1 : Int) then decide (((n + 2 : Nat) : Int) < ((SM.lea f n).2 : Int)) else decide (((f (n + 2) : Nat) : Int) < ((SM.lea f n).1 : Int))) = true then (((f (n + 2) : Nat) : Int), ((n + 2 : Nat) : Int)) else (((SM.lea f n).1 : Int), ((SM.lea f n).2 : Int))) = _
    rw [key]
    show _ = ((((if f (n + 2) < (SM.lea f n).1 then (f (n + 2), n + 2) else SM.lea f n) : Nat × Nat).1 : Int), (((if f (n + 2) < (SM.lea f n).1 then (f (n + 2), n + 2) else SM.lea f n) : Nat × Nat).2 : Int))
    by_cases c : f (n + 2) < (SM.lea f n).1
    · rw [decide_eq_true c, if_pos rfl, if_pos c]
    · rw [decide_eq_false c, if_neg (by decide), if_neg c]
def pD (p : Nat × Nat) : PyData := .tuple [.int (p.1 : Int), .int (p.2 : Int)]
theorem pD_toD (a b : Nat) : pD (a, b) = PySem.W.Datum.toD (((a : Int), (b : Int)) : Int × Int) := rfl
theorem minPairs (f : Nat → Nat) (n : Nat) : PySem.W.minD (pD (f 1, 1)) ((List.range n).map fun i => pD (f (i + 2), i + 2)) = pD (SM.lea f n) := by
  have h := PySem.W.minD_map (((f 1 : Nat) : Int), (1 : Int)) ((List.range n).map fun i => (((f (i + 2) : Nat) : Int), ((i + 2 : Nat) : Int)))
  rw [lea_min, List.map_map] at h
  exact h
theorem alikePairs (ps : List (Nat × Nat)) : PySem.W.AlikeAll (ps.map pD) := by
  have h := PySem.W.alikeAll_datum (ps.map fun p => (((p.1 : Int), (p.2 : Int)) : Int × Int))
  rw [List.map_map] at h
  exact h
theorem depPairs : ∀ ps : List (Nat × Nat), PyData.depthAll (ps.map pD) ≤ 1
  | [] => Nat.zero_le _
  | p :: ps => Nat.max_le.mpr ⟨Nat.le_refl _, depPairs ps⟩
end SD

/-! dicts whose keys are tuples of truth values, and whose values are whole numbers -/
namespace SE
open PySem PySem.Spec PyProof.Rows L2
abbrev bK (P : Program) (w : World) : HeapKind P w (List Bool) := tupleKind (PpSet.boolK P w)
abbrev En : Type := List Bool × Addr × Int
abbrev Er (p : En) (q : List Bool × Addr × Value) : Prop := p.1 = q.1 ∧ p.2.1 = q.2.1 ∧ ∃ t, q.2.2 = .int p.2.2 t
def lookB (es : List En) (ks : List Bool) : Option Int := (es.find? fun e => decide (e.1 = ks)).map (·.2.2)
def DBp (P : Program) (w : World) (a : Addr) (es : List En) (h : Heap) : Prop :=
  (a == sysModules) = false ∧ ∃ xs, Paired Er es xs ∧ ∃ o ds ep, h.get? a = some o ∧ o.ExactDict ∧ o.data = .dict ds ep ∧ ds.toList = xs.map (entryOfKey (bK P w)) ∧ (xs.map (·.1)).Nodup
def DBO (P : Program) (w : World) (a : Addr) (es : List En) : HO := .ext (DBp P w a es)
section
variable {P : Program} {w : World} {H : Hp} {h : Heap} {a b : Addr} {es : List En} {ks : List Bool}
theorem dbo_new (R : DBp P w a es h) : ObjOk P w H h a (DBO P w a es) := by
  obtain ⟨hz, xs, pr, o, ds, ep, ho, rest⟩ := id R
  refine ⟨R, ⟨o, ho⟩, fun h1 h2 p k => ?_⟩
  obtain ⟨hz', xs', pr', o', ds', ep', ho', rest'⟩ := p
  exact ⟨hz', xs', pr', o', ds', ep', k _ ho', rest'⟩
theorem bItems : ∀ {ks : List Bool} {us : List Value}, Vals (ks.map V.bl) us → ItemsAre (PpSet.boolK P w) ks us
  | [], _, r => by rw [List.map_nil] at r; cases r; exact .nil
  | k :: ks, _, r => by
    rw [List.map_cons] at r
    cases r with
    | cons h1 h2 =>
      cases (show _ = Value.bool k from h1)
      exact .cons (PpSet.boolK_is P w k) (bItems h2)
theorem bKey (ok : HOk P w H h) (e : H b = some (.tup (ks.map V.bl))) : (bK P w).is h ks b := by
  have z : ObjOk P w H h b (.tup (ks.map V.bl)) := ok b _ e
  obtain ⟨_, its, r, o, j1, j2, m, j3⟩ := z
  exact ⟨o, its.toArray, m, j1, j2, j3, by simpa using bItems r⟩
theorem look_at : ∀ {es : List En} {xs : List (List Bool × Addr × Value)}, Paired Er es xs → ∀ ks, (lookB es ks = none ∧ atKey xs ks = none) ∨ ∃ j t p, lookB es ks = some j ∧ atKey xs ks = some p ∧ p.2 = Value.int j t
  | _, _, .nil, _ => .inl ⟨rfl, rfl⟩
  | e :: es, x :: xs, .cons h t, ks => by
    obtain ⟨h1, h2, t', h3⟩ := h
    by_cases c : e.1 = ks
    · refine .inr ⟨e.2.2, t', x.2, ?_, ?_, h3⟩
      · unfold lookB; rw [List.find?_cons, decide_eq_true c]; rfl
      · unfold atKey; rw [List.find?_cons, decide_eq_true (h1.symm.trans c)]; rfl
    · have c' : ¬ x.1 = ks := fun z => c (h1.trans z)
      have e1 : lookB (e :: es) ks = lookB es ks := by unfold lookB; rw [List.find?_cons, decide_eq_false c]
      have e2 : atKey (x :: xs) ks = atKey xs ks := by unfold atKey; rw [List.find?_cons, decide_eq_false c']
      rw [e1, e2]
      exact look_at t ks
theorem pair_len : ∀ {es : List En} {xs : List (List Bool × Addr × Value)}, Paired Er es xs → xs.length = es.length
  | _, _, .nil => rfl
  | _ :: _, _ :: _, .cons _ t => by rw [List.length_cons, List.length_cons, pair_len t]
theorem pair_mem : ∀ {es : List En} {xs : List (List Bool × Addr × Value)}, Paired Er es xs → ∀ x ∈ xs, ∃ e ∈ es, Er e x
  | _, _, .nil, _, h => by simp at h
  | e :: _, _ :: _, .cons h t, x, hx => by
    rcases List.mem_cons.mp hx with z | z
    · subst z; exact ⟨e, List.mem_cons_self, h⟩
    · obtain ⟨e', m, r⟩ := pair_mem t x z
      exact ⟨e', List.mem_cons_of_mem _ m, r⟩
/-- its entries' keys stand in H -/
def Keys (H : Hp) (es : List En) : Prop := ∀ e ∈ es, H e.2.1 = some (.tup (e.1.map V.bl))
theorem dbo_dict (ok : HOk P w H h) (e : H a = some (DBO P w a es)) (hk : Keys H es) : (a == sysModules) = false ∧ ∃ xs, Paired Er es xs ∧ h.DictOfH (bK P w) a xs := by
  obtain ⟨⟨hz, xs, pr, o, ds, ep, j1, j2, j3, j4, j5⟩, _⟩ := (show ObjOk P w H h a (DBO P w a es) from ok a _ e)
  refine ⟨hz, xs, pr, o, ds, ep, j1, j2, j3, j4, fun x hx => ?_, j5⟩
  obtain ⟨e, he, r1, r2, _⟩ := pair_mem pr x hx
  have := hk e he
  rw [r1, r2] at this
  exact bKey ok this
theorem dbo_make {xs : List (List Bool × Addr × Value)} (hz : (a == sysModules) = false) (pr : Paired Er es xs) (d : h.DictOfH (bK P w) a xs) : ObjOk P w H h a (DBO P w a es) := by
  obtain ⟨o, ds, ep, j1, j2, j3, j4, _, j5⟩ := d
  exact dbo_new ⟨hz, xs, pr, o, ds, ep, j1, j2, j3, j4, j5⟩
end
section
variable {X : Cx} {pos : Pos}
/-- {} -/
def tNewB (P : Program) (w : World) : TE := fun _ H Q => ∀ p, H p = none → Q (.ref p) (upd H p (DBO P w p []))
theorem pe_newB : PE X (.Dict [] [] pos) (tNewB X.prog X.w) := by
  refine ⟨fun pins s σ H Q I h => wpAny_Dict_empty ?_⟩
  have ok : ObjOk X.prog X.w (upd H s.heap.objs.size (DBO X.prog X.w s.heap.objs.size [])) (s.heap.push { cls := .type "dict", data := .dict #[] }) s.heap.objs.size (DBO X.prog X.w s.heap.objs.size []) :=
    dbo_make (beq_eq_false_iff_ne.mpr (Ne.symm (Nat.ne_of_lt I.big))) .nil (Heap.DictOfH.new s.heap)
  exact ⟨.ref s.heap.objs.size, _, I.laid (t' := s.toks) (fun _ _ q => Heap.get?_push_of_some _ q) (Nat.le_refl _) ok, rfl, h _ (I.hok.fresh (Nat.le_refl _))⟩
/-- len(d) -/
def rLenB (P : Program) (w : World) : List V → Hp → VK → Prop := fun xs H Q => ∃ a es, xs = [V.ref a] ∧ H a = some (DBO P w a es) ∧ Keys H es ∧ es.length ≤ 1000 ∧ Q (.int es.length) H
theorem cr_lenB : CallR X (.builtin "len") (rLenB X.prog X.w) := by
  intro pins s σ H vs us Q I r h
  obtain ⟨a, es, rfl, ha, hk, hl, q⟩ := h
  rw [Vals.ref1 r]
  obtain ⟨hz, xs, pr, d⟩ := dbo_dict I.hok ha hk
  have e := pair_len pr
  refine call_len_dictH hz d (by omega) ?_
  rw [e]
  exact ⟨.int es.length, H, I.tok _, ⟨_, rfl⟩, q⟩
/-- d.setdefault(k, i) -/
def tSetB (P : Program) (w : World) (td ty tx : TE) : TE := fun σ H Q => td σ H fun x H1 => ∃ a es, x = .ref a ∧ H1 a = some (DBO P w a es) ∧ Keys H1 es ∧ ty σ H1 fun y H2 => tx σ H2 fun z H3 =>
  ∃ ks b i, y = .ref b ∧ z = .int i ∧ H3 b = some (.tup (ks.map V.bl)) ∧ H3 a = some (DBO P w a es) ∧ Keys H3 es ∧ es.length ≤ 1000 ∧ (∀ j, lookB es ks = some j → Q (.int j) H3) ∧ (lookB es ks = none → Q (.int i) (upd H3 a (DBO P w a (es ++ [(ks, b, i)]))))
theorem pair_app : ∀ {es : List En} {xs : List (List Bool × Addr × Value)} {e : En} {x : List Bool × Addr × Value}, Paired Er es xs → Er e x → Paired Er (es ++ [e]) (xs ++ [x])
  | _, _, _, _, .nil, r => .cons r .nil
  | _ :: _, _ :: _, _, _, .cons h t, r => .cons h (pair_app t r)
theorem pe_setB {o e f : Expr} {td ty tx : TE} {ap cp : Pos} (hu : X.A.units + 1 < cLine) (ho : PE X o td) (he : PE X e ty) (hf : PE X f tx) (m : M2 X o "setdefault" ap e f cp) : PE X (.Call (.Attribute o "setdefault" ap) [e, f] [] cp) (tSetB X.prog X.w td ty tx) := by
  refine ⟨fun pins s σ H Q I h => wpAny_Call_method m.base m.few m.line PySem.F.plainAttrs_dict PySem.F.slot_dict_setdefault PySem.F.type_dict_setdefault ?_⟩
  refine thn (ho.run pins s σ H _ I h) fun ov s1 ⟨x, H1, I1, rx, a, es, ex, ha1, hk1, q1⟩ => ?_
  subst ex
  obtain rfl : ov = Value.ref a := rx
  obtain ⟨_, _, _, d1⟩ := dbo_dict I1.hok ha1 hk1
  refine ⟨d1.typeIs, fun c ec => ?_, ?_⟩
  · cases ec
    obtain ⟨ob, _, _, j1, j2, _⟩ := d1
    exact ⟨ob, j1, j2.2.1⟩
  · rw [m.trees]
    refine Calls.callWith_builtin rfl (Calls.evalArgs_plain (Calls.spliced_cons ?_))
    refine thn (he.run pins s1 σ H1 _ I1 q1) fun kv s2 ⟨y, H2, I2, ry, q2⟩ => Calls.spliced_cons ?_
    refine thn (hf.run pins s2 σ H2 _ I2 q2) fun fv s3 ⟨z, H3, I3, rz, ks, b, i, ey, ez, hb, ha, hk, hl, k1, k2⟩ => Calls.spliced_nil ?_
    subst ey ez
    cases (show kv = Value.ref b from ry)
    obtain ⟨t, rfl⟩ := rz
    obtain ⟨hz, xs, pr, d⟩ := dbo_dict I3.hok ha hk
    have el := pair_len pr
    refine call_setdefault_heap (knd := bK X.prog X.w) (k := ks) (tupleKind_room_in1 hu) (bKey I3.hok hb) hz d (fun p hp => ?_) (fun hn h' d' sb => ?_) (Nat.le_trans (by omega) (show 1000 ≤ sizeLine by decide))
    · rcases look_at pr ks with ⟨_, c⟩ | ⟨j, t', p', c1, c2, c3⟩
      · rw [c] at hp; cases hp
      · rw [hp] at c2
        cases c2
        exact ⟨.int j, H3, I3.tok _, ⟨t', c3⟩, k1 j c1⟩
    · have cn : lookB es ks = none := by
        rcases look_at pr ks with ⟨c, _⟩ | ⟨j, t', p', _, c2, _⟩
        · exact c
        · rw [hn] at c2; cases c2
      rw [storedH_new hn] at d'
      have ok : ObjOk X.prog X.w (upd H3 a (DBO X.prog X.w a (es ++ [(ks, b, i)]))) h' a (DBO X.prog X.w a (es ++ [(ks, b, i)])) := dbo_make hz (pair_app pr ⟨rfl, rfl, t, rfl⟩) d'
      have ex : ∃ u, h'.get? a = some u := by
        obtain ⟨u, _, _, j, _⟩ := d'
        exact ⟨u, j⟩
      exact ⟨.int i, _, I3.write (e := a) (by rw [ha]; trivial) (.inl rfl) (fun c u hc hu' => (sb.2 c hc).trans hu') ex ok, ⟨t, rfl⟩, k2 cn⟩
end
end SE

/-! {e for t in xs if ..}, e a whole number -/
namespace SF
open PySem PySem.Spec PyProof.Rows L2
abbrev oS (w : World) (D : Addr) (S : Int → Bool) (n : Nat) : HO := SetO w D S n
/-- what becomes of the set at D by one more -/
abbrev more (S : Int → Bool) (c : Int) : Int → Bool := fun j => S j || decide (j = c)
/-- one turn: the target, the tests, the item laid -/
def Turn (w : World) (D : Addr) (g : TG) (tt : TT) (te : TE) (τ : L2.St) (vs : List Nat) (Nx : Hp → Prop) (x : V) (G : Hp) : Prop :=
  g x τ G fun τ2 G2 => wipe τ2 vs = τ ∧ tt τ2 G2 fun b G3 => if b = true then te τ2 G3 fun y G4 => ∃ (c : Int) (S : Int → Bool) (n : Nat), y = .int c ∧ G4 D = some (oS w D S n) ∧ n + 1 < scanBound ∧ Nx (upd G4 D (oS w D (more S c) (if S c = true then n else n + 1))) else Nx G3
def tSi (w : World) (wi : TI) (g : TG) (tt : TT) (te : TE) (vs : List Nat) : TE := fun σ H Q => wi σ H fun J G => ∀ D, G D = none → ∃ W : Nat → Nat → Hp → Prop, (∃ m, W 0 m (upd G D (oS w D (fun _ => false) 0))) ∧
  ∀ i m G', W i m G' → (J.stop i G' ∧ Q (.ref D) G') ∨ (J.go i G' ∧ ∃ Nx : Hp → Prop, (∀ G2, Nx G2 → ∃ m', m' < m ∧ W (i + 1) m' G2) ∧ ∀ x G2, J.yld i G' x G2 → Turn w D g tt te (wipe σ vs) vs Nx x G2)
section
variable {X : Cx}
theorem newS {pins : List (Addr × Obj)} {σ : L2.St} {H : Hp} {s : Shared} (I : Inv X pins σ H s) : Inv X pins σ (upd H s.heap.objs.size (oS X.w s.heap.objs.size (fun _ => false) 0)) { s with heap := s.heap.push (SC.nS X.w) } :=
  I.laid (t' := s.toks) (fun _ _ e => Heap.get?_push_of_some _ e) (Nat.le_refl _) (setO_new (setR_fresh X.w))
theorem pe_si {elt tg iter : Expr} {ifs : List Expr} {scope : Scope} {own : List (PySem.Str × Nat)} {pos : Pos} {wi : TI} {g : TG} {tt : TT} {te : TE} (cm : X.calm = true) (nd : X.N.Nodup) (walk : PI X tg iter wi) (bo : BlkOk X.N X.env.scope scope own)
    (rg : ∀ s H C cl fp, PG (X.blk s H scope (compEnvC scope cl C X.env) fp) tg g)
    (rt : ∀ s H C cl fp, PTs (X.blk s H scope (compEnvC scope cl C X.env) fp) ifs tt)
    (re : ∀ s H C cl fp, PE (X.blk s H scope (compEnvC scope cl C X.env) fp) elt te)
    (fold : ∀ x, foldedSetIterable iter X.env x = pure x := by intro _; rfl) : PE X (.SetComp elt [⟨tg, iter, ifs, 0⟩] scope pos) (tSi X.w wi g tt te (own.map (·.2))) := by
  refine ⟨fun pins s σ H Q I h => ?_⟩
  rw [PpSet.eval_SetComp]
  have fr : ∀ y ∈ scope.names, y.2 = .free → ∃ c, X.env.cells.lookup y.1 = some c := fun y hy e => (bo.free y hy e).elim (fun k => I.ok.has _ (.inl k)) (fun k => I.ok.has _ (.inr k))
  refine wpAny_comprehension_free rfl fold (closure_ok fr) bo.kind (fun y hy e => (bo.uniq y hy).trans (by rw [e])) ?_
  refine thn (walk.run pins s σ H _ I h) fun xv s1 hx => thn hx fun itv s2 ⟨it, fp, tn, J, G2, e, I2, T, st2, f2, q⟩ => ?_
  subst e
  refine PpSet.newSet_ok (newEnv_comp ?_)
  have IS := newS I2
  obtain ⟨D, hD⟩ : ∃ D, s2.heap.objs.size = D := ⟨_, rfl⟩
  have fD : G2 D = none := I2.hok.fresh (Nat.le_of_eq hD)
  obtain ⟨W, ⟨m0, w0⟩, turn⟩ := q D fD
  rw [hD] at IS ⊢
  obtain ⟨s3, h3⟩ : ∃ s3 : Shared, ({ s2 with heap := s2.heap.push (SC.nS X.w) } : Shared) = s3 := ⟨_, rfl⟩
  have h3h : s3.heap = s2.heap.push (SC.nS X.w) := by rw [← h3]
  rw [h3] at IS
  have ltF : ∀ b ∈ fp, b < s2.heap.objs.size := fun b hb => let ⟨_, e, _⟩ := T.obj _ _ st2 b hb; Heap.lt_size e
  have okF : ∀ b ∈ fp, FpOk X pins (upd G2 D (oS X.w D (fun _ => false) 0)) b ∧ b < s3.heap.objs.size := fun b hb => by
    have lt := ltF b hb
    have ne : b ≠ D := by rw [← hD]; exact Nat.ne_of_lt lt
    exact ⟨⟨by rw [upd_ne ne]; exact (f2 b hb).1, (f2 b hb).2⟩, by rw [h3h, Heap.size_push]; exact Nat.lt_succ_of_lt lt⟩
  have st3 : tn 0 s3.heap := T.keep _ _ _ st2 fun b _ o e => by rw [h3h]; exact Heap.get?_push_of_some _ e
  have I4 := block_start IS bo nd okF
  obtain ⟨cl, hcl⟩ : ∃ cl, cellsFrom (s3.heap.objs.size + 1) scope.names (cloFrom X.env.cells scope.names []) = cl := ⟨_, rfl⟩
  obtain ⟨G3, hG3⟩ : ∃ G3, upd G2 D (oS X.w D (fun _ => false) 0) = G3 := ⟨_, rfl⟩
  obtain ⟨C, hC⟩ : ∃ C, s3.heap.objs.size = C := ⟨_, rfl⟩
  obtain ⟨ce, hce⟩ : ∃ ce, compEnvC scope cl C X.env = ce := ⟨_, rfl⟩
  have pg := rg s3 G3 C cl fp
  have pt := rt s3 G3 C cl fp
  have pe := re s3 G3 C cl fp
  have cL : ce.locals = C := by rw [← hce]; rfl
  rw [hce] at pg pt pe
  rw [hG3] at IS okF I4 w0
  have I4' : Inv (X.blk s3 G3 scope ce fp) [] (wipe σ (own.map (·.2))) G3 { s3 with heap := pushCells (s3.heap.push { cls := .type "dict", data := .dict #[] }) scope.names } := by
    rw [← hce, ← hcl, ← hC]; exact I4
  obtain ⟨s4, h4⟩ : ∃ s4 : Shared, ({ s3 with heap := pushCells (s3.heap.push { cls := .type "dict", data := .dict #[] }) scope.names } : Shared) = s4 := ⟨_, rfl⟩
  rw [h4] at I4'
  have st4 : tn 0 s4.heap := T.keep _ _ _ st3 fun b _ o e => by rw [← h4]; exact pushCells_keeps _ _ _ _ (Heap.get?_push_of_some _ e)
  have still : ∀ {τ : L2.St} {G : Hp} {z : Shared}, Inv (X.blk s3 G3 scope ce fp) [] τ G z → (∀ b ∈ fp, G b = none) → ∀ b ∈ fp, FpOk (X.blk s3 G3 scope ce fp) [] G b := fun {τ G z} J0 hn b hb =>
    ⟨hn b hb, (J0.ok.exf b hb).1, J0.ok.exfs b hb, .inl hb, fun x c e => (J0.ok.exf b hb).2 x c e, fun p hp => by cases hp⟩
  have done : ∀ (s' : Shared) (m : PySem.Str → Option Value) (G : Hp), Inv X pins σ G s' → Q (.ref D) G → s'.heap.Ns C m → FpOk X pins G C → compPost (model X.prog X.w) X.A X.xe none (EP X pins σ Q) (.ref D) C (.ok .next) s' := fun s' m G J1 qq hn f => by
    refine ⟨m, hn, fun h'' sb => ?_⟩
    obtain ⟨u0, u1, u2, u3, u4, u5⟩ := f
    exact ⟨.ref D, G, J1.turned (t' := s'.toks) (fun b o hb e => (sb.2 b hb).trans e) u0 u1 u3 u4 u5, rfl, qq⟩
  have loop : codeAny (model X.prog X.w) X.A (.compLoop (.SetComp elt [⟨tg, iter, ifs, 0⟩] scope pos) 0 (.ref it) (.ref D) ce) (compPost (model X.prog X.w) X.A X.xe none (EP X pins σ Q) (.ref D) C) s4 := by
    refine PpSet.compLoopS_any (fun n z => ∃ i G, Inv (X.blk s3 G3 scope ce fp) [] (wipe σ (own.map (·.2))) G z ∧ tn i z.heap ∧ (∀ b ∈ fp, G b = none) ∧ W i n G) ?_ m0 ⟨0, G3, I4', st4, fun b hb => (okF b hb).1.1, w0⟩
    rintro n z5 ⟨i, G5, I5, st5, n5, w5⟩
    rcases turn i n G5 w5 with ⟨stop, qq⟩ | ⟨go, Nx, hNx, step⟩
    · refine thnF (T.done (X.blk s3 G3 scope ce fp) rfl rfl rfl cm i [] z5 _ G5 (fun _ _ => False) I5 (still I5 n5) st5 stop) fun r z6 ⟨hr, I6⟩ => ?_
      subst hr
      have J1 : Inv X pins σ G5 z6 := IS.call' (ch := fp) I6.os I6.base I6.hok I6.bare fun b hb => let k := (okF b hb).1.2; ⟨k.2.2.1, k.1, k.2.2.2.1, k.2.2.2.2⟩
      have nC : G5 C = none := by
        have y : G5 ce.locals = none := I6.free
        rwa [cL] at y
      obtain ⟨m, hn, _⟩ := I6.loc
      have hn' : z6.heap.Ns C m := by
        have y : z6.heap.Ns ce.locals m := hn
        rwa [cL] at y
      exact done z6 m G5 J1 qq hn' (IS.fpOk (Nat.le_of_eq hC) nC)
    · refine thnF (T.item (X.blk s3 G3 scope ce fp) rfl rfl rfl cm i [] z5 _ G5 (fun _ _ => False) I5 (still I5 n5) st5 go) fun r z6 ⟨u, hr, k6⟩ => ?_
      subst hr
      refine thnF k6 fun _ z7 ⟨x, G7, I7, r7, y7, st7, n7⟩ => ?_
      have I7' := I7.pinned (still I7 n7) (T.obj _ _ st7)
      refine thnF (pg.run _ z7 _ G7 x u _ I7' r7 (step x G7 y7)) fun _ z8 ⟨τ8, G8, I8, w8, q8⟩ => ?_
      refine thnF (pt.run _ z8 τ8 G8 _ I8 q8) fun b z9 ⟨G9, I9, q9⟩ => ?_
      have fin : ∀ {z' : Shared} {G' : Hp}, Inv (X.blk s3 G3 scope ce fp) ([] ++ pinsAt fp z7.heap) τ8 G' z' → Nx G' → ∃ m, m < n ∧ ∃ i G'', Inv (X.blk s3 G3 scope ce fp) [] (wipe σ (own.map (·.2))) G'' z' ∧ tn i z'.heap ∧ (∀ b ∈ fp, G'' b = none) ∧ W i m G'' := fun {z' G'} J' nx => by
        obtain ⟨m', lt', w'⟩ := hNx G' nx
        have pinned : ∀ b ∈ fp, ∀ o, z7.heap.get? b = some o → z'.heap.get? b = some o ∧ G' b = none := fun b hb o e =>
          let k := J'.pin (b, o) (List.mem_append_right _ (List.mem_append_right _ (mem_pinsAt hb e))); ⟨k.1, k.2.1⟩
        have len : (wipe σ (own.map (·.2))).length = τ8.length := by rw [← w8, wipe_length]
        refine ⟨m', lt', i + 1, G', (J'.unpinned (pins := [])).weak len (fun j v e => by rw [← w8] at e; exact (wipe_some e).1), T.keep _ _ _ st7 fun b hb o e => (pinned b hb o e).1, fun b hb => ?_, w'⟩
        obtain ⟨o, e, _⟩ := T.obj _ _ st7 b hb
        exact (pinned b hb o e).2
      cases b with
      | false => exact fin I9 q9
      | true =>
        refine thnF (pe.run _ z9 τ8 G9 _ I9 q9) fun v z10 ⟨yv, G10, I10, r10, c, S, n0, ey, hS, room, nx⟩ => ?_
        subst ey
        obtain ⟨tk, rfl⟩ := r10
        have R := setO_get (X := X.blk s3 G3 scope ce fp) I10 hS
        refine setR_add R room fun h' sb new => fin ?_ nx
        have ex : ∃ u, h'.get? D = some u := let ⟨o, _, _, _, ho, _⟩ := new; ⟨o, ho⟩
        exact I10.write (e := D) (t' := z10.toks + 1) (by rw [hS]; trivial) (.inl rfl) (fun b u hb hu => (sb.2 b hb).trans hu) ex (setO_new new)
  have fini := PpSet.codeAny_compStart_set (env := ce) loop (T.self X.A 0 _ _ _ st4 loop)
  rw [← h4, ← hce, ← hcl, ← h3, ← hC, ← h3] at fini
  first
    | exact fini
    | (rw [← hC, ← h3] at fini; exact fini)
end
end SF

namespace SG
open PySem PySem.Spec PyProof.Rows L2 Evl SB SM
def topS (i : Nat) : Stmt := PySem.Challenge.pw_signsets_k10_whole_classes.main.body.getD i (.Pass ⟨0, 0, 0, 0⟩)
abbrev sCheckSize : Stmt := topS 7
abbrev nCheckSize : List Str := ["size"]
theorem scCheckSize : FnScope nCheckSize ["size"] (defScope sCheckSize) := ⟨rfl, rfl, rfl, by decide +kernel, rfl, by decide +kernel, by decide +kernel⟩
abbrev sCheckSet : Stmt := topS 8
abbrev nCheckSet : List Str := ["size", "ranges", "number", "at", "first", "last"]
theorem scCheckSet : FnScope nCheckSet ["size", "ranges", "number"] (defScope sCheckSet) := ⟨rfl, rfl, rfl, by decide +kernel, rfl, by decide +kernel, by decide +kernel⟩
abbrev sMarksOf : Stmt := topS 9
abbrev nMarksOf : List Str := ["size", "ranges", "marks", "first", "last", "sign"]
theorem scMarksOf : FnScope nMarksOf ["size", "ranges"] (defScope sMarksOf) := ⟨rfl, rfl, rfl, by decide +kernel, rfl, by decide +kernel, by decide +kernel⟩
abbrev sCheckedMarks : Stmt := topS 10
abbrev nCheckedMarks : List Str := ["size", "sets", "number", "ranges"]
theorem scCheckedMarks : FnScope nCheckedMarks ["size", "sets"] (defScope sCheckedMarks) := ⟨rfl, rfl, rfl, by decide +kernel, rfl, by decide +kernel, by decide +kernel⟩
abbrev sRangesOf : Stmt := topS 11
abbrev nRangesOf : List Str := ["marks", "told", "start", "sign", "marked"]
theorem scRangesOf : FnScope nRangesOf ["marks"] (defScope sRangesOf) := ⟨rfl, rfl, rfl, by decide +kernel, rfl, by decide +kernel, by decide +kernel⟩
abbrev sRowOf : Stmt := topS 13
abbrev nRowOf : List Str := ["size", "all_marks", "numbers", "row", "sign", "held", "marks"]
theorem scRowOf : FnScope nRowOf ["size", "all_marks"] (defScope sRowOf) := ⟨rfl, rfl, rfl, by decide +kernel, rfl, by decide +kernel, by decide +kernel⟩
abbrev sClasses : Stmt := topS 14
abbrev nClasses : List Str := ["size", "sets", "row", "mine", "number"]
theorem scClasses : FnScope nClasses ["size", "sets"] (defScope sClasses) := ⟨rfl, rfl, rfl, by decide +kernel, rfl, by decide +kernel, by decide +kernel⟩
abbrev sClassRow : Stmt := topS 15
abbrev nClassRow : List Str := ["size", "sets"]
theorem scClassRow : FnScope nClassRow ["size", "sets"] (defScope sClassRow) := ⟨rfl, rfl, rfl, by decide +kernel, rfl, by decide +kernel, by decide +kernel⟩
abbrev sByClasses : Stmt := topS 16
abbrev nByClasses : List Str := ["size", "sets", "all_marks", "row", "number", "marked", "marks"]
theorem scByClasses : FnScope nByClasses ["size", "sets"] (defScope sByClasses) := ⟨rfl, rfl, rfl, by decide +kernel, rfl, by decide +kernel, by decide +kernel⟩
abbrev sLawDice : Stmt := topS 18
abbrev nLawDice : List Str := ["_law_script", "_law_k", "_law_found", "_law_cell"]
theorem scLawDice : FnScope nLawDice ["_law_script", "_law_k"] (defScope sLawDice) := ⟨rfl, rfl, rfl, by decide +kernel, rfl, by decide +kernel, by decide +kernel⟩
abbrev sLawOff : Stmt := topS 19
abbrev nLawOff : List Str := ["_law_d", "_law_most", "_law_found"]
theorem scLawOff : FnScope nLawOff ["_law_d", "_law_most"] (defScope sLawOff) := ⟨rfl, rfl, rfl, by decide +kernel, rfl, by decide +kernel, by decide +kernel⟩
abbrev sLawAlike : Stmt := topS 20
abbrev nLawAlike : List Str := ["_law_found", "_law_due", "_law_k"]
theorem scLawAlike : FnScope nLawAlike ["_law_found", "_law_due"] (defScope sLawAlike) := ⟨rfl, rfl, rfl, by decide +kernel, rfl, by decide +kernel, by decide +kernel⟩
abbrev sLawSize : Stmt := topS 21
abbrev nLawSize : List Str := ["_law_d"]
theorem scLawSize : FnScope nLawSize ["_law_d"] (defScope sLawSize) := ⟨rfl, rfl, rfl, by decide +kernel, rfl, by decide +kernel, by decide +kernel⟩
abbrev sLawSet : Stmt := topS 22
abbrev nLawSet : List Str := ["_law_d", "_law_size_here", "_law_most", "_law_wide", "_law_found", "_law_turn", "_law_first"]
theorem scLawSet : FnScope nLawSet ["_law_d", "_law_size_here", "_law_most"] (defScope sLawSet) := ⟨rfl, rfl, rfl, by decide +kernel, rfl, by decide +kernel, by decide +kernel⟩
abbrev sLawMembers : Stmt := topS 23
abbrev nLawMembers : List Str := ["_law_size_here", "_law_ranges", "_law_found", "_law_first", "_law_last"]
theorem scLawMembers : FnScope nLawMembers ["_law_size_here", "_law_ranges"] (defScope sLawMembers) := ⟨rfl, rfl, rfl, by decide +kernel, rfl, by decide +kernel, by decide +kernel⟩
abbrev sLawTold : Stmt := topS 24
abbrev nLawTold : List Str := ["_law_numbers", "_law_firsts", "_law_lasts", "_law_number", "_law_k"]
theorem scLawTold : FnScope nLawTold ["_law_numbers"] (defScope sLawTold) := ⟨rfl, rfl, rfl, by decide +kernel, rfl, by decide +kernel, by decide +kernel⟩
abbrev sLawSets : Stmt := topS 25
abbrev nLawSets : List Str := ["_law_d", "_law_size_here", "_law_found", "_law_turn", "_law_ranges", "_law_by", "_law_first", "_law_last"]
theorem scLawSets : FnScope nLawSets ["_law_d", "_law_size_here"] (defScope sLawSets) := ⟨rfl, rfl, rfl, by decide +kernel, rfl, by decide +kernel, by decide +kernel⟩
abbrev sLaw : Stmt := topS 26
abbrev nLaw : List Str := ["_law_script", "_law_d", "_law_size_here", "_law_sets_here", "_law_known", "_law_signs", "_law_number", "_law_unlike", "_law_sign", "_law_row", "_law_some", "_law_one", "_law_every", "_law_at", "_law_handed", "_law_turn", "_law_found", "_law_part", "_law_few", "_law_ranges", "_law_numbers"]
theorem scLaw : FnScope nLaw ["_law_script"] (defScope sLaw) := ⟨rfl, rfl, rfl, by decide +kernel, rfl, by decide +kernel, by decide +kernel⟩
/-! ### data -/
def rD (r : Nat × Nat) : PyData := .tuple [.int (r.1 : Int), .int (r.2 : Int)]
def sD (rs : List (Nat × Nat)) : PyData := .list (rs.map rD)
def bls (n : Nat) (m : Nat → Bool) : List PyData := (List.range n).map fun i => .bool (m i)
theorem bls_len (n : Nat) (m : Nat → Bool) : (bls n m).length = n := by unfold bls; rw [List.length_map, List.length_range]
theorem getD_bls {n i : Nat} (m : Nat → Bool) (h : i < n) : (bls n m).getD i .none = .bool (m i) := by
  unfold bls
  rw [List.getD_eq_getElem?_getD, List.getElem?_map, List.getElem?_range h]; rfl
theorem getD_map {α : Type} (f : α → PyData) : ∀ {xs : List α} {i : Nat} {x : α}, xs[i]? = some x → (xs.map f).getD i .none = f x := fun {xs i x} h => by
  rw [List.getD_eq_getElem?_getD, List.getElem?_map, h]; rfl
theorem noLs_map {α : Type} {f : α → PyData} (h : ∀ x, noL (f x) = true) : ∀ xs : List α, noLs (xs.map f) = true
  | [] => rfl
  | x :: xs => by
    show (noL (f x) && noLs (xs.map f)) = true
    rw [h x, noLs_map h xs]; rfl
theorem noL_rD (r : Nat × Nat) : noL (rD r) = true := rfl
theorem noL_bls (n : Nat) (m : Nat → Bool) : noLs (bls n m) = true := noLs_map (fun _ => rfl) _
section
variable {P : Program} {w : World} {K : PySem.W.Frag} {mg : Str → Option Value} {base : Heap}
/-! ### check_size -/
def RSize : List PyData → PyData → Prop := fun ds out => ∃ n : Nat, ds = [.int (n : Int)] ∧ 1 ≤ n ∧ n ≤ 64 ∧ out = .none
theorem ok_size {f : Addr} {fd : FuncData} {k : Nat} {t : Tok} (F : Fun K "check_size" "check_size" sCheckSize f fd) (g64 : mg "MOST_SIGNS" = some (.int 64 t)) : FnOk P w K mg base CX0 (k + 1) f fd ["size"] (spV K RSize) := by
  refine F.ok scCheckSize (fun vs H Q E h => ?_) (fun cdv A outer s H vs Q E hr h => ?_)
  · obtain ⟨ds, out, ha, ⟨n, rfl, _⟩, _⟩ := h
    exact allLen ha
  · obtain ⟨ds, out, ha, ⟨n, rfl, h1, h2, rfl⟩, q⟩ := h
    obtain ⟨x, rfl, hx⟩ := all1 ha
    cases dpInt hx
    refine ⟨_, pss_one (ps_if (pt_not (pt_chain op_le op_le pe_int (pv 0) (pe_glob (v := .int 64) rfl g64 ⟨_, rfl⟩))) (pss_one ps_never) pss_nil), ?_⟩
    refine s_if (b := false) (et_is (et_not (et_test (ev_chain2 (f := fun a b => decide (a ≤ b)) (f' := fun a b => decide (a ≤ b)) ev_c (ev_var rfl) ev_c))) ?_) (fun z => nomatch z) (fun _ H1 e => q _ H1 e .non)
    rw [decide_eq_true (show (1 : Int) ≤ (n : Int) by omega), decide_eq_true (show (n : Int) ≤ 64 by omega)]; rfl
/-! ### check_set -/
def RSet : List PyData → PyData → Prop := fun ds out => ∃ (n : Nat) (rs : List (Nat × Nat)) (k : Int), ds = [.int (n : Int), sD rs, .int k] ∧ Good n rs ∧ out = .none
theorem ok_set {f : Addr} {fd : FuncData} {k : Nat} {t : Tok} (F : Fun K "check_set" "check_set" sCheckSet f fd) (g40 : mg "MOST_RANGES" = some (.int 40 t)) (me : mg "enumerate" = none) : FnOk P w K mg base CX0 (k + 1) f fd ["size", "ranges", "number"] (spV K RSet) := by
  refine F.ok scCheckSet (fun vs H Q E h => ?_) (fun cdv A outer s H vs Q E hr h => ?_)
  · obtain ⟨ds, out, ha, ⟨n, rs, k, rfl, _⟩, _⟩ := h
    exact allLen ha
  · obtain ⟨ds, out, ha, ⟨n, rs, kk, rfl, hg, rfl⟩, q⟩ := h
    obtain ⟨x, y, z, rfl, hx, hy, hz⟩ := all3 ha
    cases dpInt hx
    cases dpInt hz
    have nd := scCheckSet.nd
    refine ⟨_, pss_one (ps_for PassesOwn.never rfl (pi_enum (by rfl) me (pa_cons (pv 1) pa_nil))
      (pg_tup rfl (pgs_cons (pg_name (i := 3) nd rfl (.inl rfl)) (pgs_cons (pg_tup rfl (pgs_cons (pg_name (i := 4) nd rfl (.inl rfl)) (pgs_cons (pg_name (i := 5) nd rfl (.inl rfl)) pgs_nil))) pgs_nil)))
      (pss_one (ps_if (PW.pt (pw_or (pt_cmpR op_eq (pv 3) (pe_glob (v := .int 40) rfl g40 ⟨_, rfl⟩) (nomark _)) (pw_or1 (pt_not (pt_chain3 op_le op_le op_lt pe_int (pv 4) (pv 5) (pv 0))))))
        (pss_one ps_never) pss_nil))), ?_⟩
    refine sFor (B := H) (Ex.refl H) (wkEnum (ev_var (v := y) rfl) hy) (fun i σ' H' => Ex H H' ∧ ∃ a b c, σ' = [some (.int (n : Int)), some y, some (.int kk), a, b, c]) (fun H2 e => ⟨e, none, none, none, rfl⟩) (fun i σ' H' _ p => p.1) (fun i x σ' H' H'' hi p e hd => ?_) (fun σ' H' p => q _ H' p.1 .non)
    obtain ⟨e0, a, b, c, rfl⟩ := p
    rw [List.length_map] at hi
    rw [getD_map rD (List.getElem?_eq_getElem hi)] at hd
    obtain ⟨T, xs, rfl, hs, hA⟩ := dpTuple hd
    obtain ⟨u1, u2, rfl, hu1, hu2⟩ := all2 hA
    cases dpInt hu1
    obtain ⟨T2, xs2, rfl, hs2, hA2⟩ := dpTuple hu2
    obtain ⟨v1, v2, rfl, hv1, hv2⟩ := all2 hA2
    cases dpInt hv1
    cases dpInt hv2
    refine ⟨T, _, rfl, hs, rfl, _, _, rfl, _, _, rfl, ⟨T2, _, rfl, hs2, rfl, _, _, rfl, _, _, rfl, rfl, ?_⟩⟩
    refine ⟨rfl, ?_⟩
    have g := hg.ok rs[i] (List.getElem_mem hi)
    have g2 := hg.len
    refine s_if (b := false) (et_is (et_or (et_test (ev_op (ev_var rfl) ev_c (rv_eq rfl))) (fun _ => et_not (et_test (ev_chain3 (f := fun a b => decide (a ≤ b)) (f' := fun a b => decide (a ≤ b)) (f'' := fun a b => decide (a < b)) ev_c (ev_var rfl) (ev_var rfl) (ev_var rfl))))) ?_) (fun z => nomatch z) (fun _ H1 e1 => ⟨(e0.trans e).trans e1, _, _, _, rfl⟩)
    rw [decide_eq_false (show ¬ (V.int (i : Nat) = V.int 40) from fun z => by have := V.int.inj z; omega), decide_eq_true (show (0 : Int) ≤ ((rs[i]).1 : Int) by omega), decide_eq_true (show ((rs[i]).1 : Int) ≤ ((rs[i]).2 : Int) by omega), decide_eq_true (show ((rs[i]).2 : Int) < (n : Int) by omega)]; rfl
end

/-! ### marks_of -/
def mb (n : Nat) (m : Nat → Bool) : List V := (List.range n).map fun i => V.bl (m i)
theorem mb_len (n : Nat) (m : Nat → Bool) : (mb n m).length = n := by unfold mb; rw [List.length_map, List.length_range]
theorem mb_set {n : Nat} {m m' : Nat → Bool} {k : Nat} (h : ∀ i, i < n → m' i = (m i || decide (i = k))) : (mb n m).set k (.bl true) = mb n m' := by
  refine List.ext_getElem? fun i => ?_
  unfold mb
  by_cases hi : i < n
  · rw [List.getElem?_set, List.getElem?_map, List.getElem?_map, List.getElem?_range hi, List.length_map, List.length_range]
    by_cases c : k = i
    · subst c
      rw [if_pos rfl, if_pos hi]
      show _ = some (V.bl (m' k))
      rw [h k hi, decide_eq_true rfl, Bool.or_true]
    · rw [if_neg c]
      show some (V.bl (m i)) = some (V.bl (m' i))
      rw [h i hi, decide_eq_false (Ne.symm c), Bool.or_false]
  · rw [List.getElem?_eq_none (by rw [List.length_set, List.length_map, List.length_range]; omega), List.getElem?_eq_none (by rw [List.length_map, List.length_range]; omega)]
theorem mb_congr {n : Nat} {m m' : Nat → Bool} (h : ∀ i, i < n → m i = m' i) : mb n m = mb n m' := by
  unfold mb
  refine List.map_congr_left fun i hi => ?_
  rw [h i (List.mem_range.mp hi)]
theorem bls_congr {n : Nat} {m m' : Nat → Bool} (h : ∀ i, i < n → m i = m' i) : bls n m = bls n m' := by
  unfold bls
  refine List.map_congr_left fun i hi => ?_
  rw [h i (List.mem_range.mp hi)]
theorem mb_all {K : PySem.W.Frag} {H : Hp} (n : Nat) (m : Nat → Bool) : DpAll K H (mb n m) (bls n m) := by
  have h := allOfBls (K := K) (H := H) ((List.range n).map m)
  rw [List.map_map, List.map_map] at h
  exact h
theorem all_mb {K : PySem.W.Frag} {H : Hp} {n : Nat} {m : Nat → Bool} {vs : List V} (h : DpAll K H vs (bls n m)) : vs = mb n m := by
  have e : bls n m = ((List.range n).map m).map PyData.bool := by rw [List.map_map]; rfl
  rw [e] at h
  rw [blsOfAll h, List.map_map]; rfl
theorem rep_mb : ∀ n : Nat, (List.replicate n [V.bl false]).flatten = mb n fun _ => false
  | 0 => rfl
  | n + 1 => by
    have e : mb (n + 1) (fun _ => false) = [V.bl false] ++ mb n fun _ => false := by
      unfold mb
      rw [List.range_succ_eq_map, List.map_cons, List.map_map]; rfl
    rw [List.replicate_succ, List.flatten_cons, rep_mb n, e]
section
variable {P : Program} {w : World} {K : PySem.W.Frag} {mg : Str → Option Value} {base : Heap}
def RMarks : List PyData → List PyData → Prop := fun ds out => ∃ (n : Nat) (rs : List (Nat × Nat)), ds = [.int (n : Int), sD rs] ∧ n ≤ 64 ∧ Good n rs ∧ out = bls n (memB rs)
theorem ok_marks {f : Addr} {fd : FuncData} {k : Nat} (F : Fun K "marks_of" "marks_of" sMarksOf f fd) (mr : mg "range" = none) : FnOk P w K mg base CX0 (k + 1) f fd ["size", "ranges"] (spN K RMarks) := by
  refine F.ok scMarksOf (fun vs H Q E h => ?_) (fun cdv A outer s H vs Q E hr h => ?_)
  · obtain ⟨ds, out, ha, ⟨n, rs, rfl, _⟩, _⟩ := h
    exact allLen ha
  · obtain ⟨ds, out, ha, ⟨n, rs, rfl, h64, hg, rfl⟩, q⟩ := h
    obtain ⟨x, y, rfl, hx, hy⟩ := all2 ha
    cases dpInt hx
    have nd := scMarksOf.nd
    refine ⟨_, pss_cons (ps_set (i := 2) nd rfl (.inl rfl) (pe_op op_rep (pe_lst (pa_cons pe_bl pa_nil)) (pv 0)))
      (pss_cons (ps_for PassesOwn.never rfl (pi_list (pv 1)) (pg_tup rfl (pgs_cons (pg_name (i := 3) nd rfl (.inl rfl)) (pgs_cons (pg_name (i := 4) nd rfl (.inl rfl)) pgs_nil)))
        (pss_one (ps_for PassesOwn.never rfl (pi_range2 (by rfl) mr (pa_cons (pv 3) (pa_cons (pe_op op_add (pv 4) pe_int) pa_nil))) (pg_name (i := 5) nd rfl (.inl rfl))
          (pss_one (ps_asg pe_bl (pg_sub (pv 2) (pv 5) set_list))))))
      (pss_one (ps_ret (pv 2)))), ?_⟩
    refine ⟨by show 1 ≤ sizeLine; decide, fun l hl => ⟨.int (n : Int), rfl, l, (n : Int), [.bl false], rfl, rfl, upd_same, by omega, by omega, ?_, fun p hp => ?_⟩⟩
    · show 1 * (n : Int).toNat ≤ sizeLine
      exact sz_of (by omega)
    have e1 : Ex H (upd (upd H l (.lst [.bl false])) p (.lst (List.replicate (n : Int).toNat [V.bl false]).flatten)) := (Ex.new hl).trans (Ex.new hp)
    have hp0 : H p = none := fresh_back (Ex.new hl) hp
    have h1 : (upd (upd H l (.lst [.bl false])) p (.lst (List.replicate (n : Int).toNat [V.bl false]).flatten)) p = some (.lst (mb n fun _ => false)) := by
      rw [upd_same, Int.toNat_natCast, rep_mb]
    generalize upd (upd H l (.lst [.bl false])) p (.lst (List.replicate (n : Int).toNat [V.bl false]).flatten) = H1 at e1 h1 ⊢
    refine sFor (B := H) e1 (wkList (ev_var (v := y) rfl) hy) (fun i σ' H' => Ex H H' ∧ H' p = some (.lst (mb n (memB (rs.take i)))) ∧ ∃ a b c, σ' = [some (.int (n : Int)), some y, some (.ref p), a, b, c]) (fun H2 e => ⟨e1.trans e, e p _ h1, none, none, none, rfl⟩) (fun i σ' H' _ p => p.1) (fun i x σ' H' H'' hi pv' e hd => ?_) (fun σ' H' pv' => ?_)
    · obtain ⟨e0, h0, a, b, c, rfl⟩ := pv'
      rw [List.length_map] at hi
      rw [getD_map rD (List.getElem?_eq_getElem hi)] at hd
      have g := hg.ok rs[i] (List.getElem_mem hi)
      generalize hr' : rs[i] = r at hd g
      refine gPair hd fun y1 z1 hy1 hz1 => ?_
      cases dpInt hy1
      cases dpInt hz1
      refine s_forR2 (lo := (r.1 : Int)) (n := (r.2 : Int) + 1) (ea_cons (ev_var rfl) (ea_cons (ev_op (ev_var rfl) ev_c rv_I0) ea_nil)) ⟨by omega, by omega, by omega, by omega⟩
        (fun j σ' H' => Ex H H' ∧ H' p = some (.lst (mb n fun k => memB (rs.take i) k || (decide (r.1 ≤ k) && decide (k < r.1 + j)))) ∧ ∃ c, σ' = [some (.int (n : Int)), some y, some (.ref p), some (.int (r.1 : Int)), some (.int (r.2 : Int)), c]) (fun H2 e2 => ⟨(e0.trans e).trans e2, ?_, c, rfl⟩) (fun j σ' H2 hj p2 => ?_) (fun σ' H2 p2 => ?_)
      · rw [e2 p _ (e p _ h0)]
        refine congrArg (fun z => some (HO.lst z)) (mb_congr fun k _ => ?_)
        rw [show (decide (r.1 ≤ k) && decide (k < r.1 + 0)) = false by
          rw [Bool.and_eq_false_iff]
          by_cases c : r.1 ≤ k
          · right; rw [decide_eq_false]; omega
          · left; rw [decide_eq_false c], Bool.or_false]
      · obtain ⟨e3, h3, c, rfl⟩ := p2
        refine s_setL (j := r.1 + j) h3 ev_c (ev_var rfl) (ev_is (ev_var rfl) (congrArg V.int (by omega))) (by rw [mb_len]; omega) fun H4 e4 => ⟨Ex.mut (e3.trans e4) hp0, ?_, _, rfl⟩
        rw [upd_same, mb_set (m' := fun k => memB (rs.take i) k || (decide (r.1 ≤ k) && decide (k < r.1 + (j + 1))))]
        intro k _
        rw [Bool.or_assoc]
        refine congrArg _ ?_
        rw [Bool.eq_iff_iff]
        simp only [Bool.and_eq_true, Bool.or_eq_true, decide_eq_true_eq]
        omega
      · obtain ⟨e3, h3, c, rfl⟩ := p2
        refine ⟨e3, ?_, _, _, _, rfl⟩
        rw [h3]
        refine congrArg (fun z => some (HO.lst z)) (mb_congr fun k _ => ?_)
        rw [List.take_add_one, List.getElem?_eq_getElem hi, hr']
        show _ = memB (rs.take i ++ [r]) k
        rw [memB_append, memB_one]
        refine congrArg _ ?_
        rw [Bool.eq_iff_iff]
        simp only [Bool.and_eq_true, decide_eq_true_eq]
        omega
    · obtain ⟨e0, h0, a, b, c, rfl⟩ := pv'
      rw [List.length_map, List.take_length] at h0
      exact ⟨.ref p, rfl, q p _ H' hp0 e0 h0 (mb_all n _)⟩
end

/-! ### checked_marks -/
theorem range_getD {α β : Type} (g : α → β) (d : α) : ∀ xs : List α, (List.range xs.length).map (fun i => g (xs.getD i d)) = xs.map g
  | [] => rfl
  | x :: xs => by
    rw [List.length_cons, List.range_succ_eq_map, List.map_cons, List.map_map, List.map_cons, ← range_getD g d xs]
    rfl
theorem outs_all (n : Nat) (out : Nat → PyData) : outs n (fun _ => true) out = (List.range n).map out := by
  unfold outs
  rw [List.filter_eq_self.mpr (fun _ _ => rfl)]
theorem et_yes {σ : L2.St} {H : Hp} : EvT tYes σ H true := fun H1 _ Q q => q H1 (Ex.refl H1)
theorem sDropD {K : PySem.W.Frag} {σ : L2.St} {H : Hp} {te : TE} {D : Ends} {d : PyData} (h : EvD K te σ H d) (k : ∀ H1, Ex H H1 → D.nx σ H1) : tDrop te D σ H := h H (Ex.refl H) _ fun _ H1 e _ => k H1 e
theorem getD_at {α : Type} {xs : List α} {i : Nat} (d : α) (h : i < xs.length) : xs.getD i d = xs[i] := by
  rw [List.getD_eq_getElem?_getD, List.getElem?_eq_getElem h]; rfl
section
variable {P : Program} {w : World} {K : PySem.W.Frag} {mg : Str → Option Value} {base : Heap}
def mD (n : Nat) (rs : List (Nat × Nat)) : PyData := .list (bls n (memB rs))
def RChecked : List PyData → List PyData → Prop := fun ds out => ∃ (n : Nat) (rss : List (List (Nat × Nat))), ds = [.int (n : Int), .list (rss.map sD)] ∧ 1 ≤ n ∧ n ≤ 64 ∧ rss.length ≤ 100 ∧ (∀ rs ∈ rss, Good n rs) ∧ out = rss.map (mD n)
theorem ok_checked {f f1 f2 f3 : Addr} {fd fd1 fd2 fd3 : FuncData} {k : Nat} (F : Fun K "checked_marks" "checked_marks" sCheckedMarks f fd)
    (F1 : FnOk P w K mg base CX0 (k + 1) f1 fd1 ["size"] (spV K RSize)) (g1 : mg "check_size" = some (.ref f1)) (k1 : PySem.W.keepIn K (.ref f1) = true) (b1 : Binds K fd1 ["size"] [])
    (F2 : FnOk P w K mg base CX0 (k + 1) f2 fd2 ["size", "ranges", "number"] (spV K RSet)) (g2 : mg "check_set" = some (.ref f2)) (k2 : PySem.W.keepIn K (.ref f2) = true) (b2 : Binds K fd2 ["size", "ranges", "number"] [])
    (F3 : FnOk P w K mg base CX0 (k + 1) f3 fd3 ["size", "ranges"] (spN K RMarks)) (g3 : mg "marks_of" = some (.ref f3)) (k3 : PySem.W.keepIn K (.ref f3) = true) (b3 : Binds K fd3 ["size", "ranges"] [])
    (me : mg "enumerate" = none) : FnOk P w K mg base CX0 (k + 2) f fd ["size", "sets"] (spN K RChecked) := by
  refine F.ok scCheckedMarks (fun vs H Q E h => ?_) (fun cdv A outer s H vs Q E hr h => ?_)
  · obtain ⟨ds, out, ha, ⟨n, rss, rfl, _⟩, _⟩ := h
    exact allLen ha
  · obtain ⟨ds, out, ha, ⟨n, rss, rfl, hn1, hn64, hl, hg, rfl⟩, q⟩ := h
    obtain ⟨x, y, rfl, hx, hy⟩ := all2 ha
    cases dpInt hx
    have nd := scCheckedMarks.nd
    refine ⟨_, pss_cons (ps_expr (pe_call F1 hr (by rfl) g1 k1 b1 .nil pass0 (pa_cons (pv 0) pa_nil)))
      (pss_cons (ps_for PassesOwn.never rfl (pi_enum (by rfl) me (pa_cons (pv 1) pa_nil)) (pg_tup rfl (pgs_cons (pg_name (i := 2) nd rfl (.inl rfl)) (pgs_cons (pg_name (i := 3) nd rfl (.inl rfl)) pgs_nil)))
        (pss_one (ps_expr (pe_call F2 hr (by rfl) g2 k2 b2 .nil pass0 (pa_cons (pv 0) (pa_cons (pv 3) (pa_cons (pv 2) pa_nil)))))))
      (pss_one (ps_ret (pe_lc (own := [("ranges", 3)]) (g := gName 3) (tt := tYes) rfl nd (pi_list (pv 1)) (blkOk_by (own := [("ranges", 3)]) (N := nCheckedMarks) (sc := defScope sCheckedMarks) (by decide +kernel))
        (fun _ _ _ _ _ => pg_name (i := 3) nd rfl (Or.inl rfl)) (fun _ _ _ _ _ => pts_nil) (fun _ _ _ _ _ => pe_call F3 hr (by rfl) g3 k3 b3 .nil pass0 (pa_cons (pv 0) (pa_cons (pv 3) pa_nil))))))), ?_⟩
    refine sDropD (vCall (K := K) (da1 (dVar rfl (.int (n : Int)))) ⟨n, rfl, hn1, hn64, rfl⟩) fun H1 e1 => ?_
    refine sFor (B := H) e1 (wkEnum (ev_var (v := y) rfl) hy) (fun i σ' H' => Ex H H' ∧ ∃ a b, σ' = [some (.int (n : Int)), some y, a, b]) (fun H2 e => ⟨e1.trans e, none, none, rfl⟩) (fun i σ' H' _ p => p.1) (fun i x σ' H' H'' hi p e hd => ?_) (fun σ' H' p => ?_)
    · obtain ⟨e0, a, b, rfl⟩ := p
      rw [List.length_map] at hi
      rw [getD_map sD (List.getElem?_eq_getElem hi)] at hd
      refine gPair hd fun y1 z1 hy1 hz1 => ?_
      cases dpInt hy1
      exact sDropD (vCall (K := K) (daCons (dVar rfl (.int (n : Int))) (da2 (dVar (v := z1) rfl hz1) (dVar (v := .int (i : Nat)) rfl (.int _)))) ⟨n, rss[i], (i : Nat), rfl, hg _ (List.getElem_mem hi), rfl⟩) fun H2 e2 => ⟨(e0.trans e).trans e2, _, _, rfl⟩
    · obtain ⟨e0, a, b, rfl⟩ := p
      have N := nLc (K := K) (σ := [some (.int (n : Int)), some y, a, b]) (H := H') (wi := iList K (tVar 1)) (g := gName 3) (tt := tYes) (te := tCall (spN K RMarks) [] E0 (tCons (tVar 0) (tCons (tVar 3) tNil))) (vs := [3]) (fun _ => true) (fun i => mD n (rss.getD i [])) (by rw [List.length_map]; omega) (wkList (ev_var (v := y) rfl) (SB.mono e0 hy)).asN (fun Dl i x H3 hi e3 hd => by
        rw [List.length_map] at hi
        rw [getD_map sD (List.getElem?_eq_getElem hi)] at hd
        refine ⟨_, fun Q q => q, rfl, et_yes, fun _ => ?_⟩
        have c := nCall (K := K) (E := E0) (R := RMarks) (σ := [some (.int (n : Int)), some y, a, some x]) (H := H3) (da2 (ta := tVar 0) (tb := tVar 3) (dVar (v := .int (n : Int)) rfl (.int (n : Int))) (dVar (v := x) rfl hd)) ⟨n, rss[i], rfl, hn64, hg _ (List.getElem_mem hi), rfl⟩
        have c2 := c.x (D := Dl) (noL_bls n (memB rss[i]))
        rw [getD_at [] hi]
        exact c2)
      rw [outs_all, List.length_map, range_getD (mD n)] at N
      exact sRetN N (q.ex e0)
end

/-! ### ranges_of -/
theorem told_ne {m : Nat → Bool} {i : Nat} (h : st m i < i) : told m i ≠ [] := by
  obtain ⟨pre, e, _⟩ := (kept m i).shape
  rw [e, if_pos h]
  simp
theorem set_last {α : Type} (x : α) : ∀ xs : List α, xs ≠ [] → xs.set (xs.length - 1) x = xs.dropLast ++ [x]
  | [], h => absurd rfl h
  | [a], _ => rfl
  | a :: b :: r, _ => by
    have ih := set_last x (b :: r) (by simp)
    show a :: ((b :: r).set ((b :: r).length - 1) x) = a :: ((b :: r).dropLast ++ [x])
    rw [ih]
theorem ixN_last {n : Nat} (h : 0 < n) : ixN n (-1) = some (n - 1) := by
  unfold ixN
  rw [if_neg (by decide), if_pos (by omega)]
  exact congrArg some (by omega)
theorem sSetLast {σ : L2.St} {H : Hp} {te ta tb : TE} {D : Ends} {l : Addr} {xs ys : List V} (hl : H l = some (.lst xs)) (h : EvU te σ H ys) (ho : Ev ta σ H (.ref l)) (hi : Ev tb σ H (.int (-1))) (hx : 0 < xs.length)
    (k : ∀ p H1, Ex H H1 → H1 p = some (.tup ys) → D.nx σ (upd H1 l (.lst (xs.set (xs.length - 1) (.ref p))))) : tAsg te (gSub ta tb rSetL) D σ H := h H (Ex.refl H) _ fun p H1 _ e1 hp => ho H1 e1 _ fun H2 e2 => hi H2 (e1.trans e2) _ fun H3 e3 =>
  ⟨l, xs, -1, xs.length - 1, rfl, rfl, ((e1.trans e2).trans e3) l _ hl, ixN_last hx, k p H3 ((e1.trans e2).trans e3) ((e2.trans e3) p _ hp)⟩
section
variable {P : Program} {w : World} {K : PySem.W.Frag} {mg : Str → Option Value} {base : Heap}
def RRanges : List PyData → List PyData → Prop := fun ds out => ∃ (n : Nat) (m : Nat → Bool), ds = [.list (bls n m)] ∧ n ≤ 64 ∧ out = (told m n).map rD
theorem ok_ranges {f : Addr} {fd : FuncData} {k : Nat} (F : Fun K "ranges_of" "ranges_of" sRangesOf f fd) (me : mg "enumerate" = none) : FnOk P w K mg base CX0 (k + 1) f fd ["marks"] (spN K RRanges) := by
  refine F.ok scRangesOf (fun vs H Q E h => ?_) (fun cdv A outer s H vs Q E hr h => ?_)
  · obtain ⟨ds, out, ha, ⟨n, m, rfl, _⟩, _⟩ := h
    exact allLen ha
  · obtain ⟨ds, out, ha, ⟨n, m, rfl, h64, rfl⟩, q⟩ := h
    obtain ⟨y, rfl, hy⟩ := all1 ha
    have nd := scRangesOf.nd
    refine ⟨_, pss_cons (ps_set (i := 1) nd rfl (.inl rfl) (pe_lst pa_nil)) (pss_cons (ps_set (i := 2) nd rfl (.inl rfl) pe_int)
      (pss_cons (ps_for PassesOwn.never rfl (pi_enum (by rfl) me (pa_cons (pv 0) pa_nil)) (pg_tup rfl (pgs_cons (pg_name (i := 3) nd rfl (.inl rfl)) (pgs_cons (pg_name (i := 4) nd rfl (.inl rfl)) pgs_nil)))
        (pss_one (ps_if (pt_not (pt_val (pv 4))) (pss_one (ps_set (i := 2) nd rfl (.inl rfl) (pe_op op_add (pv 3) pe_int)))
          (pss_one (ps_if (pt_cmpR op_eq (pv 2) (pv 3) (nomark _))
            (pss_one (ps_expr (pe_bm PySem.F.plainAttrs_list PySem.F.slot_list_append PySem.F.type_list_append mt_append (pv 1) (pa_cons (pe_tup (pa_cons (pv 2) (pa_cons (pv 3) pa_nil))) pa_nil))))
            (pss_one (ps_asg (pe_tup (pa_cons (pv 2) (pa_cons (pv 3) pa_nil))) (pg_sub (pv 1) (pe_un un_neg pe_int) set_list))))))))
      (pss_one (ps_ret (pv 1))))), ?_⟩
    refine ⟨Nat.zero_le _, fun l hl => ?_⟩
    have e1 : Ex H (upd H l (.lst [])) := Ex.new hl
    have h1 : (upd H l (.lst [])) l = some (.lst []) := upd_same
    generalize upd H l (.lst []) = H1 at e1 h1 ⊢
    refine sFor (B := H) e1 (wkEnum (ev_var (v := y) rfl) hy) (fun i σ' H' => Ex H H' ∧ (∃ acc, H' l = some (.lst acc) ∧ DpAll K (rm H' l) acc ((told m i).map rD)) ∧ ∃ a b, σ' = [some y, some (.ref l), some (.int (st m i : Nat)), a, b]) (fun H2 e => ⟨e1.trans e, ⟨[], e l _ h1, .nil⟩, none, none, rfl⟩) (fun i σ' H' _ p => p.1) (fun i x σ' H' H'' hi p e hd => ?_) (fun σ' H' p => ?_)
    · obtain ⟨e0, ⟨acc, h0, hA⟩, a, b, rfl⟩ := p
      rw [bls_len] at hi
      rw [getD_bls m hi] at hd
      have e0'' := e0.trans e
      have h0'' := e l _ h0
      have hA'' := monoA (rmMono (D := l) e) hA
      have hlen : acc.length = (told m i).length := by rw [allLen hA, List.length_map]
      have hshort : acc.length < 100000 := by have := told_len m i; omega
      have hle := st_le m i
      refine gPair hd fun y1 z1 hy1 hz1 => ?_
      cases dpInt hy1
      cases dpBool hz1
      refine s_if (b := !m i) (et_not (et_B (ev_var rfl))) (fun hb H2 e2 => ?_) (fun hb H2 e2 => ?_)
      · have hm : m i = false := by simpa using hb
        refine s_asg (ev_op (z := .int ((i + 1 : Nat) : Int)) (ev_var rfl) ev_c (fun H3 _ _ q => ⟨_, _, rfl, rfl, q H3 (Ex.refl H3)⟩)) fun H3 e3 => ⟨(e0''.trans e2).trans e3, ⟨acc, (e2.trans e3) l _ h0'', ?_⟩, some (.int (i : Nat)), some (.bl (m i)), ?_⟩
        · rw [told, if_neg (by rw [hm]; decide)]
          exact monoA (rmMono (e2.trans e3)) hA''
        · rw [st_no hm]; rfl
      · have hm : m i = true := by simpa using hb
        have es : st m (i + 1) = st m i := st_yes hm
        have tup : ∀ {H3 H4 : Hp} {p : Addr} {xs : List V}, H3 l = some (.lst xs) → H3 p = some (.tup [.int (st m i : Nat), .int (i : Nat)]) → H4 = H3 → Dp K (rm H4 l) (.ref p) (rD (st m i, i)) := fun {H3 H4 p xs} a b c => by
          subst c
          refine .tup (st_of ?_) (.cons (.int _) (.cons (.int _) .nil))
          rw [rmNe (ne_of b a (by intro z; cases z))]
          exact b
        refine s_if (b := decide (V.int (st m i : Nat) = V.int (i : Nat))) (et_test (ev_op (ev_var rfl) (ev_var rfl) (rv_eq rfl))) (fun hb2 H3 e3 => ?_) (fun hb2 H3 e3 => ?_)
        · have hst : st m i = i := by
            have z := V.int.inj (of_decide_eq_true hb2)
            omega
          have e23 := e2.trans e3
          refine s_appU (e23 l _ h0'') (ev_var rfl) (eu_tup (ea_cons (ev_var rfl) (ea_cons (ev_var rfl) ea_nil)) (by show 2 ≤ 100000; decide)) hshort fun p H4 hp e4 h4 => ⟨Ex.mut ((e0''.trans e23).trans e4) hl, ⟨_, upd_same, ?_⟩, some (.int (i : Nat)), some (.bl (m i)), ?_⟩
          · rw [rmUpd, told, if_pos hm, if_pos hst, List.map_append]
            refine allApp (monoA (rmMono (e23.trans e4)) hA'') (.cons ?_ .nil)
            have t := tup (e4 l _ (e23 l _ h0'')) h4 rfl
            rw [hst] at t
            exact t
          · rw [es]; rfl
        · have hst : st m i ≠ i := fun z => by
            rw [z, decide_eq_true rfl] at hb2; cases hb2
          have e23 := e2.trans e3
          have hne := told_ne (m := m) (i := i) (by omega)
          have hpos : 0 < acc.length := by
            rw [hlen]
            exact List.length_pos_iff.mpr hne
          refine sSetLast (e23 l _ h0'') (eu_tup (ea_cons (ev_var rfl) (ea_cons (ev_var rfl) ea_nil)) (by show 2 ≤ 100000; decide)) (ev_var rfl) (ev_un ev_c ru_neg) hpos fun p H4 e4 h4 => ⟨Ex.mut ((e0''.trans e23).trans e4) hl, ⟨_, upd_same, ?_⟩, some (.int (i : Nat)), some (.bl (m i)), ?_⟩
          · have t := allSet (tup (e4 l _ (e23 l _ h0'')) h4 rfl) (acc.length - 1) (monoA (rmMono (e23.trans e4)) hA'')
            rw [rmUpd, told, if_pos hm, if_neg hst]
            rw [hlen] at t ⊢
            rw [← List.map_set, set_last _ _ hne] at t
            exact t
          · rw [es]; rfl
    · obtain ⟨e0, ⟨acc, h0, hA⟩, a, b, rfl⟩ := p
      rw [bls_len] at hA
      exact ⟨.ref l, rfl, q l acc H' hl e0 h0 (monoA rmEx hA)⟩
end
/-! ### lists of tuples stay when a list is changed -/
theorem keepT {K : PySem.W.Frag} {H : Hp} {D : Addr} {ys zs xs : List V} {ds : List PyData} (hD : H D = some (.lst ys)) (hn : noLs ds = true) (h : DpAll K H xs ds) : DpAll K (upd H D (.lst zs)) xs ds := by
  have a := dpAllRm hD ds xs hn h
  rw [← rmUpd (o := .lst zs)] at a
  exact monoA rmEx a
theorem noRs (rs : List (Nat × Nat)) : noLs (rs.map rD) = true := noLs_map noL_rD rs

/-! ### the six functions -/
def iD' (i : Nat) : PyData := .int (i : Int)
theorem sAsgUn2 {K : PySem.W.Frag} {σ : L2.St} {H : Hp} {te : TE} {D : Ends} {i j : Nat} {d e : PyData} (h : EvD K te σ H (.list [d, e])) (k : ∀ x y H1, Ex H H1 → Dp K H1 x d → Dp K H1 y e → D.nx ((σ.set i (some x)).set j (some y)) H1) :
    tAsg te (gUnl K 2 (gCons (gName i) (gCons (gName j) gNil))) D σ H := h H (Ex.refl H) _ fun v H1 e1 hd => by
  obtain ⟨a, xs, rfl, hs, ha⟩ := dpList hd
  obtain ⟨x, y, rfl, h1, h2⟩ := all2 ha
  exact ⟨a, _, rfl, hs, rfl, x, [y], rfl, y, [], rfl, rfl, k x y H1 e1 h1 h2⟩
section
variable {P : Program} {w : World} {K : PySem.W.Frag} {mg : Str → Option Value} {base : Heap}
/-- what plain and the like tell: of a size and a set | two sets -/
def R1 (out : Nat → List (Nat × Nat) → List PyData) : List PyData → List PyData → Prop := fun ds o => ∃ (n : Nat) (rs : List (Nat × Nat)), ds = [.int (n : Int), sD rs] ∧ 1 ≤ n ∧ n ≤ 64 ∧ Good n rs ∧ o = out n rs
def R2' (op : Bool → Bool → Bool) : List PyData → List PyData → Prop := fun ds o => ∃ (n : Nat) (rs ss : List (Nat × Nat)), ds = [.int (n : Int), sD rs, sD ss] ∧ 1 ≤ n ∧ n ≤ 64 ∧ Good n rs ∧ Good n ss ∧ o = (told (fun k => op (memB rs k) (memB ss k)) n).map rD
abbrev RMembers := R1 fun n rs => ((List.range n).filter (memB rs)).map iD'
abbrev RPlain := R1 fun n rs => (told (memB rs) n).map rD
abbrev ROthers := R1 fun n rs => (told (fun k => !memB rs k) n).map rD
theorem marks0 {σ : L2.St} {H : Hp} {n : Nat} {rs : List (Nat × Nat)} {y : V} (h0 : σ[0]? = some (some (.int (n : Int)))) (h1 : σ[1]? = some (some y)) (hy : Dp K H y (sD rs)) (hn : 1 ≤ n ∧ n ≤ 64) (hg : Good n rs) :
    EvD K (tOp (rIxL K) (tCall (spN K RChecked) [] E0 (tCons (tVar 0) (tCons (tLst (tCons (tVar 1) tNil)) tNil))) (tC (.int 0))) σ H (mD n rs) :=
  dIxL (nCall (da2 (dVar h0 (.int (n : Int))) (nLst (da1 (dVar h1 hy)) (by show 1 ≤ 100000; decide)).asD) ⟨n, [rs], rfl, hn.1, hn.2, by show 1 ≤ 100; decide, fun r hr => by rw [List.mem_singleton.mp hr]; exact hg, rfl⟩).asD ev_c rfl
/-- two sets, taken together by op: the comprehension's element -/
theorem two_sets {op : Bool → Bool → Bool} {te : TE} {D : Ends} {Q : VK} {n : Nat} {rs ss : List (Nat × Nat)} {H : Hp} {y z : V} (hrt : D.rt = Q) (hn1 : 1 ≤ n) (hn64 : n ≤ 64) (hg : Good n rs) (hg' : Good n ss) (hy : Dp K H y (sD rs)) (hz : Dp K H z (sD ss))
    (q : NewL K H Q ((told (fun k => op (memB rs k) (memB ss k)) n).map rD)) (he : ∀ (σ : L2.St) (H : Hp) (a b : Bool), σ[5]? = some (some (.bl a)) → σ[6]? = some (some (.bl b)) → Ev te σ H (.bl (op a b))) :
    tSeq (tAsg (tCall (spN K RChecked) [] E0 (tCons (tVar 0) (tCons (tLst (tCons (tVar 1) (tCons (tVar 2) tNil))) tNil))) (gUnl K 2 (gCons (gName 3) (gCons (gName 4) gNil))))
      (tRet (tCall (spN K RRanges) [] E0 (tCons (tLc (iZip K (tCons (tVar 3) (tCons (tVar 4) tNil))) (gTup K 2 (gCons (gName 5) (gCons (gName 6) gNil))) tYes te [5, 6]) tNil))) D [some (.int (n : Int)), some y, some z, none, none, none, none] H := by
  have gg : ∀ r ∈ [rs, ss], Good n r := fun r hr => by
    rcases List.mem_cons.mp hr with rfl | hr
    · exact hg
    · rw [List.mem_singleton.mp hr]; exact hg'
  refine sAsgUn2 (K := K) (nCall (da2 (dVar rfl (.int (n : Int))) (nLst (da2 (dVar (v := y) rfl hy) (dVar (v := z) rfl hz)) (by show 2 ≤ 100000; decide)).asD) ⟨n, [rs, ss], rfl, hn1, hn64, by show 2 ≤ 100; decide, gg, rfl⟩).asD fun u v H1 e1 hu hv => ?_
  have N := nLc (K := K) (σ := [some (.int (n : Int)), some y, some z, some u, some v, none, none]) (H := H1) (wi := iZip K (tCons (tVar 3) (tCons (tVar 4) tNil))) (g := gTup K 2 (gCons (gName 5) (gCons (gName 6) gNil))) (tt := tYes) (te := te) (vs := [5, 6]) (fun _ => true) (fun i => .bool (op (memB rs i) (memB ss i))) (by rw [bls_len]; omega) (wkZip (ev_var (v := u) rfl) hu (ev_var (v := v) rfl) hv (by rw [bls_len, bls_len])).asN (fun Dl i x H3 hi e3 hd => by
    rw [bls_len] at hi
    rw [getD_bls _ hi, getD_bls _ hi] at hd
    refine ⟨[some (.int (n : Int)), some y, some z, some u, some v, some (.bl (memB rs i)), some (.bl (memB ss i))], fun Q q => gPair hd fun y1 z1 hy1 hz1 => ?_, rfl, et_yes, fun _ => (bD (he _ _ _ _ rfl rfl)).x rfl⟩
    cases dpBool hy1
    cases dpBool hz1
    exact q)
  rw [bls_len, outs_all] at N
  refine sRetN (nCall (da1 N.asD) ⟨n, fun k => op (memB rs k) (memB ss k), rfl, hn64, rfl⟩) ?_
  rw [hrt]
  exact q.ex e1
end

/-! ### check_number, inside -/
theorem sAsgPair {K : PySem.W.Frag} {σ : L2.St} {H : Hp} {te : TE} {D : Ends} {i j : Nat} {d e : PyData} (h : EvD K te σ H (.tuple [d, e])) (k : ∀ x y H1, Ex H H1 → Dp K H1 x d → Dp K H1 y e → D.nx ((σ.set i (some x)).set j (some y)) H1) : tAsg te (gTup K 2 (gCons (gName i) (gCons (gName j) gNil))) D σ H := h H (Ex.refl H) _ fun v H1 e1 hd => gPair hd fun x y hx hy => k x y H1 e1 hx hy
theorem lenL {K : PySem.W.Frag} {σ : L2.St} {H : Hp} {j : Nat} {v : V} {ds : List PyData} {r : List V → Hp → VK → Prop} (h : σ[j]? = some (some v)) (hd : Dp K H v (.list ds)) (hr : r = fun xs H Q => ∃ p ys, xs = [.ref p] ∧ (SqL K H p ys ∨ SqT K H p ys) ∧ Q (.int ys.length) H) : Ev (tCB r (tCons (tVar j) tNil)) σ H (.int (ds.length : Int)) := fun H1 e Q q => by
  subst hr
  obtain ⟨a, xs, rfl, hs, ha⟩ := dpList (SB.mono e hd)
  exact ⟨.ref a, h, a, xs, rfl, .inl hs, by rw [allLen ha]; exact q H1 (Ex.refl H1)⟩
section
variable {P : Program} {w : World} {K : PySem.W.Frag} {mg : Str → Option Value} {base : Heap}
def RNum : List PyData → PyData → Prop := fun ds out => ∃ n x : Nat, ds = [.int (n : Int), .int (x : Int)] ∧ x < n ∧ out = .none
def looks (n : Nat) (rs : List (Nat × Nat)) (x : Nat) : Bool × List (Nat × Nat) := look (told (memB rs) n) x (told (memB rs) n).length 0 (told (memB rs) n).length
def spInside (K : PySem.W.Frag) : Sp := fun vs H Q _ => ∃ (n : Nat) (rs : List (Nat × Nat)) (x : Nat), DpAll K H vs [.int (n : Int), sD rs, .int (x : Int)] ∧ 1 ≤ n ∧ n ≤ 64 ∧ Good n rs ∧ x < n ∧
  ∀ T g xs H', H T = none → H g = none → Ex H H' → H' T = some (.tup [.bl (looks n rs x).1, .ref g]) → H' g = some (.lst xs) → DpAll K H' xs ((looks n rs x).2.map rD) → Q (.ref T) H'
end

/-! ### the law's own draws -/
structure DOk (s : List Int) : Prop where
  ex : ∃ a b r, s = a :: b :: r ∧ 0 ≤ a ∧ 0 ≤ b ∧ ∀ x ∈ r, 0 < x
/-- the draws stand at d -/
def DSt (H : Hp) (d : Addr) : Prop := ∃ s : List Int, H d = some (.lst (s.map V.int)) ∧ DOk s ∧ s.length ≤ 100
/-- what a call that draws may do -/
structure Dk (d : Addr) (H H' : Hp) : Prop where
  st : DSt H' d
  ex : Ex (rm H d) (rm H' d)
theorem Dk.refl {d : Addr} {H : Hp} (h : DSt H d) : Dk d H H := ⟨h, Ex.refl _⟩
theorem Dk.trans {d : Addr} {H H1 H2 : Hp} (a : Dk d H H1) (b : Dk d H1 H2) : Dk d H H2 := ⟨b.st, a.ex.trans b.ex⟩
theorem Dk.of {d : Addr} {H H1 : Hp} (h : DSt H d) (e : Ex H H1) : Dk d H H1 := by
  obtain ⟨s, h1, h2, h3⟩ := h
  exact ⟨⟨s, e d _ h1, h2, h3⟩, rmMono e⟩
theorem Dk.fresh {d : Addr} {H H1 : Hp} (a : Dk d H H1) {p : Addr} (h : H1 p = none) : H p = none := by
  obtain ⟨s, h1, _⟩ := a.st
  have hp : p ≠ d := fun z => by rw [z, h1] at h; cases h
  have q := fresh_back a.ex (p := p) (by rw [rmNe hp]; exact h)
  rw [rmNe hp] at q
  exact q
theorem Dk.keep {d : Addr} {H H1 : Hp} (a : Dk d H H1) {p : Addr} {o : HO} (hp : p ≠ d) (h : H p = some o) : H1 p = some o := by
  have q := a.ex p o (by rw [rmNe hp]; exact h)
  rw [rmNe hp] at q
  exact q
theorem DSt.ne {H : Hp} {d p : Addr} (h : DSt H d) (hp : H p = none) : p ≠ d := fun z => by
  obtain ⟨s, h1, _⟩ := h
  rw [z, h1] at hp; cases hp
theorem DSt.ne' {H : Hp} {d p : Addr} (h : DSt H d) (hp : H p = some (.lst [])) : p ≠ d := fun z => by
  obtain ⟨s, h1, ⟨a, b, r, e, _⟩, _⟩ := h
  rw [z, h1, e] at hp; cases hp
def diceF (k : Int) (ns : List Int) : Int := ns.foldl (fun a c => (a * 31 + (if c < 0 then -c else c)) % 2147483647) k
theorem diceF_nn {k : Int} (hk : 0 ≤ k ∧ k < 2147483647) : ∀ ns : List Int, 0 ≤ diceF k ns ∧ diceF k ns < 2147483647 := by
  intro ns
  induction ns generalizing k with
  | nil => exact hk
  | cons c r ih =>
    refine ih (k := (k * 31 + (if c < 0 then -c else c)) % 2147483647) ⟨?_, ?_⟩
    · exact Int.emod_nonneg _ (by decide)
    · exact Int.emod_lt_of_pos _ (by decide)
def big (ns : List Int) : List Int := ns.filter fun c => decide ((10 : Int) ^ 18 ≤ c)
theorem dice_ok {k : Int} (hk : 0 ≤ k ∧ k < 2147483647) (ns : List Int) : DOk (diceF k ns :: 0 :: big ns) :=
  ⟨_, _, _, rfl, (diceF_nn hk ns).1, Int.le_refl 0, fun x hx => by
    have h := of_decide_eq_true (List.mem_filter.mp hx).2
    have : (0 : Int) < 10 ^ 18 := by decide
    omega⟩
theorem nCat {K : PySem.W.Frag} {σ : L2.St} {H : Hp} {ta tb : TE} {ds es : List PyData} (ha : EvN K ta σ H ds) (hb : EvN K tb σ H es) (hl : ds.length + es.length ≤ 100000) : EvN K (tOp rCat ta tb) σ H (ds ++ es) := fun H1 e Q q =>
  ha H1 e _ fun l xs H2 hl' e2 h2 a2 => hb H2 (e.trans e2) _ fun b zs H3 hb' e3 h3 a3 => ⟨l, b, xs, zs, rfl, rfl, e3 l _ h2, h3, sz_of (by rw [allLen a2, allLen a3]; exact hl), fun p hp =>
    q p _ _ (fresh_back (e2.trans e3) hp) ((e2.trans e3).trans (Ex.new hp)) upd_same (monoA (Ex.new hp) (allApp (monoA e3 a2) a3))⟩
theorem outs_map (f : Int → Bool) : ∀ ns : List Int, outs ns.length (fun i => f (ns.getD i 0)) (fun i => .int (ns.getD i 0)) = (ns.filter f).map PyData.int := by
  intro ns
  have key : ∀ ns : List Int, ((List.range ns.length).filter (fun i => f (ns.getD i 0))).map (fun i => ns.getD i 0) = ns.filter f := by
    intro ns
    induction ns with
    | nil => rfl
    | cons x r ih =>
      rw [List.length_cons, List.range_succ_eq_map, List.filter_cons, List.filter_map]
      have e : (List.filter ((fun i => f ((x :: r).getD i 0)) ∘ Nat.succ) (List.range r.length)) = List.filter (fun i => f (r.getD i 0)) (List.range r.length) := rfl
      rw [e]
      have e2 : ((List.filter (fun i => f (r.getD i 0)) (List.range r.length)).map Nat.succ).map (fun i => (x :: r).getD i 0) = r.filter f := by
        rw [List.map_map, ← ih]; rfl
      by_cases c : f x = true
      · rw [if_pos (show f ((x :: r).getD 0 0) = true from c), List.map_cons, e2, List.filter_cons, if_pos c]; rfl
      · rw [if_neg (show ¬ f ((x :: r).getD 0 0) = true from c), e2, List.filter_cons, if_neg c]
  unfold outs
  rw [← key ns, List.map_map]; rfl
theorem getD_int {ns : List Int} {i : Nat} (h : i < ns.length) : (ns.map PyData.int).getD i .none = .int (ns.getD i 0) := by
  rw [getD_map PyData.int (List.getElem?_eq_getElem h), getD_at 0 h]
section
variable {P : Program} {w : World} {K : PySem.W.Frag} {mg : Str → Option Value} {base : Heap}
def RDice : List PyData → List PyData → Prop := fun ds out => ∃ (ns : List Int) (k : Int), ds = [.list (ns.map PyData.int), .int k] ∧ ns.length ≤ 63 ∧ 0 ≤ k ∧ k < 2147483647 ∧ out = (diceF k ns :: 0 :: big ns).map PyData.int
theorem ok_dice {f : Addr} {fd : FuncData} {k : Nat} (F : Fun K "_law_dice" "_law_dice" sLawDice f fd) (ma : mg "abs" = none) : FnOk P w K mg base CX0 (k + 1) f fd ["_law_script", "_law_k"] (spN K RDice) := by
  refine F.ok scLawDice (fun vs H Q E h => ?_) (fun cdv A outer s H vs Q E hr h => ?_)
  · obtain ⟨ds, out, ha, ⟨n, rs, rfl, _⟩, _⟩ := h
    exact allLen ha
  · obtain ⟨ds, out, ha, ⟨ns, kk, rfl, hl, hk0, hk1, rfl⟩, q⟩ := h
    obtain ⟨y, x, rfl, hy, hx⟩ := all2 ha
    cases dpInt hx
    have nd := scLawDice.nd
    refine ⟨_, pss_cons (ps_set (i := 2) nd rfl (.inl rfl) (pv 1))
      (pss_cons (ps_for PassesOwn.never rfl (pi_list (pv 0)) (pg_name (i := 3) nd rfl (.inl rfl))
        (pss_one (ps_set (i := 2) nd rfl (.inl rfl) (pe_op op_mod (pe_op op_add (pe_op op_mul (pv 2) pe_int) (pe_callB call_abs (by rfl) ma (by decide +kernel) (pa_cons (pv 3) pa_nil))) pe_int))))
      (pss_one (ps_ret (pe_op op_cat (pe_lst (pa_cons (pv 2) (pa_cons pe_int pa_nil))) (pe_lc (own := [("_law_cell", 3)]) (g := gName 3) (tt := tTest (tOp (rI0 fun i j => .bl (decide (j ≤ i))) (tVar 3) (tOp (rI CPow fun i j => .int (i ^ j.toNat)) (tC (.int 10)) (tC (.int 18))))) rfl nd (pi_list (pv 0)) (blkOk_by (own := [("_law_cell", 3)]) (N := nLawDice) (sc := defScope sLawDice) (by decide +kernel))
        (fun _ _ _ _ _ => pg_name (i := 3) nd rfl (Or.inl rfl)) (fun _ _ _ _ _ => pts_one (pt_cmpR op_ge (pv 3) (pe_op op_pow pe_int pe_int) (nomark _))) (fun _ _ _ _ _ => pv 3)))))), ?_⟩
    refine s_asg (ev_var (v := .int kk) rfl) fun H1 e1 => ?_
    refine sFor (B := H) e1 (wkList (ev_var (v := y) rfl) hy) (fun i σ' H' => Ex H H' ∧ ∃ a, σ' = [some y, some (.int kk), some (.int (diceF kk (ns.take i))), a]) (fun H2 e => ⟨e1.trans e, none, rfl⟩) (fun i σ' H' _ p => p.1) (fun i x σ' H' H'' hi p e hd => ?_) (fun σ' H' p => ?_)
    · obtain ⟨e0, a, rfl⟩ := p
      rw [List.length_map] at hi
      rw [getD_int hi] at hd
      cases dpInt hd
      refine s_asg (ev_op (ev_op (x := .int (diceF kk (ns.take i) * 31)) (y := .int (if ns.getD i 0 < 0 then -ns.getD i 0 else ns.getD i 0)) (ev_op (ev_var (v := .int (diceF kk (ns.take i))) rfl) ev_c (rv_I (.inr ⟨by decide, by decide⟩))) (fun H3 _ Q q => ⟨_, rfl, _, rfl, q H3 (Ex.refl H3)⟩) rv_I0) ev_c (rv_I (by decide))) fun H3 e3 => ⟨(e0.trans e).trans e3, some (.int (ns.getD i 0)), ?_⟩
      rw [List.take_add_one, List.getElem?_eq_getElem hi, getD_at 0 hi]
      unfold diceF
      rw [List.foldl_append]; rfl
    · obtain ⟨e0, a, rfl⟩ := p
      have N := nLc (K := K) (σ := [some y, some (.int kk), some (.int (diceF kk ns)), a]) (H := H') (wi := iList K (tVar 0)) (g := gName 3) (tt := tTest (tOp (rI0 fun i j => .bl (decide (j ≤ i))) (tVar 3) (tOp (rI CPow fun i j => .int (i ^ j.toNat)) (tC (.int 10)) (tC (.int 18))))) (te := tVar 3) (vs := [3]) (fun i => decide ((10 : Int) ^ 18 ≤ ns.getD i 0)) (fun i => .int (ns.getD i 0)) (by rw [List.length_map]; omega) (wkList (ev_var (v := y) rfl) (SB.mono e0 hy)).asN (fun Dl i x H3 hi e3 hd => by
        rw [List.length_map] at hi
        rw [getD_int hi] at hd
        cases dpInt hd
        exact ⟨_, fun Q q => q, rfl, et_test (ev_op (ev_var (v := .int (ns.getD i 0)) rfl) (ev_op (z := .int ((10 : Int) ^ 18)) ev_c ev_c (rv_I ⟨by decide, by decide, by decide⟩)) rv_I0), fun _ => (dVar (d := .int (ns.getD i 0)) rfl (.int _)).x rfl⟩)
      rw [List.length_map, outs_map (fun c => decide ((10 : Int) ^ 18 ≤ c))] at N
      rw [List.length_map, List.take_length]
      refine sRetN (nCat (nLst (da2 (dVar (v := .int (diceF kk ns)) rfl (.int _)) dInt) (by show 2 ≤ 100000; decide)) N ?_) (q.ex e0)
      have : (ns.filter (fun c => decide ((10 : Int) ^ 18 ≤ c))).length ≤ ns.length := List.length_filter_le _ _
      rw [List.length_map]
      show 2 + _ ≤ 100000
      omega
end

section
variable {P : Program} {w : World} {K : PySem.W.Frag} {mg : Str → Option Value} {base : Heap}
/-! ### _law_off -/
def spOff : Sp := fun vs H Q _ => ∃ (d : Addr) (m : Int), vs = [.ref d, .int m] ∧ DSt H d ∧ 0 < m ∧ m < 1000000 ∧ ∀ r H', 0 ≤ r → r < m → Dk d H H' → Q (.int r) H'
theorem dk_upd {d : Addr} {H H1 : Hp} {s : List Int} (e : Ex (rm H d) (rm H1 d)) (ok : DOk s) (hl : s.length ≤ 100) : Dk d H (upd H1 d (.lst (s.map V.int))) :=
  ⟨⟨s, upd_same, ok, hl⟩, by rw [rmUpd]; exact e⟩
theorem at0 {a b : Int} {r : List Int} : atI ((a :: b :: r).map V.int) 0 = some (.int a) := atI_nat (j := 0) rfl
theorem at1 {a b : Int} {r : List Int} : atI ((a :: b :: r).map V.int) 1 = some (.int b) := atI_nat (j := 1) rfl
theorem ok_off {f : Addr} {fd : FuncData} {k : Nat} (F : Fun K "_law_off" "_law_off" sLawOff f fd) (ml : mg "len" = none) : FnOk P w K mg base CX0 (k + 1) f fd ["_law_d", "_law_most"] spOff := by
  refine F.ok scLawOff (fun vs H Q E h => ?_) (fun cdv A outer s H vs Q E hr h => ?_)
  · obtain ⟨d, m, rfl, _⟩ := h
    rfl
  · obtain ⟨d, m, rfl, ⟨s0, hd, ok, hl⟩, hm0, hm1, q⟩ := h
    obtain ⟨a, b, r, rfl, ha, hb, hr'⟩ := ok.ex
    have nd := scLawOff.nd
    refine ⟨_, pss_cut (ps_if (PW.pt (pw_and (pt_cmpR op_eq (pe_ix ix_list (pv 0) pe_int (fun _ _ => rfl)) pe_int (nomark _)) (pw_and1 (pt_cmpR op_gt (pe_callB call_len_seq (by rfl) ml PySem.boot_len (pa_cons (pv 0) pa_nil)) pe_int (nomark _)))))
        (pss_one (ps_asg (pe_bm PySem.F.plainAttrs_list PySem.F.slot_list_pop PySem.F.type_list_pop mt_popAt (pv 0) (pa_cons pe_int pa_nil)) (pg_sub (pv 0) pe_int set_list))) pss_nil)
      (pss_cons (ps_if (pt_cmpR op_gt (pe_ix ix_list (pv 0) pe_int (fun _ _ => rfl)) pe_int (nomark _))
        (pss_cons (ps_set (i := 2) nd rfl (.inl rfl) (pe_op op_mod (pe_ix ix_list (pv 0) pe_int (fun _ _ => rfl)) (pv 1)))
        (pss_cons (ps_asg (pe_op op_fdiv (pe_ix ix_list (pv 0) pe_int (fun _ _ => rfl)) (pv 1)) (pg_sub (pv 0) pe_int set_list)) (pss_one (ps_ret (pv 2))))) pss_nil)
      (pss_cons (ps_asg (pe_op op_mod (pe_op op_add (pe_op op_mul (pe_ix ix_list (pv 0) pe_int (fun _ _ => rfl)) pe_int) pe_int) pe_int) (pg_sub (pv 0) pe_int set_list))
      (pss_one (ps_ret (pe_op op_mod (pe_op op_fdiv (pe_ix ix_list (pv 0) pe_int (fun _ _ => rfl)) pe_int) (pv 1)))))), ?_⟩
    refine ⟨fun σ' H' => σ' = [some (.ref d), some (.int m), none] ∧ Dk d H H', ?_, fun σ' H1 hM => ?_⟩
    · -- if d[1] == 0 and len(d) > 2
      have dk0 : Dk d H H := Dk.refl ⟨_, hd, ok, hl⟩
      refine ⟨.ref d, rfl, d, _, 1, .int b, rfl, rfl, SqL.of hd, at1, rfl, _, rfl, ite2 (fun c => ?_) (fun c => ?_)⟩
      · refine ⟨.ref d, rfl, d, _, rfl, .inl (SqL.of hd), _, _, rfl, rfl, _, rfl, ite2 (fun c2 => ?_) (fun c2 => ?_)⟩
        · have hlen : 2 < (a :: b :: r).length := by
            have := of_decide_eq_true c2
            rw [List.length_map] at this
            omega
          obtain ⟨x, r', rfl⟩ : ∃ x r', r = x :: r' := by
            cases r with
            | nil => simp at hlen
            | cons x r' => exact ⟨x, r', rfl⟩
          refine ⟨.ref d, rfl, .inl ⟨rfl, _, SqL.of hd⟩, d, _, 2, 2, .int x, rfl, rfl, hd, by decide, by decide, (ixN_seq (ixN_nat (j := 2) (by rw [List.length_map]; exact hlen))).1, rfl, ?_⟩
          refine ⟨.ref d, rfl, d, _, 1, 1, rfl, rfl, upd_same, ixN_nat (j := 1) (by show 1 < (r'.map V.int).length + 1 + 1; omega), ?_⟩
          refine ⟨rfl, ?_⟩
          rw [upd_upd]
          refine dk_upd (s := a :: x :: r') (Ex.refl _) ⟨a, x, r', rfl, ha, Int.le_of_lt (hr' x List.mem_cons_self), fun z hz => hr' z (List.mem_cons_of_mem _ hz)⟩ (by simp only [List.length_cons] at hl ⊢; omega)
        · exact ⟨rfl, dk0⟩
      · exact iteF ⟨rfl, dk0⟩
    · obtain ⟨rfl, D1⟩ := hM
      obtain ⟨⟨s1, hd1, ok1, hl1⟩, ex1⟩ := D1
      obtain ⟨a, b, r, rfl, ha, hb, hr'⟩ := ok1.ex
      refine ⟨.ref d, rfl, d, _, 1, .int b, rfl, rfl, SqL.of hd1, at1, _, _, rfl, rfl, _, rfl, ite2 (fun c => ?_) (fun c => ?_)⟩
      · have hb0 : 0 < b := of_decide_eq_true c
        refine ⟨.ref d, rfl, d, _, 1, .int b, rfl, rfl, SqL.of hd1, at1, .int m, rfl, b, m, rfl, rfl, hm0, ?_⟩
        refine ⟨.ref d, rfl, d, _, 1, .int b, rfl, rfl, SqL.of hd1, at1, .int m, rfl, b, m, rfl, rfl, ⟨hm0, by omega⟩, ?_⟩
        refine ⟨.ref d, rfl, d, _, 1, 1, rfl, rfl, hd1, ixN_nat (j := 1) (by show 1 < (r.map V.int).length + 1 + 1; omega), ?_⟩
        refine ⟨.int (b % m), rfl, q _ _ (Int.emod_nonneg _ (by omega)) (Int.emod_lt_of_pos _ hm0) ?_⟩
        exact dk_upd (s := a :: (b / m) :: r) ex1 ⟨a, b / m, r, rfl, ha, Int.ediv_nonneg hb (by omega), hr'⟩ hl1
      · refine ⟨.ref d, rfl, d, _, 0, .int a, rfl, rfl, SqL.of hd1, at0, a, 48271, rfl, rfl, .inr ⟨by decide, by decide⟩, a * 48271, 11, rfl, rfl, a * 48271 + 11, 2147483647, rfl, rfl, (show (0 : Int) < 2147483647 by decide), ?_⟩
        refine ⟨.ref d, rfl, d, _, 0, 0, rfl, rfl, hd1, ixN_nat (j := 0) (by show 0 < (r.map V.int).length + 1 + 1; omega), ?_⟩
        refine ⟨.ref d, rfl, d, ((a * 48271 + 11) % 2147483647 :: b :: r).map V.int, 0, .int ((a * 48271 + 11) % 2147483647), rfl, rfl, SqL.of upd_same, at0, (a * 48271 + 11) % 2147483647, 64, rfl, rfl, ⟨by decide, by decide⟩, .int m, rfl, (a * 48271 + 11) % 2147483647 / 64, m, rfl, rfl, hm0, ?_⟩
        refine q _ _ (Int.emod_nonneg _ (by omega)) (Int.emod_lt_of_pos _ hm0) ?_
        exact dk_upd (s := (a * 48271 + 11) % 2147483647 :: b :: r) ex1 ⟨_, b, r, rfl, Int.emod_nonneg _ (by decide), hb, hr'⟩ hl1
end

/-! ### _law_size, _law_set -/
theorem offCall {d : Addr} {m : Int} {j : Nat} {te : TE} {σ : L2.St} {H : Hp} {Q : VK} (h0 : σ[j]? = some (some (.ref d))) (ht : ∀ Q : VK, Q (.int m) H → te σ H Q) (hd : DSt H d) (hm : 0 < m ∧ m < 1000000)
    (k : ∀ r H', 0 ≤ r → r < m → Dk d H H' → Q (.int r) H') : tCall spOff [] E0 (tCons (tVar j) (tCons te tNil)) σ H Q :=
  ⟨.ref d, h0, ht _ ⟨d, m, rfl, hd, hm.1, hm.2, k⟩⟩
theorem small_at {xs : List Int} {r : Int} (h0 : 0 ≤ r) (h1 : r < xs.length) : atI (xs.map V.int) r = some (.int (xs.getD r.toNat 0)) := by
  obtain ⟨j, rfl⟩ : ∃ j : Nat, r = (j : Int) := ⟨r.toNat, by omega⟩
  have hj : j < xs.length := by omega
  rw [Int.toNat_natCast]
  refine atI_nat ?_
  rw [List.getElem?_map, List.getElem?_eq_getElem hj, getD_at 0 hj]; rfl
section
variable {P : Program} {w : World} {K : PySem.W.Frag} {mg : Str → Option Value} {base : Heap}
def spSize : Sp := fun vs H Q _ => ∃ d : Addr, vs = [.ref d] ∧ DSt H d ∧ ∀ (n : Nat) H', 1 ≤ n → n ≤ 64 → Dk d H H' → Q (.int (n : Int)) H'
theorem ok_lsize {f f1 : Addr} {fd fd1 : FuncData} {k : Nat} (F : Fun K "_law_size" "_law_size" sLawSize f fd)
    (F1 : FnOk P w K mg base CX0 (k + 1) f1 fd1 ["_law_d", "_law_most"] spOff) (g1 : mg "_law_off" = some (.ref f1)) (k1 : PySem.W.keepIn K (.ref f1) = true) (b1 : Binds K fd1 ["_law_d", "_law_most"] []) : FnOk P w K mg base CX0 (k + 2) f fd ["_law_d"] spSize := by
  refine F.ok scLawSize (fun vs H Q E h => ?_) (fun cdv A outer s H vs Q E hr h => ?_)
  · obtain ⟨d, rfl, _⟩ := h
    rfl
  · obtain ⟨d, rfl, hd, q⟩ := h
    refine ⟨_, pss_one (ps_ret (pe_ix ix_list (pe_lst (pa_cons pe_int (pa_cons pe_int (pa_cons pe_int (pa_cons (pe_op op_add pe_int (pe_call F1 hr (by rfl) g1 k1 b1 .nil pass0 (pa_cons (pv 0) (pa_cons pe_int pa_nil)))) pa_nil)))))
      (pe_call F1 hr (by rfl) g1 k1 b1 .nil pass0 (pa_cons (pv 0) (pa_cons pe_int pa_nil))) (fun _ _ => rfl))), ?_⟩
    refine offCall (d := d) (m := 64) rfl (fun Q q => q) hd (by decide) fun r H1 hr0 hr1 D1 => ⟨1, r, rfl, rfl, by show 4 ≤ sizeLine; decide, fun p hp => ?_⟩
    have D2 := D1.trans (Dk.of D1.st (Ex.new (o := .lst [.int 8, .int 20, .int 64, .int (1 + r)]) hp))
    refine offCall (d := d) (m := 4) rfl (fun Q q => q) D2.st (by decide) fun r2 H3 hs0 hs1 D3 => ?_
    have hpd : p ≠ d := D1.st.ne hp
    refine ⟨p, ([8, 20, 64, 1 + r] : List Int).map V.int, r2, _, rfl, rfl, SqL.of (D3.keep hpd upd_same), small_at hs0 hs1, ?_⟩
    have D := D2.trans D3
    obtain ⟨j, rfl⟩ : ∃ j : Nat, r2 = (j : Int) := ⟨r2.toNat, by omega⟩
    obtain ⟨i, rfl⟩ : ∃ i : Nat, r = (i : Int) := ⟨r.toNat, by omega⟩
    rw [Int.toNat_natCast]
    have hj : j < 4 := by omega
    match j, hj with
    | 0, _ => exact q 8 H3 (by decide) (by decide) D
    | 1, _ => exact q 20 H3 (by decide) (by decide) D
    | 2, _ => exact q 64 H3 (by decide) (by decide) D
    | 3, _ =>
      have z := q (1 + i) H3 (by omega) (by omega) D
      rw [Int.natCast_add] at z
      exact z
def spLSet (K : PySem.W.Frag) : Sp := fun vs H Q _ => ∃ (d : Addr) (n m : Nat), vs = [.ref d, .int (n : Int), .int (m : Int)] ∧ DSt H d ∧ 1 ≤ n ∧ n ≤ 64 ∧ m ≤ 40 ∧
  ∀ (rs : List (Nat × Nat)) p xs H', rs.length ≤ m → (∀ r ∈ rs, r.1 ≤ r.2 ∧ r.2 < n) → H p = none → Dk d H H' → H' p = some (.lst xs) → DpAll K (rm H' d) xs (rs.map rD) → Q (.ref p) H'
theorem ok_lset {f f1 : Addr} {fd fd1 : FuncData} {k : Nat} (F : Fun K "_law_set" "_law_set" sLawSet f fd)
    (F1 : FnOk P w K mg base CX0 (k + 1) f1 fd1 ["_law_d", "_law_most"] spOff) (g1 : mg "_law_off" = some (.ref f1)) (k1 : PySem.W.keepIn K (.ref f1) = true) (b1 : Binds K fd1 ["_law_d", "_law_most"] [])
    (mr : mg "range" = none) (mm : mg "min" = none) : FnOk P w K mg base CX0 (k + 2) f fd ["_law_d", "_law_size_here", "_law_most"] (spLSet K) := by
  refine F.ok scLawSet (fun vs H Q E h => ?_) (fun cdv A outer s H vs Q E hr h => ?_)
  · obtain ⟨d, n, m, rfl, _⟩ := h
    rfl
  · obtain ⟨d, n, m, rfl, hd, hn1, hn64, hm, q⟩ := h
    have nd := scLawSet.nd
    refine ⟨_, pss_cons (ps_set (i := 3) nd rfl (.inl rfl) (pe_ix ix_list (pe_lst (pa_cons pe_int (pa_cons pe_int (pa_cons (pv 1) pa_nil)))) (pe_call F1 hr (by rfl) g1 k1 b1 .nil pass0 (pa_cons (pv 0) (pa_cons pe_int pa_nil))) (fun _ _ => rfl)))
      (pss_cons (ps_set (i := 4) nd rfl (.inl rfl) (pe_lst pa_nil))
      (pss_cons (ps_for PassesOwn.never rfl (pi_range1 (by rfl) mr (pa_cons (pe_call F1 hr (by rfl) g1 k1 b1 .nil pass0 (pa_cons (pv 0) (pa_cons (pe_op op_add (pv 2) pe_int) pa_nil))) pa_nil)) (pg_name (i := 5) nd rfl (.inl rfl))
        (pss_cons (ps_set (i := 6) nd rfl (.inl rfl) (pe_call F1 hr (by rfl) g1 k1 b1 .nil pass0 (pa_cons (pv 0) (pa_cons (pv 1) pa_nil))))
        (pss_one (ps_expr (pe_bm PySem.F.plainAttrs_list PySem.F.slot_list_append PySem.F.type_list_append mt_append (pv 4) (pa_cons (pe_tup (pa_cons (pv 6) (pa_cons
          (pe_callB (call_min2 rfl) (by rfl) mm (by decide +kernel) (pa_cons (pe_op op_sub (pv 1) pe_int) (pa_cons (pe_op op_add (pv 6) (pe_call F1 hr (by rfl) g1 k1 b1 .nil pass0 (pa_cons (pv 0) (pa_cons (pv 3) pa_nil)))) pa_nil))) pa_nil))) pa_nil))))))
      (pss_one (ps_ret (pv 4))))), ?_⟩
    refine ⟨.int (n : Int), rfl, by show 3 ≤ sizeLine; decide, fun p hp => ?_⟩
    have D1 := Dk.of hd (Ex.new (o := .lst [.int 1, .int 3, .int (n : Int)]) hp)
    refine offCall (d := d) (m := 3) rfl (fun Q q => q) D1.st (by decide) fun r H2 hr0 hr1 D2 => ?_
    refine ⟨p, ([1, 3, (n : Int)] : List Int).map V.int, r, _, rfl, rfl, SqL.of (D2.keep (hd.ne hp) upd_same), small_at hr0 hr1, ?_⟩
    have D := D1.trans D2
    obtain ⟨v, hv, hv1, hv2⟩ : ∃ v : Int, ([1, 3, (n : Int)] : List Int).getD r.toNat 0 = v ∧ 0 < v ∧ v < 1000000 := by
      obtain ⟨j, rfl⟩ : ∃ j : Nat, r = (j : Int) := ⟨r.toNat, by omega⟩
      rw [Int.toNat_natCast]
      have hj : j < 3 := by omega
      match j, hj with
      | 0, _ => exact ⟨1, rfl, by decide, by decide⟩
      | 1, _ => exact ⟨3, rfl, by decide, by decide⟩
      | 2, _ => exact ⟨(n : Int), rfl, by omega, by omega⟩
    rw [hv]
    refine ⟨Nat.zero_le _, fun l hl => ?_⟩
    have hl0 : H l = none := D.fresh hl
    have hld : l ≠ d := hd.ne hl0
    have D3 := D.trans (Dk.of D.st (Ex.new (o := .lst []) hl))
    have h3 : (upd H2 l (.lst [])) l = some (.lst []) := upd_same
    generalize upd H2 l (.lst []) = H3 at D3 h3 ⊢
    refine offCall (d := d) (m := (m : Int) + 1) rfl (fun Q q => ⟨.int (m : Int), rfl, (m : Int), 1, rfl, rfl, q⟩) D3.st ⟨by omega, by omega⟩ fun t H4 ht0 ht1 D4 => ⟨t, rfl, by omega, by omega, ?_⟩
    refine for_range (lo := 0) (n := t.toNat) (fun i σ' H' => Dk d H H' ∧ (∃ (acc : List V) (rs : List (Nat × Nat)), rs.length = i ∧ (∀ r ∈ rs, r.1 ≤ r.2 ∧ r.2 < n) ∧ H' l = some (.lst acc) ∧ DpAll K (rm (rm H' d) l) acc (rs.map rD)) ∧ ∃ a b, σ' = [some (.ref d), some (.int (n : Int)), some (.int (m : Int)), some (.int v), some (.ref l), a, b]) ⟨D3.trans D4, ⟨[], [], rfl, fun _ h => by simp at h, D4.keep hld h3, .nil⟩, none, none, rfl⟩ (fun i σ' H5 hi p => ?_) (fun σ' H5 p => ?_)
    · obtain ⟨D5, ⟨acc, rs, hrl, hrs, h5, hA⟩, a, b, rfl⟩ := p
      refine offCall (d := d) (m := (n : Int)) rfl (fun Q q => ⟨.int (n : Int), rfl, q⟩) D5.st ⟨by omega, by omega⟩ fun x H6 hx0 hx1 D6 => ?_
      refine ⟨.ref l, rfl, .inl ⟨rfl, _, SqL.of (D6.keep hld h5)⟩, .int x, rfl, .int (n : Int), rfl, (n : Int), 1, rfl, rfl, .int x, rfl, ?_⟩
      refine offCall (d := d) (m := v) rfl (fun Q q => ⟨.int v, rfl, q⟩) D6.st ⟨hv1, hv2⟩ fun y H7 hy0 hy1 D7 => ⟨x, y, rfl, rfl, (n : Int) - 1, x + y, rfl, by show 2 ≤ sizeLine; decide, fun T hT => ?_⟩
      have D56 := D6.trans D7
      have h7 : H7 l = some (.lst acc) := D56.keep hld h5
      have hTl : T ≠ l := Ne.symm (ne_of_none h7 hT)
      have hTd : T ≠ d := D7.st.ne hT
      obtain ⟨z, hz, hz1, hz2⟩ : ∃ z : Nat, (if x + y < (n : Int) - 1 then x + y else (n : Int) - 1) = (z : Int) ∧ x ≤ (z : Int) ∧ z < n := by
        by_cases c : x + y < (n : Int) - 1
        · exact ⟨(x + y).toNat, by rw [if_pos c]; omega, by omega, by omega⟩
        · exact ⟨n - 1, by rw [if_neg c]; omega, by omega, by omega⟩
      rw [hz]
      refine ⟨l, acc, _, rfl, rfl, ?_, sz_lt ?_, ?_⟩
      · rw [upd_ne (Ne.symm hTl)]; exact h7
      · rw [allLen hA, List.length_map]; omega
      · have D8 := (D5.trans D56).trans (Dk.of D7.st (Ex.new (o := .tup [.int x, .int (z : Int)]) hT))
        refine ⟨⟨?_, ?_⟩, ⟨acc ++ [.ref T], rs ++ [(x.toNat, z)], ?_, ?_, upd_same, ?_⟩, some (.int (0 + (i : Int))), some (.int x), rfl⟩
        · obtain ⟨s', e1, e2, e3⟩ := D8.st
          exact ⟨s', by rw [upd_ne (Ne.symm hld)]; exact e1, e2, e3⟩
        · rw [rmNew hld]
          exact Ex.mut D8.ex (by rw [rmNe hld]; exact hl0)
        · rw [List.length_append, hrl]; rfl
        · intro r hr2
          rcases List.mem_append.mp hr2 with h | h
          · exact hrs r h
          · rw [List.mem_singleton.mp h]
            exact ⟨by show x.toNat ≤ z; omega, hz2⟩
        · rw [rmNew hld, rmUpd, List.map_append]
          have eN : Ex (rm (rm H5 d) l) (rm (rm (upd H7 T (.tup [.int x, .int (z : Int)])) d) l) := rmMono (D56.ex.trans (rmMono (Ex.new hT)))
          refine allApp (monoA eN hA) (.cons (.tup (st_of (xs := [.int x, .int (z : Int)]) ?_) (.cons ?_ (.cons (.int _) .nil))) .nil)
          · rw [rmNe hTl, rmNe hTd, upd_same]
          · show Dp K _ (.int x) (.int ((x.toNat : Nat) : Int))
            rw [Int.toNat_of_nonneg hx0]
            exact .int x
    · obtain ⟨D5, ⟨acc, rs, hrl, hrs, h5, hA⟩, a, b, rfl⟩ := p
      exact ⟨.ref l, rfl, q rs l acc H5 (by omega) hrs hl0 D5 h5 (monoA rmEx hA)⟩
end

/-! ### sets by what is in them -/
theorem canMap {α : Type} {f : α → PyData} (h : ∀ x, (f x).canLay0 = true) : ∀ xs : List α, PyData.canLayAll0 (xs.map f) = true
  | [] => rfl
  | x :: xs => by
    show ((f x).canLay0 && PyData.canLayAll0 (xs.map f)) = true
    rw [h x, canMap h xs]; rfl
theorem depMap {α : Type} {f : α → PyData} {k : Nat} (h : ∀ x, (f x).depth ≤ k) : ∀ xs : List α, PyData.depthAll (xs.map f) ≤ k
  | [] => Nat.zero_le k
  | x :: xs => by
    show max (f x).depth (PyData.depthAll (xs.map f)) ≤ k
    have a := h x
    have b := depMap h xs
    omega
theorem shList {α : Type} {f : α → PyData} (h1 : ∀ x, (f x).canLay0 = true) (h2 : ∀ x, (f x).depth ≤ 10) (xs : List α) : SeqAt.shaped (.list (xs.map f)) = true := by
  have a : (PyData.list (xs.map f)).canLay0 = true := by
    show PyData.canLayAll0 (xs.map f) = true
    exact canMap h1 xs
  have b : (PyData.list (xs.map f)).depth ≤ 64 := by
    show PyData.depthAll (xs.map f) + 1 ≤ 64
    have := depMap h2 xs
    omega
  show ((PyData.list (xs.map f)).canLay0 && decide ((PyData.list (xs.map f)).depth ≤ 64)) = true
  rw [a, decide_eq_true b]; rfl
theorem sh_sD (rs : List (Nat × Nat)) : SeqAt.shaped (sD rs) = true := shList (fun _ => rfl) (fun _ => (by show (1 : Nat) ≤ 10; decide)) rs
theorem eqvSame {d : PyData} (h : SeqAt.shaped d = true) : PyData.eqv d d = true := SeqAt.eqv_refl d (SeqAt.canLay_of_shaped h)
section
variable {K : PySem.W.Frag} {σ : L2.St} {H : Hp} {ta tb ts : TE} {n : Nat} {f g : Nat → Bool}
/-- a set that can be, told by its signs -/
def SetV (K : PySem.W.Frag) (te : TE) (σ : L2.St) (H : Hp) (n : Nat) (f : Nat → Bool) : Prop := ∃ rs, EvD K te σ H (sD rs) ∧ Good n rs ∧ ∀ k, k < n → memB rs k = f k
/-- the fewest ranges of these signs -/
def TellV (K : PySem.W.Frag) (te : TE) (σ : L2.St) (H : Hp) (n : Nat) (f : Nat → Bool) : Prop := EvD K te σ H (sD (told f n))
theorem TellV.s (h : TellV K ta σ H n f) (hn : n ≤ 64) : SetV K ta σ H n f := ⟨_, h, told_good f hn, fun k hk => told_mem f n k hk⟩
theorem TellV.mono {H' : Hp} (e : Ex H H') (h : TellV K ta σ H n f) : TellV K ta σ H' n f := EvD.mono e h
theorem t2 {op : Bool → Bool → Bool} (hs : Ev ts σ H (.int (n : Int))) (ha : SetV K ta σ H n f) (hb : SetV K tb σ H n g) (hn : 1 ≤ n ∧ n ≤ 64) : TellV K (tCall (spN K (R2' op)) [] E0 (tCons ts (tCons ta (tCons tb tNil)))) σ H n (fun k => op (f k) (g k)) := by
  obtain ⟨rs, h1, g1, m1⟩ := ha
  obtain ⟨ss, h2, g2, m2⟩ := hb
  have e : told (fun k => op (f k) (g k)) n = told (fun k => op (memB rs k) (memB ss k)) n := told_congr n fun k hk => by rw [m1 k hk, m2 k hk]
  unfold TellV
  rw [e]
  exact (nCall (daCons (iD hs) (da2 h1 h2)) ⟨n, rs, ss, rfl, hn.1, hn.2, g1, g2, rfl⟩).asD
theorem tPlain (hs : Ev ts σ H (.int (n : Int))) (ha : SetV K ta σ H n f) (hn : 1 ≤ n ∧ n ≤ 64) : TellV K (tCall (spN K RPlain) [] E0 (tCons ts (tCons ta tNil))) σ H n f := by
  obtain ⟨rs, h1, g1, m1⟩ := ha
  have e : told f n = told (memB rs) n := told_congr n fun k hk => (m1 k hk).symm
  unfold TellV
  rw [e]
  exact (nCall (da2 (iD hs) h1) ⟨n, rs, rfl, hn.1, hn.2, g1, rfl⟩).asD
theorem tOthers (hs : Ev ts σ H (.int (n : Int))) (ha : SetV K ta σ H n f) (hn : 1 ≤ n ∧ n ≤ 64) : TellV K (tCall (spN K ROthers) [] E0 (tCons ts (tCons ta tNil))) σ H n (fun k => !f k) := by
  obtain ⟨rs, h1, g1, m1⟩ := ha
  have e : told (fun k => !f k) n = told (fun k => !memB rs k) n := told_congr n fun k hk => by rw [m1 k hk]
  unfold TellV
  rw [e]
  exact (nCall (da2 (iD hs) h1) ⟨n, rs, rfl, hn.1, hn.2, g1, rfl⟩).asD
theorem neT (ha : TellV K ta σ H n f) (hb : TellV K tb σ H n g) (h : ∀ k, k < n → f k = g k) : EvT (tTest (tOp (rNeD K) ta tb)) σ H false := by
  refine et_is (et_test (neD ha hb (sh_sD _) (sh_sD _))) ?_
  rw [told_congr n h, eqvSame (sh_sD _)]; rfl
theorem eqT (ha : TellV K ta σ H n f) (hb : TellV K tb σ H n g) (h : ∀ k, k < n → f k = g k) : Ev (tOp (rEqD K) ta tb) σ H (.bl true) := by
  refine ev_is (eqD ha hb (sh_sD _) (sh_sD _)) ?_
  rw [told_congr n h, eqvSame (sh_sD _)]
/-- xs[:k], xs[::-1] -/
theorem nCut {ds : List PyData} {k : Nat} (ha : EvD K ta σ H (.list ds)) : EvN K (tSl (rSlL K) ta tNoPart (tPart (tC (.int (k : Int))))) σ H (ds.take k) := fun H1 e Q q => ha H1 e _ fun v H2 e2 hd => by
  obtain ⟨a, xs, rfl, hs, hA⟩ := dpList hd
  refine ⟨(k : Int), rfl, a, xs, rfl, hs, fun p hp => ?_⟩
  have ec : cutV xs none (some (k : Int)) = xs.take k := by
    unfold cutV
    rw [HT.sIx_none, HT.sIx_nat, List.drop_zero, Nat.sub_zero]
    by_cases c : k ≤ xs.length
    · rw [Nat.min_eq_left c]
    · rw [Nat.min_eq_right (by omega), List.take_of_length_le (Nat.le_refl _), List.take_of_length_le (by omega)]
  exact q p _ _ (fresh_back e2 hp) (e2.trans (Ex.new hp)) upd_same (by rw [ec]; exact monoA (Ex.new hp) (allTake k hA))
theorem nRev {ds : List PyData} (ha : EvD K ta σ H (.list ds)) : EvN K (tRevL K ta) σ H ds.reverse := fun H1 e Q q => ha H1 e _ fun v H2 e2 hd => by
  obtain ⟨a, xs, rfl, hs, hA⟩ := dpList hd
  exact ⟨a, xs, rfl, hs, fun p hp => q p _ _ (fresh_back e2 hp) (e2.trans (Ex.new hp)) upd_same (monoA (Ex.new hp) (allRev hA))⟩
end
/-- the draws at the start -/
theorem dst_of {K : PySem.W.Frag} {H : Hp} {p : Addr} {xs : List V} {k : Int} {ns : List Int} (hk : 0 ≤ k ∧ k < 2147483647) (hl : ns.length ≤ 63) (h : H p = some (.lst xs)) (ha : DpAll K H xs ((diceF k ns :: 0 :: big ns).map PyData.int)) : DSt H p := by
  refine ⟨_, ?_, dice_ok hk ns, ?_⟩
  · rw [h, intsOfAll ha]
  · have : (big ns).length ≤ ns.length := List.length_filter_le _ _
    show (big ns).length + 1 + 1 ≤ 100
    omega

/-! ### _law_alike -/
mutual
def wide : PyData → Bool
  | .list ds => decide (ds.length ≤ 1000) && wides ds
  | .tuple ds => decide (ds.length ≤ 1000) && wides ds
  | _ => true
def wides : List PyData → Bool
  | [] => true
  | d :: ds => wide d && wides ds
end
theorem wides_at : ∀ {ds : List PyData} {i : Nat} {d : PyData}, wides ds = true → ds[i]? = some d → wide d = true
  | [], i, _, _, e => by simp at e
  | x :: xs, 0, d, h, e => by
    have h' := Bool.and_eq_true_iff.mp h
    simp at e; subst e; exact h'.1
  | x :: xs, i + 1, d, h, e => by
    have h' := Bool.and_eq_true_iff.mp h
    exact wides_at h'.2 (by simpa using e)
theorem dep_at : ∀ {ds : List PyData} {i : Nat} {d : PyData}, ds[i]? = some d → d.depth ≤ PyData.depthAll ds
  | [], i, _, e => by simp at e
  | x :: xs, 0, d, e => by
    simp at e; subst e
    show x.depth ≤ max x.depth (PyData.depthAll xs)
    omega
  | x :: xs, i + 1, d, e => by
    have h : xs[i]? = some d := by simpa using e
    have ih := dep_at h
    show d.depth ≤ max x.depth (PyData.depthAll xs)
    omega
def tyN : PyData → String
  | .none => "NoneType"
  | .bool _ => "bool"
  | .int _ => "int"
  | .str _ => "str"
  | .list _ => "list"
  | .tuple _ => "tuple"
  | .dict _ => "dict"
theorem kb_bool_bool : kitB "bool" "bool" = some true := by decide +kernel
theorem kb_bool_int : kitB "bool" "int" = some true := by decide +kernel
theorem kb_bool_str : kitB "bool" "str" = some false := by decide +kernel
theorem kb_bool_list : kitB "bool" "list" = some false := by decide +kernel
theorem kb_bool_tuple : kitB "bool" "tuple" = some false := by decide +kernel
theorem kb_int_bool : kitB "int" "bool" = some false := by decide +kernel
theorem kb_int_int : kitB "int" "int" = some true := by decide +kernel
theorem kb_int_str : kitB "int" "str" = some false := by decide +kernel
theorem kb_int_list : kitB "int" "list" = some false := by decide +kernel
theorem kb_int_tuple : kitB "int" "tuple" = some false := by decide +kernel
theorem kb_str_bool : kitB "str" "bool" = some false := by decide +kernel
theorem kb_str_int : kitB "str" "int" = some false := by decide +kernel
theorem kb_str_str : kitB "str" "str" = some true := by decide +kernel
theorem kb_str_list : kitB "str" "list" = some false := by decide +kernel
theorem kb_str_tuple : kitB "str" "tuple" = some false := by decide +kernel
theorem kb_list_bool : kitB "list" "bool" = some false := by decide +kernel
theorem kb_list_int : kitB "list" "int" = some false := by decide +kernel
theorem kb_list_str : kitB "list" "str" = some false := by decide +kernel
theorem kb_list_list : kitB "list" "list" = some true := by decide +kernel
theorem kb_list_tuple : kitB "list" "tuple" = some false := by decide +kernel
theorem kb_tuple_bool : kitB "tuple" "bool" = some false := by decide +kernel
theorem kb_tuple_int : kitB "tuple" "int" = some false := by decide +kernel
theorem kb_tuple_str : kitB "tuple" "str" = some false := by decide +kernel
theorem kb_tuple_list : kitB "tuple" "list" = some false := by decide +kernel
theorem kb_tuple_tuple : kitB "tuple" "tuple" = some true := by decide +kernel
section
variable {K : PySem.W.Frag} {σ : L2.St} {H : Hp}
theorem tyx : ∀ {d : PyData} {v : V}, Dp K H v d → TyX K H v (.type (tyN d))
  | .none, _, h => by cases h; exact .base .non
  | .bool b, _, h => by cases h; exact .base (.bl b)
  | .int i, _, h => by cases h; exact .base (.int i)
  | .str x, _, h => by cases h; exact .base (.str x)
  | .list ds, _, h => by
    obtain ⟨a, xs, rfl, hs, _⟩ := dpList h
    rcases hs with (hs | ⟨o, hs⟩) | ⟨o, its, n, hk, hc, _⟩
    · exact .base (.lst hs)
    · exact .base (.frz hs)
    · exact .kList hk hc
  | .tuple ds, _, h => by
    obtain ⟨a, xs, rfl, hs, _⟩ := dpTuple h
    rcases hs with (hs | ⟨o, hs⟩) | ⟨o, its, n, hk, hc, _⟩
    · exact .base (.tup hs)
    · exact .fTuple hs
    · exact .kTuple hk hc
  | .dict _, _, h => by cases h
abbrev tIsi (K : PySem.W.Frag) (j : Nat) (c : String) : TE := tCB (rIsi K) (tCons (tVar j) (tCons (tC (.ty c)) tNil))
theorem isi {j : Nat} {v : V} {d : PyData} {c : String} {b : Bool} (h : σ[j]? = some (some v)) (hd : Dp K H v d) (hk : kitB (tyN d) c = some b) : Ev (tIsi K j c) σ H (.bl b) := fun H1 e Q q =>
  ⟨v, h, v, .ty c, .type (tyN d), .type c, b, rfl, .ty c, tyx (SB.mono e hd), kit_ty hk, q H1 (Ex.refl H1)⟩
theorem lenD {j : Nat} {v : V} {ds : List PyData} {r : List V → Hp → VK → Prop} (h : σ[j]? = some (some v)) (hd : Dp K H v (.list ds) ∨ Dp K H v (.tuple ds)) (hr : r = fun xs H Q => ∃ p ys, xs = [.ref p] ∧ (SqL K H p ys ∨ SqT K H p ys) ∧ Q (.int ys.length) H) : Ev (tCB r (tCons (tVar j) tNil)) σ H (.int (ds.length : Int)) := fun H1 e Q q => by
  subst hr
  rcases hd with hd | hd
  · obtain ⟨a, xs, rfl, hs, ha⟩ := dpList (SB.mono e hd)
    exact ⟨.ref a, h, a, xs, rfl, .inl hs, by rw [allLen ha]; exact q H1 (Ex.refl H1)⟩
  · obtain ⟨a, xs, rfl, hs, ha⟩ := dpTuple (SB.mono e hd)
    exact ⟨.ref a, h, a, xs, rfl, .inr hs, by rw [allLen ha]; exact q H1 (Ex.refl H1)⟩
theorem ixD {j k : Nat} {v : V} {ds : List PyData} {i : Nat} {d : PyData} (h : σ[j]? = some (some v)) (hk : σ[k]? = some (some (.int (i : Nat)))) (hd : Dp K H v (.list ds) ∨ Dp K H v (.tuple ds)) (hi : ds[i]? = some d) : EvD K (tOp (rIx K) (tVar j) (tVar k)) σ H d := fun H1 e Q q => by
  rcases hd with hd | hd
  · obtain ⟨a, xs, rfl, hs, ha⟩ := dpList (SB.mono e hd)
    obtain ⟨x, hx, hdx⟩ := allGet ha hi
    exact ⟨.ref a, h, .int (i : Nat), hk, .inl ⟨a, xs, (i : Nat), x, rfl, rfl, hs, atI_nat hx, q x H1 (Ex.refl H1) hdx⟩⟩
  · obtain ⟨a, xs, rfl, hs, ha⟩ := dpTuple (SB.mono e hd)
    obtain ⟨x, hx, hdx⟩ := allGet ha hi
    exact ⟨.ref a, h, .int (i : Nat), hk, .inr (.inl ⟨a, xs, (i : Nat), x, rfl, rfl, hs, atI_nat hx, q x H1 (Ex.refl H1) hdx⟩)⟩
end
/-- the same data twice: told True -/
def spAlike (K : PySem.W.Frag) (k : Nat) : Sp := fun vs H Q _ => ∃ d, DpAll K H vs [d, d] ∧ wide d = true ∧ d.depth < k ∧ ∀ H', Ex H H' → Q (.bl true) H'
section
variable {P : Program} {w : World} {K : PySem.W.Frag} {mg : Str → Option Value} {base : Heap}
theorem ok_alike {f : Addr} {fd : FuncData} (F : Fun K "_law_alike" "_law_alike" sLawAlike f fd) (g : mg "_law_alike" = some (.ref f)) (kp : PySem.W.keepIn K (.ref f) = true) (b : Binds K fd ["_law_found", "_law_due"] [])
    (mi : mg "isinstance" = none) (mB : mg "bool" = none) (mI : mg "int" = none) (mS : mg "str" = none) (mT : mg "tuple" = none) (mL : mg "list" = none) (ml : mg "len" = none) (ma : mg "all" = none) (mr : mg "range" = none) : ∀ k : Nat, FnOk P w K mg base CX0 (k + 1) f fd ["_law_found", "_law_due"] (spAlike K k)
  | 0 => by
    refine F.ok scLawAlike (fun vs H Q E h => ?_) (fun cdv A outer s H vs Q E hr h => ?_)
    · obtain ⟨d, _, _, h0, _⟩ := h
      exact absurd h0 (Nat.not_lt_zero _)
    · obtain ⟨d, _, _, h0, _⟩ := h
      exact absurd h0 (Nat.not_lt_zero _)
  | k + 1 => by
    have F1 := ok_alike F g kp b mi mB mI mS mT mL ml ma mr k
    refine F.ok scLawAlike (fun vs H Q E h => ?_) (fun cdv A outer s H vs Q E hr h => ?_)
    · obtain ⟨d, ha, _⟩ := h
      exact allLen ha
    · obtain ⟨d, ha, hw, hdep, q⟩ := h
      obtain ⟨x, y, rfl, hx, hy⟩ := all2 ha
      have nd := scLawAlike.nd
      refine ⟨_, pss_cons (ps_if (pt_cmpR op_isN (pv 1) pe_non (nomark _)) (pss_one (ps_ret (pe_cmpR op_isN (pv 0) pe_non (nomark _)))) pss_nil)
        (pss_cons (ps_if (pt_val (pe_callB call_isi (by rfl) mi (by decide +kernel) (pa_cons (pv 1) (pa_cons (pe_bltn (v := .ty "bool") (by rfl) mB boot_bool rfl) pa_nil))))
          (pss_one (ps_ret (pe_and (pe_callB call_isi (by rfl) mi (by decide +kernel) (pa_cons (pv 0) (pa_cons (pe_bltn (v := .ty "bool") (by rfl) mB boot_bool rfl) pa_nil))) (pe_one (pe_cmpR op_eq (pv 0) (pv 1) (nomark _)))))) pss_nil)
        (pss_cons (ps_if (pt_val (pe_callB call_isi (by rfl) mi (by decide +kernel) (pa_cons (pv 1) (pa_cons (pe_bltn (v := .ty "int") (by rfl) mI boot_int rfl) pa_nil))))
          (pss_one (ps_ret (pe_and (pe_callB call_isi (by rfl) mi (by decide +kernel) (pa_cons (pv 0) (pa_cons (pe_bltn (v := .ty "int") (by rfl) mI boot_int rfl) pa_nil))) (pe_and (pe_not (pe_callB call_isi (by rfl) mi (by decide +kernel) (pa_cons (pv 0) (pa_cons (pe_bltn (v := .ty "bool") (by rfl) mB boot_bool rfl) pa_nil)))) (pe_one (pe_cmpR op_eq (pv 0) (pv 1) (nomark _))))))) pss_nil)
        (pss_cons (ps_if (pt_val (pe_callB call_isi (by rfl) mi (by decide +kernel) (pa_cons (pv 1) (pa_cons (pe_bltn (v := .ty "str") (by rfl) mS boot_str rfl) pa_nil))))
          (pss_one (ps_ret (pe_and (pe_callB call_isi (by rfl) mi (by decide +kernel) (pa_cons (pv 0) (pa_cons (pe_bltn (v := .ty "str") (by rfl) mS boot_str rfl) pa_nil))) (pe_one (pe_cmpR op_eq (pv 0) (pv 1) (nomark _)))))) pss_nil)
        (pss_cons (ps_if (PW.pt (pw_or (pt_cmpR op_ne (pe_callB call_isi (by rfl) mi (by decide +kernel) (pa_cons (pv 1) (pa_cons (pe_bltn (v := .ty "tuple") (by rfl) mT boot_tuple rfl) pa_nil))) (pe_callB call_isi (by rfl) mi (by decide +kernel) (pa_cons (pv 0) (pa_cons (pe_bltn (v := .ty "tuple") (by rfl) mT boot_tuple rfl) pa_nil))) (nomark _))
            (pw_or1 (pt_cmpR op_ne (pe_callB call_isi (by rfl) mi (by decide +kernel) (pa_cons (pv 1) (pa_cons (pe_bltn (v := .ty "list") (by rfl) mL boot_list rfl) pa_nil))) (pe_callB call_isi (by rfl) mi (by decide +kernel) (pa_cons (pv 0) (pa_cons (pe_bltn (v := .ty "list") (by rfl) mL boot_list rfl) pa_nil))) (nomark _)))))
          (pss_one (ps_ret pe_bl)) pss_nil)
        (pss_cons (ps_if (pt_cmpR op_ne (pe_callB call_len_seq (by rfl) ml PySem.boot_len (pa_cons (pv 0) pa_nil)) (pe_callB call_len_seq (by rfl) ml PySem.boot_len (pa_cons (pv 1) pa_nil)) (nomark _)) (pss_one (ps_ret pe_bl)) pss_nil)
        (pss_one (ps_ret (pe_callB (cr_all rfl) (by rfl) ma (by decide +kernel) (pa_cons (pe_lc (own := [("_law_k", 2)]) (g := gName 2) (tt := tYes) (te := tCall (spAlike K k) [] E0 (tCons (tOp (rIx K) (tVar 0) (tVar 2)) (tCons (tOp (rIx K) (tVar 1) (tVar 2)) tNil))) rfl nd (pi_range1 (by rfl) mr (pa_cons (pe_callB call_len_seq (by rfl) ml PySem.boot_len (pa_cons (pv 1) pa_nil)) pa_nil)) (blkOk_by (own := [("_law_k", 2)]) (N := nLawAlike) (sc := defScope sLawAlike) (by decide +kernel))
          (fun _ _ _ _ _ => pg_name (i := 2) nd rfl (Or.inl rfl)) (fun _ _ _ _ _ => pts_nil) (fun _ _ _ _ _ => pe_call F1 hr (by rfl) g kp b .nil pass0 (pa_cons (pe_ix ix_seq (pv 0) (pv 2) (fun _ _ => rfl)) (pa_cons (pe_ix ix_seq (pv 1) (pv 2) (fun _ _ => rfl)) pa_nil)))) pa_nil))))))))), ?_⟩
      have seq : ∀ ds : List PyData, (Dp K H x (.list ds) ∧ Dp K H y (.list ds) ∧ d = .list ds) ∨ (Dp K H x (.tuple ds) ∧ Dp K H y (.tuple ds) ∧ d = .tuple ds) → ds.length ≤ 1000 → wides ds = true → PyData.depthAll ds < k → ∀ {H1 : Hp}, Ex H H1 → Ev (tCB (rAll K) (tCons (tLc (iRng1 (tCons (tCB (fun xs H Q => ∃ p ys, xs = [.ref p] ∧ (SqL K H p ys ∨ SqT K H p ys) ∧ Q (.int ys.length) H) (tCons (tVar 1) tNil)) tNil)) (gName 2) tYes (tCall (spAlike K k) [] E0 (tCons (tOp (rIx K) (tVar 0) (tVar 2)) (tCons (tOp (rIx K) (tVar 1) (tVar 2)) tNil))) [2]) tNil)) [some x, some y, none] H1 (.bl true) := by
        intro ds hc hlen hwd hdp H1 e1
        have hX : Dp K H1 x (.list ds) ∨ Dp K H1 x (.tuple ds) := hc.elim (fun z => .inl (SB.mono e1 z.1)) fun z => .inr (SB.mono e1 z.1)
        have hY : Dp K H1 y (.list ds) ∨ Dp K H1 y (.tuple ds) := hc.elim (fun z => .inl (SB.mono e1 z.2.1)) fun z => .inr (SB.mono e1 z.2.1)
        have N := nLc (K := K) (σ := [some x, some y, none]) (H := H1) (wi := iRng1 (tCons (tCB (fun xs H Q => ∃ p ys, xs = [.ref p] ∧ (SqL K H p ys ∨ SqT K H p ys) ∧ Q (.int ys.length) H) (tCons (tVar 1) tNil)) tNil)) (g := gName 2) (tt := tYes) (te := tCall (spAlike K k) [] E0 (tCons (tOp (rIx K) (tVar 0) (tVar 2)) (tCons (tOp (rIx K) (tVar 1) (tVar 2)) tNil))) (vs := [2]) (n := (ds.length : Int).toNat) (fun _ => true) (fun _ => .bool true) (by omega) (wkRange1 (ea_cons (lenD rfl hY rfl) ea_nil) ⟨by omega, by omega⟩).asN (fun Dl i v H3 hi e3 hd => by
          rw [Int.toNat_natCast] at hi
          cases dpInt hd
          refine ⟨[some x, some y, some (.int (i : Nat))], fun Q q => q, rfl, et_yes, fun _ => EvD.x (fun H4 e4 Q q => ?_) rfl⟩
          have e34 := e3.trans e4
          have hX3 := hX.imp (SB.mono e34) (SB.mono e34)
          have hY3 := hY.imp (SB.mono e34) (SB.mono e34)
          have hi' := List.getElem?_eq_getElem hi
          exact da2 (ixD (σ := [some x, some y, some (.int (i : Nat))]) (i := i) rfl rfl hX3 hi') (ixD (i := i) rfl rfl hY3 hi') H4 (Ex.refl H4) _ fun vs H5 e5 hvs => ⟨ds[i], by rw [List.append_nil]; exact hvs, wides_at hwd hi', by have := dep_at hi'; omega, fun H6 e6 => q _ H6 (e5.trans e6) (.bl true)⟩)
        rw [outs_all, Int.toNat_natCast] at N
        intro H2 e2 Q q
        refine N H2 e2 (fun x H1 => rAll K [x] H1 Q) fun p xs H3 _ e3 h3 hA => ⟨p, (List.range ds.length).map fun _ => true, rfl, ?_, ?_⟩
        · refine sq_of ?_
          rw [h3]
          have z : (List.range ds.length).map (fun _ => PyData.bool true) = ((List.range ds.length).map fun _ => true).map PyData.bool := by rw [List.map_map]; rfl
          rw [z] at hA
          rw [blsOfAll hA]
        · rw [show ((List.range ds.length).map fun _ => true).all id = true by rw [List.all_map]; exact List.all_eq_true.mpr fun _ _ => rfl]
          exact q H3 e3
      have fin := fun (H2 : Hp) (e : Ex H H2) => q H2 e
      cases d with
      | none =>
        cases hx; cases hy
        exact s_if (b := true) (et_test (fun H1 _ Q q => ⟨.non, rfl, rfl, q H1 (Ex.refl H1)⟩)) (fun _ H1 e1 => s_ret (v := .bl true) (fun H2 _ Q q => ⟨.non, rfl, rfl, q H2 (Ex.refl H2)⟩) fun H2 e2 => fin H2 (e1.trans e2)) (fun z => nomatch z)
      | bool bb =>
        cases hx; cases hy
        refine s_if (b := false) (et_test (fun H1 _ Q q => ⟨.bl bb, rfl, rfl, q H1 (Ex.refl H1)⟩)) (fun z => nomatch z) (fun _ H1 e1 => ?_)
        refine s_if (b := true) (et_B (isi (d := .bool bb) rfl (.bl bb) (by first | exact kb_bool_bool | exact kb_bool_int | exact kb_bool_str | exact kb_bool_list | exact kb_bool_tuple))) (fun _ H2 e2 => ?_) (fun z => nomatch z)
        exact s_ret (v := .bl true) (ev_is (ev_andV (a := true) (isi (d := .bool bb) rfl (.bl bb) (by first | exact kb_bool_bool | exact kb_bool_int | exact kb_bool_str | exact kb_bool_list | exact kb_bool_tuple)) fun _ => ev_op (x := .bl bb) (y := .bl bb) (ev_var rfl) (ev_var rfl) (rv_eq rfl)) (by rw [decide_eq_true rfl]; rfl)) fun H3 e3 => fin H3 ((e1.trans e2).trans e3)
      | int i =>
        cases hx; cases hy
        refine s_if (b := false) (et_test (fun H1 _ Q q => ⟨.int i, rfl, rfl, q H1 (Ex.refl H1)⟩)) (fun z => nomatch z) (fun _ H1 e1 => ?_)
        refine s_if (b := false) (et_B (isi (d := .int i) rfl (.int i) (by first | exact kb_int_bool | exact kb_int_int | exact kb_int_str | exact kb_int_list | exact kb_int_tuple))) (fun z => nomatch z) (fun _ H2 e2 => ?_)
        refine s_if (b := true) (et_B (isi (d := .int i) rfl (.int i) (by first | exact kb_int_bool | exact kb_int_int | exact kb_int_str | exact kb_int_list | exact kb_int_tuple))) (fun _ H3 e3 => ?_) (fun z => nomatch z)
        exact s_ret (v := .bl true) (ev_is (ev_andV (a := true) (isi (d := .int i) rfl (.int i) (by first | exact kb_int_bool | exact kb_int_int | exact kb_int_str | exact kb_int_list | exact kb_int_tuple)) fun _ => ev_andV (a := !false) (ev_notV (isi (d := .int i) rfl (.int i) (by first | exact kb_int_bool | exact kb_int_int | exact kb_int_str | exact kb_int_list | exact kb_int_tuple))) fun _ => ev_op (x := .int i) (y := .int i) (ev_var rfl) (ev_var rfl) (rv_eq rfl)) (by rw [decide_eq_true rfl]; rfl)) fun H4 e4 => fin H4 (((e1.trans e2).trans e3).trans e4)
      | str t =>
        cases hx; cases hy
        refine s_if (b := false) (et_test (fun H1 _ Q q => ⟨.str t, rfl, rfl, q H1 (Ex.refl H1)⟩)) (fun z => nomatch z) (fun _ H1 e1 => ?_)
        refine s_if (b := false) (et_B (isi (d := .str t) rfl (.str t) (by first | exact kb_str_bool | exact kb_str_int | exact kb_str_str | exact kb_str_list | exact kb_str_tuple))) (fun z => nomatch z) (fun _ H2 e2 => ?_)
        refine s_if (b := false) (et_B (isi (d := .str t) rfl (.str t) (by first | exact kb_str_bool | exact kb_str_int | exact kb_str_str | exact kb_str_list | exact kb_str_tuple))) (fun z => nomatch z) (fun _ H3 e3 => ?_)
        refine s_if (b := true) (et_B (isi (d := .str t) rfl (.str t) (by first | exact kb_str_bool | exact kb_str_int | exact kb_str_str | exact kb_str_list | exact kb_str_tuple))) (fun _ H4 e4 => ?_) (fun z => nomatch z)
        exact s_ret (v := .bl true) (ev_is (ev_andV (a := true) (isi (d := .str t) rfl (.str t) (by first | exact kb_str_bool | exact kb_str_int | exact kb_str_str | exact kb_str_list | exact kb_str_tuple)) fun _ => ev_op (x := .str t) (y := .str t) (ev_var rfl) (ev_var rfl) (rv_eq rfl)) (by rw [decide_eq_true rfl]; rfl)) fun H5 e5 => fin H5 ((((e1.trans e2).trans e3).trans e4).trans e5)
      | dict _ => cases hx
      | list ds =>
        have hw' := Bool.and_eq_true_iff.mp hw
        have ev0 : ∀ {H1 : Hp}, Ev (tOp (fun x y H Q => y = .non ∧ Q (.bl (decide (x = .non))) H) (tVar 1) (tC .non)) [some x, some y, none] H1 (.bl false) := by
          obtain ⟨a, xs, rfl, _⟩ := dpList hy
          exact fun {H1} H2 _ Q q => ⟨_, rfl, rfl, q H2 (Ex.refl H2)⟩
        refine s_if (b := false) (et_test ev0) (fun z => nomatch z) (fun _ H1 e1 => ?_)
        refine s_if (b := false) (et_B (isi (v := y) (d := .list ds) rfl (SB.mono e1 hy) (by first | exact kb_list_bool | exact kb_list_int | exact kb_list_str | exact kb_list_list | exact kb_list_tuple))) (fun z => nomatch z) (fun _ H2 e2 => ?_)
        replace e2 := e1.trans e2
        refine s_if (b := false) (et_B (isi (v := y) (d := .list ds) rfl (SB.mono e2 hy) (by first | exact kb_list_bool | exact kb_list_int | exact kb_list_str | exact kb_list_list | exact kb_list_tuple))) (fun z => nomatch z) (fun _ H3 e3 => ?_)
        replace e3 := e2.trans e3
        refine s_if (b := false) (et_B (isi (v := y) (d := .list ds) rfl (SB.mono e3 hy) (by first | exact kb_list_bool | exact kb_list_int | exact kb_list_str | exact kb_list_list | exact kb_list_tuple))) (fun z => nomatch z) (fun _ H4 e4 => ?_)
        replace e4 := e3.trans e4
        refine s_if (b := false) (et_is (et_or (et_test (ev_op (isi (v := y) (d := .list ds) (b := false) rfl (SB.mono e4 hy) (by first | exact kb_list_bool | exact kb_list_int | exact kb_list_str | exact kb_list_list | exact kb_list_tuple)) (isi (v := x) (d := .list ds) (b := false) rfl (SB.mono e4 hx) (by first | exact kb_list_bool | exact kb_list_int | exact kb_list_str | exact kb_list_list | exact kb_list_tuple)) (rv_ne rfl))) fun _ => et_test (ev_op (isi (v := y) (d := .list ds) (b := true) rfl (SB.mono e4 hy) (by first | exact kb_list_bool | exact kb_list_int | exact kb_list_str | exact kb_list_list | exact kb_list_tuple)) (isi (v := x) (d := .list ds) (b := true) rfl (SB.mono e4 hx) (by first | exact kb_list_bool | exact kb_list_int | exact kb_list_str | exact kb_list_list | exact kb_list_tuple)) (rv_ne rfl))) (by decide)) (fun z => nomatch z) (fun _ H5 e5 => ?_)
        replace e5 := e4.trans e5
        refine s_if (b := false) (et_is (et_test (ev_op (x := .int (ds.length : Int)) (y := .int (ds.length : Int)) (lenD (v := x) rfl (.inl (SB.mono e5 hx)) rfl) (lenD (v := y) rfl (.inl (SB.mono e5 hy)) rfl) (rv_ne rfl))) (by rw [decide_eq_true rfl]; rfl)) (fun z => nomatch z) (fun _ H6 e6 => ?_)
        exact s_ret (seq ds (.inl ⟨hx, hy, rfl⟩) (of_decide_eq_true hw'.1) hw'.2 (by have : PyData.depthAll ds + 1 < k + 1 := hdep; omega) (e5.trans e6)) fun H7 e7 => fin H7 ((e5.trans e6).trans e7)
      | tuple ds =>
        have hw' := Bool.and_eq_true_iff.mp hw
        have ev0 : ∀ {H1 : Hp}, Ev (tOp (fun x y H Q => y = .non ∧ Q (.bl (decide (x = .non))) H) (tVar 1) (tC .non)) [some x, some y, none] H1 (.bl false) := by
          obtain ⟨a, xs, rfl, _⟩ := dpTuple hy
          exact fun {H1} H2 _ Q q => ⟨_, rfl, rfl, q H2 (Ex.refl H2)⟩
        refine s_if (b := false) (et_test ev0) (fun z => nomatch z) (fun _ H1 e1 => ?_)
        refine s_if (b := false) (et_B (isi (v := y) (d := .tuple ds) rfl (SB.mono e1 hy) (by first | exact kb_tuple_bool | exact kb_tuple_int | exact kb_tuple_str | exact kb_tuple_list | exact kb_tuple_tuple))) (fun z => nomatch z) (fun _ H2 e2 => ?_)
        replace e2 := e1.trans e2
        refine s_if (b := false) (et_B (isi (v := y) (d := .tuple ds) rfl (SB.mono e2 hy) (by first | exact kb_tuple_bool | exact kb_tuple_int | exact kb_tuple_str | exact kb_tuple_list | exact kb_tuple_tuple))) (fun z => nomatch z) (fun _ H3 e3 => ?_)
        replace e3 := e2.trans e3
        refine s_if (b := false) (et_B (isi (v := y) (d := .tuple ds) rfl (SB.mono e3 hy) (by first | exact kb_tuple_bool | exact kb_tuple_int | exact kb_tuple_str | exact kb_tuple_list | exact kb_tuple_tuple))) (fun z => nomatch z) (fun _ H4 e4 => ?_)
        replace e4 := e3.trans e4
        refine s_if (b := false) (et_is (et_or (et_test (ev_op (isi (v := y) (d := .tuple ds) (b := true) rfl (SB.mono e4 hy) (by first | exact kb_tuple_bool | exact kb_tuple_int | exact kb_tuple_str | exact kb_tuple_list | exact kb_tuple_tuple)) (isi (v := x) (d := .tuple ds) (b := true) rfl (SB.mono e4 hx) (by first | exact kb_tuple_bool | exact kb_tuple_int | exact kb_tuple_str | exact kb_tuple_list | exact kb_tuple_tuple)) (rv_ne rfl))) fun _ => et_test (ev_op (isi (v := y) (d := .tuple ds) (b := false) rfl (SB.mono e4 hy) (by first | exact kb_tuple_bool | exact kb_tuple_int | exact kb_tuple_str | exact kb_tuple_list | exact kb_tuple_tuple)) (isi (v := x) (d := .tuple ds) (b := false) rfl (SB.mono e4 hx) (by first | exact kb_tuple_bool | exact kb_tuple_int | exact kb_tuple_str | exact kb_tuple_list | exact kb_tuple_tuple)) (rv_ne rfl))) (by decide)) (fun z => nomatch z) (fun _ H5 e5 => ?_)
        replace e5 := e4.trans e5
        refine s_if (b := false) (et_is (et_test (ev_op (x := .int (ds.length : Int)) (y := .int (ds.length : Int)) (lenD (v := x) rfl (.inr (SB.mono e5 hx)) rfl) (lenD (v := y) rfl (.inr (SB.mono e5 hy)) rfl) (rv_ne rfl))) (by rw [decide_eq_true rfl]; rfl)) (fun z => nomatch z) (fun _ H6 e6 => ?_)
        exact s_ret (seq ds (.inr ⟨hx, hy, rfl⟩) (of_decide_eq_true hw'.1) hw'.2 (by have : PyData.depthAll ds + 1 < k + 1 := hdep; omega) (e5.trans e6)) fun H7 e7 => fin H7 ((e5.trans e6).trans e7)
end

/-! ### _law_members, _law_told, _law_others -/
section
variable {K : PySem.W.Frag} {w : World} {σ : L2.St} {H : Hp}
theorem nSorted {ta : TE} {ns out : List Int} (h : EvD K ta σ H (.list (ns.map PyData.int))) (hb : ns.length < 4000) (ho : out.Pairwise (· < ·)) (hm : ∀ k, k ∈ out ↔ k ∈ ns) : EvN K (tCB (SC.rSortS w) (tCons (tCB (SC.rSetI K w) (tCons ta tNil)) tNil)) σ H (out.map PyData.int) := fun H1 e Q q =>
  h H1 e _ fun v H2 e2 hd => by
    obtain ⟨a, xs, rfl, hs, hA⟩ := dpList hd
    have hx := intsOfAll hA
    subst hx
    refine ⟨a, ns, rfl, hs, by show ns.length + 1 < 4096; omega, fun c p hp => ⟨p, _, c, rfl, upd_same, fun ns' q' hs' hm' _ _ hq => ?_⟩⟩
    have eo : ns' = out := sortedInt hs' ho fun k => by rw [hm' k, hm k, decide_eq_true_eq]
    subst eo
    exact q q' _ _ (fresh_back (e2.trans (Ex.new hp)) hq) ((e2.trans (Ex.new hp)).trans (Ex.new hq)) upd_same (allOfInts _)
/-- xs + ys, both tracked -/
theorem nCat2 {ta tb : TE} {l b : Addr} {xs ys : List V} {ds es : List PyData} (ha : Ev ta σ H (.ref l)) (hl : H l = some (.lst xs)) (hA : DpAll K H xs ds) (hb : Ev tb σ H (.ref b)) (hl' : H b = some (.lst ys)) (hB : DpAll K H ys es) (hz : ds.length + es.length ≤ 100000) : EvN K (tOp rCat ta tb) σ H (ds ++ es) := fun H1 e Q q =>
  ha H1 e _ fun H2 e2 => hb H2 (e.trans e2) _ fun H3 e3 => ⟨l, b, xs, ys, rfl, rfl, ((e.trans e2).trans e3) l _ hl, ((e.trans e2).trans e3) b _ hl', sz_of (by rw [allLen hA, allLen hB]; exact hz), fun p hp =>
    q p _ _ (fresh_back (e2.trans e3) hp) ((e2.trans e3).trans (Ex.new hp)) upd_same (allApp (monoA (((e.trans e2).trans e3).trans (Ex.new hp)) hA) (monoA (((e.trans e2).trans e3).trans (Ex.new hp)) hB))⟩
theorem inInts {ns : List Int} {x : Int} : inV (.int x) (ns.map V.int) = decide (x ∈ ns) := by
  induction ns with
  | nil => rfl
  | cons y r ih =>
    show (eqV (.int y) (.int x) || inV (.int x) (r.map V.int)) = _
    rw [ih]
    show ((y == x) || decide (x ∈ r)) = _
    rw [Bool.eq_iff_iff]
    simp only [Bool.or_eq_true, beq_iff_eq, decide_eq_true_eq, List.mem_cons]
    constructor
    · rintro (h | h)
      · exact .inl h.symm
      · exact .inr h
    · rintro (h | h)
      · exact .inl h.symm
      · exact .inr h
theorem flatInts (ns : List Int) : (ns.map V.int).all flatV = true := by
  rw [List.all_map]
  exact List.all_eq_true.mpr fun _ _ => rfl
/-- x in numbers, x not in numbers -/
theorem inD {neg : Bool} {ta tb : TE} {x : Int} {ns : List Int} {v : V} (ha : Ev ta σ H (.int x)) (hb : Ev tb σ H v) (hd : Dp K H v (.list (ns.map PyData.int))) : Ev (tOp (rIn K neg) ta tb) σ H (.bl (if neg then !decide (x ∈ ns) else decide (x ∈ ns))) := fun H1 e Q q =>
  ha H1 e _ fun H2 e2 => hb H2 (e.trans e2) _ fun H3 e3 => by
    obtain ⟨a, xs, rfl, hs, hA⟩ := dpList (SB.mono ((e.trans e2).trans e3) hd)
    have hx := intsOfAll hA
    subst hx
    refine ⟨a, _, rfl, .inl hs, rfl, flatInts ns, ?_⟩
    rw [inInts]
    exact q H3 (e2.trans e3)
end
def msD (ms : List Nat) : List PyData := ms.map iD'
theorem msD_int (ms : List Nat) : msD ms = (ms.map fun k : Nat => (k : Int)).map PyData.int := by unfold msD; rw [List.map_map]; rfl
theorem mem_ints {ms : List Nat} {x : Int} : x ∈ (ms.map fun k : Nat => (k : Int)) ↔ ∃ k : Nat, k ∈ ms ∧ (k : Int) = x := List.mem_map
theorem outs_filter (ms : List Nat) (f : Nat → Bool) : outs ms.length (fun i => f (ms.getD i 0)) (fun i => iD' (ms.getD i 0)) = msD (ms.filter f) := by
  have h := outs_map (fun c => f c.toNat) (ms.map fun k : Nat => (k : Int))
  have e : ∀ i, (ms.map fun k : Nat => (k : Int)).getD i 0 = ((ms.getD i 0 : Nat) : Int) := fun i => by
    rw [List.getD_eq_getElem?_getD, List.getD_eq_getElem?_getD, List.getElem?_map]
    cases ms[i]? <;> rfl
  rw [List.length_map] at h
  have e1 : (fun i => f ((ms.map fun k : Nat => (k : Int)).getD i 0).toNat) = fun i => f (ms.getD i 0) := funext fun i => by rw [e i, Int.toNat_natCast]
  have e2 : (fun i => PyData.int ((ms.map fun k : Nat => (k : Int)).getD i 0)) = fun i => iD' (ms.getD i 0) := funext fun i => by rw [e i]; rfl
  rw [e1, e2] at h
  rw [h, msD_int, List.filter_map]
  rfl
section
variable {P : Program} {w : World} {K : PySem.W.Frag} {mg : Str → Option Value} {base : Heap}
def RMem : List PyData → List PyData → Prop := fun ds o => ∃ (n : Nat) (rs : List (Nat × Nat)), ds = [.int (n : Int), sD rs] ∧ n ≤ 64 ∧ Good n rs ∧ o = msD ((List.range n).filter (memB rs))
theorem ok_lmem {f : Addr} {fd : FuncData} {k : Nat} (F : Fun K "_law_members" "_law_members" sLawMembers f fd) (mL : mg "list" = none) (mr : mg "range" = none) (mso : mg "sorted" = none) (mse : mg "set" = none) : FnOk P w K mg base CX0 (k + 1) f fd ["_law_size_here", "_law_ranges"] (spN K RMem) := by
  refine F.ok scLawMembers (fun vs H Q E h => ?_) (fun cdv A outer s H vs Q E hr h => ?_)
  · obtain ⟨ds, out, ha, ⟨n, rs, rfl, _⟩, _⟩ := h
    exact allLen ha
  · obtain ⟨ds, out, ha, ⟨n, rs, rfl, h64, hg, rfl⟩, q⟩ := h
    obtain ⟨x, y, rfl, hx, hy⟩ := all2 ha
    cases dpInt hx
    have nd := scLawMembers.nd
    refine ⟨_, pss_cons (ps_set (i := 2) nd rfl (.inl rfl) (pe_lst pa_nil))
      (pss_cons (ps_for PassesOwn.never rfl (pi_list (pv 1)) (pg_tup rfl (pgs_cons (pg_name (i := 3) nd rfl (.inl rfl)) (pgs_cons (pg_name (i := 4) nd rfl (.inl rfl)) pgs_nil)))
        (pss_one (ps_set (i := 2) nd rfl (.inl rfl) (pe_op op_cat (pv 2) (pe_listRg rfl (by rfl) mL (prg_2 (by rfl) mr (pv 3) (pe_op op_add (pv 4) pe_int)))))))
      (pss_one (ps_ret (pe_callB (SC.crSortS rfl) (by rfl) mso (by decide +kernel) (pa_cons (pe_callTy (SC.crSetI rfl) (by rfl) mse (by decide +kernel) (pa_cons (pv 2) pa_nil)) pa_nil))))), ?_⟩
    refine ⟨Nat.zero_le _, fun l0 hl0 => ?_⟩
    refine sFor (B := H) (Ex.new hl0) (wkList (ev_var (v := y) rfl) hy) (fun i σ' H' => Ex H H' ∧ ∃ l a b, H' l = some (.lst ((cat (rs.take i)).map V.int)) ∧ σ' = [some (.int (n : Int)), some y, some (.ref l), a, b]) (fun H2 e => ⟨(Ex.new hl0).trans e, l0, none, none, e l0 _ upd_same, rfl⟩) (fun i σ' H' _ p => p.1) (fun i x σ' H' H'' hi p e hd => ?_) (fun σ' H' p => ?_)
    · obtain ⟨e0, l, a, b, hl, rfl⟩ := p
      rw [List.length_map] at hi
      rw [getD_map rD (List.getElem?_eq_getElem hi)] at hd
      have g := hg.ok rs[i] (List.getElem_mem hi)
      have gl : (cat (rs.take i)).length ≤ 64 * 64 := by
        have h1 := cat_len (n := n) (rs := rs.take i) fun r hr => hg.ok r (List.mem_of_mem_take hr)
        have h2 : (rs.take i).length ≤ 40 := by rw [List.length_take]; have := hg.len; omega
        have h3 : (rs.take i).length * n ≤ 64 * 64 := Nat.mul_le_mul (by omega) h64
        omega
      generalize hr' : rs[i] = r at hd g
      refine gPair hd fun y1 z1 hy1 hz1 => ?_
      cases dpInt hy1
      cases dpInt hz1
      refine ⟨.ref l, rfl, .int (r.1 : Int), rfl, .int (r.2 : Int), rfl, (r.2 : Int), 1, rfl, rfl, (r.1 : Int), (r.2 : Int) + 1, rfl, rfl, RgOk.of_le (by omega) (by omega) (by omega) (by omega), fun c hc => ?_⟩
      refine ⟨l, c, _, _, rfl, rfl, by rw [upd_ne (ne_of_none (e l _ hl) hc)]; exact e l _ hl, upd_same, sz_of ?_, fun p hp => ?_⟩
      · rw [rgV_length, List.length_map]; omega
      · refine ⟨((e0.trans e).trans (Ex.new hc)).trans (Ex.new hp), p, some (.int (r.1 : Int)), some (.int (r.2 : Int)), ?_, rfl⟩
        rw [upd_same, List.take_add_one, List.getElem?_eq_getElem hi, hr']
        refine congrArg (fun z => some (HO.lst z)) ?_
        unfold cat rgV
        show _ = ((rs.take i ++ [r]).flatMap _).map V.int
        rw [List.flatMap_append, List.map_append, List.flatMap_cons, List.flatMap_nil, List.append_nil, List.map_map, show ((r.2 : Int) + 1 - (r.1 : Int)).toNat = r.2 + 1 - r.1 by omega]
        rfl
    · obtain ⟨e0, l, a, b, hl, rfl⟩ := p
      rw [List.length_map, List.take_length] at hl
      have gl : (cat rs).length < 4000 := by
        have h1 := cat_len (n := n) (rs := rs) hg.ok
        have h3 : rs.length * n ≤ 40 * 64 := Nat.mul_le_mul hg.len h64
        omega
      have S := nSorted (K := K) (w := w) (σ := [some (.int (n : Int)), some y, some (.ref l), a, b]) (H := H') (ta := tVar 2) (ns := cat rs) (out := ((List.range n).filter (memB rs)).map fun k : Nat => (k : Int)) (dVar (v := .ref l) rfl (.lst (sq_of hl) (allOfInts _))) gl (int_lt (filt_lt _ _)) (fun k => by
        rw [mem_ints, mem_cat]
        constructor
        · rintro ⟨j, h1, rfl⟩
          exact ⟨j, rfl, (mem_filt.mp h1).2⟩
        · rintro ⟨j, rfl, h1⟩
          exact ⟨j, mem_filt.mpr ⟨memB_lt hg.ok h1, h1⟩, rfl⟩)
      rw [← msD_int] at S
      exact sRetN S (q.ex e0)
def RTold : List PyData → List PyData → Prop := fun ds o => ∃ (n : Nat) (m : Nat → Bool), ds = [.list (msD ((List.range n).filter m))] ∧ n ≤ 64 ∧ o = (told m n).map rD
theorem filt_filt (n : Nat) (m g : Nat → Bool) : ((List.range n).filter m).filter g = (List.range n).filter fun k => m k && g k := by
  rw [List.filter_filter]
  refine List.filter_congr fun k _ => ?_
  exact Bool.and_comm _ _
theorem ok_ltold {f : Addr} {fd : FuncData} {k : Nat} (F : Fun K "_law_told" "_law_told" sLawTold f fd) (mr : mg "range" = none) (ml : mg "len" = none) : FnOk P w K mg base CX0 (k + 1) f fd ["_law_numbers"] (spN K RTold) := by
  refine F.ok scLawTold (fun vs H Q E h => ?_) (fun cdv A outer s H vs Q E hr h => ?_)
  · obtain ⟨ds, out, ha, ⟨n, m, rfl, _⟩, _⟩ := h
    exact allLen ha
  · obtain ⟨ds, out, ha, ⟨n, m, rfl, h64, rfl⟩, q⟩ := h
    obtain ⟨y, rfl, hy⟩ := all1 ha
    have nd := scLawTold.nd
    obtain ⟨ms, hms⟩ : ∃ ms, ms = (List.range n).filter m := ⟨_, rfl⟩
    rw [← hms] at hy
    have hlen : ms.length ≤ 64 := by
      rw [hms]
      have := List.length_filter_le m (List.range n)
      rw [List.length_range] at this
      omega
    refine ⟨_, pss_cons (ps_set (i := 1) nd rfl (.inr rfl) (pe_lc (own := [("_law_number", 3)]) (g := gName 3) (tt := tTest (tOp (rIn K true) (tOp (rI0 fun i j => .int (i - j)) (tVar 3) (tC (.int 1))) (tVar 0))) (te := tVar 3) rfl nd (pi_list (pv 0)) (blkOk_by (own := [("_law_number", 3)]) (N := nLawTold) (sc := defScope sLawTold) (by decide +kernel))
        (fun _ _ _ _ _ => pg_name (i := 3) nd rfl (Or.inl rfl)) (fun _ _ _ _ _ => pts_one (pt_cmpR op_notIn_seq (pe_op op_sub (pv 3) pe_int) (pv 0) (by rfl))) (fun _ _ _ _ _ => pv 3)))
      (pss_cons (ps_set (i := 2) nd rfl (.inr rfl) (pe_lc (own := [("_law_number", 3)]) (g := gName 3) (tt := tTest (tOp (rIn K true) (tOp (rI0 fun i j => .int (i + j)) (tVar 3) (tC (.int 1))) (tVar 0))) (te := tVar 3) rfl nd (pi_list (pv 0)) (blkOk_by (own := [("_law_number", 3)]) (N := nLawTold) (sc := defScope sLawTold) (by decide +kernel))
        (fun _ _ _ _ _ => pg_name (i := 3) nd rfl (Or.inl rfl)) (fun _ _ _ _ _ => pts_one (pt_cmpR op_notIn_seq (pe_op op_add (pv 3) pe_int) (pv 0) (by rfl))) (fun _ _ _ _ _ => pv 3)))
      (pss_one (ps_ret (pe_lc (own := [("_law_k", 4)]) (g := gName 4) (tt := tYes) (te := tTup (tCons (tOp (rIx K) (tVar 1) (tVar 4)) (tCons (tOp (rIx K) (tVar 2) (tVar 4)) tNil))) rfl nd (pi_range1 (by rfl) mr (pa_cons (pe_callB call_len_seq (by rfl) ml PySem.boot_len (pa_cons (pv 1) pa_nil)) pa_nil)) (blkOk_by (own := [("_law_k", 4)]) (N := nLawTold) (sc := defScope sLawTold) (by decide +kernel))
        (fun _ _ _ _ _ => pg_name (i := 4) nd rfl (Or.inl rfl)) (fun _ _ _ _ _ => pts_nil) (fun _ _ _ _ _ => pe_tup (pa_cons (pe_ix ix_seq (pv 1) (pv 4) (fun _ _ => rfl)) (pa_cons (pe_ix ix_seq (pv 2) (pv 4) (fun _ _ => rfl)) pa_nil))))))), ?_⟩
    have hy' : Dp K H y (.list ((ms.map fun k : Nat => (k : Int)).map PyData.int)) := by rw [← msD_int]; exact hy
    -- firsts
    have N1 := nLc (K := K) (σ := [some y, none, none, none, none]) (H := H) (wi := iList K (tVar 0)) (g := gName 3) (tt := tTest (tOp (rIn K true) (tOp (rI0 fun i j => .int (i - j)) (tVar 3) (tC (.int 1))) (tVar 0))) (te := tVar 3) (vs := [3]) (fun i => (fun x : Nat => !decide (((x : Int) - 1) ∈ ms.map fun k : Nat => (k : Int))) (ms.getD i 0)) (fun i => iD' (ms.getD i 0)) (by rw [show (msD ms).length = ms.length from List.length_map ..]; omega) (wkList (ev_var (v := y) rfl) hy).asN (fun Dl i x H3 hi e3 hd => by
      rw [show (msD ms).length = ms.length from List.length_map ..] at hi
      rw [show (msD ms).getD i .none = iD' ms[i] from getD_map iD' (List.getElem?_eq_getElem hi)] at hd
      cases dpInt hd
      rw [getD_at 0 hi]
      exact ⟨[some y, none, none, some (.int (ms[i] : Nat)), none], fun Q q => q, rfl, et_test (inD (neg := true) (ev_op (ev_var (v := .int (ms[i] : Nat)) rfl) ev_c rv_I0) (ev_var (v := y) rfl) (SB.mono e3 hy')), fun _ => (dVar (d := iD' ms[i]) rfl (.int _)).x rfl⟩)
    rw [show (msD ms).length = ms.length from List.length_map .., outs_filter ms fun x : Nat => !decide (((x : Int) - 1) ∈ ms.map fun k : Nat => (k : Int))] at N1
    have E1 : ms.filter (fun x : Nat => !decide (((x : Int) - 1) ∈ ms.map fun k : Nat => (k : Int))) = (told m n).map Prod.fst := by
      rw [told_fst, hms, filt_filt]
      refine List.filter_congr fun x hx => ?_
      unfold isF
      refine congrArg _ ?_
      rw [Bool.eq_iff_iff, Bool.not_eq_true', decide_eq_false_iff_not, mem_ints]
      simp only [Bool.or_eq_true, decide_eq_true_eq, Bool.not_eq_true']
      have hx' := List.mem_range.mp hx
      constructor
      · intro h
        by_cases c : x = 0
        · exact .inl c
        · refine .inr ?_
          cases hmx : m (x - 1) with
          | false => rfl
          | true => exact absurd ⟨x - 1, mem_filt.mpr ⟨by omega, hmx⟩, by omega⟩ h
      · rintro h ⟨j, hj, ej⟩
        obtain ⟨_, j2⟩ := mem_filt.mp hj
        rcases h with h | h
        · omega
        · rw [show x - 1 = j by omega, j2] at h; cases h
    rw [E1] at N1
    refine sAsgN N1 fun p1 xs1 H1 hp1 e1 h1 a1 => ?_
    have N2 := nLc (K := K) (σ := [some y, some (.ref p1), none, none, none]) (H := H1) (wi := iList K (tVar 0)) (g := gName 3) (tt := tTest (tOp (rIn K true) (tOp (rI0 fun i j => .int (i + j)) (tVar 3) (tC (.int 1))) (tVar 0))) (te := tVar 3) (vs := [3]) (fun i => (fun x : Nat => !decide (((x : Int) + 1) ∈ ms.map fun k : Nat => (k : Int))) (ms.getD i 0)) (fun i => iD' (ms.getD i 0)) (by rw [show (msD ms).length = ms.length from List.length_map ..]; omega) (wkList (ev_var (v := y) rfl) (SB.mono e1 hy)).asN (fun Dl i x H3 hi e3 hd => by
      rw [show (msD ms).length = ms.length from List.length_map ..] at hi
      rw [show (msD ms).getD i .none = iD' ms[i] from getD_map iD' (List.getElem?_eq_getElem hi)] at hd
      cases dpInt hd
      rw [getD_at 0 hi]
      exact ⟨[some y, some (.ref p1), none, some (.int (ms[i] : Nat)), none], fun Q q => q, rfl, et_test (inD (neg := true) (ev_op (ev_var (v := .int (ms[i] : Nat)) rfl) ev_c rv_I0) (ev_var (v := y) rfl) (SB.mono (e1.trans e3) hy')), fun _ => (dVar (d := iD' ms[i]) rfl (.int _)).x rfl⟩)
    rw [show (msD ms).length = ms.length from List.length_map .., outs_filter ms fun x : Nat => !decide (((x : Int) + 1) ∈ ms.map fun k : Nat => (k : Int))] at N2
    have E2 : ms.filter (fun x : Nat => !decide (((x : Int) + 1) ∈ ms.map fun k : Nat => (k : Int))) = (told m n).map Prod.snd := by
      rw [told_snd, hms, filt_filt]
      refine List.filter_congr fun x hx => ?_
      unfold isL
      refine congrArg _ ?_
      rw [Bool.eq_iff_iff, Bool.not_eq_true', decide_eq_false_iff_not, mem_ints]
      simp only [Bool.or_eq_true, decide_eq_true_eq, Bool.not_eq_true']
      have hx' := List.mem_range.mp hx
      constructor
      · intro h
        by_cases c : x + 1 = n
        · exact .inl c
        · refine .inr ?_
          cases hmx : m (x + 1) with
          | false => rfl
          | true => exact absurd ⟨x + 1, mem_filt.mpr ⟨by omega, hmx⟩, by omega⟩ h
      · rintro h ⟨j, hj, ej⟩
        obtain ⟨j1, j2⟩ := mem_filt.mp hj
        rcases h with h | h
        · omega
        · rw [show x + 1 = j by omega, j2] at h; cases h
    rw [E2] at N2
    refine sAsgN N2 fun p2 xs2 H2 hp2 e2 h2 a2 => ?_
    obtain ⟨ts, hts⟩ : ∃ ts, ts = told m n := ⟨_, rfl⟩
    rw [← hts] at q a1 a2
    have htl : ts.length ≤ 64 := by rw [hts]; have := told_len m n; omega
    have d1 : Dp K H2 (.ref p1) (.list (msD (ts.map Prod.fst))) := .lst (sq_of (e2 p1 _ h1)) (monoA e2 a1)
    have d2 : Dp K H2 (.ref p2) (.list (msD (ts.map Prod.snd))) := .lst (sq_of h2) a2
    have hfl : (msD (ts.map Prod.fst)).length = ts.length := by unfold msD; rw [List.length_map, List.length_map]
    have N3 := nLc (K := K) (σ := [some y, some (.ref p1), some (.ref p2), none, none]) (H := H2) (wi := iRng1 (tCons (tCB (fun xs H Q => ∃ p ys, xs = [.ref p] ∧ (SqL K H p ys ∨ SqT K H p ys) ∧ Q (.int ys.length) H) (tCons (tVar 1) tNil)) tNil)) (g := gName 4) (tt := tYes) (te := tTup (tCons (tOp (rIx K) (tVar 1) (tVar 4)) (tCons (tOp (rIx K) (tVar 2) (tVar 4)) tNil))) (vs := [4]) (n := (ts.length : Int).toNat) (fun _ => true) (fun i => rD (ts.getD i (0, 0))) (by omega) (wkRange1 (ea_cons (ev_is (lenD (v := .ref p1) rfl (.inl d1) rfl) (congrArg (fun z : Nat => V.int (z : Int)) hfl)) ea_nil) ⟨by omega, by omega⟩).asN (fun Dl i x H3 hi e3 hd => by
      rw [Int.toNat_natCast] at hi
      cases dpInt hd
      rw [getD_at (0, 0) hi]
      refine ⟨[some y, some (.ref p1), some (.ref p2), none, some (.int (i : Nat))], fun Q q => q, rfl, et_yes, fun _ => (dTup (da2 (ixD (d := iD' ts[i].1) (i := i) rfl rfl (.inl (SB.mono e3 d1)) ?_) (ixD (d := iD' ts[i].2) (i := i) rfl rfl (.inl (SB.mono e3 d2)) ?_)) (by show 2 ≤ 100000; decide)).x rfl⟩
      · unfold msD; rw [List.getElem?_map, List.getElem?_map, List.getElem?_eq_getElem hi]; rfl
      · unfold msD; rw [List.getElem?_map, List.getElem?_map, List.getElem?_eq_getElem hi]; rfl)
    rw [outs_all, Int.toNat_natCast, range_getD rD (0, 0) ts] at N3
    exact sRetN N3 (q.ex (e1.trans e2))
def ROth : List PyData → List PyData → Prop := fun ds o => ∃ (n : Nat) (m : Nat → Bool), ds = [.int (n : Int), .list (msD ((List.range n).filter m))] ∧ n ≤ 64 ∧ o = msD ((List.range n).filter fun k => !m k)
end

/-! ### lists of new lists -/
inductive Parts (K : PySem.W.Frag) (H H' : Hp) : List Addr → List (List PyData) → Prop
  | nil : Parts K H H' [] []
  | cons {a : Addr} {xs : List V} {ds : List PyData} {ps : List Addr} {dss : List (List PyData)} : H a = none → H' a = some (.lst xs) → DpAll K H' xs ds → Parts K H H' ps dss → Parts K H H' (a :: ps) (ds :: dss)
section
variable {K : PySem.W.Frag} {σ : L2.St} {H H' H'' : Hp}
theorem Parts.mono {ps : List Addr} {dss : List (List PyData)} (e : Ex H' H'') (h : Parts K H H' ps dss) : Parts K H H'' ps dss := by
  induction h with
  | nil => exact .nil
  | cons h1 h2 h3 _ ih => exact .cons h1 (e _ _ h2) (monoA e h3) ih
theorem Parts.back {H0 : Hp} {ps : List Addr} {dss : List (List PyData)} (e : Ex H0 H) (h : Parts K H H' ps dss) : Parts K H0 H' ps dss := by
  induction h with
  | nil => exact .nil
  | cons h1 h2 h3 _ ih => exact .cons (fresh_back e h1) h2 h3 ih
theorem Parts.app {ps qs : List Addr} {dss ess : List (List PyData)} (h : Parts K H H' ps dss) (h' : Parts K H H' qs ess) : Parts K H H' (ps ++ qs) (dss ++ ess) := by
  induction h with
  | nil => exact h'
  | cons h1 h2 h3 _ ih => exact .cons h1 h2 h3 ih
theorem Parts.dp {ps : List Addr} {dss : List (List PyData)} (h : Parts K H H' ps dss) : DpAll K H' (ps.map V.ref) (dss.map PyData.list) := by
  induction h with
  | nil => exact .nil
  | cons h1 h2 h3 _ ih => exact .cons (.lst (sq_of h2) h3) ih
theorem Parts.fresh {ps : List Addr} {dss : List (List PyData)} (h : Parts K H H' ps dss) : ∀ a ∈ ps, H a = none := by
  induction h with
  | nil => intro a ha; simp at ha
  | cons h1 h2 h3 _ ih =>
    intro b hb
    rcases List.mem_cons.mp hb with e | e
    · rw [e]; exact h1
    · exact ih b e
theorem Parts.lists {ps : List Addr} {dss : List (List PyData)} {k : Nat} (h : Parts K H H' ps dss) (hk : ∀ ds ∈ dss, ds.length ≤ k) : ∀ a ∈ ps, ∃ xs, H' a = some (.lst xs) ∧ xs.length ≤ k := by
  induction h with
  | nil => intro a ha; simp at ha
  | cons h1 h2 h3 _ ih =>
    intro b hb
    rcases List.mem_cons.mp hb with e | e
    · rw [e]; exact ⟨_, h2, by rw [allLen h3]; exact hk _ List.mem_cons_self⟩
    · exact ih (fun ds hds => hk ds (List.mem_cons_of_mem _ hds)) b e
theorem Parts.len {ps : List Addr} {dss : List (List PyData)} (h : Parts K H H' ps dss) : ps.length = dss.length := by
  induction h with
  | nil => rfl
  | cons h1 h2 h3 _ ih => rw [List.length_cons, List.length_cons, ih]
def EvPs (K : PySem.W.Frag) (ta : TA) (σ : L2.St) (H : Hp) (dss : List (List PyData)) : Prop := ∀ H1, Ex H H1 → ∀ Q : List V → Hp → Prop, (∀ ps H2, Ex H1 H2 → Parts K H1 H2 ps dss → Q (ps.map V.ref) H2) → ta σ H1 Q
theorem psNil : EvPs K tNil σ H [] := fun H1 _ Q q => q [] H1 (Ex.refl H1) .nil
theorem psCons {te : TE} {tA : TA} {ds : List PyData} {dss : List (List PyData)} (h : EvN K te σ H ds) (hr : EvPs K tA σ H dss) : EvPs K (tCons te tA) σ H (ds :: dss) := fun H1 e Q q =>
  h H1 e _ fun p xs H2 hp e2 h2 a2 => hr H2 (e.trans e2) _ fun ps H3 e3 pr => q (p :: ps) H3 (e2.trans e3) (.cons hp (e3 p _ h2) (monoA e3 a2) (pr.back e2))
/-- a new list of new lists -/
def NewP (K : PySem.W.Frag) (H : Hp) (Q : VK) (dss : List (List PyData)) : Prop := ∀ p ps H', H p = none → Ex H H' → H' p = some (.lst (ps.map V.ref)) → Parts K H H' ps dss → p ∉ ps → Q (.ref p) H'
theorem Parts.notin {ps : List Addr} {dss : List (List PyData)} {p : Addr} (h : Parts K H H' ps dss) (hp : H' p = none) : p ∉ ps := fun z => by
  have : ∀ {ps : List Addr} {dss : List (List PyData)}, Parts K H H' ps dss → p ∈ ps → False := by
    intro ps dss h
    induction h with
    | nil => intro z; simp at z
    | cons h1 h2 h3 _ ih =>
      intro z
      rcases List.mem_cons.mp z with e | e
      · rw [← e, hp] at h2; cases h2
      · exact ih e
  exact this h z
theorem pLst {tA : TA} {dss : List (List PyData)} {Q : VK} (h : EvPs K tA σ H dss) (hl : dss.length ≤ 100000) (q : NewP K H Q dss) : tLst tA σ H Q :=
  h H (Ex.refl H) _ fun ps H1 e1 pr => ⟨sz_of (by rw [List.length_map, pr.len]; exact hl), fun p hp => q p ps _ (fresh_back e1 hp) (e1.trans (Ex.new hp)) upd_same (pr.mono (Ex.new hp)) (pr.notin hp)⟩
theorem sAsgP {tA : TA} {dss : List (List PyData)} {D : Ends} {i : Nat} (h : EvPs K tA σ H dss) (hl : dss.length ≤ 100000) (k : ∀ p ps H', H p = none → Ex H H' → H' p = some (.lst (ps.map V.ref)) → Parts K H H' ps dss → p ∉ ps → D.nx (σ.set i (some (.ref p))) H') : tAsg (tLst tA) (gName i) D σ H := pLst (Q := fun x H1 => D.nx (σ.set i (some x)) H1) h hl k
theorem nListOf {ta : TE} {r : List V → Hp → VK → Prop} {ds : List PyData} (h : EvD K ta σ H (.list ds)) (hr : r = fun xs H Q => ∃ p ys, xs = [.ref p] ∧ (SqL K H p ys ∨ SqT K H p ys) ∧ ∀ l, H l = none → Q (.ref l) (upd H l (.lst ys))) : EvN K (tCB r (tCons ta tNil)) σ H ds := fun H1 e Q q => by
  subst hr
  refine h H1 e _ fun v H2 e2 hd => ?_
  obtain ⟨a, xs, rfl, hs, hA⟩ := dpList hd
  exact ⟨a, xs, rfl, .inl hs, fun l hl => q l xs _ (fresh_back e2 hl) (e2.trans (Ex.new hl)) upd_same (monoA (Ex.new hl) hA)⟩
/-- u = [..], what is in it told beside it -/
theorem sAsgX {tA : TA} {ds : List PyData} {D : Ends} {i : Nat} (h : EvDA K tA σ H ds) (hl : ds.length ≤ 100000) (k : ∀ u vs H1, H u = none → Ex H H1 → H1 u = some (.lst vs) → DpAll K (rm H1 u) vs ds → D.nx (σ.set i (some (.ref u))) H1) : tAsg (tLst tA) (gName i) D σ H :=
  h H (Ex.refl H) _ fun vs H1 e1 ha => ⟨sz_of (by rw [allLen ha]; exact hl), fun u hu => k u vs _ (fresh_back e1 hu) (e1.trans (Ex.new hu)) upd_same (by rw [rmUpd, rmFree hu]; exact ha)⟩
theorem sAppX {te ta : TE} {u : Addr} {vs : List V} {ds : List PyData} {d : PyData} {D : Ends} (hu : H u = some (.lst vs)) (hA : DpAll K (rm H u) vs ds) (hs : vs.length < 100000) (ht : Ev ta σ H (.ref u)) (h : EvX K te σ H u d)
    (k : ∀ vs' H2, H2 u = some (.lst vs') → DpAll K (rm H2 u) vs' (ds ++ [d]) → (∀ B : Hp, B u = none → Ex B H → Ex B H2) → D.nx σ H2) : tDrop (tBM K "list" rAppend ta (tCons te tNil)) D σ H :=
  ht H (Ex.refl H) _ fun H1 e1 => ⟨.inl ⟨rfl, vs, sq_of (e1 u _ hu)⟩, h H1 e1 ⟨vs, e1 u _ hu⟩ _ fun y H2 e2 hd => ⟨u, vs, y, rfl, rfl, e2 u _ (e1 u _ hu), sz_lt hs, k _ _ upd_same (by
    rw [rmUpd]
    exact allApp (monoA (rmMono (e1.trans e2)) hA) (.cons hd .nil)) fun B hB eB => Ex.mut (eB.trans (e1.trans e2)) hB⟩⟩
theorem sForN {wi : TI} {n : Nat} {o : Nat → PyData} {g : TG} {tb : TS} {D : Ends} (hw : WkN K wi σ H n o) (Pv : Hp → Nat → L2.St → Hp → Prop) (h0 : ∀ B, Ex H B → Pv B 0 σ B) (hG : ∀ B i σ' H', Pv B i σ' H' → Ex B H')
    (hs : ∀ B i x σ' H' H'', Ex H B → i < n → Pv B i σ' H' → Ex H' H'' → Dp K H'' x (o i) → g x σ' H'' fun σ2 H2 => tb { D with nx := Pv B (i + 1), ct := Pv B (i + 1), bk := D.nx } σ2 H2) (hd : ∀ B σ' H', Ex H B → Pv B n σ' H' → D.nx σ' H') : tFor wi g tb D σ H :=
  hw H (Ex.refl H) _ fun J B e w => for_it w (Pv B) (h0 B e) (fun i σ' H' _ p => hG B i σ' H' p) (fun i x σ' H' H'' hi p y => hs B i x σ' H' H'' e hi p y.1 y.2) (fun σ' H' p => hd B σ' H' e p)
theorem gTriple {i j l : Nat} {x : V} {d e f : PyData} {Q : L2.St → Hp → Prop} (h : Dp K H x (.tuple [d, e, f])) (q : ∀ y z u, Dp K H y d → Dp K H z e → Dp K H u f → Q (((σ.set i (some y)).set j (some z)).set l (some u)) H) : gTup K 3 (gCons (gName i) (gCons (gName j) (gCons (gName l) gNil))) x σ H Q := by
  obtain ⟨a, xs, rfl, hs, ha⟩ := dpTuple h
  obtain ⟨y, z, u, rfl, h1, h2, h3⟩ := all3 ha
  exact ⟨a, _, rfl, hs, rfl, y, [z, u], rfl, z, [u], rfl, u, [], rfl, rfl, q y z u h1 h2 h3⟩
end
/-! ### _law_all -/
def allD (n : Nat) (rs ss : List (Nat × Nat)) : List (List PyData) :=
  [msD ((List.range n).filter (memB rs)), (told (memB rs) n).map rD, (told (fun k => !memB rs k) n).map rD, (told (fun k => memB rs k || memB ss k) n).map rD, (told (fun k => memB rs k && memB ss k) n).map rD, (told (fun k => memB rs k && !memB ss k) n).map rD]
def spAll (K : PySem.W.Frag) : Sp := fun vs H Q _ => ∃ (n : Nat) (rs ss : List (Nat × Nat)), DpAll K H vs [.int (n : Int), sD rs, sD ss] ∧ 1 ≤ n ∧ n ≤ 64 ∧ Good n rs ∧ Good n ss ∧ NewP K H Q (allD n rs ss)
/-- a def of the text: its promise, and where it stands -/
structure Def (P : Program) (w : World) (K : PySem.W.Frag) (mg : Str → Option Value) (base : Heap) (k : Nat) (x : Str) (ps : List Str) (sp : Sp) : Prop where
  ex : ∃ f fd, FnOk P w K mg base CX0 k f fd ps sp ∧ mg x = some (.ref f) ∧ PySem.W.keepIn K (.ref f) = true ∧ Binds K fd ps []
section
variable {P : Program} {w : World} {K : PySem.W.Frag} {mg : Str → Option Value} {base : Heap}
end

/-! ### _law_sets -/
theorem outs_gen {α : Type} (f : α → Bool) (h : α → PyData) (d : α) : ∀ xs : List α, outs xs.length (fun i => f (xs.getD i d)) (fun i => h (xs.getD i d)) = (xs.filter f).map h := by
  intro xs
  have key : ∀ xs : List α, ((List.range xs.length).filter (fun i => f (xs.getD i d))).map (fun i => xs.getD i d) = xs.filter f := by
    intro xs
    induction xs with
    | nil => rfl
    | cons x r ih =>
      rw [List.length_cons, List.range_succ_eq_map, List.filter_cons, List.filter_map]
      have e : (List.filter ((fun i => f ((x :: r).getD i d)) ∘ Nat.succ) (List.range r.length)) = List.filter (fun i => f (r.getD i d)) (List.range r.length) := rfl
      rw [e]
      have e2 : ((List.filter (fun i => f (r.getD i d)) (List.range r.length)).map Nat.succ).map (fun i => (x :: r).getD i d) = r.filter f := by
        rw [List.map_map, ← ih]; rfl
      by_cases c : f x = true
      · rw [if_pos (show f ((x :: r).getD 0 d) = true from c), List.map_cons, e2, List.filter_cons, if_pos c]; rfl
      · rw [if_neg (show ¬ f ((x :: r).getD 0 d) = true from c), e2, List.filter_cons, if_neg c]
  unfold outs
  rw [← key xs, List.map_map]; rfl
theorem atLast {α : Type} {xs : List α} {x : α} (h : xs[xs.length - 1]? = some x) (hp : 0 < xs.length) : atI xs (-1) = some x := by
  unfold atI
  rw [ixN_last hp]
  exact h
theorem setCall2 {K : PySem.W.Frag} {d : Addr} {n m i j : Nat} {te : TE} {σ : L2.St} {H : Hp} {Q : VK} (h1 : σ[i]? = some (some (.ref d))) (h2 : σ[j]? = some (some (.int (n : Int)))) (ht : ∀ Q : VK, Q (.int (m : Int)) H → te σ H Q) (hd : DSt H d) (hn : 1 ≤ n ∧ n ≤ 64) (hm : m ≤ 40)
    (k : ∀ (rs : List (Nat × Nat)) p xs H', rs.length ≤ m → Good n rs → H p = none → Dk d H H' → H' p = some (.lst xs) → DpAll K (rm H' d) xs (rs.map rD) → Q (.ref p) H') : tCall (spLSet K) [] E0 (tCons (tVar i) (tCons (tVar j) (tCons te tNil))) σ H Q :=
  ⟨.ref d, h1, .int (n : Int), h2, ht _ ⟨d, n, m, rfl, hd, hn.1, hn.2, hm, fun rs p xs H' hl hg hp D hx ha => k rs p xs H' hl ⟨by omega, hg⟩ hp D hx ha⟩⟩
/-- sets of at most twenty ranges that can be -/
def Sets (n : Nat) (rss : List (List (Nat × Nat))) : Prop := rss.length ≤ 6 ∧ ∀ rs ∈ rss, rs.length ≤ 20 ∧ Good n rs
def ssD (rss : List (List (Nat × Nat))) : PyData := .list (rss.map sD)
theorem can_sD (rs : List (Nat × Nat)) : (sD rs).canLay0 = true := canMap (fun _ => rfl) rs
theorem dep_sD (rs : List (Nat × Nat)) : (sD rs).depth ≤ 2 := by
  have := depMap (f := rD) (k := 1) (fun _ => Nat.le_refl 1) rs
  show PyData.depthAll (rs.map rD) + 1 ≤ 2
  omega
theorem sh_ssD (rss : List (List (Nat × Nat))) : SeqAt.shaped (ssD rss) = true := shList (f := sD) can_sD (fun rs => Nat.le_trans (dep_sD rs) (by decide)) rss
theorem ssD_eqv : ∀ rss : List (List (Nat × Nat)), PyData.eqv (ssD rss) (.list []) = rss.isEmpty
  | [] => eqvSame (d := .list []) rfl
  | rs :: rss => by
    show PyData.eqv (.list (sD rs :: rss.map sD)) (.list []) = false
    simp [PyData.eqv, PyData.eqvAll]
def spSets (K : PySem.W.Frag) : Sp := fun vs H Q _ => ∃ (d : Addr) (n : Nat), vs = [.ref d, .int (n : Int)] ∧ DSt H d ∧ 1 ≤ n ∧ n ≤ 64 ∧
  ∀ (rss : List (List (Nat × Nat))) p xs H', Sets n rss → H p = none → Dk d H H' → H' p = some (.lst xs) → DpAll K (rm H' d) xs (rss.map sD) → Q (.ref p) H'
section
variable {P : Program} {w : World} {K : PySem.W.Frag} {mg : Str → Option Value} {base : Heap}
theorem ok_lsets {f f1 f2 : Addr} {fd fd1 fd2 : FuncData} {k : Nat} (F : Fun K "_law_sets" "_law_sets" sLawSets f fd)
    (F1 : FnOk P w K mg base CX0 (k + 2) f1 fd1 ["_law_d", "_law_most"] spOff) (g1 : mg "_law_off" = some (.ref f1)) (k1 : PySem.W.keepIn K (.ref f1) = true) (b1 : Binds K fd1 ["_law_d", "_law_most"] [])
    (F2 : FnOk P w K mg base CX0 (k + 2) f2 fd2 ["_law_d", "_law_size_here", "_law_most"] (spLSet K)) (g2 : mg "_law_set" = some (.ref f2)) (k2 : PySem.W.keepIn K (.ref f2) = true) (b2 : Binds K fd2 ["_law_d", "_law_size_here", "_law_most"] [])
    (mr : mg "range" = none) : FnOk P w K mg base CX0 (k + 3) f fd ["_law_d", "_law_size_here"] (spSets K) := by
  refine F.ok scLawSets (fun vs H Q E h => ?_) (fun cdv A outer s H vs Q E hr h => ?_)
  · obtain ⟨d, n, rfl, _⟩ := h
    rfl
  · obtain ⟨d, n, rfl, hd, hn1, hn64, q⟩ := h
    have hn : 1 ≤ n ∧ n ≤ 64 := ⟨hn1, hn64⟩
    have nd := scLawSets.nd
    refine ⟨_, pss_cons (ps_set (i := 2) nd rfl (.inl rfl) (pe_lst pa_nil))
      (pss_cons (ps_for PassesOwn.never rfl (pi_range1 (by rfl) mr (pa_cons (pe_call F1 hr (by rfl) g1 k1 b1 .nil pass0 (pa_cons (pv 0) (pa_cons pe_int pa_nil))) pa_nil)) (pg_name (i := 3) nd rfl (.inl rfl))
        (pss_cons (ps_set (i := 4) nd rfl (.inl rfl) (pe_call F2 hr (by rfl) g2 k2 b2 .nil pass0 (pa_cons (pv 0) (pa_cons (pv 1) (pa_cons pe_int pa_nil)))))
        (pss_cut (ps_if (PW.pt (pw_and (pt_cmpR (op_neD hr.units) (pv 2) (pe_lst pa_nil) (nomark _)) (pw_and1 (pt_cmpR op_eq (pe_call F1 hr (by rfl) g1 k1 b1 .nil pass0 (pa_cons (pv 0) (pa_cons pe_int pa_nil))) pe_int (nomark _)))))
          (pss_cons (ps_set (i := 5) nd rfl (.inr rfl) (pe_op op_mul (pe_call F1 hr (by rfl) g1 k1 b1 .nil pass0 (pa_cons (pv 0) (pa_cons (pv 1) pa_nil))) (pe_call F1 hr (by rfl) g1 k1 b1 .nil pass0 (pa_cons (pv 0) (pa_cons pe_int pa_nil)))))
          (pss_one (ps_setLc (i := 4) (own := [("_law_first", 6), ("_law_last", 7)]) (g := gTup K 2 (gCons (gName 6) (gCons (gName 7) gNil))) (tt := tTest (tOp (rI0 fun i j => .bl (decide (i < j))) (tOp (rI0 fun i j => .int (i + j)) (tVar 7) (tVar 5)) (tVar 1))) (te := tTup (tCons (tOp (rI0 fun i j => .int (i + j)) (tVar 6) (tVar 5)) (tCons (tOp (rI0 fun i j => .int (i + j)) (tVar 7) (tVar 5)) tNil))) rfl nd rfl rfl (sw_true rfl rfl rfl (by decide +kernel)) (pi_list (pe_ix ix_list (pv 2) (pe_un un_neg pe_int) (fun _ _ => rfl))) (blkOk_by (own := [("_law_first", 6), ("_law_last", 7)]) (N := nLawSets) (sc := defScope sLawSets) (by decide +kernel))
            (fun _ _ _ _ _ => pg_tup rfl (pgs_cons (pg_name (i := 6) nd rfl (Or.inl rfl)) (pgs_cons (pg_name (i := 7) nd rfl (Or.inl rfl)) pgs_nil))) (fun _ _ _ _ _ => pts_one (pt_cmpR op_lt (pe_op op_add (pv 7) (pv 5)) (pv 1) (nomark _))) (fun _ _ _ _ _ => pe_tup (pa_cons (pe_op op_add (pv 6) (pv 5)) (pa_cons (pe_op op_add (pv 7) (pv 5)) pa_nil)))))) pss_nil)
        (pss_one (ps_expr (pe_bm PySem.F.plainAttrs_list PySem.F.slot_list_append PySem.F.type_list_append mt_append (pv 2) (pa_cons (pv 4) pa_nil)))))))
      (pss_one (ps_ret (pv 2)))), ?_⟩
    refine ⟨Nat.zero_le _, fun l hl => ?_⟩
    have hld : l ≠ d := hd.ne hl
    have D1 := Dk.of hd (Ex.new (o := .lst []) hl)
    have h1 : (upd H l (.lst [])) l = some (.lst []) := upd_same
    generalize upd H l (.lst []) = H1 at D1 h1 ⊢
    refine offCall (d := d) (m := 7) rfl (fun Q q => q) D1.st (by decide) fun t H2 ht0 ht1 D2 => ⟨t, rfl, by omega, by omega, ?_⟩
    refine for_range (lo := 0) (n := t.toNat) (fun i σ' H' => Dk d H H' ∧ (∃ (acc : List V) (rss : List (List (Nat × Nat))), rss.length = i ∧ (∀ rs ∈ rss, rs.length ≤ 20 ∧ Good n rs) ∧ H' l = some (.lst acc) ∧ DpAll K (rm (rm H' d) l) acc (rss.map sD)) ∧ ∃ b3 b4 b5, σ' = [some (.ref d), some (.int (n : Int)), some (.ref l), b3, b4, b5, none, none]) ⟨D1.trans D2, ⟨[], [], rfl, fun _ h => by simp at h, D2.keep hld h1, .nil⟩, none, none, none, rfl⟩ (fun i σ' H3 hi p => ?_) (fun σ' H3 p => ?_)
    · obtain ⟨D3, ⟨acc, rss, hrl, hrs, h3, hA⟩, b3, b4, b5, rfl⟩ := p
      have hi6 : i < 7 := by omega
      refine setCall2 (d := d) (n := n) (m := 20) rfl rfl (fun Q q => q) D3.st hn (by decide) fun rs p1 x1 H4 hl1 g1' hp1 D4 h41 A41 => ?_
      have p1l : p1 ≠ l := Ne.symm (ne_of_none h3 hp1)
      have p1d : p1 ≠ d := D3.st.ne hp1
      have h4l : H4 l = some (.lst acc) := D4.keep hld h3
      have h4ld : (rm H4 d) l = some (.lst acc) := by rw [rmNe hld]; exact h4l
      have hA4 : DpAll K (rm (rm H4 d) l) acc (rss.map sD) := monoA (rmMono D4.ex) hA
      have s1 : Dp K (rm (rm H4 d) l) (.ref p1) (sD rs) := .lst (sq_of (by rw [rmNe p1l, rmNe p1d]; exact h41)) (dpAllRm h4ld _ _ (noLs_map noL_rD rs) A41)
      have dA4 : Dp K H4 (.ref l) (ssD rss) := .lst (sq_of h4l) (monoA rmEx (monoA rmEx hA4))
      have D34 := D3.trans D4
      refine ⟨fun σ' H' => Dk d H H' ∧ H' l = some (.lst acc) ∧ DpAll K (rm (rm H' d) l) acc (rss.map sD) ∧ ∃ (v : V) (rs : List (Nat × Nat)) (b5 : Option V), Dp K (rm (rm H' d) l) v (sD rs) ∧ rs.length ≤ 20 ∧ Good n rs ∧ σ' = [some (.ref d), some (.int (n : Int)), some (.ref l), some (.int (0 + (i : Int))), some v, b5, none, none], ?_, fun σ' H5 hM => ?_⟩
      · -- if found != [] and _law_off(d, 2) == 0
        have stay : ∀ {H' : Hp} {b5 : Option V}, Dk d H4 H' → Dk d H H' ∧ H' l = some (.lst acc) ∧ DpAll K (rm (rm H' d) l) acc (rss.map sD) ∧ ∃ (v : V) (rs' : List (Nat × Nat)) (b5' : Option V), Dp K (rm (rm H' d) l) v (sD rs') ∧ rs'.length ≤ 20 ∧ Good n rs' ∧ ([some (.ref d), some (.int (n : Int)), some (.ref l), some (.int (0 + (i : Int))), some (.ref p1), b5, none, none] : L2.St) = [some (.ref d), some (.int (n : Int)), some (.ref l), some (.int (0 + (i : Int))), some v, b5', none, none] :=
          fun D => ⟨D34.trans D, D.keep hld h4l, monoA (rmMono D.ex) hA4, .ref p1, rs, _, SB.mono (rmMono D.ex) s1, hl1, g1', rfl⟩
        refine neD (K := K) (dVar (i := 2) (σ := [some (.ref d), some (.int (n : Int)), some (.ref l), some (.int (0 + (i : Int))), some (.ref p1), b5, none, none]) (v := .ref l) rfl dA4) (nLst daNil (Nat.zero_le _)).asD (sh_ssD rss) rfl H4 (Ex.refl H4) _ fun H5 e5 => ⟨_, rfl, ?_⟩
        have D45 : Dk d H4 H5 := Dk.of D4.st e5
        refine ite2 (fun c => ?_) (fun c => iteF (stay D45))
        refine offCall (d := d) (m := 2) rfl (fun Q q => q) D45.st (by decide) fun r H6 hr0 hr1 D6 => ⟨rfl, _, rfl, ite2 (fun c2 => ?_) (fun c2 => stay (D45.trans D6))⟩
        have D46 := D45.trans D6
        refine offCall (d := d) (m := (n : Int)) rfl (fun Q q => ⟨.int (n : Int), rfl, q⟩) D6.st ⟨by omega, by omega⟩ fun u H7 hu0 hu1 D7 => ?_
        refine offCall (d := d) (m := 2) rfl (fun Q q => q) D7.st (by decide) fun v H8 hv0 hv1 D8 => ⟨u, v, rfl, rfl, .inl ⟨by omega, by omega⟩, ?_⟩
        have D48 := (D46.trans D7).trans D8
        obtain ⟨by', hby⟩ : ∃ by' : Nat, u * v = (by' : Int) := ⟨(u * v).toNat, (Int.toNat_of_nonneg (Int.mul_nonneg hu0 hv0)).symm⟩
        show gName 5 (.int (u * v)) _ _ _
        rw [hby]
        have hne : rss ≠ [] := fun z => by
          subst z
          rw [ssD_eqv] at c; cases c
        have hpos : 0 < rss.length := List.length_pos_iff.mpr hne
        obtain ⟨ts, hts⟩ : ∃ ts, rss[rss.length - 1]? = some ts := ⟨_, List.getElem?_eq_getElem (by omega)⟩
        have htm := hrs ts (List.mem_of_getElem? hts)
        have h8l : H8 l = some (.lst acc) := D48.keep hld h4l
        have hA8 := monoA (rmMono D48.ex) hA4
        have dA8 : Dp K H8 (.ref l) (ssD rss) := .lst (sq_of h8l) (monoA rmEx (monoA rmEx hA8))
        have N := nLc (K := K) (σ := [some (.ref d), some (.int (n : Int)), some (.ref l), some (.int (0 + (i : Int))), some (.ref p1), some (.int (by' : Int)), none, none]) (H := H8) (g := gTup K 2 (gCons (gName 6) (gCons (gName 7) gNil))) (tt := tTest (tOp (rI0 fun i j => .bl (decide (i < j))) (tOp (rI0 fun i j => .int (i + j)) (tVar 7) (tVar 5)) (tVar 1))) (te := tTup (tCons (tOp (rI0 fun i j => .int (i + j)) (tVar 6) (tVar 5)) (tCons (tOp (rI0 fun i j => .int (i + j)) (tVar 7) (tVar 5)) tNil))) (vs := [6, 7]) (fun j => (fun r : Nat × Nat => decide (((r.2 : Int) + (by' : Int)) < (n : Int))) (ts.getD j (0, 0))) (fun j => (fun r : Nat × Nat => rD (r.1 + by', r.2 + by')) (ts.getD j (0, 0))) (by rw [List.length_map]; omega) (wkNew (dIxL (i := -1) (d := sD ts) (dVar (i := 2) (v := .ref l) rfl dA8) (ev_un ev_c ru_neg) (atLast (by rw [List.length_map, List.getElem?_map, hts]; rfl) (by rw [List.length_map]; exact hpos)))) (fun Dl j x H9 hj e9 hd => by
          rw [List.length_map] at hj
          rw [getD_map rD (List.getElem?_eq_getElem hj)] at hd
          rw [getD_at (0, 0) hj]
          generalize ts[j] = r at hd
          refine ⟨[some (.ref d), some (.int (n : Int)), some (.ref l), some (.int (0 + (i : Int))), some (.ref p1), some (.int (by' : Int)), some (.int (r.1 : Int)), some (.int (r.2 : Int))], fun Q q => gPair hd fun y1 y2 hy1 hy2 => ?_, rfl, et_test (ev_op (ev_op (x := .int (r.2 : Int)) (y := .int (by' : Int)) (ev_var rfl) (ev_var rfl) rv_I0) (ev_var rfl) rv_I0), fun _ => (dTup (da2 (iD (i := ((r.1 + by' : Nat) : Int)) (ev_is (ev_op (x := .int (r.1 : Int)) (y := .int (by' : Int)) (ev_var rfl) (ev_var rfl) rv_I0) (congrArg V.int (by omega)))) (iD (i := ((r.2 + by' : Nat) : Int)) (ev_is (ev_op (x := .int (r.2 : Int)) (y := .int (by' : Int)) (ev_var rfl) (ev_var rfl) rv_I0) (congrArg V.int (by omega))))) (by show 2 ≤ 100000; decide)).x rfl⟩
          cases dpInt hy1
          cases dpInt hy2
          exact q)
        rw [List.length_map, outs_gen (fun r : Nat × Nat => decide (((r.2 : Int) + (by' : Int)) < (n : Int))) (fun r : Nat × Nat => rD (r.1 + by', r.2 + by')) (0, 0) ts] at N
        refine sAsgN N fun p2 x2 H9 hp2 e9 h92 A92 => ?_
        have D9 := D48.trans (Dk.of D48.st e9)
        have p2l : p2 ≠ l := Ne.symm (ne_of_none h8l hp2)
        have p2d : p2 ≠ d := D48.st.ne hp2
        have h9l := e9 l _ h8l
        obtain ⟨us, hus⟩ : ∃ us, us = (ts.filter fun r : Nat × Nat => decide (((r.2 : Int) + (by' : Int)) < (n : Int))).map fun r : Nat × Nat => (r.1 + by', r.2 + by') := ⟨_, rfl⟩
        have A92' : DpAll K H9 x2 (us.map rD) := by rw [hus, List.map_map]; exact A92
        have usl : us.length ≤ ts.length := by rw [hus, List.length_map]; exact List.length_filter_le _ _
        have usg : ∀ r ∈ us, r.1 ≤ r.2 ∧ r.2 < n := fun r hr => by
          rw [hus] at hr
          obtain ⟨z, hz, rfl⟩ := List.mem_map.mp hr
          obtain ⟨z1, z2⟩ := List.mem_filter.mp hz
          have z3 := of_decide_eq_true z2
          have z4 := htm.2.ok z z1
          exact ⟨by show z.1 + by' ≤ z.2 + by'; omega, by show z.2 + by' < n; omega⟩
        obtain ⟨s9, h9d, _⟩ := (Dk.of D48.st e9).st
        refine ⟨D34.trans D9, h9l, monoA (rmMono D9.ex) hA4, .ref p2, us, _, .lst (sq_of (by rw [rmNe p2l, rmNe p2d]; exact h92)) (dpAllRm (by rw [rmNe hld]; exact h9l) _ _ (noLs_map noL_rD us) (dpAllRm h9d _ _ (noLs_map noL_rD us) A92')), by omega, ⟨by have := htm.1; omega, usg⟩, rfl⟩
      · -- found.append(ranges)
        obtain ⟨D5, h5, hA5, v, rs', b5', s5, hl5, g5, rfl⟩ := hM
        refine ⟨.ref l, rfl, .inl ⟨rfl, _, SqL.of h5⟩, v, rfl, l, acc, v, rfl, rfl, h5, sz_lt (by rw [allLen hA, List.length_map]; omega), ?_⟩
        refine ⟨⟨?_, ?_⟩, ⟨acc ++ [v], rss ++ [rs'], ?_, ?_, upd_same, ?_⟩, some (.int (0 + (i : Int))), some v, b5', rfl⟩
        · obtain ⟨s', z1, z2, z3⟩ := D5.st
          exact ⟨s', by rw [upd_ne (Ne.symm hld)]; exact z1, z2, z3⟩
        · rw [rmNew hld]
          exact Ex.mut D5.ex (by rw [rmNe hld]; exact hl)
        · rw [List.length_append, hrl]; rfl
        · intro r hr2
          rcases List.mem_append.mp hr2 with h | h
          · exact hrs r h
          · rw [List.mem_singleton.mp h]; exact ⟨hl5, g5⟩
        · rw [rmNew hld, rmUpd, List.map_append]
          exact allApp hA5 (.cons s5 .nil)
    · obtain ⟨D3, ⟨acc, rss, hrl, hrs, h3, hA⟩, b3, b4, b5, rfl⟩ := p
      exact ⟨.ref l, rfl, q rss l acc H3 ⟨by omega, hrs⟩ hl D3 h3 (monoA rmEx hA)⟩
end

/-! ### texts of bits, tables -/
def bt (b : Bool) : Nat := if b then 49 else 48
def enc (bs : List Bool) : Str := ⟨(bs.map bt).toArray⟩
theorem bt_inj {a b : Bool} (h : bt a = bt b) : a = b := by cases a <;> cases b <;> first | rfl | exact absurd h (by decide)
theorem enc_inj {a b : List Bool} (h : enc a = enc b) : a = b := by
  have h1 : (a.map bt) = (b.map bt) := by
    have := congrArg (fun z : Str => z.cps.toList) h
    simpa [enc] using this
  exact (List.map_inj_right (fun x y z => bt_inj z)).mp h1
theorem enc_len (bs : List Bool) : (enc bs).length = bs.length := by
  show (bs.map bt).toArray.size = bs.length
  rw [List.size_toArray, List.length_map]
def sD' (bs : List Bool) : PyData := .str (enc bs)
theorem enc_app (a b : List Bool) : enc a ++ enc b = enc (a ++ b) := by
  refine congrArg Str.mk ?_
  show (a.map bt).toArray ++ (b.map bt).toArray = _
  rw [List.map_append]; simp
theorem tl_enc (bs : List Bool) : TL.tl (enc bs) = bs.map bt := by
  show (bs.map bt).toArray.toList = _
  simp
theorem str_tl {x y : Str} (h : x.cps.toList = y.cps.toList) : x = y := by
  cases x; cases y
  exact congrArg Str.mk (Array.toList_inj.mp h)
theorem join_enc : ∀ bs : List Bool, Txt.join (enc []) (bs.map fun b => enc [b]) = enc bs := by
  intro bs
  rw [TL.join_eq]
  induction bs with
  | nil => rfl
  | cons b r ih =>
    cases r with
    | nil => rfl
    | cons c r =>
      show enc [b] ++ enc [] ++ Str.join (enc []) ((c :: r).map fun b => enc [b]) = _
      rw [ih, enc_app, enc_app]; rfl
/-- '0' * k -/
def rRepS : R2 := fun x y H Q => ∃ (z : Str) (k : Int), x = .str z ∧ y = .int k ∧ MulOk z k ∧ Q (.str (Txt.mul z k)) H
theorem op_repS {X : Cx} : OpR X (binaryOp .Mult) rRepS := by
  intro pins s σ H x y v u Q I rx ry h
  obtain ⟨z, k, rfl, rfl, hk, q⟩ := h
  obtain ⟨t, rfl⟩ := rx
  obtain ⟨t', rfl⟩ := ry
  exact PySem.SB.mul hk fun t2 kk => ⟨.str (Txt.mul z k), H, I.tok _, ⟨t2, rfl⟩, q⟩
theorem foldl_zeros : ∀ (k : Nat) (acc : Array Nat), (List.replicate k #[48]).foldl (· ++ ·) acc = acc ++ (List.replicate k 48).toArray
  | 0, acc => by simp
  | k + 1, acc => by
    rw [List.replicate_succ, List.foldl_cons, foldl_zeros k, List.replicate_succ]
    refine Array.toList_inj.mp ?_
    simp
theorem mul_zeros {k : Nat} (h : 1 ≤ k) : Txt.mul (enc [false]) (k : Int) = enc (List.replicate k false) := by
  unfold Txt.mul
  rw [if_neg (by omega)]
  by_cases c : k = 1
  · subst c; rfl
  · rw [if_neg (by
      rw [Bool.or_eq_true, beq_iff_eq, beq_iff_eq]
      rintro (z | z)
      · omega
      · exact absurd z (by decide))]
    refine congrArg Str.mk ?_
    show (List.replicate (k : Int).toNat #[48]).foldl (· ++ ·) #[] = _
    rw [foldl_zeros, Int.toNat_natCast, List.map_replicate]
    simp [bt]
theorem mulOk_zeros {k : Nat} (h : k ≤ 64) : MulOk (enc [false]) (k : Int) := by
  refine ⟨?_, fun h1 _ => ?_, fun _ _ => ?_⟩
  · rw [Bool.or_eq_false_iff]
    exact ⟨decide_eq_false (by omega), decide_eq_false (by omega)⟩
  · have : (enc [false]).length = 1 := rfl
    rw [this]
    have hk : 0 < (k : Int) := by omega
    have := Int.le_ediv_of_mul_le hk (show ((1 : Int)) * (k : Int) ≤ 2 ^ 63 - 1 by omega)
    omega
  · have : (enc [false]).length * (k : Int).toNat ≤ 64 := by
      have e : (enc [false]).length = 1 := rfl
      rw [e, Int.toNat_natCast]; omega
    show Builtin.Str.tooLong _ = false
    unfold Builtin.Str.tooLong
    exact decide_eq_false (by show ¬ (sizeLine < _); have : (64 : Nat) ≤ sizeLine := by decide
                              omega)
theorem cut_enc {bs : List Bool} {a w : Nat} (h : a + w ≤ bs.length) : cutS (enc bs) (some (a : Int)) (some ((a + w : Nat) : Int)) = enc ((bs.drop a).take w) := by
  unfold cutS
  rw [HT.sIx_nat, HT.sIx_nat, enc_len, Nat.min_eq_left (by omega), Nat.min_eq_left (by omega)]
  refine congrArg Str.mk ?_
  show (((bs.map bt).toArray.toList.drop a).take (a + w - a)).toArray = _
  rw [show a + w - a = w by omega, List.map_take, List.map_drop]
theorem rgc {n w : Nat} (hn : 1 ≤ n ∧ n ≤ 64) (hw : 1 ≤ w ∧ w ≤ 64) : RgC 0 (n : Int) (w : Int) (SM.cnt n w) := by
  have rs : Builtin.Range.rangeSize 0 (n : Int) (w : Int) = ((SM.cnt n w : Nat) : Int) := by
    unfold Builtin.Range.rangeSize SM.cnt
    rw [if_pos (by omega), if_pos (by omega), show ((n : Int) - 0 - 1) = ((n - 1 : Nat) : Int) by omega]
    omega
  have cl := cnt_le (w := w) hn.1
  refine ⟨by omega, by omega, ?_, rs⟩
  unfold Builtin.Range.small
  rw [rs]
  simp only [Builtin.Range.rangeFitsLong, Bool.and_eq_true, Bool.or_eq_true, decide_eq_true_eq, beq_iff_eq, show ((w : Int) > 0) by omega, if_true]
  omega
theorem wkRange3 {K : PySem.W.Frag} {σ : L2.St} {H : Hp} {tA : TA} {i j c : Int} {n : Nat} (h : EvA tA σ H [.int i, .int j, .int c]) (hb : RgC i j c n) : WkE K (iRng3 tA) σ H n (fun k => .int (i + (k : Nat) * c)) := fun H1 e R q => h H1 e _ fun H2 e2 => by
  refine ⟨i, j, c, n, rfl, hb, q _ H2 e2 (walk_rangeC.mono (fun _ _ => trivial) fun i H3 x H4 _ _ y => ?_)⟩
  obtain ⟨rfl, rfl⟩ := y
  exact ⟨Ex.refl _, .int _⟩

/-! ### _law_table -/
def tabD (n w : Nat) (rss : List (List (Nat × Nat))) : PyData := .tuple [.list ((tab n w (rss.map memB)).1.map fun l => .list (msD l)), .list ((tab n w (rss.map memB)).2.map sD')]
def vS (s : List Bool) : V := .str (enc s)
theorem allStrs {K : PySem.W.Frag} {H : Hp} : ∀ ss : List (List Bool), DpAll K H (ss.map vS) (ss.map sD')
  | [] => .nil
  | s :: ss => .cons (.str _) (allStrs ss)
theorem strsAll {K : PySem.W.Frag} {H : Hp} : ∀ {ss : List (List Bool)} {vs : List V}, DpAll K H vs (ss.map sD') → vs = ss.map vS
  | [], _, h => by cases h; rfl
  | n :: ns, _, h => by
    cases h with
    | cons h1 h2 => rw [dpStr h1, strsAll h2]; rfl
theorem flatStrs (ss : List (List Bool)) : (ss.map vS).all flatV = true := by
  rw [List.all_map]
  exact List.all_eq_true.mpr fun _ _ => rfl
theorem eqStr (a b : List Bool) : eqV (vS a) (vS b) = decide (a = b) := by
  show (enc a == enc b) = decide (a = b)
  rw [Bool.eq_iff_iff, beq_iff_eq, decide_eq_true_eq]
  exact ⟨enc_inj, fun h => by rw [h]⟩
theorem inStrs (s : List Bool) : ∀ rows : List (List Bool), inV (vS s) (rows.map vS) = decide (s ∈ rows)
  | [] => rfl
  | r :: rows => by
    show (eqV (vS r) (vS s) || inV (vS s) (rows.map vS)) = _
    rw [inStrs s rows, eqStr, Bool.eq_iff_iff]
    simp only [Bool.or_eq_true, decide_eq_true_eq, List.mem_cons]
    constructor
    · rintro (h | h)
      · exact .inl h.symm
      · exact .inr h
    · rintro (h | h)
      · exact .inl h.symm
      · exact .inr h
theorem noStrs (ss : List (List Bool)) : noLs (ss.map sD') = true := noLs_map (fun _ => rfl) ss
theorem memB_beyond {n : Nat} {rs : List (Nat × Nat)} (h : Good n rs) : ∀ k, n ≤ k → memB rs k = false := fun k hk => by
  cases hm : memB rs k with
  | false => rfl
  | true => have := memB_lt h.ok hm; omega
theorem tab_succ (n w : Nat) (rss : List (List (Nat × Nat))) (rs : List (Nat × Nat)) : tab n w ((rss ++ [rs]).map memB) = tabF n w (tab n w (rss.map memB)) (memB rs) := by
  unfold tab
  rw [List.map_append, List.foldl_append]; rfl
theorem tab_grow (n w : Nat) : ∀ (ms : List (Nat → Bool)) (t : List (List Nat) × List (List Bool)), (ms.foldl (tabF n w) t).1.length = t.1.length + ms.length ∧ (ms.foldl (tabF n w) t).2.length ≤ t.2.length + ms.length * SM.cnt n w
  | [], t => ⟨rfl, by simp⟩
  | m :: ms, t => by
    have ih := tab_grow n w ms (tabF n w t m)
    have a := puts_len (strc n w m) t.2
    rw [strc_len] at a
    have h1 : (tabF n w t m).1.length = t.1.length + 1 := by
      show (t.1 ++ [_]).length = _
      rw [List.length_append]; rfl
    have h2 : (tabF n w t m).2.length ≤ t.2.length + SM.cnt n w := a
    rw [List.foldl_cons, List.length_cons, Nat.succ_mul]
    exact ⟨by omega, by omega⟩
theorem tab_fits (n w : Nat) (rss : List (List (Nat × Nat))) : (tab n w (rss.map memB)).1.length = rss.length ∧ (tab n w (rss.map memB)).2.length ≤ rss.length * SM.cnt n w := by
  have h := tab_grow n w (rss.map memB) ([], [])
  rw [List.length_map] at h
  exact ⟨by have := h.1; simpa [tab] using this, by have := h.2; simpa [tab] using this⟩
section
variable {P : Program} {w : World} {K : PySem.W.Frag} {mg : Str → Option Value} {base : Heap}
def RTab : List PyData → PyData → Prop := fun ds out => ∃ (n w : Nat) (rss : List (List (Nat × Nat))), ds = [.int (n : Int), ssD rss, .int (w : Int)] ∧ (1 ≤ n ∧ n ≤ 64) ∧ (1 ≤ w ∧ w ≤ 64) ∧ Sets n rss ∧ out = tabD n w rss
end

/-! ### what the functions of tables and classes promise -/
def SetsG (n : Nat) (rss : List (List (Nat × Nat))) : Prop := rss.length ≤ 6 ∧ ∀ rs ∈ rss, Good n rs
theorem Sets.g {n : Nat} {rss : List (List (Nat × Nat))} (h : Sets n rss) : SetsG n rss := ⟨h.1, fun rs hr => (h.2 rs hr).2⟩
def spTab (K : PySem.W.Frag) : Sp := fun vs H Q _ => ∃ (n w : Nat) (rss : List (List (Nat × Nat))), DpAll K H vs [.int (n : Int), ssD rss, .int (w : Int)] ∧ (1 ≤ n ∧ n ≤ 64) ∧ (1 ≤ w ∧ w ≤ n) ∧ SetsG n rss ∧
  ∀ T f r ps H', H T = none → H f = none → H r = none → Ex H H' → H' T = some (.tup [.ref f, .ref r]) → H' f = some (.lst (ps.map V.ref)) → Parts K H H' ps ((tab n w (rss.map memB)).1.map msD) → H' r = some (.lst ((tab n w (rss.map memB)).2.map vS)) → f ∉ ps → r ∉ ps → Q (.ref T) H'
def RLook : List PyData → PyData → Prop := fun ds out => ∃ (n w : Nat) (rss : List (List (Nat × Nat))) (which x : Nat) (rs : List (Nat × Nat)), ds = [.int (n : Int), tabD n w rss, .int (which : Int), .int (x : Int)] ∧ (1 ≤ n ∧ n ≤ 64) ∧ (1 ≤ w ∧ w ≤ n) ∧ SetsG n rss ∧ rss[which]? = some rs ∧ x < n ∧ out = .bool (memB rs x)
section
variable {K : PySem.W.Frag} {σ : L2.St} {H : Hp}
theorem tabData {H' : Hp} {T f r : Addr} {ps : List Addr} {n w : Nat} {rss : List (List (Nat × Nat))} (hT : H' T = some (.tup [.ref f, .ref r])) (hf : H' f = some (.lst (ps.map V.ref))) (hp : Parts K H H' ps ((tab n w (rss.map memB)).1.map msD)) (hr : H' r = some (.lst ((tab n w (rss.map memB)).2.map vS))) : Dp K H' (.ref T) (tabD n w rss) := by
  refine .tup (st_of hT) (.cons (.lst (sq_of hf) ?_) (.cons (.lst (sq_of hr) (allStrs _)) .nil))
  have z := hp.dp
  rw [List.map_map] at z
  exact z
theorem sAsgTab {tA : TA} {n w i : Nat} {rss : List (List (Nat × Nat))} {D : Ends} (h : EvDA K tA σ H [.int (n : Int), ssD rss, .int (w : Int)]) (hn : 1 ≤ n ∧ n ≤ 64) (hw : 1 ≤ w ∧ w ≤ n) (hs : SetsG n rss)
    (k : ∀ T f r ps H', H T = none → H f = none → H r = none → Ex H H' → H' T = some (.tup [.ref f, .ref r]) → H' f = some (.lst (ps.map V.ref)) → Parts K H H' ps ((tab n w (rss.map memB)).1.map msD) → H' r = some (.lst ((tab n w (rss.map memB)).2.map vS)) → f ∉ ps → r ∉ ps → D.nx (σ.set i (some (.ref T))) H') : tAsg (tCall (spTab K) [] E0 tA) (gName i) D σ H :=
  h H (Ex.refl H) _ fun vs H2 e2 ha => ⟨n, w, rss, by rw [List.append_nil]; exact ha, hn, hw, hs, fun T f r ps H3 hT hf hr e3 h3 h4 pr h5 n1 n2 => k T f r ps H3 (fresh_back e2 hT) (fresh_back e2 hf) (fresh_back e2 hr) (e2.trans e3) h3 h4 (pr.back e2) h5 n1 n2⟩
theorem vTab {tA : TA} {n w : Nat} {rss : List (List (Nat × Nat))} (h : EvDA K tA σ H [.int (n : Int), ssD rss, .int (w : Int)]) (hn : 1 ≤ n ∧ n ≤ 64) (hw : 1 ≤ w ∧ w ≤ n) (hs : SetsG n rss) : EvD K (tCall (spTab K) [] E0 tA) σ H (tabD n w rss) := fun H1 e Q q =>
  h H1 e _ fun vs H2 e2 ha => ⟨n, w, rss, by rw [List.append_nil]; exact ha, hn, hw, hs, fun T f r ps H3 hT hf hr e3 h3 h4 pr h5 n1 n2 => q _ H3 (e2.trans e3) (tabData h3 h4 pr h5)⟩
theorem dIxT {ta tb : TE} {ds : List PyData} {d : PyData} {i : Int} (ha : EvD K ta σ H (.tuple ds)) (hb : Ev tb σ H (.int i)) (h : atI ds i = some d) : EvD K (tOp (rIxT K) ta tb) σ H d := fun H1 a Q q =>
  ha H1 a _ fun v H2 e2 hd => hb H2 (a.trans e2) _ fun H3 e3 => by
    obtain ⟨p, xs, rfl, hs, hA⟩ := dpTuple (SB.mono e3 hd)
    have key : ∃ x, atI xs i = some x ∧ Dp K H3 x d := by
      have hl := allLen hA
      unfold atI at h ⊢
      rw [hl]
      cases q : ixN ds.length i with
      | none => rw [q] at h; cases h
      | some j => rw [q] at h; exact allGet hA h
    obtain ⟨x, hx, hdx⟩ := key
    exact ⟨p, xs, i, x, rfl, rfl, hs, hx, q x H3 (e2.trans e3) hdx⟩
theorem evAlike {tA : TA} {d : PyData} {k : Nat} (h : EvDA K tA σ H [d, d]) (hw : wide d = true) (hd : d.depth < k) : Ev (tCall (spAlike K k) [] E0 tA) σ H (.bl true) := fun H1 e Q q =>
  h H1 e _ fun vs H2 e2 ha => ⟨d, by rw [List.append_nil]; exact ha, hw, hd, fun H3 e3 => q H3 (e2.trans e3)⟩
end
theorem msD_len (ms : List Nat) : (msD ms).length = ms.length := List.length_map ..
theorem widesAll {α : Type} {f : α → PyData} : ∀ {xs : List α}, (∀ x ∈ xs, wide (f x) = true) → wides (xs.map f) = true
  | [], _ => rfl
  | x :: xs, h => by
    show (wide (f x) && wides (xs.map f)) = true
    rw [h x List.mem_cons_self, widesAll fun z hz => h z (List.mem_cons_of_mem _ hz)]; rfl
theorem wideAll {α : Type} {f : α → PyData} {xs : List α} (hl : xs.length ≤ 1000) (h : ∀ x ∈ xs, wide (f x) = true) : wide (.list (xs.map f)) = true := by
  show (decide ((xs.map f).length ≤ 1000) && wides (xs.map f)) = true
  rw [List.length_map, decide_eq_true hl, widesAll h]; rfl
theorem tab_inner (n w : Nat) : ∀ (ms : List (Nat → Bool)) (t : List (List Nat) × List (List Bool)), (∀ l ∈ t.1, l.length = SM.cnt n w) → ∀ l ∈ (ms.foldl (tabF n w) t).1, l.length = SM.cnt n w
  | [], _, h => h
  | m :: ms, t, h => tab_inner n w ms (tabF n w t m) fun l hl => by
    rcases List.mem_append.mp hl with e | e
    · exact h l e
    · rw [List.mem_singleton.mp e, List.length_map, strc_len]
theorem tabD_wide {n w : Nat} (hn : 1 ≤ n ∧ n ≤ 64) {rss : List (List (Nat × Nat))} (hs : rss.length ≤ 6) : wide (tabD n w rss) = true := by
  have cl : SM.cnt n w ≤ 64 := Nat.le_trans (cnt_le hn.1) hn.2
  have hf := tab_fits n w rss
  have h1 : (tab n w (rss.map memB)).2.length ≤ 384 := Nat.le_trans hf.2 (Nat.mul_le_mul hs cl)
  have a : wide (.list ((tab n w (rss.map memB)).1.map fun l => .list (msD l))) = true := wideAll (by rw [hf.1]; omega) fun l hl => wideAll (by
    have := tab_inner n w (rss.map memB) ([], []) (fun _ h => by simp at h) l hl
    omega) fun _ _ => rfl
  have b : wide (.list ((tab n w (rss.map memB)).2.map sD')) = true := wideAll (by omega) fun _ _ => rfl
  show (decide (2 ≤ 1000) && (wide _ && (wide _ && true))) = true
  rw [a, b]; rfl
theorem tabD_depth (n w : Nat) (rss : List (List (Nat × Nat))) : (tabD n w rss).depth < 4 := by
  have a := depMap (f := fun l : List Nat => PyData.list (msD l)) (k := 1) (fun l => by
    have := depMap (f := iD') (k := 0) (fun _ => Nat.le_refl 0) l
    show PyData.depthAll (l.map iD') + 1 ≤ 1
    omega) (tab n w (rss.map memB)).1
  have b := depMap (f := sD') (k := 0) (fun _ => Nat.le_refl 0) (tab n w (rss.map memB)).2
  show max (PyData.depthAll _ + 1) (max (PyData.depthAll _ + 1) 0) + 1 < 4
  omega

/-! ### what the functions of classes promise -/
def RRow : List PyData → List PyData → Prop := fun ds o => ∃ (n : Nat) (rss : List (List (Nat × Nat))), ds = [.int (n : Int), ssD rss] ∧ (1 ≤ n ∧ n ≤ 64) ∧ SetsG n rss ∧ o = msD (rowF rss n)
def spP (K : PySem.W.Frag) (f : Nat → List (List (Nat × Nat)) → List (List PyData)) : Sp := fun vs H Q _ => ∃ (n : Nat) (rss : List (List (Nat × Nat))), DpAll K H vs [.int (n : Int), ssD rss] ∧ (1 ≤ n ∧ n ≤ 64) ∧ SetsG n rss ∧ NewP K H Q (f n rss)
def clsD (n : Nat) (rss : List (List (Nat × Nat))) : List (List PyData) := (clsF rss n).map fun l => l.map rD
def evD (n : Nat) (rss : List (List (Nat × Nat))) : List (List PyData) := (evF rss n).map msD
section
variable {K : PySem.W.Frag} {σ : L2.St} {H : Hp}
theorem vP {f : Nat → List (List (Nat × Nat)) → List (List PyData)} {tA : TA} {n : Nat} {rss : List (List (Nat × Nat))} (h : EvDA K tA σ H [.int (n : Int), ssD rss]) (hn : 1 ≤ n ∧ n ≤ 64) (hs : SetsG n rss) : EvD K (tCall (spP K f) [] E0 tA) σ H (.list ((f n rss).map PyData.list)) := fun H1 e Q q =>
  h H1 e _ fun vs H2 e2 ha => ⟨n, rss, by rw [List.append_nil]; exact ha, hn, hs, fun p ps H3 hp e3 h3 pr np => q _ H3 (e2.trans e3) (.lst (sq_of h3) pr.dp)⟩
theorem pCall {f : Nat → List (List (Nat × Nat)) → List (List PyData)} {tA : TA} {n : Nat} {rss : List (List (Nat × Nat))} {Q : VK} (h : EvDA K tA σ H [.int (n : Int), ssD rss]) (hn : 1 ≤ n ∧ n ≤ 64) (hs : SetsG n rss) (q : NewP K H Q (f n rss)) : tCall (spP K f) [] E0 tA σ H Q :=
  h H (Ex.refl H) _ fun vs H2 e2 ha => ⟨n, rss, by rw [List.append_nil]; exact ha, hn, hs, fun p ps H3 hp e3 h3 pr np => q p ps H3 (fresh_back e2 hp) (e2.trans e3) h3 (pr.back e2) np⟩
theorem lenE {te : TE} {ds : List PyData} {r : List V → Hp → VK → Prop} (h : EvD K te σ H (.list ds)) (hr : r = fun xs H Q => ∃ p ys, xs = [.ref p] ∧ (SqL K H p ys ∨ SqT K H p ys) ∧ Q (.int ys.length) H) : Ev (tCB r (tCons te tNil)) σ H (.int (ds.length : Int)) := fun H1 e Q q => by
  subst hr
  refine h H1 e _ fun v H2 e2 hd => ?_
  obtain ⟨a, xs, rfl, hs, ha⟩ := dpList hd
  exact ⟨a, xs, rfl, .inl hs, by rw [allLen ha]; exact q H2 e2⟩
end
theorem sg_len (rss : List (List (Nat × Nat))) (k : Nat) : (sg rss k).length = rss.length := by unfold sg; rw [List.length_map]
theorem UN_at {rss : List (List (Nat × Nat))} {n c : Nat} (h : c < (UN rss n).length) : ((UN rss n).getD c []).length = rss.length := by
  rw [getD_at [] h]
  obtain ⟨k, _, e⟩ := mem_UN.mp (List.getElem_mem h)
  rw [← e, sg_len]
theorem bit_eq (b : Bool) : decide (V.str ⟨#[bt b]⟩ = V.str (PySem.Str.ofString "1")) = b := by
  cases b <;> decide +kernel
/-- the three answers together -/
def ansD (rss : List (List (Nat × Nat))) (n : Nat) : PyData := .list [.list (msD (rowF rss n)), .list ((clsF rss n).map fun l => .list (l.map rD)), .list ((evF rss n).map fun l => .list (msD l))]
theorem ansD_wide {n : Nat} (hn : 1 ≤ n ∧ n ≤ 64) {rss : List (List (Nat × Nat))} (hs : rss.length ≤ 6) : wide (ansD rss n) = true := by
  have ul := UN_len rss n
  have a : wide (.list (msD (rowF rss n))) = true := wideAll (by unfold rowF SG; rw [List.length_map, List.length_map, List.length_range]; omega) fun _ _ => rfl
  have b : wide (.list ((clsF rss n).map fun l => .list (l.map rD))) = true := wideAll (by unfold clsF; rw [List.length_map, List.length_range]; omega) fun l hl => wideAll (by
    unfold clsF at hl
    obtain ⟨c, _, rfl⟩ := List.mem_map.mp hl
    have := told_len (fun k => decide ((rowF rss n).getD k 0 = c)) n
    omega) fun _ _ => rfl
  have c : wide (.list ((evF rss n).map fun l => .list (msD l))) = true := wideAll (by unfold evF; rw [List.length_map, List.length_range]; omega) fun l hl => wideAll (by
    unfold evF at hl
    obtain ⟨c, _, rfl⟩ := List.mem_map.mp hl
    have := List.length_filter_le (fun c' => ((UN rss n).getD c' []).getD c false) (List.range (UN rss n).length)
    rw [List.length_range] at this
    omega) fun _ _ => rfl
  show (decide (3 ≤ 1000) && (wide _ && (wide _ && (wide _ && true)))) = true
  rw [a, b, c]; rfl
theorem ansD_depth (rss : List (List (Nat × Nat))) (n : Nat) : (ansD rss n).depth < 5 := by
  have a := depMap (f := iD') (k := 0) (fun _ => Nat.le_refl 0) (rowF rss n)
  have b := depMap (f := fun l : List (Nat × Nat) => PyData.list (l.map rD)) (k := 2) (fun l => by
    have := depMap (f := rD) (k := 1) (fun _ => Nat.le_refl 1) l
    show PyData.depthAll (l.map rD) + 1 ≤ 2
    omega) (clsF rss n)
  have c := depMap (f := fun l : List Nat => PyData.list (msD l)) (k := 1) (fun l => by
    have := depMap (f := iD') (k := 0) (fun _ => Nat.le_refl 0) l
    show PyData.depthAll (l.map iD') + 1 ≤ 1
    omega) (evF rss n)
  show max (PyData.depthAll ((rowF rss n).map iD') + 1) (max (PyData.depthAll _ + 1) (max (PyData.depthAll _ + 1) 0)) + 1 < 5
  omega

/-! ### row_of, class_row -/
def EsR : List SE.En → List (List Bool) → Nat → Prop
  | [], [], _ => True
  | e :: es, r :: rs, i => e.1 = r ∧ e.2.2 = (i : Int) ∧ EsR es rs (i + 1)
  | _, _, _ => False
theorem EsR.len : ∀ {es : List SE.En} {rs : List (List Bool)} {i : Nat}, EsR es rs i → es.length = rs.length
  | [], [], _, _ => rfl
  | e :: es, r :: rs, i, h => by rw [List.length_cons, List.length_cons, EsR.len h.2.2]
  | [], _ :: _, _, h => h.elim
  | _ :: _, [], _, h => h.elim
theorem EsR.no {s : List Bool} : ∀ {es : List SE.En} {rs : List (List Bool)} {i : Nat}, EsR es rs i → s ∉ rs → SE.lookB es s = none
  | [], [], _, _, _ => rfl
  | e :: es, r :: rs, i, h, hs => by
    have c : ¬ e.1 = s := fun z => hs (by rw [← z, h.1]; exact List.mem_cons_self)
    have ih := EsR.no h.2.2 (fun z => hs (List.mem_cons_of_mem _ z))
    unfold SE.lookB at ih ⊢
    rw [List.find?_cons, decide_eq_false c]; exact ih
  | [], _ :: _, _, h, _ => h.elim
  | _ :: _, [], _, h, _ => h.elim
theorem EsR.yes {s : List Bool} : ∀ {es : List SE.En} {rs : List (List Bool)} {i : Nat}, EsR es rs i → s ∈ rs → SE.lookB es s = some ((i + rs.idxOf s : Nat) : Int)
  | [], [], _, _, h => by simp at h
  | e :: es, r :: rs, i, h, hs => by
    by_cases c : r = s
    · have c' : e.1 = s := h.1.trans c
      unfold SE.lookB
      rw [List.find?_cons, decide_eq_true c', List.idxOf_cons, show (r == s) = true from beq_iff_eq.mpr c]
      show some e.2.2 = some ((i + 0 : Nat) : Int)
      rw [h.2.1]; rfl
    · have c' : ¬ e.1 = s := fun z => c (h.1.symm.trans z)
      rcases List.mem_cons.mp hs with z | z
      · exact absurd z.symm c
      · have ih := EsR.yes h.2.2 z
        unfold SE.lookB at ih ⊢
        rw [List.find?_cons, decide_eq_false c', List.idxOf_cons, show (r == s) = false from beq_eq_false_iff_ne.mpr c]
        show (es.find? _).map _ = some ((i + (rs.idxOf s + 1) : Nat) : Int)
        rw [ih, show i + 1 + rs.idxOf s = i + (rs.idxOf s + 1) by omega]
  | [], _ :: _, _, h, _ => h.elim
  | _ :: _, [], _, h, _ => h.elim
theorem EsR.app {s : List Bool} {b : Addr} : ∀ {es : List SE.En} {rs : List (List Bool)} {i : Nat}, EsR es rs i → EsR (es ++ [(s, b, ((i + rs.length : Nat) : Int))]) (rs ++ [s]) i
  | [], [], _, _ => ⟨rfl, rfl, trivial⟩
  | e :: es, r :: rs, i, h => by
    have ih := EsR.app (s := s) (b := b) h.2.2
    refine ⟨h.1, h.2.1, ?_⟩
    rw [show i + (r :: rs).length = i + 1 + rs.length by rw [List.length_cons]; omega]
    exact ih
  | [], _ :: _, _, h => h.elim
  | _ :: _, [], _, h => h.elim
theorem Keys.mono {H H' : Hp} {es : List SE.En} (e : Ex H H') (h : SE.Keys H es) : SE.Keys H' es := fun x hx => e _ _ (h x hx)
theorem Keys.upd {H : Hp} {es : List SE.En} {a : Addr} {o o' : HO} (h : SE.Keys H es) (ha : H a = some o) (hn : ∀ xs, HO.tup xs ≠ o) : SE.Keys (upd H a o') es := fun x hx => by
  rw [upd_ne (ne_of (h x hx) ha (hn _))]
  exact h x hx
theorem uTuple {K : PySem.W.Frag} {σ : L2.St} {H : Hp} {te : TE} {r : List V → Hp → VK → Prop} {bs : List Bool} (h : EvN K te σ H (bs.map PyData.bool)) (hr : r = fun xs H Q => ∃ p ys, xs = [.ref p] ∧ ((SqL K H p ys ∧ ∀ l, H l = none → Q (.ref l) (upd H l (.tup ys))) ∨ (SqT K H p ys ∧ Q (.ref p) H))) : EvU (tCB r (tCons te tNil)) σ H (bs.map V.bl) := fun H1 e1 Q q => by
  subst hr
  refine h H1 e1 _ fun p xs H2 _ e2 h2 A2 => ?_
  have hx := blsOfAll A2
  subst hx
  exact ⟨p, _, rfl, .inl ⟨sq_of h2, fun b hb => q b _ (fresh_back e2 hb) (e2.trans (Ex.new hb)) upd_same⟩⟩
section
variable {P : Program} {w : World} {K : PySem.W.Frag} {mg : Str → Option Value} {base : Heap}
def RRowOf : List PyData → List PyData → Prop := fun ds o => ∃ (n : Nat) (rss : List (List (Nat × Nat))), ds = [.int (n : Int), .list (rss.map (mD n))] ∧ (1 ≤ n ∧ n ≤ 64) ∧ rss.length ≤ 100 ∧ o = msD (rowF rss n)
theorem ok_rowOf {f : Addr} {fd : FuncData} {k : Nat} (F : Fun K "row_of" "row_of" sRowOf f fd) (mr : mg "range" = none) (ml : mg "len" = none) (mT : mg "tuple" = none) : FnOk P w K mg base CX0 (k + 1) f fd ["size", "all_marks"] (spN K RRowOf) := by
  refine F.ok scRowOf (fun vs H Q E h => ?_) (fun cdv A outer s H vs Q E hr h => ?_)
  · obtain ⟨ds, out, ha, ⟨n, rss, rfl, _⟩, _⟩ := h
    exact allLen ha
  · obtain ⟨ds, out, ha, ⟨n, rss, rfl, hn, hs, rfl⟩, q⟩ := h
    obtain ⟨x, y, rfl, hx, hy⟩ := all2 ha
    cases dpInt hx
    have nd := scRowOf.nd
    have hu := hu_of hr
    refine ⟨_, pss_cons (ps_set (i := 2) nd rfl (.inl rfl) SE.pe_newB) (pss_cons (ps_set (i := 3) nd rfl (.inl rfl) (pe_lst pa_nil))
      (pss_cons (ps_for PassesOwn.never rfl (pi_range1 (by rfl) mr (pa_cons (pv 0) pa_nil)) (pg_name (i := 4) nd rfl (.inr rfl))
        (pss_cons (ps_set (i := 5) nd rfl (.inl rfl) (pe_callTy call_tuple_of (by rfl) mT (by decide +kernel) (pa_cons (pe_lc (own := [("marks", 6)]) (g := gName 6) (tt := tYes) (te := tOp (rIxL K) (tVar 6) (tVar 4)) rfl nd (pi_list (pv 1)) (blkOk_by (own := [("marks", 6)]) (N := nRowOf) (sc := defScope sRowOf) (by decide +kernel))
          (fun _ _ _ _ _ => pg_name (i := 6) nd rfl (Or.inl rfl)) (fun _ _ _ _ _ => pts_nil) (fun _ _ _ _ _ => pe_ix ix_list (pv 6) (pv 4) (fun _ _ => rfl))) pa_nil)))
        (pss_one (ps_expr (pe_bm PySem.F.plainAttrs_list PySem.F.slot_list_append PySem.F.type_list_append mt_append (pv 3) (pa_cons (SE.pe_setB hu (pv 2) (pv 5) (pe_callB SE.cr_lenB (by rfl) ml PySem.boot_len (pa_cons (pv 2) pa_nil)) ⟨rfl, rfl, rfl, rfl⟩) pa_nil))))))
      (pss_one (ps_ret (pv 3))))), ?_⟩
    intro d0 hd0
    refine ⟨Nat.zero_le _, fun l0 hl0 => ?_⟩
    have hl0' : H l0 = none := fresh_back (Ex.new hd0) hl0
    have hld : l0 ≠ d0 := fun z => by rw [z, upd_same] at hl0; cases hl0
    have E2 : Ex H (upd (upd H d0 (SE.DBO P w d0 [])) l0 (.lst [])) := (Ex.new hd0).trans (Ex.new hl0)
    have h2d : (upd (upd H d0 (SE.DBO P w d0 [])) l0 (.lst [])) d0 = some (SE.DBO P w d0 []) := by rw [upd_ne (Ne.symm hld), upd_same]
    have h2l : (upd (upd H d0 (SE.DBO P w d0 [])) l0 (.lst [])) l0 = some (.lst []) := upd_same
    show tFor (iRng1 (tCons (tVar 0) tNil)) (gName 4) _ _ [some (.int (n : Int)), some y, some (.ref d0), some (.ref l0), none, none, none] (upd (upd H d0 (SE.DBO P w d0 [])) l0 (.lst []))
    generalize upd (upd H d0 (SE.DBO P w d0 [])) l0 (.lst []) = H2 at E2 h2d h2l ⊢
    refine s_forR1 (n := (n : Int)) (ea_cons (ev_var rfl) ea_nil) ⟨by omega, by omega⟩ (fun i σ' H' => Ex H H' ∧ (∃ es, H' d0 = some (SE.DBO P w d0 es) ∧ SE.Keys H' es ∧ EsR es (UN rss i) 0) ∧ H' l0 = some (.lst ((List.range i).map fun k => V.int ((UN rss n).idxOf (sg rss k) : Nat))) ∧ ∃ b4 b5, σ' = [some (.int (n : Int)), some y, some (.ref d0), some (.ref l0), b4, b5, none])
      (fun H3 e => ⟨E2.trans e, ⟨[], e d0 _ h2d, fun _ h => by simp at h, trivial⟩, e l0 _ h2l, none, none, rfl⟩) (fun i σ' H' hi p => ?_) (fun σ' H' p => ?_)
    · obtain ⟨e0, ⟨es, kd, kk, kE⟩, kl, b4, b5, rfl⟩ := p
      have hi' : i < n := by omega
      have N1 := nLc (K := K) (σ := [some (.int (n : Int)), some y, some (.ref d0), some (.ref l0), some (.int (i : Int)), b5, none]) (H := H') (wi := iList K (tVar 1)) (g := gName 6) (tt := tYes) (te := tOp (rIxL K) (tVar 6) (tVar 4)) (vs := [6]) (fun _ => true) (fun j => .bool (memB (rss.getD j []) i)) (by rw [List.length_map]; omega) (wkList (ev_var (v := y) rfl) (SB.mono e0 hy)).asN (fun Dl j v Hz hj ez hd => by
        rw [List.length_map] at hj
        rw [getD_map (mD n) (List.getElem?_eq_getElem hj)] at hd
        rw [getD_at [] hj]
        refine ⟨[some (.int (n : Int)), some y, some (.ref d0), some (.ref l0), some (.int (i : Int)), b5, some v], fun Q q => q, rfl, et_yes, fun _ => EvD.x (dIxL (i := (i : Int)) (dVar (v := v) rfl hd) (ev_var rfl) (atI_nat ?_)) rfl⟩
        show (bls n (memB rss[j]))[i]? = _
        unfold bls
        rw [List.getElem?_map, List.getElem?_range hi']; rfl)
      rw [outs_all, List.length_map, range_getD (fun rs => PyData.bool (memB rs i)) [] rss, show rss.map (fun rs => PyData.bool (memB rs i)) = (sg rss i).map PyData.bool by unfold sg; rw [List.map_map]; rfl] at N1
      refine q_asgU (uTuple N1 rfl) fun b H4 hb e4 h4b => ?_
      have hb0 : H b = none := fresh_back e0 hb
      have k4d := e4 d0 _ kd
      have k4l := e4 l0 _ kl
      have k4k := Keys.mono e4 kk
      have hbd : b ≠ d0 := ne_of h4b k4d (by intro z; cases z)
      have esl : es.length ≤ 1000 := by
        rw [kE.len]
        have := UN_len rss i
        omega
      have pre := UN_pre rss (show i + 1 ≤ n by omega)
      have us := UN_succ rss i
      refine ⟨.ref l0, rfl, .inl ⟨rfl, _, sq_of k4l⟩, .ref d0, rfl, d0, es, rfl, k4d, k4k, .ref b, rfl, .ref d0, rfl, d0, es, rfl, k4d, k4k, esl, sg rss i, b, (es.length : Int), rfl, rfl, h4b, k4d, k4k, esl, fun j hj => ?_, fun hn' => ?_⟩
      · have hm : sg rss i ∈ UN rss i := Classical.byContradiction fun z => by rw [kE.no z] at hj; cases hj
        rw [kE.yes hm, Nat.zero_add] at hj
        have ej : j = ((UN rss n).idxOf (sg rss i) : Nat) := by rw [idx_pre (UN_pre rss (show i ≤ n by omega)) hm]; exact (Option.some.inj hj).symm
        subst ej
        refine ⟨l0, _, _, rfl, rfl, k4l, sz_lt (by rw [List.length_map, List.length_range]; omega), Ex.mut (e0.trans e4) hl0', ⟨es, by rw [upd_ne (Ne.symm hld)]; exact k4d, Keys.upd k4k k4l (fun _ z => by cases z), ?_⟩, ?_, _, _, rfl⟩
        · rw [us]; unfold put
          rw [if_pos (decide_eq_true hm)]; exact kE
        · rw [upd_same, List.range_succ, List.map_append]; rfl
      · have hm : sg rss i ∉ UN rss i := fun z => by rw [kE.yes z] at hn'; cases hn'
        have hp' : put (UN rss i) (sg rss i) = UN rss i ++ [sg rss i] := by unfold put; rw [if_neg (by rw [decide_eq_false hm]; decide)]
        have ej : (es.length : Int) = ((UN rss n).idxOf (sg rss i) : Nat) := by
          rw [idx_pre pre (by rw [us, hp']; exact List.mem_append_right _ (List.mem_singleton.mpr rfl)), us, hp', idx_new hm, kE.len]
        refine ⟨l0, _, _, rfl, rfl, by rw [upd_ne hld]; exact k4l, sz_lt (by rw [List.length_map, List.length_range]; omega), Ex.mut (Ex.mut (e0.trans e4) hd0) hl0', ⟨es ++ [(sg rss i, b, (es.length : Int))], by rw [upd_ne (Ne.symm hld), upd_same]; rfl, ?_, ?_⟩, ?_, _, _, rfl⟩
        · refine Keys.upd (a := l0) (o := .lst ((List.range i).map fun k => V.int ((UN rss n).idxOf (sg rss k) : Nat))) ?_ (by rw [upd_ne hld]; exact k4l) (fun _ z => by cases z)
          intro e he
          rcases List.mem_append.mp he with z | z
          · exact Keys.upd k4k k4d (fun _ z => by cases z) e z
          · rw [List.mem_singleton.mp z, upd_ne hbd]; exact h4b
        · rw [us, hp', kE.len]
          have z := EsR.app (s := sg rss i) (b := b) kE
          rw [Nat.zero_add] at z
          exact z
        · rw [upd_same, List.range_succ, List.map_append, ej]; rfl
    · obtain ⟨e0, _, kl, b4, b5, rfl⟩ := p
      rw [Int.toNat_natCast] at kl
      refine ⟨.ref l0, rfl, q l0 _ H' hl0' e0 kl ?_⟩
      have z := allOfInts (K := K) (H := H') ((rowF rss n).map fun k : Nat => (k : Int))
      rw [← msD_int, List.map_map, rowF_get, List.map_map] at z
      rw [rowF_get]
      exact z
theorem ok_row {f f1 f2 : Addr} {fd fd1 fd2 : FuncData} {k : Nat} (F : Fun K "class_row" "class_row" sClassRow f fd)
    (F1 : FnOk P w K mg base CX0 (k + 2) f1 fd1 ["size", "sets"] (spN K RChecked)) (g1 : mg "checked_marks" = some (.ref f1)) (k1 : PySem.W.keepIn K (.ref f1) = true) (b1 : Binds K fd1 ["size", "sets"] [])
    (F2 : FnOk P w K mg base CX0 (k + 2) f2 fd2 ["size", "all_marks"] (spN K RRowOf)) (g2 : mg "row_of" = some (.ref f2)) (k2 : PySem.W.keepIn K (.ref f2) = true) (b2 : Binds K fd2 ["size", "all_marks"] []) :
    FnOk P w K mg base CX0 (k + 3) f fd ["size", "sets"] (spN K RRow) := by
  refine F.ok scClassRow (fun vs H Q E h => ?_) (fun cdv A outer s H vs Q E hr h => ?_)
  · obtain ⟨ds, out, ha, ⟨n, rss, rfl, _⟩, _⟩ := h
    exact allLen ha
  · obtain ⟨ds, out, ha, ⟨n, rss, rfl, hn, hs, rfl⟩, q⟩ := h
    obtain ⟨x, y, rfl, hx, hy⟩ := all2 ha
    cases dpInt hx
    refine ⟨_, pss_one (ps_ret (pe_call F2 hr (by rfl) g2 k2 b2 .nil pass0 (pa_cons (pv 0) (pa_cons (pe_call F1 hr (by rfl) g1 k1 b1 .nil pass0 (pa_cons (pv 0) (pa_cons (pv 1) pa_nil))) pa_nil)))), ?_⟩
    have hs6 := hs.1
    exact sRetN (nCall (R := RRowOf) (da2 (dVar rfl (.int (n : Int))) (nCall (R := RChecked) (da2 (dVar rfl (.int (n : Int))) (dVar (v := y) rfl hy)) ⟨n, rss, rfl, hn.1, hn.2, by omega, hs.2, rfl⟩).asD) ⟨n, rss, rfl, hn, by omega, rfl⟩) q
end

/-! ### classes, by_classes -/
def outCls : Scope := { kind := .function, names := [(".0", .local), ("number", .cell), ("ranges_of", .globalImplicit), ("row", .cell)], isGenerator := false, isCoroutine := false }
section
variable {K : PySem.W.Frag} {σ : L2.St} {H : Hp}
/-- a list of new lists by a comprehension -/
theorem pLc {wi : TI} {g : TG} {te : TE} {n : Nat} {o : Nat → PyData} {vs : List Nat} {Q : VK} (dss : Nat → List PyData) (hn : n ≤ 50000) (hw : WkN K wi σ H n o) (hl : ∀ i, noLs (dss i) = true)
    (ht : ∀ i x H', i < n → Ex H H' → Dp K H' x (o i) → ∃ σ2, (∀ Q : L2.St → Hp → Prop, Q σ2 H' → g x (wipe σ vs) H' Q) ∧ wipe σ2 vs = wipe σ vs ∧ EvN K te σ2 H' (dss i)) (q : NewP K H Q ((List.range n).map dss)) : tLc wi g tYes te vs σ H Q :=
  hw H (Ex.refl H) _ fun J H2 e2 w => fun Dl hD => by
  refine lc_it w (fun i H' => Ex H2 H' ∧ ∃ ps : List Addr, H' Dl = some (.lst (ps.map V.ref)) ∧ Parts K H (rm H' Dl) ps ((List.range i).map dss)) ⟨Ex.new hD, [], upd_same, .nil⟩ (fun i H' _ p => p.1) (fun i x H' H'' hi p y => ?_) (fun H' p => ?_)
  · obtain ⟨eP, ps, hacc, hall⟩ := p
    obtain ⟨eY, dY⟩ := y
    obtain ⟨σ2, hg, hwi, hE⟩ := ht i x H'' hi ((e2.trans eP).trans eY) dY
    refine hg _ ⟨hwi, et_yes H'' (Ex.refl _) _ fun H3 e3 => ?_⟩
    have e13 := eY.trans e3
    show te σ2 H3 _
    refine hE H3 e3 _ fun p xs H4 hp e4 h4 A4 => ⟨ps.map V.ref, e4 Dl _ (e13 Dl _ hacc), sz_lt ?_, Ex.mut ((eP.trans e13).trans e4) hD, ps ++ [p], ?_, ?_⟩
    · rw [List.length_map, hall.len, List.length_map, List.length_range]; omega
    · rw [upd_same, List.map_append]; rfl
    · have hD4 := e4 Dl _ (e13 Dl _ hacc)
      have pD : p ≠ Dl := Ne.symm (ne_of_none (e13 Dl _ hacc) hp)
      rw [rmUpd, List.range_succ, List.map_append]
      exact (hall.mono (rmMono (e13.trans e4))).app (.cons (fresh_back ((e2.trans eP).trans e13) hp) (by rw [rmNe pD]; exact h4) (dpAllRm hD4 _ _ (hl i) A4) .nil)
  · obtain ⟨eP, ps, hacc, hall⟩ := p
    exact q Dl ps H' (fresh_back e2 hD) (e2.trans eP) hacc (hall.mono rmEx) (hall.notin rmSame)
theorem sRetP {te : TE} {D : Ends} {dss : List (List PyData)} (h : ∀ Q : VK, NewP K H Q dss → te σ H Q) (k : NewP K H D.rt dss) : tRet te D σ H := h _ k
theorem NewP.ex {Q : VK} {H1 : Hp} {dss : List (List PyData)} (e : Ex H H1) (q : NewP K H Q dss) : NewP K H1 Q dss := fun p ps H' hp e1 h1 pr np => q p ps H' (fresh_back e hp) (e.trans e1) h1 (pr.back e) np
theorem maxN {j : Nat} {v : V} {ns : List Int} {m : Int} (h : σ[j]? = some (some v)) (hd : Dp K H v (.list (ns.map PyData.int))) (hm : m ∈ ns) (hl : ∀ y ∈ ns, y ≤ m) : Ev (tCB (rMax K) (tCons (tVar j) tNil)) σ H (.int m) := fun H1 e Q q => by
  obtain ⟨a, xs, rfl, hs, hA⟩ := dpList (SB.mono e hd)
  have hx := intsOfAll hA
  subst hx
  refine ⟨.ref a, h, a, ns, rfl, hs, List.length_pos_of_mem hm, fun m' h1 h2 => ?_⟩
  have : m' = m := Int.le_antisymm (hl m' h1) (h2 m hm)
  subst this
  exact q H1 (Ex.refl H1)
end
section
variable {P : Program} {w : World} {K : PySem.W.Frag} {mg : Str → Option Value} {base : Heap}
theorem ok_classes {f f1 f2 : Addr} {fd fd1 fd2 : FuncData} {k : Nat} (F : Fun K "classes" "classes" sClasses f fd)
    (F1 : FnOk P w K mg base CX0 (k + 3) f1 fd1 ["size", "sets"] (spN K RRow)) (g1 : mg "class_row" = some (.ref f1)) (k1 : PySem.W.keepIn K (.ref f1) = true) (b1 : Binds K fd1 ["size", "sets"] [])
    (F2 : FnOk P w K mg base CX0 (k + 3) f2 fd2 ["marks"] (spN K RRanges)) (g2 : mg "ranges_of" = some (.ref f2)) (k2 : PySem.W.keepIn K (.ref f2) = true) (b2 : Binds K fd2 ["marks"] [])
    (mr : mg "range" = none) (mM : mg "max" = none) : FnOk P w K mg base CX0 (k + 4) f fd ["size", "sets"] (spP K clsD) := by
  refine F.ok scClasses (fun vs H Q E h => ?_) (fun cdv A outer s H vs Q E hr h => ?_)
  · obtain ⟨n, rss, ha, _⟩ := h
    exact allLen ha
  · obtain ⟨n, rss, ha, hn, hs, q⟩ := h
    obtain ⟨x, y, rfl, hx, hy⟩ := all2 ha
    cases dpInt hx
    have nd := scClasses.nd
    refine ⟨_, pss_cons (ps_set (i := 2) nd rfl (.inr rfl) (pe_call F1 hr (by rfl) g1 k1 b1 .nil pass0 (pa_cons (pv 0) (pa_cons (pv 1) pa_nil))))
      (pss_one (ps_ret (pe_lc (own := [("number", 4)]) (g := gName 4) (tt := tYes) (te := tCall (spN K RRanges) [] E0 (tCons (tLc (iList K (tVar 2)) (gName 3) tYes (tOp rEq (tVar 3) (tVar 4)) [3]) tNil)) rfl nd (pi_range1 (by rfl) mr (pa_cons (pe_op op_add (pe_callB (cr_max rfl) (by rfl) mM (by decide +kernel) (pa_cons (pv 2) pa_nil)) pe_int) pa_nil)) (blkOk_by (own := [("number", 4)]) (N := nClasses) (sc := defScope sClasses) (by decide +kernel))
        (fun _ _ _ _ _ => pg_name (i := 4) nd rfl (Or.inr rfl)) (fun _ _ _ _ _ => pts_nil) (fun _ _ _ _ _ => pe_call F2 hr (by rfl) g2 k2 b2 .nil pass0 (pa_cons (pe_lc (own := [("mine", 3)]) (g := gName 3) (tt := tYes) (te := tOp rEq (tVar 3) (tVar 4)) rfl nd (pi_list (pv 2)) (blkOk_by (own := [("mine", 3)]) (N := nClasses) (sc := outCls) (by decide +kernel))
          (fun _ _ _ _ _ => pg_name (i := 3) nd rfl (Or.inl rfl)) (fun _ _ _ _ _ => pts_nil) (fun _ _ _ _ _ => pe_cmpR op_eq (pv 3) (pv 4) (nomark _))) pa_nil))))), ?_⟩
    refine sAsgN (nCall (R := RRow) (da2 (dVar rfl (.int (n : Int))) (dVar (v := y) rfl hy)) ⟨n, rss, rfl, hn, hs, rfl⟩) fun p xs H1 hp e1 h1 A1 => ?_
    have d1 : Dp K H1 (.ref p) (.list (msD (rowF rss n))) := .lst (sq_of h1) A1
    have up := UN_pos (rss := rss) hn.1
    have ul := UN_len rss n
    have rl := rowF_len rss n
    have M := maxN (K := K) (σ := [some (.int (n : Int)), some y, some (.ref p), none, none]) (H := H1) (j := 2) (v := .ref p) (ns := (rowF rss n).map fun k : Nat => (k : Int)) (m := (((UN rss n).length - 1 : Nat) : Int)) rfl (by rw [← msD_int]; exact d1) (List.mem_map.mpr ⟨_, rowF_has (by omega), rfl⟩) (fun y hy => by
      obtain ⟨z, hz, rfl⟩ := List.mem_map.mp hy
      have := rowF_lt z hz
      omega)
    have q' := NewP.ex e1 q
    show tLc (iRng1 (tCons (tOp (rI0 fun i j => .int (i + j)) (tCB (rMax K) (tCons (tVar 2) tNil)) (tC (.int 1))) tNil)) (gName 4) tYes (tCall (spN K RRanges) [] E0 (tCons (tLc (iList K (tVar 2)) (gName 3) tYes (tOp rEq (tVar 3) (tVar 4)) [3]) tNil)) [4] [some (.int (n : Int)), some y, some (.ref p), none, none] H1 Q
    have eD : clsD n rss = (List.range (UN rss n).length).map fun c => (told (fun k => decide ((rowF rss n).getD k 0 = c)) n).map rD := by
      unfold clsD clsF
      rw [List.map_map]; rfl
    have tn : ((((UN rss n).length - 1 : Nat) : Int) + 1).toNat = (UN rss n).length := by omega
    refine pLc (K := K) (n := ((((UN rss n).length - 1 : Nat) : Int) + 1).toNat) (o := fun i => .int (i : Nat)) (fun c => (told (fun k => decide ((rowF rss n).getD k 0 = c)) n).map rD) (by omega) (wkRange1 (j := (((UN rss n).length - 1 : Nat) : Int) + 1) (ea_cons (ev_op M ev_c rv_I0) ea_nil) ⟨by omega, by omega⟩).asN (fun c => noRs _) (fun c v H3 hc e3 hd => ?_) (by rw [tn, ← eD]; exact q')
    cases dpInt hd
    refine ⟨[some (.int (n : Int)), some y, some (.ref p), none, some (.int (c : Nat))], fun Q q => q, rfl, ?_⟩
    have N1 := nLc (K := K) (σ := [some (.int (n : Int)), some y, some (.ref p), none, some (.int (c : Nat))]) (H := H3) (wi := iList K (tVar 2)) (g := gName 3) (tt := tYes) (te := tOp rEq (tVar 3) (tVar 4)) (vs := [3]) (fun _ => true) (fun k => .bool (decide ((rowF rss n).getD k 0 = c))) (by unfold msD; rw [List.length_map]; omega) (wkList (ev_var (v := .ref p) rfl) (SB.mono e3 d1)).asN (fun Dl k v H4 hk e4 hd => by
      unfold msD at hk hd
      rw [List.length_map] at hk
      rw [getD_map iD' (List.getElem?_eq_getElem hk)] at hd
      cases dpInt hd
      refine ⟨[some (.int (n : Int)), some y, some (.ref p), some (.int ((rowF rss n)[k] : Nat)), some (.int (c : Nat))], fun Q q => q, rfl, et_yes, fun _ => EvD.x (EvD.of (ev_is (ev_op (ev_var rfl) (ev_var rfl) (rv_eq rfl)) ?_) (.bl _)) rfl⟩
      rw [getD_at 0 hk]
      refine congrArg V.bl ?_
      rw [Bool.eq_iff_iff, decide_eq_true_eq, decide_eq_true_eq]
      constructor
      · intro z; have := V.int.inj z; omega
      · intro z; rw [z])
    rw [outs_all, show (msD (rowF rss n)).length = n by unfold msD; rw [List.length_map, rl]] at N1
    exact nCall (R := RRanges) (da1 N1.asD) ⟨n, _, rfl, hn.2, rfl⟩
end

/-! ### by_classes -/
def outBy : Scope := { kind := .function, names := [(".0", .local), ("marks", .local), ("sorted", .globalImplicit), ("zip", .globalImplicit), ("row", .cell)], isGenerator := false, isCoroutine := false }
/-- a new set of whole numbers -/
def EvS (w : World) (te : TE) (σ : L2.St) (H : Hp) (L : List Int) : Prop := ∀ H1, Ex H H1 → ∀ Q : VK, (∀ p S c H2, H1 p = none → Ex H1 H2 → H2 p = some (SetO w p S c) → (∀ j, S j = decide (j ∈ L)) → Q (.ref p) H2) → te σ H1 Q
section
variable {K : PySem.W.Frag} {w : World} {σ : L2.St} {H : Hp}
theorem sLc {wi : TI} {g : TG} {tt : TT} {te : TE} {n : Nat} {o : Nat → PyData} {vs : List Nat} (f : Nat → Bool) (out : Nat → Int) (hn : n ≤ 4000) (hw : WkN K wi σ H n o)
    (ht : ∀ i x H', i < n → Ex H H' → Dp K H' x (o i) → ∃ σ2, (∀ Q : L2.St → Hp → Prop, Q σ2 H' → g x (wipe σ vs) H' Q) ∧ wipe σ2 vs = wipe σ vs ∧ EvT tt σ2 H' (f i) ∧ (f i = true → Ev te σ2 H' (.int (out i)))) :
    EvS w (SF.tSi w wi g tt te vs) σ H (((List.range n).filter f).map out) := fun H1 e1 Q q => hw H1 e1 _ fun J H2 e2 wk => fun D hD => by
  refine ⟨fun i m G => m = n - i ∧ i ≤ n ∧ Ex H2 G ∧ ∃ S c, G D = some (SetO w D S c) ∧ c ≤ i ∧ ∀ j, S j = decide (j ∈ ((List.range i).filter f).map out), ⟨n, by simp, Nat.zero_le _, Ex.new hD, _, 0, upd_same, Nat.le_refl _, fun j => rfl⟩, ?_⟩
  rintro i m G ⟨rfl, hi, eG, S, c, hS, hc, hm⟩
  by_cases hlt : i < n
  · refine .inr ⟨wk.goes i G hlt eG, fun G' => Ex H2 G' ∧ ∃ S c, G' D = some (SetO w D S c) ∧ c ≤ i + 1 ∧ ∀ j, S j = decide (j ∈ ((List.range (i + 1)).filter f).map out), fun G2 p => ⟨n - (i + 1), by omega, rfl, hlt, p⟩, fun x G2 y => ?_⟩
    obtain ⟨eY, dY⟩ := wk.yields i G x G2 hlt eG y
    obtain ⟨σ2, hg, hwi, hT, hE⟩ := ht i x G2 hlt (((e1.trans e2).trans eG).trans eY) dY
    refine hg _ ⟨hwi, hT G2 (Ex.refl _) _ fun G3 e3 => ?_⟩
    have e13 := eY.trans e3
    cases hf : f i with
    | true =>
      show te σ2 G3 _
      refine hE hf G3 e3 _ fun G4 e4 => ⟨out i, S, c, rfl, (e13.trans e4) D _ hS, by show c + 1 < 4096; omega, Ex.mut ((eG.trans e13).trans e4) hD, _, _, upd_same, ?_, fun j => ?_⟩
      · by_cases z : S (out i) = true
        · rw [if_pos z]; omega
        · rw [if_neg z]; omega
      · show (S j || decide (j = out i)) = _
        rw [hm j, List.range_succ, List.filter_append, List.map_append, List.filter_cons, if_pos hf, Bool.eq_iff_iff]
        simp only [Bool.or_eq_true, decide_eq_true_eq, List.mem_append, List.filter_nil, List.map_cons, List.map_nil, List.mem_singleton]
    | false =>
      show Ex H2 G3 ∧ _
      refine ⟨eG.trans e13, S, c, e13 D _ hS, by omega, fun j => ?_⟩
      rw [hm j, List.range_succ, List.filter_append, List.filter_cons, if_neg (by rw [hf]; decide), List.filter_nil, List.append_nil]
  · have e : i = n := by omega
    subst e
    exact .inl ⟨wk.stops G eG, q D S c G (fresh_back e2 hD) (e2.trans eG) hS hm⟩
theorem nSortS {te : TE} {L out : List Int} (h : EvS w te σ H L) (ho : out.Pairwise (· < ·)) (hm : ∀ k, k ∈ out ↔ k ∈ L) : EvN K (tCB (SC.rSortS w) (tCons te tNil)) σ H (out.map PyData.int) := fun H1 e Q q =>
  h H1 e _ fun p S c H2 hp e2 h2 hS => ⟨p, S, c, rfl, h2, fun ns' q' hs' hm' _ _ hq => by
    have eo : ns' = out := sortedInt hs' ho fun k => by rw [hm' k, hm k, hS k, decide_eq_true_eq]
    subst eo
    exact q q' _ _ (fresh_back e2 hq) (e2.trans (Ex.new hq)) upd_same (allOfInts _)⟩
end
section
variable {P : Program} {w : World} {K : PySem.W.Frag} {mg : Str → Option Value} {base : Heap}
theorem ok_byCls {f f1 f2 : Addr} {fd fd1 fd2 : FuncData} {k : Nat} (F : Fun K "by_classes" "by_classes" sByClasses f fd)
    (F1 : FnOk P w K mg base CX0 (k + 2) f1 fd1 ["size", "sets"] (spN K RChecked)) (g1 : mg "checked_marks" = some (.ref f1)) (k1 : PySem.W.keepIn K (.ref f1) = true) (b1 : Binds K fd1 ["size", "sets"] [])
    (F2 : FnOk P w K mg base CX0 (k + 2) f2 fd2 ["size", "all_marks"] (spN K RRowOf)) (g2 : mg "row_of" = some (.ref f2)) (k2 : PySem.W.keepIn K (.ref f2) = true) (b2 : Binds K fd2 ["size", "all_marks"] [])
    (mz : mg "zip" = none) (mS : mg "sorted" = none) : FnOk P w K mg base CX0 (k + 3) f fd ["size", "sets"] (spP K evD) := by
  refine F.ok scByClasses (fun vs H Q E h => ?_) (fun cdv A outer s H vs Q E hr h => ?_)
  · obtain ⟨n, rss, ha, _⟩ := h
    exact allLen ha
  · obtain ⟨n, rss, ha, hn, hs, q⟩ := h
    obtain ⟨x, y, rfl, hx, hy⟩ := all2 ha
    cases dpInt hx
    have nd := scByClasses.nd
    refine ⟨_, pss_cons (ps_set (i := 2) nd rfl (.inl rfl) (pe_call F1 hr (by rfl) g1 k1 b1 .nil pass0 (pa_cons (pv 0) (pa_cons (pv 1) pa_nil))))
      (pss_cons (ps_set (i := 3) nd rfl (.inr rfl) (pe_call F2 hr (by rfl) g2 k2 b2 .nil pass0 (pa_cons (pv 0) (pa_cons (pv 2) pa_nil))))
      (pss_one (ps_ret (pe_lc (own := [("marks", 6)]) (g := gName 6) (tt := tYes) (te := tCB (SC.rSortS w) (tCons (SF.tSi w (iZip K (tCons (tVar 3) (tCons (tVar 6) tNil))) (gTup K 2 (gCons (gName 4) (gCons (gName 5) gNil))) (tB (tVar 5)) (tVar 4) [4, 5]) tNil)) rfl nd (pi_list (pv 2)) (blkOk_by (own := [("marks", 6)]) (N := nByClasses) (sc := defScope sByClasses) (by decide +kernel))
        (fun _ _ _ _ _ => pg_name (i := 6) nd rfl (Or.inl rfl)) (fun _ _ _ _ _ => pts_nil) (fun _ _ _ _ _ => pe_callB (SC.crSortS rfl) (by rfl) mS (by decide +kernel) (pa_cons (SF.pe_si (own := [("number", 4), ("marked", 5)]) (g := gTup K 2 (gCons (gName 4) (gCons (gName 5) gNil))) (tt := tB (tVar 5)) (te := tVar 4) rfl nd (pi_zip (by rfl) mz (pa_cons (pv 3) (pa_cons (pv 6) pa_nil))) (blkOk_by (own := [("number", 4), ("marked", 5)]) (N := nByClasses) (sc := outBy) (by decide +kernel))
          (fun _ _ _ _ _ => pg_tup rfl (pgs_cons (pg_name (i := 4) nd rfl (Or.inl rfl)) (pgs_cons (pg_name (i := 5) nd rfl (Or.inl rfl)) pgs_nil))) (fun _ _ _ _ _ => pts_one (pt_val (pv 5))) (fun _ _ _ _ _ => pv 4)) pa_nil)))))), ?_⟩
    refine sAsgN (nCall (R := RChecked) (da2 (dVar rfl (.int (n : Int))) (dVar (v := y) rfl hy)) ⟨n, rss, rfl, hn.1, hn.2, by have := hs.1; omega, hs.2, rfl⟩) fun pm xm H1 hpm e1 h1 A1 => ?_
    have d1 : Dp K H1 (.ref pm) (.list (rss.map (mD n))) := .lst (sq_of h1) A1
    refine sAsgN (nCall (R := RRowOf) (da2 (dVar rfl (.int (n : Int))) (dVar (v := .ref pm) rfl d1)) ⟨n, rss, rfl, hn, by have := hs.1; omega, rfl⟩) fun p xs H2 hp e2 h2 A2 => ?_
    have d2 : Dp K H2 (.ref p) (.list (msD (rowF rss n))) := .lst (sq_of h2) A2
    have d1' := SB.mono e2 d1
    have rl := rowF_len rss n
    have ml' : (msD (rowF rss n)).length = n := by unfold msD; rw [List.length_map, rl]
    have q' := NewP.ex (e1.trans e2) q
    have eD : evD n rss = (List.range rss.length).map fun a => msD ((List.range (UN rss n).length).filter fun c => ((UN rss n).getD c []).getD a false) := by
      unfold evD evF
      rw [List.map_map]; rfl
    show tLc (iList K (tVar 2)) (gName 6) tYes (tCB (SC.rSortS w) (tCons (SF.tSi w (iZip K (tCons (tVar 3) (tCons (tVar 6) tNil))) (gTup K 2 (gCons (gName 4) (gCons (gName 5) gNil))) (tB (tVar 5)) (tVar 4) [4, 5]) tNil)) [6] [some (.int (n : Int)), some y, some (.ref pm), some (.ref p), none, none, none] H2 Q
    refine pLc (K := K) (fun a => msD ((List.range (UN rss n).length).filter fun c => ((UN rss n).getD c []).getD a false)) (by rw [List.length_map]; have := hs.1; omega) (wkList (ev_var (v := .ref pm) rfl) d1').asN (fun a => noLs_map (fun _ => rfl) _) (fun a v H3 ha e3 hd => ?_) (by rw [List.length_map, ← eD]; exact q')
    rw [List.length_map] at ha
    rw [getD_map (mD n) (List.getElem?_eq_getElem ha)] at hd
    refine ⟨[some (.int (n : Int)), some y, some (.ref pm), some (.ref p), none, none, some v], fun Q q => q, rfl, ?_⟩
    have hat : rss[a]? = some rss[a] := List.getElem?_eq_getElem ha
    generalize rss[a] = rs at hd hat
    have S := sLc (K := K) (w := w) (σ := [some (.int (n : Int)), some y, some (.ref pm), some (.ref p), none, none, some v]) (H := H3) (wi := iZip K (tCons (tVar 3) (tCons (tVar 6) tNil))) (g := gTup K 2 (gCons (gName 4) (gCons (gName 5) gNil))) (tt := tB (tVar 5)) (te := tVar 4) (vs := [4, 5]) (n := (msD (rowF rss n)).length) (memB rs) (fun k => ((UN rss n).idxOf (sg rss k) : Nat)) (by rw [ml']; omega) (wkZip (ev_var (v := .ref p) rfl) (SB.mono e3 d2) (ev_var (v := v) rfl) hd (by rw [ml', bls_len])).asN (fun i u H4 hi e4 hd4 => by
      rw [ml'] at hi
      have g1 : (msD (rowF rss n)).getD i .none = iD' ((UN rss n).idxOf (sg rss i)) := by unfold msD; exact getD_map iD' (rowF_at hi)
      rw [g1, getD_bls (memB rs) hi] at hd4
      refine ⟨[some (.int (n : Int)), some y, some (.ref pm), some (.ref p), some (.int ((UN rss n).idxOf (sg rss i) : Nat)), some (.bl (memB rs i)), some v], fun Q q => gPair hd4 fun y1 y2 hy1 hy2 => ?_, rfl, et_B (ev_var rfl), fun _ => ev_var rfl⟩
      cases dpInt hy1
      cases dpBool hy2
      exact q)
    rw [ml'] at S
    rw [msD_int]
    refine nSortS S (int_lt (filt_lt _ _)) fun k => ?_
    rw [mem_ints, List.mem_map]
    constructor
    · rintro ⟨c, hc, rfl⟩
      obtain ⟨k, hk, hm, e⟩ := (ev_mem hat c).mp hc
      exact ⟨k, List.mem_filter.mpr ⟨List.mem_range.mpr hk, hm⟩, by rw [e]⟩
    · rintro ⟨k, hk, rfl⟩
      obtain ⟨k1, k2⟩ := List.mem_filter.mp hk
      exact ⟨_, (ev_mem hat _).mpr ⟨k, List.mem_range.mp k1, k2, rfl⟩, rfl⟩
end

/-! ### the law of k10 -/
def spLaw (K : PySem.W.Frag) : Sp := fun vs H Q _ => ∃ (a : Addr) (ns : List Int), vs = [.ref a] ∧ SqL K H a (ns.map V.int) ∧ ns.length ≤ 63 ∧ ∀ H', Q (.bl true) H'
section
variable {P : Program} {w : World} {K : PySem.W.Frag} {mg : Str → Option Value} {base : Heap}
theorem ok_law {f : Addr} {fd : FuncData} (F : Fun K "law" "law" sLaw f fd) (dD : Def P w K mg base 3 "_law_dice" ["_law_script", "_law_k"] (spN K RDice)) (dOF : Def P w K mg base 3 "_law_off" ["_law_d", "_law_most"] spOff) (dZ : Def P w K mg base 3 "_law_size" ["_law_d"] spSize) (dSS : Def P w K mg base 4 "_law_sets" ["_law_d", "_law_size_here"] (spSets K))
    (dME : Def P w K mg base 3 "_law_members" ["_law_size_here", "_law_ranges"] (spN K RMem)) (dTO : Def P w K mg base 3 "_law_told" ["_law_numbers"] (spN K RTold)) (dAK : Def P w K mg base 6 "_law_alike" ["_law_found", "_law_due"] (spAlike K 5))
    (dCR : Def P w K mg base 5 "class_row" ["size", "sets"] (spN K RRow)) (dCL : Def P w K mg base 5 "classes" ["size", "sets"] (spP K clsD)) (dBC : Def P w K mg base 5 "by_classes" ["size", "sets"] (spP K evD))
    (mr : mg "range" = none) (ml : mg "len" = none) (mL : mg "list" = none) (mI : mg "int" = none) : FnOk P w K mg base CX0 7 f fd ["_law_script"] (spLaw K) := by
  obtain ⟨fD, fdD, FD, gD, kD, bD⟩ := dD.ex
  obtain ⟨fOF, fdOF, FOF, gOF, kOF, bOF⟩ := dOF.ex
  obtain ⟨fZ, fdZ, FZ, gZ, kZ, bZ⟩ := dZ.ex
  obtain ⟨fSS, fdSS, FSS, gSS, kSS, bSS⟩ := dSS.ex
  obtain ⟨fME, fdME, FME, gME, kME, bME⟩ := dME.ex
  obtain ⟨fTO, fdTO, FTO, gTO, kTO, bTO⟩ := dTO.ex
  obtain ⟨fAK, fdAK, FAK, gAK, kAK, bAK⟩ := dAK.ex
  obtain ⟨fCR, fdCR, FCR, gCR, kCR, bCR⟩ := dCR.ex
  obtain ⟨fCL, fdCL, FCL, gCL, kCL, bCL⟩ := dCL.ex
  obtain ⟨fBC, fdBC, FBC, gBC, kBC, bBC⟩ := dBC.ex
  refine F.ok scLaw (fun vs H Q E h => ?_) (fun cdv A outer s H vs Q E hr h => ?_)
  · obtain ⟨a, ns, rfl, _⟩ := h
    rfl
  · obtain ⟨a, ns, rfl, hS, hl, q⟩ := h
    have nd := scLaw.nd
    refine ⟨_, (pss_cons (ps_set (i := 1) nd rfl (.inl rfl) (pe_call FD (hr.mono (by decide)) (by rfl) gD kD bD .nil pass0 (pa_cons (pv 0) (pa_cons (pe_int) pa_nil))))
        (pss_cons (ps_set (i := 2) nd rfl (.inr rfl) (pe_call FZ (hr.mono (by decide)) (by rfl) gZ kZ bZ .nil pass0 (pa_cons (pv 1) pa_nil)))
        (pss_cons (ps_set (i := 3) nd rfl (.inl rfl) (pe_call FSS (hr.mono (by decide)) (by rfl) gSS kSS bSS .nil pass0 (pa_cons (pv 1) (pa_cons (pv 2) pa_nil))))
        (pss_cons (ps_setLc (i := 4) (own := [("_law_ranges", 19)]) (g := gName 19) (tt := tYes) (te := tCall (spN K RMem) [] E0 (tCons (tVar 2) (tCons (tVar 19) tNil))) rfl nd rfl rfl (sw_true rfl rfl rfl (by decide +kernel)) (pi_list (pv 3)) (blkOk_by (own := [("_law_ranges", 19)]) (N := nLaw) (sc := defScope sLaw) (by decide +kernel)) (fun _ _ _ _ _ => pg_name (i := 19) nd rfl (Or.inl rfl)) (fun _ _ _ _ _ => pts_nil) (fun _ _ _ _ _ => pe_call FME (hr.mono (by decide)) (by rfl) gME kME bME .nil pass0 (pa_cons (pv 2) (pa_cons (pv 19) pa_nil))))
        (pss_cons (ps_set (i := 5) nd rfl (.inl rfl) (pe_lst pa_nil))
        (pss_cons (ps_for PassesOwn.never rfl (pi_range1 (by rfl) mr (pa_cons (pv 2) pa_nil)) (pg_name (i := 6) nd rfl (.inr rfl)) (pss_one (ps_expr (pe_bm PySem.F.plainAttrs_list PySem.F.slot_list_append PySem.F.type_list_append mt_append (pv 5) (pa_cons (pe_join pe_str (pe_lc (own := [("_law_numbers", 20)]) (g := gName 20) (tt := tYes) (te := tOp rIxS (tC (.str (PySem.Str.ofString "01"))) (tCB (fun xs H Q => (∃ i, xs = [.int i] ∧ Q (.int i) H) ∨ ∃ k, xs = [.bl k] ∧ Q (.int (if k then 1 else 0)) H) (tCons (tOp (rIn K false) (tVar 6) (tVar 20)) tNil))) rfl nd (pi_list (pv 4)) (blkOk_by (own := [("_law_numbers", 20)]) (N := nLaw) (sc := defScope sLaw) (by decide +kernel)) (fun _ _ _ _ _ => pg_name (i := 20) nd rfl (Or.inl rfl)) (fun _ _ _ _ _ => pts_nil) (fun _ _ _ _ _ => pe_ix ix_str pe_str (pe_callTy call_int1 (by rfl) mI (by decide +kernel) (pa_cons (pe_cmpR op_in_seq (pv 6) (pv 20) (by rfl)) pa_nil)) (fun _ _ => rfl)))) pa_nil)))))
        (pss_cons (ps_set (i := 7) nd rfl (.inr rfl) (pe_lst pa_nil))
        (pss_cons (ps_for PassesOwn.never rfl (pi_list (pv 5)) (pg_name (i := 8) nd rfl (.inl rfl)) (pss_one (ps_if (pt_cmpR op_notIn_seq (pv 8) (pv 7) (by rfl)) (pss_one (ps_expr (pe_bm PySem.F.plainAttrs_list PySem.F.slot_list_append PySem.F.type_list_append mt_append (pv 7) (pa_cons (pv 8) pa_nil)))) pss_nil)))
        (pss_cons (ps_set (i := 9) nd rfl (.inr rfl) (pe_lc (own := [("_law_sign", 8)]) (g := gName 8) (tt := tYes) (te := tBM K "list" (rIndex K) (tVar 7) (tCons (tVar 8) tNil)) rfl nd (pi_list (pv 5)) (blkOk_by (own := [("_law_sign", 8)]) (N := nLaw) (sc := defScope sLaw) (by decide +kernel)) (fun _ _ _ _ _ => pg_name (i := 8) nd rfl (Or.inl rfl)) (fun _ _ _ _ _ => pts_nil) (fun _ _ _ _ _ => pe_bm PySem.F.plainAttrs_list PySem.F.slot_list_index PySem.F.type_list_index mt_index (pv 7) (pa_cons (pv 8) pa_nil))))
        (pss_cons (ps_set (i := 10) nd rfl (.inl rfl) (pe_lst pa_nil))
        (pss_cons (ps_for PassesOwn.never rfl (pi_range1 (by rfl) mr (pa_cons (pe_callB call_len_seq (by rfl) ml PySem.boot_len (pa_cons (pv 7) pa_nil)) pa_nil)) (pg_name (i := 6) nd rfl (.inr rfl)) (pss_one (ps_expr (pe_bm PySem.F.plainAttrs_list PySem.F.slot_list_append PySem.F.type_list_append mt_append (pv 10) (pa_cons (pe_call FTO (hr.mono (by decide)) (by rfl) gTO kTO bTO .nil pass0 (pa_cons (pe_lc (own := [("_law_one", 11)]) (g := gName 11) (tt := tTest (tOp rEq (tOp (rIxL K) (tVar 9) (tVar 11)) (tVar 6))) (te := tVar 11) rfl nd (pi_range1 (by rfl) mr (pa_cons (pv 2) pa_nil)) (blkOk_by (own := [("_law_one", 11)]) (N := nLaw) (sc := defScope sLaw) (by decide +kernel)) (fun _ _ _ _ _ => pg_name (i := 11) nd rfl (Or.inl rfl)) (fun _ _ _ _ _ => pts_one (pt_cmpR op_eq (pe_ix ix_list (pv 9) (pv 11) (fun _ _ => rfl)) (pv 6) (nomark _))) (fun _ _ _ _ _ => pv 11)) pa_nil)) pa_nil)))))
        (pss_cons (ps_set (i := 12) nd rfl (.inl rfl) (pe_lst pa_nil))
        (pss_cons (ps_for PassesOwn.never rfl (pi_range1 (by rfl) mr (pa_cons (pe_callB call_len_seq (by rfl) ml PySem.boot_len (pa_cons (pv 3) pa_nil)) pa_nil)) (pg_name (i := 13) nd rfl (.inr rfl)) (pss_one (ps_expr (pe_bm PySem.F.plainAttrs_list PySem.F.slot_list_append PySem.F.type_list_append mt_append (pv 12) (pa_cons (pe_lc (own := [("_law_number", 6)]) (g := gName 6) (tt := tTest (tOp rEq (tOp rIxS (tOp (rIxL K) (tVar 7) (tVar 6)) (tVar 13)) (tC (.str (PySem.Str.ofString "1"))))) (te := tVar 6) rfl nd (pi_range1 (by rfl) mr (pa_cons (pe_callB call_len_seq (by rfl) ml PySem.boot_len (pa_cons (pv 7) pa_nil)) pa_nil)) (blkOk_by (own := [("_law_number", 6)]) (N := nLaw) (sc := defScope sLaw) (by decide +kernel)) (fun _ _ _ _ _ => pg_name (i := 6) nd rfl (Or.inl rfl)) (fun _ _ _ _ _ => pts_one (pt_cmpR op_eq (pe_ix ix_str (pe_ix ix_list (pv 7) (pv 6) (fun _ _ => rfl)) (pv 13) (fun _ _ => rfl)) pe_str (nomark _))) (fun _ _ _ _ _ => pv 6)) pa_nil)))))
        (pss_cons (ps_setLc (i := 14) (own := [("_law_ranges", 19)]) (g := gName 19) (tt := tYes) (te := tCB (fun xs H Q => ∃ p ys, xs = [.ref p] ∧ (SqL K H p ys ∨ SqT K H p ys) ∧ ∀ l, H l = none → Q (.ref l) (upd H l (.lst ys))) (tCons (tVar 19) tNil)) rfl nd rfl rfl (sw_true rfl rfl rfl (by decide +kernel)) (pi_list (pv 3)) (blkOk_by (own := [("_law_ranges", 19)]) (N := nLaw) (sc := defScope sLaw) (by decide +kernel)) (fun _ _ _ _ _ => pg_name (i := 19) nd rfl (Or.inl rfl)) (fun _ _ _ _ _ => pts_nil) (fun _ _ _ _ _ => pe_callTy call_list_of (by rfl) mL (by decide +kernel) (pa_cons (pv 19) pa_nil)))
        (pss_cons (ps_for PassesOwn.never rfl (pi_range1 (by rfl) mr (pa_cons (pe_int) pa_nil)) (pg_name (i := 15) nd rfl (.inl rfl)) (pss_cons (ps_set (i := 16) nd rfl (.inl rfl) (pe_lst (pa_cons (pe_call FCR (hr.mono (by decide)) (by rfl) gCR kCR bCR .nil pass0 (pa_cons (pv 2) (pa_cons (pv 14) pa_nil))) (pa_cons (pe_call FCL (hr.mono (by decide)) (by rfl) gCL kCL bCL .nil pass0 (pa_cons (pv 2) (pa_cons (pv 14) pa_nil))) (pa_cons (pe_call FBC (hr.mono (by decide)) (by rfl) gBC kBC bBC .nil pass0 (pa_cons (pv 2) (pa_cons (pv 14) pa_nil))) pa_nil)))))
        (pss_cons (ps_if (PW.pt (pw_or (pt_not (pt_val (pe_call FAK (hr.mono (by decide)) (by rfl) gAK kAK bAK .nil pass0 (pa_cons (pv 16) (pa_cons (pe_lst (pa_cons (pv 9) (pa_cons (pv 10) (pa_cons (pv 12) pa_nil)))) pa_nil))))) (pw_or1 (pt_cmpR (op_neD hr.units) (pv 14) (pv 3) (nomark _))))) (pss_one (ps_ret pe_bl)) pss_nil)
        (pss_one (ps_for PassesOwn.never rfl (pi_list (pe_op op_cat (pe_op op_cat (pe_ix ix_list (pv 16) (pe_int) (fun _ _ => rfl)) (pe_ix ix_list (pv 16) (pe_int) (fun _ _ => rfl))) (pv 16))) (pg_name (i := 17) nd rfl (.inl rfl)) (pss_one (ps_expr (pe_bm PySem.F.plainAttrs_list PySem.F.slot_list_append PySem.F.type_list_append mt_append (pv 17) (pa_cons (pe_un un_neg pe_int) pa_nil)))))))))
        (pss_cons (ps_set (i := 11) nd rfl (.inl rfl) (pe_call FOF (hr.mono (by decide)) (by rfl) gOF kOF bOF .nil pass0 (pa_cons (pv 1) (pa_cons (pv 2) pa_nil))))
        (pss_cons (ps_set (i := 18) nd rfl (.inl rfl) (pe_callB call_len_seq (by rfl) ml PySem.boot_len (pa_cons (pe_call FCL (hr.mono (by decide)) (by rfl) gCL kCL bCL .nil pass0 (pa_cons (pv 2) (pa_cons (pe_slice sl_list (pv 3) po_none (po_some pe_int)) pa_nil))) pa_nil)))
        (pss_one (ps_ret (pe_chain op_le op_le (pv 18) (pe_callB call_len_seq (by rfl) ml PySem.boot_len (pa_cons (pe_call FCL (hr.mono (by decide)) (by rfl) gCL kCL bCL .nil pass0 (pa_cons (pv 2) (pa_cons (pe_op op_cat (pe_slice sl_list (pv 3) po_none (po_some pe_int)) (pe_lst (pa_cons (pe_lst (pa_cons (pe_tup (pa_cons (pv 11) (pa_cons (pv 11) pa_nil))) pa_nil)) pa_nil))) pa_nil))) pa_nil)) (pe_op op_add (pv 18) pe_int))))))))))))))))))))), ?_⟩
    have hScr : Dp K H (.ref a) (.list (ns.map PyData.int)) := .lst hS (allOfInts ns)
    refine sAsgN (nCall (da2 (dVar rfl hScr) dInt) ⟨ns, 0, rfl, hl, by decide, by decide, rfl⟩) fun d xs H1 hd e1 h1 a1 => ?_
    have d1 : DSt H1 d := dst_of (by decide) hl h1 a1
    refine ⟨.ref d, rfl, d, rfl, d1, fun n H2 hn1 hn64 D2 => ?_⟩
    have hn : 1 ≤ n ∧ n ≤ 64 := ⟨hn1, hn64⟩
    refine ⟨.ref d, rfl, .int (n : Int), rfl, d, n, rfl, D2.st, hn1, hn64, fun rss pS xS H3 hss hpS D3 h3 A3 => ?_⟩
    have d3 := D3.st
    have pSd : pS ≠ d := D2.st.ne hpS
    have s3r : Dp K (rm H3 d) (.ref pS) (ssD rss) := .lst (sq_of (by rw [rmNe pSd]; exact h3)) A3
    have s3 : Dp K H3 (.ref pS) (ssD rss) := .lst (sq_of h3) (monoA rmEx A3)
    have hr6 := hss.1
    -- known
    have N1 := nLc (K := K) (σ := [some (.ref a), some (.ref d), some (.int (n : Int)), some (.ref pS), none, none, none, none, none, none, none, none, none, none, none, none, none, none, none, none, none]) (H := H3) (wi := iList K (tVar 3)) (g := gName 19) (tt := tYes) (te := tCall (spN K RMem) [] E0 (tCons (tVar 2) (tCons (tVar 19) tNil))) (vs := [19]) (fun _ => true) (fun j => .list (msD ((List.range n).filter (memB (rss.getD j []))))) (by rw [List.length_map]; omega) (wkList (ev_var (v := .ref pS) rfl) s3).asN (fun Dl j x H6 hj e6 hd => by
      rw [List.length_map] at hj
      rw [getD_map sD (List.getElem?_eq_getElem hj)] at hd
      rw [getD_at [] hj]
      have gj := hss.2 rss[j] (List.getElem_mem hj)
      exact ⟨[some (.ref a), some (.ref d), some (.int (n : Int)), some (.ref pS), none, none, none, none, none, none, none, none, none, none, none, none, none, none, none, some x, none], fun Q q => q, rfl, et_yes, fun _ => (nCall (R := RMem) (E := E0) (da2 (dVar (v := .int (n : Int)) rfl (.int (n : Int))) (dVar (v := x) rfl hd)) ⟨n, rss[j], rfl, hn64, gj.2, rfl⟩).x (noLs_map (fun _ => rfl) _)⟩)
    rw [outs_all, List.length_map, range_getD (fun rs => PyData.list (msD ((List.range n).filter (memB rs)))) [] rss] at N1
    refine sAsgN N1 fun pk xk H4 hpk e4 h4 A4 => ?_
    have dK : Dp K H4 (.ref pk) (.list (rss.map fun rs => .list (msD ((List.range n).filter (memB rs))))) := .lst (sq_of h4) A4
    -- signs
    refine ⟨Nat.zero_le _, fun pg hpg => ?_⟩
    have e45 : Ex H4 (upd H4 pg (.lst [])) := Ex.new hpg
    have h5g : (upd H4 pg (.lst [])) pg = some (.lst []) := upd_same
    generalize upd H4 pg (.lst []) = H5 at e45 h5g ⊢
    refine sFor (K := K) (B := H4) e45 (wkRange1 (j := (n : Int)) (ea_cons (ev_var rfl) ea_nil) ⟨by omega, by omega⟩) (fun k σ' H' => Ex H4 H' ∧ H' pg = some (.lst (((SG rss n).take k).map vS)) ∧ ∃ b6, σ' = [some (.ref a), some (.ref d), some (.int (n : Int)), some (.ref pS), some (.ref pk), some (.ref pg), b6, none, none, none, none, none, none, none, none, none, none, none, none, none, none]) (fun Hz ez => ⟨e45.trans ez, ez pg _ h5g, none, rfl⟩) (fun k σ' H' _ p => p.1) (fun k x σ' H' H'' hk p ez hd => ?_) (fun σ' H6 p => ?_)
    · obtain ⟨ea, kg, b6, rfl⟩ := p
      rw [Int.toNat_natCast] at hk
      cases dpInt hd
      have eb := ea.trans ez
      have N2 := nLc (K := K) (σ := [some (.ref a), some (.ref d), some (.int (n : Int)), some (.ref pS), some (.ref pk), some (.ref pg), some (.int (k : Nat)), none, none, none, none, none, none, none, none, none, none, none, none, none, none]) (H := H'') (wi := iList K (tVar 4)) (g := gName 20) (tt := tYes) (te := tOp rIxS (tC (.str (PySem.Str.ofString "01"))) (tCB (fun xs H Q => (∃ i, xs = [.int i] ∧ Q (.int i) H) ∨ ∃ k, xs = [.bl k] ∧ Q (.int (if k then 1 else 0)) H) (tCons (tOp (rIn K false) (tVar 6) (tVar 20)) tNil))) (vs := [20]) (fun _ => true) (fun j => sD' [memB (rss.getD j []) k]) (by rw [List.length_map]; omega) (wkList (ev_var (v := .ref pk) rfl) (SB.mono eb dK)).asN (fun Dl j v H6 hj e6 hd' => by
        rw [List.length_map] at hj
        rw [getD_map (fun rs => PyData.list (msD ((List.range n).filter (memB rs)))) (List.getElem?_eq_getElem hj)] at hd'
        rw [getD_at [] hj]
        generalize rss[j] = rs at hd'
        rw [msD_int] at hd'
        refine ⟨[some (.ref a), some (.ref d), some (.int (n : Int)), some (.ref pS), some (.ref pk), some (.ref pg), some (.int (k : Nat)), none, none, none, none, none, none, none, none, none, none, none, none, none, some v], fun Q q => q, rfl, et_yes, fun _ => EvD.x (EvD.of (v := .str (enc [memB rs k])) (fun H7 e7 Q q => ?_) (.str _)) rfl⟩
        refine inD (K := K) (neg := false) (ta := tVar 6) (tb := tVar 20) (σ := [some (.ref a), some (.ref d), some (.int (n : Int)), some (.ref pS), some (.ref pk), some (.ref pg), some (.int (k : Nat)), none, none, none, none, none, none, none, none, none, none, none, none, none, some v]) (H := H7) (x := (k : Nat)) (ev_var rfl) (ev_var (v := v) rfl) (SB.mono e7 hd') H7 (Ex.refl H7) _ fun H8 e8 => .inr ⟨_, rfl, ?_⟩
        have hmm : decide (((k : Nat) : Int) ∈ ((List.range n).filter (memB rs)).map fun k : Nat => (k : Int)) = memB rs k := by
          rw [Bool.eq_iff_iff, decide_eq_true_eq, mem_ints]
          constructor
          · rintro ⟨m, hm, em⟩
            rw [show k = m by omega]
            exact (mem_filt.mp hm).2
          · intro h
            exact ⟨k, mem_filt.mpr ⟨hk, h⟩, rfl⟩
        show rIxS _ (.int (if (decide (((k : Nat) : Int) ∈ ((List.range n).filter (memB rs)).map fun k : Nat => (k : Int))) then 1 else 0)) H8 Q
        rw [hmm]
        refine ⟨_, _, bt (memB rs k), rfl, rfl, by decide, ?_, q H8 e8⟩
        cases memB rs k <;> rfl)
      rw [outs_all, List.length_map, range_getD (fun rs => sD' [memB rs k]) [] rss] at N2
      -- signs.append(''.join(..))
      refine ⟨.ref pg, rfl, .inl ⟨rfl, _, sq_of (ez pg _ kg)⟩, ⟨_, rfl⟩, N2 H'' (Ex.refl H'') _ fun p xs H7 hp e7 h7 A7 => ?_⟩
      have hxs : xs = ((sg rss k).map fun b => enc [b]).map V.str := by
        have z : rss.map (fun rs => sD' [memB rs k]) = ((sg rss k).map fun b => [b]).map sD' := by unfold sg; rw [List.map_map, List.map_map]; rfl
        rw [z] at A7
        rw [strsAll A7, List.map_map, List.map_map]; rfl
      subst hxs
      refine ⟨_, p, _, rfl, rfl, .inl (sq_of h7), ?_, ?_⟩
      · rw [show PySem.Str.ofString "" = enc [] by decide +kernel, List.map_map]
        have hs : ∀ l : List Bool, (l.map ((fun x => x.length) ∘ fun b => enc [b])).sum = l.length := fun l => by
          induction l with
          | nil => rfl
          | cons b l ih => rw [List.map_cons, List.sum_cons, ih, List.length_cons]; show 1 + _ = _; omega
        rw [hs, sg_len]
        show rss.length + _ * 0 ≤ 16777216
        omega
      · rw [show PySem.Str.ofString "" = enc [] by decide +kernel, join_enc]
        have hgl : ((SG rss n).take k).length ≤ 64 := by rw [List.length_take]; omega
        refine ⟨pg, _, vS (sg rss k), rfl, rfl, (ez.trans e7) pg _ kg, sz_lt (by rw [List.length_map]; omega), ⟨Ex.mut (eb.trans e7) hpg, ?_, some (.int (k : Nat)), rfl⟩⟩
        rw [upd_same]
        refine congrArg (fun z => some (HO.lst z)) ?_
        have hSG : (SG rss n)[k]? = some (sg rss k) := by unfold SG; rw [List.getElem?_map, List.getElem?_range hk]; rfl
        rw [List.take_add_one, hSG, List.map_append]; rfl
    · obtain ⟨e46, kg, b6, rfl⟩ := p
      rw [Int.toNat_natCast, List.take_of_length_le (by unfold SG; rw [List.length_map, List.length_range]; exact Nat.le_refl _)] at kg
      have sgl : (SG rss n).length = n := by unfold SG; rw [List.length_map, List.length_range]
      -- unlike
      refine ⟨Nat.zero_le _, fun pu hpu => ?_⟩
      have pug : pu ≠ pg := Ne.symm (ne_of_none kg hpu)
      refine s_forL (K := K) (a := pg) (xs := (SG rss n).map vS) (ev_var (v := .ref pg) rfl) (sq_of (by rw [upd_ne (Ne.symm pug)]; exact kg)) (fun j σ' H' => Ex H6 H' ∧ H' pu = some (.lst ((puts [] ((SG rss n).take j)).map vS)) ∧ ∃ b8, σ' = [some (.ref a), some (.ref d), some (.int (n : Int)), some (.ref pS), some (.ref pk), some (.ref pg), b6, some (.ref pu), b8, none, none, none, none, none, none, none, none, none, none, none, none]) (fun Hz ez => ⟨(Ex.new hpu).trans ez, ez pu _ upd_same, none, rfl⟩) (fun j σ' H' _ p => sq_of (p.1 pg _ kg)) (fun j v σ' H7 hv p => ?_) (fun σ' H7 p => ?_)
      · obtain ⟨k1, k3, b8, rfl⟩ := p
        have hjl : j < (SG rss n).length := by
          have := (List.getElem?_eq_some_iff.mp hv).1
          rw [List.length_map] at this; exact this
        have ev : v = vS (SG rss n)[j] := by
          rw [List.getElem?_map, List.getElem?_eq_getElem hjl] at hv
          exact (Option.some.inj hv).symm
        subst ev
        have htj : (SG rss n).take (j + 1) = (SG rss n).take j ++ [(SG rss n)[j]] := by rw [List.take_add_one, List.getElem?_eq_getElem hjl]; rfl
        have hpl : (puts [] ((SG rss n).take j)).length ≤ 64 := by
          have := puts_len ((SG rss n).take j) []
          have h2 : ((SG rss n).take j).length ≤ 64 := by rw [List.length_take]; omega
          simp only [List.length_nil] at this
          omega
        generalize (SG rss n)[j] = s1 at htj
        have hput : puts [] ((SG rss n).take (j + 1)) = put (puts [] ((SG rss n).take j)) s1 := by rw [htj, puts_app]; rfl
        refine ⟨vS s1, rfl, .ref pu, rfl, pu, _, rfl, .inl (sq_of k3), rfl, flatStrs _, _, rfl, ?_⟩
        show if (if true then !inV (vS s1) ((puts [] ((SG rss n).take j)).map vS) else inV (vS s1) ((puts [] ((SG rss n).take j)).map vS)) = true then _ else _
        rw [if_pos rfl, inStrs]
        by_cases c : s1 ∈ puts [] ((SG rss n).take j)
        · rw [decide_eq_true c]
          refine iteF ⟨k1, ?_, some (vS s1), rfl⟩
          rw [hput]
          unfold put
          rw [if_pos (decide_eq_true c)]; exact k3
        · rw [decide_eq_false c]
          refine iteT ⟨.ref pu, rfl, .inl ⟨rfl, _, sq_of k3⟩, vS s1, rfl, pu, _, vS s1, rfl, rfl, k3, sz_lt (by rw [List.length_map]; omega), ?_⟩
          refine ⟨Ex.mut k1 hpu, ?_, some (vS s1), rfl⟩
          rw [upd_same, hput]
          unfold put
          rw [if_neg (by rw [decide_eq_false c]; decide), List.map_append]; rfl
      · obtain ⟨e67, k3, b8, rfl⟩ := p
        rw [List.length_map, List.take_of_length_le (Nat.le_refl _)] at k3
        obtain ⟨U, hU⟩ : ∃ U, U = UN rss n := ⟨_, rfl⟩
        replace k3 : H7 pu = some (.lst (U.map vS)) := by rw [hU]; exact k3
        have Ul : U.length ≤ n := by rw [hU]; exact UN_len _ _
        have dU : Dp K H7 (.ref pu) (.list (U.map sD')) := .lst (sq_of k3) (allStrs U)
        have dG : Dp K H7 (.ref pg) (.list ((SG rss n).map sD')) := .lst (sq_of (e67 pg _ kg)) (allStrs _)
        have inU : ∀ s ∈ SG rss n, s ∈ U := fun s hs => by rw [hU]; exact puts_mem hs
        -- row
        have N3 := nLc (K := K) (σ := [some (.ref a), some (.ref d), some (.int (n : Int)), some (.ref pS), some (.ref pk), some (.ref pg), b6, some (.ref pu), b8, none, none, none, none, none, none, none, none, none, none, none, none]) (H := H7) (wi := iList K (tVar 5)) (g := gName 8) (tt := tYes) (te := tBM K "list" (rIndex K) (tVar 7) (tCons (tVar 8) tNil)) (vs := [8]) (fun _ => true) (fun j => iD' (U.idxOf ((SG rss n).getD j []))) (by rw [List.length_map]; omega) (wkList (ev_var (v := .ref pg) rfl) dG).asN (fun Dl j v H8 hj e8 hd' => by
          rw [List.length_map] at hj
          rw [getD_map sD' (List.getElem?_eq_getElem hj)] at hd'
          cases dpStr hd'
          rw [getD_at [] hj]
          have hm := inU (SG rss n)[j] (List.getElem_mem hj)
          generalize (SG rss n)[j] = s1 at hm
          refine ⟨[some (.ref a), some (.ref d), some (.int (n : Int)), some (.ref pS), some (.ref pk), some (.ref pg), b6, some (.ref pu), some (vS s1), none, none, none, none, none, none, none, none, none, none, none, none], fun Q q => q, rfl, et_yes, fun _ => EvD.x (EvD.of (v := .int (U.idxOf s1 : Nat)) (fun H9 e9 Q q => ?_) (.int _)) rfl⟩
          have k39 := (e8.trans e9) pu _ k3
          have hlt := List.idxOf_lt_length_iff.mpr hm
          refine ⟨.ref pu, rfl, .inl ⟨rfl, _, sq_of k39⟩, vS s1, rfl, pu, _, vS s1, U.idxOf s1, vS s1, rfl, rfl, sq_of k39, rfl, flatStrs U, ?_, by rw [eqStr]; exact decide_eq_true rfl, fun m z' hm' hz' => ?_, q H9 (Ex.refl H9)⟩
          · rw [List.getElem?_map, List.getElem?_eq_getElem hlt, List.getElem_idxOf hlt]; rfl
          · rw [List.getElem?_map, List.getElem?_eq_getElem (Nat.lt_trans hm' hlt)] at hz'
            have ez := Option.some.inj hz'
            subst ez
            rw [eqStr]
            refine decide_eq_false fun z => ?_
            have := List.not_of_lt_findIdx (p := (· == s1)) (xs := U) hm'
            rw [z] at this
            simp at this)
        rw [outs_all, List.length_map, range_getD (fun s => iD' (U.idxOf s)) [] (SG rss n), show (SG rss n).map (fun s => iD' (U.idxOf s)) = msD (rowF rss n) by rw [hU]; unfold msD rowF; rw [List.map_map]; rfl] at N3
        refine sAsgN N3 fun pr xr H8 hpr e8 h8 A8 => ?_
        have dR : Dp K H8 (.ref pr) (.list (msD (rowF rss n))) := .lst (sq_of h8) A8
        have rfl' : (rowF rss n).length = n := by unfold rowF; rw [List.length_map, sgl]
        -- some
        refine ⟨Nat.zero_le _, fun pm hpm => ?_⟩
        have e89 : Ex H8 (upd H8 pm (.lst [])) := Ex.new hpm
        have h9m : (upd H8 pm (.lst [])) pm = some (.lst []) := upd_same
        generalize upd H8 pm (.lst []) = H9 at e89 h9m ⊢
        have dU8 := SB.mono e8 dU
        have cll : (clsF rss n).length = U.length := by unfold clsF; rw [List.length_map, List.length_range, hU]
        refine sFor (K := K) (B := H8) e89 (wkRange1 (j := (U.length : Int)) (ea_cons (ev_is (lenD (v := .ref pu) rfl (.inl dU8) rfl) (by rw [List.length_map])) ea_nil) ⟨by omega, by omega⟩) (fun c σ' H' => Ex H8 H' ∧ (∃ vs, H' pm = some (.lst vs) ∧ DpAll K (rm H' pm) vs (((clsF rss n).take c).map fun l => .list (l.map rD))) ∧ ∃ b6, σ' = [some (.ref a), some (.ref d), some (.int (n : Int)), some (.ref pS), some (.ref pk), some (.ref pg), b6, some (.ref pu), b8, some (.ref pr), some (.ref pm), none, none, none, none, none, none, none, none, none, none]) (fun Hz ez => ⟨e89.trans ez, ⟨[], ez pm _ h9m, .nil⟩, b6, rfl⟩) (fun k σ' H' _ p => p.1) (fun c x σ' H' H'' hc p ez hd => ?_) (fun σ' H10 p => ?_)
        · obtain ⟨ea, ⟨vs, km, kA⟩, b6, rfl⟩ := p
          rw [Int.toNat_natCast] at hc
          cases dpInt hd
          have eb := ea.trans ez
          have N4 := nLc (K := K) (σ := [some (.ref a), some (.ref d), some (.int (n : Int)), some (.ref pS), some (.ref pk), some (.ref pg), some (.int (c : Nat)), some (.ref pu), b8, some (.ref pr), some (.ref pm), none, none, none, none, none, none, none, none, none, none]) (H := H'') (wi := iRng1 (tCons (tVar 2) tNil)) (g := gName 11) (tt := tTest (tOp rEq (tOp (rIxL K) (tVar 9) (tVar 11)) (tVar 6))) (te := tVar 11) (vs := [11]) (n := (n : Int).toNat) (fun k => decide ((rowF rss n).getD k 0 = c)) iD' (by omega) (wkRange1 (ea_cons (ev_var rfl) ea_nil) ⟨by omega, by omega⟩).asN (fun Dl k v Hz hk e6 hd' => by
            rw [Int.toNat_natCast] at hk
            cases dpInt hd'
            have hk' : k < (rowF rss n).length := by rw [rfl']; exact hk
            refine ⟨[some (.ref a), some (.ref d), some (.int (n : Int)), some (.ref pS), some (.ref pk), some (.ref pg), some (.int (c : Nat)), some (.ref pu), b8, some (.ref pr), some (.ref pm), some (.int (k : Nat)), none, none, none, none, none, none, none, none, none], fun Q q => q, rfl, et_is (et_test (ev_op (x := .int ((rowF rss n)[k] : Nat)) (y := .int (c : Nat)) (dIxL (i := (k : Nat)) (d := iD' (rowF rss n)[k]) (dVar (v := .ref pr) rfl (SB.mono (eb.trans e6) dR)) (ev_var rfl) (atI_nat (by unfold msD; rw [List.getElem?_map, List.getElem?_eq_getElem hk']; rfl))).int (ev_var rfl) (rv_eq rfl))) ?_, fun _ => (dVar (d := iD' k) rfl (.int _)).x rfl⟩
            rw [getD_at 0 hk', Bool.eq_iff_iff]
            simp only [decide_eq_true_eq, V.int.injEq]
            omega)
          rw [Int.toNat_natCast] at N4
          have vl : vs.length < 100000 := by rw [allLen kA, List.length_map, List.length_take]; omega
          refine sAppX (K := K) (ez pm _ km) (monoA (rmMono ez) kA) vl (ev_var (v := .ref pm) rfl) ((nCall (R := RTold) (E := E0) (da1 N4.asD) ⟨n, fun k => decide ((rowF rss n).getD k 0 = c), rfl, hn64, rfl⟩).x (noLs_map noL_rD _)) fun vs' H10 h10 A10 keep => ⟨keep H8 hpm eb, ⟨vs', h10, ?_⟩, some (.int (c : Nat)), rfl⟩
          have hcl : (clsF rss n)[c]? = some (told (fun k => decide ((rowF rss n).getD k 0 = c)) n) := by unfold clsF; rw [List.getElem?_map, List.getElem?_range (by rw [← hU]; exact hc)]; rfl
          rw [List.take_add_one, hcl, List.map_append]
          exact A10
        · obtain ⟨e810, ⟨vs, km, kA⟩, b6, rfl⟩ := p
          rw [Int.toNat_natCast, List.take_of_length_le (by omega)] at kA
          have dM : Dp K H10 (.ref pm) (.list ((clsF rss n).map fun l => .list (l.map rD))) := .lst (sq_of km) (monoA rmEx kA)
          -- every
          refine ⟨Nat.zero_le _, fun pe hpe => ?_⟩
          have e1011 : Ex H10 (upd H10 pe (.lst [])) := Ex.new hpe
          have h11e : (upd H10 pe (.lst [])) pe = some (.lst []) := upd_same
          generalize upd H10 pe (.lst []) = H11 at e1011 h11e ⊢
          have e310 : Ex H3 H10 := ((e4.trans e46).trans e67).trans (e8.trans e810)
          have s10 := SB.mono e310 s3
          have dU10 := SB.mono e810 dU8
          have evl : (evF rss n).length = rss.length := by unfold evF; rw [List.length_map, List.length_range]
          refine sFor (K := K) (B := H10) e1011 (wkRange1 (j := (rss.length : Int)) (ea_cons (ev_is (lenD (v := .ref pS) rfl (.inl s10) rfl) (by rw [List.length_map])) ea_nil) ⟨by omega, by omega⟩) (fun t σ' H' => Ex H10 H' ∧ (∃ vs, H' pe = some (.lst vs) ∧ DpAll K (rm H' pe) vs (((evF rss n).take t).map fun l => .list (msD l))) ∧ ∃ b13, σ' = [some (.ref a), some (.ref d), some (.int (n : Int)), some (.ref pS), some (.ref pk), some (.ref pg), b6, some (.ref pu), b8, some (.ref pr), some (.ref pm), none, some (.ref pe), b13, none, none, none, none, none, none, none]) (fun Hz ez => ⟨e1011.trans ez, ⟨[], ez pe _ h11e, .nil⟩, none, rfl⟩) (fun k σ' H' _ p => p.1) (fun t x σ' H' H'' ht p ez hd => ?_) (fun σ' H12 p => ?_)
          · obtain ⟨ea, ⟨vs, ke, kE⟩, b13, rfl⟩ := p
            rw [Int.toNat_natCast] at ht
            cases dpInt hd
            have eb := ea.trans ez
            have N5 := nLc (K := K) (σ := [some (.ref a), some (.ref d), some (.int (n : Int)), some (.ref pS), some (.ref pk), some (.ref pg), b6, some (.ref pu), b8, some (.ref pr), some (.ref pm), none, some (.ref pe), some (.int (t : Nat)), none, none, none, none, none, none, none]) (H := H'') (wi := iRng1 (tCons (tCB (fun xs H Q => ∃ p ys, xs = [.ref p] ∧ (SqL K H p ys ∨ SqT K H p ys) ∧ Q (.int ys.length) H) (tCons (tVar 7) tNil)) tNil)) (g := gName 6) (tt := tTest (tOp rEq (tOp rIxS (tOp (rIxL K) (tVar 7) (tVar 6)) (tVar 13)) (tC (.str (PySem.Str.ofString "1"))))) (te := tVar 6) (vs := [6]) (n := (U.length : Int).toNat) (fun c => (U.getD c []).getD t false) iD' (by omega) (wkRange1 (ea_cons (ev_is (lenD (v := .ref pu) rfl (.inl (SB.mono eb dU10)) rfl) (by rw [List.length_map])) ea_nil) ⟨by omega, by omega⟩).asN (fun Dl c v Hz hc e6 hd' => by
              rw [Int.toNat_natCast] at hc
              cases dpInt hd'
              have hlc : (U.getD c []).length = rss.length := by rw [hU]; exact UN_at (by rw [← hU]; exact hc)
              rw [getD_at [] hc] at hlc ⊢
              have htl : t < U[c].length := by rw [hlc]; exact ht
              refine ⟨[some (.ref a), some (.ref d), some (.int (n : Int)), some (.ref pS), some (.ref pk), some (.ref pg), some (.int (c : Nat)), some (.ref pu), b8, some (.ref pr), some (.ref pm), none, some (.ref pe), some (.int (t : Nat)), none, none, none, none, none, none, none], fun Q q => q, rfl, et_is (et_test (ev_op (x := .str ⟨#[bt (U[c].getD t false)]⟩) (y := .str (PySem.Str.ofString "1")) (fun H7 e7 Q q => ?_) ev_c (rv_eq rfl))) (bit_eq _), fun _ => (dVar (d := iD' c) rfl (.int _)).x rfl⟩
              refine dIxL (K := K) (ta := tVar 7) (tb := tVar 6) (σ := [some (.ref a), some (.ref d), some (.int (n : Int)), some (.ref pS), some (.ref pk), some (.ref pg), some (.int (c : Nat)), some (.ref pu), b8, some (.ref pr), some (.ref pm), none, some (.ref pe), some (.int (t : Nat)), none, none, none, none, none, none, none]) (i := (c : Nat)) (d := sD' U[c]) (dVar (v := .ref pu) rfl (SB.mono (eb.trans e6) dU10)) (ev_var rfl) (atI_nat (by rw [List.getElem?_map, List.getElem?_eq_getElem hc]; rfl)) H7 e7 _ fun v8 H8' e8' hd8 => ?_
              cases dpStr hd8
              refine ⟨.int (t : Nat), rfl, enc U[c], (t : Nat), bt (U[c].getD t false), rfl, rfl, by rw [enc_len, hlc]; exact sz_of (by omega), atI_nat ?_, q H8' e8'⟩
              show ((U[c].map bt).toArray.toList)[t]? = _
              rw [show (U[c].map bt).toArray.toList = U[c].map bt by simp, List.getElem?_map, List.getElem?_eq_getElem htl, getD_at false htl]; rfl)
            rw [Int.toNat_natCast] at N5
            have vl : vs.length < 100000 := by rw [allLen kE, List.length_map, List.length_take]; omega
            refine sAppX (K := K) (ez pe _ ke) (monoA (rmMono ez) kE) vl (ev_var (v := .ref pe) rfl) (N5.x (noLs_map (fun _ => rfl) _)) fun vs' H13 h13 A13 keep => ⟨keep H10 hpe eb, ⟨vs', h13, ?_⟩, some (.int (t : Nat)), rfl⟩
            have hev : (evF rss n)[t]? = some ((List.range U.length).filter fun c => (U.getD c []).getD t false) := by unfold evF; rw [List.getElem?_map, List.getElem?_range ht, hU]; rfl
            rw [List.take_add_one, hev, List.map_append]
            exact A13
          · obtain ⟨e1012, ⟨vs, ke, kE⟩, b13, rfl⟩ := p
            rw [Int.toNat_natCast, List.take_of_length_le (by omega)] at kE
            have dE : Dp K H12 (.ref pe) (.list ((evF rss n).map fun l => .list (msD l))) := .lst (sq_of ke) (monoA rmEx kE)
            have e312 := e310.trans e1012
            have s12 := SB.mono e312 s3
            -- handed
            have N6 := nLc (K := K) (σ := [some (.ref a), some (.ref d), some (.int (n : Int)), some (.ref pS), some (.ref pk), some (.ref pg), b6, some (.ref pu), b8, some (.ref pr), some (.ref pm), none, some (.ref pe), b13, none, none, none, none, none, none, none]) (H := H12) (wi := iList K (tVar 3)) (g := gName 19) (tt := tYes) (te := tCB (fun xs H Q => ∃ p ys, xs = [.ref p] ∧ (SqL K H p ys ∨ SqT K H p ys) ∧ ∀ l, H l = none → Q (.ref l) (upd H l (.lst ys))) (tCons (tVar 19) tNil)) (vs := [19]) (fun _ => true) (fun j => sD (rss.getD j [])) (by rw [List.length_map]; omega) (wkList (ev_var (v := .ref pS) rfl) s12).asN (fun Dl j x H6 hj e6 hd => by
              rw [List.length_map] at hj
              rw [getD_map sD (List.getElem?_eq_getElem hj)] at hd
              rw [getD_at [] hj]
              exact ⟨[some (.ref a), some (.ref d), some (.int (n : Int)), some (.ref pS), some (.ref pk), some (.ref pg), b6, some (.ref pu), b8, some (.ref pr), some (.ref pm), none, some (.ref pe), b13, none, none, none, none, none, some x, none], fun Q q => q, rfl, et_yes, fun _ => (nListOf (dVar (v := x) rfl hd) rfl).x (noLs_map noL_rD _)⟩)
            rw [outs_all, List.length_map, range_getD sD [] rss] at N6
            refine sAsgN N6 fun ph xh H13 hph e13 h13 A13 => ?_
            have dH : Dp K H13 (.ref ph) (ssD rss) := .lst (sq_of h13) A13
            have e813 : Ex H8 H13 := (e810.trans e1012).trans e13
            have dR13 := SB.mono e813 dR
            have dM13 := SB.mono (e1012.trans e13) dM
            have dE13 := SB.mono e13 dE
            have s13 := SB.mono e13 s12
            have hw1 : wide (ansD rss n) = true := ansD_wide hn hr6
            have hd1 := ansD_depth rss n
            refine sFor (K := K) (B := H13) (Ex.refl H13) (wkRange1 (j := 2) (ea_cons ev_c ea_nil) ⟨by decide, by decide⟩) (fun t σ' H' => Ex H13 H' ∧ ∃ b15 b16 b17, σ' = [some (.ref a), some (.ref d), some (.int (n : Int)), some (.ref pS), some (.ref pk), some (.ref pg), b6, some (.ref pu), b8, some (.ref pr), some (.ref pm), none, some (.ref pe), b13, some (.ref ph), b15, b16, b17, none, none, none]) (fun Hz ez => ⟨ez, none, none, none, rfl⟩) (fun k σ' H' _ p => p.1) (fun t x σ' H' Hs ht p ez hd => ?_) (fun σ' H14 p => ?_)
            · obtain ⟨ea, b15, b16, b17, rfl⟩ := p
              cases dpInt hd
              have eb := ea.trans ez
              have argH : ∀ {σ : L2.St} {Hx : Hp}, σ[2]? = some (some (.int (n : Int))) → σ[14]? = some (some (.ref ph)) → Ex H13 Hx → EvDA K (tCons (tVar 2) (tCons (tVar 14) tNil)) σ Hx [.int (n : Int), ssD rss] := fun z1 z2 z3 => da2 (dVar z1 (.int (n : Int))) (dVar z2 (SB.mono z3 dH))
              refine nCall (K := K) (R := RRow) (E := E0) (σ := [some (.ref a), some (.ref d), some (.int (n : Int)), some (.ref pS), some (.ref pk), some (.ref pg), b6, some (.ref pu), b8, some (.ref pr), some (.ref pm), none, some (.ref pe), b13, some (.ref ph), some (.int (t : Nat)), b16, b17, none, none, none]) (argH rfl rfl eb) ⟨n, rss, rfl, hn, hss.g, rfl⟩ Hs (Ex.refl Hs) _ fun c0 x0 Ha hc0 ea' h0 A0 => ?_
              refine pCall (K := K) (argH rfl rfl (eb.trans ea')) hn hss.g fun p1 ps1 Hb hp1 eb' h1p pr1 np1 => ?_
              refine pCall (K := K) (argH rfl rfl ((eb.trans ea').trans eb')) hn hss.g fun p2 ps2 Hc hp2 ec' h2p pr2 np2 => ?_
              refine ⟨by show 3 ≤ sizeLine; decide, fun pF hpF => ?_⟩
              have esc : Ex Hs Hc := (ea'.trans eb').trans ec'
              have esd : Ex Hs (upd Hc pF (.lst [.ref c0, .ref p1, .ref p2])) := esc.trans (Ex.new hpF)
              have hF : (upd Hc pF (.lst [.ref c0, .ref p1, .ref p2])) pF = some (.lst [.ref c0, .ref p1, .ref p2]) := upd_same
              have hc0d := (Ex.new (o := .lst [.ref c0, .ref p1, .ref p2]) hpF) c0 _ ((eb'.trans ec') c0 _ h0)
              have hp1d := (Ex.new (o := .lst [.ref c0, .ref p1, .ref p2]) hpF) p1 _ (ec' p1 _ h1p)
              have hp2d := (Ex.new (o := .lst [.ref c0, .ref p1, .ref p2]) hpF) p2 _ h2p
              have A0d := monoA ((eb'.trans ec').trans (Ex.new (o := .lst [.ref c0, .ref p1, .ref p2]) hpF)) A0
              have pr1d := pr1.mono (ec'.trans (Ex.new (o := .lst [.ref c0, .ref p1, .ref p2]) hpF))
              have pr2d := pr2.mono (Ex.new (o := .lst [.ref c0, .ref p1, .ref p2]) hpF)
              generalize upd Hc pF (.lst [.ref c0, .ref p1, .ref p2]) = Hd at esd hF hc0d hp1d hp2d A0d pr1d pr2d
              have dFd : Dp K Hd (.ref pF) (ansD rss n) := by
                refine .lst (sq_of hF) (.cons (.lst (sq_of hc0d) A0d) (.cons (.lst (sq_of hp1d) ?_) (.cons (.lst (sq_of hp2d) ?_) .nil)))
                · have z := pr1d.dp
                  unfold clsD at z
                  rw [List.map_map] at z
                  exact z
                · have z := pr2d.dp
                  unfold evD at z
                  rw [List.map_map] at z
                  exact z
              have e13d := eb.trans esd
              refine s_if (b := false) (et_is (et_or (a := !true) (b := !true) (et_not (et_B (evAlike (da2 (dVar (v := .ref pF) rfl dFd) (nLst (daCons (dVar (v := .ref pr) rfl (SB.mono e13d dR13)) (da2 (dVar (v := .ref pm) rfl (SB.mono e13d dM13)) (dVar (v := .ref pe) rfl (SB.mono e13d dE13)))) (by show 3 ≤ 100000; decide)).asD) hw1 hd1))) (fun _ => et_is (et_test (neD (dVar (v := .ref ph) rfl (SB.mono e13d dH)) (dVar (v := .ref pS) rfl (SB.mono e13d s13)) (sh_ssD rss) (sh_ssD rss))) (congrArg (fun z => !z) (eqvSame (sh_ssD rss))))) rfl) (fun z => nomatch z) (fun _ He ee => ?_)
              -- for part in found[1] + found[2] + found
              have hFe := ee pF _ hF
              have hp1e := ee p1 _ hp1d
              have hp2e := ee p2 _ hp2d
              have hc0e := ee c0 _ hc0d
              have ln1 : ps1.length ≤ 64 := by rw [pr1.len]; unfold clsD; rw [List.length_map, cll]; omega
              have ln2 : ps2.length ≤ 6 := by rw [pr2.len]; unfold evD; rw [List.length_map, evl]; exact hr6
              refine ⟨.ref pF, rfl, pF, _, 1, .ref p1, rfl, rfl, sq_of hFe, atI_nat (j := 1) rfl, .ref pF, rfl, pF, _, 2, .ref p2, rfl, rfl, sq_of hFe, atI_nat (j := 2) rfl, p1, p2, _, _, rfl, rfl, hp1e, hp2e, sz_of (by rw [List.length_map, List.length_map]; omega), fun w1 hw1' => ?_⟩
              have hFw := (Ex.new (o := .lst (ps1.map V.ref ++ ps2.map V.ref)) hw1') pF _ hFe
              refine ⟨.ref pF, rfl, w1, pF, _, _, rfl, rfl, upd_same, hFw, sz_of (by rw [List.length_append, List.length_map, List.length_map]; show ps1.length + ps2.length + 3 ≤ 100000; omega), fun w2 hw2 => ?_⟩
              have eef : Ex He (upd (upd He w1 (.lst (ps1.map V.ref ++ ps2.map V.ref))) w2 (.lst (ps1.map V.ref ++ ps2.map V.ref ++ [.ref c0, .ref p1, .ref p2]))) := (Ex.new hw1').trans (Ex.new hw2)
              obtain ⟨L, hL⟩ : ∃ L, L = ps1 ++ ps2 ++ [c0, p1, p2] := ⟨_, rfl⟩
              have hw2L : (upd (upd He w1 (.lst (ps1.map V.ref ++ ps2.map V.ref))) w2 (.lst (ps1.map V.ref ++ ps2.map V.ref ++ [.ref c0, .ref p1, .ref p2]))) w2 = some (.lst (L.map V.ref)) := by rw [upd_same, hL, List.map_append, List.map_append]; rfl
              have hw2f : He w2 = none := fresh_back (Ex.new hw1') hw2
              generalize upd (upd He w1 (.lst (ps1.map V.ref ++ ps2.map V.ref))) w2 (.lst (ps1.map V.ref ++ ps2.map V.ref ++ [.ref c0, .ref p1, .ref p2])) = Hf at eef hw2L ⊢
              have all : ∀ b ∈ L, Hs b = none ∧ ∃ xs, He b = some (.lst xs) ∧ xs.length ≤ 64 := fun b hb => by
                rw [hL] at hb
                rcases List.mem_append.mp hb with hb | hb
                · rcases List.mem_append.mp hb with hb | hb
                  · refine ⟨fresh_back ea' (pr1.fresh b hb), ?_⟩
                    refine (pr1d.mono ee).lists (fun ds hds => ?_) b hb
                    obtain ⟨l, hl', rfl⟩ := List.mem_map.mp hds
                    unfold clsF at hl'
                    obtain ⟨c, _, rfl⟩ := List.mem_map.mp hl'
                    have := told_len (fun k => decide ((rowF rss n).getD k 0 = c)) n
                    rw [List.length_map]; omega
                  · refine ⟨fresh_back (ea'.trans eb') (pr2.fresh b hb), ?_⟩
                    refine (pr2d.mono ee).lists (fun ds hds => ?_) b hb
                    obtain ⟨l, hl', rfl⟩ := List.mem_map.mp hds
                    unfold evF at hl'
                    obtain ⟨c, _, rfl⟩ := List.mem_map.mp hl'
                    rw [msD_len]
                    have := List.length_filter_le (fun c' => ((UN rss n).getD c' []).getD c false) (List.range (UN rss n).length)
                    rw [List.length_range] at this
                    have := UN_len rss n
                    omega
                · rcases List.mem_cons.mp hb with rfl | hb
                  · exact ⟨hc0, x0, hc0e, by rw [allLen A0, msD_len, rfl']; exact hn64⟩
                  · rcases List.mem_cons.mp hb with rfl | hb
                    · exact ⟨fresh_back ea' hp1, _, hp1e, by rw [List.length_map]; exact ln1⟩
                    · rw [List.mem_singleton.mp hb]
                      exact ⟨fresh_back (ea'.trans eb') hp2, _, hp2e, by rw [List.length_map]; omega⟩
              have hw2n : w2 ∉ L := fun z => by
                obtain ⟨_, xs, z1, _⟩ := all w2 z
                rw [hw2f] at z1; cases z1
              have Ll : L.length ≤ 73 := by rw [hL, List.length_append, List.length_append]; show ps1.length + ps2.length + 3 ≤ 73; omega
              refine ⟨w2, rfl, ⟨_, sq_of hw2L⟩, ?_⟩
              refine for_list (K := K) (a := w2) (xs := L.map V.ref) (fun j σ' H' => Ex Hs H' ∧ H' w2 = some (.lst (L.map V.ref)) ∧ (∀ b ∈ L, ∃ xs, H' b = some (.lst xs) ∧ xs.length ≤ 64 + j) ∧ ∃ b17, σ' = [some (.ref a), some (.ref d), some (.int (n : Int)), some (.ref pS), some (.ref pk), some (.ref pg), b6, some (.ref pu), b8, some (.ref pr), some (.ref pm), none, some (.ref pe), b13, some (.ref ph), some (.int (t : Nat)), some (.ref pF), b17, none, none, none]) ⟨(esd.trans ee).trans eef, hw2L, fun b hb => by
                obtain ⟨_, xs, z1, z2⟩ := all b hb
                exact ⟨xs, eef b _ z1, by omega⟩, b17, rfl⟩ (fun j σ' H' _ p2 => sq_of p2.2.1) (fun j x σ' H' hx p2 => ?_) (fun σ' Hi p2 => ?_)
              · obtain ⟨k1, k2, k6, b17, rfl⟩ := p2
                have hil : j < L.length := by
                  have := (List.getElem?_eq_some_iff.mp hx).1
                  rw [List.length_map] at this; exact this
                have ex : x = .ref L[j] := by
                  rw [List.getElem?_map, List.getElem?_eq_getElem hil] at hx
                  exact (Option.some.inj hx).symm
                subst ex
                have hmem : L[j] ∈ L := List.getElem_mem hil
                generalize L[j] = b at hmem
                obtain ⟨xs, z1, z2⟩ := k6 b hmem
                refine ⟨.ref b, rfl, .inl ⟨rfl, _, SqL.of z1⟩, 1, rfl, b, xs, _, rfl, rfl, z1, sz_lt (by omega), ?_⟩
                refine ⟨Ex.mut k1 (all b hmem).1, (upd_ne (fun z : w2 = b => hw2n (by rw [z]; exact hmem))).trans k2, fun b' hb' => ?_, some (.ref b), rfl⟩
                by_cases cb : b' = b
                · subst cb
                  exact ⟨_, upd_same, by rw [List.length_append]; show xs.length + 1 ≤ _; omega⟩
                · obtain ⟨xs', w1', w2'⟩ := k6 b' hb'
                  exact ⟨xs', by rw [upd_ne cb]; exact w1', by omega⟩
              · obtain ⟨k1, k2, k6, b17, rfl⟩ := p2
                exact ⟨eb.trans k1, _, _, _, rfl⟩
            · obtain ⟨e1314, b15, b16, b17, rfl⟩ := p
              have e314 := (e312.trans e13).trans e1314
              have D14 := Dk.of d3 e314
              refine offCall (d := d) (m := (n : Int)) rfl (fun Q q => ⟨.int (n : Int), rfl, q⟩) D14.st ⟨by omega, by omega⟩ fun r H15 hr0 hr1 D15 => ?_
              obtain ⟨x, rfl⟩ : ∃ x : Nat, r = (x : Int) := ⟨r.toNat, by omega⟩
              have s15 : Dp K H15 (.ref pS) (ssD rss) := SB.mono rmEx (SB.mono D15.ex (SB.mono (rmMono e314) s3r))
              have g5 : SetsG n (rss.take 5) := ⟨by rw [List.length_take]; omega, fun rs hrs => (hss.2 rs (List.mem_of_mem_take hrs)).2⟩
              have g6 : SetsG n (rss.take 5 ++ [[(x, x)]]) := ⟨by rw [List.length_append, List.length_take]; show min 5 rss.length + 1 ≤ 6; omega, fun rs hrs => by
                rcases List.mem_append.mp hrs with h | h
                · exact (hss.2 rs (List.mem_of_mem_take h)).2
                · rw [List.mem_singleton.mp h]
                  exact ⟨by show 1 ≤ 40; decide, fun r hr => by rw [List.mem_singleton.mp hr]; exact ⟨Nat.le_refl _, by show x < n; omega⟩⟩⟩
              have clen : ∀ rss' : List (List (Nat × Nat)), ((clsD n rss').map PyData.list).length = (UN rss' n).length := fun rss' => by unfold clsD clsF; rw [List.length_map, List.length_map, List.length_map, List.length_range]
              have cut5 : ∀ {σ : L2.St} {Hx : Hp}, σ[3]? = some (some (.ref pS)) → Ex H15 Hx → EvN K (tSl (rSlL K) (tVar 3) tNoPart (tPart (tC (.int ((5 : Nat) : Int))))) σ Hx ((rss.take 5).map sD) := fun z1 z2 => by
                have z := nCut (k := 5) (dVar z1 (SB.mono z2 s15))
                rw [← List.map_take] at z
                exact z
              refine s_asg (v := .int ((UN (rss.take 5) n).length : Int)) (ev_is (lenE (vP (f := clsD) (rss := rss.take 5) (da2 (dVar (v := .int (n : Int)) rfl (.int (n : Int))) (cut5 rfl (Ex.refl H15)).asD) hn g5) rfl) (by rw [clen])) fun H16 e16 => ?_
              have hm := UN_more (rss.take 5) n x
              have cat6 : EvN K (tOp rCat (tSl (rSlL K) (tVar 3) tNoPart (tPart (tC (.int ((5 : Nat) : Int))))) (tLst (tCons (tLst (tCons (tTup (tCons (tVar 11) (tCons (tVar 11) tNil))) tNil)) tNil))) [some (.ref a), some (.ref d), some (.int (n : Int)), some (.ref pS), some (.ref pk), some (.ref pg), b6, some (.ref pu), b8, some (.ref pr), some (.ref pm), some (.int (x : Int)), some (.ref pe), b13, some (.ref ph), b15, b16, b17, some (.int ((UN (rss.take 5) n).length : Int)), none, none] H16 ((rss.take 5 ++ [[(x, x)]]).map sD) := by
                rw [List.map_append]
                exact nCat (cut5 rfl e16) (nLst (da1 (nLst (da1 (dTup (da2 (dVar (v := .int (x : Int)) rfl (.int (x : Int))) (dVar (v := .int (x : Int)) rfl (.int (x : Int)))) (by show 2 ≤ 100000; decide))) (by show 1 ≤ 100000; decide)).asD) (by show 1 ≤ 100000; decide)) (by rw [List.length_map, List.length_take]; show min 5 rss.length + 1 ≤ 100000; omega)
              refine s_ret (v := .bl true) (ev_is (ev_chain2 (f := fun a b => decide (a ≤ b)) (f' := fun a b => decide (a ≤ b)) (ev_var rfl) (ev_is (lenE (vP (f := clsD) (rss := rss.take 5 ++ [[(x, x)]]) (da2 (dVar (v := .int (n : Int)) rfl (.int (n : Int))) cat6.asD) hn g6) rfl) (by rw [clen])) (ev_op (x := .int ((UN (rss.take 5) n).length : Int)) (ev_var rfl) ev_c rv_I0)) ?_) fun H17 _ => q H17
              rw [decide_eq_true (show ((UN (rss.take 5) n).length : Int) ≤ ((UN (rss.take 5 ++ [[(x, x)]]) n).length : Int) by omega), decide_eq_true (show ((UN (rss.take 5 ++ [[(x, x)]]) n).length : Int) ≤ ((UN (rss.take 5) n).length : Int) + 1 by omega)]; rfl
end

section
theorem all_mk {l : PySem.W.OpenLaw} {w : World} {K : PySem.W.Frag} {h : Heap} {mg : Str → Option Value} {fa : Addr} (X : K.In h) (G : h.Ns mainGlobals mg) (hfa : mg "law" = some (.ref fa))
    {f0 : Addr} {od0 an0 : Option Addr} {sl0 : Array (Option Value)} {oc0 kV0 dc0 pm0 cd0 ct0 : Value}
    (a0 : PySem.W.nsIn K mainGlobals "check_size" = some (some (.ref f0))) (l0 : K.lookup f0 = some ⟨oc0, od0, .func (PySem.W.fnOf "check_size" "check_size" (defArgs sCheckSize) (defBody sCheckSize) (defScope sCheckSize) .none kV0 dc0 pm0 an0 cd0 ct0), sl0⟩) (c0 : PySem.W.codeIn K cd0 "check_size" = true) (k0 : PySem.W.keepIn K (.ref f0) = true)
    {f1 : Addr} {od1 an1 : Option Addr} {sl1 : Array (Option Value)} {oc1 kV1 dc1 pm1 cd1 ct1 : Value}
    (a1 : PySem.W.nsIn K mainGlobals "check_set" = some (some (.ref f1))) (l1 : K.lookup f1 = some ⟨oc1, od1, .func (PySem.W.fnOf "check_set" "check_set" (defArgs sCheckSet) (defBody sCheckSet) (defScope sCheckSet) .none kV1 dc1 pm1 an1 cd1 ct1), sl1⟩) (c1 : PySem.W.codeIn K cd1 "check_set" = true) (k1 : PySem.W.keepIn K (.ref f1) = true)
    {f2 : Addr} {od2 an2 : Option Addr} {sl2 : Array (Option Value)} {oc2 kV2 dc2 pm2 cd2 ct2 : Value}
    (a2 : PySem.W.nsIn K mainGlobals "marks_of" = some (some (.ref f2))) (l2 : K.lookup f2 = some ⟨oc2, od2, .func (PySem.W.fnOf "marks_of" "marks_of" (defArgs sMarksOf) (defBody sMarksOf) (defScope sMarksOf) .none kV2 dc2 pm2 an2 cd2 ct2), sl2⟩) (c2 : PySem.W.codeIn K cd2 "marks_of" = true) (k2 : PySem.W.keepIn K (.ref f2) = true)
    {f3 : Addr} {od3 an3 : Option Addr} {sl3 : Array (Option Value)} {oc3 kV3 dc3 pm3 cd3 ct3 : Value}
    (a3 : PySem.W.nsIn K mainGlobals "checked_marks" = some (some (.ref f3))) (l3 : K.lookup f3 = some ⟨oc3, od3, .func (PySem.W.fnOf "checked_marks" "checked_marks" (defArgs sCheckedMarks) (defBody sCheckedMarks) (defScope sCheckedMarks) .none kV3 dc3 pm3 an3 cd3 ct3), sl3⟩) (c3 : PySem.W.codeIn K cd3 "checked_marks" = true) (k3 : PySem.W.keepIn K (.ref f3) = true)
    {f4 : Addr} {od4 an4 : Option Addr} {sl4 : Array (Option Value)} {oc4 kV4 dc4 pm4 cd4 ct4 : Value}
    (a4 : PySem.W.nsIn K mainGlobals "row_of" = some (some (.ref f4))) (l4 : K.lookup f4 = some ⟨oc4, od4, .func (PySem.W.fnOf "row_of" "row_of" (defArgs sRowOf) (defBody sRowOf) (defScope sRowOf) .none kV4 dc4 pm4 an4 cd4 ct4), sl4⟩) (c4 : PySem.W.codeIn K cd4 "row_of" = true) (k4 : PySem.W.keepIn K (.ref f4) = true)
    {f5 : Addr} {od5 an5 : Option Addr} {sl5 : Array (Option Value)} {oc5 kV5 dc5 pm5 cd5 ct5 : Value}
    (a5 : PySem.W.nsIn K mainGlobals "class_row" = some (some (.ref f5))) (l5 : K.lookup f5 = some ⟨oc5, od5, .func (PySem.W.fnOf "class_row" "class_row" (defArgs sClassRow) (defBody sClassRow) (defScope sClassRow) .none kV5 dc5 pm5 an5 cd5 ct5), sl5⟩) (c5 : PySem.W.codeIn K cd5 "class_row" = true) (k5 : PySem.W.keepIn K (.ref f5) = true)
    {f6 : Addr} {od6 an6 : Option Addr} {sl6 : Array (Option Value)} {oc6 kV6 dc6 pm6 cd6 ct6 : Value}
    (a6 : PySem.W.nsIn K mainGlobals "ranges_of" = some (some (.ref f6))) (l6 : K.lookup f6 = some ⟨oc6, od6, .func (PySem.W.fnOf "ranges_of" "ranges_of" (defArgs sRangesOf) (defBody sRangesOf) (defScope sRangesOf) .none kV6 dc6 pm6 an6 cd6 ct6), sl6⟩) (c6 : PySem.W.codeIn K cd6 "ranges_of" = true) (k6 : PySem.W.keepIn K (.ref f6) = true)
    {f7 : Addr} {od7 an7 : Option Addr} {sl7 : Array (Option Value)} {oc7 kV7 dc7 pm7 cd7 ct7 : Value}
    (a7 : PySem.W.nsIn K mainGlobals "classes" = some (some (.ref f7))) (l7 : K.lookup f7 = some ⟨oc7, od7, .func (PySem.W.fnOf "classes" "classes" (defArgs sClasses) (defBody sClasses) (defScope sClasses) .none kV7 dc7 pm7 an7 cd7 ct7), sl7⟩) (c7 : PySem.W.codeIn K cd7 "classes" = true) (k7 : PySem.W.keepIn K (.ref f7) = true)
    {f8 : Addr} {od8 an8 : Option Addr} {sl8 : Array (Option Value)} {oc8 kV8 dc8 pm8 cd8 ct8 : Value}
    (a8 : PySem.W.nsIn K mainGlobals "by_classes" = some (some (.ref f8))) (l8 : K.lookup f8 = some ⟨oc8, od8, .func (PySem.W.fnOf "by_classes" "by_classes" (defArgs sByClasses) (defBody sByClasses) (defScope sByClasses) .none kV8 dc8 pm8 an8 cd8 ct8), sl8⟩) (c8 : PySem.W.codeIn K cd8 "by_classes" = true) (k8 : PySem.W.keepIn K (.ref f8) = true)
    {f9 : Addr} {od9 an9 : Option Addr} {sl9 : Array (Option Value)} {oc9 kV9 dc9 pm9 cd9 ct9 : Value}
    (a9 : PySem.W.nsIn K mainGlobals "_law_dice" = some (some (.ref f9))) (l9 : K.lookup f9 = some ⟨oc9, od9, .func (PySem.W.fnOf "_law_dice" "_law_dice" (defArgs sLawDice) (defBody sLawDice) (defScope sLawDice) .none kV9 dc9 pm9 an9 cd9 ct9), sl9⟩) (c9 : PySem.W.codeIn K cd9 "_law_dice" = true) (k9 : PySem.W.keepIn K (.ref f9) = true)
    {f10 : Addr} {od10 an10 : Option Addr} {sl10 : Array (Option Value)} {oc10 kV10 dc10 pm10 cd10 ct10 : Value}
    (a10 : PySem.W.nsIn K mainGlobals "_law_off" = some (some (.ref f10))) (l10 : K.lookup f10 = some ⟨oc10, od10, .func (PySem.W.fnOf "_law_off" "_law_off" (defArgs sLawOff) (defBody sLawOff) (defScope sLawOff) .none kV10 dc10 pm10 an10 cd10 ct10), sl10⟩) (c10 : PySem.W.codeIn K cd10 "_law_off" = true) (k10 : PySem.W.keepIn K (.ref f10) = true)
    {f11 : Addr} {od11 an11 : Option Addr} {sl11 : Array (Option Value)} {oc11 kV11 dc11 pm11 cd11 ct11 : Value}
    (a11 : PySem.W.nsIn K mainGlobals "_law_size" = some (some (.ref f11))) (l11 : K.lookup f11 = some ⟨oc11, od11, .func (PySem.W.fnOf "_law_size" "_law_size" (defArgs sLawSize) (defBody sLawSize) (defScope sLawSize) .none kV11 dc11 pm11 an11 cd11 ct11), sl11⟩) (c11 : PySem.W.codeIn K cd11 "_law_size" = true) (k11 : PySem.W.keepIn K (.ref f11) = true)
    {f12 : Addr} {od12 an12 : Option Addr} {sl12 : Array (Option Value)} {oc12 kV12 dc12 pm12 cd12 ct12 : Value}
    (a12 : PySem.W.nsIn K mainGlobals "_law_set" = some (some (.ref f12))) (l12 : K.lookup f12 = some ⟨oc12, od12, .func (PySem.W.fnOf "_law_set" "_law_set" (defArgs sLawSet) (defBody sLawSet) (defScope sLawSet) .none kV12 dc12 pm12 an12 cd12 ct12), sl12⟩) (c12 : PySem.W.codeIn K cd12 "_law_set" = true) (k12 : PySem.W.keepIn K (.ref f12) = true)
    {f13 : Addr} {od13 an13 : Option Addr} {sl13 : Array (Option Value)} {oc13 kV13 dc13 pm13 cd13 ct13 : Value}
    (a13 : PySem.W.nsIn K mainGlobals "_law_members" = some (some (.ref f13))) (l13 : K.lookup f13 = some ⟨oc13, od13, .func (PySem.W.fnOf "_law_members" "_law_members" (defArgs sLawMembers) (defBody sLawMembers) (defScope sLawMembers) .none kV13 dc13 pm13 an13 cd13 ct13), sl13⟩) (c13 : PySem.W.codeIn K cd13 "_law_members" = true) (k13 : PySem.W.keepIn K (.ref f13) = true)
    {f14 : Addr} {od14 an14 : Option Addr} {sl14 : Array (Option Value)} {oc14 kV14 dc14 pm14 cd14 ct14 : Value}
    (a14 : PySem.W.nsIn K mainGlobals "_law_told" = some (some (.ref f14))) (l14 : K.lookup f14 = some ⟨oc14, od14, .func (PySem.W.fnOf "_law_told" "_law_told" (defArgs sLawTold) (defBody sLawTold) (defScope sLawTold) .none kV14 dc14 pm14 an14 cd14 ct14), sl14⟩) (c14 : PySem.W.codeIn K cd14 "_law_told" = true) (k14 : PySem.W.keepIn K (.ref f14) = true)
    {f15 : Addr} {od15 an15 : Option Addr} {sl15 : Array (Option Value)} {oc15 kV15 dc15 pm15 cd15 ct15 : Value}
    (a15 : PySem.W.nsIn K mainGlobals "_law_sets" = some (some (.ref f15))) (l15 : K.lookup f15 = some ⟨oc15, od15, .func (PySem.W.fnOf "_law_sets" "_law_sets" (defArgs sLawSets) (defBody sLawSets) (defScope sLawSets) .none kV15 dc15 pm15 an15 cd15 ct15), sl15⟩) (c15 : PySem.W.codeIn K cd15 "_law_sets" = true) (k15 : PySem.W.keepIn K (.ref f15) = true)
    {f16 : Addr} {od16 an16 : Option Addr} {sl16 : Array (Option Value)} {oc16 kV16 dc16 pm16 cd16 ct16 : Value}
    (a16 : PySem.W.nsIn K mainGlobals "_law_alike" = some (some (.ref f16))) (l16 : K.lookup f16 = some ⟨oc16, od16, .func (PySem.W.fnOf "_law_alike" "_law_alike" (defArgs sLawAlike) (defBody sLawAlike) (defScope sLawAlike) .none kV16 dc16 pm16 an16 cd16 ct16), sl16⟩) (c16 : PySem.W.codeIn K cd16 "_law_alike" = true) (k16 : PySem.W.keepIn K (.ref f16) = true)
    {f17 : Addr} {od17 an17 : Option Addr} {sl17 : Array (Option Value)} {oc17 kV17 dc17 pm17 cd17 ct17 : Value}
    (a17 : PySem.W.nsIn K mainGlobals "law" = some (some (.ref f17))) (l17 : K.lookup f17 = some ⟨oc17, od17, .func (PySem.W.fnOf "law" "law" (defArgs sLaw) (defBody sLaw) (defScope sLaw) .none kV17 dc17 pm17 an17 cd17 ct17), sl17⟩) (c17 : PySem.W.codeIn K cd17 "law" = true) (k17 : PySem.W.keepIn K (.ref f17) = true)
    (z0 : PySem.W.nsIn K mainGlobals "enumerate" = some none)
    (z1 : PySem.W.nsIn K mainGlobals "range" = some none)
    (z2 : PySem.W.nsIn K mainGlobals "abs" = some none)
    (z3 : PySem.W.nsIn K mainGlobals "len" = some none)
    (z4 : PySem.W.nsIn K mainGlobals "min" = some none)
    (z5 : PySem.W.nsIn K mainGlobals "list" = some none)
    (z6 : PySem.W.nsIn K mainGlobals "sorted" = some none)
    (z7 : PySem.W.nsIn K mainGlobals "set" = some none)
    (z8 : PySem.W.nsIn K mainGlobals "isinstance" = some none)
    (z9 : PySem.W.nsIn K mainGlobals "bool" = some none)
    (z10 : PySem.W.nsIn K mainGlobals "int" = some none)
    (z11 : PySem.W.nsIn K mainGlobals "str" = some none)
    (z12 : PySem.W.nsIn K mainGlobals "tuple" = some none)
    (z13 : PySem.W.nsIn K mainGlobals "all" = some none)
    (z14 : PySem.W.nsIn K mainGlobals "zip" = some none)
    (z15 : PySem.W.nsIn K mainGlobals "max" = some none)
    {t0 : Tok} (y0 : PySem.W.nsIn K mainGlobals "MOST_SIGNS" = some (some (.int 64 t0)))
    {t1 : Tok} (y1 : PySem.W.nsIn K mainGlobals "MOST_RANGES" = some (some (.int 40 t1))) :
    ∃ fd : FuncData, (∀ (s : Shared) (v : Value), BindsTo s fd ⟨[v], []⟩ [("_law_script", v)]) ∧ ∀ base : Heap, K.In base → base.Ns mainGlobals mg → FnOk l.prog w K mg base CX0 7 fa fd ["_law_script"] (spLaw K) := by
  have eL := hfa.symm.trans (PySem.W.mg_of X G a17)
  cases eL
  have FCheckSize := fun_mk (st := sCheckSize) l0 c0 k0
  have FCheckSet := fun_mk (st := sCheckSet) l1 c1 k1
  have FMarksOf := fun_mk (st := sMarksOf) l2 c2 k2
  have FCheckedMarks := fun_mk (st := sCheckedMarks) l3 c3 k3
  have FRowOf := fun_mk (st := sRowOf) l4 c4 k4
  have FClassRow := fun_mk (st := sClassRow) l5 c5 k5
  have FRangesOf := fun_mk (st := sRangesOf) l6 c6 k6
  have FClasses := fun_mk (st := sClasses) l7 c7 k7
  have FByClasses := fun_mk (st := sByClasses) l8 c8 k8
  have FLawDice := fun_mk (st := sLawDice) l9 c9 k9
  have FLawOff := fun_mk (st := sLawOff) l10 c10 k10
  have FLawSize := fun_mk (st := sLawSize) l11 c11 k11
  have FLawSet := fun_mk (st := sLawSet) l12 c12 k12
  have FLawMembers := fun_mk (st := sLawMembers) l13 c13 k13
  have FLawTold := fun_mk (st := sLawTold) l14 c14 k14
  have FLawSets := fun_mk (st := sLawSets) l15 c15 k15
  have FLawAlike := fun_mk (st := sLawAlike) l16 c16 k16
  have FLaw := fun_mk (st := sLaw) l17 c17 k17
  have BCheckSize := FCheckSize.binds (ps := ["size"]) fun _ _ _ _ _ _ us hl => match us, hl with | [_], _ => rfl
  have GCheckSize := PySem.W.mg_of X G a0
  have KCheckSize := k0
  have BCheckSet := FCheckSet.binds (ps := ["size", "ranges", "number"]) fun _ _ _ _ _ _ us hl => match us, hl with | [_, _, _], _ => rfl
  have GCheckSet := PySem.W.mg_of X G a1
  have KCheckSet := k1
  have BMarksOf := FMarksOf.binds (ps := ["size", "ranges"]) fun _ _ _ _ _ _ us hl => match us, hl with | [_, _], _ => rfl
  have GMarksOf := PySem.W.mg_of X G a2
  have KMarksOf := k2
  have BCheckedMarks := FCheckedMarks.binds (ps := ["size", "sets"]) fun _ _ _ _ _ _ us hl => match us, hl with | [_, _], _ => rfl
  have GCheckedMarks := PySem.W.mg_of X G a3
  have KCheckedMarks := k3
  have BRowOf := FRowOf.binds (ps := ["size", "all_marks"]) fun _ _ _ _ _ _ us hl => match us, hl with | [_, _], _ => rfl
  have GRowOf := PySem.W.mg_of X G a4
  have KRowOf := k4
  have BClassRow := FClassRow.binds (ps := ["size", "sets"]) fun _ _ _ _ _ _ us hl => match us, hl with | [_, _], _ => rfl
  have GClassRow := PySem.W.mg_of X G a5
  have KClassRow := k5
  have BRangesOf := FRangesOf.binds (ps := ["marks"]) fun _ _ _ _ _ _ us hl => match us, hl with | [_], _ => rfl
  have GRangesOf := PySem.W.mg_of X G a6
  have KRangesOf := k6
  have BClasses := FClasses.binds (ps := ["size", "sets"]) fun _ _ _ _ _ _ us hl => match us, hl with | [_, _], _ => rfl
  have GClasses := PySem.W.mg_of X G a7
  have KClasses := k7
  have BByClasses := FByClasses.binds (ps := ["size", "sets"]) fun _ _ _ _ _ _ us hl => match us, hl with | [_, _], _ => rfl
  have GByClasses := PySem.W.mg_of X G a8
  have KByClasses := k8
  have BLawDice := FLawDice.binds (ps := ["_law_script", "_law_k"]) fun _ _ _ _ _ _ us hl => match us, hl with | [_, _], _ => rfl
  have GLawDice := PySem.W.mg_of X G a9
  have KLawDice := k9
  have BLawOff := FLawOff.binds (ps := ["_law_d", "_law_most"]) fun _ _ _ _ _ _ us hl => match us, hl with | [_, _], _ => rfl
  have GLawOff := PySem.W.mg_of X G a10
  have KLawOff := k10
  have BLawSize := FLawSize.binds (ps := ["_law_d"]) fun _ _ _ _ _ _ us hl => match us, hl with | [_], _ => rfl
  have GLawSize := PySem.W.mg_of X G a11
  have KLawSize := k11
  have BLawSet := FLawSet.binds (ps := ["_law_d", "_law_size_here", "_law_most"]) fun _ _ _ _ _ _ us hl => match us, hl with | [_, _, _], _ => rfl
  have GLawSet := PySem.W.mg_of X G a12
  have KLawSet := k12
  have BLawMembers := FLawMembers.binds (ps := ["_law_size_here", "_law_ranges"]) fun _ _ _ _ _ _ us hl => match us, hl with | [_, _], _ => rfl
  have GLawMembers := PySem.W.mg_of X G a13
  have KLawMembers := k13
  have BLawTold := FLawTold.binds (ps := ["_law_numbers"]) fun _ _ _ _ _ _ us hl => match us, hl with | [_], _ => rfl
  have GLawTold := PySem.W.mg_of X G a14
  have KLawTold := k14
  have BLawSets := FLawSets.binds (ps := ["_law_d", "_law_size_here"]) fun _ _ _ _ _ _ us hl => match us, hl with | [_, _], _ => rfl
  have GLawSets := PySem.W.mg_of X G a15
  have KLawSets := k15
  have BLawAlike := FLawAlike.binds (ps := ["_law_found", "_law_due"]) fun _ _ _ _ _ _ us hl => match us, hl with | [_, _], _ => rfl
  have GLawAlike := PySem.W.mg_of X G a16
  have KLawAlike := k16
  have m_enumerate := PySem.W.mg_none_of X G z0
  have m_range := PySem.W.mg_none_of X G z1
  have m_abs := PySem.W.mg_none_of X G z2
  have m_len := PySem.W.mg_none_of X G z3
  have m_min := PySem.W.mg_none_of X G z4
  have m_list := PySem.W.mg_none_of X G z5
  have m_sorted := PySem.W.mg_none_of X G z6
  have m_set := PySem.W.mg_none_of X G z7
  have m_isinstance := PySem.W.mg_none_of X G z8
  have m_bool := PySem.W.mg_none_of X G z9
  have m_int := PySem.W.mg_none_of X G z10
  have m_str := PySem.W.mg_none_of X G z11
  have m_tuple := PySem.W.mg_none_of X G z12
  have m_all := PySem.W.mg_none_of X G z13
  have m_zip := PySem.W.mg_none_of X G z14
  have m_max := PySem.W.mg_none_of X G z15
  have m_MOST_SIGNS := PySem.W.mg_of X G y0
  have m_MOST_RANGES := PySem.W.mg_of X G y1
  refine ⟨PySem.W.fnOf "law" "law" (defArgs sLaw) (defBody sLaw) (defScope sLaw) .none kV17 dc17 pm17 an17 cd17 ct17, fun s v => .of_eq rfl, fun base _ _ => ?_⟩
  have OCheckSize := ok_size (P := l.prog) (w := w) (base := base) (k := 2) FCheckSize m_MOST_SIGNS
  have OCheckSet := ok_set (P := l.prog) (w := w) (base := base) (k := 2) FCheckSet m_MOST_RANGES m_enumerate
  have OMarksOf := ok_marks (P := l.prog) (w := w) (base := base) (k := 2) FMarksOf m_range
  have OCheckedMarks := ok_checked (k := 2) FCheckedMarks OCheckSize GCheckSize KCheckSize BCheckSize OCheckSet GCheckSet KCheckSet BCheckSet OMarksOf GMarksOf KMarksOf BMarksOf m_enumerate
  have ORowOf := ok_rowOf (P := l.prog) (w := w) (base := base) (k := 3) FRowOf m_range m_len m_tuple
  have OClassRow := ok_row (k := 2) FClassRow (ok_checked (k := 2) FCheckedMarks (ok_size (P := l.prog) (w := w) (base := base) (k := 2) FCheckSize m_MOST_SIGNS) GCheckSize KCheckSize BCheckSize (ok_set (P := l.prog) (w := w) (base := base) (k := 2) FCheckSet m_MOST_RANGES m_enumerate) GCheckSet KCheckSet BCheckSet (ok_marks (P := l.prog) (w := w) (base := base) (k := 2) FMarksOf m_range) GMarksOf KMarksOf BMarksOf m_enumerate) GCheckedMarks KCheckedMarks BCheckedMarks (ok_rowOf (P := l.prog) (w := w) (base := base) (k := 3) FRowOf m_range m_len m_tuple) GRowOf KRowOf BRowOf
  have ORangesOf := ok_ranges (P := l.prog) (w := w) (base := base) (k := 3) FRangesOf m_enumerate
  have OClasses := ok_classes (k := 1) FClasses (ok_row (k := 1) FClassRow (ok_checked (k := 1) FCheckedMarks (ok_size (P := l.prog) (w := w) (base := base) (k := 1) FCheckSize m_MOST_SIGNS) GCheckSize KCheckSize BCheckSize (ok_set (P := l.prog) (w := w) (base := base) (k := 1) FCheckSet m_MOST_RANGES m_enumerate) GCheckSet KCheckSet BCheckSet (ok_marks (P := l.prog) (w := w) (base := base) (k := 1) FMarksOf m_range) GMarksOf KMarksOf BMarksOf m_enumerate) GCheckedMarks KCheckedMarks BCheckedMarks (ok_rowOf (P := l.prog) (w := w) (base := base) (k := 2) FRowOf m_range m_len m_tuple) GRowOf KRowOf BRowOf) GClassRow KClassRow BClassRow ORangesOf GRangesOf KRangesOf BRangesOf m_range m_max
  have OByClasses := ok_byCls (k := 2) FByClasses (ok_checked (k := 2) FCheckedMarks (ok_size (P := l.prog) (w := w) (base := base) (k := 2) FCheckSize m_MOST_SIGNS) GCheckSize KCheckSize BCheckSize (ok_set (P := l.prog) (w := w) (base := base) (k := 2) FCheckSet m_MOST_RANGES m_enumerate) GCheckSet KCheckSet BCheckSet (ok_marks (P := l.prog) (w := w) (base := base) (k := 2) FMarksOf m_range) GMarksOf KMarksOf BMarksOf m_enumerate) GCheckedMarks KCheckedMarks BCheckedMarks (ok_rowOf (P := l.prog) (w := w) (base := base) (k := 3) FRowOf m_range m_len m_tuple) GRowOf KRowOf BRowOf m_zip m_sorted
  have OLawDice := ok_dice (P := l.prog) (w := w) (base := base) (k := 2) FLawDice m_abs
  have OLawOff := ok_off (P := l.prog) (w := w) (base := base) (k := 1) FLawOff m_len
  have OLawSize := ok_lsize (k := 1) FLawSize OLawOff GLawOff KLawOff BLawOff
  have OLawSet := ok_lset (k := 1) FLawSet OLawOff GLawOff KLawOff BLawOff m_range m_min
  have OLawMembers := ok_lmem (P := l.prog) (w := w) (base := base) (k := 2) FLawMembers m_list m_range m_sorted m_set
  have OLawTold := ok_ltold (P := l.prog) (w := w) (base := base) (k := 2) FLawTold m_range m_len
  have OLawSets := ok_lsets (k := 1) FLawSets (ok_off (P := l.prog) (w := w) (base := base) (k := 2) FLawOff m_len) GLawOff KLawOff BLawOff OLawSet GLawSet KLawSet BLawSet m_range
  have OLawAlike := ok_alike (P := l.prog) (w := w) (base := base) FLawAlike GLawAlike KLawAlike BLawAlike m_isinstance m_bool m_int m_str m_tuple m_list m_len m_all m_range 5
  exact ok_law FLaw ⟨⟨_, _, OLawDice, GLawDice, KLawDice, BLawDice⟩⟩ ⟨⟨_, _, ok_off (P := l.prog) (w := w) (base := base) (k := 2) FLawOff m_len, GLawOff, KLawOff, BLawOff⟩⟩ ⟨⟨_, _, OLawSize, GLawSize, KLawSize, BLawSize⟩⟩ ⟨⟨_, _, OLawSets, GLawSets, KLawSets, BLawSets⟩⟩ ⟨⟨_, _, OLawMembers, GLawMembers, KLawMembers, BLawMembers⟩⟩ ⟨⟨_, _, OLawTold, GLawTold, KLawTold, BLawTold⟩⟩ ⟨⟨_, _, OLawAlike, GLawAlike, KLawAlike, BLawAlike⟩⟩ ⟨⟨_, _, OClassRow, GClassRow, KClassRow, BClassRow⟩⟩ ⟨⟨_, _, OClasses, GClasses, KClasses, BClasses⟩⟩ ⟨⟨_, _, OByClasses, GByClasses, KByClasses, BByClasses⟩⟩ m_range m_len m_list m_int
end
end SG
open PySem PySem.W PyProof.Rows
set_option maxHeartbeats 0 in
theorem PySem.Challenge.cw_signsets_k10_whole_classes_holds : PySem.Challenge.rw_signsets_k10_whole_classes.Holds := by
  w_on; o_law; k_head; (case hw => w_witness2)
  k_fill
  refine L2.walk_of (l := PySem.Challenge.rw_signsets_k10_whole_classes) (n := 63) (k := 7) (x := "_law_script") (CX := fun _ => L2.CX0) (sp := fun w => SG.spLaw _) rfl (by decide) rfl ⟨rfl, by decide, by decide⟩ (fun w h Y => PySem.W.kIn_of Y) ?F (fun _ _ a ns hl _ hS => ⟨a, ns, rfl, hS, hl, fun _ => rfl⟩) (fun _ _ _ _ _ h => h)
  case F =>
    intro w mg fa h KX G hmg
    refine' SG.all_mk KX G hmg ?a0 ?l0 ?c0 ?k0 ?a1 ?l1 ?c1 ?k1 ?a2 ?l2 ?c2 ?k2 ?a3 ?l3 ?c3 ?k3 ?a4 ?l4 ?c4 ?k4 ?a5 ?l5 ?c5 ?k5 ?a6 ?l6 ?c6 ?k6 ?a7 ?l7 ?c7 ?k7 ?a8 ?l8 ?c8 ?k8 ?a9 ?l9 ?c9 ?k9 ?a10 ?l10 ?c10 ?k10 ?a11 ?l11 ?c11 ?k11 ?a12 ?l12 ?c12 ?k12 ?a13 ?l13 ?c13 ?k13 ?a14 ?l14 ?c14 ?k14 ?a15 ?l15 ?c15 ?k15 ?a16 ?l16 ?c16 ?k16 ?a17 ?l17 ?c17 ?k17 ?z0 ?z1 ?z2 ?z3 ?z4 ?z5 ?z6 ?z7 ?z8 ?z9 ?z10 ?z11 ?z12 ?z13 ?z14 ?z15 ?y0 ?y1
    (case a0 => k_is); (case l0 => k_is); (case c0 => k_is); (case k0 => k_is); (case a1 => k_is); (case l1 => k_is); (case c1 => k_is); (case k1 => k_is)
    (case a2 => k_is); (case l2 => k_is); (case c2 => k_is); (case k2 => k_is); (case a3 => k_is); (case l3 => k_is); (case c3 => k_is); (case k3 => k_is)
    (case a4 => k_is); (case l4 => k_is); (case c4 => k_is); (case k4 => k_is); (case a5 => k_is); (case l5 => k_is); (case c5 => k_is); (case k5 => k_is)
    (case a6 => k_is); (case l6 => k_is); (case c6 => k_is); (case k6 => k_is); (case a7 => k_is); (case l7 => k_is); (case c7 => k_is); (case k7 => k_is)
    (case a8 => k_is); (case l8 => k_is); (case c8 => k_is); (case k8 => k_is); (case a9 => k_is); (case l9 => k_is); (case c9 => k_is); (case k9 => k_is)
    (case a10 => k_is); (case l10 => k_is); (case c10 => k_is); (case k10 => k_is); (case a11 => k_is); (case l11 => k_is); (case c11 => k_is); (case k11 => k_is)
    (case a12 => k_is); (case l12 => k_is); (case c12 => k_is); (case k12 => k_is); (case a13 => k_is); (case l13 => k_is); (case c13 => k_is); (case k13 => k_is)
    (case a14 => k_is); (case l14 => k_is); (case c14 => k_is); (case k14 => k_is); (case a15 => k_is); (case l15 => k_is); (case c15 => k_is); (case k15 => k_is)
    (case a16 => k_is); (case l16 => k_is); (case c16 => k_is); (case k16 => k_is); (case a17 => k_is); (case l17 => k_is); (case c17 => k_is); (case k17 => k_is)
    (case z0 => k_is); (case z1 => k_is); (case z2 => k_is); (case z3 => k_is); (case z4 => k_is); (case z5 => k_is); (case z6 => k_is); (case z7 => k_is)
    (case z8 => k_is); (case z9 => k_is); (case z10 => k_is); (case z11 => k_is); (case z12 => k_is); (case z13 => k_is); (case z14 => k_is); (case z15 => k_is)
    (case y0 => k_is); (case y1 => k_is)

