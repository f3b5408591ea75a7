import PyProof.Rows.All
import Wide.All
import OpenK.AllK
import Wide.FinOn
import HandS.ForMost
import HandS.Walk
import HandS.Evl
import HandS.NoneIn
import HandS.Style
import HandS.Conv
import HandS.Set
import HandS.Strs
import HandS.SetFor
import HandS.SortInts
import HandS.IsInst
import HandS.SetKeys
import KE.DatumOrd
import PyProof.Rows.StrPadWhole
import HandS.SetBool
import HandS.TupLen
import PyProof.DictMoreH
import HandS.FStr
import HandS.Text
import HandS.StrMore
import HandS.DictComp
import HandS.ExcInit
import HandS.ExcOwn
import HandS.Nested
import HandS.ClsMeth
import KE.KExcSuper
import HandS.ExcIs
import HandS.ExcField
import KE.KExcIs
import HandS.HotCalls
import HandS.Comp
import HandS.ExcInitHot
import HandS.Words
import HandS.WordsExc
import PyProof.StrOps2
import HandS.EndOwn
import KE.KNestM
import PySem.Challenge.RW_signsets_k07_texts_read
set_option Elab.async false
set_option linter.all false
set_option maxRecDepth 100000
set_option maxHeartbeats 4000001
namespace SM
/-- whether a sign is in one of the ranges -/
def memB (rs : List (Nat × Nat)) (k : Nat) : Bool := rs.any fun r => decide (r.1 ≤ k) && decide (k ≤ r.2)
/-- the start of the run behind sign i, and the runs told so far -/
def st (m : Nat → Bool) : Nat → Nat
  | 0 => 0
  | i + 1 => if m i = true then st m i else i + 1
def told (m : Nat → Bool) : Nat → List (Nat × Nat)
  | 0 => []
  | i + 1 => if m i = true then (if st m i = i then told m i ++ [(i, i)] else (told m i).dropLast ++ [(st m i, i)]) else told m i
theorem st_yes {m : Nat → Bool} {i : Nat} (h : m i = true) : st m (i + 1) = st m i := by rw [st, if_pos h]
theorem st_no {m : Nat → Bool} {i : Nat} (h : m i = false) : st m (i + 1) = i + 1 := by rw [st, if_neg (by rw [h]; decide)]
theorem memB_nil (k : Nat) : memB [] k = false := rfl
theorem memB_cons (r : Nat × Nat) (rs : List (Nat × Nat)) (k : Nat) : memB (r :: rs) k = ((decide (r.1 ≤ k) && decide (k ≤ r.2)) || memB rs k) := rfl
theorem memB_append (a b : List (Nat × Nat)) (k : Nat) : memB (a ++ b) k = (memB a k || memB b k) := List.any_append
theorem memB_one (r : Nat × Nat) (k : Nat) : memB [r] k = (decide (r.1 ≤ k) && decide (k ≤ r.2)) := by
  rw [memB_cons, memB_nil, Bool.or_false]
theorem memB_iff {rs : List (Nat × Nat)} {k : Nat} : memB rs k = true ↔ ∃ r ∈ rs, r.1 ≤ k ∧ k ≤ r.2 := by
  unfold memB
  rw [List.any_eq_true]
  constructor
  · rintro ⟨r, h, e⟩
    rw [Bool.and_eq_true, decide_eq_true_eq, decide_eq_true_eq] at e
    exact ⟨r, h, e⟩
  · rintro ⟨r, h, e⟩
    exact ⟨r, h, by rw [Bool.and_eq_true, decide_eq_true_eq, decide_eq_true_eq]; exact e⟩
theorem memB_perm {a b : List (Nat × Nat)} (h : ∀ r, r ∈ a ↔ r ∈ b) (k : Nat) : memB a k = memB b k := by
  rw [Bool.eq_iff_iff, memB_iff, memB_iff]
  constructor
  · rintro ⟨r, q, e⟩; exact ⟨r, (h r).mp q, e⟩
  · rintro ⟨r, q, e⟩; exact ⟨r, (h r).mpr q, e⟩
theorem st_le (m : Nat → Bool) : ∀ i, st m i ≤ i
  | 0 => Nat.le_refl 0
  | i + 1 => by
    have := st_le m i
    unfold st
    split <;> omega
/-- rising, with a gap between each two -/
structure Sep (rs : List (Nat × Nat)) : Prop where
  le : ∀ r ∈ rs, r.1 ≤ r.2
  gap : rs.Pairwise fun r s => r.2 + 1 < s.1
/-- what the loop keeps -/
structure Kept (m : Nat → Bool) (i : Nat) : Prop where
  run : ∀ k, st m i ≤ k → k < i → m k = true
  edge : st m i = 0 ∨ ∃ j, st m i = j + 1 ∧ m j = false
  shape : ∃ pre, told m i = pre ++ (if st m i < i then [(st m i, i - 1)] else []) ∧ Sep pre ∧ (∀ r ∈ pre, r.2 + 1 < st m i) ∧ (∀ k, k < st m i → memB pre k = m k)
theorem kept (m : Nat → Bool) : ∀ i, Kept m i
  | 0 => ⟨fun k _ h => absurd h (Nat.not_lt_zero k), .inl rfl, [], rfl, ⟨fun _ h => by simp at h, List.Pairwise.nil⟩, fun _ h => by simp at h, fun k h => absurd h (Nat.not_lt_zero k)⟩
  | i + 1 => by
    have K := kept m i
    have hle := st_le m i
    obtain ⟨pre, e, sp, hb, hm⟩ := K.shape
    cases hi : m i with
    | true =>
      have es : st m (i + 1) = st m i := by rw [st, if_pos hi]
      refine ⟨fun k h1 h2 => ?_, ?_, pre, ?_, sp, ?_, ?_⟩
      · rw [es] at h1
        by_cases c : k = i
        · rw [c]; exact hi
        · exact K.run k h1 (by omega)
      · rw [es]; exact K.edge
      · rw [es, if_pos (by omega), Nat.add_sub_cancel, told, if_pos hi]
        by_cases c : st m i = i
        · rw [if_pos c, e, if_neg (by omega), List.append_nil, c]
        · rw [if_neg c, e, if_pos (by omega), List.dropLast_concat]
      · rw [es]; exact hb
      · rw [es]; exact hm
    | false =>
      have es : st m (i + 1) = i + 1 := by rw [st, if_neg (by rw [hi]; decide)]
      have et : told m (i + 1) = told m i := by rw [told, if_neg (by rw [hi]; decide)]
      refine ⟨fun k h1 h2 => by omega, .inr ⟨i, es, hi⟩, told m i, ?_, ?_, ?_, ?_⟩
      · rw [es, if_neg (by omega), List.append_nil, et]
      · rw [e]
        by_cases c : st m i < i
        · rw [if_pos c]
          refine ⟨fun r h => ?_, ?_⟩
          · rcases List.mem_append.mp h with h | h
            · exact sp.le r h
            · rw [List.mem_singleton.mp h]; show st m i ≤ i - 1; omega
          · refine List.pairwise_append.mpr ⟨sp.gap, List.pairwise_singleton _ _, fun r h s hs => ?_⟩
            rw [List.mem_singleton.mp hs]
            exact hb r h
        · rw [if_neg c, List.append_nil]; exact sp
      · intro r h
        rw [es]
        rw [e] at h
        rcases List.mem_append.mp h with h | h
        · have := hb r h; omega
        · by_cases c : st m i < i
          · rw [if_pos c] at h
            rw [List.mem_singleton.mp h]
            show i - 1 + 1 < i + 1
            omega
          · rw [if_neg c] at h; simp at h
      · intro k hk
        rw [es] at hk
        rw [e, memB_append]
        by_cases c : st m i < i
        · rw [if_pos c, memB_one]
          by_cases c2 : k < st m i
          · rw [hm k c2, decide_eq_false (show ¬ st m i ≤ k by omega), Bool.false_and, Bool.or_false]
          · have np : memB pre k = false := by
              cases q : memB pre k with
              | false => rfl
              | true =>
                obtain ⟨r, hr, _, h2⟩ := memB_iff.mp q
                have := hb r hr
                omega
            rw [np, Bool.false_or]
            by_cases c3 : k = i
            · rw [c3, hi, decide_eq_false (show ¬ i ≤ i - 1 by omega), Bool.and_false]
            · rw [K.run k (by omega) (by omega), decide_eq_true (show st m i ≤ k by omega), decide_eq_true (show k ≤ i - 1 by omega)]; rfl
        · rw [if_neg c, memB_nil, Bool.or_false]
          by_cases c2 : k < st m i
          · exact hm k c2
          · have ek : k = i := by omega
            subst ek
            rw [hi]
            cases q : memB pre k with
            | false => rfl
            | true =>
              obtain ⟨r, hr, _, h2⟩ := memB_iff.mp q
              have := hb r hr
              omega
theorem told_sep (m : Nat → Bool) (n : Nat) : Sep (told m n) := by
  obtain ⟨pre, e, sp, hb, hm⟩ := (kept m n).shape
  rw [e]
  by_cases c : st m n < n
  · rw [if_pos c]
    refine ⟨fun r h => ?_, ?_⟩
    · rcases List.mem_append.mp h with h | h
      · exact sp.le r h
      · rw [List.mem_singleton.mp h]; show st m n ≤ n - 1; omega
    · refine List.pairwise_append.mpr ⟨sp.gap, List.pairwise_singleton _ _, fun r h s hs => ?_⟩
      rw [List.mem_singleton.mp hs]
      exact hb r h
  · rw [if_neg c, List.append_nil]; exact sp
theorem told_below (m : Nat → Bool) (n : Nat) : ∀ r ∈ told m n, r.2 < n := by
  obtain ⟨pre, e, sp, hb, hm⟩ := (kept m n).shape
  have hle := st_le m n
  intro r h
  rw [e] at h
  rcases List.mem_append.mp h with h | h
  · have := hb r h; omega
  · by_cases c : st m n < n
    · rw [if_pos c] at h
      rw [List.mem_singleton.mp h]
      show n - 1 < n
      omega
    · rw [if_neg c] at h; simp at h
theorem told_mem (m : Nat → Bool) (n k : Nat) (hk : k < n) : memB (told m n) k = m k := by
  have K := kept m n
  have hle := st_le m n
  obtain ⟨pre, e, sp, hb, hm⟩ := K.shape
  rw [e, memB_append]
  by_cases c2 : k < st m n
  · rw [hm k c2]
    by_cases c : st m n < n
    · rw [if_pos c, memB_one, decide_eq_false (show ¬ st m n ≤ k by omega), Bool.false_and, Bool.or_false]
    · rw [if_neg c, memB_nil, Bool.or_false]
  · rw [if_pos (by omega), memB_one, K.run k (by omega) hk, decide_eq_true (show st m n ≤ k by omega), decide_eq_true (show k ≤ n - 1 by omega)]
    exact Bool.or_true _
theorem st_congr {m m' : Nat → Bool} : ∀ n, (∀ k, k < n → m k = m' k) → st m n = st m' n
  | 0, _ => rfl
  | n + 1, h => by
    rw [st, st, h n (Nat.lt_succ_self n), st_congr n fun k hk => h k (Nat.lt_succ_of_lt hk)]
theorem told_congr {m m' : Nat → Bool} : ∀ n, (∀ k, k < n → m k = m' k) → told m n = told m' n
  | 0, _ => rfl
  | n + 1, h => by
    have h' : ∀ k, k < n → m k = m' k := fun k hk => h k (Nat.lt_succ_of_lt hk)
    rw [told, told, h n (Nat.lt_succ_self n), st_congr n h', told_congr n h']
theorem sep_len : ∀ (rs : List (Nat × Nat)) (a n : Nat), Sep rs → (∀ r ∈ rs, a ≤ r.1 ∧ r.2 < n) → a ≤ n + 1 → 2 * rs.length + a ≤ n + 1
  | [], a, n, _, _, h => by simpa using h
  | r :: rs, a, n, s, h, ha => by
    have h1 := s.le r List.mem_cons_self
    have h2 := h r List.mem_cons_self
    have g := List.pairwise_cons.mp s.gap
    have s' : Sep rs := ⟨fun q hq => s.le q (List.mem_cons_of_mem _ hq), g.2⟩
    have ih := sep_len rs (r.2 + 2) n s' (fun q hq => by
      have a1 := g.1 q hq
      have a2 := h q (List.mem_cons_of_mem _ hq)
      exact ⟨by omega, a2.2⟩) (by omega)
    rw [List.length_cons]
    omega
theorem told_len (m : Nat → Bool) (n : Nat) : 2 * (told m n).length ≤ n + 1 := by
  have := sep_len (told m n) 0 n (told_sep m n) (fun r h => ⟨Nat.zero_le _, told_below m n r h⟩) (by omega)
  omega
theorem st_true : ∀ n, st (fun _ => true) n = 0
  | 0 => rfl
  | n + 1 => by rw [st, if_pos rfl, st_true n]
theorem told_true : ∀ n, told (fun _ => true) (n + 1) = [(0, n)]
  | 0 => rfl
  | n + 1 => by
    rw [told, if_pos rfl, st_true, if_neg (by omega), told_true n]; rfl
theorem told_false : ∀ n, told (fun _ => false) n = []
  | 0 => rfl
  | n + 1 => by rw [told, if_neg (by decide), told_false n]
/-- a set that can be -/
structure Good (n : Nat) (rs : List (Nat × Nat)) : Prop where
  len : rs.length ≤ 40
  ok : ∀ r ∈ rs, r.1 ≤ r.2 ∧ r.2 < n
theorem told_good (m : Nat → Bool) {n : Nat} (h : n ≤ 64) : Good n (told m n) :=
  ⟨by have := told_len m n; omega, fun r hr => ⟨(told_sep m n).le r hr, told_below m n r hr⟩⟩
theorem memB_lt {n : Nat} {rs : List (Nat × Nat)} (g : ∀ r ∈ rs, r.1 ≤ r.2 ∧ r.2 < n) {k : Nat} (h : memB rs k = true) : k < n := by
  obtain ⟨r, hr, h1, h2⟩ := memB_iff.mp h
  have := g r hr
  omega
end SM

namespace SM
theorem sortedNat : ∀ {a b : List Nat}, a.Pairwise (· < ·) → b.Pairwise (· < ·) → (∀ k, k ∈ a ↔ k ∈ b) → a = b
  | [], [], _, _, _ => rfl
  | [], y :: b, _, _, h => absurd ((h y).mpr List.mem_cons_self) (by simp)
  | x :: a, [], _, _, h => absurd ((h x).mp List.mem_cons_self) (by simp)
  | x :: a, y :: b, ha, hb, h => by
    obtain ⟨a1, a2⟩ := List.pairwise_cons.mp ha
    obtain ⟨b1, b2⟩ := List.pairwise_cons.mp hb
    have e : x = y := by
      rcases List.mem_cons.mp ((h x).mp List.mem_cons_self) with e | e
      · exact e
      · rcases List.mem_cons.mp ((h y).mpr List.mem_cons_self) with e' | e'
        · exact e'.symm
        · have := b1 x e; have := a1 y e'; omega
    subst e
    refine congrArg (x :: ·) (sortedNat a2 b2 fun k => ⟨fun hk => ?_, fun hk => ?_⟩)
    · rcases List.mem_cons.mp ((h k).mp (List.mem_cons_of_mem _ hk)) with e | e
      · have := a1 k hk; omega
      · exact e
    · rcases List.mem_cons.mp ((h k).mpr (List.mem_cons_of_mem _ hk)) with e | e
      · have := b1 k hk; omega
      · exact e
theorem sortedInt : ∀ {a b : List Int}, a.Pairwise (· < ·) → b.Pairwise (· < ·) → (∀ k, k ∈ a ↔ k ∈ b) → a = b
  | [], [], _, _, _ => rfl
  | [], y :: b, _, _, h => absurd ((h y).mpr List.mem_cons_self) (by simp)
  | x :: a, [], _, _, h => absurd ((h x).mp List.mem_cons_self) (by simp)
  | x :: a, y :: b, ha, hb, h => by
    obtain ⟨a1, a2⟩ := List.pairwise_cons.mp ha
    obtain ⟨b1, b2⟩ := List.pairwise_cons.mp hb
    have e : x = y := by
      rcases List.mem_cons.mp ((h x).mp List.mem_cons_self) with e | e
      · exact e
      · rcases List.mem_cons.mp ((h y).mpr List.mem_cons_self) with e' | e'
        · exact e'.symm
        · have := b1 x e; have := a1 y e'; omega
    subst e
    refine congrArg (x :: ·) (sortedInt a2 b2 fun k => ⟨fun hk => ?_, fun hk => ?_⟩)
    · rcases List.mem_cons.mp ((h k).mp (List.mem_cons_of_mem _ hk)) with e | e
      · have := a1 k hk; omega
      · exact e
    · rcases List.mem_cons.mp ((h k).mpr (List.mem_cons_of_mem _ hk)) with e | e
      · have := b1 k hk; omega
      · exact e
theorem range_lt (n : Nat) : (List.range n).Pairwise (· < ·) := List.pairwise_lt_range
theorem filt_lt (n : Nat) (f : Nat → Bool) : ((List.range n).filter f).Pairwise (· < ·) := (range_lt n).filter f
theorem mem_filt {n : Nat} {f : Nat → Bool} {k : Nat} : k ∈ (List.range n).filter f ↔ k < n ∧ f k = true := by
  rw [List.mem_filter, List.mem_range]
theorem sep_tri : ∀ {rs : List (Nat × Nat)}, Sep rs → ∀ r ∈ rs, ∀ q ∈ rs, r = q ∨ r.2 + 1 < q.1 ∨ q.2 + 1 < r.1
  | [], _, r, hr, _, _ => by simp at hr
  | x :: rs, s, r, hr, q, hq => by
    obtain ⟨g1, g2⟩ := List.pairwise_cons.mp s.gap
    have s' : Sep rs := ⟨fun z hz => s.le z (List.mem_cons_of_mem _ hz), g2⟩
    rcases List.mem_cons.mp hr with e1 | h1
    · rcases List.mem_cons.mp hq with e2 | h2
      · exact .inl (e1.trans e2.symm)
      · rw [e1]; exact .inr (.inl (g1 q h2))
    · rcases List.mem_cons.mp hq with e2 | h2
      · rw [e2]; exact .inr (.inr (g1 r h1))
      · exact sep_tri s' r h1 q h2
theorem sep_fst : ∀ {rs : List (Nat × Nat)}, Sep rs → (rs.map Prod.fst).Pairwise (· < ·) := fun {rs} s => by
  refine List.pairwise_map.mpr ?_
  have h : rs.Pairwise fun r q => r.2 + 1 < q.1 := s.gap
  refine (List.pairwise_iff_forall_sublist.mpr fun {a b} hs => ?_)
  have h1 := List.pairwise_iff_forall_sublist.mp h hs
  have h2 := s.le a (hs.subset (by simp))
  omega
theorem sep_snd : ∀ {rs : List (Nat × Nat)}, Sep rs → (rs.map Prod.snd).Pairwise (· < ·) := fun {rs} s => by
  refine List.pairwise_map.mpr ?_
  have h : rs.Pairwise fun r q => r.2 + 1 < q.1 := s.gap
  refine (List.pairwise_iff_forall_sublist.mpr fun {a b} hs => ?_)
  have h1 := List.pairwise_iff_forall_sublist.mp h hs
  have h2 := s.le b (hs.subset (by simp))
  omega
/-- the first and last signs of runs -/
def isF (m : Nat → Bool) (k : Nat) : Bool := m k && (decide (k = 0) || !m (k - 1))
def isL (n : Nat) (m : Nat → Bool) (k : Nat) : Bool := m k && (decide (k + 1 = n) || !m (k + 1))
theorem told_fst (m : Nat → Bool) (n : Nat) : (told m n).map Prod.fst = (List.range n).filter (isF m) := by
  have s := told_sep m n
  refine sortedNat (sep_fst s) (filt_lt n _) fun k => ?_
  rw [mem_filt, List.mem_map]
  constructor
  · rintro ⟨r, hr, rfl⟩
    have h1 := s.le r hr
    have h2 := told_below m n r hr
    refine ⟨by omega, ?_⟩
    have h3 : m r.1 = true := by rw [← told_mem m n r.1 (by omega)]; exact memB_iff.mpr ⟨r, hr, Nat.le_refl _, h1⟩
    unfold isF
    rw [h3, Bool.true_and]
    by_cases c : r.1 = 0
    · rw [decide_eq_true c]; rfl
    · rw [decide_eq_false c, Bool.false_or, Bool.not_eq_true']
      cases hm : m (r.1 - 1) with
      | false => rfl
      | true =>
        rw [← told_mem m n (r.1 - 1) (by omega)] at hm
        obtain ⟨q, hq, q1, q2⟩ := memB_iff.mp hm
        rcases sep_tri s r hr q hq with e | e | e
        · subst e; omega
        · omega
        · omega
  · rintro ⟨hk, hf⟩
    unfold isF at hf
    obtain ⟨f1, f2⟩ := Bool.and_eq_true_iff.mp hf
    rw [← told_mem m n k hk] at f1
    obtain ⟨r, hr, r1, r2⟩ := memB_iff.mp f1
    refine ⟨r, hr, ?_⟩
    by_cases c : r.1 = k
    · exact c
    · exfalso
      rw [decide_eq_false (show ¬ k = 0 by omega), Bool.false_or, Bool.not_eq_true', ← told_mem m n (k - 1) (by omega)] at f2
      have := memB_iff.mpr ⟨r, hr, show r.1 ≤ k - 1 by omega, show k - 1 ≤ r.2 by omega⟩
      rw [this] at f2; cases f2
theorem told_snd (m : Nat → Bool) (n : Nat) : (told m n).map Prod.snd = (List.range n).filter (isL n m) := by
  have s := told_sep m n
  refine sortedNat (sep_snd s) (filt_lt n _) fun k => ?_
  rw [mem_filt, List.mem_map]
  constructor
  · rintro ⟨r, hr, rfl⟩
    have h1 := s.le r hr
    have h2 := told_below m n r hr
    refine ⟨h2, ?_⟩
    have h3 : m r.2 = true := by rw [← told_mem m n r.2 h2]; exact memB_iff.mpr ⟨r, hr, h1, Nat.le_refl _⟩
    unfold isL
    rw [h3, Bool.true_and]
    by_cases c : r.2 + 1 = n
    · rw [decide_eq_true c]; rfl
    · rw [decide_eq_false c, Bool.false_or, Bool.not_eq_true']
      cases hm : m (r.2 + 1) with
      | false => rfl
      | true =>
        rw [← told_mem m n (r.2 + 1) (by omega)] at hm
        obtain ⟨q, hq, q1, q2⟩ := memB_iff.mp hm
        rcases sep_tri s r hr q hq with e | e | e
        · subst e; omega
        · omega
        · have := s.le q hq; omega
  · rintro ⟨hk, hf⟩
    unfold isL at hf
    obtain ⟨f1, f2⟩ := Bool.and_eq_true_iff.mp hf
    rw [← told_mem m n k hk] at f1
    obtain ⟨r, hr, r1, r2⟩ := memB_iff.mp f1
    refine ⟨r, hr, ?_⟩
    have h2 := told_below m n r hr
    by_cases c : r.2 = k
    · exact c
    · exfalso
      rw [decide_eq_false (show ¬ k + 1 = n by omega), Bool.false_or, Bool.not_eq_true', ← told_mem m n (k + 1) (by omega)] at f2
      have := memB_iff.mpr ⟨r, hr, show r.1 ≤ k + 1 by omega, show k + 1 ≤ r.2 by omega⟩
      rw [this] at f2; cases f2
/-- all numbers of the ranges, as they come -/
def cat (rs : List (Nat × Nat)) : List Int := rs.flatMap fun r => (List.range (r.2 + 1 - r.1)).map fun i => ((r.1 : Int) + (i : Nat))
theorem mem_cat {rs : List (Nat × Nat)} {k : Int} : k ∈ cat rs ↔ ∃ j : Nat, k = (j : Int) ∧ memB rs j = true := by
  unfold cat
  rw [List.mem_flatMap]
  constructor
  · rintro ⟨r, hr, h⟩
    obtain ⟨i, hi, rfl⟩ := List.mem_map.mp h
    rw [List.mem_range] at hi
    exact ⟨r.1 + i, by omega, memB_iff.mpr ⟨r, hr, by omega, by omega⟩⟩
  · rintro ⟨j, rfl, h⟩
    obtain ⟨r, hr, h1, h2⟩ := memB_iff.mp h
    exact ⟨r, hr, List.mem_map.mpr ⟨j - r.1, List.mem_range.mpr (by omega), by omega⟩⟩
theorem cat_len {n : Nat} : ∀ {rs : List (Nat × Nat)}, (∀ r ∈ rs, r.1 ≤ r.2 ∧ r.2 < n) → (cat rs).length ≤ rs.length * n
  | [], _ => by simp [cat]
  | r :: rs, h => by
    have ih := cat_len (rs := rs) fun q hq => h q (List.mem_cons_of_mem _ hq)
    have h1 := h r List.mem_cons_self
    have e : (cat (r :: rs)).length = (r.2 + 1 - r.1) + (cat rs).length := by
      unfold cat
      rw [List.flatMap_cons, List.length_append, List.length_map, List.length_range]
    rw [e, List.length_cons, Nat.succ_mul]
    omega
theorem int_lt {l : List Nat} (h : l.Pairwise (· < ·)) : (l.map fun k : Nat => (k : Int)).Pairwise (· < ·) := List.pairwise_map.mpr (h.imp fun {a b} z => by omega)
end SM

namespace SM
theorem fewest_aux {m : Nat → Bool} : ∀ (ts rs : List (Nat × Nat)), Sep ts → (∀ t ∈ ts, m (t.2 + 1) = false) → (∀ r ∈ rs, ∀ k, r.1 ≤ k → k ≤ r.2 → m k = true) → (∀ t ∈ ts, ∃ r ∈ rs, r.1 ≤ t.1 ∧ t.1 ≤ r.2) → ts.length ≤ rs.length
  | [], rs, _, _, _, _ => Nat.zero_le _
  | t :: ts, rs, s, hm, hr, hx => by
    obtain ⟨r, hrm, r1, r2⟩ := hx t List.mem_cons_self
    have hr2 : r.2 ≤ t.2 := by
      have tl := s.le t List.mem_cons_self
      by_cases c : t.2 + 1 ≤ r.2
      · have := hr r hrm (t.2 + 1) (by omega) c
        rw [hm t List.mem_cons_self] at this; cases this
      · omega
    obtain ⟨g1, g2⟩ := List.pairwise_cons.mp s.gap
    have s' : Sep ts := ⟨fun z hz => s.le z (List.mem_cons_of_mem _ hz), g2⟩
    have ih := fewest_aux ts (rs.erase r) s' (fun z hz => hm z (List.mem_cons_of_mem _ hz)) (fun z hz => hr z (List.mem_of_mem_erase hz)) (fun z hz => by
      obtain ⟨q, hq, q1, q2⟩ := hx z (List.mem_cons_of_mem _ hz)
      have gz := g1 z hz
      refine ⟨q, (List.mem_erase_of_ne (fun e => ?_)).mpr hq, q1, q2⟩
      subst e; omega)
    rw [List.length_erase_of_mem hrm] at ih
    have hp : 0 < rs.length := List.length_pos_of_mem hrm
    rw [List.length_cons]
    omega
/-- no list of ranges of the same signs is shorter -/
theorem fewest {n : Nat} {f : Nat → Bool} {rs : List (Nat × Nat)} (hg : ∀ r ∈ rs, r.1 ≤ r.2 ∧ r.2 < n) (h : ∀ k, k < n → memB rs k = f k) : (told f n).length ≤ rs.length := by
  have s := told_sep f n
  refine fewest_aux (m := fun k => decide (k < n) && f k) _ rs s (fun t ht => ?_) (fun r hr k h1 h2 => ?_) (fun t ht => ?_)
  · have tb := told_below f n t ht
    have tl := s.le t ht
    cases hc : (decide (t.2 + 1 < n) && f (t.2 + 1)) with
    | false => rfl
    | true =>
      obtain ⟨c1, c2⟩ := Bool.and_eq_true_iff.mp hc
      have c1 := of_decide_eq_true c1
      rw [← told_mem f n _ c1] at c2
      obtain ⟨q, hq, q1, q2⟩ := memB_iff.mp c2
      rcases sep_tri s t ht q hq with e | e | e
      · subst e; omega
      · omega
      · omega
  · have := hg r hr
    have hk : k < n := by omega
    rw [decide_eq_true hk, Bool.true_and, ← h k hk]
    exact memB_iff.mpr ⟨r, hr, h1, h2⟩
  · have tb := told_below f n t ht
    have tl := s.le t ht
    have hk : t.1 < n := by omega
    have : memB rs t.1 = true := by
      rw [h t.1 hk, ← told_mem f n t.1 hk]
      exact memB_iff.mpr ⟨t, ht, Nat.le_refl _, tl⟩
    exact memB_iff.mp this
/-- the sign ahead of a run, and the run before it -/
theorem told_ahead {f : Nat → Bool} {n : Nat} {r : Nat × Nat} (hr : r ∈ told f n) (h0 : r.1 ≠ 0) : f (r.1 - 1) = false := by
  have h : r.1 ∈ (told f n).map Prod.fst := List.mem_map.mpr ⟨r, hr, rfl⟩
  rw [told_fst, mem_filt] at h
  obtain ⟨_, h2⟩ := h
  unfold isF at h2
  have h3 := (Bool.and_eq_true_iff.mp h2).2
  rw [decide_eq_false h0, Bool.false_or, Bool.not_eq_true'] at h3
  exact h3
theorem told_gap {f : Nat → Bool} {n i : Nat} {r q : Nat × Nat} (hr : (told f n)[i]? = some r) (hq : (told f n)[i + 1]? = some q) : r.2 + 1 < q.1 := by
  obtain ⟨h1, e1⟩ := List.getElem?_eq_some_iff.mp hr
  obtain ⟨h2, e2⟩ := List.getElem?_eq_some_iff.mp hq
  have := List.pairwise_iff_getElem.mp (told_sep f n).gap i (i + 1) h1 h2 (Nat.lt_succ_self i)
  rw [e1, e2] at this
  exact this
theorem told_run {f : Nat → Bool} {n : Nat} {r : Nat × Nat} (hr : r ∈ told f n) {k : Nat} (h1 : r.1 ≤ k) (h2 : k ≤ r.2) : f k = true := by
  have := told_below f n r hr
  rw [← told_mem f n k (by omega)]
  exact memB_iff.mpr ⟨r, hr, h1, h2⟩
theorem memB_of_perm {a b : List (Nat × Nat)} (h : a.Perm b) (k : Nat) : memB a k = memB b k := memB_perm (fun r => h.mem_iff) k
end SM

namespace SM
/-- the search by halving: whether it is found, and what is looked at -/
def look (ts : List (Nat × Nat)) (x : Nat) : Nat → Nat → Nat → Bool × List (Nat × Nat)
  | 0, _, _ => (false, [])
  | f + 1, lo, hi =>
    if lo < hi then
      if x < (ts.getD ((lo + hi) / 2) (0, 0)).1 then ((look ts x f lo ((lo + hi) / 2)).1, ts.getD ((lo + hi) / 2) (0, 0) :: (look ts x f lo ((lo + hi) / 2)).2)
      else if (ts.getD ((lo + hi) / 2) (0, 0)).2 < x then ((look ts x f ((lo + hi) / 2 + 1) hi).1, ts.getD ((lo + hi) / 2) (0, 0) :: (look ts x f ((lo + hi) / 2 + 1) hi).2)
      else (true, [ts.getD ((lo + hi) / 2) (0, 0)])
    else (false, [])
theorem look_done {ts : List (Nat × Nat)} {x f lo hi : Nat} (h : ¬ lo < hi) : look ts x f lo hi = (false, []) := by
  cases f with
  | zero => rfl
  | succ f => unfold look; rw [if_neg h]
theorem look_less {ts : List (Nat × Nat)} {x f lo hi : Nat} {r : Nat × Nat} (h : lo < hi) (hr : ts.getD ((lo + hi) / 2) (0, 0) = r) (c : x < r.1) : look ts x (f + 1) lo hi = ((look ts x f lo ((lo + hi) / 2)).1, r :: (look ts x f lo ((lo + hi) / 2)).2) := by
  subst hr
  rw [look, if_pos h, if_pos c]
theorem look_more {ts : List (Nat × Nat)} {x f lo hi : Nat} {r : Nat × Nat} (h : lo < hi) (hr : ts.getD ((lo + hi) / 2) (0, 0) = r) (c : ¬ x < r.1) (c2 : r.2 < x) : look ts x (f + 1) lo hi = ((look ts x f ((lo + hi) / 2 + 1) hi).1, r :: (look ts x f ((lo + hi) / 2 + 1) hi).2) := by
  subst hr
  rw [look, if_pos h, if_neg c, if_pos c2]
theorem look_found {ts : List (Nat × Nat)} {x f lo hi : Nat} {r : Nat × Nat} (h : lo < hi) (hr : ts.getD ((lo + hi) / 2) (0, 0) = r) (c : ¬ x < r.1) (c2 : ¬ r.2 < x) : look ts x (f + 1) lo hi = (true, [r]) := by
  subst hr
  rw [look, if_pos h, if_neg c, if_neg c2]
theorem look_len (ts : List (Nat × Nat)) (x : Nat) : ∀ (f lo hi m : Nat), hi - lo < 2 ^ m → (look ts x f lo hi).2.length ≤ m
  | 0, _, _, _, _ => Nat.zero_le _
  | f + 1, lo, hi, m, h => by
    by_cases c : lo < hi
    · cases m with
      | zero => exact absurd h (by simp; omega)
      | succ m =>
        rw [Nat.pow_succ] at h
        by_cases c1 : x < (ts.getD ((lo + hi) / 2) (0, 0)).1
        · rw [look_less c rfl c1]
          have := look_len ts x f lo ((lo + hi) / 2) m (by omega)
          show (look ts x f lo ((lo + hi) / 2)).2.length + 1 ≤ m + 1
          omega
        · by_cases c2 : (ts.getD ((lo + hi) / 2) (0, 0)).2 < x
          · rw [look_more c rfl c1 c2]
            have := look_len ts x f ((lo + hi) / 2 + 1) hi m (by omega)
            show (look ts x f ((lo + hi) / 2 + 1) hi).2.length + 1 ≤ m + 1
            omega
          · rw [look_found c rfl c1 c2]
            show 1 ≤ m + 1
            omega
    · rw [look_done c]; exact Nat.zero_le _
theorem sep_get {ts : List (Nat × Nat)} (s : Sep ts) {i j : Nat} (h : i < j) (hj : j < ts.length) : (ts.getD i (0, 0)).2 + 1 < (ts.getD j (0, 0)).1 := by
  have hi : i < ts.length := by omega
  have := List.pairwise_iff_getElem.mp s.gap i j hi hj h
  rw [List.getD_eq_getElem?_getD, List.getElem?_eq_getElem hi, List.getD_eq_getElem?_getD, List.getElem?_eq_getElem hj]
  exact this
theorem getD_mem' {ts : List (Nat × Nat)} {i : Nat} (h : i < ts.length) : ts.getD i (0, 0) ∈ ts := by
  rw [List.getD_eq_getElem?_getD, List.getElem?_eq_getElem h]
  exact List.getElem_mem h
theorem look_right {ts : List (Nat × Nat)} (s : Sep ts) (x : Nat) : ∀ (f lo hi : Nat), hi - lo ≤ f → hi ≤ ts.length → (∀ i, i < lo → (ts.getD i (0, 0)).2 < x) → (∀ i, hi ≤ i → i < ts.length → x < (ts.getD i (0, 0)).1) → (look ts x f lo hi).1 = memB ts x
  | f, lo, hi, hf, hh, h1, h2 => by
    by_cases c : lo < hi
    · cases f with
      | zero => omega
      | succ f =>
        have hm : (lo + hi) / 2 < ts.length := by omega
        by_cases c1 : x < (ts.getD ((lo + hi) / 2) (0, 0)).1
        · rw [look_less c rfl c1]
          refine look_right s x f lo ((lo + hi) / 2) (by omega) (by omega) h1 fun i i1 i2 => ?_
          by_cases e : i = (lo + hi) / 2
          · rw [e]; exact c1
          · have a := sep_get s (show (lo + hi) / 2 < i by omega) i2
            have b := s.le _ (getD_mem' hm)
            omega
        · by_cases c2 : (ts.getD ((lo + hi) / 2) (0, 0)).2 < x
          · rw [look_more c rfl c1 c2]
            refine look_right s x f ((lo + hi) / 2 + 1) hi (by omega) hh (fun i i1 => ?_) h2
            by_cases e : i = (lo + hi) / 2
            · rw [e]; exact c2
            · have a := sep_get s (show i < (lo + hi) / 2 by omega) hm
              have b := s.le _ (getD_mem' hm)
              omega
          · rw [look_found c rfl c1 c2]
            refine (memB_iff.mpr ⟨_, getD_mem' hm, ?_, ?_⟩).symm <;> omega
    · rw [look_done c]
      cases hq : memB ts x with
      | false => rfl
      | true =>
        obtain ⟨r, hr, r1, r2⟩ := memB_iff.mp hq
        obtain ⟨i, hi, e⟩ := List.getElem_of_mem hr
        have ed : ts.getD i (0, 0) = r := by rw [List.getD_eq_getElem?_getD, List.getElem?_eq_getElem hi, e]; rfl
        by_cases ci : i < lo
        · have := h1 i ci; rw [ed] at this; omega
        · have := h2 i (by omega) hi; rw [ed] at this; omega
end SM

namespace SM
/-! tables: stretches, rows as they come -/
def strt (m : Nat → Bool) (w j : Nat) : List Bool := (List.range w).map fun i => m (j * w + i)
def cnt (n w : Nat) : Nat := (n - 1) / w + 1
def strc (n w : Nat) (m : Nat → Bool) : List (List Bool) := (List.range (cnt n w)).map (strt m w)
def put (rows : List (List Bool)) (s : List Bool) : List (List Bool) := if decide (s ∈ rows) = true then rows else rows ++ [s]
def puts (rows : List (List Bool)) (ss : List (List Bool)) : List (List Bool) := ss.foldl put rows
def tabF (n w : Nat) (t : List (List Nat) × List (List Bool)) (m : Nat → Bool) : List (List Nat) × List (List Bool) :=
  (t.1 ++ [(strc n w m).map fun s => (puts t.2 (strc n w m)).idxOf s], puts t.2 (strc n w m))
def tab (n w : Nat) (ms : List (Nat → Bool)) : List (List Nat) × List (List Bool) := ms.foldl (tabF n w) ([], [])
theorem put_mem (rows : List (List Bool)) (s : List Bool) : s ∈ put rows s := by
  unfold put
  by_cases h : s ∈ rows
  · rw [if_pos (decide_eq_true h)]; exact h
  · rw [if_neg (by rw [decide_eq_false h]; decide)]; simp
theorem put_keep {rows : List (List Bool)} {s x : List Bool} (h : x ∈ rows) : x ∈ put rows s := by
  unfold put
  by_cases c : s ∈ rows
  · rw [if_pos (decide_eq_true c)]; exact h
  · rw [if_neg (by rw [decide_eq_false c]; decide)]; exact List.mem_append_left _ h
theorem puts_keep {x : List Bool} : ∀ {ss rows : List (List Bool)}, x ∈ rows → x ∈ puts rows ss
  | [], _, h => h
  | s :: ss, rows, h => puts_keep (ss := ss) (rows := put rows s) (put_keep h)
theorem puts_mem {x : List Bool} : ∀ {ss rows : List (List Bool)}, x ∈ ss → x ∈ puts rows ss
  | s :: ss, rows, h => by
    rcases List.mem_cons.mp h with e | e
    · subst e; exact puts_keep (ss := ss) (rows := put rows x) (put_mem rows x)
    · exact puts_mem (ss := ss) (rows := put rows s) e
theorem puts_app (rows a b : List (List Bool)) : puts rows (a ++ b) = puts (puts rows a) b := List.foldl_append
theorem put_len (rows : List (List Bool)) (s : List Bool) : (put rows s).length ≤ rows.length + 1 := by
  unfold put
  by_cases c : s ∈ rows
  · rw [if_pos (decide_eq_true c)]; omega
  · rw [if_neg (by rw [decide_eq_false c]; decide), List.length_append]; exact Nat.le_refl _
theorem puts_len : ∀ (ss rows : List (List Bool)), (puts rows ss).length ≤ rows.length + ss.length
  | [], _ => Nat.le_refl _
  | s :: ss, rows => by
    have a := puts_len ss (put rows s)
    have b := put_len rows s
    rw [List.length_cons]
    show (puts (put rows s) ss).length ≤ _
    omega
theorem put_all {rows : List (List Bool)} {s : List Bool} {p : List Bool → Prop} (h : ∀ x ∈ rows, p x) (hs : p s) : ∀ x ∈ put rows s, p x := by
  intro x hx
  unfold put at hx
  by_cases c : s ∈ rows
  · rw [if_pos (decide_eq_true c)] at hx; exact h x hx
  · rw [if_neg (by rw [decide_eq_false c]; decide)] at hx
    rcases List.mem_append.mp hx with e | e
    · exact h x e
    · rw [List.mem_singleton.mp e]; exact hs
theorem puts_all {p : List Bool → Prop} : ∀ {ss rows : List (List Bool)}, (∀ x ∈ rows, p x) → (∀ x ∈ ss, p x) → ∀ x ∈ puts rows ss, p x
  | [], _, h, _ => h
  | s :: ss, rows, h, hs => puts_all (ss := ss) (rows := put rows s) (put_all h (hs s List.mem_cons_self)) fun x hx => hs x (List.mem_cons_of_mem _ hx)
/-- the signs of a set, and those behind the size -/
def line (n w : Nat) (m : Nat → Bool) : List Bool := (List.range n).map m ++ List.replicate w false
theorem line_cut {n w j : Nat} {m : Nat → Bool} (hm : ∀ k, n ≤ k → m k = false) (hj : j * w < n) : ((line n w m).drop (j * w)).take w = strt m w j := by
  refine List.ext_getElem? fun i => ?_
  unfold strt
  by_cases hi : i < w
  · rw [List.getElem?_take, if_pos hi, List.getElem?_drop, List.getElem?_map, List.getElem?_range hi]
    unfold line
    by_cases hk : j * w + i < n
    · rw [List.getElem?_append_left (by rw [List.length_map, List.length_range]; exact hk), List.getElem?_map, List.getElem?_range hk]; rfl
    · rw [List.getElem?_append_right (by rw [List.length_map, List.length_range]; omega), List.length_map, List.length_range, List.getElem?_replicate, if_pos (by omega)]
      show some false = some (m (j * w + i))
      rw [hm _ (by omega)]
  · rw [List.getElem?_take, if_neg hi, List.getElem?_map, List.getElem?_eq_none (by rw [List.length_range]; omega)]; rfl
theorem strt_len (m : Nat → Bool) (w j : Nat) : (strt m w j).length = w := by unfold strt; rw [List.length_map, List.length_range]
theorem strc_len (n w : Nat) (m : Nat → Bool) : (strc n w m).length = cnt n w := by unfold strc; rw [List.length_map, List.length_range]
theorem cnt_lt {n w j : Nat} (hn : 1 ≤ n) (hw : 1 ≤ w) (h : j < cnt n w) : j * w < n := by
  unfold cnt at h
  have h1 : j ≤ (n - 1) / w := by omega
  have h2 := Nat.mul_le_mul_right w h1
  have h3 := Nat.div_mul_le_self (n - 1) w
  omega
theorem cnt_le {n w : Nat} (hn : 1 ≤ n) : cnt n w ≤ n := by
  unfold cnt
  have := Nat.div_le_self (n - 1) w
  omega
end SM

namespace SM
/-! classes: signs by what has them -/
theorem mem_put {rows : List (List Bool)} {s x : List Bool} : x ∈ put rows s ↔ x ∈ rows ∨ x = s := by
  unfold put
  by_cases c : s ∈ rows
  · rw [if_pos (decide_eq_true c)]
    constructor
    · exact .inl
    · rintro (h | h)
      · exact h
      · rw [h]; exact c
  · rw [if_neg (by rw [decide_eq_false c]; decide), List.mem_append, List.mem_singleton]
theorem mem_puts {x : List Bool} : ∀ {ss rows : List (List Bool)}, x ∈ puts rows ss ↔ x ∈ rows ∨ x ∈ ss
  | [], rows => by simp [puts]
  | s :: ss, rows => by
    show x ∈ puts (put rows s) ss ↔ _
    rw [mem_puts (ss := ss), mem_put, List.mem_cons, or_assoc]
theorem put_nodup {rows : List (List Bool)} {s : List Bool} (h : rows.Nodup) : (put rows s).Nodup := by
  unfold put
  by_cases c : s ∈ rows
  · rw [if_pos (decide_eq_true c)]; exact h
  · rw [if_neg (by rw [decide_eq_false c]; decide)]
    refine List.nodup_append.mpr ⟨h, by simp, fun a ha b hb => ?_⟩
    rw [List.mem_singleton.mp hb]
    intro e; subst e; exact c ha
theorem puts_nodup : ∀ {ss rows : List (List Bool)}, rows.Nodup → (puts rows ss).Nodup
  | [], _, h => h
  | s :: ss, rows, h => puts_nodup (ss := ss) (rows := put rows s) (put_nodup h)
theorem len_sub {α : Type} [DecidableEq α] : ∀ {a b : List α}, a.Nodup → (∀ x ∈ a, x ∈ b) → a.length ≤ b.length
  | [], b, _, _ => Nat.zero_le _
  | x :: a, b, h, hs => by
    obtain ⟨h1, h2⟩ := List.nodup_cons.mp h
    have hx := hs x List.mem_cons_self
    have ih := len_sub (a := a) (b := b.erase x) h2 fun y hy => (List.mem_erase_of_ne (fun e : y = x => h1 (e ▸ hy))).mpr (hs y (List.mem_cons_of_mem _ hy))
    rw [List.length_erase_of_mem hx] at ih
    have hp : 0 < b.length := List.length_pos_of_mem hx
    rw [List.length_cons]
    omega
def sg (rss : List (List (Nat × Nat))) (k : Nat) : List Bool := rss.map fun rs => memB rs k
def SG (rss : List (List (Nat × Nat))) (n : Nat) : List (List Bool) := (List.range n).map (sg rss)
def UN (rss : List (List (Nat × Nat))) (n : Nat) : List (List Bool) := puts [] (SG rss n)
def rowF (rss : List (List (Nat × Nat))) (n : Nat) : List Nat := (SG rss n).map fun s => (UN rss n).idxOf s
def clsF (rss : List (List (Nat × Nat))) (n : Nat) : List (List (Nat × Nat)) := (List.range (UN rss n).length).map fun c => told (fun k => decide ((rowF rss n).getD k 0 = c)) n
def evF (rss : List (List (Nat × Nat))) (n : Nat) : List (List Nat) := (List.range rss.length).map fun a => (List.range (UN rss n).length).filter fun c => ((UN rss n).getD c []).getD a false
theorem mem_SG {rss : List (List (Nat × Nat))} {n : Nat} {s : List Bool} : s ∈ SG rss n ↔ ∃ k, k < n ∧ sg rss k = s := by
  unfold SG
  rw [List.mem_map]
  constructor
  · rintro ⟨k, hk, e⟩; exact ⟨k, List.mem_range.mp hk, e⟩
  · rintro ⟨k, hk, e⟩; exact ⟨k, List.mem_range.mpr hk, e⟩
theorem mem_UN {rss : List (List (Nat × Nat))} {n : Nat} {s : List Bool} : s ∈ UN rss n ↔ ∃ k, k < n ∧ sg rss k = s := by
  unfold UN
  rw [mem_puts, mem_SG]
  simp
theorem UN_nodup (rss : List (List (Nat × Nat))) (n : Nat) : (UN rss n).Nodup := puts_nodup List.nodup_nil
theorem UN_len (rss : List (List (Nat × Nat))) (n : Nat) : (UN rss n).length ≤ n := by
  have := puts_len (SG rss n) []
  unfold SG at this
  rw [List.length_map, List.length_range] at this
  simpa [UN, SG] using this
theorem sg_more (rss : List (List (Nat × Nat))) (x k : Nat) : sg (rss ++ [[(x, x)]]) k = sg rss k ++ [decide (k = x)] := by
  unfold sg
  rw [List.map_append]
  refine congrArg _ ?_
  show [memB [(x, x)] k] = _
  rw [memB_one]
  refine congrArg (fun z => [z]) ?_
  rw [Bool.eq_iff_iff]
  simp only [Bool.and_eq_true, decide_eq_true_eq]
  omega
theorem UN_more (rss : List (List (Nat × Nat))) (n x : Nat) : (UN rss n).length ≤ (UN (rss ++ [[(x, x)]]) n).length ∧ (UN (rss ++ [[(x, x)]]) n).length ≤ (UN rss n).length + 1 := by
  constructor
  · have h := len_sub (a := UN rss n) (b := (UN (rss ++ [[(x, x)]]) n).map List.dropLast) (UN_nodup _ _) fun s hs => by
      obtain ⟨k, hk, rfl⟩ := mem_UN.mp hs
      refine List.mem_map.mpr ⟨sg (rss ++ [[(x, x)]]) k, mem_UN.mpr ⟨k, hk, rfl⟩, ?_⟩
      rw [sg_more, List.dropLast_concat]
    rw [List.length_map] at h
    exact h
  · have h := len_sub (a := UN (rss ++ [[(x, x)]]) n) (b := (UN rss n).map (fun s => s ++ [false]) ++ [sg rss x ++ [true]]) (UN_nodup _ _) fun s hs => by
      obtain ⟨k, hk, rfl⟩ := mem_UN.mp hs
      rw [sg_more]
      by_cases c : k = x
      · subst c
        rw [decide_eq_true rfl]
        exact List.mem_append_right _ (List.mem_singleton.mpr rfl)
      · rw [decide_eq_false c]
        exact List.mem_append_left _ (List.mem_map.mpr ⟨sg rss k, mem_UN.mpr ⟨k, hk, rfl⟩, rfl⟩)
    rw [List.length_append, List.length_map] at h
    exact h
end SM

namespace SM
/-! the cells of tables -/
theorem fold_rows (n w : Nat) : ∀ (ms : List (Nat → Bool)) (t : List (List Nat) × List (List Bool)), (ms.foldl (tabF n w) t).2 = puts t.2 (ms.flatMap (strc n w))
  | [], _ => rfl
  | m :: ms, t => by
    rw [List.foldl_cons, fold_rows n w ms, List.flatMap_cons, puts_app]; rfl
theorem tab_rows (n w : Nat) (ms : List (Nat → Bool)) : (tab n w ms).2 = puts [] (ms.flatMap (strc n w)) := fold_rows n w ms _
theorem fold_firsts (n w : Nat) : ∀ (ms : List (Nat → Bool)) (t : List (List Nat) × List (List Bool)), (ms.foldl (tabF n w) t).1.map List.length = t.1.map List.length ++ List.replicate ms.length (cnt n w)
  | [], _ => by simp
  | m :: ms, t => by
    rw [List.foldl_cons, fold_firsts n w ms, List.length_cons, List.replicate_succ]
    show (t.1 ++ [_]).map List.length ++ _ = _
    rw [List.map_append, List.append_assoc, List.map_cons, List.map_nil, List.length_map, strc_len]; rfl
theorem tab_firsts (n w : Nat) (ms : List (Nat → Bool)) : (tab n w ms).1.map List.length = List.replicate ms.length (cnt n w) := by
  have := fold_firsts n w ms ([], [])
  exact this
def CE (n : Nat) (ms : List (Nat → Bool)) (w : Nat) : Nat := ms.length * cnt n w + (puts [] (ms.flatMap (strc n w))).length * w
theorem rows_len (n w : Nat) (ms : List (Nat → Bool)) : ∀ x ∈ puts [] (ms.flatMap (strc n w)), x.length = w :=
  puts_all (fun _ h => absurd h List.not_mem_nil) fun x hx => by
    obtain ⟨m, _, h⟩ := List.mem_flatMap.mp hx
    obtain ⟨j, _, rfl⟩ := List.mem_map.mp h
    exact strt_len m w j
theorem map_const {α β : Type} {f : α → β} {c : β} : ∀ {l : List α}, (∀ x ∈ l, f x = c) → l.map f = List.replicate l.length c
  | [], _ => rfl
  | a :: l, h => by rw [List.map_cons, List.length_cons, List.replicate_succ, h a List.mem_cons_self, map_const fun x hx => h x (List.mem_cons_of_mem _ hx)]
theorem sum_rep (k c : Nat) : (List.replicate k c).sum = k * c := by
  induction k with
  | zero => simp
  | succ k ih => rw [List.replicate_succ, List.sum_cons, ih, Nat.succ_mul]; omega
theorem tab_cells (n w : Nat) (ms : List (Nat → Bool)) : ((tab n w ms).1.map List.length ++ (tab n w ms).2.map List.length).sum = CE n ms w := by
  rw [List.sum_append, tab_firsts, tab_rows, map_const (rows_len n w ms), sum_rep, sum_rep]; rfl
theorem CE_sub {n w : Nat} {ms ms' : List (Nat → Bool)} (hl : ms.length ≤ ms'.length) (h : ∀ m ∈ ms, m ∈ ms') : CE n ms w ≤ CE n ms' w := by
  have a : (puts [] (ms.flatMap (strc n w))).length ≤ (puts [] (ms'.flatMap (strc n w))).length :=
    len_sub (puts_nodup List.nodup_nil) fun x hx => by
      rcases mem_puts.mp hx with h1 | h1
      · exact absurd h1 List.not_mem_nil
      · obtain ⟨m, hm, h2⟩ := List.mem_flatMap.mp h1
        exact mem_puts.mpr (.inr (List.mem_flatMap.mpr ⟨m, h m hm, h2⟩))
  exact Nat.add_le_add (Nat.mul_le_mul_right _ hl) (Nat.mul_le_mul_right _ a)
theorem CE_more {n w : Nat} {ms ms' : List (Nat → Bool)} (hl : ms.length ≤ ms'.length + 1) (h : ∀ m ∈ ms, m ∈ ms') : CE n ms w ≤ CE n ms' w + cnt n w := by
  have a : (puts [] (ms.flatMap (strc n w))).length ≤ (puts [] (ms'.flatMap (strc n w))).length :=
    len_sub (puts_nodup List.nodup_nil) fun x hx => by
      rcases mem_puts.mp hx with h1 | h1
      · exact absurd h1 List.not_mem_nil
      · obtain ⟨m, hm, h2⟩ := List.mem_flatMap.mp h1
        exact mem_puts.mpr (.inr (List.mem_flatMap.mpr ⟨m, h m hm, h2⟩))
  have b := Nat.mul_le_mul_right (cnt n w) hl
  have c := Nat.mul_le_mul_right w a
  rw [Nat.add_mul, Nat.one_mul] at b
  unfold CE
  omega
/-- the least (value, place), places from 1 on, of n + 1 places -/
def lea (f : Nat → Nat) : Nat → Nat × Nat
  | 0 => (f 1, 1)
  | n + 1 => if f (n + 2) < (lea f n).1 then (f (n + 2), n + 2) else lea f n
theorem lea_at (f : Nat → Nat) : ∀ n, (lea f n).1 = f (lea f n).2 ∧ 1 ≤ (lea f n).2 ∧ (lea f n).2 ≤ n + 1
  | 0 => ⟨rfl, Nat.le_refl 1, Nat.le_refl 1⟩
  | n + 1 => by
    have := lea_at f n
    unfold lea
    split
    · exact ⟨rfl, by show 1 ≤ n + 2; omega, by show n + 2 ≤ n + 1 + 1; omega⟩
    · exact ⟨this.1, this.2.1, by omega⟩
theorem lea_le (f : Nat → Nat) : ∀ n w, 1 ≤ w → w ≤ n + 1 → (lea f n).1 ≤ f w ∧ (w < (lea f n).2 → (lea f n).1 < f w)
  | 0, w, h1, h2 => by
    have : w = 1 := by omega
    subst this
    exact ⟨Nat.le_refl _, fun h => absurd h (Nat.lt_irrefl _)⟩
  | n + 1, w, h1, h2 => by
    have ih := lea_le f n
    have at' := lea_at f n
    unfold lea
    split
    · rename_i hlt
      show f (n + 2) ≤ f w ∧ (w < n + 2 → f (n + 2) < f w)
      by_cases e : w = n + 2
      · subst e; exact ⟨Nat.le_refl _, fun h => absurd h (Nat.lt_irrefl _)⟩
      · have := (ih w h1 (by omega)).1
        exact ⟨by omega, fun _ => by omega⟩
    · rename_i hge
      by_cases e : w = n + 2
      · subst e; exact ⟨by omega, fun h => by omega⟩
      · exact ih w h1 (by omega)
theorem lea_mono {f g : Nat → Nat} {n c : Nat} (h : ∀ w, 1 ≤ w → w ≤ n + 1 → f w ≤ g w + c) : (lea f n).1 ≤ (lea g n).1 + c := by
  have a := lea_at g n
  have b := (lea_le f n _ a.2.1 a.2.2).1
  have := h _ a.2.1 a.2.2
  omega
/-- what is asked of a set more: only at the told width -/
theorem lea_more {f g : Nat → Nat} {n : Nat} {c : Nat → Nat} (h : ∀ w, 1 ≤ w → w ≤ n + 1 → f w ≤ g w + c w) : (lea f n).1 ≤ (lea g n).1 + c (lea g n).2 := by
  have a := lea_at g n
  have b := (lea_le f n _ a.2.1 a.2.2).1
  have := h _ a.2.1 a.2.2
  omega
theorem cnt_up {n w : Nat} (hn : 1 ≤ n) (hw : 1 ≤ w) : (n + w - 1) / w = cnt n w := by
  unfold cnt
  rw [show n + w - 1 = (n - 1) + w by omega, Nat.add_div_right _ (by omega)]
end SM

namespace SM
/-! looking into a table -/
theorem put_pre (rows : List (List Bool)) (s : List Bool) : rows <+: put rows s := by
  unfold put
  by_cases c : s ∈ rows
  · rw [if_pos (decide_eq_true c)]; exact List.prefix_rfl
  · rw [if_neg (by rw [decide_eq_false c]; decide)]; exact List.prefix_append _ _
theorem puts_pre : ∀ (ss rows : List (List Bool)), rows <+: puts rows ss
  | [], _ => List.prefix_rfl
  | s :: ss, rows => (put_pre rows s).trans (puts_pre ss (put rows s))
theorem at_pre {α : Type} {a b : List α} {i : Nat} {x : α} (h : a <+: b) (e : a[i]? = some x) : b[i]? = some x := by
  obtain ⟨t, rfl⟩ := h
  rw [List.getElem?_append_left (List.getElem?_eq_some_iff.mp e).1, e]
theorem tabs_pre (n w : Nat) : ∀ (ms : List (Nat → Bool)) (t : List (List Nat) × List (List Bool)), t.1 <+: (ms.foldl (tabF n w) t).1 ∧ t.2 <+: (ms.foldl (tabF n w) t).2
  | [], _ => ⟨List.prefix_rfl, List.prefix_rfl⟩
  | m :: ms, t => by
    have ih := tabs_pre n w ms (tabF n w t m)
    exact ⟨(List.prefix_append _ _).trans ih.1, (puts_pre (strc n w m) t.2).trans ih.2⟩
theorem tabs_at (n w : Nat) : ∀ (ms : List (Nat → Bool)) (t : List (List Nat) × List (List Bool)) (i : Nat) (m : Nat → Bool), ms[i]? = some m → ∀ j, j < cnt n w →
    ∃ L k, (ms.foldl (tabF n w) t).1[t.1.length + i]? = some L ∧ L[j]? = some k ∧ (ms.foldl (tabF n w) t).2[k]? = some (strt m w j)
  | [], _, i, _, h, _, _ => by simp at h
  | m0 :: ms, t, 0, m, h, j, hj => by
    have e : m0 = m := by simpa using h
    subst e
    have pre := tabs_pre n w ms (tabF n w t m0)
    have hs : strt m0 w j ∈ strc n w m0 := by
      unfold strc
      exact List.mem_map.mpr ⟨j, List.mem_range.mpr hj, rfl⟩
    have hm : strt m0 w j ∈ puts t.2 (strc n w m0) := puts_mem hs
    refine ⟨(strc n w m0).map fun s => (puts t.2 (strc n w m0)).idxOf s, (puts t.2 (strc n w m0)).idxOf (strt m0 w j), at_pre pre.1 ?_, ?_, at_pre pre.2 ?_⟩
    · show (t.1 ++ [_])[t.1.length + 0]? = _
      rw [List.getElem?_append_right (by omega)]; simp
    · rw [List.getElem?_map]
      unfold strc
      rw [List.getElem?_map, List.getElem?_range hj]; rfl
    · have hl := List.idxOf_lt_length_iff.mpr hm
      show (puts t.2 (strc n w m0))[_]? = _
      rw [List.getElem?_eq_getElem hl, List.getElem_idxOf hl]
  | m0 :: ms, t, i + 1, m, h, j, hj => by
    have h' : ms[i]? = some m := by simpa using h
    obtain ⟨L, k, a, b, c⟩ := tabs_at n w ms (tabF n w t m0) i m h' j hj
    refine ⟨L, k, ?_, b, c⟩
    have e : (tabF n w t m0).1.length = t.1.length + 1 := by
      show (t.1 ++ [_]).length = _
      rw [List.length_append]; rfl
    rw [e] at a
    rw [List.foldl_cons, show t.1.length + (i + 1) = t.1.length + 1 + i by omega]
    exact a
theorem tab_at {n w i j : Nat} {ms : List (Nat → Bool)} {m : Nat → Bool} (h : ms[i]? = some m) (hj : j < cnt n w) : ∃ L k, (tab n w ms).1[i]? = some L ∧ L[j]? = some k ∧ (tab n w ms).2[k]? = some (strt m w j) := by
  obtain ⟨L, k, a, b, c⟩ := tabs_at n w ms ([], []) i m h j hj
  exact ⟨L, k, by simpa [tab] using a, b, c⟩
theorem tabs_wide (n w : Nat) : ∀ (ms : List (Nat → Bool)) (t : List (List Nat) × List (List Bool)), (∀ r ∈ t.2, r.length = w) → ∀ r ∈ (ms.foldl (tabF n w) t).2, r.length = w
  | [], _, h => h
  | m :: ms, t, h => tabs_wide n w ms (tabF n w t m) (puts_all h fun x hx => by
      unfold strc at hx
      obtain ⟨j, _, rfl⟩ := List.mem_map.mp hx
      exact strt_len m w j)
theorem tab_wide {n w : Nat} {ms : List (Nat → Bool)} : ∀ r ∈ (tab n w ms).2, r.length = w := tabs_wide n w ms ([], []) fun _ h => by simp at h
theorem tab_zero {n w : Nat} {ms : List (Nat → Bool)} (h : ms ≠ []) : ∃ r, (tab n w ms).2[0]? = some r ∧ r.length = w := by
  have hp : 0 < ms.length := List.length_pos_iff.mpr h
  obtain ⟨L, k, _, _, c⟩ := tab_at (n := n) (w := w) (i := 0) (j := 0) (List.getElem?_eq_getElem hp) (by unfold cnt; exact Nat.succ_pos _)
  have hl := (List.getElem?_eq_some_iff.mp c).1
  have h0 : 0 < (tab n w ms).2.length := by omega
  exact ⟨_, List.getElem?_eq_getElem h0, tab_wide _ (List.getElem_mem h0)⟩
theorem strt_at {m : Nat → Bool} {w x : Nat} (hw : 1 ≤ w) : (strt m w (x / w))[x % w]? = some (m x) := by
  unfold strt
  rw [List.getElem?_map, List.getElem?_range (Nat.mod_lt _ hw)]
  show some (m (x / w * w + x % w)) = _
  rw [Nat.mul_comm, Nat.div_add_mod]
theorem cnt_div {n w x : Nat} (hw : 1 ≤ w) (h : x < n) : x / w < cnt n w := by
  unfold cnt
  have : x / w ≤ (n - 1) / w := Nat.div_le_div_right (by omega)
  omega
/-- a stretch that is cut short, filled up -/
theorem short_cut {n w j : Nat} {m : Nat → Bool} (hm : ∀ k, n ≤ k → m k = false) (hj : j * w < n) :
    ((((List.range n).map m).drop (j * w)).take w) ++ List.replicate (w - ((((List.range n).map m).drop (j * w)).take w).length) false = strt m w j := by
  have hl : ((((List.range n).map m).drop (j * w)).take w).length = min w (n - j * w) := by
    rw [List.length_take, List.length_drop, List.length_map, List.length_range]
  refine List.ext_getElem? fun i => ?_
  unfold strt
  by_cases hi : i < w
  · rw [List.getElem?_map, List.getElem?_range hi]
    by_cases hk : j * w + i < n
    · rw [List.getElem?_append_left (by rw [hl]; omega), List.getElem?_take, if_pos hi, List.getElem?_drop, List.getElem?_map, List.getElem?_range hk]; rfl
    · rw [List.getElem?_append_right (by rw [hl]; omega), List.getElem?_replicate, if_pos (by rw [hl]; omega)]
      show some false = some (m (j * w + i))
      rw [hm _ (by omega)]
  · rw [List.getElem?_eq_none (by rw [List.length_append, List.length_replicate, hl]; omega), List.getElem?_eq_none (by rw [List.length_map, List.length_range]; omega)]
end SM

namespace SM
/-! classes: the numbers as they come -/
theorem idx_app {α : Type} [BEq α] [LawfulBEq α] {s : α} : ∀ {a b : List α}, s ∈ a → (a ++ b).idxOf s = a.idxOf s
  | x :: a, b, h => by
    rw [List.cons_append, List.idxOf_cons, List.idxOf_cons]
    cases c : x == s with
    | true => rfl
    | false =>
      rcases List.mem_cons.mp h with e | e
      · rw [e, beq_self_eq_true] at c; cases c
      · rw [idx_app e]
theorem getD_lt {α : Type} {xs : List α} {i : Nat} {d : α} (h : i < xs.length) : xs.getD i d = xs[i] := by
  rw [List.getD_eq_getElem?_getD, List.getElem?_eq_getElem h]; rfl
theorem idx_pre {α : Type} [BEq α] [LawfulBEq α] {a b : List α} {s : α} (h : a <+: b) (hs : s ∈ a) : b.idxOf s = a.idxOf s := by
  obtain ⟨t, rfl⟩ := h
  exact idx_app hs
theorem idx_new {α : Type} [BEq α] [LawfulBEq α] : ∀ {a : List α} {s : α}, s ∉ a → (a ++ [s]).idxOf s = a.length
  | [], s, _ => by simp
  | x :: a, s, h => by
    have h1 : x ≠ s := fun z => h (by rw [z]; exact List.mem_cons_self)
    rw [List.cons_append, List.idxOf_cons, show (x == s) = false from beq_eq_false_iff_ne.mpr h1, List.length_cons, ← idx_new (a := a) (s := s) fun z => h (List.mem_cons_of_mem _ z)]
    rfl
theorem UN_succ (rss : List (List (Nat × Nat))) (i : Nat) : UN rss (i + 1) = put (UN rss i) (sg rss i) := by
  unfold UN SG
  rw [List.range_succ, List.map_append, puts_app]; rfl
theorem UN_pre (rss : List (List (Nat × Nat))) : ∀ {i n : Nat}, i ≤ n → UN rss i <+: UN rss n
  | i, 0, h => by
    have : i = 0 := by omega
    subst this; exact List.prefix_rfl
  | i, n + 1, h => by
    by_cases c : i = n + 1
    · subst c; exact List.prefix_rfl
    · exact (UN_pre rss (show i ≤ n by omega)).trans (by rw [UN_succ]; exact put_pre _ _)
theorem rowF_get (rss : List (List (Nat × Nat))) (n : Nat) : rowF rss n = (List.range n).map fun k => (UN rss n).idxOf (sg rss k) := by
  unfold rowF SG
  rw [List.map_map]; rfl
theorem rowF_len (rss : List (List (Nat × Nat))) (n : Nat) : (rowF rss n).length = n := by rw [rowF_get, List.length_map, List.length_range]
theorem rowF_at {rss : List (List (Nat × Nat))} {n k : Nat} (h : k < n) : (rowF rss n)[k]? = some ((UN rss n).idxOf (sg rss k)) := by
  rw [rowF_get, List.getElem?_map, List.getElem?_range h]; rfl
theorem rowF_lt {rss : List (List (Nat × Nat))} {n : Nat} : ∀ m ∈ rowF rss n, m < (UN rss n).length := fun m hm => by
  rw [rowF_get] at hm
  obtain ⟨k, hk, rfl⟩ := List.mem_map.mp hm
  exact List.idxOf_lt_length_iff.mpr (mem_UN.mpr ⟨k, List.mem_range.mp hk, rfl⟩)
theorem idx_nodup {α : Type} [BEq α] [LawfulBEq α] : ∀ {a : List α} {i : Nat} (h : i < a.length), a.Nodup → a.idxOf a[i] = i
  | x :: a, 0, h, _ => by simp
  | x :: a, i + 1, h, nd => by
    have nd' := List.nodup_cons.mp nd
    have hi : i < a.length := by simpa using h
    have ne : x ≠ a[i] := fun z => nd'.1 (by rw [z]; exact List.getElem_mem hi)
    show (x :: a).idxOf a[i] = i + 1
    rw [List.idxOf_cons, show (x == a[i]) = false from beq_eq_false_iff_ne.mpr ne, idx_nodup hi nd'.2]; rfl
theorem rowF_has {rss : List (List (Nat × Nat))} {n c : Nat} (h : c < (UN rss n).length) : c ∈ rowF rss n := by
  obtain ⟨k, hk, e⟩ := mem_UN.mp (List.getElem_mem h)
  rw [rowF_get]
  exact List.mem_map.mpr ⟨k, List.mem_range.mpr hk, by rw [e]; exact idx_nodup h (UN_nodup rss n)⟩
theorem UN_pos {rss : List (List (Nat × Nat))} {n : Nat} (h : 1 ≤ n) : 1 ≤ (UN rss n).length := List.length_pos_of_mem (mem_UN.mpr ⟨0, h, rfl⟩)
/-- the classes of the a-th set: those of its signs -/
theorem ev_mem {rss : List (List (Nat × Nat))} {n a : Nat} {rs : List (Nat × Nat)} (ha : rss[a]? = some rs) (c : Nat) :
    c ∈ ((List.range (UN rss n).length).filter fun c => ((UN rss n).getD c []).getD a false) ↔ ∃ k, k < n ∧ memB rs k = true ∧ (UN rss n).idxOf (sg rss k) = c := by
  have sgA : ∀ k, (sg rss k).getD a false = memB rs k := fun k => by
    unfold sg
    rw [List.getD_eq_getElem?_getD, List.getElem?_map, ha]; rfl
  rw [List.mem_filter, List.mem_range]
  constructor
  · rintro ⟨h1, h2⟩
    rw [getD_lt h1] at h2
    obtain ⟨k, hk, e⟩ := mem_UN.mp (List.getElem_mem h1)
    refine ⟨k, hk, ?_, by rw [e]; exact idx_nodup h1 (UN_nodup rss n)⟩
    rw [← sgA k, e]; exact h2
  · rintro ⟨k, hk, h2, rfl⟩
    have hm : sg rss k ∈ UN rss n := mem_UN.mpr ⟨k, hk, rfl⟩
    have hl := List.idxOf_lt_length_iff.mpr hm
    refine ⟨hl, ?_⟩
    rw [getD_lt hl, List.getElem_idxOf hl]
    rw [sgA, h2]
end SM

/-! values by their data: what a reading makes, told by data alone -/
namespace SB
open PySem L2 Evl
variable {K : PySem.W.Frag} {σ : L2.St} {H H' H1 : Hp}
mutual
theorem dpMono (e : Ex H H') : ∀ (d : PyData) (v : V), Dp K H v d → Dp K H' v d
  | .none, _, h => by cases h; exact .non
  | .bool b, _, h => by cases h; exact .bl b
  | .int i, _, h => by cases h; exact .int i
  | .str x, _, h => by cases h; exact .str x
  | .list ds, _, h => by
    cases h with
    | lst hs ha => exact .lst (ex_l e hs) (dpAllMono e ds _ ha)
  | .tuple ds, _, h => by
    cases h with
    | tup hs ha => exact .tup (ex_t e hs) (dpAllMono e ds _ ha)
  | .dict _, _, h => by cases h
theorem dpAllMono (e : Ex H H') : ∀ (ds : List PyData) (vs : List V), DpAll K H vs ds → DpAll K H' vs ds
  | [], _, h => by cases h; exact .nil
  | d :: ds, _, h => by
    cases h with
    | cons h1 h2 => exact .cons (dpMono e d _ h1) (dpAllMono e ds _ h2)
end
theorem mono {d : PyData} {v : V} (e : Ex H H') (h : Dp K H v d) : Dp K H' v d := dpMono e d v h
theorem monoA {ds : List PyData} {vs : List V} (e : Ex H H') (h : DpAll K H vs ds) : DpAll K H' vs ds := dpAllMono e ds vs h
theorem dpInt {v : V} {i : Int} (h : Dp K H v (.int i)) : v = .int i := by cases h; rfl
theorem dpBool {v : V} {b : Bool} (h : Dp K H v (.bool b)) : v = .bl b := by cases h; rfl
theorem dpStr {v : V} {x : Str} (h : Dp K H v (.str x)) : v = .str x := by cases h; rfl
theorem dpList {v : V} {ds : List PyData} (h : Dp K H v (.list ds)) : ∃ a xs, v = .ref a ∧ SqL K H a xs ∧ DpAll K H xs ds := by
  cases h with
  | lst hs ha => exact ⟨_, _, rfl, hs, ha⟩
theorem dpTuple {v : V} {ds : List PyData} (h : Dp K H v (.tuple ds)) : ∃ a xs, v = .ref a ∧ SqT K H a xs ∧ DpAll K H xs ds := by
  cases h with
  | tup hs ha => exact ⟨_, _, rfl, hs, ha⟩
theorem allNil {vs : List V} (h : DpAll K H vs []) : vs = [] := by cases h; rfl
theorem allCons {vs : List V} {d : PyData} {ds : List PyData} (h : DpAll K H vs (d :: ds)) : ∃ x xs, vs = x :: xs ∧ Dp K H x d ∧ DpAll K H xs ds := by
  cases h with
  | cons h1 h2 => exact ⟨_, _, rfl, h1, h2⟩
theorem all1 {vs : List V} {d : PyData} (h : DpAll K H vs [d]) : ∃ x, vs = [x] ∧ Dp K H x d := by
  obtain ⟨x, xs, rfl, h1, h2⟩ := allCons h
  rw [allNil h2]
  exact ⟨x, rfl, h1⟩
theorem all2 {vs : List V} {d e : PyData} (h : DpAll K H vs [d, e]) : ∃ x y, vs = [x, y] ∧ Dp K H x d ∧ Dp K H y e := by
  obtain ⟨x, xs, rfl, h1, h2⟩ := allCons h
  obtain ⟨y, rfl, h3⟩ := all1 h2
  exact ⟨x, y, rfl, h1, h3⟩
theorem all3 {vs : List V} {d e f : PyData} (h : DpAll K H vs [d, e, f]) : ∃ x y z, vs = [x, y, z] ∧ Dp K H x d ∧ Dp K H y e ∧ Dp K H z f := by
  obtain ⟨x, xs, rfl, h1, h2⟩ := allCons h
  obtain ⟨y, z, rfl, h3, h4⟩ := all2 h2
  exact ⟨x, y, z, rfl, h1, h3, h4⟩
theorem allLen : ∀ {ds : List PyData} {vs : List V}, DpAll K H vs ds → vs.length = ds.length
  | [], _, h => by cases h; rfl
  | d :: ds, _, h => by
    cases h with
    | cons h1 h2 => rw [List.length_cons, List.length_cons, allLen h2]
theorem allGet : ∀ {ds : List PyData} {vs : List V} {i : Nat} {d : PyData}, DpAll K H vs ds → ds[i]? = some d → ∃ x, vs[i]? = some x ∧ Dp K H x d
  | [], _, i, _, h, e => by simp at e
  | d :: ds, _, 0, _, h, e => by
    cases h with
    | cons h1 h2 => simp at e; subst e; exact ⟨_, rfl, h1⟩
  | d :: ds, _, i + 1, _, h, e => by
    cases h with
    | cons h1 h2 =>
      obtain ⟨x, q, r⟩ := allGet h2 (show ds[i]? = some _ by simpa using e)
      exact ⟨x, by simpa using q, r⟩
theorem allAt : ∀ {ds : List PyData} {vs : List V} {i : Nat} {x : V}, DpAll K H vs ds → vs[i]? = some x → Dp K H x (ds.getD i .none)
  | [], _, i, _, h, e => by cases h; simp at e
  | d :: ds, _, 0, _, h, e => by
    cases h with
    | cons h1 h2 => simp at e; subst e; exact h1
  | d :: ds, _, i + 1, _, h, e => by
    cases h with
    | cons h1 h2 =>
      have q := allAt h2 (i := i) (by simpa using e)
      simpa using q
theorem allApp : ∀ {ds es : List PyData} {vs ws : List V}, DpAll K H vs ds → DpAll K H ws es → DpAll K H (vs ++ ws) (ds ++ es)
  | [], _, _, _, h, k => by cases h; exact k
  | d :: ds, _, _, _, h, k => by
    cases h with
    | cons h1 h2 => exact .cons h1 (allApp h2 k)
theorem allSet {d : PyData} {x : V} (hx : Dp K H x d) : ∀ {ds : List PyData} {vs : List V} (i : Nat), DpAll K H vs ds → DpAll K H (vs.set i x) (ds.set i d)
  | [], _, _, h => by cases h; exact .nil
  | e :: ds, _, 0, h => by
    cases h with
    | cons h1 h2 => exact .cons hx h2
  | e :: ds, _, i + 1, h => by
    cases h with
    | cons h1 h2 => exact .cons h1 (allSet hx i h2)
theorem allRev : ∀ {ds : List PyData} {vs : List V}, DpAll K H vs ds → DpAll K H vs.reverse ds.reverse
  | [], _, h => by cases h; exact .nil
  | d :: ds, _, h => by
    cases h with
    | cons h1 h2 =>
      rw [List.reverse_cons, List.reverse_cons]
      exact allApp (allRev h2) (.cons h1 .nil)
theorem allTake : ∀ {ds : List PyData} {vs : List V} (n : Nat), DpAll K H vs ds → DpAll K H (vs.take n) (ds.take n)
  | _, _, 0, _ => by simp; exact .nil
  | [], _, n + 1, h => by cases h; exact .nil
  | d :: ds, _, n + 1, h => by
    cases h with
    | cons h1 h2 => exact .cons h1 (allTake n h2)
theorem allOfInts : ∀ ns : List Int, DpAll K H (ns.map V.int) (ns.map PyData.int)
  | [] => .nil
  | n :: ns => .cons (.int n) (allOfInts ns)
theorem intsOfAll : ∀ {ns : List Int} {vs : List V}, DpAll K H vs (ns.map PyData.int) → vs = ns.map V.int
  | [], _, h => by cases h; rfl
  | n :: ns, _, h => by
    cases h with
    | cons h1 h2 => rw [dpInt h1, intsOfAll h2]; rfl
theorem allOfBls : ∀ bs : List Bool, DpAll K H (bs.map V.bl) (bs.map PyData.bool)
  | [] => .nil
  | n :: ns => .cons (.bl n) (allOfBls ns)
theorem blsOfAll : ∀ {bs : List Bool} {vs : List V}, DpAll K H vs (bs.map PyData.bool) → vs = bs.map V.bl
  | [], _, h => by cases h; rfl
  | n :: ns, _, h => by
    cases h with
    | cons h1 h2 => rw [dpBool h1, blsOfAll h2]; rfl
theorem dpRef {v : V} {ds : List PyData} (h : Dp K H v (.list ds)) : ∃ a, v = .ref a := by
  obtain ⟨a, _, e, _⟩ := dpList h
  exact ⟨a, e⟩

/-! ### what evaluates to which data -/
/-- a new list of that data -/
def NewL (K : PySem.W.Frag) (H : Hp) (Q : VK) (ds : List PyData) : Prop := ∀ p xs H', H p = none → Ex H H' → H' p = some (.lst xs) → DpAll K H' xs ds → Q (.ref p) H'
def EvN (K : PySem.W.Frag) (te : TE) (σ : L2.St) (H : Hp) (ds : List PyData) : Prop := ∀ H1, Ex H H1 → ∀ Q : VK, NewL K H1 Q ds → te σ H1 Q
def EvD (K : PySem.W.Frag) (te : TE) (σ : L2.St) (H : Hp) (d : PyData) : Prop := ∀ H1, Ex H H1 → ∀ Q : VK, (∀ v H2, Ex H1 H2 → Dp K H2 v d → Q v H2) → te σ H1 Q
def EvDA (K : PySem.W.Frag) (ta : TA) (σ : L2.St) (H : Hp) (ds : List PyData) : Prop := ∀ H1, Ex H H1 → ∀ Q : List V → Hp → Prop, (∀ vs H2, Ex H1 H2 → DpAll K H2 vs ds → Q vs H2) → ta σ H1 Q
/-- a promise: arguments by data, a new list by data -/
def spN (K : PySem.W.Frag) (R : List PyData → List PyData → Prop) : Sp := fun vs H Q _ => ∃ ds out, DpAll K H vs ds ∧ R ds out ∧ NewL K H Q out
/-- a promise: arguments by data, a value by data -/
def spV (K : PySem.W.Frag) (R : List PyData → PyData → Prop) : Sp := fun vs H Q _ => ∃ ds out, DpAll K H vs ds ∧ R ds out ∧ ∀ v H', Ex H H' → Dp K H' v out → Q v H'
section
variable {ta tb te : TE} {tA : TA} {d e : PyData} {ds es : List PyData} {v : V} {E : XK}
theorem EvN.asD (h : EvN K te σ H ds) : EvD K te σ H (.list ds) := fun H1 e Q q => h H1 e Q fun p xs H2 _ e2 hp ha => q _ H2 e2 (.lst (sq_of hp) ha)
theorem EvD.mono (e : Ex H H') (h : EvD K te σ H d) : EvD K te σ H' d := fun H1 a Q q => h H1 (e.trans a) Q q
theorem EvN.mono (e : Ex H H') (h : EvN K te σ H ds) : EvN K te σ H' ds := fun H1 a Q q => h H1 (e.trans a) Q q
theorem EvDA.mono (e : Ex H H') (h : EvDA K tA σ H ds) : EvDA K tA σ H' ds := fun H1 a Q q => h H1 (e.trans a) Q q
theorem EvD.of (h : Ev te σ H v) (hd : Dp K H v d) : EvD K te σ H d := fun H1 e Q q => h H1 e Q fun H2 e2 => q v H2 e2 (SB.mono (e.trans e2) hd)
theorem dVar {i : Nat} (h : σ[i]? = some (some v)) (hd : Dp K H v d) : EvD K (tVar i) σ H d := EvD.of (ev_var h) hd
theorem dInt {i : Int} : EvD K (tC (.int i)) σ H (.int i) := EvD.of ev_c (.int i)
theorem dBl {i : Bool} : EvD K (tC (.bl i)) σ H (.bool i) := EvD.of ev_c (.bl i)
theorem EvD.int {i : Int} (h : EvD K te σ H (.int i)) : Ev te σ H (.int i) := fun H1 e Q q => h H1 e Q fun v H2 e2 hd => by rw [dpInt hd]; exact q H2 e2
theorem EvD.bl {i : Bool} (h : EvD K te σ H (.bool i)) : Ev te σ H (.bl i) := fun H1 e Q q => h H1 e Q fun v H2 e2 hd => by rw [dpBool hd]; exact q H2 e2
theorem iD {i : Int} (h : Ev te σ H (.int i)) : EvD K te σ H (.int i) := EvD.of h (.int i)
theorem bD {i : Bool} (h : Ev te σ H (.bl i)) : EvD K te σ H (.bool i) := EvD.of h (.bl i)
theorem daNil : EvDA K tNil σ H [] := fun H1 _ Q q => q [] H1 (Ex.refl H1) .nil
theorem daCons (h : EvD K te σ H d) (hr : EvDA K tA σ H ds) : EvDA K (tCons te tA) σ H (d :: ds) := fun H1 e Q q =>
  h H1 e _ fun v H2 e2 hd => hr H2 (e.trans e2) _ fun vs H3 e3 ha => q _ H3 (e2.trans e3) (.cons (SB.mono e3 hd) ha)
theorem da1 (h : EvD K te σ H d) : EvDA K (tCons te tNil) σ H [d] := daCons h daNil
theorem da2 (h : EvD K ta σ H d) (h' : EvD K tb σ H e) : EvDA K (tCons ta (tCons tb tNil)) σ H [d, e] := daCons h (da1 h')
theorem nCall {R : List PyData → List PyData → Prop} (ha : EvDA K tA σ H ds) (hr : R ds es) : EvN K (tCall (spN K R) [] E tA) σ H es := fun H1 e Q q =>
  ha H1 e _ fun vs H2 e2 hd => by
    refine ⟨ds, es, ?_, hr, fun p xs H3 hp e3 h3 h4 => q p xs H3 (fresh_back e2 hp) (e2.trans e3) h3 h4⟩
    rw [List.append_nil]
    exact hd
theorem vCall {R : List PyData → PyData → Prop} (ha : EvDA K tA σ H ds) (hr : R ds d) : EvD K (tCall (spV K R) [] E tA) σ H d := fun H1 e Q q =>
  ha H1 e _ fun vs H2 e2 hd => by
    refine ⟨ds, d, ?_, hr, fun v H3 e3 h3 => q v H3 (e2.trans e3) h3⟩
    rw [List.append_nil]
    exact hd
theorem dTup (h : EvDA K tA σ H ds) (hl : ds.length ≤ 100000) : EvD K (tTup tA) σ H (.tuple ds) := fun H1 e Q q =>
  h H1 e _ fun vs H2 e2 ha => ⟨sz_of (by rw [allLen ha]; exact hl), fun p hp => q _ _ (e2.trans (Ex.new hp)) (.tup (st_of upd_same) (monoA (Ex.new hp) ha))⟩
theorem nLst (h : EvDA K tA σ H ds) (hl : ds.length ≤ 100000) : EvN K (tLst tA) σ H ds := fun H1 e Q q =>
  h H1 e _ fun vs H2 e2 ha => ⟨sz_of (by rw [allLen ha]; exact hl), fun p hp => q p vs _ (fresh_back e2 hp) (e2.trans (Ex.new hp)) upd_same (monoA (Ex.new hp) ha)⟩
theorem eqD (ha : EvD K ta σ H d) (hb : EvD K tb σ H e) (sd : SeqAt.shaped d = true) (se : SeqAt.shaped e = true) : Ev (tOp (rEqD K) ta tb) σ H (.bl (PyData.eqv d e)) := fun H1 a Q q =>
  ha H1 a _ fun v H2 e2 hd => hb H2 (a.trans e2) _ fun u H3 e3 he => ⟨d, e, SB.mono e3 hd, he, sd, se, q H3 (e2.trans e3)⟩
theorem neD (ha : EvD K ta σ H d) (hb : EvD K tb σ H e) (sd : SeqAt.shaped d = true) (se : SeqAt.shaped e = true) : Ev (tOp (rNeD K) ta tb) σ H (.bl (!PyData.eqv d e)) := fun H1 a Q q =>
  ha H1 a _ fun v H2 e2 hd => hb H2 (a.trans e2) _ fun u H3 e3 he => ⟨d, e, SB.mono e3 hd, he, sd, se, q H3 (e2.trans e3)⟩
/-- xs[i] -/
theorem dIxL {i : Int} (ha : EvD K ta σ H (.list ds)) (hb : Ev tb σ H (.int i)) (h : atI ds i = some d) : EvD K (tOp (rIxL K) ta tb) σ H d := fun H1 a Q q =>
  ha H1 a _ fun v H2 e2 hd => hb H2 (a.trans e2) _ fun H3 e3 => by
    obtain ⟨p, xs, rfl, hs, hA⟩ := dpList (SB.mono e3 hd)
    have key : ∃ x, atI xs i = some x ∧ Dp K H3 x d := by
      have hl := allLen hA
      unfold atI at h ⊢
      rw [hl]
      cases q : ixN ds.length i with
      | none => rw [q] at h; cases h
      | some j => rw [q] at h; exact allGet hA h
    obtain ⟨x, hx, hdx⟩ := key
    exact ⟨p, xs, i, x, rfl, rfl, hs, hx, q x H3 (e2.trans e3) hdx⟩
end

/-! ### one list is changed: what stands beside it -/
def rm (H : Hp) (D : Addr) : Hp := fun a => if a = D then none else H a
theorem rmSame {D : Addr} : rm H D D = none := by unfold rm; rw [if_pos rfl]
theorem rmNe {D a : Addr} (h : a ≠ D) : rm H D a = H a := by unfold rm; rw [if_neg h]
theorem rmEx {D : Addr} : Ex (rm H D) H := fun a o h => by
  by_cases c : a = D
  · rw [c, rmSame] at h; cases h
  · rw [rmNe c] at h; exact h
theorem rmMono {D : Addr} (e : Ex H H') : Ex (rm H D) (rm H' D) := fun a o h => by
  by_cases c : a = D
  · rw [c, rmSame] at h; cases h
  · rw [rmNe c] at h ⊢; exact e a o h
theorem rmUpd {D : Addr} {o : HO} : rm (upd H D o) D = rm H D := by
  funext a
  by_cases c : a = D
  · rw [c, rmSame, rmSame]
  · rw [rmNe c, rmNe c, upd_ne c]
theorem rmNew {D p : Addr} {o : HO} (h : p ≠ D) : rm (upd H p o) D = upd (rm H D) p o := by
  funext a
  by_cases c : a = D
  · rw [c, rmSame, upd_ne (Ne.symm h), rmSame]
  · rw [rmNe c]
    by_cases c2 : a = p
    · rw [c2, upd_same, upd_same]
    · rw [upd_ne c2, upd_ne c2, rmNe c]
theorem rmFree {D : Addr} (h : H D = none) : rm H D = H := by
  funext a
  by_cases c : a = D
  · rw [c, rmSame, h]
  · rw [rmNe c]
/-- what H has stays if D is new to it -/
theorem exRm {D : Addr} (e : Ex H H') (h : H D = none) : Ex H (rm H' D) := fun a o q => by
  rw [rmNe (ne_of_none q h)]
  exact e a o q
mutual
/-- no list within -/
def noL : PyData → Bool
  | .none => true
  | .bool _ => true
  | .int _ => true
  | .str _ => true
  | .list _ => false
  | .tuple ds => noLs ds
  | .dict _ => false
def noLs : List PyData → Bool
  | [] => true
  | d :: ds => noL d && noLs ds
end
theorem sqtRm {D a : Addr} {ys xs : List V} (hD : H D = some (.lst ys)) (h : SqT K H a xs) : SqT K (rm H D) a xs := by
  rcases h with (h | ⟨o, h⟩) | h
  · refine .inl (.inl ?_)
    rw [rmNe (ne_of h hD (by intro z; cases z))]; exact h
  · refine .inl (.inr ⟨o, ?_⟩)
    rw [rmNe (ne_of h hD (by intro z; cases z))]; exact h
  · exact .inr h
mutual
theorem dpRm {D : Addr} {ys : List V} (hD : H D = some (.lst ys)) : ∀ (d : PyData) (v : V), noL d = true → Dp K H v d → Dp K (rm H D) v d
  | .none, _, _, h => by cases h; exact .non
  | .bool b, _, _, h => by cases h; exact .bl b
  | .int i, _, _, h => by cases h; exact .int i
  | .str x, _, _, h => by cases h; exact .str x
  | .list ds, _, n, h => by cases n
  | .tuple ds, _, n, h => by
    cases h with
    | tup hs ha => exact .tup (sqtRm hD hs) (dpAllRm hD ds _ n ha)
  | .dict _, _, _, h => by cases h
theorem dpAllRm {D : Addr} {ys : List V} (hD : H D = some (.lst ys)) : ∀ (ds : List PyData) (vs : List V), noLs ds = true → DpAll K H vs ds → DpAll K (rm H D) vs ds
  | [], _, _, h => by cases h; exact .nil
  | d :: ds, _, n, h => by
    have n' := Bool.and_eq_true_iff.mp n
    cases h with
    | cons h1 h2 => exact .cons (dpRm hD d _ n'.1 h1) (dpAllRm hD ds _ n'.2 h2)
end
/-- evaluated while the list at D is at work: the value's data does not lean on D -/
def EvX (K : PySem.W.Frag) (te : TE) (σ : L2.St) (H : Hp) (D : Addr) (d : PyData) : Prop :=
  ∀ H1, Ex H H1 → (∃ ys, H1 D = some (.lst ys)) → ∀ Q : VK, (∀ v H2, Ex H1 H2 → Dp K (rm H2 D) v d → Q v H2) → te σ H1 Q
section
variable {ta tb te : TE} {tA : TA} {d e : PyData} {ds es : List PyData} {v : V} {D : Addr}
theorem EvD.x (h : EvD K te σ H d) (hn : noL d = true) : EvX K te σ H D d := fun H1 e hD Q q => h H1 e Q fun v H2 e2 hd => by
  obtain ⟨ys, hD⟩ := hD
  exact q v H2 e2 (dpRm (e2 D _ hD) d v hn hd)
theorem EvN.x (h : EvN K te σ H ds) (hn : noLs ds = true) : EvX K te σ H D (.list ds) := fun H1 e hD Q q => h H1 e Q fun p xs H2 hp e2 h2 ha => by
  obtain ⟨ys, hD⟩ := hD
  refine q _ H2 e2 (.lst (sq_of ?_) (dpAllRm (e2 D _ hD) ds xs hn ha))
  rw [rmNe (fun z => by rw [z, hD] at hp; cases hp)]
  exact h2
end
/-! ### walks -/
def YD (K : PySem.W.Frag) (o : Nat → PyData) : Nat → Hp → V → Hp → Prop := fun i H x H' => Ex H H' ∧ Dp K H' x (o i)
/-- over what stands in H already -/
def WkE (K : PySem.W.Frag) (wi : TI) (σ : L2.St) (H : Hp) (n : Nat) (o : Nat → PyData) : Prop := ∀ H1, Ex H H1 → ∀ R : It → Hp → Prop, (∀ J H2, Ex H1 H2 → Walk J n (fun H' => Ex H H') (YD K o) → R J H2) → wi σ H1 R
/-- over something new -/
def WkN (K : PySem.W.Frag) (wi : TI) (σ : L2.St) (H : Hp) (n : Nat) (o : Nat → PyData) : Prop := ∀ H1, Ex H H1 → ∀ R : It → Hp → Prop, (∀ J H2, Ex H1 H2 → Walk J n (fun H' => Ex H2 H') (YD K o) → R J H2) → wi σ H1 R
section
variable {wi : TI} {n : Nat} {o : Nat → PyData} {g : TG} {tb : TS} {D : Ends} {tt : TT} {te tl : TE} {tA : TA} {ds es : List PyData} {v : V}
theorem WkE.asN (h : WkE K wi σ H n o) : WkN K wi σ H n o := fun H1 e R q => h H1 e R fun J H2 e2 w => q J H2 e2 (w.mono (fun H' e3 => (e.trans e2).trans e3) fun _ _ _ _ _ _ y => y)
theorem walkL {a : Addr} {xs : List V} (hs : SqL K H a xs) (ha : DpAll K H xs ds) : Walk (Itl K a) ds.length (fun H' => Ex H H') (YD K fun i => ds.getD i .none) := by
  have w := walk_list (K := K) (a := a) (xs := xs)
  rw [allLen ha] at w
  exact w.mono (fun H' e => ex_l e hs) fun i H1 x H2 hi e y => by
    obtain ⟨rfl, hx⟩ := y
    exact ⟨Ex.refl _, SB.mono e (allAt ha hx)⟩
theorem walkEn {a : Addr} {xs : List V} (hs : SqL K H a xs) (ha : DpAll K H xs ds) : Walk (Ite K a) ds.length (fun H' => Ex H H') (YD K fun i => .tuple [.int (i : Nat), ds.getD i .none]) := by
  have w := walk_enum (K := K) (a := a) (xs := xs)
  rw [allLen ha] at w
  exact w.mono (fun H' e => ex_l e hs) fun i H1 x H2 hi e y => by
    obtain ⟨T, x1, x2, rfl, hT, rfl, h1, h2⟩ := y
    have e1 : V.int (i : Nat) = x1 := Option.some.inj h1
    subst e1
    exact ⟨Ex.new hT, .tup (st_of upd_same) (.cons (.int _) (.cons (SB.mono (e.trans (Ex.new hT)) (allAt ha h2)) .nil))⟩
theorem walkZ {a b : Addr} {xs ys : List V} (hs : SqL K H a xs) (ha : DpAll K H xs ds) (hs' : SqL K H b ys) (ha' : DpAll K H ys es) (hl : ds.length = es.length) : Walk (Itz K a b) ds.length (fun H' => Ex H H') (YD K fun i => .tuple [ds.getD i .none, es.getD i .none]) := by
  have w := walk_zip (K := K) (a := a) (b := b) (xs := xs) (ys := ys) (n := ds.length) (by rw [allLen ha, allLen ha', ← hl, Nat.min_self])
  exact w.mono (fun H' e => ⟨ex_l e hs, ex_l e hs'⟩) fun i H1 x H2 hi e y => by
    obtain ⟨T, x1, x2, rfl, hT, rfl, h1, h2⟩ := y
    have e' := e.trans (Ex.new (o := .tup [x1, x2]) hT)
    exact ⟨Ex.new hT, .tup (st_of upd_same) (.cons (SB.mono e' (allAt ha h1)) (.cons (SB.mono e' (allAt ha' h2)) .nil))⟩
theorem wkList (h : Ev tl σ H v) (hd : Dp K H v (.list ds)) : WkE K (iList K tl) σ H ds.length (fun i => ds.getD i .none) := fun H1 e R q => h H1 e _ fun H2 e2 => by
  obtain ⟨a, xs, rfl, hs, ha⟩ := dpList hd
  exact ⟨a, rfl, ⟨xs, ex_l (e.trans e2) hs⟩, q _ H2 e2 (walkL hs ha)⟩
theorem wkEnum (h : Ev tl σ H v) (hd : Dp K H v (.list ds)) : WkE K (iEnum K (tCons tl tNil)) σ H ds.length (fun i => .tuple [.int (i : Nat), ds.getD i .none]) := fun H1 e R q => h H1 e _ fun H2 e2 => by
  obtain ⟨a, xs, rfl, hs, ha⟩ := dpList hd
  exact ⟨a, xs, rfl, ex_l (e.trans e2) hs, q _ H2 e2 (walkEn hs ha)⟩
theorem wkZip {tl' : TE} {v' : V} (h : Ev tl σ H v) (hd : Dp K H v (.list ds)) (h' : Ev tl' σ H v') (hd' : Dp K H v' (.list es)) (hl : ds.length = es.length) : WkE K (iZip K (tCons tl (tCons tl' tNil))) σ H ds.length (fun i => .tuple [ds.getD i .none, es.getD i .none]) := fun H1 e R q => h H1 e _ fun H2 e2 => h' H2 (e.trans e2) _ fun H3 e3 => by
  obtain ⟨a, xs, rfl, hs, ha⟩ := dpList hd
  obtain ⟨b, ys, rfl, hs', ha'⟩ := dpList hd'
  have e' := (e.trans e2).trans e3
  exact ⟨a, b, xs, ys, rfl, ex_l e' hs, ex_l e' hs', q _ H3 (e2.trans e3) (walkZ hs ha hs' ha' hl)⟩
theorem wkNew (h : EvD K tl σ H (.list ds)) : WkN K (iList K tl) σ H ds.length (fun i => ds.getD i .none) := fun H1 e R q => h H1 e _ fun v H2 e2 hd => by
  obtain ⟨a, xs, rfl, hs, ha⟩ := dpList hd
  exact ⟨a, rfl, ⟨xs, hs⟩, q _ H2 e2 (walkL hs ha)⟩
theorem wkRange1 {j : Int} (h : EvA tA σ H [.int j]) (hb : -(2 ^ 62) ≤ j ∧ j < 2 ^ 62) : WkE K (iRng1 tA) σ H j.toNat (fun i => .int (i : Nat)) := fun H1 e R q => h H1 e _ fun H2 e2 => by
  refine ⟨j, rfl, hb.1, hb.2, q _ H2 e2 (walk_range.mono (fun _ _ => trivial) fun i H3 x H4 _ _ y => ?_)⟩
  obtain ⟨rfl, rfl⟩ := y
  refine ⟨Ex.refl _, ?_⟩
  show Dp K _ (V.int (0 + (i : Int))) _
  rw [Int.zero_add]
  exact .int _
theorem wkRange2 {i j : Int} (h : EvA tA σ H [.int i, .int j]) (hb : -(2 ^ 62) ≤ i ∧ i < 2 ^ 62 ∧ -(2 ^ 62) ≤ j ∧ j < 2 ^ 62) : WkE K (iRng2 tA) σ H (j - i).toNat (fun k => .int (i + (k : Nat))) := fun H1 e R q => h H1 e _ fun H2 e2 => by
  refine ⟨i, j, rfl, hb, q _ H2 e2 (walk_range.mono (fun _ _ => trivial) fun i H3 x H4 _ _ y => ?_)⟩
  obtain ⟨rfl, rfl⟩ := y
  exact ⟨Ex.refl _, .int _⟩
theorem gPair {i j : Nat} {x : V} {d e : PyData} {Q : L2.St → Hp → Prop} (h : Dp K H x (.tuple [d, e])) (q : ∀ y z, Dp K H y d → Dp K H z e → Q ((σ.set i (some y)).set j (some z)) H) : gTup K 2 (gCons (gName i) (gCons (gName j) gNil)) x σ H Q := by
  obtain ⟨a, xs, rfl, hs, ha⟩ := dpTuple h
  obtain ⟨y, z, rfl, h1, h2⟩ := all2 ha
  exact ⟨a, _, rfl, hs, rfl, y, [z], rfl, z, [], rfl, rfl, q y z h1 h2⟩
theorem sFor {B : Hp} (eB : Ex B H) (hw : WkE K wi σ B n o) (Pv : Nat → L2.St → Hp → Prop) (h0 : ∀ H2, Ex H H2 → Pv 0 σ H2) (hG : ∀ i σ' H', i ≤ n → Pv i σ' H' → Ex B H')
    (hs : ∀ i x σ' H' H'', i < n → Pv i σ' H' → Ex H' H'' → Dp K H'' x (o i) → g x σ' H'' fun σ2 H2 => tb { D with nx := Pv (i + 1), ct := Pv (i + 1), bk := D.nx } σ2 H2) (hd : ∀ σ' H', Pv n σ' H' → D.nx σ' H') : tFor wi g tb D σ H :=
  hw H eB _ fun J H2 e w => for_it w Pv (h0 H2 e) hG (fun i x σ' H' H'' hi p y => hs i x σ' H' H'' hi p y.1 y.2) hd
/-- what a comprehension tells -/
def outs (n : Nat) (f : Nat → Bool) (out : Nat → PyData) : List PyData := ((List.range n).filter f).map out
theorem outsYes {f : Nat → Bool} {out : Nat → PyData} (h : f n = true) : outs (n + 1) f out = outs n f out ++ [out n] := by
  unfold outs
  rw [List.range_succ, List.filter_append, List.map_append, List.filter_cons, if_pos h]; rfl
theorem outsNo {f : Nat → Bool} {out : Nat → PyData} (h : f n = false) : outs (n + 1) f out = outs n f out := by
  unfold outs
  rw [List.range_succ, List.filter_append, List.map_append, List.filter_cons, if_neg (by rw [h]; decide)]
  exact List.append_nil _
theorem outsLen (n : Nat) (f : Nat → Bool) (out : Nat → PyData) : (outs n f out).length ≤ n := by
  unfold outs
  rw [List.length_map]
  have h := List.length_filter_le f (List.range n)
  rw [List.length_range] at h
  exact h
theorem nLc {vs : List Nat} (f : Nat → Bool) (out : Nat → PyData) (hn : n ≤ 50000) (hw : WkN K wi σ H n o)
    (ht : ∀ Dl i x H', i < n → Ex H H' → Dp K H' x (o i) → ∃ σ2, (∀ Q : L2.St → Hp → Prop, Q σ2 H' → g x (wipe σ vs) H' Q) ∧ wipe σ2 vs = wipe σ vs ∧ EvT tt σ2 H' (f i) ∧ (f i = true → EvX K te σ2 H' Dl (out i))) :
    EvN K (tLc wi g tt te vs) σ H (outs n f out) := fun H1 e1 Q q => hw H1 e1 _ fun J H2 e2 w => fun Dl hD => by
  refine lc_it w (fun i H' => Ex H2 H' ∧ ∃ acc, H' Dl = some (.lst acc) ∧ DpAll K (rm H' Dl) acc (outs i f out)) ⟨Ex.new hD, [], upd_same, .nil⟩ (fun i H' _ p => p.1) (fun i x H' H'' hi p y => ?_) (fun H' p => ?_)
  · obtain ⟨eP, acc, hacc, hall⟩ := p
    obtain ⟨eY, dY⟩ := y
    obtain ⟨σ2, hg, hwi, hT, hE⟩ := ht Dl i x H'' hi (((e1.trans e2).trans eP).trans eY) dY
    refine hg _ ⟨hwi, hT H'' (Ex.refl _) _ fun H3 e3 => ?_⟩
    have e13 := eY.trans e3
    cases hf : f i with
    | true =>
      show te σ2 H3 _
      refine hE hf H3 e3 ⟨acc, e13 Dl _ hacc⟩ _ fun y H4 e4 hd => ⟨acc, e4 Dl _ (e13 Dl _ hacc), sz_lt ?_, Ex.mut ((eP.trans e13).trans e4) hD, acc ++ [y], upd_same, ?_⟩
      · rw [allLen hall]
        have := outsLen i f out
        omega
      · rw [rmUpd, outsYes hf]
        exact allApp (monoA (rmMono (e13.trans e4)) hall) (.cons hd .nil)
    | false =>
      show Ex H2 H3 ∧ _
      refine ⟨eP.trans e13, acc, e13 Dl _ hacc, ?_⟩
      rw [outsNo hf]
      exact monoA (rmMono e13) hall
  · obtain ⟨eP, acc, hacc, hall⟩ := p
    exact q Dl acc H' (fresh_back e2 hD) (e2.trans eP) hacc (monoA rmEx hall)
theorem sAsgN {i : Nat} {D : Ends} (h : EvN K te σ H ds) (k : ∀ p xs H1, H p = none → Ex H H1 → H1 p = some (.lst xs) → DpAll K H1 xs ds → D.nx (σ.set i (some (.ref p))) H1) : tAsg te (gName i) D σ H := h H (Ex.refl H) _ k
theorem sAsgD {i : Nat} {D : Ends} {d : PyData} (h : EvD K te σ H d) (k : ∀ v H1, Ex H H1 → Dp K H1 v d → D.nx (σ.set i (some v)) H1) : tAsg te (gName i) D σ H := h H (Ex.refl H) _ k
theorem sRetN {D : Ends} (h : EvN K te σ H ds) (k : NewL K H D.rt ds) : tRet te D σ H := h H (Ex.refl H) _ k
theorem sRetD {D : Ends} {d : PyData} (h : EvD K te σ H d) (k : ∀ v H1, Ex H H1 → Dp K H1 v d → D.rt v H1) : tRet te D σ H := h H (Ex.refl H) _ k
theorem NewL.ex {Q : VK} (e : Ex H H1) (q : NewL K H Q ds) : NewL K H1 Q ds := fun p xs H2 hp e2 h2 ha => q p xs H2 (fresh_back e hp) (e.trans e2) h2 ha
end
/-! ### a op b op c op d -/
section
variable {X : Cx} {a b c d : Expr} {ta tb tc td : TE} {pos : Pos}
def tChain3 (r r' r'' : R2) (ta tb tc td : TE) : TE := fun σ H Q => ta σ H fun x H1 => tb σ H1 fun y H2 => r x y H2 fun z H3 => ∃ k, z = .bl k ∧
  (if k = true then tc σ H3 fun w' H4 => r' y w' H4 fun z' H5 => ∃ k', z' = .bl k' ∧ (if k' = true then td σ H5 fun u' H6 => r'' w' u' H6 Q else Q (.bl false) H5) else Q (.bl false) H3)
theorem pt_chain3 {op op' op'' : CmpOp} {r r' r'' : R2} (ho : OpR X (compareOp op) r) (ho' : OpR X (compareOp op') r') (ho'' : OpR X (compareOp op'') r'') (ha : PE X a ta) (hb : PE X b tb) (hc : PE X c tc) (hd : PE X d td)
    (hm : PySem.lastMarks [op, op', op''] [b, c, d] = false := by with_unfolding_all rfl) : PT X (.Compare a [op, op', op''] [b, c, d] pos) (tTest (tChain3 r r' r'' ta tb tc td)) := by
  refine ⟨fun pins s σ H Q I h => ?_⟩
  refine PyProof.Rows.isTrue_chain (thn (ha.run pins s σ H _ I h) fun v s1 ⟨x, H1, I1, r1, q1⟩ => PyProof.Rows.test_link (thn (hb.run pins s1 σ H1 _ I1 q1) fun u s2 ⟨y, H2, I2, r2, q2⟩ =>
    thn (ho pins s2 σ H2 x y v u _ I2 r1 r2 q2) fun d3 s3 ⟨z, H3, I3, r3, k, ek, q3⟩ => ?_)) hm
  subst ek; cases r3
  refine wpAny_truthy_bool ?_
  cases k with
  | false =>
    obtain ⟨k', e', q'⟩ := q3
    cases e'
    exact PyProof.Rows.ite_ff ⟨H3, I3, q'⟩
  | true =>
    refine PyProof.Rows.ite_tt (PyProof.Rows.test_link (thn (hc.run pins s3 σ H3 _ I3 q3) fun w' s4 ⟨z', H4, I4, r4, q4⟩ => thn (ho' pins s4 σ H4 y z' u w' _ I4 r2 r4 q4) fun d' s5 ⟨z2, H5, I5, r5, k2, e2, q5⟩ => ?_))
    subst e2; cases r5
    refine wpAny_truthy_bool ?_
    cases k2 with
    | false =>
      obtain ⟨k', e', q'⟩ := q5
      cases e'
      exact PyProof.Rows.ite_ff ⟨H5, I5, q'⟩
    | true =>
      refine PyProof.Rows.ite_tt (PyProof.Rows.test_last (thn (hd.run pins s5 σ H5 _ I5 q5) fun w2 s6 ⟨z3, H6, I6, r6, q6⟩ => thn (ho'' pins s6 σ H6 z' z3 w' w2 _ I6 r4 r6 q6) fun d7 s7 ⟨z4, H7, I7, r7, k4, e4, q7⟩ => ?_))
      subst e4; cases r7
      exact wpAny_truthy_bool ⟨H7, I7, q7⟩
theorem ev_chain3 {f f' f'' : Int → Int → Bool} {i j k l : Int} {H : Hp} (ha : Ev ta σ H (.int i)) (hb : Ev tb σ H (.int j)) (hc : Ev tc σ H (.int k)) (hd : Ev td σ H (.int l)) :
    Ev (tChain3 (rI0 fun a b => .bl (f a b)) (rI0 fun a b => .bl (f' a b)) (rI0 fun a b => .bl (f'' a b)) ta tb tc td) σ H (.bl (f i j && f' j k && f'' k l)) := fun H1 e Q q =>
  ha H1 e _ fun H2 e2 => hb H2 (e.trans e2) _ fun H3 e3 => ⟨i, j, rfl, rfl, f i j, rfl, by
    generalize f i j = A at q ⊢
    cases A with
    | false => exact iteF (q H3 (e2.trans e3))
    | true =>
      refine iteT (hc H3 ((e.trans e2).trans e3) _ fun H4 e4 => ⟨j, k, rfl, rfl, f' j k, rfl, ?_⟩)
      generalize f' j k = A at q ⊢
      cases A with
      | false => exact iteF (q H4 ((e2.trans e3).trans e4))
      | true => exact iteT (hd H4 (((e.trans e2).trans e3).trans e4) _ fun H5 e5 => ⟨k, l, rfl, rfl, q H5 (((e2.trans e3).trans e4).trans e5)⟩)⟩
theorem ev_chain2 {f f' : Int → Int → Bool} {i j k : Int} {H : Hp} (ha : Ev ta σ H (.int i)) (hb : Ev tb σ H (.int j)) (hc : Ev tc σ H (.int k)) :
    Ev (tChain (rI0 fun a b => .bl (f a b)) (rI0 fun a b => .bl (f' a b)) ta tb tc) σ H (.bl (f i j && f' j k)) := fun H1 e Q q =>
  ha H1 e _ fun H2 e2 => hb H2 (e.trans e2) _ fun H3 e3 => ⟨i, j, rfl, rfl, f i j, rfl, by
    generalize f i j = A at q ⊢
    cases A with
    | false => exact iteF (q H3 (e2.trans e3))
    | true => exact iteT (hc H3 ((e.trans e2).trans e3) _ fun H4 e4 => ⟨j, k, rfl, rfl, q H4 ((e2.trans e3).trans e4)⟩)⟩
end
end SB

/-! set(xs) of a list of ints, and sorted of such a set, of any number -/
namespace SC
open PySem PySem.Spec PyProof.Rows L2
abbrev nS (w : World) : Obj := { cls := .type "set", dict := none, data := .set #[] 0 (.fresh 0 0 (!w.params.followText "set-order")) }
section
variable {P : Program} {w : World} {A : Around} {E : Value → Shared → Prop} {s : Shared}
theorem callSetL {l : Addr} {items : Array Value} {ns : List Int} {Q : Value → Shared → Prop} (jh : A.handled = none) (jl : s.heap.IsList l items) (ji : IntsAre items.toList ns) (jb : ns.length + 1 < scanBound)
    (q : ∀ h' tk c, SetR w h' s.heap.objs.size (fun j => decide (j ∈ ns)) c → c ≤ ns.length → (∀ b o, s.heap.get? b = some o → h'.get? b = some o) → Q (.ref s.heap.objs.size) { s with heap := h', toks := tk }) :
    wpAny (model P w) A (PySem.call (.type "set") [.ref l]) Q E s := by
  have jz : items.size = ns.length := by rw [← Array.length_toList]; exact IntsAre.length ji
  obtain ⟨c0, t0, jm⟩ := F.called_set.mro
  have jM := F.called_set.made; have jU := F.called_set.sub
  refine wpAny_call (codeAny_of_tree ?_); show wpAny _ _ (callAny (.type "set") _) _ _ _
  refine wpAny_pure ⟨Code.quiet_builtin _ (by decide +kernel), codeAny_builtin F.entry_type_call ?_⟩; rw [Around.under_plain (weight_type_call_type "set" [.ref l] []) rfl]
  have u1 := F.called_set.notType; have u2 := F.called_set.canCreate; have u3 := F.typeCall_set_1 (.ref l)
  repeat any_goals first | assumption | wp_step
  refine codeAny_mono (code_set_led1 (.ref l) (E := E) (Q₁ := fun ob s1 => ob = .ref s.heap.objs.size ∧ s1 = { s with heap := s.heap.push (nS w) }) ⟨rfl, rfl⟩) fun r s1 jr => ?_
  match r, jr with
  | .error e, jr => exact jr
  | .ok (.ret ob), jr =>
    obtain ⟨rfl, rfl⟩ := jr
    have jS : (s.heap.push (nS w)).get? s.heap.objs.size = some (nS w) := Heap.get?_push_size _ rfl
    have jT : Shared.TypeIs { s with heap := s.heap.push (nS w) } (.ref s.heap.objs.size) "set" := ⟨_, jS, rfl⟩
    have u4 := F.called_set.init.lookup; have u5 := F.called_set.init.bind (.ref s.heap.objs.size)
    repeat any_goals first | assumption | wp_step
    refine codeAny_mono (codeAny_call_builtin (R := wants (fun r s2 => r = .none ∧ ∃ h' tk c, s2 = { s with heap := h', toks := tk } ∧ SetR w h' s.heap.objs.size (fun j => decide (j ∈ ns)) c ∧ c ≤ ns.length ∧ (∀ b o, s.heap.get? b = some o → h'.get? b = some o)) E) F.called_set.init.plain F.entry_set_init (check_set_init_1 jT ?_)) fun r2 s2 jr2 => ?_
    · obtain ⟨⟨oc, od, ox, os⟩, jo, j1, nl, j2⟩ := jl
      simp only at j1 j2; subst j1; subst j2
      have jo' : (s.heap.push (nS w)).get? l = some { cls := .type "list", dict := od, data := .seq items nl, slots := os } := Heap.get?_push_of_some _ jo
      have j3 := F.sub_list_set; have j4 := F.sub_list_frozenset
      have j5 : (Value.type "list" == Value.type "dict") = false := by decide
      have j6 : (s.heap.push (nS w)).IsList l items := ⟨_, jo', rfl, nl, rfl⟩
      unfold Builtin.«set.__init__» noKeywords Builtin.Frozenset.updateFrom; generalize jP : pyIter = PI; wp_walk; subst jP
      refine wpAny_pyIter_list j6 ?_; refine wpAny_bind (wpAny_runValue ?_)
      have lS : l < s.heap.objs.size := Heap.lt_size jo
      have jz1 : (s.heap.push (nS w)).objs.size = s.heap.objs.size + 1 := Heap.size_push ..
      have jI : l ≠ (s.heap.push (nS w)).objs.size := by rw [jz1]; exact Nat.ne_of_lt (Nat.lt_succ_of_lt lS)
      have jF : s.heap.objs.size ∉ [(s.heap.push (nS w)).objs.size, l] := by
        rw [jz1]; intro z
        rcases List.mem_cons.mp z with z | z
        · exact absurd z (Nat.ne_of_lt (Nat.lt_succ_self _))
        · exact absurd (List.mem_singleton.mp z) (Nat.ne_of_gt lS)
      have jV : ∀ (i : Nat) (v : Value), items[i]? = some v → ∃ k t, ns[i]? = some k ∧ v = .int k t := fun i v hv => by
        have hi : i < ns.length := jz ▸ (Array.getElem?_eq_some_iff.mp hv).1
        obtain ⟨t, e⟩ := IntsAre.int_at ji i v (by rw [Array.getElem?_toList, hv])
        exact ⟨ns[i], t, List.getElem?_eq_getElem hi, by rw [e, List.getD_eq_getElem?_getD, List.getElem?_eq_getElem hi]; rfl⟩
      refine set_update_ints ((Walks.list (show A.in1.in1.in1.handled = none by simp [jh]) _ l jI items).toS) s.heap.objs.size jF ns jz jb jV (items.size - 0) 0 _ (by omega) (Nat.zero_le _) ⟨⟨_, Heap.get?_push_size _ rfl, rfl, rfl⟩, (j6.push _)⟩ ?_ ?_
      · exact ⟨0, Nat.le_refl 0, setR_new_at (Heap.get?_push_of_some _ jS)⟩
      · intro s3 c3 m3 z3 R3
        obtain ⟨h3, g3, d3, t3, o3⟩ := s3
        obtain rfl : g3 = s.gens := m3.gens
        obtain rfl : d3 = s.drawn := m3.drawn
        obtain rfl : o3 = s.os := m3.os
        show wpAny _ _ _ _ _ _; refine wpAny_pure ?_; show wpAny _ _ (ret Value.none) _ _ _
        refine wpAny_pure ⟨rfl, h3, t3, c3, rfl, R3, jz ▸ z3, fun b o e => ?_⟩
        have b0 : b < s.heap.objs.size := Heap.lt_size e
        refine m3.heap b o (fun z => ?_) (Heap.get?_push_of_some _ (Heap.get?_push_of_some _ e))
        rcases List.mem_cons.mp z with z | z
        · exact absurd z (Nat.ne_of_lt b0)
        · exact absurd ((List.mem_singleton.mp z).trans jz1) (Nat.ne_of_lt (Nat.lt_succ_of_lt b0))
    · match r2, jr2 with
      | .error e, jr2 => exact jr2
      | .ok (.ret r), jr2 =>
        obtain ⟨rfl, h', tk, c', rfl, R', z', k'⟩ := jr2
        repeat any_goals first | assumption | wp_step
        exact q _ _ _ R' z' k'
theorem sortedSet {a : Addr} {S : Int → Bool} {n : Nat} {Q : Value → Shared → Prop} (R : SetR w s.heap a S n) (jh : A.handled = none)
    (q : ∀ s' p (out : Array Value) (c : Nat) (ns : List Int), (∀ b o, s.heap.get? b = some o → s'.heap.get? b = some o) → s'.gens = s.gens → s'.os = s.os → s.heap.objs.size ≤ p → s'.heap.get? p = some (seqObj "list" out c) →
      IntsAre out.toList ns → ns.Pairwise (· < ·) → (∀ k, k ∈ ns ↔ S k = true) → ns.length = n → Q (.ref p) s') : wpAny (model P w) A (PySem.call (.builtin "sorted") [.ref a]) Q E s := by
  obtain ⟨o, es, ep, t, ho, hex, hd, g, nd, hm, hb, hf, hn, hr, hl⟩ := R
  refine Calls.call_function_entry kind_sorted plain_sorted entry_sorted (args_sorted1 _) ?_; unfold Builtin.«sorted»
  refine wpAny_bind (m := checkCount "sorted" 1 1 _) (wpAny_pure ?_); refine wpAny_bind (collect_set (A := A.in1) jh ⟨o, ho, hex.1, hd⟩ hf hb hr hl fun s1 vs k1 hz g1 o1 pm => ?_)
  have vl : vs.length = n := by rw [pm.length_eq, List.length_map, Array.length_toList]; exact hn
  have zl : vs.length ≤ sizeLine := by
    have : scanBound ≤ sizeLine := by decide
    omega
  have vI : IntsAre vs (vs.map Builtin.Re.reRawOf) := ints_of vs fun v hv => by
    obtain ⟨e, he, qe⟩ := List.mem_map.mp (pm.mem_iff.mp hv)
    obtain ⟨k, tk, z1, _⟩ := g e he
    exact ⟨k, tk, by rw [← qe, z1]⟩
  have pk : (vs.map Builtin.Re.reRawOf).Perm (es.toList.map keyOf) := by
    have qq := pm.map Builtin.Re.reRawOf
    rwa [List.map_map] at qq
  refine wpAny_bind (wpAny_newList ?_ zl)
  have oL : (s1.heap.push (seqObj "list" vs.toArray 0)).get? s1.heap.objs.size = some (seqObj "list" vs.toArray 0) := Heap.get?_push_size _ rfl
  refine wpAny_bind (wpAny_holding (wpAny_call_entry slot_list_sort ⟨_, oL, rfl⟩ entry_list_sort (SrtO.list_sort_ord SrtO.swo_int oL zl (fun h2 => SrtO.ints_sortable vI h2) fun out x1 x2 => ⟨_, rfl, ?_⟩) (args_list_sort _)))
  obtain ⟨y1, y2, y3⟩ := SrtO.ints_out vI x1 x2
  obtain ⟨c, hc⟩ := sortedHeap_at (vs := vs) (out := out.toArray) oL
  have pn : (out.map SrtO.iv).Perm (es.toList.map keyOf) := y2.trans pk
  refine wpAny_pure ⟨_, rfl, q _ s1.heap.objs.size out.toArray c (out.map SrtO.iv) (fun b u e => ?_) g1 o1 hz hc y1 (lt_of_le_nodup _ y3 (pn.nodup_iff.mpr nd)) (fun k => by rw [pn.mem_iff, ← hm k]) ?_⟩
  · have e1 := k1 b u e
    have lt1 := Heap.lt_size e1
    show (sortedHeap (s1.heap.push (seqObj "list" vs.toArray 0)) s1.heap.objs.size vs out.toArray).get? b = some u
    rw [sortedHeap_old (Nat.ne_of_lt lt1) (by rw [size_push']; exact Nat.lt_succ_of_lt lt1)]
    exact Heap.get?_push_of_some _ e1
  · rw [pn.length_eq, List.length_map, Array.length_toList]; exact hn
end
/-- set(xs), ints; sorted of it -/
def rSetI (K : PySem.W.Frag) (w : World) : List V → Hp → VK → Prop := fun vs H Q => ∃ (a : Addr) (ns : List Int), vs = [V.ref a] ∧ SqL K H a (ns.map V.int) ∧ ns.length + 1 < scanBound ∧ ∀ c p, H p = none → Q (.ref p) (upd H p (SetO w p (fun j => decide (j ∈ ns)) c))
def rSortS (w : World) : List V → Hp → VK → Prop := fun vs H Q => ∃ (a : Addr) (S : Int → Bool) (n : Nat), vs = [V.ref a] ∧ H a = some (SetO w a S n) ∧ ∀ (ns : List Int) (p : Addr), ns.Pairwise (· < ·) → (∀ k : Int, k ∈ ns ↔ S k = true) → ns.length = n → ns.length ≤ sizeLine → H p = none → Q (.ref p) (upd H p (.lst (ns.map V.int)))
section
variable {X : Cx}
theorem crSetI (hc : X.calm = true) : CallR X (.type "set") (rSetI X.K X.w) := by
  intro pins s σ H vs us Q I r h
  obtain ⟨a, ns, rfl, hs, hb, q⟩ := h
  obtain ⟨its, rv, hl, hz⟩ := I.list hs
  rw [Vals.ref1 r]
  refine callSetL (ns := ns) (I.ok.hd hc) hl.isList (by simpa using rv.ints) hb fun h' tk c R hc' k => ?_
  have hn : H s.heap.objs.size = none := I.hok.fresh (Nat.le_refl _)
  exact ⟨.ref _, upd H s.heap.objs.size (SetO X.w s.heap.objs.size (fun j => decide (j ∈ ns)) c), I.laid (t' := tk) k (Nat.le_refl _) (setO_new R), rfl, q c _ hn⟩
theorem crSortS (hc : X.calm = true) : CallR X (.builtin "sorted") (rSortS X.w) := by
  intro pins s σ H vs us Q I r h
  obtain ⟨a, S, n, rfl, ha, q⟩ := h
  have R := setO_get I ha
  have hsz : n < scanBound := by
    obtain ⟨o, es, ep, t, _, _, _, _, _, _, hb, _, hn, _⟩ := R
    omega
  rw [Vals.ref1 r]
  refine sortedSet R (I.ok.hd hc) fun s' p out c ns k g o hp hg hi hs hm hl => ?_
  have hlen : (ns.map V.int).length ≤ sizeLine := by
    have : scanBound ≤ sizeLine := by decide
    rw [List.length_map]; omega
  have hn : H p = none := I.hok.fresh hp
  have J : Inv X pins σ (upd H p (.lst (ns.map V.int))) { s with heap := s'.heap, gens := s'.gens, drawn := s'.drawn, toks := s'.toks } := I.call (ch := []) (Un.laid k hp hn) (I.hok.laid k hp ⟨hlen, out.toList, c, vals_of_ints hi, hg⟩) (by rw [g]; exact I.bare) (fun _ z => nomatch z)
  have e : s' = { s with heap := s'.heap, gens := s'.gens, drawn := s'.drawn, toks := s'.toks } := by cases s'; cases s; cases o; rfl
  rw [e]
  exact ⟨.ref p, _, J, rfl, q ns p hs hm hl (by rw [List.length_map] at hlen; exact hlen) hn⟩
end
end SC

/-! min of a list of data that are alike: the datum, and the item itself -/
namespace SD
open PySem L2 Evl SB
section
variable {X : Cx}
/-- min(xs) -/
def rMinL (K : PySem.W.Frag) : List V → Hp → VK → Prop := fun vs H Q => ∃ (a : Addr) (xs : List V) (d : PyData) (ds : List PyData), vs = [V.ref a] ∧ SqL K H a xs ∧ DpAll K H xs (d :: ds) ∧ PySem.W.AlikeAll (d :: ds) ∧ PyData.depthAll (d :: ds) < 63 ∧
  ∀ v, v ∈ xs → Dp K H v (PySem.W.minD d ds) → Q v H
theorem cr_minL (hc : X.calm = true) (hu : X.A.units + 64 < cLine) : CallR X (.builtin "min") (rMinL X.K) := by
  intro pins s σ H vs us Q I r h
  obtain ⟨a, xs, d, ds, rfl, hs, hd, hk, hz, q⟩ := h
  obtain ⟨its, rv, hl, _⟩ := I.list hs
  rw [Vals.ref1 r]
  obtain ⟨as, hr⟩ := Dp.readsAll I (d :: ds) xs its hd rv
  refine PySem.W.min_list_data (I.ok.hd hc) hl.isList (by simpa using hr) hk (by omega) fun i v h' tk bs hi hm ho => ?_
  have hi' : its[i]? = some v := by simpa using hi
  obtain ⟨x, hx, rx⟩ : ∃ x, xs[i]? = some x ∧ RelV x v := by
    cases e : xs[i]? with
    | none => have := Vals.none_of rv e; rw [this] at hi'; cases hi'
    | some x =>
      obtain ⟨u, hu', ru⟩ := Vals.get rv e
      rw [hu'] at hi'
      exact ⟨x, rfl, (Option.some.inj hi') ▸ ru⟩
  refine ⟨x, H, I.kept ho, rx, q x (List.mem_of_getElem? hx) ?_⟩
  have hdx := allAt hd hx
  obtain ⟨cs, hrx⟩ := Dp.reads I _ x v hdx rx
  have := (Reads.unique (PySem.W.reads_keeps ho hrx) _ _ hm).1
  rw [← this]; exact hdx
end
open PySem.W in
theorem lea_min (f : Nat → Nat) : ∀ n, minOf (((f 1 : Nat) : Int), (1 : Int)) ((List.range n).map fun i => (((f (i + 2) : Nat) : Int), ((i + 2 : Nat) : Int))) = (((SM.lea f n).1 : Int), ((SM.lea f n).2 : Int))
  | 0 => rfl
  | n + 1 => by
    have ih := lea_min f n
    have ha := SM.lea_at f n
    unfold minOf at ih ⊢
    rw [List.range_succ, List.map_append, List.foldl_append, ih]
    have key : (if ((f (n + 2) : Nat) : Int) = ((SM.lea f n).1 : Int) then decide (((n + 2 : Nat) : Int) < ((SM.lea f n).2 : Int)) else decide (((f (n + 2) : Nat) : Int) < ((SM.lea f n).1 : Int))) = decide (f (n + 2) < (SM.lea f n).1) := by
      by_cases e : f (n + 2) = (SM.lea f n).1
      · rw [if_pos (congrArg _ e), decide_eq_false (by omega), decide_eq_false (by omega)]
      · rw [if_neg (by omega)]
        by_cases c : f (n + 2) < (SM.lea f n).1
        · rw [decide_eq_true (by omega), decide_eq_true c]
        · rw [decide_eq_false (by omega), decide_eq_false c]
    show (if (if ((f (n + 2) : Nat) : Int) = ((SM.lea f n).1 : Int) then decide (((n + 2 : Nat) : Int) < ((SM.lea f n).2 : Int)) else decide (((f (n + 2) : Nat) : Int) < ((SM.lea f n).1 : Int))) = true then (((f (n + 2) : Nat) : Int), ((n + 2 : Nat) : Int)) else (((SM.lea f n).1 : Int), ((SM.lea f n).2 : Int))) = _
    rw [key]
    show _ = ((((if f (n + 2) < (SM.lea f n).1 then (f (n + 2), n + 2) else SM.lea f n) : Nat × Nat).1 : Int), (((if f (n + 2) < (SM.lea f n).1 then (f (n + 2), n + 2) else SM.lea f n) : Nat × Nat).2 : Int))
    by_cases c : f (n + 2) < (SM.lea f n).1
    · rw [decide_eq_true c, if_pos rfl, if_pos c]
    · rw [decide_eq_false c, if_neg (by decide), if_neg c]
def pD (p : Nat × Nat) : PyData := .tuple [.int (p.1 : Int), .int (p.2 : Int)]
theorem pD_toD (a b : Nat) : pD (a, b) = PySem.W.Datum.toD (((a : Int), (b : Int)) : Int × Int) := rfl
theorem minPairs (f : Nat → Nat) (n : Nat) : PySem.W.minD (pD (f 1, 1)) ((List.range n).map fun i => pD (f (i + 2), i + 2)) = pD (SM.lea f n) := by
  have h := PySem.W.minD_map (((f 1 : Nat) : Int), (1 : Int)) ((List.range n).map fun i => (((f (i + 2) : Nat) : Int), ((i + 2 : Nat) : Int)))
  rw [lea_min, List.map_map] at h
  exact h
theorem alikePairs (ps : List (Nat × Nat)) : PySem.W.AlikeAll (ps.map pD) := by
  have h := PySem.W.alikeAll_datum (ps.map fun p => (((p.1 : Int), (p.2 : Int)) : Int × Int))
  rw [List.map_map] at h
  exact h
theorem depPairs : ∀ ps : List (Nat × Nat), PyData.depthAll (ps.map pD) ≤ 1
  | [] => Nat.zero_le _
  | p :: ps => Nat.max_le.mpr ⟨Nat.le_refl _, depPairs ps⟩
end SD

/-! dicts whose keys are tuples of truth values, and whose values are whole numbers -/
namespace SE
open PySem PySem.Spec PyProof.Rows L2
abbrev bK (P : Program) (w : World) : HeapKind P w (List Bool) := tupleKind (PpSet.boolK P w)
abbrev En : Type := List Bool × Addr × Int
abbrev Er (p : En) (q : List Bool × Addr × Value) : Prop := p.1 = q.1 ∧ p.2.1 = q.2.1 ∧ ∃ t, q.2.2 = .int p.2.2 t
def lookB (es : List En) (ks : List Bool) : Option Int := (es.find? fun e => decide (e.1 = ks)).map (·.2.2)
def DBp (P : Program) (w : World) (a : Addr) (es : List En) (h : Heap) : Prop :=
  (a == sysModules) = false ∧ ∃ xs, Paired Er es xs ∧ ∃ o ds ep, h.get? a = some o ∧ o.ExactDict ∧ o.data = .dict ds ep ∧ ds.toList = xs.map (entryOfKey (bK P w)) ∧ (xs.map (·.1)).Nodup
def DBO (P : Program) (w : World) (a : Addr) (es : List En) : HO := .ext (DBp P w a es)
section
variable {P : Program} {w : World} {H : Hp} {h : Heap} {a b : Addr} {es : List En} {ks : List Bool}
theorem dbo_new (R : DBp P w a es h) : ObjOk P w H h a (DBO P w a es) := by
  obtain ⟨hz, xs, pr, o, ds, ep, ho, rest⟩ := id R
  refine ⟨R, ⟨o, ho⟩, fun h1 h2 p k => ?_⟩
  obtain ⟨hz', xs', pr', o', ds', ep', ho', rest'⟩ := p
  exact ⟨hz', xs', pr', o', ds', ep', k _ ho', rest'⟩
theorem bItems : ∀ {ks : List Bool} {us : List Value}, Vals (ks.map V.bl) us → ItemsAre (PpSet.boolK P w) ks us
  | [], _, r => by rw [List.map_nil] at r; cases r; exact .nil
  | k :: ks, _, r => by
    rw [List.map_cons] at r
    cases r with
    | cons h1 h2 =>
      cases (show _ = Value.bool k from h1)
      exact .cons (PpSet.boolK_is P w k) (bItems h2)
theorem bKey (ok : HOk P w H h) (e : H b = some (.tup (ks.map V.bl))) : (bK P w).is h ks b := by
  have z : ObjOk P w H h b (.tup (ks.map V.bl)) := ok b _ e
  obtain ⟨_, its, r, o, j1, j2, m, j3⟩ := z
  exact ⟨o, its.toArray, m, j1, j2, j3, by simpa using bItems r⟩
theorem look_at : ∀ {es : List En} {xs : List (List Bool × Addr × Value)}, Paired Er es xs → ∀ ks, (lookB es ks = none ∧ atKey xs ks = none) ∨ ∃ j t p, lookB es ks = some j ∧ atKey xs ks = some p ∧ p.2 = Value.int j t
  | _, _, .nil, _ => .inl ⟨rfl, rfl⟩
  | e :: es, x :: xs, .cons h t, ks => by
    obtain ⟨h1, h2, t', h3⟩ := h
    by_cases c : e.1 = ks
    · refine .inr ⟨e.2.2, t', x.2, ?_, ?_, h3⟩
      · unfold lookB; rw [List.find?_cons, decide_eq_true c]; rfl
      · unfold atKey; rw [List.find?_cons, decide_eq_true (h1.symm.trans c)]; rfl
    · have c' : ¬ x.1 = ks := fun z => c (h1.trans z)
      have e1 : lookB (e :: es) ks = lookB es ks := by unfold lookB; rw [List.find?_cons, decide_eq_false c]
      have e2 : atKey (x :: xs) ks = atKey xs ks := by unfold atKey; rw [List.find?_cons, decide_eq_false c']
      rw [e1, e2]
      exact look_at t ks
theorem pair_len : ∀ {es : List En} {xs : List (List Bool × Addr × Value)}, Paired Er es xs → xs.length = es.length
  | _, _, .nil => rfl
  | _ :: _, _ :: _, .cons _ t => by rw [List.length_cons, List.length_cons, pair_len t]
theorem pair_mem : ∀ {es : List En} {xs : List (List Bool × Addr × Value)}, Paired Er es xs → ∀ x ∈ xs, ∃ e ∈ es, Er e x
  | _, _, .nil, _, h => by simp at h
  | e :: _, _ :: _, .cons h t, x, hx => by
    rcases List.mem_cons.mp hx with z | z
    · subst z; exact ⟨e, List.mem_cons_self, h⟩
    · obtain ⟨e', m, r⟩ := pair_mem t x z
      exact ⟨e', List.mem_cons_of_mem _ m, r⟩
/-- its entries' keys stand in H -/
def Keys (H : Hp) (es : List En) : Prop := ∀ e ∈ es, H e.2.1 = some (.tup (e.1.map V.bl))
theorem dbo_dict (ok : HOk P w H h) (e : H a = some (DBO P w a es)) (hk : Keys H es) : (a == sysModules) = false ∧ ∃ xs, Paired Er es xs ∧ h.DictOfH (bK P w) a xs := by
  obtain ⟨⟨hz, xs, pr, o, ds, ep, j1, j2, j3, j4, j5⟩, _⟩ := (show ObjOk P w H h a (DBO P w a es) from ok a _ e)
  refine ⟨hz, xs, pr, o, ds, ep, j1, j2, j3, j4, fun x hx => ?_, j5⟩
  obtain ⟨e, he, r1, r2, _⟩ := pair_mem pr x hx
  have := hk e he
  rw [r1, r2] at this
  exact bKey ok this
theorem dbo_make {xs : List (List Bool × Addr × Value)} (hz : (a == sysModules) = false) (pr : Paired Er es xs) (d : h.DictOfH (bK P w) a xs) : ObjOk P w H h a (DBO P w a es) := by
  obtain ⟨o, ds, ep, j1, j2, j3, j4, _, j5⟩ := d
  exact dbo_new ⟨hz, xs, pr, o, ds, ep, j1, j2, j3, j4, j5⟩
end
section
variable {X : Cx} {pos : Pos}
/-- {} -/
def tNewB (P : Program) (w : World) : TE := fun _ H Q => ∀ p, H p = none → Q (.ref p) (upd H p (DBO P w p []))
theorem pe_newB : PE X (.Dict [] [] pos) (tNewB X.prog X.w) := by
  refine ⟨fun pins s σ H Q I h => wpAny_Dict_empty ?_⟩
  have ok : ObjOk X.prog X.w (upd H s.heap.objs.size (DBO X.prog X.w s.heap.objs.size [])) (s.heap.push { cls := .type "dict", data := .dict #[] }) s.heap.objs.size (DBO X.prog X.w s.heap.objs.size []) :=
    dbo_make (beq_eq_false_iff_ne.mpr (Ne.symm (Nat.ne_of_lt I.big))) .nil (Heap.DictOfH.new s.heap)
  exact ⟨.ref s.heap.objs.size, _, I.laid (t' := s.toks) (fun _ _ q => Heap.get?_push_of_some _ q) (Nat.le_refl _) ok, rfl, h _ (I.hok.fresh (Nat.le_refl _))⟩
/-- len(d) -/
def rLenB (P : Program) (w : World) : List V → Hp → VK → Prop := fun xs H Q => ∃ a es, xs = [V.ref a] ∧ H a = some (DBO P w a es) ∧ Keys H es ∧ es.length ≤ 1000 ∧ Q (.int es.length) H
theorem cr_lenB : CallR X (.builtin "len") (rLenB X.prog X.w) := by
  intro pins s σ H vs us Q I r h
  obtain ⟨a, es, rfl, ha, hk, hl, q⟩ := h
  rw [Vals.ref1 r]
  obtain ⟨hz, xs, pr, d⟩ := dbo_dict I.hok ha hk
  have e := pair_len pr
  refine call_len_dictH hz d (by omega) ?_
  rw [e]
  exact ⟨.int es.length, H, I.tok _, ⟨_, rfl⟩, q⟩
/-- d.setdefault(k, i) -/
def tSetB (P : Program) (w : World) (td ty tx : TE) : TE := fun σ H Q => td σ H fun x H1 => ∃ a es, x = .ref a ∧ H1 a = some (DBO P w a es) ∧ Keys H1 es ∧ ty σ H1 fun y H2 => tx σ H2 fun z H3 =>
  ∃ ks b i, y = .ref b ∧ z = .int i ∧ H3 b = some (.tup (ks.map V.bl)) ∧ H3 a = some (DBO P w a es) ∧ Keys H3 es ∧ es.length ≤ 1000 ∧ (∀ j, lookB es ks = some j → Q (.int j) H3) ∧ (lookB es ks = none → Q (.int i) (upd H3 a (DBO P w a (es ++ [(ks, b, i)]))))
theorem pair_app : ∀ {es : List En} {xs : List (List Bool × Addr × Value)} {e : En} {x : List Bool × Addr × Value}, Paired Er es xs → Er e x → Paired Er (es ++ [e]) (xs ++ [x])
  | _, _, _, _, .nil, r => .cons r .nil
  | _ :: _, _ :: _, _, _, .cons h t, r => .cons h (pair_app t r)
theorem pe_setB {o e f : Expr} {td ty tx : TE} {ap cp : Pos} (hu : X.A.units + 1 < cLine) (ho : PE X o td) (he : PE X e ty) (hf : PE X f tx) (m : M2 X o "setdefault" ap e f cp) : PE X (.Call (.Attribute o "setdefault" ap) [e, f] [] cp) (tSetB X.prog X.w td ty tx) := by
  refine ⟨fun pins s σ H Q I h => wpAny_Call_method m.base m.few m.line PySem.F.plainAttrs_dict PySem.F.slot_dict_setdefault PySem.F.type_dict_setdefault ?_⟩
  refine thn (ho.run pins s σ H _ I h) fun ov s1 ⟨x, H1, I1, rx, a, es, ex, ha1, hk1, q1⟩ => ?_
  subst ex
  obtain rfl : ov = Value.ref a := rx
  obtain ⟨_, _, _, d1⟩ := dbo_dict I1.hok ha1 hk1
  refine ⟨d1.typeIs, fun c ec => ?_, ?_⟩
  · cases ec
    obtain ⟨ob, _, _, j1, j2, _⟩ := d1
    exact ⟨ob, j1, j2.2.1⟩
  · rw [m.trees]
    refine Calls.callWith_builtin rfl (Calls.evalArgs_plain (Calls.spliced_cons ?_))
    refine thn (he.run pins s1 σ H1 _ I1 q1) fun kv s2 ⟨y, H2, I2, ry, q2⟩ => Calls.spliced_cons ?_
    refine thn (hf.run pins s2 σ H2 _ I2 q2) fun fv s3 ⟨z, H3, I3, rz, ks, b, i, ey, ez, hb, ha, hk, hl, k1, k2⟩ => Calls.spliced_nil ?_
    subst ey ez
    cases (show kv = Value.ref b from ry)
    obtain ⟨t, rfl⟩ := rz
    obtain ⟨hz, xs, pr, d⟩ := dbo_dict I3.hok ha hk
    have el := pair_len pr
    refine call_setdefault_heap (knd := bK X.prog X.w) (k := ks) (tupleKind_room_in1 hu) (bKey I3.hok hb) hz d (fun p hp => ?_) (fun hn h' d' sb => ?_) (Nat.le_trans (by omega) (show 1000 ≤ sizeLine by decide))
    · rcases look_at pr ks with ⟨_, c⟩ | ⟨j, t', p', c1, c2, c3⟩
      · rw [c] at hp; cases hp
      · rw [hp] at c2
        cases c2
        exact ⟨.int j, H3, I3.tok _, ⟨t', c3⟩, k1 j c1⟩
    · have cn : lookB es ks = none := by
        rcases look_at pr ks with ⟨c, _⟩ | ⟨j, t', p', _, c2, _⟩
        · exact c
        · rw [hn] at c2; cases c2
      rw [storedH_new hn] at d'
      have ok : ObjOk X.prog X.w (upd H3 a (DBO X.prog X.w a (es ++ [(ks, b, i)]))) h' a (DBO X.prog X.w a (es ++ [(ks, b, i)])) := dbo_make hz (pair_app pr ⟨rfl, rfl, t, rfl⟩) d'
      have ex : ∃ u, h'.get? a = some u := by
        obtain ⟨u, _, _, j, _⟩ := d'
        exact ⟨u, j⟩
      exact ⟨.int i, _, I3.write (e := a) (by rw [ha]; trivial) (.inl rfl) (fun c u hc hu' => (sb.2 c hc).trans hu') ex ok, ⟨t, rfl⟩, k2 cn⟩
end
end SE

/-! {e for t in xs if ..}, e a whole number -/
namespace SF
open PySem PySem.Spec PyProof.Rows L2
abbrev oS (w : World) (D : Addr) (S : Int → Bool) (n : Nat) : HO := SetO w D S n
/-- what becomes of the set at D by one more -/
abbrev more (S : Int → Bool) (c : Int) : Int → Bool := fun j => S j || decide (j = c)
/-- one turn: the target, the tests, the item laid -/
def Turn (w : World) (D : Addr) (g : TG) (tt : TT) (te : TE) (τ : L2.St) (vs : List Nat) (Nx : Hp → Prop) (x : V) (G : Hp) : Prop :=
  g x τ G fun τ2 G2 => wipe τ2 vs = τ ∧ tt τ2 G2 fun b G3 => if b = true then te τ2 G3 fun y G4 => ∃ (c : Int) (S : Int → Bool) (n : Nat), y = .int c ∧ G4 D = some (oS w D S n) ∧ n + 1 < scanBound ∧ Nx (upd G4 D (oS w D (more S c) (if S c = true then n else n + 1))) else Nx G3
def tSi (w : World) (wi : TI) (g : TG) (tt : TT) (te : TE) (vs : List Nat) : TE := fun σ H Q => wi σ H fun J G => ∀ D, G D = none → ∃ W : Nat → Nat → Hp → Prop, (∃ m, W 0 m (upd G D (oS w D (fun _ => false) 0))) ∧
  ∀ i m G', W i m G' → (J.stop i G' ∧ Q (.ref D) G') ∨ (J.go i G' ∧ ∃ Nx : Hp → Prop, (∀ G2, Nx G2 → ∃ m', m' < m ∧ W (i + 1) m' G2) ∧ ∀ x G2, J.yld i G' x G2 → Turn w D g tt te (wipe σ vs) vs Nx x G2)
section
variable {X : Cx}
theorem newS {pins : List (Addr × Obj)} {σ : L2.St} {H : Hp} {s : Shared} (I : Inv X pins σ H s) : Inv X pins σ (upd H s.heap.objs.size (oS X.w s.heap.objs.size (fun _ => false) 0)) { s with heap := s.heap.push (SC.nS X.w) } :=
  I.laid (t' := s.toks) (fun _ _ e => Heap.get?_push_of_some _ e) (Nat.le_refl _) (setO_new (setR_fresh X.w))
theorem pe_si {elt tg iter : Expr} {ifs : List Expr} {scope : Scope} {own : List (PySem.Str × Nat)} {pos : Pos} {wi : TI} {g : TG} {tt : TT} {te : TE} (cm : X.calm = true) (nd : X.N.Nodup) (walk : PI X tg iter wi) (bo : BlkOk X.N X.env.scope scope own)
    (rg : ∀ s H C cl fp, PG (X.blk s H scope (compEnvC scope cl C X.env) fp) tg g)
    (rt : ∀ s H C cl fp, PTs (X.blk s H scope (compEnvC scope cl C X.env) fp) ifs tt)
    (re : ∀ s H C cl fp, PE (X.blk s H scope (compEnvC scope cl C X.env) fp) elt te)
    (fold : ∀ x, foldedSetIterable iter X.env x = pure x := by intro _; rfl) : PE X (.SetComp elt [⟨tg, iter, ifs, 0⟩] scope pos) (tSi X.w wi g tt te (own.map (·.2))) := by
  refine ⟨fun pins s σ H Q I h => ?_⟩
  rw [PpSet.eval_SetComp]
  have fr : ∀ y ∈ scope.names, y.2 = .free → ∃ c, X.env.cells.lookup y.1 = some c := fun y hy e => (bo.free y hy e).elim (fun k => I.ok.has _ (.inl k)) (fun k => I.ok.has _ (.inr k))
  refine wpAny_comprehension_free rfl fold (closure_ok fr) bo.kind (fun y hy e => (bo.uniq y hy).trans (by rw [e])) ?_
  refine thn (walk.run pins s σ H _ I h) fun xv s1 hx => thn hx fun itv s2 ⟨it, fp, tn, J, G2, e, I2, T, st2, f2, q⟩ => ?_
  subst e
  refine PpSet.newSet_ok (newEnv_comp ?_)
  have IS := newS I2
  obtain ⟨D, hD⟩ : ∃ D, s2.heap.objs.size = D := ⟨_, rfl⟩
  have fD : G2 D = none := I2.hok.fresh (Nat.le_of_eq hD)
  obtain ⟨W, ⟨m0, w0⟩, turn⟩ := q D fD
  rw [hD] at IS ⊢
  obtain ⟨s3, h3⟩ : ∃ s3 : Shared, ({ s2 with heap := s2.heap.push (SC.nS X.w) } : Shared) = s3 := ⟨_, rfl⟩
  have h3h : s3.heap = s2.heap.push (SC.nS X.w) := by rw [← h3]
  rw [h3] at IS
  have ltF : ∀ b ∈ fp, b < s2.heap.objs.size := fun b hb => let ⟨_, e, _⟩ := T.obj _ _ st2 b hb; Heap.lt_size e
  have okF : ∀ b ∈ fp, FpOk X pins (upd G2 D (oS X.w D (fun _ => false) 0)) b ∧ b < s3.heap.objs.size := fun b hb => by
    have lt := ltF b hb
    have ne : b ≠ D := by rw [← hD]; exact Nat.ne_of_lt lt
    exact ⟨⟨by rw [upd_ne ne]; exact (f2 b hb).1, (f2 b hb).2⟩, by rw [h3h, Heap.size_push]; exact Nat.lt_succ_of_lt lt⟩
  have st3 : tn 0 s3.heap := T.keep _ _ _ st2 fun b _ o e => by rw [h3h]; exact Heap.get?_push_of_some _ e
  have I4 := block_start IS bo nd okF
  obtain ⟨cl, hcl⟩ : ∃ cl, cellsFrom (s3.heap.objs.size + 1) scope.names (cloFrom X.env.cells scope.names []) = cl := ⟨_, rfl⟩
  obtain ⟨G3, hG3⟩ : ∃ G3, upd G2 D (oS X.w D (fun _ => false) 0) = G3 := ⟨_, rfl⟩
  obtain ⟨C, hC⟩ : ∃ C, s3.heap.objs.size = C := ⟨_, rfl⟩
  obtain ⟨ce, hce⟩ : ∃ ce, compEnvC scope cl C X.env = ce := ⟨_, rfl⟩
  have pg := rg s3 G3 C cl fp
  have pt := rt s3 G3 C cl fp
  have pe := re s3 G3 C cl fp
  have cL : ce.locals = C := by rw [← hce]; rfl
  rw [hce] at pg pt pe
  rw [hG3] at IS okF I4 w0
  have I4' : Inv (X.blk s3 G3 scope ce fp) [] (wipe σ (own.map (·.2))) G3 { s3 with heap := pushCells (s3.heap.push { cls := .type "dict", data := .dict #[] }) scope.names } := by
    rw [← hce, ← hcl, ← hC]; exact I4
  obtain ⟨s4, h4⟩ : ∃ s4 : Shared, ({ s3 with heap := pushCells (s3.heap.push { cls := .type "dict", data := .dict #[] }) scope.names } : Shared) = s4 := ⟨_, rfl⟩
  rw [h4] at I4'
  have st4 : tn 0 s4.heap := T.keep _ _ _ st3 fun b _ o e => by rw [← h4]; exact pushCells_keeps _ _ _ _ (Heap.get?_push_of_some _ e)
  have still : ∀ {τ : L2.St} {G : Hp} {z : Shared}, Inv (X.blk s3 G3 scope ce fp) [] τ G z → (∀ b ∈ fp, G b = none) → ∀ b ∈ fp, FpOk (X.blk s3 G3 scope ce fp) [] G b := fun {τ G z} J0 hn b hb =>
    ⟨hn b hb, (J0.ok.exf b hb).1, J0.ok.exfs b hb, .inl hb, fun x c e => (J0.ok.exf b hb).2 x c e, fun p hp => by cases hp⟩
  have done : ∀ (s' : Shared) (m : PySem.Str → Option Value) (G : Hp), Inv X pins σ G s' → Q (.ref D) G → s'.heap.Ns C m → FpOk X pins G C → compPost (model X.prog X.w) X.A X.xe none (EP X pins σ Q) (.ref D) C (.ok .next) s' := fun s' m G J1 qq hn f => by
    refine ⟨m, hn, fun h'' sb => ?_⟩
    obtain ⟨u0, u1, u2, u3, u4, u5⟩ := f
    exact ⟨.ref D, G, J1.turned (t' := s'.toks) (fun b o hb e => (sb.2 b hb).trans e) u0 u1 u3 u4 u5, rfl, qq⟩
  have loop : codeAny (model X.prog X.w) X.A (.compLoop (.SetComp elt [⟨tg, iter, ifs, 0⟩] scope pos) 0 (.ref it) (.ref D) ce) (compPost (model X.prog X.w) X.A X.xe none (EP X pins σ Q) (.ref D) C) s4 := by
    refine PpSet.compLoopS_any (fun n z => ∃ i G, Inv (X.blk s3 G3 scope ce fp) [] (wipe σ (own.map (·.2))) G z ∧ tn i z.heap ∧ (∀ b ∈ fp, G b = none) ∧ W i n G) ?_ m0 ⟨0, G3, I4', st4, fun b hb => (okF b hb).1.1, w0⟩
    rintro n z5 ⟨i, G5, I5, st5, n5, w5⟩
    rcases turn i n G5 w5 with ⟨stop, qq⟩ | ⟨go, Nx, hNx, step⟩
    · refine thnF (T.done (X.blk s3 G3 scope ce fp) rfl rfl rfl cm i [] z5 _ G5 (fun _ _ => False) I5 (still I5 n5) st5 stop) fun r z6 ⟨hr, I6⟩ => ?_
      subst hr
      have J1 : Inv X pins σ G5 z6 := IS.call' (ch := fp) I6.os I6.base I6.hok I6.bare fun b hb => let k := (okF b hb).1.2; ⟨k.2.2.1, k.1, k.2.2.2.1, k.2.2.2.2⟩
      have nC : G5 C = none := by
        have y : G5 ce.locals = none := I6.free
        rwa [cL] at y
      obtain ⟨m, hn, _⟩ := I6.loc
      have hn' : z6.heap.Ns C m := by
        have y : z6.heap.Ns ce.locals m := hn
        rwa [cL] at y
      exact done z6 m G5 J1 qq hn' (IS.fpOk (Nat.le_of_eq hC) nC)
    · refine thnF (T.item (X.blk s3 G3 scope ce fp) rfl rfl rfl cm i [] z5 _ G5 (fun _ _ => False) I5 (still I5 n5) st5 go) fun r z6 ⟨u, hr, k6⟩ => ?_
      subst hr
      refine thnF k6 fun _ z7 ⟨x, G7, I7, r7, y7, st7, n7⟩ => ?_
      have I7' := I7.pinned (still I7 n7) (T.obj _ _ st7)
      refine thnF (pg.run _ z7 _ G7 x u _ I7' r7 (step x G7 y7)) fun _ z8 ⟨τ8, G8, I8, w8, q8⟩ => ?_
      refine thnF (pt.run _ z8 τ8 G8 _ I8 q8) fun b z9 ⟨G9, I9, q9⟩ => ?_
      have fin : ∀ {z' : Shared} {G' : Hp}, Inv (X.blk s3 G3 scope ce fp) ([] ++ pinsAt fp z7.heap) τ8 G' z' → Nx G' → ∃ m, m < n ∧ ∃ i G'', Inv (X.blk s3 G3 scope ce fp) [] (wipe σ (own.map (·.2))) G'' z' ∧ tn i z'.heap ∧ (∀ b ∈ fp, G'' b = none) ∧ W i m G'' := fun {z' G'} J' nx => by
        obtain ⟨m', lt', w'⟩ := hNx G' nx
        have pinned : ∀ b ∈ fp, ∀ o, z7.heap.get? b = some o → z'.heap.get? b = some o ∧ G' b = none := fun b hb o e =>
          let k := J'.pin (b, o) (List.mem_append_right _ (List.mem_append_right _ (mem_pinsAt hb e))); ⟨k.1, k.2.1⟩
        have len : (wipe σ (own.map (·.2))).length = τ8.length := by rw [← w8, wipe_length]
        refine ⟨m', lt', i + 1, G', (J'.unpinned (pins := [])).weak len (fun j v e => by rw [← w8] at e; exact (wipe_some e).1), T.keep _ _ _ st7 fun b hb o e => (pinned b hb o e).1, fun b hb => ?_, w'⟩
        obtain ⟨o, e, _⟩ := T.obj _ _ st7 b hb
        exact (pinned b hb o e).2
      cases b with
      | false => exact fin I9 q9
      | true =>
        refine thnF (pe.run _ z9 τ8 G9 _ I9 q9) fun v z10 ⟨yv, G10, I10, r10, c, S, n0, ey, hS, room, nx⟩ => ?_
        subst ey
        obtain ⟨tk, rfl⟩ := r10
        have R := setO_get (X := X.blk s3 G3 scope ce fp) I10 hS
        refine setR_add R room fun h' sb new => fin ?_ nx
        have ex : ∃ u, h'.get? D = some u := let ⟨o, _, _, _, ho, _⟩ := new; ⟨o, ho⟩
        exact I10.write (e := D) (t' := z10.toks + 1) (by rw [hS]; trivial) (.inl rfl) (fun b u hb hu => (sb.2 b hb).trans hu) ex (setO_new new)
  have fini := PpSet.codeAny_compStart_set (env := ce) loop (T.self X.A 0 _ _ _ st4 loop)
  rw [← h4, ← hce, ← hcl, ← h3, ← hC, ← h3] at fini
  first
    | exact fini
    | (rw [← hC, ← h3] at fini; exact fini)
end
end SF

/-! texts of sets, by lists of signs -/
namespace ST
open PySem L2 SM
def mk (l : List Nat) : Str := ⟨l.toArray⟩
theorem tl_mk (l : List Nat) : TL.tl (mk l) = l := rfl
theorem mk_len (l : List Nat) : (mk l).length = l.length := by rw [TL.len_tl]; rfl
theorem mk_inj {a b : List Nat} (h : mk a = mk b) : a = b := by
  have := congrArg TL.tl h
  exact this
theorem mk_app (a b : List Nat) : mk a ++ mk b = mk (a ++ b) := TL.ext_tl (by rw [TL.tl_append]; rfl)
def num (k : Nat) : List Nat := if k < 10 then [48 + k] else [48 + k / 10, 48 + k % 10]
theorem num_str : ∀ k : Fin 100, PySem.Str.ofString (toString ((k.val : Nat) : Int)) = mk (num k.val) := by decide +kernel
theorem toStr {k : Nat} (h : k < 100) : PySem.Str.ofString (toString ((k : Nat) : Int)) = mk (num k) := num_str ⟨k, h⟩
theorem num_len (k : Nat) : (num k).length ≤ 2 ∧ 1 ≤ (num k).length := by
  unfold num
  by_cases h : k < 10
  · rw [if_pos h]; exact ⟨by show 1 ≤ 2; decide, by show 1 ≤ 1; decide⟩
  · rw [if_neg h]; exact ⟨by show 2 ≤ 2; decide, by show 1 ≤ 2; decide⟩
theorem num_dig {k : Nat} (h : k < 100) : ∀ c ∈ num k, 48 ≤ c ∧ c ≤ 57 := by
  unfold num
  intro c hc
  by_cases h1 : k < 10
  · rw [if_pos h1] at hc
    have := List.mem_singleton.mp hc
    omega
  · rw [if_neg h1] at hc
    rcases List.mem_cons.mp hc with e | e
    · omega
    · have := List.mem_singleton.mp e
      omega
theorem num_inj : ∀ a b : Fin 100, num a.val = num b.val → a = b := by decide +kernel
theorem num_eq {a b : Nat} (ha : a < 100) (hb : b < 100) (h : num a = num b) : a = b := congrArg Fin.val (num_inj ⟨a, ha⟩ ⟨b, hb⟩ h)
def itemT (r : Nat × Nat) : List Nat := if r.1 = r.2 then num r.1 else if r.1 + 1 = r.2 then num r.1 ++ 44 :: num r.2 else num r.1 ++ 45 :: num r.2
def itemsT (rs : List (Nat × Nat)) : List Nat := TL.joinL [44] (rs.map itemT)
def wrt (n : Nat) (m : Nat → Bool) : List Nat := if (94 :: itemsT (told (fun k => !m k) n)).length < (itemsT (told m n)).length then 94 :: itemsT (told (fun k => !m k) n) else itemsT (told m n)
theorem itemT_len (r : Nat × Nat) : (itemT r).length ≤ 5 := by
  have a := num_len r.1
  have b := num_len r.2
  unfold itemT
  split
  · omega
  · split
    · rw [List.length_append, List.length_cons]; omega
    · rw [List.length_append, List.length_cons]; omega
theorem joinL_len (S : List Nat) : ∀ ps : List (List Nat), (∀ p ∈ ps, p.length ≤ 5) → (TL.joinL S ps).length ≤ ps.length * (5 + S.length)
  | [], _ => Nat.zero_le _
  | [p], h => by
    have := h p List.mem_cons_self
    show p.length ≤ 1 * _
    omega
  | p :: q :: r, h => by
    have ih := joinL_len S (q :: r) fun x hx => h x (List.mem_cons_of_mem _ hx)
    have := h p List.mem_cons_self
    show (p ++ (S ++ TL.joinL S (q :: r))).length ≤ _
    rw [List.length_append, List.length_append, List.length_cons, Nat.succ_mul]
    omega
theorem itemsT_len {rs : List (Nat × Nat)} (h : rs.length ≤ 64) : (itemsT rs).length ≤ 384 := by
  have := joinL_len [44] (rs.map itemT) fun p hp => by
    obtain ⟨r, _, rfl⟩ := List.mem_map.mp hp
    exact itemT_len r
  rw [List.length_map] at this
  unfold itemsT
  have h2 : rs.length * (5 + [44].length) ≤ 64 * 6 := Nat.mul_le_mul_right _ h
  omega
theorem join_mk (S : List Nat) (ps : List (List Nat)) : Txt.join (mk S) (ps.map mk) = mk (TL.joinL S ps) := by
  refine TL.ext_tl ?_
  rw [TL.join_eq, TL.tl_join, List.map_map, tl_mk, tl_mk]
  refine congrArg _ ?_
  rw [show (TL.tl ∘ mk) = id from rfl, List.map_id]
end ST

/-! reading texts of sets -/
namespace ST
open PySem L2 SM
/-- the sign of some figures -/
def val (n : Nat) (a : List Nat) : Option Nat := (List.range n).find? fun k => num k == a
theorem val_some {n k : Nat} {a : List Nat} (h : val n a = some k) : k < n ∧ num k = a := by
  have h1 := List.find?_some h
  have h2 := List.mem_of_find?_eq_some h
  exact ⟨List.mem_range.mp h2, eq_of_beq h1⟩
theorem val_num {n k : Nat} (hk : k < n) (hn : n ≤ 100) : val n (num k) = some k := by
  cases h : val n (num k) with
  | none =>
    have := List.find?_eq_none.mp h k (List.mem_range.mpr hk)
    simp at this
  | some j =>
    obtain ⟨h1, h2⟩ := val_some h
    rw [num_eq (by omega) (by omega) h2]
theorem val_none {n : Nat} {a : List Nat} (h : val n a = none) : ∀ k, k < n → num k ≠ a := fun k hk e => by
  have := List.find?_eq_none.mp h k (List.mem_range.mpr hk)
  rw [e] at this
  simp at this
/-- an item -/
def rdI (n : Nat) (w : List Nat) : Option (Nat × Nat) := match TL.par [45] [] w with
  | none => (val n w).map fun x => (x, x)
  | some (a, b) => match val n a, val n b with
    | some x, some y => if x < y then some (x, y) else none
    | _, _ => none
theorem rdI_le {n : Nat} {w : List Nat} {r : Nat × Nat} (h : rdI n w = some r) : r.1 ≤ r.2 ∧ r.2 < n := by
  unfold rdI at h
  cases e : TL.par [45] [] w with
  | none =>
    rw [e] at h
    obtain ⟨x, hx, rfl⟩ := Option.map_eq_some_iff.mp h
    exact ⟨Nat.le_refl _, (val_some hx).1⟩
  | some p =>
    obtain ⟨a, b⟩ := p
    rw [e] at h
    simp only at h
    cases ha : val n a with
    | none => rw [ha] at h; cases h
    | some x =>
      cases hb : val n b with
      | none => rw [ha, hb] at h; cases h
      | some y =>
        rw [ha, hb] at h
        simp only at h
        by_cases c : x < y
        · rw [if_pos c] at h
          cases h
          exact ⟨Nat.le_of_lt c, (val_some hb).1⟩
        · rw [if_neg c] at h; cases h
/-- the items from place p on, none of them beginning below lo: the first that cannot stand there, or the ranges -/
def rdG (n : Nat) : Nat → Nat → List (List Nat) → Nat ⊕ List (Nat × Nat)
  | _, _, [] => .inr []
  | p, lo, w :: ws => match rdI n w with
    | none => .inl p
    | some r => if r.1 < lo then .inl p else match rdG n (p + 1) (r.2 + 1) ws with
      | .inl q => .inl q
      | .inr rs => .inr (r :: rs)
def isN (t : List Nat) : Bool := match t with
  | 94 :: _ => true
  | _ => false
def rest (t : List Nat) : List Nat := if isN t = true then t.tail else t
def itm (t : List Nat) : List (List Nat) := if rest t = [] then [] else TL.spl [44] 0 [] (rest t)
def rdT (n : Nat) (t : List Nat) : Nat ⊕ List (Nat × Nat) := rdG n 0 0 (itm t)
theorem rdG_ok {n : Nat} : ∀ {ws : List (List Nat)} {p lo : Nat} {rs : List (Nat × Nat)}, rdG n p lo ws = .inr rs → (∀ r ∈ rs, r.1 ≤ r.2 ∧ r.2 < n ∧ lo ≤ r.1) ∧ rs.length = ws.length ∧ rs.length ≤ n - lo
  | [], _, _, _, h => by cases h; exact ⟨fun _ h => absurd h List.not_mem_nil, rfl, Nat.zero_le _⟩
  | w :: ws, p, lo, rs, h => by
    unfold rdG at h
    cases e : rdI n w with
    | none => rw [e] at h; cases h
    | some r =>
      rw [e] at h
      simp only at h
      by_cases c : r.1 < lo
      · rw [if_pos c] at h; cases h
      · rw [if_neg c] at h
        cases e2 : rdG n (p + 1) (r.2 + 1) ws with
        | inl q => rw [e2] at h; cases h
        | inr rs' =>
          rw [e2] at h
          cases h
          have ih := rdG_ok e2
          have hr := rdI_le e
          refine ⟨fun z hz => ?_, by rw [List.length_cons, List.length_cons, ih.2.1], ?_⟩
          · rcases List.mem_cons.mp hz with x | x
            · subst x; exact ⟨hr.1, hr.2, by omega⟩
            · have := ih.1 z x; exact ⟨this.1, this.2.1, by omega⟩
          · rw [List.length_cons]
            have := ih.2.2
            omega
/-! ### what is written is read -/
def wrd (r : Nat × Nat) : List (List Nat) := if r.1 = r.2 then [num r.1] else if r.1 + 1 = r.2 then [num r.1, num r.2] else [num r.1 ++ 45 :: num r.2]
def rng (r : Nat × Nat) : List (Nat × Nat) := if r.1 = r.2 then [(r.1, r.1)] else if r.1 + 1 = r.2 then [(r.1, r.1), (r.2, r.2)] else [r]
theorem wrd_item (r : Nat × Nat) : itemT r = TL.joinL [44] (wrd r) := by
  unfold itemT wrd
  by_cases a : r.1 = r.2
  · rw [if_pos a, if_pos a]; rfl
  · rw [if_neg a, if_neg a]
    by_cases b : r.1 + 1 = r.2
    · rw [if_pos b, if_pos b]; rfl
    · rw [if_neg b, if_neg b]; rfl
theorem wrd_ne (r : Nat × Nat) : wrd r ≠ [] := by
  unfold wrd
  split
  · simp
  · split <;> simp
theorem joinL_app (S : List Nat) : ∀ {a b : List (List Nat)}, a ≠ [] → b ≠ [] → TL.joinL S (a ++ b) = TL.joinL S a ++ (S ++ TL.joinL S b)
  | [], _, h, _ => absurd rfl h
  | [p], q :: r, _, _ => rfl
  | [p], [], _, h => absurd rfl h
  | p :: q :: a, b, _, h => by
    have ih := joinL_app S (a := q :: a) (b := b) (by simp) h
    show p ++ (S ++ TL.joinL S ((q :: a) ++ b)) = (p ++ (S ++ TL.joinL S (q :: a))) ++ (S ++ TL.joinL S b)
    rw [ih]; simp [List.append_assoc]
theorem joinL_flat (S : List Nat) (f : Nat × Nat → List (List Nat)) (hf : ∀ r, f r ≠ []) : ∀ rs : List (Nat × Nat), TL.joinL S (rs.map fun r => TL.joinL S (f r)) = TL.joinL S (rs.flatMap f)
  | [] => rfl
  | [r] => by simp [TL.joinL]
  | r :: q :: rs => by
    have ih := joinL_flat S f hf (q :: rs)
    rw [List.flatMap_cons, joinL_app S (hf r) (by rw [List.flatMap_cons]; intro z; exact hf q (List.append_eq_nil_iff.mp z).1), ← ih]
    rfl
theorem items_words (rs : List (Nat × Nat)) : itemsT rs = TL.joinL [44] (rs.flatMap wrd) := by
  unfold itemsT
  rw [show rs.map itemT = rs.map fun r => TL.joinL [44] (wrd r) from List.map_congr_left fun r _ => wrd_item r, joinL_flat [44] wrd wrd_ne]
theorem no_sign {k c : Nat} (h : k < 100) (hc : c < 48 ∨ 57 < c) : c ∉ num k := fun z => by
  have := num_dig h c z
  omega
theorem wrd_free {r : Nat × Nat} (h : r.1 < 100 ∧ r.2 < 100) : ∀ w ∈ wrd r, 44 ∉ w ∧ w ≠ [] ∧ (∀ c, c ∈ w → c < 94) := by
  have n1 : ∀ k, num k ≠ [] := fun k e => by have := (num_len k).2; rw [e] at this; exact absurd this (by decide)
  have dig : ∀ k, k < 100 → 44 ∉ num k ∧ num k ≠ [] ∧ (∀ c, c ∈ num k → c < 94) := fun k hk => ⟨no_sign hk (.inl (by decide)), n1 k, fun c hc => by have := num_dig hk c hc; omega⟩
  intro w hw
  unfold wrd at hw
  by_cases a : r.1 = r.2
  · rw [if_pos a] at hw
    rw [List.mem_singleton.mp hw]; exact dig _ h.1
  · rw [if_neg a] at hw
    by_cases b : r.1 + 1 = r.2
    · rw [if_pos b] at hw
      rcases List.mem_cons.mp hw with e | e
      · rw [e]; exact dig _ h.1
      · rw [List.mem_singleton.mp e]; exact dig _ h.2
    · rw [if_neg b] at hw
      rw [List.mem_singleton.mp hw]
      refine ⟨fun z => ?_, by simp, fun c hc => ?_⟩
      · rcases List.mem_append.mp z with e | e
        · exact (dig _ h.1).1 e
        · rcases List.mem_cons.mp e with e | e
          · exact absurd e (by decide)
          · exact (dig _ h.2).1 e
      · rcases List.mem_append.mp hc with e | e
        · exact (dig _ h.1).2.2 c e
        · rcases List.mem_cons.mp e with e | e
          · omega
          · exact (dig _ h.2).2.2 c e
theorem rdI_num {n k : Nat} (hk : k < n) (hn : n ≤ 64) : rdI n (num k) = some (k, k) := by
  unfold rdI
  rw [TL.par_none1 (no_sign (by omega) (.inl (by decide)))]
  simp only
  rw [val_num hk (by omega)]; rfl
theorem rdI_two {n a b : Nat} (hab : a < b) (hb : b < n) (hn : n ≤ 64) : rdI n (num a ++ 45 :: num b) = some (a, b) := by
  unfold rdI
  rw [show num a ++ 45 :: num b = num a ++ ([45] ++ num b) from rfl, TL.par_part1 (no_sign (by omega) (.inl (by decide)))]
  simp only [List.nil_append]
  rw [val_num (by omega) (by omega), val_num hb (by omega)]
  simp only
  rw [if_pos hab]
theorem rdG_cons {n p lo : Nat} {w : List Nat} {ws : List (List Nat)} {r : Nat × Nat} {rs : List (Nat × Nat)} (h1 : rdI n w = some r) (h2 : lo ≤ r.1) (h3 : rdG n (p + 1) (r.2 + 1) ws = .inr rs) : rdG n p lo (w :: ws) = .inr (r :: rs) := by
  show (match rdI n w with | none => Sum.inl p | some r => if r.1 < lo then .inl p else match rdG n (p + 1) (r.2 + 1) ws with | .inl q => .inl q | .inr rs => .inr (r :: rs)) = _
  rw [h1]
  simp only
  rw [if_neg (by omega), h3]
theorem rdG_words {n : Nat} (hn : n ≤ 64) : ∀ (rs : List (Nat × Nat)) (p lo : Nat), (∀ r ∈ rs, r.1 ≤ r.2 ∧ r.2 < n) → rs.Pairwise (fun r s => r.2 + 1 < s.1) → (∀ r ∈ rs, lo ≤ r.1) → rdG n p lo (rs.flatMap wrd) = .inr (rs.flatMap rng)
  | [], _, _, _, _, _ => rfl
  | r :: rs, p, lo, h1, h2, h3 => by
    have hr := h1 r List.mem_cons_self
    have hl := h3 r List.mem_cons_self
    obtain ⟨p1, p2⟩ := List.pairwise_cons.mp h2
    have ih := fun p => rdG_words hn rs p (r.2 + 1) (fun z hz => h1 z (List.mem_cons_of_mem _ hz)) p2 (fun z hz => by have := p1 z hz; omega)
    rw [List.flatMap_cons, List.flatMap_cons]
    unfold wrd rng
    by_cases a : r.1 = r.2
    · rw [if_pos a, if_pos a]
      exact rdG_cons (rdI_num (by omega) hn) hl (by show rdG n (p + 1) (r.1 + 1) _ = _; rw [a]; exact ih (p + 1))
    · rw [if_neg a, if_neg a]
      by_cases b : r.1 + 1 = r.2
      · rw [if_pos b, if_pos b]
        refine rdG_cons (rdI_num (by omega) hn) hl ?_
        exact rdG_cons (r := (r.2, r.2)) (rdI_num hr.2 hn) (by show r.1 + 1 ≤ r.2; omega) (ih (p + 1 + 1))
      · rw [if_neg b, if_neg b]
        exact rdG_cons (rdI_two (by omega) hr.2 hn) hl (ih (p + 1))
theorem rng_mem {r : Nat × Nat} (h : r.1 ≤ r.2) (k : Nat) : memB (rng r) k = memB [r] k := by
  have one : ∀ a b : Nat, memB [(a, b)] k = (decide (a ≤ k) && decide (k ≤ b)) := fun a b => memB_one (a, b) k
  unfold rng
  by_cases a : r.1 = r.2
  · rw [if_pos a]
    have : r = (r.1, r.1) := by rw [show (r.1, r.1) = (r.1, r.2) by rw [← a]]
    rw [← this]
  · rw [if_neg a]
    by_cases b : r.1 + 1 = r.2
    · rw [if_pos b, show [(r.1, r.1), (r.2, r.2)] = [(r.1, r.1)] ++ [(r.2, r.2)] from rfl, memB_append, one, one, memB_one, Bool.eq_iff_iff]
      simp only [Bool.or_eq_true, Bool.and_eq_true, decide_eq_true_eq]
      omega
    · rw [if_neg b]
theorem flat_mem : ∀ {rs : List (Nat × Nat)}, (∀ r ∈ rs, r.1 ≤ r.2) → ∀ k, memB (rs.flatMap rng) k = memB rs k
  | [], _, _ => rfl
  | r :: rs, h, k => by
    rw [List.flatMap_cons, memB_append, rng_mem (h r List.mem_cons_self), flat_mem fun z hz => h z (List.mem_cons_of_mem _ hz), show r :: rs = [r] ++ rs from rfl, memB_append]
theorem isN_items {rs : List (Nat × Nat)} (h : ∀ r ∈ rs, r.1 < 100 ∧ r.2 < 100) : isN (itemsT rs) = false := by
  cases rs with
  | nil => rfl
  | cons r rs =>
    have hn := num_len r.1
    have hd := num_dig (h r List.mem_cons_self).1
    have hh : ∃ c l, itemsT (r :: rs) = c :: l ∧ c < 94 := by
      have h0 : ∃ c l, num r.1 = c :: l := by
        cases e : num r.1 with
        | nil => rw [e] at hn; exact absurd hn.2 (by decide)
        | cons c l => exact ⟨c, l, rfl⟩
      obtain ⟨c, l, e⟩ := h0
      have hc := hd c (by rw [e]; exact List.mem_cons_self)
      have hi : ∃ l', itemT r = c :: l' := by
        unfold itemT
        rw [e]
        split
        · exact ⟨_, rfl⟩
        · split
          · exact ⟨_, rfl⟩
          · exact ⟨_, rfl⟩
      obtain ⟨l', e'⟩ := hi
      unfold itemsT
      rw [List.map_cons]
      cases rs with
      | nil => exact ⟨c, l', e', by omega⟩
      | cons q rs =>
        refine ⟨c, l' ++ ([44] ++ TL.joinL [44] ((q :: rs).map itemT)), ?_, by omega⟩
        show itemT r ++ ([44] ++ TL.joinL [44] ((q :: rs).map itemT)) = _
        rw [e']; rfl
    obtain ⟨c, l, e, hc⟩ := hh
    rw [e]
    unfold isN
    split
    · rename_i hz
      cases hz
      exact absurd hc (by decide)
    · rfl
theorem spl_items {rs : List (Nat × Nat)} (h : ∀ r ∈ rs, r.1 < 100 ∧ r.2 < 100) : (if itemsT rs = [] then [] else TL.spl [44] 0 [] (itemsT rs)) = rs.flatMap wrd := by
  cases rs with
  | nil => exact if_pos rfl
  | cons r rs =>
    have hw : ∀ w ∈ (r :: rs).flatMap wrd, 44 ∉ w ∧ w ≠ [] ∧ (∀ c, c ∈ w → c < 94) := fun w hw => by
      obtain ⟨z, hz, hzw⟩ := List.mem_flatMap.mp hw
      exact wrd_free (h z hz) w hzw
    have hne : (r :: rs).flatMap wrd ≠ [] := by
      rw [List.flatMap_cons]; intro z; exact wrd_ne r (List.append_eq_nil_iff.mp z).1
    rw [items_words]
    have hj : TL.joinL [44] ((r :: rs).flatMap wrd) ≠ [] := by
      cases e : (r :: rs).flatMap wrd with
      | nil => exact absurd e hne
      | cons a b =>
        have ha := (hw a (by rw [e]; exact List.mem_cons_self)).2.1
        cases b with
        | nil => exact ha
        | cons b c =>
          show a ++ _ ≠ []
          intro z; exact ha (List.append_eq_nil_iff.mp z).1
    rw [if_neg hj, TL.spl_join hne fun w hz => (hw w hz).1]
/-- what written tells is read as the same set -/
theorem rd_wrt {n : Nat} (hn : n ≤ 64) (m : Nat → Bool) : ∃ rs, rdT n (wrt n m) = .inr rs ∧ ∀ k, k < n → (if isN (wrt n m) = true then !memB rs k else memB rs k) = m k := by
  have key : ∀ m : Nat → Bool, rdG n 0 0 ((told m n).flatMap wrd) = .inr ((told m n).flatMap rng) := fun m =>
    rdG_words hn (told m n) 0 0 (fun r hr => ⟨(told_sep m n).1 r hr, told_below m n r hr⟩) (told_sep m n).2 fun _ _ => Nat.zero_le _
  have small : ∀ m : Nat → Bool, ∀ r ∈ told m n, r.1 < 100 ∧ r.2 < 100 := fun m r hr => by
    have a := (told_sep m n).1 r hr
    have b := told_below m n r hr
    exact ⟨by omega, by omega⟩
  unfold wrt
  by_cases c : (94 :: itemsT (told (fun k => !m k) n)).length < (itemsT (told m n)).length
  · rw [if_pos c]
    refine ⟨(told (fun k => !m k) n).flatMap rng, ?_, fun k hk => ?_⟩
    · unfold rdT itm rest
      rw [if_pos (show isN (94 :: itemsT (told (fun k => !m k) n)) = true from rfl), List.tail_cons, spl_items (small _)]
      exact key _
    · rw [if_pos (show isN (94 :: itemsT (told (fun k => !m k) n)) = true from rfl), flat_mem (told_sep _ n).1, told_mem _ n k hk, Bool.not_not]
  · rw [if_neg c]
    refine ⟨(told m n).flatMap rng, ?_, fun k hk => ?_⟩
    · have er : rest (itemsT (told m n)) = itemsT (told m n) := by
        unfold rest
        rw [isN_items (small m)]; rfl
      unfold rdT itm
      rw [er, spl_items (small _)]
      exact key _
    · rw [if_neg (by rw [isN_items (small m)]; decide), flat_mem (told_sep _ n).1, told_mem _ n k hk]
end ST

/-! y = {k: v for ..}, y a local -/
namespace SH
open PySem PySem.Spec PyProof.Rows L2
theorem swapD {kx vx : Expr} {gs : List Comprehension} {scope : Scope} {pos py : Pos} {y : PySem.Str} {l : Nat} {env : Env} (fk : env.scope.kind = .function) (yl : env.scope.names.lookup y = some .local) (same : (py.line == pos.line) = true)
    (other : (scope.names.any fun (n, k) => n == y && (k == .local || k == .cell)) = false) : swapsWith (.DictComp kx vx gs scope pos) (some (.Name y py)) l env = pure true := by
  have e1 : env.kindOf y = some .local := yl
  have e2 : env.blockKind = .function := by
    unfold Env.blockKind
    rw [fk]; rfl
  unfold swapsWith
  simp only [e2, e1, other, Expr.pos, same]
  rfl
section
variable {X : Cx}
theorem ps_setDc {i : Nat} {y : PySem.Str} {py : Pos} {kx vx tg iter : Expr} {ifs : List Expr} {scope : Scope} {own : List (PySem.Str × Nat)} {pos spos : Pos} {wi : TI} {g : TG} {tt : TT} {tk tv : TE} (cm : X.calm = true) (nd : X.N.Nodup) (yi : X.N[i]? = some y) (yl : X.env.scope.names.lookup y = some .local)
    (sw : swapsWith (.DictComp kx vx [⟨tg, iter, ifs, 0⟩] scope pos) (some (.Name y py)) spos.line X.env = pure true) (walk : PI X tg iter wi) (bo : BlkOk X.N X.env.scope scope own)
    (rg : ∀ s H C cl fp, PG (X.blk s H scope (compEnvC scope cl C X.env) fp) tg g)
    (rt : ∀ s H C cl fp, PTs (X.blk s H scope (compEnvC scope cl C X.env) fp) ifs tt)
    (rk : ∀ s H C cl fp, PE (X.blk s H scope (compEnvC scope cl C X.env) fp) kx tk)
    (rv : ∀ s H C cl fp, PE (X.blk s H scope (compEnvC scope cl C X.env) fp) vx tv)
    (fold : ∀ x, foldedSetIterable iter X.env x = pure x := by intro _; rfl) :
    PS X (.Assign [.Name y py] (.DictComp kx vx [⟨tg, iter, ifs, 0⟩] scope pos) spos) (tAsg (tDc wi g tt tk tv (own.map (·.2))) (gName i)) := by
  refine ⟨fun pins s σ H D I h => ?_⟩
  rw [exec_Assign_Name_used _ _ _ _ sw]
  have h' : tDc wi g tt tk tv (own.map (·.2)) σ H (fun x G => gName i x σ G D.nx) := h
  refine wpAny_bind (wpAny_standAt (wpAny_bind ?_))
  show wpAny _ X.A (do let _ ← comprehension (.DictComp kx vx [⟨tg, iter, ifs, 0⟩] scope pos) scope X.env (firstIterPos [⟨tg, iter, ifs, 0⟩] pos) newDict false (eval iter X.env) (some (assign (.Name y py) X.env))) _ _ s
  refine wpAny_bind (thn (dc_core (Qf := fun _ s' => SP X pins D .next s') cm nd I walk bo rg rt rk rv fold h' fun L C s1 m G J1 q ns f => ?_) fun _ _ z => wpAny_pure (wpAny_pure z))
  obtain ⟨u0, u1, u2, u3, u4, u5⟩ := f
  show wpAny _ _ (assign (.Name y py) X.env (.ref L)) _ _ _
  refine wpAny_assign_Name (store_ok2 (v := V.ref L) J1 nd yi (.inl yl) rfl (fun s2 J2 ⟨a, sb, ha⟩ => ⟨m, ns.sameBut sb ?_, fun h3 sb3 => ⟨_, G, J2.turned (t' := s2.toks) (fun b o hb e => (sb3.2 b hb).trans e) u0 u1 u3 u4 u5, q⟩⟩) (.inr yl))
  rcases ha with z | z
  · rw [z]; exact u1
  · exact fun e => u4 y a z e.symm
end
end SH

/-! pairs of a length and a text: less, least -/
namespace SI
open PySem L2 Evl SB
def pS (l : List Nat) : PyData := .tuple [.int (l.length : Int), .str (ST.mk l)]
def ltL : List Nat → List Nat → Bool
  | [], [] => false
  | [], _ :: _ => true
  | _ :: _, [] => false
  | a :: r, b :: s => if a < b then true else if a = b then ltL r s else false
theorem ltL_dec : ∀ a b : List Nat, decide (a < b) = ltL a b
  | [], [] => by rfl
  | [], b :: s => decide_eq_true (List.nil_lt_cons b s)
  | a :: r, [] => decide_eq_false (List.not_lt_nil _)
  | a :: r, b :: s => by
    show _ = if a < b then true else if a = b then ltL r s else false
    rw [← ltL_dec r s]
    by_cases h : a < b
    · rw [if_pos h]; exact decide_eq_true (List.cons_lt_cons_iff.mpr (.inl h))
    · rw [if_neg h]
      by_cases e : a = b
      · rw [if_pos e]
        subst e
        rw [Bool.eq_iff_iff, decide_eq_true_eq, decide_eq_true_eq, List.cons_lt_cons_iff]
        exact ⟨fun z => z.elim (fun z => absurd z (Nat.lt_irrefl _)) fun z => z.2, fun z => .inr ⟨rfl, z⟩⟩
      · rw [if_neg e]
        exact decide_eq_false fun z => (List.cons_lt_cons_iff.mp z).elim (fun z => h z) fun z => e z.1
/-- (length, text) less -/
def lt2 (a b : List Nat) : Bool := if a.length = b.length then ltL a b else decide (a.length < b.length)
def minT (a : List Nat) (l : List (List Nat)) : List Nat := l.foldl (fun m x => if lt2 x m = true then x else m) a
abbrev PT : Type := Int × Str
def pr (l : List Nat) : PT := ((l.length : Int), ST.mk l)
theorem pS_toD (l : List Nat) : pS l = PySem.W.Datum.toD (pr l) := rfl
theorem lt_pr (a b : List Nat) : PySem.W.DatumOrd.lt (pr a) (pr b) = lt2 a b := by
  show (if (a.length : Int) = (b.length : Int) then decide ((ST.mk a).cps.toList < (ST.mk b).cps.toList) else decide ((a.length : Int) < (b.length : Int))) = lt2 a b
  unfold lt2
  by_cases h : a.length = b.length
  · rw [if_pos (congrArg _ h), if_pos h]; exact ltL_dec a b
  · rw [if_neg (by omega), if_neg h]
    by_cases c : a.length < b.length
    · rw [decide_eq_true c, decide_eq_true (by omega)]
    · rw [decide_eq_false c, decide_eq_false (by omega)]
theorem minOf_pr (a : List Nat) : ∀ l : List (List Nat), PySem.W.minOf (pr a) (l.map pr) = pr (minT a l) := by
  intro l
  unfold PySem.W.minOf minT
  induction l generalizing a with
  | nil => rfl
  | cons x l ih =>
    rw [List.map_cons, List.foldl_cons, List.foldl_cons, ← ih]
    refine congrArg (fun z => List.foldl _ z (l.map pr)) ?_
    show (if PySem.W.DatumOrd.lt (pr x) (pr a) = true then pr x else pr a) = _
    rw [lt_pr]
    by_cases c : lt2 x a = true
    · rw [if_pos c, if_pos c]
    · rw [if_neg c, if_neg c]
theorem minPr (a : List Nat) (l : List (List Nat)) : PySem.W.minD (pS a) (l.map pS) = pS (minT a l) := by
  have h := PySem.W.minD_map (pr a) (l.map pr)
  rw [minOf_pr, List.map_map] at h
  exact h
theorem alikePr (l : List (List Nat)) : PySem.W.AlikeAll (l.map pS) := by
  have h := PySem.W.alikeAll_datum (l.map pr)
  rw [List.map_map] at h
  exact h
theorem depPr : ∀ l : List (List Nat), PyData.depthAll (l.map pS) ≤ 1
  | [] => Nat.zero_le _
  | p :: ps => Nat.max_le.mpr ⟨Nat.le_refl _, depPr ps⟩
section
variable {X : Cx}
def rLtP (K : PySem.W.Frag) : R2 := fun x y H Q => ∃ a b : List Nat, Dp K H x (pS a) ∧ Dp K H y (pS b) ∧ Q (.bl (lt2 a b)) H
theorem op_ltP (hu : X.A.units + 64 < cLine) : OpR X (compareOp .Lt) (rLtP X.K) := by
  intro pins s σ H x y v u Q I rx ry h
  obtain ⟨a, b, ha, hb, q⟩ := h
  obtain ⟨as, h1⟩ := Dp.reads I _ x v ha rx
  obtain ⟨bs, h2⟩ := Dp.reads I _ y u hb ry
  refine PySem.W.lt_datum (α := PT) (x := pr a) (y := pr b) ⟨as, h1⟩ ⟨bs, h2⟩ (by show _ + 1 < cLine; omega) ?_
  rw [lt_pr]
  exact ⟨.bl (lt2 a b), H, I, rfl, q⟩
end
end SI

/-! the law's own reading of texts, and all texts that there are -/
namespace ST
open PySem L2 SM
theorem pre1 (s c : Nat) (r : List Nat) : TL.pre [s] (c :: r) = decide (c = s) := by
  show ((c :: r).take 1 == [s]) = _
  show ([c] == [s]) = _
  by_cases h : c = s
  · rw [h, decide_eq_true rfl]; exact beq_self_eq_true _
  · rw [decide_eq_false h]; exact beq_eq_false_iff_ne.mpr fun z => h (List.cons.inj z).1
theorem spl_par (s : Nat) : ∀ (w acc : List Nat), TL.spl [s] 0 acc w = (match TL.par [s] acc w with | none => [acc ++ w] | some (a, b) => a :: TL.spl [s] 0 [] b)
  | [], acc => by
    rw [TL.spl_nil]
    show [acc] = [acc ++ []]
    rw [List.append_nil]
  | c :: r, acc => by
    by_cases h : c = s
    · have hp : TL.pre [s] (c :: r) = true := by rw [pre1, decide_eq_true h]
      rw [TL.spl_hit hp, TL.par_hit hp]; rfl
    · have hp : TL.pre [s] (c :: r) = false := by rw [pre1, decide_eq_false h]
      rw [TL.spl_miss hp, TL.par_miss hp, spl_par s r (acc ++ [c])]
      cases TL.par [s] (acc ++ [c]) r with
      | none =>
        show [acc ++ [c] ++ r] = [acc ++ c :: r]
        rw [List.append_assoc]; rfl
      | some p => rfl
theorem par_mem (s : Nat) : ∀ {w acc a b : List Nat}, TL.par [s] acc w = some (a, b) → s ∈ w
  | [], _, _, _, h => by cases h
  | c :: r, acc, a, b, h => by
    by_cases e : c = s
    · rw [e]; exact List.mem_cons_self
    · have hp : TL.pre [s] (c :: r) = false := by rw [pre1, decide_eq_false e]
      rw [TL.par_miss hp] at h
      exact List.mem_cons_of_mem _ (par_mem s h)
theorem val_dash {n : Nat} (hn : n ≤ 100) {b : List Nat} (h : 45 ∈ b) : val n b = none := by
  cases e : val n b with
  | none => rfl
  | some k =>
    obtain ⟨h1, h2⟩ := val_some e
    rw [← h2] at h
    exact absurd h (no_sign (by omega) (.inl (by decide)))
/-- the parts of an item -/
def pts (w : List Nat) : List (List Nat) := TL.spl [45] 0 [] w
theorem pts_ne (w : List Nat) : pts w ≠ [] := by
  unfold pts
  rw [spl_par]
  cases TL.par [45] [] w with
  | none => simp
  | some p => simp
/-- by its parts -/
theorem rdI_parts {n : Nat} (hn : n ≤ 100) (w : List Nat) :
    (∃ a x, pts w = [a] ∧ val n a = some x ∧ rdI n w = some (x, x)) ∨ (∃ a b x y, pts w = [a, b] ∧ val n a = some x ∧ val n b = some y ∧ rdI n w = if x < y then some (x, y) else none) ∨
    (rdI n w = none ∧ ((2 < (pts w).length) ∨ ((pts w).length ≤ 2 ∧ ∃ a ∈ pts w, val n a = none))) := by
  unfold pts rdI
  rw [spl_par]
  cases e : TL.par [45] [] w with
  | none =>
    simp only [List.nil_append]
    cases v : val n w with
    | none => exact .inr (.inr ⟨rfl, .inr ⟨by show 1 ≤ 2; decide, w, List.mem_cons_self, v⟩⟩)
    | some x => exact .inl ⟨w, x, rfl, v, rfl⟩
  | some p =>
    obtain ⟨a, b⟩ := p
    simp only
    rw [spl_par]
    cases e2 : TL.par [45] [] b with
    | some p2 =>
      obtain ⟨c, d⟩ := p2
      have hb := val_dash hn (par_mem 45 e2)
      refine .inr (.inr ⟨?_, .inl ?_⟩)
      · rw [hb]
        cases val n a <;> rfl
      · show 2 < (a :: c :: TL.spl [45] 0 [] d).length
        have : 0 < (TL.spl [45] 0 [] d).length := List.length_pos_iff.mpr (pts_ne d)
        rw [List.length_cons, List.length_cons]
        omega
    | none =>
      simp only [List.nil_append]
      cases va : val n a with
      | none => exact .inr (.inr ⟨by cases val n b <;> rfl, .inr ⟨by show 2 ≤ 2; decide, a, List.mem_cons_self, va⟩⟩)
      | some x =>
        cases vb : val n b with
        | none => exact .inr (.inr ⟨rfl, .inr ⟨by show 2 ≤ 2; decide, b, List.mem_cons_of_mem _ List.mem_cons_self, vb⟩⟩)
        | some y => exact .inr (.inl ⟨a, b, x, y, rfl, va, vb, rfl⟩)
/-- the signs of rising ranges, one by one -/
theorem cat_lt : ∀ {rs : List (Nat × Nat)} {n p lo : Nat} {ws : List (List Nat)}, rdG n p lo ws = .inr rs → (cat rs).Pairwise (· < ·) ∧ ∀ k ∈ cat rs, (lo : Int) ≤ k
  | [], _, _, _, _, _ => ⟨List.Pairwise.nil, fun _ h => absurd h List.not_mem_nil⟩
  | r :: rs, n, p, lo, ws, h => by
    cases ws with
    | nil => cases h
    | cons w ws =>
      unfold rdG at h
      cases e : rdI n w with
      | none => rw [e] at h; cases h
      | some r' =>
        rw [e] at h
        simp only at h
        by_cases c : r'.1 < lo
        · rw [if_pos c] at h; cases h
        · rw [if_neg c] at h
          cases e2 : rdG n (p + 1) (r'.2 + 1) ws with
          | inl q => rw [e2] at h; cases h
          | inr rs' =>
            rw [e2] at h
            cases h
            have ih := cat_lt e2
            have hr := rdI_le e
            have ec : cat (r :: rs) = ((List.range (r.2 + 1 - r.1)).map fun i => ((r.1 : Int) + (i : Nat))) ++ cat rs := rfl
            rw [ec]
            have hin : ∀ k ∈ (List.range (r.2 + 1 - r.1)).map (fun i => ((r.1 : Int) + (i : Nat))), (r.1 : Int) ≤ k ∧ k ≤ (r.2 : Int) := fun k hk => by
              obtain ⟨i, hi, rfl⟩ := List.mem_map.mp hk
              have := List.mem_range.mp hi
              omega
            refine ⟨List.pairwise_append.mpr ⟨?_, ih.1, fun a ha b hb => ?_⟩, fun k hk => ?_⟩
            · refine List.pairwise_map.mpr (List.Pairwise.imp ?_ List.pairwise_lt_range)
              intro a b hab
              omega
            · have h1 := (hin a ha).2
              have h2 := ih.2 b hb
              omega
            · rcases List.mem_append.mp hk with z | z
              · have := (hin k z).1
                omega
              · have := ih.2 k z
                omega
theorem cat_filt {rs : List (Nat × Nat)} {n p lo : Nat} {ws : List (List Nat)} (h : rdG n p lo ws = .inr rs) : cat rs = ((List.range n).filter (memB rs)).map fun k : Nat => (k : Int) := by
  refine sortedInt (cat_lt h).1 (int_lt (filt_lt _ _)) fun k => ?_
  rw [mem_cat, List.mem_map]
  constructor
  · rintro ⟨j, rfl, hm⟩
    refine ⟨j, mem_filt.mpr ⟨?_, hm⟩, rfl⟩
    exact memB_lt (fun r hr => ⟨((rdG_ok h).1 r hr).1, ((rdG_ok h).1 r hr).2.1⟩) hm
  · rintro ⟨j, hj, rfl⟩
    exact ⟨j, rfl, (mem_filt.mp hj).2⟩
/-! ### cuttings of a run -/
def wd (a e : Nat) : List Nat := if e = a then num a else num a ++ 45 :: num e
def cutL : Nat → Nat → Nat → List (List Nat)
  | 0, _, _ => []
  | f + 1, a, b => (List.range (b + 1 - a)).flatMap fun i => if a + i = b then [wd a (a + i)] else (cutL f (a + i + 1) b).map fun r => wd a (a + i) ++ 44 :: r
def minL : List (List Nat) → List Nat
  | [] => []
  | x :: l => SI.minT x l
theorem cut_all : ∀ a : Fin 64, ∀ d : Fin 5, minL (cutL 5 a.val (a.val + d.val)) = itemT (a.val, a.val + d.val) := by decide +kernel
theorem cut_min {a b : Nat} (ha : a < 64) (hb : a ≤ b) (hd : b - a < 5) : minL (cutL 5 a b) = itemT (a, b) := by
  have := cut_all ⟨a, ha⟩ ⟨b - a, hd⟩
  simp only at this
  rw [show a + (b - a) = b by omega] at this
  exact this
theorem cut_sz : ∀ f : Fin 6, ∀ a : Fin 64, ∀ d : Fin 5, (decide ((cutL f.val a.val (a.val + d.val)).length ≤ 16) && (cutL f.val a.val (a.val + d.val)).all fun w => decide (w.length ≤ 40)) = true := by decide +kernel
theorem cut_size {f a b : Nat} (hf : f ≤ 5) (ha : a < 64) (hb : a ≤ b) (hd : b - a < 5) : (cutL f a b).length ≤ 16 ∧ ∀ w ∈ cutL f a b, w.length ≤ 40 := by
  have := cut_sz ⟨f, by omega⟩ ⟨a, ha⟩ ⟨b - a, hd⟩
  simp only at this
  rw [show a + (b - a) = b by omega, Bool.and_eq_true, List.all_eq_true] at this
  exact ⟨of_decide_eq_true this.1, fun w hw => of_decide_eq_true (this.2 w hw)⟩
theorem cut_ne : ∀ a : Fin 64, ∀ d : Fin 5, (cutL 5 a.val (a.val + d.val)).isEmpty = false := by decide +kernel
theorem cut_some {a b : Nat} (ha : a < 64) (hb : a ≤ b) (hd : b - a < 5) : cutL 5 a b ≠ [] := by
  have := cut_ne ⟨a, ha⟩ ⟨b - a, hd⟩
  simp only at this
  rw [show a + (b - a) = b by omega] at this
  intro z
  rw [z] at this; cases this
/-! ### all texts of few signs -/
def sgs (n : Nat) : List Nat := ([48, 49, 50, 51].take n) ++ [45, 44, 94]
def gen (n : Nat) : Nat → List (List Nat)
  | 0 => [[]]
  | k + 1 => (gen n k).flatMap fun t => (sgs n).map fun c => t ++ [c]
def chk (n : Nat) (t : List Nat) : Bool := match rdT n t with
  | .inl _ => true
  | .inr rs => !SI.lt2 t (wrt n fun k => if isN t = true then !memB rs k else memB rs k)
theorem chk_1 : ([1, 2, 3, 4] : List Nat).all (fun n => ([0, 1, 2, 3] : List Nat).all fun k => (gen n k).all (chk n)) = true := by decide +kernel
theorem chk_2 : ([1, 2, 3, 4] : List Nat).all (fun n => (gen n 4).all (chk n)) = true := by decide +kernel
end ST

/-! an own exception's __init__ that says super().__init__(e) first -/
namespace SW
open PySem PySem.Spec PySem.W PyProof.Rows L2 NdefX
/-- what is kept of the class C, whose __init__ has the cell cc for __class__ -/
structure SupC (K : PySem.W.Frag) (C cc : Addr) : Prop where
  T : OexC K C
  cell : ∃ (cl : Value) (cld : Option Addr) (csl : Array (Option Value)), K.lookup cc = some ⟨cl, cld, .cell (some (.ref C)), csl⟩
  sup : PySem.W.ks_superIn K C C "__init__" = some (some (.builtin "ValueError.__init__"))
  ve : PySem.W.subIn K (.ref C) (.type "ValueError") = some true
  own : PySem.W.mroIn K C (.ref C) = some true
  opq : PySem.W.nsIn K cStatics "thirdparty.any" = some none
section
variable {X : Cx} {pins : List (Addr × Obj)} {σ : L2.St} {H : Hp} {s : Shared} {a C u : Addr}
/-- the bound __init__ called -/
theorem run_bound {us : List Value} {Q : Value → Shared → Prop} {A : Around} {E : Value → Shared → Prop} (T : OexC X.K C) (I : Inv X pins σ H s) (hu : s.heap.get? u = some (kxs_mw "ValueError.__init__" a)) (e : H a = some (exo a C none)) (hl : us.length ≤ sizeLine) (h : ∀ s', Inv X pins σ H s' → Q .none s') :
    wpAny (model X.prog X.w) A (call (.ref u) us) Q E s := by
  obtain ⟨nm, q, N, bs, bm, sn, sub, ab, col, dd, k0, k1, k2, k3, k5, hC, hbm⟩ := T.cls
  obtain ⟨t1, ho⟩ := exo_at I.hok e
  have hCh := I.kIn _ _ hC
  obtain ⟨hp, g, d, t, os⟩ := s
  refine wpAny_call (codeAny_of_tree ?_)
  show wpAny _ A.in1 (callAny (.ref u) ⟨us, []⟩) _ _ _
  simp only [callAny]
  refine wpAny_bind (wpAny_load hu ?_)
  simp only [kxs_mw, show (Value.type "method-wrapper" == Value.type "method" || Value.type "method-wrapper" == Value.type "builtin_function_or_method" || Value.type "method-wrapper" == Value.type "method-wrapper") = true by decide, if_true]
  refine KFB.if_so (by decide) ?_
  refine wpAny_bind (check_bound_init F.excBase_ValueError.toExcCallFacts hCh ho rfl ?_)
  refine wpAny_bind (wpAny_pure (wpAny_pure ?_))
  refine ⟨plainId_quiet F.excBase_ValueError.init.plain _, codeAny_builtin F.excBase_ValueError.initEntry ?_⟩
  refine exc_init_tree (cls := .ref C) (t0 := t1) (dv := none) (c2 := .none) (c3 := .none) (b4 := .bool false) ho hl fun h' k hx _ => ?_
  have J := I.write (t' := t) (x := a) (e := a) (o := exo a C none) (by rw [e]; exact True.intro) (.inl rfl) k ⟨_, hx⟩ (exo_ok hx)
  have eu : upd H a (exo a C none) = H := by
    funext b
    by_cases hb : b = a
    · rw [hb, upd_same, e]
    · rw [upd_ne hb]
  rw [eu] at J
  exact h _ J
end
section
variable {CX : CXT} {P : Program} {w : World} {K : PySem.W.Frag} {mg : Str → Option Value} {base : Heap}
/-- the words of an __init__ with super() -/
abbrev supF (name qual : Str) (params : Arguments) (body : List Stmt) (scope : Scope) (cc cda : Addr) : NF := ⟨name, qual, params, body, scope, [("__class__", cc)], cda⟩
theorem fn_super {k : Nat} {f C cc cda : Addr} {name qual : Str} {params : Arguments} {rest : List Stmt} {scope : Scope} {dV kV doc pm ct oc : Value} {an od : Option Addr} {osl : Array (Option Value)} {N ps : List Str} {sp : Sp} {e : Expr} {p0 p1 p2 p3 p4 : Pos} {ar : Arg}
    {ccl : Value} {cdd : Option Addr} {ccs : Array (Option Value)} {vs0 : Array Value} {file : Str} {tf : Tok} {pl : Sem Bool}
    (lk : K.lookup f = some ⟨oc, od, .func (ksFn name qual params (.Expr (.Call (.Attribute (.Call (.Name "super" p0) [] [] p1) "__init__" p2) [e] [] p3) p4 :: rest) scope dV kV doc pm an (.ref cda) ct cc), osl⟩) (hcd : PySem.W.codeIn K (.ref cda) qual = true)
    (S : NScope N ps ["__class__"] scope) (Z : SupC K C cc) (hcode : K.lookup cda = some ⟨ccl, cdd, .fields vs0, ccs⟩) (hvs : vs0[2]? = some (.str file tf)) (hfile : ((P.main.file : Str) == file) = true)
    (hsup : mg "super" = none) (htop : (P.main.scope.names.lookup ("super" : Str)).isSome = false) (hks : scope.names.lookup ("super" : Str) = some .globalImplicit)
    (hp : (params.posonlyargs ++ params.args).head? = some ar) (har : ps[0]? = some ar.arg)
    (len : ∀ vs H Q E, sp vs H Q E → vs.length = ps.length)
    (hbody : ∀ (A : Around) (outer : List Env) (s : Shared) (H : Hp) (vs : List V) (Q : VK) (E : XK), sp vs H Q E →
      ∃ (a : Addr) (te : TE) (tr : TS), vs[0]? = some (.ref a) ∧ H a = some (exo a C none) ∧
        PE (ncx CX P w K mg base N (supF name qual params (.Expr (.Call (.Attribute (.Call (.Name "super" p0) [] [] p1) "__init__" p2) [e] [] p3) p4 :: rest) scope cc cda) f A outer s H E) e te ∧
        PSs (ncx CX P w K mg base N (supF name qual params (.Expr (.Call (.Attribute (.Call (.Name "super" p0) [] [] p1) "__init__" p2) [e] [] p3) p4 :: rest) scope cc cda) f A outer s H E) rest tr ∧
        te (startF N vs [none]) H fun _ H1 => H1 a = some (exo a C none) ∧ tr { nx := fun _ H' => Q .non H', rt := Q } (startF N vs [none]) H1)
    (hst : ∀ env : Env, starEach [e] env = [(false, eval e env)] := by intro _; rfl)
    (hev : ∀ env : Env, eval (.Call (.Attribute (.Call (.Name "super" p0) [] [] p1) "__init__" p2) [e] [] p3) env = (do
      let ov ← attributeBase (.Call (.Name "super" p0) [] [] p1) "__init__" env (eval (.Call (.Name "super" p0) [] [] p1) env)
      standAt p2.atName
      let (f, first) ← holding [ov] (getMethod ov "__init__" pl)
      callWith p3 f first (backTo p3 (starEach [e] env)) []) := by intro _; rfl)
    (hsw : ∀ env : Env, swapsWith (.Call (.Attribute (.Call (.Name "super" p0) [] [] p1) "__init__" p2) [e] [] p3) none p4.line env = pure false := by intro _; rfl) :
    FnOk P w K mg base CX (k + 1) f (ksFn name qual params (.Expr (.Call (.Attribute (.Call (.Name "super" p0) [] [] p1) "__init__" p2) [e] [] p3) p4 :: rest) scope dV kV doc pm an (.ref cda) ct cc) ps sp := by
  refine ⟨len, fun A outer s H args us vs Q E hr e0 hb r hsp => ?_⟩
  obtain ⟨hp0, g0, dr0, tk0, os0⟩ := s
  have hl := len _ _ _ _ hsp
  have KX : K.In hp0 := e0.mod.kin.keeps fun b o e => (e0.bs b o e).1
  have lim : hp0.NoLimit := e0.mod.nolimit.keeps fun b o e => (e0.bs b o e).1
  obtain ⟨a, te, tr, hva, hHa, he, hrest, ht⟩ := hbody A outer ⟨hp0, g0, dr0, tk0, os0⟩ H vs Q E hsp
  obtain ⟨cl, cld, csl, hcell⟩ := Z.cell
  have C0 : CellsAt [("__class__", cc)] ["__class__"] [none] hp0 H := {
    len := rfl
    all := fun y c hy => by
      have hc : c = cc := by
        rw [List.lookup] at hy
        split at hy
        · exact (Option.some.inj hy).symm
        · cases hy
      rw [hc]
      exact ⟨(e0.bs _ _ (e0.mod.kin _ _ hcell)).2, _, _, KX _ _ hcell, rfl⟩
    inj := fun x y c hx hy => by
      rw [List.lookup] at hx hy
      split at hx
      · split at hy
        · rename_i h1 _ h2
          exact (beq_iff_eq.mp h1).trans (beq_iff_eq.mp h2).symm
        · cases hy
      · cases hx
    has := fun i y hi => by
      cases i with
      | zero =>
        have hy : y = "__class__" := (Option.some.inj hi).symm
        rw [hy]
        exact ⟨cc, rfl, fun v hv => by cases hv⟩
      | succ i => cases hi }
  refine ks_codeAny_call_defAt (fd := ksFn name qual params (.Expr (.Call (.Attribute (.Call (.Name "super" p0) [] [] p1) "__init__" p2) [e] [] p3) p4 :: rest) scope dV kV doc pm an (.ref cda) ct cc) (binds := ps.zip us) hr.depth (KX _ _ lk) rfl lim (codeRec_of KX hcd) rfl hb S.nocell (fun y hy => S.par _ (List.of_mem_zip hy).1) (fun h₁ hns kp => ?_) S.co S.gen S.kind
  have I : Inv (ncx CX P w K mg base N (supF name qual params (.Expr (.Call (.Attribute (.Call (.Name "super" p0) [] [] p1) "__init__" p2) [e] [] p3) p4 :: rest) scope cc cda) f A outer ⟨hp0, g0, dr0, tk0, os0⟩ H E) [] (startF N vs [none]) H ⟨h₁, g0, dr0, tk0 + (ps.zip us).length, os0⟩ := inv_startN (s := ⟨hp0, g0, dr0, tk0, os0⟩) S hr.hd e0 hl r C0 hns kp
  obtain ⟨ua, hua, ra⟩ := r.get hva
  obtain rfl : ua = Value.ref a := ra
  have KX1 : K.In h₁ := KX.keeps kp
  obtain ⟨t1, hoa⟩ := exo_at I.hok hHa
  obtain ⟨nm, q, N', bs, bm, sn, sub, ab, col, dd, k0, k1, k2, k3, k5, hC, hbm⟩ := Z.T.cls
  have hcl : PySem.W.clsIn K C = some { name := nm, bases := bs, mro := .ref C :: bm, ns := N', qualname := q, hasDict := true, slotNames := sn, subclasses := sub, abstract := ab, collection := col, hasDel := false } := by unfold PySem.W.clsIn; rw [hC] <;> rfl
  have ndP : ps.Nodup := by
    have q := S.nd.sublist (List.take_sublist (ps.length + 1) N)
    rw [show N.take (ps.length + 1) = ps ++ (["__class__"] : List Str) from S.pre] at q
    exact (List.nodup_append.mp q).1
  have hint : ∀ {env : Env}, env.scope.kind = .function → interactive env = false := fun {env} h => by
    unfold interactive
    rw [h]; rfl
  refine ks_wpAt_execs_cons (ks_wpAt_Expr_any (ks_wpAt_MethodCall (pl := pl) ?_ (hev _)) (hint S.kind) (hsw _))
  refine ks_wpAt_super_base (fd := ksFn name qual params (.Expr (.Call (.Attribute (.Call (.Name "super" p0) [] [] p1) "__init__" p2) [e] [] p3) p4 :: rest) scope dV kV doc pm an (.ref cda) ct cc) hks (S.frk _ (List.mem_singleton.mpr rfl)) (by decide) rfl (KX1 _ _ lk) rfl hp rfl (KX1 _ _ hcode) rfl hvs hfile htop ?_
  obtain ⟨mb, hb1, hb2⟩ := I.mod.blt
  refine ks_loadName_global S.kind hks (Calls.loadGlobal_builtin (I.mod.glob.keeps I.bk) hsup (hb1.keeps I.bk) ((hb2 "super" (by decide)).trans PyProof.Rows.Boot.«super») ⟨rfl, ?_⟩)
  refine wpAny_loadName_free S.kind (S.frk _ (List.mem_singleton.mpr rfl)) rfl ⟨_, KX1 _ _ hcell, rfl⟩ ?_
  refine wpAny_loadName_local S.kind (S.par _ (List.mem_of_getElem? har)) hns (zip_look ndP har hua) ?_
  refine ks_wpAny_isType_cls (KX1 _ _ hC) rfl ⟨rfl, ?_⟩
  refine ks_wpAny_call_super (KX1 _ _ hC) rfl hoa rfl (fun c z => nomatch z) (looks_mroIn KX1 Z.own) (fun h' e' k' => ?_)
  have KX2 : K.In h' := KX1.keeps k'
  have I2 := I.kept (h' := h') (t' := tk0 + (ps.zip us).length) k'
  obtain ⟨t2, hoa2⟩ := exo_at I2.hok hHa
  have J : InstAt h' a _ C none := ⟨hoa2, rfl, rfl, trivial⟩
  have hIs : Looks (model P w) h' (isInstance (.ref a) (.type "ValueError")) true := J.type.andThen (looks_subIn KX2 Z.ve)
  have hm : alongIn K "__init__" (((Value.ref C :: bm).dropWhile (· != .ref C)).drop 1) = some (some (.builtin "ValueError.__init__")) := by
    have := Z.sup
    unfold ks_superIn at this
    rw [hcl] at this
    exact this
  refine kxs_getMethod kxs_ValueError e' (looks_opaque KX2 Z.opq) (l₀ := .ref C :: bm) (fun A Q E s k q => wpAny_bind ((looks_clsIn KX2 hcl) A _ E s k (wpAny_pure q))) rfl KX2 hm hIs (ks_ne KX2 J hcl) (by decide) ?_
  have I3 := ClX.pin_new (o := kxs_mw "ValueError.__init__" a) (h' := h'.push (kxs_mw "ValueError.__init__" a)) (a := h'.objs.size) (t' := tk0 + (ps.zip us).length + 1) I2 (fun _ _ z => Heap.get?_push_of_some _ z) (Nat.le_refl _) (Heap.get?_push_size h' rfl) (fun v z => nomatch z)
  rw [hst]
  refine kxs_callWith (i := "ValueError.__init__") (x := a) rfl ?_
  refine Calls.evalArgs_plain (Calls.spliced_cons (thn (he.run [(h'.objs.size, kxs_mw "ValueError.__init__" a)] _ _ H _ I3 ht) fun v s1 ⟨x, H1, I4, r4, hH1, htr⟩ => Calls.spliced_nil ⟨ClX.pin_at I4, ?_⟩))
  refine run_bound Z.T I4 (ClX.pin_at I4) hH1 (by show 1 ≤ sizeLine; rw [sizeLine_eq]; decide) fun s' J' => ?_
  refine wpAt_of_wpAny (wpAny_mono (hrest.run [] s' _ H1 _ (ClX.unpin J') htr) (fun fl s'' hs => ?_) fun e s'' hs => hs)
  cases fl with
  | ret u =>
    obtain ⟨v, σ', H', J, rv, q⟩ := hs
    exact ⟨v, H', J.os, J.bare, J.base, J.hok, rv, q⟩
  | next =>
    obtain ⟨σ', H', J, q⟩ := hs
    exact ⟨V.non, H', J.os, J.bare, J.base, J.hok, rfl, q⟩
  | brk =>
    obtain ⟨_, _, _, q⟩ := hs
    exact False.elim q
  | cont =>
    obtain ⟨_, _, _, q⟩ := hs
    exact False.elim q
end
end SW

/-! isinstance(e, C) of a caught exception that has its dict -/
namespace SW
open PySem PySem.Spec PySem.W PyProof.Rows L2 NdefX
/-- isinstance(e, c), e the exception that the suite holds, its dict at d -/
def rIsD (K : PySem.W.Frag) (cls : Value) (d : Option Addr) (a : Addr) : List V → Hp → VK → Prop := fun xs H Q => ∃ (D : Addr) (dd : Addr) (fs : List (Str × V)) (c : V) (cv : Value) (b : Bool), cls = .ref D ∧ ExcC K D ∧ d = some dd ∧ H dd = some (.xd fs) ∧ xs = [.ref a, c] ∧ (∀ u, RelV c u → u = cv) ∧ PySem.W.kitOne K (.ref D) cv = some b ∧ Q (.bl b) H
theorem call_isD {X : Cx} {a : Addr} {oe : Obj} {cls : Value} {d : Option Addr} {pn : List (Addr × Obj)} (hz : Zc cls d oe) (hf : ∃ vs, oe.data = .fields vs) : CallR (X.suite a ((a, oe) :: pn)) (.builtin "isinstance") (rIsD X.K cls d a) := by
  intro pins s σ H xs us Q I r h
  obtain ⟨D, dd, fs, c, cv, b, rfl, C, rfl, hdd, rfl, hcv, e, q⟩ := h
  cases r with
  | cons rx rr =>
    cases rr with
    | cons rt rr =>
      cases rr
      cases rx
      have ec := hcv _ rt
      subst ec
      obtain ⟨hget, _⟩ := I.pin (a, oe) (List.mem_append.mpr (.inl List.mem_cons_self))
      obtain ⟨vs, hv⟩ := hf
      have hx : ObjOk X.prog X.w H s.heap dd (.xd fs) := I.hok dd _ hdd
      obtain ⟨mA, hns, hr⟩ := hx
      obtain ⟨od, ho, hl⟩ := lookIn_ns hns
      have J : PySem.W.InstAt s.heap a oe D (some od) := ⟨hget, hz.1, by unfold PySem.W.notCls; rw [hv] <;> rfl, by rw [hz.2]; exact ho⟩
      obtain ⟨cd, hc, _⟩ := any_some C.hd
      exact PySem.W.kia_one (PySem.W.kitx_exc (od := some od) (ox := oe) (by rw [hc]; rfl) C.hg C.hk C.hs C.ha C.hn C.ht C.hm) I.kIn J e (fun z => nomatch z) fun tk => ⟨.bl b, H, I.kept (t' := tk) fun _ _ z => z, rfl, q⟩
end SW

/-! within an except suite: a list walked, a comprehension; exceptions whose context is told -/
namespace SY
open PySem PySem.Spec PyProof.Rows L2 L2H HotX
section
variable {prog : Program} {w : World} {A : Around} {E : Value → Shared → Prop} {s : Shared}
/-- the list's iterator has come to its end -/
theorem nextL_hot {it l x1 : Addr} {i : Nat} {items : Array Value} {Q : Option Value → Shared → Prop} (hot : HotAt A x1 s.heap) (hit : s.heap.IsListIter it l i) (hl : s.heap.IsList l items) (hx : items[i]? = none)
    (hQ : ∀ h', Heap.ExtBut it s.heap h' → Q none { s with heap := h' }) : wpAny (model prog w) A (pyNext (.ref it)) Q E s := by
  obtain ⟨o, ho, hc, hd⟩ := id hit
  obtain ⟨ol, hol, _, nl, hdl⟩ := hl
  obtain ⟨hh, o1, vs1, e1, d1, c1⟩ := hot
  have nx : x1 ≠ it := fun z => by
    rw [z, ho] at e1
    cases e1
    rw [hd] at d1
    cases d1
    simp at c1
  have body : ∀ {R : Value → Shared → Prop} {E' : Value → Shared → Prop}, (∀ h' e, Heap.ExtBut it s.heap h' → (∃ o, h'.get? e = some o ∧ o.cls = .type "StopIteration") → E' (.ref e) { s with heap := h' }) →
      wpAny (model prog w) A.in1 (Builtin.«list_iterator.__next__» ⟨[.ref it], []⟩) (fun _ _ => False) E' s := fun {R E'} hE => by
    show wpAny _ _ (field (.ref it) 0 >>= _) _ _ s
    refine wpAny_bind (wpAny_field ho hd (x := .ref l) rfl ?_)
    show wpAny _ _ (if (Value.ref l == Value.none) = true then _ else _) _ _ s
    rw [if_neg (c := (Value.ref l == Value.none) = true) (fun z => Bool.false_ne_true z)]
    refine wpAny_bind (m := field (.ref it) 1) (wpAny_field ho hd (x := .int i 0) rfl ?_)
    refine wpAny_bind (m := seqItems? (.ref l)) (wpAny_seqItems hol hdl ?_)
    simp only [Int.toNat_natCast, hx]
    refine wpAny_bind (wpAny_rule (wpAny_bind (wpAny_setField ho hd (by simp) (wpAny_bind (m := newExc (.type "StopIteration") []) ?_))))
    simp only [newExc, newTuple]
    refine wpAny_bind (wpAny_newObj_type (wpAny_bind (m := firstArgMember _ _) (wpAny_of_eq (a := Value.none) (by first | rfl | (simp only [firstArgMember]; rfl)) (wpAny_newObj_type ?_ (by size_fits)))) (by size_fits))
    have e2 := (Heap.get?_update_other s.heap (Obj.mapFields (·.setIfInBounds 0 Value.none)) (Ne.symm nx)).trans e1
    refine raiseNew_hot (x1 := x1) ⟨hh, o1, vs1, Heap.get?_push_of_some _ (Heap.get?_push_of_some _ e2), d1, c1⟩ (Nat.ne_of_lt (Heap.lt_size (Heap.get?_push_of_some _ e2))) (Heap.get?_push_size _ rfl) rfl (by first | (simp; done) | (simp; omega) | (simp only [Array.size_append]; simp; omega)) ?_
    refine hE _ _ (fun b u hb e => ?_) ⟨_, Heap.get?_update_self _ (Heap.get?_push_size _ rfl) rfl, rfl⟩
    have e3 := (Heap.get?_update_other s.heap (Obj.mapFields (·.setIfInBounds 0 Value.none)) (Ne.symm hb)).trans e
    rw [Heap.get?_update_other _ _ (Nat.ne_of_gt (Heap.lt_size (Heap.get?_push_of_some _ e3)))]
    exact Heap.get?_push_of_some _ (Heap.get?_push_of_some _ e3)
  unfold pyNext
  refine wpAny_bind (wpAny_attempt (wpAny_callSpecial?_slot (name := Str.ofString "__next__") hit.typeIs slot_listiter_next
    (wpAny_call_entry slot_listiter_next hit.typeIs entry_listiter_next (wpAny_mono (body (R := fun _ _ => False) (E' := _) fun h' e hk hc => ?_) (fun _ _ z => z.elim) fun _ _ z => z) (args_listiter_next _))))
  obtain ⟨oe, ge, ce⟩ := hc
  exact wpAny_bind (wpAny_isInstance (T := "StopIteration") (b := true) ⟨oe, ge, ce⟩ isSubtype_stop (wpAny_pure (hQ h' hk)))
end
/-! ### a list walked there -/
theorem turnL {P : Program} {w : World} {K : PySem.W.Frag} {tg : Expr} (a it : Addr) : TurnH P w K tg (Itl K a) [it] it (fun i h => h.IsListIter it a i) where
  mem := List.mem_cons_self
  obj := fun i h st b hb => by
    cases List.mem_singleton.mp hb
    obtain ⟨o, e, _, d⟩ := st
    exact ⟨o, e, fun v z => by rw [d] at z; cases z⟩
  keep := fun i h h' st k => st.at fun o e => k it List.mem_cons_self o e
  item := by
    intro X hP hw hK _ i pins s σ H E I hf st hg
    subst hP hw hK
    obtain ⟨xs, x, hq, hx⟩ := hg
    obtain ⟨its, rv, p, _⟩ := I.list hq
    obtain ⟨u, hu, ru⟩ := rv.get hx
    obtain ⟨f0, f1, _, f3, f4, f5⟩ := hf it List.mem_cons_self
    refine wpAny_pyNext_list_item st p.isList (x := u) (by simpa using hu) fun h' st' sb => ⟨u, rfl, ?_⟩
    have J : Inv X pins σ H { s with heap := h' } := I.turned (t' := s.toks) (fun b o hb e => (sb.2 b hb).trans e) f0 f1 f3 f4 f5
    obtain ⟨o, e, c, d⟩ := id st'
    exact go_of (s := { s with heap := h' }) e c d (by decide) ⟨x, H, J, ru, ⟨rfl, fun ys hy => by rw [I.list_inj hy hq]; exact hx⟩, st', fun b hb => (hf b hb).1⟩
  done := by
    intro X hP hw hK hc i pins s σ H E I hf st hg
    subst hP hw hK
    obtain ⟨xs, hq, hx⟩ := hg
    obtain ⟨its, rv, p, _⟩ := I.list hq
    obtain ⟨f0, f1, _, f3, f4, f5⟩ := hf it List.mem_cons_self
    obtain ⟨x1, hot⟩ := hc.at I
    have hl := rv.length
    exact nextL_hot hot st p.isList (by simp; omega) fun h' eb => ⟨rfl, I.turned (t' := s.toks) (fun b o hb e => eb b o hb e) f0 f1 f3 f4 f5⟩
  self := fun _ _ _ _ _ st h => wpAny_pyIter_listiter st h
section
variable {X : Cx} {tg : Expr}
theorem pi_listH {l : Expr} {tl : TE} (hl : PE X l tl) : PIH X tg l (iList X.K tl) := by
  refine ⟨fun pins s σ H R I h => thn (hl.run pins s σ H _ I h) fun v s1 ⟨x, H1, I1, r1, a, e, ⟨xs, hq⟩, q⟩ => ?_⟩
  subst e
  cases r1
  obtain ⟨its, rv, p, _⟩ := I1.list hq
  refine wpAny_pyIter_list p.isList ⟨s1.heap.objs.size, [s1.heap.objs.size], _, _, H1, rfl, I1.kept (t' := s1.toks) fun b o e => Heap.get?_push_of_some _ e, turnL a _, ⟨_, Heap.get?_push_size _ rfl, rfl, rfl⟩, fun b hb => ?_, q⟩
  cases List.mem_singleton.mp hb
  exact I1.fpOk (Nat.le_refl _) (I1.hok.fresh (Nat.le_refl _))
/-- a comprehension's block there: the handled exception is told -/
abbrev blkP (X : Cx) (p : Addr × Obj) (s : Shared) (H : Hp) (scope : Scope) (ce : Env) (fp : List Addr) : Cx := { X.blk s H scope ce fp with pn := [p] }
/-- the exception's object is no frame, no cell, not tracked -/
theorem toP {p : Addr × Obj} {s : Shared} {H : Hp} {scope : Scope} {ce : Env} {fp : List Addr} {σ' : L2.St} {H' : Hp} {s' : Shared} (J : Inv (X.blk s H scope ce fp) [] σ' H' s') (h1 : s'.heap.get? p.1 = some p.2) (h2 : H' p.1 = none) (h3 : p.1 ≠ ce.locals) (h4 : p.1 ∉ frs X.stack) (h5 : ∀ v, p.2.data ≠ .cell v) : Inv (blkP X p s H scope ce fp) [] σ' H' s' :=
  ⟨⟨J.ok.mod, J.ok.kind, J.ok.glob, J.ok.blt, J.ok.above, J.ok.inj, J.ok.has, J.ok.cab, J.ok.hd, J.ok.frames, J.ok.stk, J.ok.exf, J.ok.bs, J.ok.bsz, J.ok.noex, J.ok.exfs, J.ok.funs, J.ok.frf⟩, J.os, J.bare, J.base, J.loc, J.cell, J.free, J.freeC, fun q hq => by
    have hq' : q ∈ [p] := by simpa using hq
    rw [List.mem_singleton.mp hq']
    exact ⟨h1, h2, h3, h4, h5⟩, J.hok, J.len⟩
/-- [elt for tg in iter if ..] in an except suite -/
theorem pe_lcH {elt iter : Expr} {ifs : List Expr} {scope : Scope} {own : List (Str × Nat)} {pos : Pos} {wi : TI} {g : TG} {tt : TT} {te : TE} {p : Addr × Obj} (hot : Hot1 X.A p) (hp : p ∈ X.pn) (hN : X.N.Nodup) (hi : PIH X tg iter wi) (ok : BlkOk X.N X.env.scope scope own)
    (hg : ∀ (s : Shared) (H : Hp) (C : Addr) (cl : List (Str × Addr)) (fp : List Addr), PG (blkP X p s H scope (compEnvC scope cl C X.env) fp) tg g) (ht : ∀ (s : Shared) (H : Hp) (C : Addr) (cl : List (Str × Addr)) (fp : List Addr), PTs (blkP X p s H scope (compEnvC scope cl C X.env) fp) ifs tt)
    (he : ∀ (s : Shared) (H : Hp) (C : Addr) (cl : List (Str × Addr)) (fp : List Addr), PE (blkP X p s H scope (compEnvC scope cl C X.env) fp) elt te) (hs : ∀ x, foldedSetIterable iter X.env x = pure x := by intro _; rfl) :
    PE X (.ListComp elt [⟨tg, iter, ifs, 0⟩] scope pos) (tLc wi g tt te (own.map (·.2))) := by
  refine ⟨fun pins s σ H Q I h => ?_⟩
  rw [eval_ListComp]
  have clo : ∀ y ∈ scope.names, y.2 = .free → ∃ c, X.env.cells.lookup y.1 = some c := fun y hy e => (ok.free y hy e).elim (fun k => I.ok.has _ (.inl k)) fun k => I.ok.has _ (.inr k)
  refine wpAny_comprehension_free (use := none) rfl hs (closure_ok clo) ok.kind (fun y hy e => by rw [ok.uniq y hy, e]) (thn (hi.run pins s σ H _ I h) fun _ s1 h1 => thn h1 fun itv s2 ⟨it, fp, tn, J, H2, ei, I2, T, st2, f2, q⟩ => ?_)
  subst ei
  refine wpAny_newObj_type (newEnv_comp ?_) (by show 0 ≤ sizeLine; decide)
  have nD : H2 s2.heap.objs.size = none := I2.hok.fresh (Nat.le_refl _)
  obtain ⟨W, ⟨m0, w0⟩, turn⟩ := q s2.heap.objs.size nD
  have P2 := I2.pin p (List.mem_append_left _ hp)
  have I3 : Inv X pins σ (upd H2 s2.heap.objs.size (.lst [])) { s2 with heap := s2.heap.push { cls := .type "list", data := .seq ([] : List Value).toArray } } :=
    I2.laid (t' := s2.toks) (fun b o e => Heap.get?_push_of_some _ e) (Nat.le_refl _) ⟨Nat.zero_le _, [], 0, .nil, Heap.get?_push_size _ rfl⟩
  have P3 := I3.pin p (List.mem_append_left _ hp)
  have lt2 : ∀ b ∈ fp, b < s2.heap.objs.size := fun b hb => by
    obtain ⟨o, e, _⟩ := T.obj _ _ st2 b hb
    exact Heap.lt_size e
  have f3 : ∀ b ∈ fp, FpOk X pins (upd H2 s2.heap.objs.size (.lst [])) b ∧ b < (s2.heap.push { cls := .type "list", data := .seq ([] : List Value).toArray }).objs.size := fun b hb =>
    ⟨⟨by rw [upd_ne (Nat.ne_of_lt (lt2 b hb))]; exact (f2 b hb).1, (f2 b hb).2⟩, by rw [Heap.size_push]; exact Nat.lt_succ_of_lt (lt2 b hb)⟩
  have st3 : tn 0 (s2.heap.push { cls := .type "list", data := .seq ([] : List Value).toArray }) := T.keep _ _ _ st2 fun b _ o e => Heap.get?_push_of_some _ e
  have I4 := block_start I3 ok hN f3
  generalize eD : s2.heap.objs.size = D at *
  generalize e3 : ({ s2 with heap := s2.heap.push { cls := .type "list", data := .seq ([] : List Value).toArray } } : Shared) = s3 at *
  have eh : s2.heap.push { cls := .type "list", data := .seq ([] : List Value).toArray } = s3.heap := by rw [← e3]
  rw [eh] at f3 st3
  generalize eH : upd H2 D (.lst []) = H3 at *
  have pg := hg s3 H3 s3.heap.objs.size (cellsFrom (s3.heap.objs.size + 1) scope.names (cloFrom X.env.cells scope.names [])) fp
  have pt := ht s3 H3 s3.heap.objs.size (cellsFrom (s3.heap.objs.size + 1) scope.names (cloFrom X.env.cells scope.names [])) fp
  have pe := he s3 H3 s3.heap.objs.size (cellsFrom (s3.heap.objs.size + 1) scope.names (cloFrom X.env.cells scope.names [])) fp
  show codeAny _ _ (.compStart _ 0 (.ref it) (.ref D) (compEnvC scope (cellsFrom (s3.heap.objs.size + 1) scope.names (cloFrom X.env.cells scope.names [])) s3.heap.objs.size X.env)) (compPost _ _ _ _ _ _ s3.heap.objs.size) { s3 with heap := pushCells (s3.heap.push { cls := .type "dict", data := .dict #[] }) scope.names }
  generalize ec : compEnvC scope (cellsFrom (s3.heap.objs.size + 1) scope.names (cloFrom X.env.cells scope.names [])) s3.heap.objs.size X.env = ce at I4 pg pt pe ⊢
  have cL : ce.locals = s3.heap.objs.size := by rw [← ec]; rfl
  have kp : ∀ b o, s3.heap.get? b = some o → (pushCells (s3.heap.push { cls := .type "dict", data := .dict #[] }) scope.names).get? b = some o := fun b o e => pushCells_keeps _ _ _ _ (Heap.get?_push_of_some _ e)
  have st4 := T.keep _ _ _ st3 fun b _ o e => kp b o e
  have n4 : p.1 ∉ frs X.stack := fun z => (List.mem_cons.mp (I3.stkSub _ z)).elim P3.2.2.1 P3.2.2.2.1
  have nL : p.1 ≠ ce.locals := by rw [cL]; exact Nat.ne_of_lt (Heap.lt_size P3.1)
  have I5 := toP I4 (kp _ _ P3.1) P3.2.1 nL n4 P3.2.2.2.2
  have nfp : ∀ b ∈ fp, H3 b = none := fun b hb => (f3 b hb).1.1
  have pfp : ∀ b ∈ fp, p.1 ≠ b := fun b hb => (f2 b hb).2.2.2.2.2 p (List.mem_append_left _ hp)
  generalize e4 : ({ s3 with heap := pushCells (s3.heap.push { cls := .type "dict", data := .dict #[] }) scope.names } : Shared) = s4 at *
  have st4 : tn 0 s4.heap := by rw [← e4]; exact st4
  have stat : ∀ {σ' : L2.St} {H' : Hp} {s' : Shared}, Inv (blkP X p s3 H3 scope ce fp) [] σ' H' s' → (∀ b ∈ fp, H' b = none) → ∀ b ∈ fp, FpOk (blkP X p s3 H3 scope ce fp) [] H' b := fun {σ' H' s'} I' hn b hb =>
    ⟨hn b hb, (I'.ok.exf b hb).1, I'.ok.exfs b hb, .inl hb, fun x c e => (I'.ok.exf b hb).2 x c e, fun q hq => by
      have hq' : q ∈ [p] := by simpa using hq
      rw [List.mem_singleton.mp hq']
      exact pfp b hb⟩
  have HB : HotC (blkP X p s3 H3 scope ce fp) := ⟨p, hot, List.mem_cons_self⟩
  have loop : codeAny (model X.prog X.w) X.A (.compLoop (.ListComp elt [⟨tg, iter, ifs, 0⟩] scope pos) 0 (.ref it) (.ref D) ce) (compPost (model X.prog X.w) X.A X.xe none (EP X pins σ Q) (.ref D) s3.heap.objs.size) s4 := by
    refine compLoop_any (fun n s' => ∃ i H', Inv (blkP X p s3 H3 scope ce fp) [] (wipe σ (own.map (·.2))) H' s' ∧ tn i s'.heap ∧ (∀ b ∈ fp, H' b = none) ∧ W i n H') (fun n s5 ⟨i, H5, I5, st5, n5, w5⟩ => ?_) m0 ⟨0, H3, I5, st4, nfp, w0⟩
    rcases turn i n H5 w5 with ⟨stop, qq⟩ | ⟨go, Nx, hNx, step⟩
    · refine thnF (T.done (blkP X p s3 H3 scope ce fp) rfl rfl rfl HB i [] s5 _ H5 (fun _ _ => False) I5 (stat I5 n5) st5 stop) fun r s6 ⟨hr, I6⟩ => ?_
      subst hr
      have I7 : Inv X pins σ H5 s6 := I3.call' (ch := fp) I6.os I6.base I6.hok I6.bare fun b hb => ⟨(f3 b hb).1.2.2.2.1, (f3 b hb).1.2.1, (f3 b hb).1.2.2.2.2.1, (f3 b hb).1.2.2.2.2.2⟩
      have nC : H5 s3.heap.objs.size = none := by rw [← cL]; exact I6.free
      obtain ⟨m, hn, _⟩ := I6.loc
      have hn : s6.heap.Ns s3.heap.objs.size m := by rw [← cL]; exact hn
      obtain ⟨g0, g1, g2, g3, g4, g5⟩ : FpOk X pins H5 s3.heap.objs.size := I3.fpOk (Nat.le_refl _) nC
      exact ⟨m, hn, fun h' sb => ⟨.ref D, H5, I7.turned (t' := s6.toks) (fun b o hb e => (sb.2 b hb).trans e) g0 g1 g3 g4 g5, rfl, qq⟩⟩
    · refine thnF (T.item (blkP X p s3 H3 scope ce fp) rfl rfl rfl HB i [] s5 _ H5 (fun _ _ => False) I5 (stat I5 n5) st5 go) fun r s6 ⟨u, hr, h6⟩ => ?_
      subst hr
      refine thnF h6 fun _ s7 ⟨x, H7, I7, r7, y7, st7, n7⟩ => ?_
      refine thnF (pg.run _ s7 _ H7 x u _ (I7.pinned (stat I7 n7) (T.obj _ _ st7)) r7 (step x H7 y7)) fun _ s8 ⟨σ8, H8, I8, hw8, q8⟩ => ?_
      refine thnF (pt.run _ s8 σ8 H8 _ I8 q8) fun b s9 ⟨H9, I9, q9⟩ => ?_
      have fin : ∀ {s' : Shared} {H' : Hp}, Inv (blkP X p s3 H3 scope ce fp) ([] ++ pinsAt fp s7.heap) σ8 H' s' → Nx H' → ∃ m, m < n ∧ ∃ i H', Inv (blkP X p s3 H3 scope ce fp) [] (wipe σ (own.map (·.2))) H' s' ∧ tn i s'.heap ∧ (∀ b ∈ fp, H' b = none) ∧ W i m H' := fun {s' H'} I' nx => by
        obtain ⟨m', hm, w'⟩ := hNx H' nx
        have pin' : ∀ b ∈ fp, ∀ o, s7.heap.get? b = some o → s'.heap.get? b = some o ∧ H' b = none := fun b hb o e => by
          have z := I'.pin (b, o) (List.mem_append_right _ (List.mem_append_right _ (mem_pinsAt hb e)))
          exact ⟨z.1, z.2.1⟩
        refine ⟨m', hm, i + 1, H', (I'.unpinned (pins := [])).weak (by rw [← hw8, wipe_length]) (fun j v e => ?_), T.keep _ _ _ st7 fun b hb o e => (pin' b hb o e).1, fun b hb => ?_, w'⟩
        · rw [← hw8] at e
          exact (wipe_some e).1
        · obtain ⟨o, e, _⟩ := T.obj _ _ st7 b hb
          exact (pin' b hb o e).2
      cases b with
      | false =>
        rw [if_neg Bool.false_ne_true] at q9 ⊢
        exact fin I9 q9
      | true =>
        rw [if_pos rfl] at q9 ⊢
        exact thnF (pe.run _ s9 σ8 H9 _ I9 q9) fun z s10 ⟨yv, H10, I10, r10, acc, hD10, hz10, nx⟩ => app_ok (X := blkP X p s3 H3 scope ce fp) I10 hD10 hz10 r10 fun s11 I11 => fin I11 nx
  exact codeAny_compStart_list loop (T.self X.A 0 _ _ _ st4 loop)
end
end SY

/-! things made by a lambda, and what it captured, as things of the heap -/
namespace SY
open PySem PySem.Spec PyProof.Rows L2 L2H LamX NdefX Evl
/-! ### a new exception by its own __init__, its context told -/
theorem pmkN_oex {X : Cx} {e : Expr} {es : List Expr} {ta : TA} {p pos : Pos} {CX : CXT} {x : Str} {C fI : Addr} {k : Nat} {fd : FuncData} {ps : List Str} {sp : Sp} (T : OexC X.K C) (iC : PySem.W.findIn X.K (.ref C) "__init__" = some (some (.ref fI))) (tI : PySem.W.typeIn X.K (.ref fI) = some (.type "function"))
    (F1 : FnOk X.prog X.w X.K X.mg X.base CX k fI fd ps sp) (hr : Room (k + 1) X.A) (hb : Binds X.K fd ps []) (hx : Passes CX X (fun _ _ _ => False)) (hg : Gl X x) (hm : X.mg x = some (.ref C)) (ha : PA X (e :: es) ta)
    (hdb : (x == ("__debug__" : Str)) = false := by decide) (he : starEach (e :: es) X.env = (false, eval e X.env) :: starEach es X.env := by rfl) (hpl : (backTo pos (starEach es X.env)).any (·.1) = false := by rfl) :
    L2N.PMk X (.Call (.Name x p) (e :: es) [] pos) (tMkO C sp [] ta) := by
  intro pins s σ H Q I h
  obtain ⟨nm, qn, ns, bs, bm, sn, sub, ab, col, dd, k0, k1, k2, k3, k5, hC, hbm⟩ := T.cls
  refine wpAny_Call_Name_kw (ld_glob I hg hm (PySem.W.callWith_K (h₀ := X.base) I.ok.mod.kin T.kC (thn (ha.run pos pins s σ H _ I h) fun us s1 ⟨vs, H1, I1, r1, hz, q1⟩ => ⟨I1.kIn, ?_⟩) he hpl) hdb)
  show wpAny _ _ (call (.ref C) us) _ _ _
  obtain ⟨hp, g, dr, tk, os⟩ := s1
  have hq := q1 (hp.objs.size + 1) (I1.hok.fresh (Nat.le_succ _))
  rw [List.append_nil] at hq
  have I2 := I1.laid (t' := tk) (a := hp.objs.size + 1) (o := exo (hp.objs.size + 1) C none) (h' := (hp.push (PySem.W.kdv_tup us)).push (PySem.HandSPX.excO C hp.objs.size)) (fun b o e => Heap.get?_push_of_some _ (Heap.get?_push_of_some _ e)) (Nat.le_succ _) (exo_ok (by heap_get))
  have r2 : Vals (V.ref (hp.objs.size + 1) :: vs) (Value.ref (hp.objs.size + 1) :: us) := .cons rfl r1
  have hl : (Value.ref (hp.objs.size + 1) :: us ++ []).length = ps.length := by
    rw [List.append_nil, ← r2.length, F1.len _ _ _ _ hq]
  have b2 := hb _ (Value.ref (hp.objs.size + 1) :: us) I2.kIn hl
  rw [List.append_nil] at b2
  refine wpAny_call (PySem.HandSPX.call_own F.excBase_ValueError (fun Y => PySem.HandSPX.refsVE_contains Y bm hbm) (I1.kIn _ _ hC) (PySem.W.looks_findIn I1.kIn iC) (fun self => PySem.W.bind_fn I1.kIn self tI) (by rw [← Paired.length r1, sizeLine_eq]; omega)
    (codeAny_mono (F1.run _ X.stack _ _ ⟨Value.ref (hp.objs.size + 1) :: us, []⟩ _ _ _ (fun _ _ _ => False) (hr.make C us []) (I2.env0.make C us []) b2 r2 hq) fun r s' hq' => ?_))
  cases r with
  | error er => exact hx pins σ _ _ er s' I2 hq'
  | ok fl =>
    cases fl with
    | ret u =>
      obtain ⟨v, H2, os2, bare2, un2, hok2, rv, ev, d, fs, ea, ed, hd1, q2⟩ := hq'
      subst ev
      obtain ⟨h2, g2, d2, t2, os'⟩ := s'
      obtain ⟨t0, G, J, kG, ge, hoe, na⟩ := mk_end0 (d2 := d2) (t2 := t2) I1 (Nat.le_succ _) (fun b o e => Heap.get?_push_of_some _ (Heap.get?_push_of_some _ e)) un2 hok2 os2 bare2 ea ed hd1
      exact ⟨rv, hp.objs.size + 1, _, _, ⟨G, g2, d2, t2, os'⟩, _, .ref C, some d, rfl, J, kG, ge, hoe, ⟨rfl, rfl, fun vs hv => by cases hv; rfl⟩, rfl, rfl, na, rfl, bare2, raises_own T.exC T.tyC, q2⟩
    | next => exact False.elim hq'
    | brk => exact False.elim hq'
    | cont => exact False.elim hq'
/-- a def that may raise, the contexts told -/
theorem okN {P : Program} {w : World} {K : PySem.W.Frag} {mg : Str → Option Value} {base : Heap} {x qual : Str} {st : Stmt} {f : Addr} {fd : FuncData} {N ps : List Str} {k : Nat} {sp : Sp} (F : Fun K x qual st f fd) (S : FnScope N ps (defScope st)) (len : ∀ vs H Q E, sp vs H Q E → vs.length = ps.length)
    (hbody : ∀ (cdv : Value) (A : Around) (outer : List Env) (s : Shared) (H : Hp) (vs : List V) (Q : VK) (E : XK), Room k (A.deeper (envOfC qual (defScope st) s.heap.objs.size f cdv)) → sp vs H Q E →
      ∃ t, PSs (cxOf (L2N.CX P w) P w K mg base N qual (defScope st) f cdv A outer s H E) (defBody st) t ∧ t { nx := fun _ H' => Q .non H', rt := Q } (L2.start N vs) H) : FnOk P w K mg base (L2N.CX P w) (k + 1) f fd ps sp := by
  obtain ⟨oc, od, kV, doc, pm, an, cdv, ct, osl, rfl, lk, hcd⟩ := F.ex
  exact fn_of lk hcd S len fun A outer s H vs Q E hr hsp => hbody cdv A outer s H vs Q E hr hsp
/-- a def called in an except suite -/
theorem okH {P : Program} {w : World} {K : PySem.W.Frag} {mg : Str → Option Value} {base : Heap} {x qual : Str} {st : Stmt} {f : Addr} {fd : FuncData} {N ps : List Str} {k : Nat} {sp : Sp} (F : Fun K x qual st f fd) (S : FnScope N ps (defScope st)) (len : ∀ vs H Q E, sp vs H Q E → vs.length = ps.length)
    (hbody : ∀ (cdv : Value) (A : Around) (outer : List Env) (s : Shared) (H : Hp) (vs : List V) (Q : VK) (E : XK) (p : Addr × Obj), Hot1 (A.deeper (envOfC qual (defScope st) s.heap.objs.size f cdv)) p → RoomH k (A.deeper (envOfC qual (defScope st) s.heap.objs.size f cdv)) → sp vs H Q E →
      ∃ t, PSs (cxH CX0 P w K mg base N qual (defScope st) f cdv A outer s H E p).nox (defBody st) t ∧ t { nx := fun _ H' => Q .non H', rt := Q } (L2.start N vs) H) : FnH P w K mg base CX0 (k + 1) f fd ps sp := by
  obtain ⟨oc, od, kV, doc, pm, an, cdv, ct, osl, rfl, lk, hcd⟩ := F.ex
  exact fn_ofH lk hcd S len fun A outer s H vs Q E p hot hr hsp => by
    obtain ⟨t, h, q⟩ := hbody cdv A outer s H vs Q E p ⟨hot.1, hot.2⟩ hr hsp
    exact ⟨t, h.nox, q⟩
/-! ### objects that are told as they stand -/
def PinO (b : Addr) (o : Obj) : HO := .ext fun h => h.get? b = some o
section
variable {P : Program} {w : World} {K : PySem.W.Frag} {mg : Str → Option Value} {base : Heap} {A : Around} {outer : List Env} {H H' : Hp} {h : Heap} {b : Addr} {o : Obj} {s s' : Shared} {cs : List (Addr × Obj)} {Q : VK} {E : XK} {u : Value}
theorem pin_ok (e : h.get? b = some o) : ObjOk P w H h b (PinO b o) := ⟨e, ⟨o, e⟩, fun _ _ z st => st o z⟩
theorem pin_at (hok : HOk P w H h) (e : H b = some (PinO b o)) : h.get? b = some o := (hok b _ e).1
def addP (cs : List (Addr × Obj)) (H : Hp) : Hp := fun b => match cs.lookup b with
  | some o => some (PinO b o)
  | none => H b
def rmP (cs : List (Addr × Obj)) (H : Hp) : Hp := fun b => match cs.lookup b with
  | some _ => none
  | none => H b
theorem addIn (z : cs.lookup b = some o) : addP cs H b = some (PinO b o) := by unfold addP; rw [z]
theorem addOut (z : cs.lookup b = none) : addP cs H b = H b := by unfold addP; rw [z]
theorem rmIn (z : cs.lookup b = some o) : rmP cs H b = none := by unfold rmP; rw [z]
theorem rmOut (z : cs.lookup b = none) : rmP cs H b = H b := by unfold rmP; rw [z]
theorem outN (hn : ∀ b o, cs.lookup b = some o → H b = none) {u : HO} (e : H b = some u) : cs.lookup b = none := by
  cases z : cs.lookup b with
  | none => rfl
  | some o => rw [hn b o z] at e; cases e
theorem outP (hp : ∀ b o, cs.lookup b = some o → H b = some (PinO b o)) {u : Option HO} (e : H b = u) (hu : ∀ o, u ≠ some (PinO b o)) : cs.lookup b = none := by
  cases z : cs.lookup b with
  | none => rfl
  | some o => exact absurd (e.symm.trans (hp b o z)) (hu o)
theorem rmAdd (hn : ∀ b o, cs.lookup b = some o → H b = none) : rmP cs (addP cs H) = H := by
  funext b
  cases z : cs.lookup b with
  | none => rw [rmOut z, addOut z]
  | some o => rw [rmIn z, hn b o z]
theorem addRm (hp : ∀ b o, cs.lookup b = some o → H b = some (PinO b o)) : addP cs (rmP cs H) = H := by
  funext b
  cases z : cs.lookup b with
  | none => rw [addOut z, rmOut z]
  | some o => rw [addIn z, hp b o z]
theorem addEx (hn : ∀ b o, cs.lookup b = some o → H b = none) : Ex H (addP cs H) := fun a o e => by rw [addOut (outN hn e)]; exact e
theorem addMono (e : Ex H H') : Ex (addP cs H) (addP cs H') := fun a o z => by
  cases q : cs.lookup a with
  | none => rw [addOut q] at z ⊢; exact e a o z
  | some u => rw [addIn q] at z ⊢; exact z
theorem rmMonoP (e : Ex H H') : Ex (rmP cs H) (rmP cs H') := fun a o z => by
  cases q : cs.lookup a with
  | none => rw [rmOut q] at z ⊢; exact e a o z
  | some u => rw [rmIn q] at z; cases z
theorem rmPEx : Ex (rmP cs H) H := fun a o z => by
  cases q : cs.lookup a with
  | none => rw [rmOut q] at z; exact z
  | some u => rw [rmIn q] at z; cases z
theorem hokAdd (hok : HOk P w H h) (hn : ∀ b o, cs.lookup b = some o → H b = none ∧ h.get? b = some o) : HOk P w (addP cs H) h := fun a o e => by
  have hn1 : ∀ b o, cs.lookup b = some o → H b = none := fun b o z => (hn b o z).1
  cases q : cs.lookup a with
  | some u =>
    rw [addIn q] at e
    cases e
    exact pin_ok (hn a u q).2
  | none =>
    rw [addOut q] at e
    exact (hok a o e).stay (fun _ _ _ z => z) (fun c z => by rw [addOut (outN hn1 z)]; exact z) fun c xs z => by rw [addOut (outN hn1 z)]; exact z
theorem hokRm (hok : HOk P w H h) (hp : ∀ b o, cs.lookup b = some o → H b = some (PinO b o)) : HOk P w (rmP cs H) h := fun a o e => by
  cases q : cs.lookup a with
  | some u => rw [rmIn q] at e; cases e
  | none =>
    rw [rmOut q] at e
    exact (hok a o e).stay (fun _ _ _ z => z) (fun c z => by rw [rmOut (outP hp z fun o y => by cases y)]; exact z) fun c xs z => by rw [rmOut (outP hp z fun o y => by cases y)]; exact z
theorem envAdd (e : Env0 P w K mg base A outer s H) (hn : ∀ b o, cs.lookup b = some o → H b = none ∧ s.heap.get? b = some o ∧ base.get? b = none ∧ b ∉ frs outer) : Env0 P w K mg base A outer s (addP cs H) := by
  refine ⟨e.frames, e.mod, fun b o z => ⟨(e.bs b o z).1, ?_⟩, e.bsz, e.funs, fun b hb => ?_, hokAdd e.hok fun b o z => ⟨(hn b o z).1, (hn b o z).2.1⟩, e.bare⟩
  · cases q : cs.lookup b with
    | none => rw [addOut q]; exact (e.bs b o z).2
    | some u => rw [(hn b u q).2.2.1] at z; cases z
  · cases q : cs.lookup b with
    | none => rw [addOut q]; exact e.frf b hb
    | some u => exact absurd hb (hn b u q).2.2.2
theorem envRm (e : Env0 P w K mg base A outer s H) (hp : ∀ b o, cs.lookup b = some o → H b = some (PinO b o)) : Env0 P w K mg base A outer s (rmP cs H) := by
  refine ⟨e.frames, e.mod, fun b o z => ⟨(e.bs b o z).1, ?_⟩, e.bsz, e.funs, fun b hb => ?_, hokRm e.hok hp, e.bare⟩
  · cases q : cs.lookup b with
    | none => rw [rmOut q]; exact (e.bs b o z).2
    | some u => exact rmIn q
  · cases q : cs.lookup b with
    | none => rw [rmOut q]; exact e.frf b hb
    | some u => exact rmIn q
/-- told again behind a call -/
theorem ceAdd (e0 : Env0 P w K mg base A outer s H) (hp : ∀ b o, cs.lookup b = some o → H b = some (PinO b o)) (c : CE outer P w (rmP cs H) s (fun v H' => (∀ b o, cs.lookup b = some o → H' b = none) → Q v (addP cs H')) u s') : CE outer P w H s Q u s' := by
  obtain ⟨v, H', os, bare, un, hok, r, q⟩ := c
  have nf : ∀ b o, cs.lookup b = some o → b ∉ frs outer := fun b o z hb => by
    have y := e0.frf b hb
    rw [hp b o z] at y
    cases y
  have st : ∀ b o, cs.lookup b = some o → H' b = none ∧ s'.heap.get? b = some o := fun b o z => ⟨un.free b o (pin_at e0.hok (hp b o z)) (rmIn z) (by simp), un.keep b o (pin_at e0.hok (hp b o z)) (rmIn z) (nf b o z) (by simp)⟩
  have nn : ∀ {b : Addr}, H b = none → rmP cs H b = none := fun {b} n => by rw [rmOut (outP hp n fun o y => by cases y)]; exact n
  refine ⟨v, addP cs H', os, bare, ⟨fun b o e n hb hx => un.keep b o e (nn n) hb hx, fun b o e n hb hx => un.slot b o e (nn n) hb hx, fun b o e n hx => ?_, un.there, fun b xs e => ?_, fun b o v e => ?_, fun b ps e => ?_⟩, hokAdd hok st, r, q fun b o z => (st b o z).1⟩
  · rw [addOut (outP hp n fun o y => by cases y)]; exact un.free b o e (nn n) hx
  · have z := outP hp e fun o y => by cases y
    rw [addOut z]; exact un.tups b xs (by rw [rmOut z]; exact e)
  · have z := outP hp e fun o y => by cases y
    rw [addOut z]; exact un.frzs b o v (by rw [rmOut z]; exact e)
  · have z := outP hp e fun o y => by cases y
    rw [addOut z]; exact un.tbls b ps (by rw [rmOut z]; exact e)
theorem cxAdd (e0 : Env0 P w K mg base A outer s H) (hp : ∀ b o, cs.lookup b = some o → H b = some (PinO b o)) (c : L2N.CX P w outer (rmP cs H) s (fun cls d H' => (∀ b o, cs.lookup b = some o → H' b = none) → E cls d (addP cs H')) u s') : L2N.CX P w outer H s E u s' := by
  obtain ⟨a, B, H', cls, d, rfl, fl, hok, ub, na, os, ag, q⟩ := c
  have nf : ∀ b o, cs.lookup b = some o → b ∉ frs outer := fun b o z hb => by
    have y := e0.frf b hb
    rw [hp b o z] at y
    cases y
  have st : ∀ b o, cs.lookup b = some o → H' b = none ∧ B.get? b = some o := fun b o z => ⟨ub.free b o (pin_at e0.hok (hp b o z)) (rmIn z), ub.keep b o (pin_at e0.hok (hp b o z)) (rmIn z) (nf b o z)⟩
  have nn : ∀ {b : Addr}, H b = none → rmP cs H b = none := fun {b} n => by rw [rmOut (outP hp n fun o y => by cases y)]; exact n
  refine ⟨a, B, addP cs H', cls, d, rfl, fl, hokAdd hok st, ⟨fun b o e n hb => ub.keep b o e (nn n) hb, ub.slot, fun b o e n => ?_, ub.there, fun b xs e => ?_, fun b o v e => ?_, fun b ps e => ?_⟩, ?_, os, ag, q fun b o z => (st b o z).1⟩
  · rw [addOut (outP hp n fun o y => by cases y)]; exact ub.free b o e (nn n)
  · have z := outP hp e fun o y => by cases y
    rw [addOut z]; exact ub.tups b xs (by rw [rmOut z]; exact e)
  · have z := outP hp e fun o y => by cases y
    rw [addOut z]; exact ub.frzs b o v (by rw [rmOut z]; exact e)
  · have z := outP hp e fun o y => by cases y
    rw [addOut z]; exact ub.tbls b ps (by rw [rmOut z]; exact e)
  · cases z : cs.lookup a with
    | none => rw [addOut z]; exact na
    | some o =>
      have y := (st a o z).2
      rw [fl.2.1] at y
      cases y
/-- told for a call alone -/
theorem ceRm (hn : ∀ b o, cs.lookup b = some o → H b = none ∧ s.heap.get? b = some o) (c : CE outer P w (addP cs H) s (fun v H' => (∀ b o, cs.lookup b = some o → H' b = some (PinO b o)) ∧ Q v (rmP cs H')) u s') : CE outer P w H s Q u s' := by
  obtain ⟨v, H', os, bare, un, hok, r, hp, q⟩ := c
  have hn1 : ∀ b o, cs.lookup b = some o → H b = none := fun b o z => (hn b o z).1
  have same : ∀ b o, s.heap.get? b = some o → ∀ o', cs.lookup b = some o' → s'.heap.get? b = some o := fun b o e o' z => by
    rw [(hn b o' z).2] at e
    cases e
    exact pin_at hok (hp b _ z)
  refine ⟨v, rmP cs H', os, bare, ⟨fun b o e n hb hx => ?_, fun b o e n hb hx => ?_, fun b o e n hx => ?_, un.there, fun b xs e => ?_, fun b o v e => ?_, fun b ps e => ?_⟩, hokRm hok hp, r, q⟩
  · cases z : cs.lookup b with
    | none => exact un.keep b o e (by rw [addOut z]; exact n) hb hx
    | some o' => exact same b o e o' z
  · cases z : cs.lookup b with
    | none => exact un.slot b o e (by rw [addOut z]; exact n) hb hx
    | some o' => exact ⟨o.slots, same b o e o' z⟩
  · cases z : cs.lookup b with
    | none => rw [rmOut z]; exact un.free b o e (by rw [addOut z]; exact n) hx
    | some o' => exact rmIn z
  · have z := outN hn1 e
    rw [rmOut z]; exact un.tups b xs (by rw [addOut z]; exact e)
  · have z := outN hn1 e
    rw [rmOut z]; exact un.frzs b o v (by rw [addOut z]; exact e)
  · have z := outN hn1 e
    rw [rmOut z]; exact un.tbls b ps (by rw [addOut z]; exact e)
end
end SY

/-! a lambda without parameters: made, held, called -/
namespace SY
open PySem PySem.Spec PyProof.Rows L2 L2H LamX NdefX Evl
/-- the object at f is the lambda of the words F, its expression ex, its defaults dv -/
def LamO (f : Addr) (F : NF) (ex : Expr) (dv : Value) : HO := .ext fun h => ∃ (od : Option Addr) (sl : Array (Option Value)) (pm ctv : Value), h.get? f = some (⟨.type "function", od, .func { PySem.W.kla_fn F.name F.qual F.params ex F.scope F.cl pm (.ref F.c) ctv with defaults := dv }, sl⟩ : Obj)
theorem lamO_ok {P : Program} {w : World} {H : Hp} {h : Heap} {f : Addr} {F : NF} {ex : Expr} {dv : Value} {od : Option Addr} {sl : Array (Option Value)} {pm ctv : Value} (e : h.get? f = some (⟨.type "function", od, .func { PySem.W.kla_fn F.name F.qual F.params ex F.scope F.cl pm (.ref F.c) ctv with defaults := dv }, sl⟩ : Obj)) : ObjOk P w H h f (LamO f F ex dv) :=
  ⟨⟨od, sl, pm, ctv, e⟩, ⟨_, e⟩, fun h1 h2 ⟨a, b, c, d, z⟩ st => ⟨a, b, c, d, st _ z⟩⟩
theorem lamO_at {P : Program} {w : World} {H : Hp} {h : Heap} {f : Addr} {F : NF} {ex : Expr} {dv : Value} (hok : HOk P w H h) (e : H f = some (LamO f F ex dv)) : ∃ (od : Option Addr) (sl : Array (Option Value)) (pm ctv : Value), h.get? f = some (⟨.type "function", od, .func { PySem.W.kla_fn F.name F.qual F.params ex F.scope F.cl pm (.ref F.c) ctv with defaults := dv }, sl⟩ : Obj) := (hok f _ e).1
theorem lamO_ne {f : Addr} {F : NF} {ex : Expr} {dv : Value} (ps : Array Value) : LamO f F ex dv ≠ .tbl ps := fun z => by
  unfold LamO at z
  cases z
/-- the words of a lambda that X makes -/
abbrev lamF (X : Cx) (params : Arguments) (scope : Scope) (c' : Addr) : NF := ⟨"<lambda>", X.env.qual ++ "<lambda>", params, [], scope, cloFrom X.env.cells scope.names [], c'⟩
section
variable {X : Cx} {pins : List (Addr × Obj)} {σ : L2.St} {H : Hp} {s : Shared}
theorem tabsPut {T : List (Addr × Str)} {P c' : Addr} {q : Str} {ps : Array Value} {pos : Pos} {H : Hp} (hT : Tabs T H) (hu : ∀ p ∈ T, p.1 = P → p.2 = q) (hP : H P = some (.tbl ps)) (ht : TriplesOk ps.toList) (ha : ∀ (p' : Pos) (cv : Value), codeAmong p' ps.toList = some cv → ∃ c, cv = .ref c ∧ H c = some (CodeO c q)) (nC : H c' = none) :
    ExtN H (upd (upd H P (.tbl (ps ++ #[rawInt pos.line, rawInt pos.col, .ref c']))) c' (CodeO c' q)) ∧ Tabs T (upd (upd H P (.tbl (ps ++ #[rawInt pos.line, rawInt pos.col, .ref c']))) c' (CodeO c' q)) := by
  have hE : ExtN H (upd (upd H P (.tbl (ps ++ #[rawInt pos.line, rawInt pos.col, .ref c']))) c' (CodeO c' q)) := fun b o e n => by
    rw [upd_ne (ne_of_none e nC), upd_ne fun z => n ps (by rw [z, hP] at e; exact (Option.some.inj e).symm)]
    exact e
  have eL : (ps ++ #[rawInt pos.line, rawInt pos.col, .ref c']).toList = ps.toList ++ [rawInt pos.line, rawInt pos.col, .ref c'] := by simp
  refine ⟨hE, fun p hp => ?_⟩
  by_cases hb : p.1 = P
  · rw [hu p hp hb, hb]
    refine ⟨_, by rw [upd_ne (ne_of_none hP nC), upd_same], by rw [eL]; exact PySem.TriplesOk_snoc _ _ _ _ ht, fun p' cv z => ?_⟩
    rw [eL] at z
    rcases among_app _ ht z with y | y
    · obtain ⟨c0, e1, e2⟩ := ha p' cv y
      exact ⟨c0, e1, hE _ _ e2 codeO_ne⟩
    · exact ⟨c', y, upd_same⟩
  · obtain ⟨qs, a1, a2, a3⟩ := hT p hp
    refine ⟨qs, by rw [upd_ne (ne_of_none a1 nC), upd_ne hb]; exact a1, a2, fun p' cv z => ?_⟩
    obtain ⟨c0, e1, e2⟩ := a3 p' cv z
    exact ⟨c0, e1, hE _ _ e2 codeO_ne⟩
/-- the lambda is made -/
theorem lam_mk {T : List (Addr × Str)} {c P : Addr} {params : Arguments} {body : Expr} {scope : Scope} {pos : Pos} {E : Value → Shared → Prop} {Q : Value → Shared → Prop} (I : Inv X pins σ H s) (TB : TabB X.base X.mg c P) (hcode : X.env.code = .ref c)
    (hm : (P, X.env.qual ++ "<lambda>") ∈ T) (hu : ∀ p ∈ T, p.1 = P → p.2 = X.env.qual ++ "<lambda>") (hT : Tabs T H) (hdef : defaultsOf params X.env = ([], [])) (hfree : ∀ y ∈ scope.names, y.2 = .free → ∃ c, X.env.cells.lookup y.1 = some c)
    (h : ∀ (f c' : Addr) (H1 : Hp) (s' : Shared), Inv X pins σ H1 s' → ExtN H H1 → Tabs T H1 → H f = none → H1 f = some (LamO f (lamF X params scope c') body .none) → H1 c' = some (CodeO c' (X.env.qual ++ "<lambda>")) → Q (.ref f) s') :
    wpAny (model X.prog X.w) X.A (eval (.Lambda params body scope pos) X.env) Q E s := by
  obtain ⟨ps, hP, ht, ha⟩ := hT _ hm
  have hP' : s.heap.get? P = some { cls := .none, data := .fields ps } := I.hok P _ hP
  have fin : ∀ {H1 : Hp} {h1 : Heap} {tk : Nat} {c' : Addr} {ctv : Value}, Inv X pins σ H1 { s with heap := h1, toks := tk } → s.heap.objs.size ≤ h1.objs.size → ExtN H H1 → Tabs T H1 → H1 c' = some (CodeO c' (X.env.qual ++ "<lambda>")) →
      Q (.ref h1.objs.size) { s with heap := h1.push (PySem.W.kla_obj "<lambda>" (X.env.qual ++ "<lambda>") params body scope (cloFrom X.env.cells scope.names []) ((X.mg "__name__").getD .none) c' ctv), toks := tk } := fun {H1 h1 tk c' ctv} J hsz eN T1 hc => by
    have nF : H1 h1.objs.size = none := J.hok.fresh (Nat.le_refl _)
    have J2 : Inv X pins σ (upd H1 h1.objs.size (LamO h1.objs.size (lamF X params scope c') body .none)) { s with heap := h1.push (PySem.W.kla_obj "<lambda>" (X.env.qual ++ "<lambda>") params body scope (cloFrom X.env.cells scope.names []) ((X.mg "__name__").getD .none) c' ctv), toks := tk } :=
      J.laid (t' := tk) (a := h1.objs.size) (fun b u e => Heap.get?_push_of_some _ e) (Nat.le_refl _) (lamO_ok (Heap.get?_push_size _ rfl))
    have k : ∀ b o, H1 b = some o → upd H1 h1.objs.size (LamO h1.objs.size (lamF X params scope c') body .none) b = some o := fun b o e => (upd_ne (ne_of_none e nF)).trans e
    exact h _ c' _ _ J2 (fun b o e n => k b o (eN b o e n)) (T1.ext k) (I.hok.fresh hsz) upd_same (k _ _ hc)
  refine PySem.W.kla_eval hdef ?_
  cases hc : codeAmong pos ps.toList with
  | none =>
    refine PySem.W.kla_makeFunction (mg := X.mg) (c := c) (P := P) (ps := ps) (closure_ok hfree) I.ok.glob (I.mod.glob.keeps I.bk) hcode (TB.code.keeps I.bk) hP' ht hc TB.gP (TB.bm.keeps I.bk) fun c' ctv h' tk hx hge hlt hrec htb => ?_
    obtain ⟨c2, oc, vs, t, e2, hoc, hd, hv⟩ := hrec
    cases e2
    have nC : H c' = none := I.hok.fresh hge
    obtain ⟨hE, T1⟩ := tabsPut (pos := pos) hT hu hP ht ha nC
    exact fin (inv_table (t' := tk) (more := #[rawInt pos.line, rawInt pos.col, .ref c']) (h' := h') I hP hx htb hge ⟨oc, vs, t, hoc, hd, hv⟩) (Nat.le_trans hge (Nat.le_of_lt hlt)) hE T1 upd_same
  | some cv =>
    obtain ⟨c', e, hco⟩ := ha pos cv hc
    subst e
    exact PySem.W.kla_makeFunctionHit (mg := X.mg) (c := c) (P := P) (ps := ps) (closure_ok hfree) I.ok.glob (I.mod.glob.keeps I.bk) hcode (TB.code.keeps I.bk) hP' ht hc (TB.bm.keeps I.bk) fun ctv h' tk hx hsz => fin (I.kept hx) hsz (ExtN.refl H) hT hco
/-- lambda: body -/
def tLamN (T : List (Addr × Str)) (mk : Addr → NF) (ex : Expr) : TE := fun σ H Q => Tabs T H ∧ ∀ (f c' : Addr) (H1 : Hp), ExtN H H1 → Tabs T H1 → H f = none → H1 f = some (LamO f (mk c') ex .none) → H1 c' = some (CodeO c' (mk c').qual) → Q (.ref f) H1
theorem pe_lamN {T : List (Addr × Str)} {c P : Addr} {params : Arguments} {body : Expr} {scope : Scope} {pos : Pos} (TB : TabB X.base X.mg c P) (hcode : X.env.code = .ref c) (hm : (P, X.env.qual ++ "<lambda>") ∈ T) (hu : ∀ p ∈ T, p.1 = P → p.2 = X.env.qual ++ "<lambda>")
    (L : LamS X.env.scope scope) (hdef : defaultsOf params X.env = ([], [])) : PE X (.Lambda params body scope pos) (tLamN T (lamF X params scope) body) :=
  ⟨fun pins s σ H Q I ⟨hT, q⟩ => lam_mk I TB hcode hm hu hT hdef (L.has I.ok) fun f c' H1 s' I1 eN T1 f0 f1 c1 => ⟨.ref f, H1, I1, rfl, q f c' H1 eN T1 f0 f1 c1⟩⟩
end
/-! ### called -/
/-- what it captured, as told objects -/
structure CapsO (F : NF) (fr : List Str) (ws : List (Option V)) (cs : List (Addr × Obj)) : Prop where
  len : ws.length = fr.length
  inj : ∀ x y c, F.cl.lookup x = some c → F.cl.lookup y = some c → x = y
  all : ∀ y c, F.cl.lookup y = some c → ∃ o v, cs.lookup c = some o ∧ o.data = .cell v
  has : ∀ (i : Nat) (y : Str), fr[i]? = some y → ∃ c o, F.cl.lookup y = some c ∧ cs.lookup c = some o ∧ ∀ v, ws[i]? = some (some v) → ∃ u, L2.RelV v u ∧ o.data = .cell (some u)
theorem CapsO.at {P : Program} {w : World} {F : NF} {fr : List Str} {ws : List (Option V)} {cs : List (Addr × Obj)} {H : Hp} {h : Heap} (C : CapsO F fr ws cs) (hok : HOk P w H h) (hp : ∀ b o, cs.lookup b = some o → H b = some (PinO b o)) : CellsAt F.cl fr ws h (rmP cs H) := by
  refine ⟨C.len, fun y c e => ?_, C.inj, fun i y e => ?_⟩
  · obtain ⟨o, v, z, d⟩ := C.all y c e
    exact ⟨rmIn z, v, o, pin_at hok (hp c o z), d⟩
  · obtain ⟨c, o, e1, z, hv⟩ := C.has i y e
    refine ⟨c, e1, fun v ev => ?_⟩
    obtain ⟨u, r, d⟩ := hv v ev
    exact ⟨u, r, o, pin_at hok (hp c o z), d⟩
theorem lam_run {P : Program} {w : World} {K : PySem.W.Frag} {mg : Str → Option Value} {base : Heap} {N ps fr : List Str} {F : NF} {ex : Expr} {dv : Value} {f : Addr} {k : Nat} {A : Around} {outer : List Env} {s : Shared} {H : Hp} {Q : VK} {E : XK} {vs : List V} {us : List Value} {ws : List (Option V)} {cs : List (Addr × Obj)} {tb : TE}
    (S : NScope N ps fr F.scope) (hr : Room (k + 1) A) (e0 : Env0 P w K mg base A outer s H) (hf : H f = some (LamO f F ex dv)) (hc : H F.c = some (CodeO F.c F.qual)) (hp : ∀ b o, cs.lookup b = some o → H b = some (PinO b o)) (C : CapsO F fr ws cs) (r : Vals vs us) (hl : vs.length = ps.length)
    (hb : ∀ pm ctv : Value, bindArgs { PySem.W.kla_fn F.name F.qual F.params ex F.scope F.cl pm (.ref F.c) ctv with defaults := dv } ⟨[], []⟩ = pure (ps.zip us))
    (hbody : Room k (A.deeper (envF F f s.heap.objs.size)) → PE (ncx (L2N.CX P w) P w K mg base N F f A outer s (rmP cs H) (fun cls d H' => (∀ b o, cs.lookup b = some o → H' b = none) → E cls d (addP cs H'))) ex tb)
    (h : tb (startF N vs ws) (rmP cs H) (fun v H' => (∀ b o, cs.lookup b = some o → H' b = none) → Q v (addP cs H'))) :
    codeAny (model P w) A (.call (.ref f) ⟨[], []⟩) (CR (L2N.CX P w) outer P w H s Q E) s := by
  have e1 := envRm e0 hp
  have lim : s.heap.NoLimit := e0.mod.nolimit.keeps fun b o e => (e0.bs b o e).1
  obtain ⟨od, sl, pm, ctv, ho⟩ := lamO_at e0.hok hf
  have rc : codeAny (model P w) A (.call (.ref f) ⟨[], []⟩) (CR (L2N.CX P w) outer P w (rmP cs H) s (fun v H' => (∀ b o, cs.lookup b = some o → H' b = none) → Q v (addP cs H')) (fun cls d H' => (∀ b o, cs.lookup b = some o → H' b = none) → E cls d (addP cs H'))) s := by
    refine PySem.W.kla_callFunE hr.depth ho rfl S.co S.gen rfl (codeO_at e0.hok hc) ?_
    rw [hb pm ctv]
    refine wpAny_pure (wpAny_newFunctionEnv S.nocell (fun ⟨n, _⟩ hy => S.par n (List.of_mem_zip hy).1) (fun h₁ hns hsb => ⟨lim.fresh _ hsb, ?_⟩) S.kind)
    show codeAny _ _ (.expr ex (envF F f s.heap.objs.size)) _ _
    have kp : ∀ b o, s.heap.get? b = some o → h₁.get? b = some o := fun b o e => hsb.extBut b o (Nat.ne_of_lt (Heap.lt_size e)) (Heap.get?_push_of_some _ e)
    have J : Inv (ncx (L2N.CX P w) P w K mg base N F f A outer s (rmP cs H) (fun cls d H' => (∀ b o, cs.lookup b = some o → H' b = none) → E cls d (addP cs H'))) [] (startF N vs ws) (rmP cs H) { s with heap := h₁, toks := s.toks + (ps.zip us).length } := inv_startN S hr.hd e1 hl r (C.at e0.hok hp) hns kp
    refine PySem.W.kla_codeExpr (wpAny_mono ((hbody (hr.deeper _)).run [] _ _ _ _ J h) (fun v s' ⟨x, H', J', rv, q⟩ => ?_) fun e s' z => z)
    exact ⟨x, H', J'.os, J'.bare, J'.base, J'.hok, rv, q⟩
  refine codeAny_mono rc fun r s' hq => ?_
  cases r with
  | error e => exact cxAdd e0 hp hq
  | ok fl =>
    cases fl with
    | ret u => exact ceAdd e0 hp hq
    | next => exact False.elim hq
    | brk => exact False.elim hq
    | cont => exact False.elim hq
/-- a thing that is called without arguments, and refuses: the class C, the fields fs of its dict (none: it has none) -/
structure Work (P : Program) (w : World) (K : PySem.W.Frag) (mg : Str → Option Value) (base : Heap) (k : Nat) (H : Hp) (f C : Addr) (fs : Option (List (Str × V))) : Prop where
  fn : ∀ h : Heap, HOk P w H h → PySem.W.FnAt f h
  run : ∀ (A : Around) (outer : List Env) (s : Shared) (Q : VK) (E : XK), Room k A → Env0 P w K mg base A outer s H → (∀ d H', Ex H H' → (match fs with | none => d = none | some l => ∃ dd, d = some dd ∧ H' dd = some (.xd l)) → E (.ref C) d H') →
    codeAny (model P w) A (.call (.ref f) ⟨[], []⟩) (CR (L2N.CX P w) outer P w H s Q E) s
/-- x(), x a name that holds it -/
theorem pe_work {P : Program} {w : World} {K : PySem.W.Frag} {mg : Str → Option Value} {base : Heap} {X : Cx} {W : WX} {k i : Nat} {x : Str} {p1 p2 : Pos} (tk : L2N.Takes X W) (hr : Room k X.A) (hN : X.N[i]? = some x) (hv : Vis X.env.scope x) (eP : X.prog = P := by rfl) (ew : X.w = w := by rfl) (eK : X.K = K := by rfl) (eg : X.mg = mg := by rfl) (eb : X.base = base := by rfl) (hd : (x == ("__debug__" : Str)) = false := by decide) (hcd : (x == ("__classdict__" : Str)) = false := by decide) :
    PE X (.Call (.Name x p1) [] [] p2) (fun σ H Q => ∃ f C fs, σ[i]? = some (some (.ref f)) ∧ Work P w K mg base k H f C fs ∧ ∀ d H', Ex H H' → (match fs with | none => d = none | some l => ∃ dd, d = some dd ∧ H' dd = some (.xd l)) → W (.ref C) d σ H') := by
  subst eP ew eK eg eb
  refine ⟨fun pins s σ H Q I ⟨f, C, fs, hs, wk, h⟩ => ?_⟩
  refine wpAny_Call_Name_kw (thn ((pe_var (pos := p1) hN hv hd hcd).run pins s σ H (fun v H1 => v = .ref f ∧ H1 = H) I ⟨.ref f, hs, rfl, rfl⟩) fun u s1 ⟨v, H1, I1, r1, ev, eH⟩ => ?_)
  subst ev
  rw [eH] at I1
  obtain rfl : u = Value.ref f := r1
  refine PySem.W.callWith_F0 (first := []) (wk.fn _ I1.hok) ?_
  show wpAny _ _ (call (.ref f) []) _ _ _
  refine wpAny_call (codeAny_mono (wk.run X.A X.stack s1 Q (fun cls d H' => W cls d σ H') hr I1.env0 h) fun r s' hq => ?_)
  cases r with
  | error e => exact L2N.passAt tk σ pins H s1 e s' I1 hq
  | ok fl =>
    cases fl with
    | ret u => exact I1.after hq
    | next => exact False.elim hq
    | brk => exact False.elim hq
    | cont => exact False.elim hq
end SY

/-! a call that hands a lambda on: what it captured is told meanwhile -/
namespace SY
open PySem PySem.Spec PyProof.Rows L2 L2H LamX NdefX Evl
theorem lookP : ∀ {l : List (Addr × Obj)} {c : Addr} {o : Obj}, (c, o) ∈ l → ∃ o', l.lookup c = some o'
  | [], _, _, h => by cases h
  | (b, u) :: l, c, o, h => by
    by_cases e : c = b
    · rw [e]
      exact ⟨u, by rw [List.lookup_cons, beq_self_eq_true]⟩
    · rcases List.mem_cons.mp h with z | z
      · exact absurd (congrArg Prod.fst z) e
      · obtain ⟨o', q⟩ := lookP z
        refine ⟨o', ?_⟩
        rw [List.lookup_cons, show (c == b) = false from beq_false_of_ne e]
        exact q
/-- the cells of the names fr, as they stand -/
def cellsP (X : Cx) (fr : List Str) (h : Heap) : List (Addr × Obj) := fr.filterMap fun y => (X.env.cells.lookup y).bind fun c => (h.get? c).map fun o => (c, o)
theorem cellsP_of {X : Cx} {fr : List Str} {h : Heap} {b : Addr} {o : Obj} (e : (cellsP X fr h).lookup b = some o) : ∃ y ∈ fr, X.env.cells.lookup y = some b ∧ h.get? b = some o := by
  obtain ⟨y, hy, z⟩ := List.mem_filterMap.mp (PySem.W.mem_of_lookupK e)
  refine ⟨y, hy, ?_⟩
  cases q : X.env.cells.lookup y with
  | none => rw [q] at z; cases z
  | some c =>
    rw [q] at z
    cases r : h.get? c with
    | none =>
      have z' : (h.get? c).map (fun o => (c, o)) = some (b, o) := z
      rw [r] at z'
      cases z'
    | some u =>
      have z' : (h.get? c).map (fun o => (c, o)) = some (b, o) := z
      rw [r] at z'
      cases z'
      exact ⟨rfl, r⟩
theorem cellsP_to {X : Cx} {fr : List Str} {h : Heap} {y : Str} {c : Addr} {o : Obj} (hy : y ∈ fr) (hc : X.env.cells.lookup y = some c) (ho : h.get? c = some o) : (cellsP X fr h).lookup c = some o := by
  obtain ⟨o', e⟩ := lookP (l := cellsP X fr h) (c := c) (o := o) (List.mem_filterMap.mpr ⟨y, hy, by rw [hc]; show (h.get? c).map (fun o => (c, o)) = _; rw [ho]; rfl⟩)
  obtain ⟨_, _, _, z⟩ := cellsP_of e
  rw [ho] at z
  cases z
  exact e
/-- cs: the cells of the names fr of X, told -/
structure CapC (X : Cx) (fr : List Str) (σ : L2.St) (H : Hp) (cs : List (Addr × Obj)) : Prop where
  ok : X.Ok
  free : ∀ b o, cs.lookup b = some o → H b = none
  has : ∀ y ∈ fr, ∀ c, X.env.cells.lookup y = some c → ∃ o v, cs.lookup c = some o ∧ o.data = .cell v
  val : ∀ (j : Nat) (y : Str) (v : V), y ∈ fr → X.N[j]? = some y → σ[j]? = some (some v) → ∃ c o u, X.env.cells.lookup y = some c ∧ cs.lookup c = some o ∧ o.data = .cell (some u) ∧ RelV v u
theorem CapC.of {X : Cx} {fr : List Str} {pins : List (Addr × Obj)} {σ : L2.St} {H : Hp} {s : Shared} (I : Inv X pins σ H s) (hfr : ∀ y ∈ fr, X.env.scope.names.lookup y = some .cell ∨ X.env.scope.names.lookup y = some .free) : CapC X fr σ H (cellsP X fr s.heap) := by
  refine ⟨I.ok, fun b o e => ?_, fun y hy c hc => ?_, fun j y v hy hN hv => ?_⟩
  · obtain ⟨y, hy, hc, _⟩ := cellsP_of e
    exact I.freeC y b hc
  · obtain ⟨v, o, ho, hd⟩ := I.cell y c hc
    exact ⟨o, v, cellsP_to hy hc ho, hd⟩
  · obtain ⟨m, _, hl⟩ := I.loc
    have k := hfr y hy
    obtain ⟨u, r, l⟩ := hl j y v hN hv (k.elim (fun z => .inr (.inl z)) fun z => .inr (.inr z))
    rcases l with ⟨z, _⟩ | ⟨_, c, hc, o, ho, hd⟩
    · have z' : X.env.scope.names.lookup y = some .local := z
      rcases k with k | k <;> rw [k] at z' <;> cases z'
    · exact ⟨c, o, u, hc, cellsP_to hy hc ho, hd, r⟩
/-- .. as the lambda's own -/
theorem CapC.caps {X : Cx} {fr : List Str} {σ : L2.St} {H : Hp} {cs : List (Addr × Obj)} {params : Arguments} {scope : Scope} {c' : Addr} {js : List Nat} (C : CapC X fr σ H cs) (L : LamS X.env.scope scope) (hfr : ∀ y ∈ fr, (y, NameKind.free) ∈ scope.names) (hall : ∀ y ∈ scope.names, y.2 = .free → y.1 ∈ fr) (hjs : js.map (fun j => X.N[j]?) = fr.map some) :
    CapsO (lamF X params scope c') fr (js.map (slotAt σ)) cs := by
  have hf := L.has C.ok
  refine ⟨?_, fun x y c e1 e2 => C.ok.inj x y c (clo_cm hf e1) (clo_cm hf e2), fun y c e => ?_, fun i y e => ?_⟩
  · have q := congrArg List.length hjs
    rw [List.length_map, List.length_map] at q
    rw [List.length_map]
    exact q
  · refine C.has y ?_ c (clo_cm hf e)
    rcases cloFrom_mem (PySem.mem_of_lookup e) with z | ⟨z, _⟩
    · cases z
    · exact hall _ z rfl
  · have hy := List.mem_of_getElem? e
    obtain ⟨c, hc⟩ := hf _ (hfr y hy) rfl
    obtain ⟨o, v, ho, hd⟩ := C.has y hy c hc
    refine ⟨c, o, clo_has hf (hfr y hy) hc, ho, fun v ev => ?_⟩
    have e2 : (js.map fun j => X.N[j]?)[i]? = some (some y) := by
      rw [hjs, List.getElem?_map, e] <;> rfl
    rw [List.getElem?_map] at e2
    cases ej : js[i]? with
    | none => rw [ej] at e2; cases e2
    | some j =>
      rw [ej] at e2
      have hj : X.N[j]? = some y := Option.some.inj (show some (X.N[j]?) = some (some y) from e2)
      rw [List.getElem?_map, ej] at ev
      have ev2 : σ[j]? = some (some v) := slotAt_some (Option.some.inj (show some (slotAt σ j) = some (some v) from ev))
      obtain ⟨c2, o2, u, hc2, ho2, hd2, r⟩ := C.val j y v hy hj ev2
      rw [hc] at hc2
      cases hc2
      rw [ho] at ho2
      cases ho2
      exact ⟨u, r, hd2⟩
/-- f(..): the cells of fr are told in the callee -/
def tCallT (X : Cx) (fr : List Str) (sp : Sp) (t : TA) : TE := fun σ H Q => t σ H fun vs H1 => ∀ cs, CapC X fr σ H1 cs → sp vs (addP cs H1) (fun v H2 => (∀ b o, cs.lookup b = some o → H2 b = some (PinO b o)) ∧ Q v (rmP cs H2)) (fun _ _ _ => False)
theorem pe_callT {X : Cx} {k : Nat} {f : Addr} {fd : FuncData} {ps fr : List Str} {sp : Sp} {x : Str} {p pos : Pos} {e : Expr} {es : List Expr} {t : TA} (F : FnOk X.prog X.w X.K X.mg X.base CX0 k f fd ps sp) (hr : Room k X.A) (hg : Gl X x) (hm : X.mg x = some (.ref f)) (hk : PySem.W.keepIn X.K (.ref f) = true) (hb : Binds X.K fd ps [])
    (hfr : ∀ y ∈ fr, X.fn y = true ∧ (X.env.scope.names.lookup y = some .cell ∨ X.env.scope.names.lookup y = some .free))
    (ha : PA X (e :: es) t) (hdb : (x == ("__debug__" : Str)) = false := by decide) (he : starEach (e :: es) X.env = (false, eval e X.env) :: starEach es X.env := by rfl) (hpl : (backTo pos (starEach es X.env)).any (·.1) = false := by rfl) :
    PE X (.Call (.Name x p) (e :: es) [] pos) (tCallT X fr sp t) := by
  refine ⟨fun pins s σ H Q I h => wpAny_Call_Name_kw (ld_glob I hg hm (PySem.W.callWith_K (h₀ := X.base) I.ok.mod.kin hk (thn (ha.run pos pins s σ H _ I h) fun us s1 ⟨vs, H1, I1, r, q⟩ => ⟨I1.kIn, ?_⟩) he hpl) hdb)⟩
  have C := CapC.of (fr := fr) I1 fun y hy => (hfr y hy).2
  have hq := q _ C
  have hl : us.length = ps.length := by rw [← r.length]; exact F.len _ _ _ _ hq
  have b := hb s1 us I1.kIn (by rw [List.append_nil]; exact hl)
  rw [List.append_nil] at b
  have told : ∀ b o, (cellsP X fr s1.heap).lookup b = some o → H1 b = none ∧ s1.heap.get? b = some o ∧ X.base.get? b = none ∧ b ∉ frs X.stack := fun b o z => by
    obtain ⟨y, hy, hc, ho⟩ := cellsP_of z
    refine ⟨I1.freeC y b hc, ho, Heap.get?_none_of_le (Nat.le_trans I1.ok.bsz (I1.ok.cab y b (hfr y hy).1 hc)), fun hm => ?_⟩
    obtain ⟨v, o', ho', hd⟩ := I1.cell y b hc
    rcases List.mem_cons.mp (I1.stkSub b hm) with z | z
    · exact I1.cne y b hc z
    · have h1 := I1.ok.cab y b (hfr y hy).1 hc
      obtain ⟨_, o2, h2, _⟩ := I1.ok.funs.mem z
      exact absurd (Nat.lt_of_lt_of_le (Heap.lt_size h2) h1) (Nat.lt_irrefl _)
  show wpAny _ _ (call (.ref f) us) _ _ _
  refine wpAny_call (codeAny_mono (F.run X.A X.stack s1 (addP (cellsP X fr s1.heap) H1) ⟨us, []⟩ us vs _ _ hr (envAdd I1.env0 told) b r hq) fun r s' hq => ?_)
  cases r with
  | error e => exact False.elim hq
  | ok fl =>
    cases fl with
    | ret u => exact I1.after (ceRm (fun b o z => ⟨(told b o z).1, (told b o z).2.1⟩) hq)
    | next => exact False.elim hq
    | brk => exact False.elim hq
    | cont => exact False.elim hq
end SY

namespace SG
open PySem PySem.Spec PyProof.Rows L2 Evl SB SM
def topS (i : Nat) : Stmt := PySem.Challenge.pw_signsets_k07_texts_read.main.body.getD i (.Pass ⟨0, 0, 0, 0⟩)
abbrev sCheckSize : Stmt := topS 8
abbrev nCheckSize : List Str := ["size"]
theorem scCheckSize : FnScope nCheckSize ["size"] (defScope sCheckSize) := ⟨rfl, rfl, rfl, by decide +kernel, rfl, by decide +kernel, by decide +kernel⟩
abbrev sMarksOf : Stmt := topS 9
abbrev nMarksOf : List Str := ["size", "ranges", "marks", "first", "last", "sign"]
theorem scMarksOf : FnScope nMarksOf ["size", "ranges"] (defScope sMarksOf) := ⟨rfl, rfl, rfl, by decide +kernel, rfl, by decide +kernel, by decide +kernel⟩
abbrev sRangesOf : Stmt := topS 10
abbrev nRangesOf : List Str := ["marks", "told", "start", "sign", "marked"]
theorem scRangesOf : FnScope nRangesOf ["marks"] (defScope sRangesOf) := ⟨rfl, rfl, rfl, by decide +kernel, rfl, by decide +kernel, by decide +kernel⟩
abbrev sItemRange : Stmt := topS 12
abbrev nItemRange : List Str := ["numbers", "item", "head", "dash", "tail"]
theorem scItemRange : FnScope nItemRange ["numbers", "item"] (defScope sItemRange) := ⟨rfl, rfl, rfl, by decide +kernel, rfl, by decide +kernel, by decide +kernel⟩
abbrev sItemRanges : Stmt := topS 13
abbrev nItemRanges : List Str := ["size", "items", "numbers", "told", "end", "place", "item", "found", "sign"]
theorem scItemRanges : FnScope nItemRanges ["size", "items"] (defScope sItemRanges) := ⟨rfl, rfl, rfl, by decide +kernel, rfl, by decide +kernel, by decide +kernel⟩
abbrev sRead : Stmt := topS 14
abbrev nRead : List Str := ["size", "text", "rest", "items", "marks", "marked"]
theorem scRead : FnScope nRead ["size", "text"] (defScope sRead) := ⟨rfl, rfl, rfl, by decide +kernel, rfl, by decide +kernel, by decide +kernel⟩
abbrev sLawDice : Stmt := topS 16
abbrev nLawDice : List Str := ["_law_script", "_law_k", "_law_found", "_law_cell"]
theorem scLawDice : FnScope nLawDice ["_law_script", "_law_k"] (defScope sLawDice) := ⟨rfl, rfl, rfl, by decide +kernel, rfl, by decide +kernel, by decide +kernel⟩
abbrev sLawOff : Stmt := topS 17
abbrev nLawOff : List Str := ["_law_d", "_law_most", "_law_found"]
theorem scLawOff : FnScope nLawOff ["_law_d", "_law_most"] (defScope sLawOff) := ⟨rfl, rfl, rfl, by decide +kernel, rfl, by decide +kernel, by decide +kernel⟩
abbrev sLawAlike : Stmt := topS 18
abbrev nLawAlike : List Str := ["_law_found", "_law_due_here", "_law_k"]
theorem scLawAlike : FnScope nLawAlike ["_law_found", "_law_due_here"] (defScope sLawAlike) := ⟨rfl, rfl, rfl, by decide +kernel, rfl, by decide +kernel, by decide +kernel⟩
abbrev sLawRefused : Stmt := topS 19
abbrev nLawRefused : List Str := ["_law_work", "_law_word", "_law_value", "e", "_law_kinds", "_law_words", "_law_one"]
theorem scLawRefused : FnScope nLawRefused ["_law_work", "_law_word", "_law_value"] (defScope sLawRefused) := ⟨rfl, rfl, rfl, by decide +kernel, rfl, by decide +kernel, by decide +kernel⟩
abbrev sLawSize : Stmt := topS 20
abbrev nLawSize : List Str := ["_law_d"]
theorem scLawSize : FnScope nLawSize ["_law_d"] (defScope sLawSize) := ⟨rfl, rfl, rfl, by decide +kernel, rfl, by decide +kernel, by decide +kernel⟩
abbrev sLawSet : Stmt := topS 21
abbrev nLawSet : List Str := ["_law_d", "_law_size_here", "_law_most", "_law_wide", "_law_found", "_law_turn", "_law_first"]
theorem scLawSet : FnScope nLawSet ["_law_d", "_law_size_here", "_law_most"] (defScope sLawSet) := ⟨rfl, rfl, rfl, by decide +kernel, rfl, by decide +kernel, by decide +kernel⟩
abbrev sLawMembers : Stmt := topS 22
abbrev nLawMembers : List Str := ["_law_size_here", "_law_ranges", "_law_found", "_law_first", "_law_last"]
theorem scLawMembers : FnScope nLawMembers ["_law_size_here", "_law_ranges"] (defScope sLawMembers) := ⟨rfl, rfl, rfl, by decide +kernel, rfl, by decide +kernel, by decide +kernel⟩
abbrev sLawTold : Stmt := topS 23
abbrev nLawTold : List Str := ["_law_numbers", "_law_firsts", "_law_lasts", "_law_number", "_law_k"]
theorem scLawTold : FnScope nLawTold ["_law_numbers"] (defScope sLawTold) := ⟨rfl, rfl, rfl, by decide +kernel, rfl, by decide +kernel, by decide +kernel⟩
abbrev sLawOthers : Stmt := topS 24
abbrev nLawOthers : List Str := ["_law_size_here", "_law_numbers", "_law_number"]
theorem scLawOthers : FnScope nLawOthers ["_law_size_here", "_law_numbers"] (defScope sLawOthers) := ⟨rfl, rfl, rfl, by decide +kernel, rfl, by decide +kernel, by decide +kernel⟩
abbrev sLawIs : Stmt := topS 25
abbrev nLawIs : List Str := ["_law_word", "_law_size_here", "_law_number"]
theorem scLawIs : FnScope nLawIs ["_law_word", "_law_size_here"] (defScope sLawIs) := ⟨rfl, rfl, rfl, by decide +kernel, rfl, by decide +kernel, by decide +kernel⟩
abbrev sLawDue : Stmt := topS 26
abbrev nLawDue : List Str := ["_law_size_here", "_law_text_here", "_law_rest", "_law_words", "_law_numbers", "_law_end", "_law_place", "_law_parts", "_law_part"]
theorem scLawDue : FnScope nLawDue ["_law_size_here", "_law_text_here"] (defScope sLawDue) := ⟨rfl, rfl, rfl, by decide +kernel, rfl, by decide +kernel, by decide +kernel⟩
abbrev sLawText : Stmt := topS 27
abbrev nLawText : List Str := ["_law_d", "_law_numbers", "_law_items", "_law_first", "_law_last", "_law_end"]
theorem scLawText : FnScope nLawText ["_law_d", "_law_numbers"] (defScope sLawText) := ⟨rfl, rfl, rfl, by decide +kernel, rfl, by decide +kernel, by decide +kernel⟩
abbrev sLawChanged : Stmt := topS 28
abbrev nLawChanged : List Str := ["_law_d", "_law_text_here", "_law_words", "_law_at", "_law_odd", "_law_word", "_law_kind", "_law_place"]
theorem scLawChanged : FnScope nLawChanged ["_law_d", "_law_text_here"] (defScope sLawChanged) := ⟨rfl, rfl, rfl, by decide +kernel, rfl, by decide +kernel, by decide +kernel⟩
abbrev sLaw : Stmt := topS 29
abbrev nLaw : List Str := ["_law_script", "_law_d", "_law_turn", "_law_change", "_law_due_here", "_law_found", "_law_size_here", "_law_text_here", "_law_number"]
theorem scLaw : FnScope nLaw ["_law_script"] (defScope sLaw) := ⟨rfl, rfl, rfl, by decide +kernel, rfl, by decide +kernel, by decide +kernel⟩
/-! ### data -/
def rD (r : Nat × Nat) : PyData := .tuple [.int (r.1 : Int), .int (r.2 : Int)]
def sD (rs : List (Nat × Nat)) : PyData := .list (rs.map rD)
def bls (n : Nat) (m : Nat → Bool) : List PyData := (List.range n).map fun i => .bool (m i)
theorem bls_len (n : Nat) (m : Nat → Bool) : (bls n m).length = n := by unfold bls; rw [List.length_map, List.length_range]
theorem getD_bls {n i : Nat} (m : Nat → Bool) (h : i < n) : (bls n m).getD i .none = .bool (m i) := by
  unfold bls
  rw [List.getD_eq_getElem?_getD, List.getElem?_map, List.getElem?_range h]; rfl
theorem getD_map {α : Type} (f : α → PyData) : ∀ {xs : List α} {i : Nat} {x : α}, xs[i]? = some x → (xs.map f).getD i .none = f x := fun {xs i x} h => by
  rw [List.getD_eq_getElem?_getD, List.getElem?_map, h]; rfl
theorem noLs_map {α : Type} {f : α → PyData} (h : ∀ x, noL (f x) = true) : ∀ xs : List α, noLs (xs.map f) = true
  | [] => rfl
  | x :: xs => by
    show (noL (f x) && noLs (xs.map f)) = true
    rw [h x, noLs_map h xs]; rfl
theorem noL_rD (r : Nat × Nat) : noL (rD r) = true := rfl
theorem noL_bls (n : Nat) (m : Nat → Bool) : noLs (bls n m) = true := noLs_map (fun _ => rfl) _
section
variable {P : Program} {w : World} {K : PySem.W.Frag} {mg : Str → Option Value} {base : Heap}
/-! ### check_size -/
def RSize : List PyData → PyData → Prop := fun ds out => ∃ n : Nat, ds = [.int (n : Int)] ∧ 1 ≤ n ∧ n ≤ 64 ∧ out = .none
theorem ok_size {f : Addr} {fd : FuncData} {k : Nat} {t : Tok} (F : Fun K "check_size" "check_size" sCheckSize f fd) (g64 : mg "MOST_SIGNS" = some (.int 64 t)) : FnOk P w K mg base CX0 (k + 1) f fd ["size"] (spV K RSize) := by
  refine F.ok scCheckSize (fun vs H Q E h => ?_) (fun cdv A outer s H vs Q E hr h => ?_)
  · obtain ⟨ds, out, ha, ⟨n, rfl, _⟩, _⟩ := h
    exact allLen ha
  · obtain ⟨ds, out, ha, ⟨n, rfl, h1, h2, rfl⟩, q⟩ := h
    obtain ⟨x, rfl, hx⟩ := all1 ha
    cases dpInt hx
    refine ⟨_, pss_one (ps_if (pt_not (pt_chain op_le op_le pe_int (pv 0) (pe_glob (v := .int 64) rfl g64 ⟨_, rfl⟩))) (pss_one ps_never) pss_nil), ?_⟩
    refine s_if (b := false) (et_is (et_not (et_test (ev_chain2 (f := fun a b => decide (a ≤ b)) (f' := fun a b => decide (a ≤ b)) ev_c (ev_var rfl) ev_c))) ?_) (fun z => nomatch z) (fun _ H1 e => q _ H1 e .non)
    rw [decide_eq_true (show (1 : Int) ≤ (n : Int) by omega), decide_eq_true (show (n : Int) ≤ 64 by omega)]; rfl
/-! ### check_set -/
def RSet : List PyData → PyData → Prop := fun ds out => ∃ (n : Nat) (rs : List (Nat × Nat)) (k : Int), ds = [.int (n : Int), sD rs, .int k] ∧ Good n rs ∧ out = .none
end

/-! ### marks_of -/
def mb (n : Nat) (m : Nat → Bool) : List V := (List.range n).map fun i => V.bl (m i)
theorem mb_len (n : Nat) (m : Nat → Bool) : (mb n m).length = n := by unfold mb; rw [List.length_map, List.length_range]
theorem mb_set {n : Nat} {m m' : Nat → Bool} {k : Nat} (h : ∀ i, i < n → m' i = (m i || decide (i = k))) : (mb n m).set k (.bl true) = mb n m' := by
  refine List.ext_getElem? fun i => ?_
  unfold mb
  by_cases hi : i < n
  · rw [List.getElem?_set, List.getElem?_map, List.getElem?_map, List.getElem?_range hi, List.length_map, List.length_range]
    by_cases c : k = i
    · subst c
      rw [if_pos rfl, if_pos hi]
      show _ = some (V.bl (m' k))
      rw [h k hi, decide_eq_true rfl, Bool.or_true]
    · rw [if_neg c]
      show some (V.bl (m i)) = some (V.bl (m' i))
      rw [h i hi, decide_eq_false (Ne.symm c), Bool.or_false]
  · rw [List.getElem?_eq_none (by rw [List.length_set, List.length_map, List.length_range]; omega), List.getElem?_eq_none (by rw [List.length_map, List.length_range]; omega)]
theorem mb_congr {n : Nat} {m m' : Nat → Bool} (h : ∀ i, i < n → m i = m' i) : mb n m = mb n m' := by
  unfold mb
  refine List.map_congr_left fun i hi => ?_
  rw [h i (List.mem_range.mp hi)]
theorem bls_congr {n : Nat} {m m' : Nat → Bool} (h : ∀ i, i < n → m i = m' i) : bls n m = bls n m' := by
  unfold bls
  refine List.map_congr_left fun i hi => ?_
  rw [h i (List.mem_range.mp hi)]
theorem mb_all {K : PySem.W.Frag} {H : Hp} (n : Nat) (m : Nat → Bool) : DpAll K H (mb n m) (bls n m) := by
  have h := allOfBls (K := K) (H := H) ((List.range n).map m)
  rw [List.map_map, List.map_map] at h
  exact h
theorem all_mb {K : PySem.W.Frag} {H : Hp} {n : Nat} {m : Nat → Bool} {vs : List V} (h : DpAll K H vs (bls n m)) : vs = mb n m := by
  have e : bls n m = ((List.range n).map m).map PyData.bool := by rw [List.map_map]; rfl
  rw [e] at h
  rw [blsOfAll h, List.map_map]; rfl
theorem rep_mb : ∀ n : Nat, (List.replicate n [V.bl false]).flatten = mb n fun _ => false
  | 0 => rfl
  | n + 1 => by
    have e : mb (n + 1) (fun _ => false) = [V.bl false] ++ mb n fun _ => false := by
      unfold mb
      rw [List.range_succ_eq_map, List.map_cons, List.map_map]; rfl
    rw [List.replicate_succ, List.flatten_cons, rep_mb n, e]
section
variable {P : Program} {w : World} {K : PySem.W.Frag} {mg : Str → Option Value} {base : Heap}
def RMarks : List PyData → List PyData → Prop := fun ds out => ∃ (n : Nat) (rs : List (Nat × Nat)), ds = [.int (n : Int), sD rs] ∧ n ≤ 64 ∧ (∀ r ∈ rs, r.1 ≤ r.2 ∧ r.2 < n) ∧ out = bls n (memB rs)
theorem ok_marks {f : Addr} {fd : FuncData} {k : Nat} (F : Fun K "marks_of" "marks_of" sMarksOf f fd) (mr : mg "range" = none) : FnOk P w K mg base CX0 (k + 1) f fd ["size", "ranges"] (spN K RMarks) := by
  refine F.ok scMarksOf (fun vs H Q E h => ?_) (fun cdv A outer s H vs Q E hr h => ?_)
  · obtain ⟨ds, out, ha, ⟨n, rs, rfl, _⟩, _⟩ := h
    exact allLen ha
  · obtain ⟨ds, out, ha, ⟨n, rs, rfl, h64, hg, rfl⟩, q⟩ := h
    obtain ⟨x, y, rfl, hx, hy⟩ := all2 ha
    cases dpInt hx
    have nd := scMarksOf.nd
    refine ⟨_, pss_cons (ps_set (i := 2) nd rfl (.inl rfl) (pe_op op_rep (pe_lst (pa_cons pe_bl pa_nil)) (pv 0)))
      (pss_cons (ps_for PassesOwn.never rfl (pi_list (pv 1)) (pg_tup rfl (pgs_cons (pg_name (i := 3) nd rfl (.inl rfl)) (pgs_cons (pg_name (i := 4) nd rfl (.inl rfl)) pgs_nil)))
        (pss_one (ps_for PassesOwn.never rfl (pi_range2 (by rfl) mr (pa_cons (pv 3) (pa_cons (pe_op op_add (pv 4) pe_int) pa_nil))) (pg_name (i := 5) nd rfl (.inl rfl))
          (pss_one (ps_asg pe_bl (pg_sub (pv 2) (pv 5) set_list))))))
      (pss_one (ps_ret (pv 2)))), ?_⟩
    refine ⟨by show 1 ≤ sizeLine; decide, fun l hl => ⟨.int (n : Int), rfl, l, (n : Int), [.bl false], rfl, rfl, upd_same, by omega, by omega, ?_, fun p hp => ?_⟩⟩
    · show 1 * (n : Int).toNat ≤ sizeLine
      exact sz_of (by omega)
    have e1 : Ex H (upd (upd H l (.lst [.bl false])) p (.lst (List.replicate (n : Int).toNat [V.bl false]).flatten)) := (Ex.new hl).trans (Ex.new hp)
    have hp0 : H p = none := fresh_back (Ex.new hl) hp
    have h1 : (upd (upd H l (.lst [.bl false])) p (.lst (List.replicate (n : Int).toNat [V.bl false]).flatten)) p = some (.lst (mb n fun _ => false)) := by
      rw [upd_same, Int.toNat_natCast, rep_mb]
    generalize upd (upd H l (.lst [.bl false])) p (.lst (List.replicate (n : Int).toNat [V.bl false]).flatten) = H1 at e1 h1 ⊢
    refine sFor (B := H) e1 (wkList (ev_var (v := y) rfl) hy) (fun i σ' H' => Ex H H' ∧ H' p = some (.lst (mb n (memB (rs.take i)))) ∧ ∃ a b c, σ' = [some (.int (n : Int)), some y, some (.ref p), a, b, c]) (fun H2 e => ⟨e1.trans e, e p _ h1, none, none, none, rfl⟩) (fun i σ' H' _ p => p.1) (fun i x σ' H' H'' hi pv' e hd => ?_) (fun σ' H' pv' => ?_)
    · obtain ⟨e0, h0, a, b, c, rfl⟩ := pv'
      rw [List.length_map] at hi
      rw [getD_map rD (List.getElem?_eq_getElem hi)] at hd
      have g := hg rs[i] (List.getElem_mem hi)
      generalize hr' : rs[i] = r at hd g
      refine gPair hd fun y1 z1 hy1 hz1 => ?_
      cases dpInt hy1
      cases dpInt hz1
      refine s_forR2 (lo := (r.1 : Int)) (n := (r.2 : Int) + 1) (ea_cons (ev_var rfl) (ea_cons (ev_op (ev_var rfl) ev_c rv_I0) ea_nil)) ⟨by omega, by omega, by omega, by omega⟩
        (fun j σ' H' => Ex H H' ∧ H' p = some (.lst (mb n fun k => memB (rs.take i) k || (decide (r.1 ≤ k) && decide (k < r.1 + j)))) ∧ ∃ c, σ' = [some (.int (n : Int)), some y, some (.ref p), some (.int (r.1 : Int)), some (.int (r.2 : Int)), c]) (fun H2 e2 => ⟨(e0.trans e).trans e2, ?_, c, rfl⟩) (fun j σ' H2 hj p2 => ?_) (fun σ' H2 p2 => ?_)
      · rw [e2 p _ (e p _ h0)]
        refine congrArg (fun z => some (HO.lst z)) (mb_congr fun k _ => ?_)
        rw [show (decide (r.1 ≤ k) && decide (k < r.1 + 0)) = false by
          rw [Bool.and_eq_false_iff]
          by_cases c : r.1 ≤ k
          · right; rw [decide_eq_false]; omega
          · left; rw [decide_eq_false c], Bool.or_false]
      · obtain ⟨e3, h3, c, rfl⟩ := p2
        refine s_setL (j := r.1 + j) h3 ev_c (ev_var rfl) (ev_is (ev_var rfl) (congrArg V.int (by omega))) (by rw [mb_len]; omega) fun H4 e4 => ⟨Ex.mut (e3.trans e4) hp0, ?_, _, rfl⟩
        rw [upd_same, mb_set (m' := fun k => memB (rs.take i) k || (decide (r.1 ≤ k) && decide (k < r.1 + (j + 1))))]
        intro k _
        rw [Bool.or_assoc]
        refine congrArg _ ?_
        rw [Bool.eq_iff_iff]
        simp only [Bool.and_eq_true, Bool.or_eq_true, decide_eq_true_eq]
        omega
      · obtain ⟨e3, h3, c, rfl⟩ := p2
        refine ⟨e3, ?_, _, _, _, rfl⟩
        rw [h3]
        refine congrArg (fun z => some (HO.lst z)) (mb_congr fun k _ => ?_)
        rw [List.take_add_one, List.getElem?_eq_getElem hi, hr']
        show _ = memB (rs.take i ++ [r]) k
        rw [memB_append, memB_one]
        refine congrArg _ ?_
        rw [Bool.eq_iff_iff]
        simp only [Bool.and_eq_true, decide_eq_true_eq]
        omega
    · obtain ⟨e0, h0, a, b, c, rfl⟩ := pv'
      rw [List.length_map, List.take_length] at h0
      exact ⟨.ref p, rfl, q p _ H' hp0 e0 h0 (mb_all n _)⟩
end

/-! ### checked_marks -/
theorem range_getD {α β : Type} (g : α → β) (d : α) : ∀ xs : List α, (List.range xs.length).map (fun i => g (xs.getD i d)) = xs.map g
  | [] => rfl
  | x :: xs => by
    rw [List.length_cons, List.range_succ_eq_map, List.map_cons, List.map_map, List.map_cons, ← range_getD g d xs]
    rfl
theorem outs_all (n : Nat) (out : Nat → PyData) : outs n (fun _ => true) out = (List.range n).map out := by
  unfold outs
  rw [List.filter_eq_self.mpr (fun _ _ => rfl)]
theorem et_yes {σ : L2.St} {H : Hp} : EvT tYes σ H true := fun H1 _ Q q => q H1 (Ex.refl H1)
theorem sDropD {K : PySem.W.Frag} {σ : L2.St} {H : Hp} {te : TE} {D : Ends} {d : PyData} (h : EvD K te σ H d) (k : ∀ H1, Ex H H1 → D.nx σ H1) : tDrop te D σ H := h H (Ex.refl H) _ fun _ H1 e _ => k H1 e
theorem getD_at {α : Type} {xs : List α} {i : Nat} (d : α) (h : i < xs.length) : xs.getD i d = xs[i] := by
  rw [List.getD_eq_getElem?_getD, List.getElem?_eq_getElem h]; rfl
section
variable {P : Program} {w : World} {K : PySem.W.Frag} {mg : Str → Option Value} {base : Heap}
def mD (n : Nat) (rs : List (Nat × Nat)) : PyData := .list (bls n (memB rs))
def RChecked : List PyData → List PyData → Prop := fun ds out => ∃ (n : Nat) (rss : List (List (Nat × Nat))), ds = [.int (n : Int), .list (rss.map sD)] ∧ 1 ≤ n ∧ n ≤ 64 ∧ rss.length ≤ 100 ∧ (∀ rs ∈ rss, Good n rs) ∧ out = rss.map (mD n)
end

/-! ### ranges_of -/
theorem told_ne {m : Nat → Bool} {i : Nat} (h : st m i < i) : told m i ≠ [] := by
  obtain ⟨pre, e, _⟩ := (kept m i).shape
  rw [e, if_pos h]
  simp
theorem set_last {α : Type} (x : α) : ∀ xs : List α, xs ≠ [] → xs.set (xs.length - 1) x = xs.dropLast ++ [x]
  | [], h => absurd rfl h
  | [a], _ => rfl
  | a :: b :: r, _ => by
    have ih := set_last x (b :: r) (by simp)
    show a :: ((b :: r).set ((b :: r).length - 1) x) = a :: ((b :: r).dropLast ++ [x])
    rw [ih]
theorem ixN_last {n : Nat} (h : 0 < n) : ixN n (-1) = some (n - 1) := by
  unfold ixN
  rw [if_neg (by decide), if_pos (by omega)]
  exact congrArg some (by omega)
theorem sSetLast {σ : L2.St} {H : Hp} {te ta tb : TE} {D : Ends} {l : Addr} {xs ys : List V} (hl : H l = some (.lst xs)) (h : EvU te σ H ys) (ho : Ev ta σ H (.ref l)) (hi : Ev tb σ H (.int (-1))) (hx : 0 < xs.length)
    (k : ∀ p H1, Ex H H1 → H1 p = some (.tup ys) → D.nx σ (upd H1 l (.lst (xs.set (xs.length - 1) (.ref p))))) : tAsg te (gSub ta tb rSetL) D σ H := h H (Ex.refl H) _ fun p H1 _ e1 hp => ho H1 e1 _ fun H2 e2 => hi H2 (e1.trans e2) _ fun H3 e3 =>
  ⟨l, xs, -1, xs.length - 1, rfl, rfl, ((e1.trans e2).trans e3) l _ hl, ixN_last hx, k p H3 ((e1.trans e2).trans e3) ((e2.trans e3) p _ hp)⟩
section
variable {P : Program} {w : World} {K : PySem.W.Frag} {mg : Str → Option Value} {base : Heap}
def RRanges : List PyData → List PyData → Prop := fun ds out => ∃ (n : Nat) (m : Nat → Bool), ds = [.list (bls n m)] ∧ n ≤ 64 ∧ out = (told m n).map rD
theorem ok_ranges {f : Addr} {fd : FuncData} {k : Nat} (F : Fun K "ranges_of" "ranges_of" sRangesOf f fd) (me : mg "enumerate" = none) : FnOk P w K mg base CX0 (k + 1) f fd ["marks"] (spN K RRanges) := by
  refine F.ok scRangesOf (fun vs H Q E h => ?_) (fun cdv A outer s H vs Q E hr h => ?_)
  · obtain ⟨ds, out, ha, ⟨n, m, rfl, _⟩, _⟩ := h
    exact allLen ha
  · obtain ⟨ds, out, ha, ⟨n, m, rfl, h64, rfl⟩, q⟩ := h
    obtain ⟨y, rfl, hy⟩ := all1 ha
    have nd := scRangesOf.nd
    refine ⟨_, pss_cons (ps_set (i := 1) nd rfl (.inl rfl) (pe_lst pa_nil)) (pss_cons (ps_set (i := 2) nd rfl (.inl rfl) pe_int)
      (pss_cons (ps_for PassesOwn.never rfl (pi_enum (by rfl) me (pa_cons (pv 0) pa_nil)) (pg_tup rfl (pgs_cons (pg_name (i := 3) nd rfl (.inl rfl)) (pgs_cons (pg_name (i := 4) nd rfl (.inl rfl)) pgs_nil)))
        (pss_one (ps_if (pt_not (pt_val (pv 4))) (pss_one (ps_set (i := 2) nd rfl (.inl rfl) (pe_op op_add (pv 3) pe_int)))
          (pss_one (ps_if (pt_cmpR op_eq (pv 2) (pv 3) (nomark _))
            (pss_one (ps_expr (pe_bm PySem.F.plainAttrs_list PySem.F.slot_list_append PySem.F.type_list_append mt_append (pv 1) (pa_cons (pe_tup (pa_cons (pv 2) (pa_cons (pv 3) pa_nil))) pa_nil))))
            (pss_one (ps_asg (pe_tup (pa_cons (pv 2) (pa_cons (pv 3) pa_nil))) (pg_sub (pv 1) (pe_un un_neg pe_int) set_list))))))))
      (pss_one (ps_ret (pv 1))))), ?_⟩
    refine ⟨Nat.zero_le _, fun l hl => ?_⟩
    have e1 : Ex H (upd H l (.lst [])) := Ex.new hl
    have h1 : (upd H l (.lst [])) l = some (.lst []) := upd_same
    generalize upd H l (.lst []) = H1 at e1 h1 ⊢
    refine sFor (B := H) e1 (wkEnum (ev_var (v := y) rfl) hy) (fun i σ' H' => Ex H H' ∧ (∃ acc, H' l = some (.lst acc) ∧ DpAll K (rm H' l) acc ((told m i).map rD)) ∧ ∃ a b, σ' = [some y, some (.ref l), some (.int (st m i : Nat)), a, b]) (fun H2 e => ⟨e1.trans e, ⟨[], e l _ h1, .nil⟩, none, none, rfl⟩) (fun i σ' H' _ p => p.1) (fun i x σ' H' H'' hi p e hd => ?_) (fun σ' H' p => ?_)
    · obtain ⟨e0, ⟨acc, h0, hA⟩, a, b, rfl⟩ := p
      rw [bls_len] at hi
      rw [getD_bls m hi] at hd
      have e0'' := e0.trans e
      have h0'' := e l _ h0
      have hA'' := monoA (rmMono (D := l) e) hA
      have hlen : acc.length = (told m i).length := by rw [allLen hA, List.length_map]
      have hshort : acc.length < 100000 := by have := told_len m i; omega
      have hle := st_le m i
      refine gPair hd fun y1 z1 hy1 hz1 => ?_
      cases dpInt hy1
      cases dpBool hz1
      refine s_if (b := !m i) (et_not (et_B (ev_var rfl))) (fun hb H2 e2 => ?_) (fun hb H2 e2 => ?_)
      · have hm : m i = false := by simpa using hb
        refine s_asg (ev_op (z := .int ((i + 1 : Nat) : Int)) (ev_var rfl) ev_c (fun H3 _ _ q => ⟨_, _, rfl, rfl, q H3 (Ex.refl H3)⟩)) fun H3 e3 => ⟨(e0''.trans e2).trans e3, ⟨acc, (e2.trans e3) l _ h0'', ?_⟩, some (.int (i : Nat)), some (.bl (m i)), ?_⟩
        · rw [told, if_neg (by rw [hm]; decide)]
          exact monoA (rmMono (e2.trans e3)) hA''
        · rw [st_no hm]; rfl
      · have hm : m i = true := by simpa using hb
        have es : st m (i + 1) = st m i := st_yes hm
        have tup : ∀ {H3 H4 : Hp} {p : Addr} {xs : List V}, H3 l = some (.lst xs) → H3 p = some (.tup [.int (st m i : Nat), .int (i : Nat)]) → H4 = H3 → Dp K (rm H4 l) (.ref p) (rD (st m i, i)) := fun {H3 H4 p xs} a b c => by
          subst c
          refine .tup (st_of ?_) (.cons (.int _) (.cons (.int _) .nil))
          rw [rmNe (ne_of b a (by intro z; cases z))]
          exact b
        refine s_if (b := decide (V.int (st m i : Nat) = V.int (i : Nat))) (et_test (ev_op (ev_var rfl) (ev_var rfl) (rv_eq rfl))) (fun hb2 H3 e3 => ?_) (fun hb2 H3 e3 => ?_)
        · have hst : st m i = i := by
            have z := V.int.inj (of_decide_eq_true hb2)
            omega
          have e23 := e2.trans e3
          refine s_appU (e23 l _ h0'') (ev_var rfl) (eu_tup (ea_cons (ev_var rfl) (ea_cons (ev_var rfl) ea_nil)) (by show 2 ≤ 100000; decide)) hshort fun p H4 hp e4 h4 => ⟨Ex.mut ((e0''.trans e23).trans e4) hl, ⟨_, upd_same, ?_⟩, some (.int (i : Nat)), some (.bl (m i)), ?_⟩
          · rw [rmUpd, told, if_pos hm, if_pos hst, List.map_append]
            refine allApp (monoA (rmMono (e23.trans e4)) hA'') (.cons ?_ .nil)
            have t := tup (e4 l _ (e23 l _ h0'')) h4 rfl
            rw [hst] at t
            exact t
          · rw [es]; rfl
        · have hst : st m i ≠ i := fun z => by
            rw [z, decide_eq_true rfl] at hb2; cases hb2
          have e23 := e2.trans e3
          have hne := told_ne (m := m) (i := i) (by omega)
          have hpos : 0 < acc.length := by
            rw [hlen]
            exact List.length_pos_iff.mpr hne
          refine sSetLast (e23 l _ h0'') (eu_tup (ea_cons (ev_var rfl) (ea_cons (ev_var rfl) ea_nil)) (by show 2 ≤ 100000; decide)) (ev_var rfl) (ev_un ev_c ru_neg) hpos fun p H4 e4 h4 => ⟨Ex.mut ((e0''.trans e23).trans e4) hl, ⟨_, upd_same, ?_⟩, some (.int (i : Nat)), some (.bl (m i)), ?_⟩
          · have t := allSet (tup (e4 l _ (e23 l _ h0'')) h4 rfl) (acc.length - 1) (monoA (rmMono (e23.trans e4)) hA'')
            rw [rmUpd, told, if_pos hm, if_neg hst]
            rw [hlen] at t ⊢
            rw [← List.map_set, set_last _ _ hne] at t
            exact t
          · rw [es]; rfl
    · obtain ⟨e0, ⟨acc, h0, hA⟩, a, b, rfl⟩ := p
      rw [bls_len] at hA
      exact ⟨.ref l, rfl, q l acc H' hl e0 h0 (monoA rmEx hA)⟩
end
/-! ### lists of tuples stay when a list is changed -/
theorem keepT {K : PySem.W.Frag} {H : Hp} {D : Addr} {ys zs xs : List V} {ds : List PyData} (hD : H D = some (.lst ys)) (hn : noLs ds = true) (h : DpAll K H xs ds) : DpAll K (upd H D (.lst zs)) xs ds := by
  have a := dpAllRm hD ds xs hn h
  rw [← rmUpd (o := .lst zs)] at a
  exact monoA rmEx a
theorem noRs (rs : List (Nat × Nat)) : noLs (rs.map rD) = true := noLs_map noL_rD rs

/-! ### the six functions -/
def iD' (i : Nat) : PyData := .int (i : Int)
theorem sAsgUn2 {K : PySem.W.Frag} {σ : L2.St} {H : Hp} {te : TE} {D : Ends} {i j : Nat} {d e : PyData} (h : EvD K te σ H (.list [d, e])) (k : ∀ x y H1, Ex H H1 → Dp K H1 x d → Dp K H1 y e → D.nx ((σ.set i (some x)).set j (some y)) H1) :
    tAsg te (gUnl K 2 (gCons (gName i) (gCons (gName j) gNil))) D σ H := h H (Ex.refl H) _ fun v H1 e1 hd => by
  obtain ⟨a, xs, rfl, hs, ha⟩ := dpList hd
  obtain ⟨x, y, rfl, h1, h2⟩ := all2 ha
  exact ⟨a, _, rfl, hs, rfl, x, [y], rfl, y, [], rfl, rfl, k x y H1 e1 h1 h2⟩
section
variable {P : Program} {w : World} {K : PySem.W.Frag} {mg : Str → Option Value} {base : Heap}
/-- what plain and the like tell: of a size and a set | two sets -/
def R1 (out : Nat → List (Nat × Nat) → List PyData) : List PyData → List PyData → Prop := fun ds o => ∃ (n : Nat) (rs : List (Nat × Nat)), ds = [.int (n : Int), sD rs] ∧ 1 ≤ n ∧ n ≤ 64 ∧ Good n rs ∧ o = out n rs
def R2' (op : Bool → Bool → Bool) : List PyData → List PyData → Prop := fun ds o => ∃ (n : Nat) (rs ss : List (Nat × Nat)), ds = [.int (n : Int), sD rs, sD ss] ∧ 1 ≤ n ∧ n ≤ 64 ∧ Good n rs ∧ Good n ss ∧ o = (told (fun k => op (memB rs k) (memB ss k)) n).map rD
abbrev RMembers := R1 fun n rs => ((List.range n).filter (memB rs)).map iD'
abbrev RPlain := R1 fun n rs => (told (memB rs) n).map rD
abbrev ROthers := R1 fun n rs => (told (fun k => !memB rs k) n).map rD
theorem marks0 {σ : L2.St} {H : Hp} {n : Nat} {rs : List (Nat × Nat)} {y : V} (h0 : σ[0]? = some (some (.int (n : Int)))) (h1 : σ[1]? = some (some y)) (hy : Dp K H y (sD rs)) (hn : 1 ≤ n ∧ n ≤ 64) (hg : Good n rs) :
    EvD K (tOp (rIxL K) (tCall (spN K RChecked) [] E0 (tCons (tVar 0) (tCons (tLst (tCons (tVar 1) tNil)) tNil))) (tC (.int 0))) σ H (mD n rs) :=
  dIxL (nCall (da2 (dVar h0 (.int (n : Int))) (nLst (da1 (dVar h1 hy)) (by show 1 ≤ 100000; decide)).asD) ⟨n, [rs], rfl, hn.1, hn.2, by show 1 ≤ 100; decide, fun r hr => by rw [List.mem_singleton.mp hr]; exact hg, rfl⟩).asD ev_c rfl
/-- two sets, taken together by op: the comprehension's element -/
theorem two_sets {op : Bool → Bool → Bool} {te : TE} {D : Ends} {Q : VK} {n : Nat} {rs ss : List (Nat × Nat)} {H : Hp} {y z : V} (hrt : D.rt = Q) (hn1 : 1 ≤ n) (hn64 : n ≤ 64) (hg : Good n rs) (hg' : Good n ss) (hy : Dp K H y (sD rs)) (hz : Dp K H z (sD ss))
    (q : NewL K H Q ((told (fun k => op (memB rs k) (memB ss k)) n).map rD)) (he : ∀ (σ : L2.St) (H : Hp) (a b : Bool), σ[5]? = some (some (.bl a)) → σ[6]? = some (some (.bl b)) → Ev te σ H (.bl (op a b))) :
    tSeq (tAsg (tCall (spN K RChecked) [] E0 (tCons (tVar 0) (tCons (tLst (tCons (tVar 1) (tCons (tVar 2) tNil))) tNil))) (gUnl K 2 (gCons (gName 3) (gCons (gName 4) gNil))))
      (tRet (tCall (spN K RRanges) [] E0 (tCons (tLc (iZip K (tCons (tVar 3) (tCons (tVar 4) tNil))) (gTup K 2 (gCons (gName 5) (gCons (gName 6) gNil))) tYes te [5, 6]) tNil))) D [some (.int (n : Int)), some y, some z, none, none, none, none] H := by
  have gg : ∀ r ∈ [rs, ss], Good n r := fun r hr => by
    rcases List.mem_cons.mp hr with rfl | hr
    · exact hg
    · rw [List.mem_singleton.mp hr]; exact hg'
  refine sAsgUn2 (K := K) (nCall (da2 (dVar rfl (.int (n : Int))) (nLst (da2 (dVar (v := y) rfl hy) (dVar (v := z) rfl hz)) (by show 2 ≤ 100000; decide)).asD) ⟨n, [rs, ss], rfl, hn1, hn64, by show 2 ≤ 100; decide, gg, rfl⟩).asD fun u v H1 e1 hu hv => ?_
  have N := nLc (K := K) (σ := [some (.int (n : Int)), some y, some z, some u, some v, none, none]) (H := H1) (wi := iZip K (tCons (tVar 3) (tCons (tVar 4) tNil))) (g := gTup K 2 (gCons (gName 5) (gCons (gName 6) gNil))) (tt := tYes) (te := te) (vs := [5, 6]) (fun _ => true) (fun i => .bool (op (memB rs i) (memB ss i))) (by rw [bls_len]; omega) (wkZip (ev_var (v := u) rfl) hu (ev_var (v := v) rfl) hv (by rw [bls_len, bls_len])).asN (fun Dl i x H3 hi e3 hd => by
    rw [bls_len] at hi
    rw [getD_bls _ hi, getD_bls _ hi] at hd
    refine ⟨[some (.int (n : Int)), some y, some z, some u, some v, some (.bl (memB rs i)), some (.bl (memB ss i))], fun Q q => gPair hd fun y1 z1 hy1 hz1 => ?_, rfl, et_yes, fun _ => (bD (he _ _ _ _ rfl rfl)).x rfl⟩
    cases dpBool hy1
    cases dpBool hz1
    exact q)
  rw [bls_len, outs_all] at N
  refine sRetN (nCall (da1 N.asD) ⟨n, fun k => op (memB rs k) (memB ss k), rfl, hn64, rfl⟩) ?_
  rw [hrt]
  exact q.ex e1
end

/-! ### check_number, inside -/
theorem sAsgPair {K : PySem.W.Frag} {σ : L2.St} {H : Hp} {te : TE} {D : Ends} {i j : Nat} {d e : PyData} (h : EvD K te σ H (.tuple [d, e])) (k : ∀ x y H1, Ex H H1 → Dp K H1 x d → Dp K H1 y e → D.nx ((σ.set i (some x)).set j (some y)) H1) : tAsg te (gTup K 2 (gCons (gName i) (gCons (gName j) gNil))) D σ H := h H (Ex.refl H) _ fun v H1 e1 hd => gPair hd fun x y hx hy => k x y H1 e1 hx hy
theorem lenL {K : PySem.W.Frag} {σ : L2.St} {H : Hp} {j : Nat} {v : V} {ds : List PyData} {r : List V → Hp → VK → Prop} (h : σ[j]? = some (some v)) (hd : Dp K H v (.list ds)) (hr : r = fun xs H Q => ∃ p ys, xs = [.ref p] ∧ (SqL K H p ys ∨ SqT K H p ys) ∧ Q (.int ys.length) H) : Ev (tCB r (tCons (tVar j) tNil)) σ H (.int (ds.length : Int)) := fun H1 e Q q => by
  subst hr
  obtain ⟨a, xs, rfl, hs, ha⟩ := dpList (SB.mono e hd)
  exact ⟨.ref a, h, a, xs, rfl, .inl hs, by rw [allLen ha]; exact q H1 (Ex.refl H1)⟩
section
variable {P : Program} {w : World} {K : PySem.W.Frag} {mg : Str → Option Value} {base : Heap}
def RNum : List PyData → PyData → Prop := fun ds out => ∃ n x : Nat, ds = [.int (n : Int), .int (x : Int)] ∧ x < n ∧ out = .none
def looks (n : Nat) (rs : List (Nat × Nat)) (x : Nat) : Bool × List (Nat × Nat) := look (told (memB rs) n) x (told (memB rs) n).length 0 (told (memB rs) n).length
def spInside (K : PySem.W.Frag) : Sp := fun vs H Q _ => ∃ (n : Nat) (rs : List (Nat × Nat)) (x : Nat), DpAll K H vs [.int (n : Int), sD rs, .int (x : Int)] ∧ 1 ≤ n ∧ n ≤ 64 ∧ Good n rs ∧ x < n ∧
  ∀ T g xs H', H T = none → H g = none → Ex H H' → H' T = some (.tup [.bl (looks n rs x).1, .ref g]) → H' g = some (.lst xs) → DpAll K H' xs ((looks n rs x).2.map rD) → Q (.ref T) H'
end

/-! ### the law's own draws -/
structure DOk (s : List Int) : Prop where
  ex : ∃ a b r, s = a :: b :: r ∧ 0 ≤ a ∧ 0 ≤ b ∧ ∀ x ∈ r, 0 < x
/-- the draws stand at d -/
def DSt (H : Hp) (d : Addr) : Prop := ∃ s : List Int, H d = some (.lst (s.map V.int)) ∧ DOk s ∧ s.length ≤ 100
/-- what a call that draws may do -/
structure Dk (d : Addr) (H H' : Hp) : Prop where
  st : DSt H' d
  ex : Ex (rm H d) (rm H' d)
theorem Dk.refl {d : Addr} {H : Hp} (h : DSt H d) : Dk d H H := ⟨h, Ex.refl _⟩
theorem Dk.trans {d : Addr} {H H1 H2 : Hp} (a : Dk d H H1) (b : Dk d H1 H2) : Dk d H H2 := ⟨b.st, a.ex.trans b.ex⟩
theorem Dk.of {d : Addr} {H H1 : Hp} (h : DSt H d) (e : Ex H H1) : Dk d H H1 := by
  obtain ⟨s, h1, h2, h3⟩ := h
  exact ⟨⟨s, e d _ h1, h2, h3⟩, rmMono e⟩
theorem Dk.fresh {d : Addr} {H H1 : Hp} (a : Dk d H H1) {p : Addr} (h : H1 p = none) : H p = none := by
  obtain ⟨s, h1, _⟩ := a.st
  have hp : p ≠ d := fun z => by rw [z, h1] at h; cases h
  have q := fresh_back a.ex (p := p) (by rw [rmNe hp]; exact h)
  rw [rmNe hp] at q
  exact q
theorem Dk.keep {d : Addr} {H H1 : Hp} (a : Dk d H H1) {p : Addr} {o : HO} (hp : p ≠ d) (h : H p = some o) : H1 p = some o := by
  have q := a.ex p o (by rw [rmNe hp]; exact h)
  rw [rmNe hp] at q
  exact q
theorem DSt.ne {H : Hp} {d p : Addr} (h : DSt H d) (hp : H p = none) : p ≠ d := fun z => by
  obtain ⟨s, h1, _⟩ := h
  rw [z, h1] at hp; cases hp
theorem DSt.ne' {H : Hp} {d p : Addr} (h : DSt H d) (hp : H p = some (.lst [])) : p ≠ d := fun z => by
  obtain ⟨s, h1, ⟨a, b, r, e, _⟩, _⟩ := h
  rw [z, h1, e] at hp; cases hp
def diceF (k : Int) (ns : List Int) : Int := ns.foldl (fun a c => (a * 31 + (if c < 0 then -c else c)) % 2147483647) k
theorem diceF_nn {k : Int} (hk : 0 ≤ k ∧ k < 2147483647) : ∀ ns : List Int, 0 ≤ diceF k ns ∧ diceF k ns < 2147483647 := by
  intro ns
  induction ns generalizing k with
  | nil => exact hk
  | cons c r ih =>
    refine ih (k := (k * 31 + (if c < 0 then -c else c)) % 2147483647) ⟨?_, ?_⟩
    · exact Int.emod_nonneg _ (by decide)
    · exact Int.emod_lt_of_pos _ (by decide)
def big (ns : List Int) : List Int := ns.filter fun c => decide ((10 : Int) ^ 18 ≤ c)
theorem dice_ok {k : Int} (hk : 0 ≤ k ∧ k < 2147483647) (ns : List Int) : DOk (diceF k ns :: 0 :: big ns) :=
  ⟨_, _, _, rfl, (diceF_nn hk ns).1, Int.le_refl 0, fun x hx => by
    have h := of_decide_eq_true (List.mem_filter.mp hx).2
    have : (0 : Int) < 10 ^ 18 := by decide
    omega⟩
theorem nCat {K : PySem.W.Frag} {σ : L2.St} {H : Hp} {ta tb : TE} {ds es : List PyData} (ha : EvN K ta σ H ds) (hb : EvN K tb σ H es) (hl : ds.length + es.length ≤ 100000) : EvN K (tOp rCat ta tb) σ H (ds ++ es) := fun H1 e Q q =>
  ha H1 e _ fun l xs H2 hl' e2 h2 a2 => hb H2 (e.trans e2) _ fun b zs H3 hb' e3 h3 a3 => ⟨l, b, xs, zs, rfl, rfl, e3 l _ h2, h3, sz_of (by rw [allLen a2, allLen a3]; exact hl), fun p hp =>
    q p _ _ (fresh_back (e2.trans e3) hp) ((e2.trans e3).trans (Ex.new hp)) upd_same (monoA (Ex.new hp) (allApp (monoA e3 a2) a3))⟩
theorem outs_map (f : Int → Bool) : ∀ ns : List Int, outs ns.length (fun i => f (ns.getD i 0)) (fun i => .int (ns.getD i 0)) = (ns.filter f).map PyData.int := by
  intro ns
  have key : ∀ ns : List Int, ((List.range ns.length).filter (fun i => f (ns.getD i 0))).map (fun i => ns.getD i 0) = ns.filter f := by
    intro ns
    induction ns with
    | nil => rfl
    | cons x r ih =>
      rw [List.length_cons, List.range_succ_eq_map, List.filter_cons, List.filter_map]
      have e : (List.filter ((fun i => f ((x :: r).getD i 0)) ∘ Nat.succ) (List.range r.length)) = List.filter (fun i => f (r.getD i 0)) (List.range r.length) := rfl
      rw [e]
      have e2 : ((List.filter (fun i => f (r.getD i 0)) (List.range r.length)).map Nat.succ).map (fun i => (x :: r).getD i 0) = r.filter f := by
        rw [List.map_map, ← ih]; rfl
      by_cases c : f x = true
      · rw [if_pos (show f ((x :: r).getD 0 0) = true from c), List.map_cons, e2, List.filter_cons, if_pos c]; rfl
      · rw [if_neg (show ¬ f ((x :: r).getD 0 0) = true from c), e2, List.filter_cons, if_neg c]
  unfold outs
  rw [← key ns, List.map_map]; rfl
theorem getD_int {ns : List Int} {i : Nat} (h : i < ns.length) : (ns.map PyData.int).getD i .none = .int (ns.getD i 0) := by
  rw [getD_map PyData.int (List.getElem?_eq_getElem h), getD_at 0 h]
section
variable {P : Program} {w : World} {K : PySem.W.Frag} {mg : Str → Option Value} {base : Heap}
def RDice : List PyData → List PyData → Prop := fun ds out => ∃ (ns : List Int) (k : Int), ds = [.list (ns.map PyData.int), .int k] ∧ ns.length ≤ 63 ∧ 0 ≤ k ∧ k < 2147483647 ∧ out = (diceF k ns :: 0 :: big ns).map PyData.int
theorem ok_dice {f : Addr} {fd : FuncData} {k : Nat} (F : Fun K "_law_dice" "_law_dice" sLawDice f fd) (ma : mg "abs" = none) : FnOk P w K mg base CX0 (k + 1) f fd ["_law_script", "_law_k"] (spN K RDice) := by
  refine F.ok scLawDice (fun vs H Q E h => ?_) (fun cdv A outer s H vs Q E hr h => ?_)
  · obtain ⟨ds, out, ha, ⟨n, rs, rfl, _⟩, _⟩ := h
    exact allLen ha
  · obtain ⟨ds, out, ha, ⟨ns, kk, rfl, hl, hk0, hk1, rfl⟩, q⟩ := h
    obtain ⟨y, x, rfl, hy, hx⟩ := all2 ha
    cases dpInt hx
    have nd := scLawDice.nd
    refine ⟨_, pss_cons (ps_set (i := 2) nd rfl (.inl rfl) (pv 1))
      (pss_cons (ps_for PassesOwn.never rfl (pi_list (pv 0)) (pg_name (i := 3) nd rfl (.inl rfl))
        (pss_one (ps_set (i := 2) nd rfl (.inl rfl) (pe_op op_mod (pe_op op_add (pe_op op_mul (pv 2) pe_int) (pe_callB call_abs (by rfl) ma (by decide +kernel) (pa_cons (pv 3) pa_nil))) pe_int))))
      (pss_one (ps_ret (pe_op op_cat (pe_lst (pa_cons (pv 2) (pa_cons pe_int pa_nil))) (pe_lc (own := [("_law_cell", 3)]) (g := gName 3) (tt := tTest (tOp (rI0 fun i j => .bl (decide (j ≤ i))) (tVar 3) (tOp (rI CPow fun i j => .int (i ^ j.toNat)) (tC (.int 10)) (tC (.int 18))))) rfl nd (pi_list (pv 0)) (blkOk_by (own := [("_law_cell", 3)]) (N := nLawDice) (sc := defScope sLawDice) (by decide +kernel))
        (fun _ _ _ _ _ => pg_name (i := 3) nd rfl (Or.inl rfl)) (fun _ _ _ _ _ => pts_one (pt_cmpR op_ge (pv 3) (pe_op op_pow pe_int pe_int) (nomark _))) (fun _ _ _ _ _ => pv 3)))))), ?_⟩
    refine s_asg (ev_var (v := .int kk) rfl) fun H1 e1 => ?_
    refine sFor (B := H) e1 (wkList (ev_var (v := y) rfl) hy) (fun i σ' H' => Ex H H' ∧ ∃ a, σ' = [some y, some (.int kk), some (.int (diceF kk (ns.take i))), a]) (fun H2 e => ⟨e1.trans e, none, rfl⟩) (fun i σ' H' _ p => p.1) (fun i x σ' H' H'' hi p e hd => ?_) (fun σ' H' p => ?_)
    · obtain ⟨e0, a, rfl⟩ := p
      rw [List.length_map] at hi
      rw [getD_int hi] at hd
      cases dpInt hd
      refine s_asg (ev_op (ev_op (x := .int (diceF kk (ns.take i) * 31)) (y := .int (if ns.getD i 0 < 0 then -ns.getD i 0 else ns.getD i 0)) (ev_op (ev_var (v := .int (diceF kk (ns.take i))) rfl) ev_c (rv_I (.inr ⟨by decide, by decide⟩))) (fun H3 _ Q q => ⟨_, rfl, _, rfl, q H3 (Ex.refl H3)⟩) rv_I0) ev_c (rv_I (by decide))) fun H3 e3 => ⟨(e0.trans e).trans e3, some (.int (ns.getD i 0)), ?_⟩
      rw [List.take_add_one, List.getElem?_eq_getElem hi, getD_at 0 hi]
      unfold diceF
      rw [List.foldl_append]; rfl
    · obtain ⟨e0, a, rfl⟩ := p
      have N := nLc (K := K) (σ := [some y, some (.int kk), some (.int (diceF kk ns)), a]) (H := H') (wi := iList K (tVar 0)) (g := gName 3) (tt := tTest (tOp (rI0 fun i j => .bl (decide (j ≤ i))) (tVar 3) (tOp (rI CPow fun i j => .int (i ^ j.toNat)) (tC (.int 10)) (tC (.int 18))))) (te := tVar 3) (vs := [3]) (fun i => decide ((10 : Int) ^ 18 ≤ ns.getD i 0)) (fun i => .int (ns.getD i 0)) (by rw [List.length_map]; omega) (wkList (ev_var (v := y) rfl) (SB.mono e0 hy)).asN (fun Dl i x H3 hi e3 hd => by
        rw [List.length_map] at hi
        rw [getD_int hi] at hd
        cases dpInt hd
        exact ⟨_, fun Q q => q, rfl, et_test (ev_op (ev_var (v := .int (ns.getD i 0)) rfl) (ev_op (z := .int ((10 : Int) ^ 18)) ev_c ev_c (rv_I ⟨by decide, by decide, by decide⟩)) rv_I0), fun _ => (dVar (d := .int (ns.getD i 0)) rfl (.int _)).x rfl⟩)
      rw [List.length_map, outs_map (fun c => decide ((10 : Int) ^ 18 ≤ c))] at N
      rw [List.length_map, List.take_length]
      refine sRetN (nCat (nLst (da2 (dVar (v := .int (diceF kk ns)) rfl (.int _)) dInt) (by show 2 ≤ 100000; decide)) N ?_) (q.ex e0)
      have : (ns.filter (fun c => decide ((10 : Int) ^ 18 ≤ c))).length ≤ ns.length := List.length_filter_le _ _
      rw [List.length_map]
      show 2 + _ ≤ 100000
      omega
end

section
variable {P : Program} {w : World} {K : PySem.W.Frag} {mg : Str → Option Value} {base : Heap}
/-! ### _law_off -/
def spOff : Sp := fun vs H Q _ => ∃ (d : Addr) (m : Int), vs = [.ref d, .int m] ∧ DSt H d ∧ 0 < m ∧ m < 1000000 ∧ ∀ r H', 0 ≤ r → r < m → Dk d H H' → Q (.int r) H'
theorem dk_upd {d : Addr} {H H1 : Hp} {s : List Int} (e : Ex (rm H d) (rm H1 d)) (ok : DOk s) (hl : s.length ≤ 100) : Dk d H (upd H1 d (.lst (s.map V.int))) :=
  ⟨⟨s, upd_same, ok, hl⟩, by rw [rmUpd]; exact e⟩
theorem at0 {a b : Int} {r : List Int} : atI ((a :: b :: r).map V.int) 0 = some (.int a) := atI_nat (j := 0) rfl
theorem at1 {a b : Int} {r : List Int} : atI ((a :: b :: r).map V.int) 1 = some (.int b) := atI_nat (j := 1) rfl
theorem ok_off {f : Addr} {fd : FuncData} {k : Nat} (F : Fun K "_law_off" "_law_off" sLawOff f fd) (ml : mg "len" = none) : FnOk P w K mg base CX0 (k + 1) f fd ["_law_d", "_law_most"] spOff := by
  refine F.ok scLawOff (fun vs H Q E h => ?_) (fun cdv A outer s H vs Q E hr h => ?_)
  · obtain ⟨d, m, rfl, _⟩ := h
    rfl
  · obtain ⟨d, m, rfl, ⟨s0, hd, ok, hl⟩, hm0, hm1, q⟩ := h
    obtain ⟨a, b, r, rfl, ha, hb, hr'⟩ := ok.ex
    have nd := scLawOff.nd
    refine ⟨_, pss_cut (ps_if (PW.pt (pw_and (pt_cmpR op_eq (pe_ix ix_list (pv 0) pe_int (fun _ _ => rfl)) pe_int (nomark _)) (pw_and1 (pt_cmpR op_gt (pe_callB call_len_seq (by rfl) ml PySem.boot_len (pa_cons (pv 0) pa_nil)) pe_int (nomark _)))))
        (pss_one (ps_asg (pe_bm PySem.F.plainAttrs_list PySem.F.slot_list_pop PySem.F.type_list_pop mt_popAt (pv 0) (pa_cons pe_int pa_nil)) (pg_sub (pv 0) pe_int set_list))) pss_nil)
      (pss_cons (ps_if (pt_cmpR op_gt (pe_ix ix_list (pv 0) pe_int (fun _ _ => rfl)) pe_int (nomark _))
        (pss_cons (ps_set (i := 2) nd rfl (.inl rfl) (pe_op op_mod (pe_ix ix_list (pv 0) pe_int (fun _ _ => rfl)) (pv 1)))
        (pss_cons (ps_asg (pe_op op_fdiv (pe_ix ix_list (pv 0) pe_int (fun _ _ => rfl)) (pv 1)) (pg_sub (pv 0) pe_int set_list)) (pss_one (ps_ret (pv 2))))) pss_nil)
      (pss_cons (ps_asg (pe_op op_mod (pe_op op_add (pe_op op_mul (pe_ix ix_list (pv 0) pe_int (fun _ _ => rfl)) pe_int) pe_int) pe_int) (pg_sub (pv 0) pe_int set_list))
      (pss_one (ps_ret (pe_op op_mod (pe_op op_fdiv (pe_ix ix_list (pv 0) pe_int (fun _ _ => rfl)) pe_int) (pv 1)))))), ?_⟩
    refine ⟨fun σ' H' => σ' = [some (.ref d), some (.int m), none] ∧ Dk d H H', ?_, fun σ' H1 hM => ?_⟩
    · -- if d[1] == 0 and len(d) > 2
      have dk0 : Dk d H H := Dk.refl ⟨_, hd, ok, hl⟩
      refine ⟨.ref d, rfl, d, _, 1, .int b, rfl, rfl, SqL.of hd, at1, rfl, _, rfl, ite2 (fun c => ?_) (fun c => ?_)⟩
      · refine ⟨.ref d, rfl, d, _, rfl, .inl (SqL.of hd), _, _, rfl, rfl, _, rfl, ite2 (fun c2 => ?_) (fun c2 => ?_)⟩
        · have hlen : 2 < (a :: b :: r).length := by
            have := of_decide_eq_true c2
            rw [List.length_map] at this
            omega
          obtain ⟨x, r', rfl⟩ : ∃ x r', r = x :: r' := by
            cases r with
            | nil => simp at hlen
            | cons x r' => exact ⟨x, r', rfl⟩
          refine ⟨.ref d, rfl, .inl ⟨rfl, _, SqL.of hd⟩, d, _, 2, 2, .int x, rfl, rfl, hd, by decide, by decide, (ixN_seq (ixN_nat (j := 2) (by rw [List.length_map]; exact hlen))).1, rfl, ?_⟩
          refine ⟨.ref d, rfl, d, _, 1, 1, rfl, rfl, upd_same, ixN_nat (j := 1) (by show 1 < (r'.map V.int).length + 1 + 1; omega), ?_⟩
          refine ⟨rfl, ?_⟩
          rw [upd_upd]
          refine dk_upd (s := a :: x :: r') (Ex.refl _) ⟨a, x, r', rfl, ha, Int.le_of_lt (hr' x List.mem_cons_self), fun z hz => hr' z (List.mem_cons_of_mem _ hz)⟩ (by simp only [List.length_cons] at hl ⊢; omega)
        · exact ⟨rfl, dk0⟩
      · exact iteF ⟨rfl, dk0⟩
    · obtain ⟨rfl, D1⟩ := hM
      obtain ⟨⟨s1, hd1, ok1, hl1⟩, ex1⟩ := D1
      obtain ⟨a, b, r, rfl, ha, hb, hr'⟩ := ok1.ex
      refine ⟨.ref d, rfl, d, _, 1, .int b, rfl, rfl, SqL.of hd1, at1, _, _, rfl, rfl, _, rfl, ite2 (fun c => ?_) (fun c => ?_)⟩
      · have hb0 : 0 < b := of_decide_eq_true c
        refine ⟨.ref d, rfl, d, _, 1, .int b, rfl, rfl, SqL.of hd1, at1, .int m, rfl, b, m, rfl, rfl, hm0, ?_⟩
        refine ⟨.ref d, rfl, d, _, 1, .int b, rfl, rfl, SqL.of hd1, at1, .int m, rfl, b, m, rfl, rfl, ⟨hm0, by omega⟩, ?_⟩
        refine ⟨.ref d, rfl, d, _, 1, 1, rfl, rfl, hd1, ixN_nat (j := 1) (by show 1 < (r.map V.int).length + 1 + 1; omega), ?_⟩
        refine ⟨.int (b % m), rfl, q _ _ (Int.emod_nonneg _ (by omega)) (Int.emod_lt_of_pos _ hm0) ?_⟩
        exact dk_upd (s := a :: (b / m) :: r) ex1 ⟨a, b / m, r, rfl, ha, Int.ediv_nonneg hb (by omega), hr'⟩ hl1
      · refine ⟨.ref d, rfl, d, _, 0, .int a, rfl, rfl, SqL.of hd1, at0, a, 48271, rfl, rfl, .inr ⟨by decide, by decide⟩, a * 48271, 11, rfl, rfl, a * 48271 + 11, 2147483647, rfl, rfl, (show (0 : Int) < 2147483647 by decide), ?_⟩
        refine ⟨.ref d, rfl, d, _, 0, 0, rfl, rfl, hd1, ixN_nat (j := 0) (by show 0 < (r.map V.int).length + 1 + 1; omega), ?_⟩
        refine ⟨.ref d, rfl, d, ((a * 48271 + 11) % 2147483647 :: b :: r).map V.int, 0, .int ((a * 48271 + 11) % 2147483647), rfl, rfl, SqL.of upd_same, at0, (a * 48271 + 11) % 2147483647, 64, rfl, rfl, ⟨by decide, by decide⟩, .int m, rfl, (a * 48271 + 11) % 2147483647 / 64, m, rfl, rfl, hm0, ?_⟩
        refine q _ _ (Int.emod_nonneg _ (by omega)) (Int.emod_lt_of_pos _ hm0) ?_
        exact dk_upd (s := (a * 48271 + 11) % 2147483647 :: b :: r) ex1 ⟨_, b, r, rfl, Int.emod_nonneg _ (by decide), hb, hr'⟩ hl1
end

/-! ### _law_size, _law_set -/
theorem offCall {d : Addr} {m : Int} {j : Nat} {te : TE} {σ : L2.St} {H : Hp} {Q : VK} (h0 : σ[j]? = some (some (.ref d))) (ht : ∀ Q : VK, Q (.int m) H → te σ H Q) (hd : DSt H d) (hm : 0 < m ∧ m < 1000000)
    (k : ∀ r H', 0 ≤ r → r < m → Dk d H H' → Q (.int r) H') : tCall spOff [] E0 (tCons (tVar j) (tCons te tNil)) σ H Q :=
  ⟨.ref d, h0, ht _ ⟨d, m, rfl, hd, hm.1, hm.2, k⟩⟩
theorem small_at {xs : List Int} {r : Int} (h0 : 0 ≤ r) (h1 : r < xs.length) : atI (xs.map V.int) r = some (.int (xs.getD r.toNat 0)) := by
  obtain ⟨j, rfl⟩ : ∃ j : Nat, r = (j : Int) := ⟨r.toNat, by omega⟩
  have hj : j < xs.length := by omega
  rw [Int.toNat_natCast]
  refine atI_nat ?_
  rw [List.getElem?_map, List.getElem?_eq_getElem hj, getD_at 0 hj]; rfl
section
variable {P : Program} {w : World} {K : PySem.W.Frag} {mg : Str → Option Value} {base : Heap}
def spSize : Sp := fun vs H Q _ => ∃ d : Addr, vs = [.ref d] ∧ DSt H d ∧ ∀ (n : Nat) H', 1 ≤ n → n ≤ 64 → Dk d H H' → Q (.int (n : Int)) H'
theorem ok_lsize {f f1 : Addr} {fd fd1 : FuncData} {k : Nat} (F : Fun K "_law_size" "_law_size" sLawSize f fd)
    (F1 : FnOk P w K mg base CX0 (k + 1) f1 fd1 ["_law_d", "_law_most"] spOff) (g1 : mg "_law_off" = some (.ref f1)) (k1 : PySem.W.keepIn K (.ref f1) = true) (b1 : Binds K fd1 ["_law_d", "_law_most"] []) : FnOk P w K mg base CX0 (k + 2) f fd ["_law_d"] spSize := by
  refine F.ok scLawSize (fun vs H Q E h => ?_) (fun cdv A outer s H vs Q E hr h => ?_)
  · obtain ⟨d, rfl, _⟩ := h
    rfl
  · obtain ⟨d, rfl, hd, q⟩ := h
    refine ⟨_, pss_one (ps_ret (pe_ix ix_list (pe_lst (pa_cons pe_int (pa_cons pe_int (pa_cons pe_int (pa_cons (pe_op op_add pe_int (pe_call F1 hr (by rfl) g1 k1 b1 .nil pass0 (pa_cons (pv 0) (pa_cons pe_int pa_nil)))) pa_nil)))))
      (pe_call F1 hr (by rfl) g1 k1 b1 .nil pass0 (pa_cons (pv 0) (pa_cons pe_int pa_nil))) (fun _ _ => rfl))), ?_⟩
    refine offCall (d := d) (m := 64) rfl (fun Q q => q) hd (by decide) fun r H1 hr0 hr1 D1 => ⟨1, r, rfl, rfl, by show 4 ≤ sizeLine; decide, fun p hp => ?_⟩
    have D2 := D1.trans (Dk.of D1.st (Ex.new (o := .lst [.int 8, .int 20, .int 64, .int (1 + r)]) hp))
    refine offCall (d := d) (m := 4) rfl (fun Q q => q) D2.st (by decide) fun r2 H3 hs0 hs1 D3 => ?_
    have hpd : p ≠ d := D1.st.ne hp
    refine ⟨p, ([8, 20, 64, 1 + r] : List Int).map V.int, r2, _, rfl, rfl, SqL.of (D3.keep hpd upd_same), small_at hs0 hs1, ?_⟩
    have D := D2.trans D3
    obtain ⟨j, rfl⟩ : ∃ j : Nat, r2 = (j : Int) := ⟨r2.toNat, by omega⟩
    obtain ⟨i, rfl⟩ : ∃ i : Nat, r = (i : Int) := ⟨r.toNat, by omega⟩
    rw [Int.toNat_natCast]
    have hj : j < 4 := by omega
    match j, hj with
    | 0, _ => exact q 8 H3 (by decide) (by decide) D
    | 1, _ => exact q 20 H3 (by decide) (by decide) D
    | 2, _ => exact q 64 H3 (by decide) (by decide) D
    | 3, _ =>
      have z := q (1 + i) H3 (by omega) (by omega) D
      rw [Int.natCast_add] at z
      exact z
def spLSet (K : PySem.W.Frag) : Sp := fun vs H Q _ => ∃ (d : Addr) (n m : Nat), vs = [.ref d, .int (n : Int), .int (m : Int)] ∧ DSt H d ∧ 1 ≤ n ∧ n ≤ 64 ∧ m ≤ 40 ∧
  ∀ (rs : List (Nat × Nat)) p xs H', rs.length ≤ m → (∀ r ∈ rs, r.1 ≤ r.2 ∧ r.2 < n) → H p = none → Dk d H H' → H' p = some (.lst xs) → DpAll K (rm H' d) xs (rs.map rD) → Q (.ref p) H'
theorem ok_lset {f f1 : Addr} {fd fd1 : FuncData} {k : Nat} (F : Fun K "_law_set" "_law_set" sLawSet f fd)
    (F1 : FnOk P w K mg base CX0 (k + 1) f1 fd1 ["_law_d", "_law_most"] spOff) (g1 : mg "_law_off" = some (.ref f1)) (k1 : PySem.W.keepIn K (.ref f1) = true) (b1 : Binds K fd1 ["_law_d", "_law_most"] [])
    (mr : mg "range" = none) (mm : mg "min" = none) : FnOk P w K mg base CX0 (k + 2) f fd ["_law_d", "_law_size_here", "_law_most"] (spLSet K) := by
  refine F.ok scLawSet (fun vs H Q E h => ?_) (fun cdv A outer s H vs Q E hr h => ?_)
  · obtain ⟨d, n, m, rfl, _⟩ := h
    rfl
  · obtain ⟨d, n, m, rfl, hd, hn1, hn64, hm, q⟩ := h
    have nd := scLawSet.nd
    refine ⟨_, pss_cons (ps_set (i := 3) nd rfl (.inl rfl) (pe_ix ix_list (pe_lst (pa_cons pe_int (pa_cons pe_int (pa_cons (pv 1) pa_nil)))) (pe_call F1 hr (by rfl) g1 k1 b1 .nil pass0 (pa_cons (pv 0) (pa_cons pe_int pa_nil))) (fun _ _ => rfl)))
      (pss_cons (ps_set (i := 4) nd rfl (.inl rfl) (pe_lst pa_nil))
      (pss_cons (ps_for PassesOwn.never rfl (pi_range1 (by rfl) mr (pa_cons (pe_call F1 hr (by rfl) g1 k1 b1 .nil pass0 (pa_cons (pv 0) (pa_cons (pe_op op_add (pv 2) pe_int) pa_nil))) pa_nil)) (pg_name (i := 5) nd rfl (.inl rfl))
        (pss_cons (ps_set (i := 6) nd rfl (.inl rfl) (pe_call F1 hr (by rfl) g1 k1 b1 .nil pass0 (pa_cons (pv 0) (pa_cons (pv 1) pa_nil))))
        (pss_one (ps_expr (pe_bm PySem.F.plainAttrs_list PySem.F.slot_list_append PySem.F.type_list_append mt_append (pv 4) (pa_cons (pe_tup (pa_cons (pv 6) (pa_cons
          (pe_callB (call_min2 rfl) (by rfl) mm (by decide +kernel) (pa_cons (pe_op op_sub (pv 1) pe_int) (pa_cons (pe_op op_add (pv 6) (pe_call F1 hr (by rfl) g1 k1 b1 .nil pass0 (pa_cons (pv 0) (pa_cons (pv 3) pa_nil)))) pa_nil))) pa_nil))) pa_nil))))))
      (pss_one (ps_ret (pv 4))))), ?_⟩
    refine ⟨.int (n : Int), rfl, by show 3 ≤ sizeLine; decide, fun p hp => ?_⟩
    have D1 := Dk.of hd (Ex.new (o := .lst [.int 1, .int 3, .int (n : Int)]) hp)
    refine offCall (d := d) (m := 3) rfl (fun Q q => q) D1.st (by decide) fun r H2 hr0 hr1 D2 => ?_
    refine ⟨p, ([1, 3, (n : Int)] : List Int).map V.int, r, _, rfl, rfl, SqL.of (D2.keep (hd.ne hp) upd_same), small_at hr0 hr1, ?_⟩
    have D := D1.trans D2
    obtain ⟨v, hv, hv1, hv2⟩ : ∃ v : Int, ([1, 3, (n : Int)] : List Int).getD r.toNat 0 = v ∧ 0 < v ∧ v < 1000000 := by
      obtain ⟨j, rfl⟩ : ∃ j : Nat, r = (j : Int) := ⟨r.toNat, by omega⟩
      rw [Int.toNat_natCast]
      have hj : j < 3 := by omega
      match j, hj with
      | 0, _ => exact ⟨1, rfl, by decide, by decide⟩
      | 1, _ => exact ⟨3, rfl, by decide, by decide⟩
      | 2, _ => exact ⟨(n : Int), rfl, by omega, by omega⟩
    rw [hv]
    refine ⟨Nat.zero_le _, fun l hl => ?_⟩
    have hl0 : H l = none := D.fresh hl
    have hld : l ≠ d := hd.ne hl0
    have D3 := D.trans (Dk.of D.st (Ex.new (o := .lst []) hl))
    have h3 : (upd H2 l (.lst [])) l = some (.lst []) := upd_same
    generalize upd H2 l (.lst []) = H3 at D3 h3 ⊢
    refine offCall (d := d) (m := (m : Int) + 1) rfl (fun Q q => ⟨.int (m : Int), rfl, (m : Int), 1, rfl, rfl, q⟩) D3.st ⟨by omega, by omega⟩ fun t H4 ht0 ht1 D4 => ⟨t, rfl, by omega, by omega, ?_⟩
    refine for_range (lo := 0) (n := t.toNat) (fun i σ' H' => Dk d H H' ∧ (∃ (acc : List V) (rs : List (Nat × Nat)), rs.length = i ∧ (∀ r ∈ rs, r.1 ≤ r.2 ∧ r.2 < n) ∧ H' l = some (.lst acc) ∧ DpAll K (rm (rm H' d) l) acc (rs.map rD)) ∧ ∃ a b, σ' = [some (.ref d), some (.int (n : Int)), some (.int (m : Int)), some (.int v), some (.ref l), a, b]) ⟨D3.trans D4, ⟨[], [], rfl, fun _ h => by simp at h, D4.keep hld h3, .nil⟩, none, none, rfl⟩ (fun i σ' H5 hi p => ?_) (fun σ' H5 p => ?_)
    · obtain ⟨D5, ⟨acc, rs, hrl, hrs, h5, hA⟩, a, b, rfl⟩ := p
      refine offCall (d := d) (m := (n : Int)) rfl (fun Q q => ⟨.int (n : Int), rfl, q⟩) D5.st ⟨by omega, by omega⟩ fun x H6 hx0 hx1 D6 => ?_
      refine ⟨.ref l, rfl, .inl ⟨rfl, _, SqL.of (D6.keep hld h5)⟩, .int x, rfl, .int (n : Int), rfl, (n : Int), 1, rfl, rfl, .int x, rfl, ?_⟩
      refine offCall (d := d) (m := v) rfl (fun Q q => ⟨.int v, rfl, q⟩) D6.st ⟨hv1, hv2⟩ fun y H7 hy0 hy1 D7 => ⟨x, y, rfl, rfl, (n : Int) - 1, x + y, rfl, by show 2 ≤ sizeLine; decide, fun T hT => ?_⟩
      have D56 := D6.trans D7
      have h7 : H7 l = some (.lst acc) := D56.keep hld h5
      have hTl : T ≠ l := Ne.symm (ne_of_none h7 hT)
      have hTd : T ≠ d := D7.st.ne hT
      obtain ⟨z, hz, hz1, hz2⟩ : ∃ z : Nat, (if x + y < (n : Int) - 1 then x + y else (n : Int) - 1) = (z : Int) ∧ x ≤ (z : Int) ∧ z < n := by
        by_cases c : x + y < (n : Int) - 1
        · exact ⟨(x + y).toNat, by rw [if_pos c]; omega, by omega, by omega⟩
        · exact ⟨n - 1, by rw [if_neg c]; omega, by omega, by omega⟩
      rw [hz]
      refine ⟨l, acc, _, rfl, rfl, ?_, sz_lt ?_, ?_⟩
      · rw [upd_ne (Ne.symm hTl)]; exact h7
      · rw [allLen hA, List.length_map]; omega
      · have D8 := (D5.trans D56).trans (Dk.of D7.st (Ex.new (o := .tup [.int x, .int (z : Int)]) hT))
        refine ⟨⟨?_, ?_⟩, ⟨acc ++ [.ref T], rs ++ [(x.toNat, z)], ?_, ?_, upd_same, ?_⟩, some (.int (0 + (i : Int))), some (.int x), rfl⟩
        · obtain ⟨s', e1, e2, e3⟩ := D8.st
          exact ⟨s', by rw [upd_ne (Ne.symm hld)]; exact e1, e2, e3⟩
        · rw [rmNew hld]
          exact Ex.mut D8.ex (by rw [rmNe hld]; exact hl0)
        · rw [List.length_append, hrl]; rfl
        · intro r hr2
          rcases List.mem_append.mp hr2 with h | h
          · exact hrs r h
          · rw [List.mem_singleton.mp h]
            exact ⟨by show x.toNat ≤ z; omega, hz2⟩
        · rw [rmNew hld, rmUpd, List.map_append]
          have eN : Ex (rm (rm H5 d) l) (rm (rm (upd H7 T (.tup [.int x, .int (z : Int)])) d) l) := rmMono (D56.ex.trans (rmMono (Ex.new hT)))
          refine allApp (monoA eN hA) (.cons (.tup (st_of (xs := [.int x, .int (z : Int)]) ?_) (.cons ?_ (.cons (.int _) .nil))) .nil)
          · rw [rmNe hTl, rmNe hTd, upd_same]
          · show Dp K _ (.int x) (.int ((x.toNat : Nat) : Int))
            rw [Int.toNat_of_nonneg hx0]
            exact .int x
    · obtain ⟨D5, ⟨acc, rs, hrl, hrs, h5, hA⟩, a, b, rfl⟩ := p
      exact ⟨.ref l, rfl, q rs l acc H5 (by omega) hrs hl0 D5 h5 (monoA rmEx hA)⟩
end

/-! ### sets by what is in them -/
theorem canMap {α : Type} {f : α → PyData} (h : ∀ x, (f x).canLay0 = true) : ∀ xs : List α, PyData.canLayAll0 (xs.map f) = true
  | [] => rfl
  | x :: xs => by
    show ((f x).canLay0 && PyData.canLayAll0 (xs.map f)) = true
    rw [h x, canMap h xs]; rfl
theorem depMap {α : Type} {f : α → PyData} {k : Nat} (h : ∀ x, (f x).depth ≤ k) : ∀ xs : List α, PyData.depthAll (xs.map f) ≤ k
  | [] => Nat.zero_le k
  | x :: xs => by
    show max (f x).depth (PyData.depthAll (xs.map f)) ≤ k
    have a := h x
    have b := depMap h xs
    omega
theorem shList {α : Type} {f : α → PyData} (h1 : ∀ x, (f x).canLay0 = true) (h2 : ∀ x, (f x).depth ≤ 10) (xs : List α) : SeqAt.shaped (.list (xs.map f)) = true := by
  have a : (PyData.list (xs.map f)).canLay0 = true := by
    show PyData.canLayAll0 (xs.map f) = true
    exact canMap h1 xs
  have b : (PyData.list (xs.map f)).depth ≤ 64 := by
    show PyData.depthAll (xs.map f) + 1 ≤ 64
    have := depMap h2 xs
    omega
  show ((PyData.list (xs.map f)).canLay0 && decide ((PyData.list (xs.map f)).depth ≤ 64)) = true
  rw [a, decide_eq_true b]; rfl
theorem sh_sD (rs : List (Nat × Nat)) : SeqAt.shaped (sD rs) = true := shList (fun _ => rfl) (fun _ => (by show (1 : Nat) ≤ 10; decide)) rs
theorem eqvSame {d : PyData} (h : SeqAt.shaped d = true) : PyData.eqv d d = true := SeqAt.eqv_refl d (SeqAt.canLay_of_shaped h)
section
variable {K : PySem.W.Frag} {σ : L2.St} {H : Hp} {ta tb ts : TE} {n : Nat} {f g : Nat → Bool}
/-- a set that can be, told by its signs -/
def SetV (K : PySem.W.Frag) (te : TE) (σ : L2.St) (H : Hp) (n : Nat) (f : Nat → Bool) : Prop := ∃ rs, EvD K te σ H (sD rs) ∧ Good n rs ∧ ∀ k, k < n → memB rs k = f k
/-- the fewest ranges of these signs -/
def TellV (K : PySem.W.Frag) (te : TE) (σ : L2.St) (H : Hp) (n : Nat) (f : Nat → Bool) : Prop := EvD K te σ H (sD (told f n))
theorem TellV.s (h : TellV K ta σ H n f) (hn : n ≤ 64) : SetV K ta σ H n f := ⟨_, h, told_good f hn, fun k hk => told_mem f n k hk⟩
theorem TellV.mono {H' : Hp} (e : Ex H H') (h : TellV K ta σ H n f) : TellV K ta σ H' n f := EvD.mono e h
theorem t2 {op : Bool → Bool → Bool} (hs : Ev ts σ H (.int (n : Int))) (ha : SetV K ta σ H n f) (hb : SetV K tb σ H n g) (hn : 1 ≤ n ∧ n ≤ 64) : TellV K (tCall (spN K (R2' op)) [] E0 (tCons ts (tCons ta (tCons tb tNil)))) σ H n (fun k => op (f k) (g k)) := by
  obtain ⟨rs, h1, g1, m1⟩ := ha
  obtain ⟨ss, h2, g2, m2⟩ := hb
  have e : told (fun k => op (f k) (g k)) n = told (fun k => op (memB rs k) (memB ss k)) n := told_congr n fun k hk => by rw [m1 k hk, m2 k hk]
  unfold TellV
  rw [e]
  exact (nCall (daCons (iD hs) (da2 h1 h2)) ⟨n, rs, ss, rfl, hn.1, hn.2, g1, g2, rfl⟩).asD
theorem tPlain (hs : Ev ts σ H (.int (n : Int))) (ha : SetV K ta σ H n f) (hn : 1 ≤ n ∧ n ≤ 64) : TellV K (tCall (spN K RPlain) [] E0 (tCons ts (tCons ta tNil))) σ H n f := by
  obtain ⟨rs, h1, g1, m1⟩ := ha
  have e : told f n = told (memB rs) n := told_congr n fun k hk => (m1 k hk).symm
  unfold TellV
  rw [e]
  exact (nCall (da2 (iD hs) h1) ⟨n, rs, rfl, hn.1, hn.2, g1, rfl⟩).asD
theorem tOthers (hs : Ev ts σ H (.int (n : Int))) (ha : SetV K ta σ H n f) (hn : 1 ≤ n ∧ n ≤ 64) : TellV K (tCall (spN K ROthers) [] E0 (tCons ts (tCons ta tNil))) σ H n (fun k => !f k) := by
  obtain ⟨rs, h1, g1, m1⟩ := ha
  have e : told (fun k => !f k) n = told (fun k => !memB rs k) n := told_congr n fun k hk => by rw [m1 k hk]
  unfold TellV
  rw [e]
  exact (nCall (da2 (iD hs) h1) ⟨n, rs, rfl, hn.1, hn.2, g1, rfl⟩).asD
theorem neT (ha : TellV K ta σ H n f) (hb : TellV K tb σ H n g) (h : ∀ k, k < n → f k = g k) : EvT (tTest (tOp (rNeD K) ta tb)) σ H false := by
  refine et_is (et_test (neD ha hb (sh_sD _) (sh_sD _))) ?_
  rw [told_congr n h, eqvSame (sh_sD _)]; rfl
theorem eqT (ha : TellV K ta σ H n f) (hb : TellV K tb σ H n g) (h : ∀ k, k < n → f k = g k) : Ev (tOp (rEqD K) ta tb) σ H (.bl true) := by
  refine ev_is (eqD ha hb (sh_sD _) (sh_sD _)) ?_
  rw [told_congr n h, eqvSame (sh_sD _)]
/-- xs[:k], xs[::-1] -/
theorem nCut {ds : List PyData} {k : Nat} (ha : EvD K ta σ H (.list ds)) : EvN K (tSl (rSlL K) ta tNoPart (tPart (tC (.int (k : Int))))) σ H (ds.take k) := fun H1 e Q q => ha H1 e _ fun v H2 e2 hd => by
  obtain ⟨a, xs, rfl, hs, hA⟩ := dpList hd
  refine ⟨(k : Int), rfl, a, xs, rfl, hs, fun p hp => ?_⟩
  have ec : cutV xs none (some (k : Int)) = xs.take k := by
    unfold cutV
    rw [HT.sIx_none, HT.sIx_nat, List.drop_zero, Nat.sub_zero]
    by_cases c : k ≤ xs.length
    · rw [Nat.min_eq_left c]
    · rw [Nat.min_eq_right (by omega), List.take_of_length_le (Nat.le_refl _), List.take_of_length_le (by omega)]
  exact q p _ _ (fresh_back e2 hp) (e2.trans (Ex.new hp)) upd_same (by rw [ec]; exact monoA (Ex.new hp) (allTake k hA))
theorem nRev {ds : List PyData} (ha : EvD K ta σ H (.list ds)) : EvN K (tRevL K ta) σ H ds.reverse := fun H1 e Q q => ha H1 e _ fun v H2 e2 hd => by
  obtain ⟨a, xs, rfl, hs, hA⟩ := dpList hd
  exact ⟨a, xs, rfl, hs, fun p hp => q p _ _ (fresh_back e2 hp) (e2.trans (Ex.new hp)) upd_same (monoA (Ex.new hp) (allRev hA))⟩
end
/-- the draws at the start -/
theorem dst_of {K : PySem.W.Frag} {H : Hp} {p : Addr} {xs : List V} {k : Int} {ns : List Int} (hk : 0 ≤ k ∧ k < 2147483647) (hl : ns.length ≤ 63) (h : H p = some (.lst xs)) (ha : DpAll K H xs ((diceF k ns :: 0 :: big ns).map PyData.int)) : DSt H p := by
  refine ⟨_, ?_, dice_ok hk ns, ?_⟩
  · rw [h, intsOfAll ha]
  · have : (big ns).length ≤ ns.length := List.length_filter_le _ _
    show (big ns).length + 1 + 1 ≤ 100
    omega

/-! ### _law_alike -/
mutual
def wide : PyData → Bool
  | .list ds => decide (ds.length ≤ 1000) && wides ds
  | .tuple ds => decide (ds.length ≤ 1000) && wides ds
  | _ => true
def wides : List PyData → Bool
  | [] => true
  | d :: ds => wide d && wides ds
end
theorem wides_at : ∀ {ds : List PyData} {i : Nat} {d : PyData}, wides ds = true → ds[i]? = some d → wide d = true
  | [], i, _, _, e => by simp at e
  | x :: xs, 0, d, h, e => by
    have h' := Bool.and_eq_true_iff.mp h
    simp at e; subst e; exact h'.1
  | x :: xs, i + 1, d, h, e => by
    have h' := Bool.and_eq_true_iff.mp h
    exact wides_at h'.2 (by simpa using e)
theorem dep_at : ∀ {ds : List PyData} {i : Nat} {d : PyData}, ds[i]? = some d → d.depth ≤ PyData.depthAll ds
  | [], i, _, e => by simp at e
  | x :: xs, 0, d, e => by
    simp at e; subst e
    show x.depth ≤ max x.depth (PyData.depthAll xs)
    omega
  | x :: xs, i + 1, d, e => by
    have h : xs[i]? = some d := by simpa using e
    have ih := dep_at h
    show d.depth ≤ max x.depth (PyData.depthAll xs)
    omega
def tyN : PyData → String
  | .none => "NoneType"
  | .bool _ => "bool"
  | .int _ => "int"
  | .str _ => "str"
  | .list _ => "list"
  | .tuple _ => "tuple"
  | .dict _ => "dict"
theorem kb_bool_bool : kitB "bool" "bool" = some true := by decide +kernel
theorem kb_bool_int : kitB "bool" "int" = some true := by decide +kernel
theorem kb_bool_str : kitB "bool" "str" = some false := by decide +kernel
theorem kb_bool_list : kitB "bool" "list" = some false := by decide +kernel
theorem kb_bool_tuple : kitB "bool" "tuple" = some false := by decide +kernel
theorem kb_int_bool : kitB "int" "bool" = some false := by decide +kernel
theorem kb_int_int : kitB "int" "int" = some true := by decide +kernel
theorem kb_int_str : kitB "int" "str" = some false := by decide +kernel
theorem kb_int_list : kitB "int" "list" = some false := by decide +kernel
theorem kb_int_tuple : kitB "int" "tuple" = some false := by decide +kernel
theorem kb_str_bool : kitB "str" "bool" = some false := by decide +kernel
theorem kb_str_int : kitB "str" "int" = some false := by decide +kernel
theorem kb_str_str : kitB "str" "str" = some true := by decide +kernel
theorem kb_str_list : kitB "str" "list" = some false := by decide +kernel
theorem kb_str_tuple : kitB "str" "tuple" = some false := by decide +kernel
theorem kb_list_bool : kitB "list" "bool" = some false := by decide +kernel
theorem kb_list_int : kitB "list" "int" = some false := by decide +kernel
theorem kb_list_str : kitB "list" "str" = some false := by decide +kernel
theorem kb_list_list : kitB "list" "list" = some true := by decide +kernel
theorem kb_list_tuple : kitB "list" "tuple" = some false := by decide +kernel
theorem kb_tuple_bool : kitB "tuple" "bool" = some false := by decide +kernel
theorem kb_tuple_int : kitB "tuple" "int" = some false := by decide +kernel
theorem kb_tuple_str : kitB "tuple" "str" = some false := by decide +kernel
theorem kb_tuple_list : kitB "tuple" "list" = some false := by decide +kernel
theorem kb_tuple_tuple : kitB "tuple" "tuple" = some true := by decide +kernel
section
variable {K : PySem.W.Frag} {σ : L2.St} {H : Hp}
theorem tyx : ∀ {d : PyData} {v : V}, Dp K H v d → TyX K H v (.type (tyN d))
  | .none, _, h => by cases h; exact .base .non
  | .bool b, _, h => by cases h; exact .base (.bl b)
  | .int i, _, h => by cases h; exact .base (.int i)
  | .str x, _, h => by cases h; exact .base (.str x)
  | .list ds, _, h => by
    obtain ⟨a, xs, rfl, hs, _⟩ := dpList h
    rcases hs with (hs | ⟨o, hs⟩) | ⟨o, its, n, hk, hc, _⟩
    · exact .base (.lst hs)
    · exact .base (.frz hs)
    · exact .kList hk hc
  | .tuple ds, _, h => by
    obtain ⟨a, xs, rfl, hs, _⟩ := dpTuple h
    rcases hs with (hs | ⟨o, hs⟩) | ⟨o, its, n, hk, hc, _⟩
    · exact .base (.tup hs)
    · exact .fTuple hs
    · exact .kTuple hk hc
  | .dict _, _, h => by cases h
abbrev tIsi (K : PySem.W.Frag) (j : Nat) (c : String) : TE := tCB (rIsi K) (tCons (tVar j) (tCons (tC (.ty c)) tNil))
theorem isi {j : Nat} {v : V} {d : PyData} {c : String} {b : Bool} (h : σ[j]? = some (some v)) (hd : Dp K H v d) (hk : kitB (tyN d) c = some b) : Ev (tIsi K j c) σ H (.bl b) := fun H1 e Q q =>
  ⟨v, h, v, .ty c, .type (tyN d), .type c, b, rfl, .ty c, tyx (SB.mono e hd), kit_ty hk, q H1 (Ex.refl H1)⟩
theorem lenD {j : Nat} {v : V} {ds : List PyData} {r : List V → Hp → VK → Prop} (h : σ[j]? = some (some v)) (hd : Dp K H v (.list ds) ∨ Dp K H v (.tuple ds)) (hr : r = fun xs H Q => ∃ p ys, xs = [.ref p] ∧ (SqL K H p ys ∨ SqT K H p ys) ∧ Q (.int ys.length) H) : Ev (tCB r (tCons (tVar j) tNil)) σ H (.int (ds.length : Int)) := fun H1 e Q q => by
  subst hr
  rcases hd with hd | hd
  · obtain ⟨a, xs, rfl, hs, ha⟩ := dpList (SB.mono e hd)
    exact ⟨.ref a, h, a, xs, rfl, .inl hs, by rw [allLen ha]; exact q H1 (Ex.refl H1)⟩
  · obtain ⟨a, xs, rfl, hs, ha⟩ := dpTuple (SB.mono e hd)
    exact ⟨.ref a, h, a, xs, rfl, .inr hs, by rw [allLen ha]; exact q H1 (Ex.refl H1)⟩
theorem ixD {j k : Nat} {v : V} {ds : List PyData} {i : Nat} {d : PyData} (h : σ[j]? = some (some v)) (hk : σ[k]? = some (some (.int (i : Nat)))) (hd : Dp K H v (.list ds) ∨ Dp K H v (.tuple ds)) (hi : ds[i]? = some d) : EvD K (tOp (rIx K) (tVar j) (tVar k)) σ H d := fun H1 e Q q => by
  rcases hd with hd | hd
  · obtain ⟨a, xs, rfl, hs, ha⟩ := dpList (SB.mono e hd)
    obtain ⟨x, hx, hdx⟩ := allGet ha hi
    exact ⟨.ref a, h, .int (i : Nat), hk, .inl ⟨a, xs, (i : Nat), x, rfl, rfl, hs, atI_nat hx, q x H1 (Ex.refl H1) hdx⟩⟩
  · obtain ⟨a, xs, rfl, hs, ha⟩ := dpTuple (SB.mono e hd)
    obtain ⟨x, hx, hdx⟩ := allGet ha hi
    exact ⟨.ref a, h, .int (i : Nat), hk, .inr (.inl ⟨a, xs, (i : Nat), x, rfl, rfl, hs, atI_nat hx, q x H1 (Ex.refl H1) hdx⟩)⟩
end
/-- the same data twice: told True -/
def spAlike (K : PySem.W.Frag) (k : Nat) : Sp := fun vs H Q _ => ∃ d, DpAll K H vs [d, d] ∧ wide d = true ∧ d.depth < k ∧ ∀ H', Ex H H' → Q (.bl true) H'
section
variable {P : Program} {w : World} {K : PySem.W.Frag} {mg : Str → Option Value} {base : Heap}
theorem ok_alike {f : Addr} {fd : FuncData} (F : Fun K "_law_alike" "_law_alike" sLawAlike f fd) (g : mg "_law_alike" = some (.ref f)) (kp : PySem.W.keepIn K (.ref f) = true) (b : Binds K fd ["_law_found", "_law_due_here"] [])
    (mi : mg "isinstance" = none) (mB : mg "bool" = none) (mI : mg "int" = none) (mS : mg "str" = none) (mT : mg "tuple" = none) (mL : mg "list" = none) (ml : mg "len" = none) (ma : mg "all" = none) (mr : mg "range" = none) : ∀ k : Nat, FnOk P w K mg base CX0 (k + 1) f fd ["_law_found", "_law_due_here"] (spAlike K k)
  | 0 => by
    refine F.ok scLawAlike (fun vs H Q E h => ?_) (fun cdv A outer s H vs Q E hr h => ?_)
    · obtain ⟨d, _, _, h0, _⟩ := h
      exact absurd h0 (Nat.not_lt_zero _)
    · obtain ⟨d, _, _, h0, _⟩ := h
      exact absurd h0 (Nat.not_lt_zero _)
  | k + 1 => by
    have F1 := ok_alike F g kp b mi mB mI mS mT mL ml ma mr k
    refine F.ok scLawAlike (fun vs H Q E h => ?_) (fun cdv A outer s H vs Q E hr h => ?_)
    · obtain ⟨d, ha, _⟩ := h
      exact allLen ha
    · obtain ⟨d, ha, hw, hdep, q⟩ := h
      obtain ⟨x, y, rfl, hx, hy⟩ := all2 ha
      have nd := scLawAlike.nd
      refine ⟨_, pss_cons (ps_if (pt_cmpR op_isN (pv 1) pe_non (nomark _)) (pss_one (ps_ret (pe_cmpR op_isN (pv 0) pe_non (nomark _)))) pss_nil)
        (pss_cons (ps_if (pt_val (pe_callB call_isi (by rfl) mi (by decide +kernel) (pa_cons (pv 1) (pa_cons (pe_bltn (v := .ty "bool") (by rfl) mB boot_bool rfl) pa_nil))))
          (pss_one (ps_ret (pe_and (pe_callB call_isi (by rfl) mi (by decide +kernel) (pa_cons (pv 0) (pa_cons (pe_bltn (v := .ty "bool") (by rfl) mB boot_bool rfl) pa_nil))) (pe_one (pe_cmpR op_eq (pv 0) (pv 1) (nomark _)))))) pss_nil)
        (pss_cons (ps_if (pt_val (pe_callB call_isi (by rfl) mi (by decide +kernel) (pa_cons (pv 1) (pa_cons (pe_bltn (v := .ty "int") (by rfl) mI boot_int rfl) pa_nil))))
          (pss_one (ps_ret (pe_and (pe_callB call_isi (by rfl) mi (by decide +kernel) (pa_cons (pv 0) (pa_cons (pe_bltn (v := .ty "int") (by rfl) mI boot_int rfl) pa_nil))) (pe_and (pe_not (pe_callB call_isi (by rfl) mi (by decide +kernel) (pa_cons (pv 0) (pa_cons (pe_bltn (v := .ty "bool") (by rfl) mB boot_bool rfl) pa_nil)))) (pe_one (pe_cmpR op_eq (pv 0) (pv 1) (nomark _))))))) pss_nil)
        (pss_cons (ps_if (pt_val (pe_callB call_isi (by rfl) mi (by decide +kernel) (pa_cons (pv 1) (pa_cons (pe_bltn (v := .ty "str") (by rfl) mS boot_str rfl) pa_nil))))
          (pss_one (ps_ret (pe_and (pe_callB call_isi (by rfl) mi (by decide +kernel) (pa_cons (pv 0) (pa_cons (pe_bltn (v := .ty "str") (by rfl) mS boot_str rfl) pa_nil))) (pe_one (pe_cmpR op_eq (pv 0) (pv 1) (nomark _)))))) pss_nil)
        (pss_cons (ps_if (PW.pt (pw_or (pt_cmpR op_ne (pe_callB call_isi (by rfl) mi (by decide +kernel) (pa_cons (pv 1) (pa_cons (pe_bltn (v := .ty "tuple") (by rfl) mT boot_tuple rfl) pa_nil))) (pe_callB call_isi (by rfl) mi (by decide +kernel) (pa_cons (pv 0) (pa_cons (pe_bltn (v := .ty "tuple") (by rfl) mT boot_tuple rfl) pa_nil))) (nomark _))
            (pw_or1 (pt_cmpR op_ne (pe_callB call_isi (by rfl) mi (by decide +kernel) (pa_cons (pv 1) (pa_cons (pe_bltn (v := .ty "list") (by rfl) mL boot_list rfl) pa_nil))) (pe_callB call_isi (by rfl) mi (by decide +kernel) (pa_cons (pv 0) (pa_cons (pe_bltn (v := .ty "list") (by rfl) mL boot_list rfl) pa_nil))) (nomark _)))))
          (pss_one (ps_ret pe_bl)) pss_nil)
        (pss_cons (ps_if (pt_cmpR op_ne (pe_callB call_len_seq (by rfl) ml PySem.boot_len (pa_cons (pv 0) pa_nil)) (pe_callB call_len_seq (by rfl) ml PySem.boot_len (pa_cons (pv 1) pa_nil)) (nomark _)) (pss_one (ps_ret pe_bl)) pss_nil)
        (pss_one (ps_ret (pe_callB (cr_all rfl) (by rfl) ma (by decide +kernel) (pa_cons (pe_lc (own := [("_law_k", 2)]) (g := gName 2) (tt := tYes) (te := tCall (spAlike K k) [] E0 (tCons (tOp (rIx K) (tVar 0) (tVar 2)) (tCons (tOp (rIx K) (tVar 1) (tVar 2)) tNil))) rfl nd (pi_range1 (by rfl) mr (pa_cons (pe_callB call_len_seq (by rfl) ml PySem.boot_len (pa_cons (pv 1) pa_nil)) pa_nil)) (blkOk_by (own := [("_law_k", 2)]) (N := nLawAlike) (sc := defScope sLawAlike) (by decide +kernel))
          (fun _ _ _ _ _ => pg_name (i := 2) nd rfl (Or.inl rfl)) (fun _ _ _ _ _ => pts_nil) (fun _ _ _ _ _ => pe_call F1 hr (by rfl) g kp b .nil pass0 (pa_cons (pe_ix ix_seq (pv 0) (pv 2) (fun _ _ => rfl)) (pa_cons (pe_ix ix_seq (pv 1) (pv 2) (fun _ _ => rfl)) pa_nil)))) pa_nil))))))))), ?_⟩
      have seq : ∀ ds : List PyData, (Dp K H x (.list ds) ∧ Dp K H y (.list ds) ∧ d = .list ds) ∨ (Dp K H x (.tuple ds) ∧ Dp K H y (.tuple ds) ∧ d = .tuple ds) → ds.length ≤ 1000 → wides ds = true → PyData.depthAll ds < k → ∀ {H1 : Hp}, Ex H H1 → Ev (tCB (rAll K) (tCons (tLc (iRng1 (tCons (tCB (fun xs H Q => ∃ p ys, xs = [.ref p] ∧ (SqL K H p ys ∨ SqT K H p ys) ∧ Q (.int ys.length) H) (tCons (tVar 1) tNil)) tNil)) (gName 2) tYes (tCall (spAlike K k) [] E0 (tCons (tOp (rIx K) (tVar 0) (tVar 2)) (tCons (tOp (rIx K) (tVar 1) (tVar 2)) tNil))) [2]) tNil)) [some x, some y, none] H1 (.bl true) := by
        intro ds hc hlen hwd hdp H1 e1
        have hX : Dp K H1 x (.list ds) ∨ Dp K H1 x (.tuple ds) := hc.elim (fun z => .inl (SB.mono e1 z.1)) fun z => .inr (SB.mono e1 z.1)
        have hY : Dp K H1 y (.list ds) ∨ Dp K H1 y (.tuple ds) := hc.elim (fun z => .inl (SB.mono e1 z.2.1)) fun z => .inr (SB.mono e1 z.2.1)
        have N := nLc (K := K) (σ := [some x, some y, none]) (H := H1) (wi := iRng1 (tCons (tCB (fun xs H Q => ∃ p ys, xs = [.ref p] ∧ (SqL K H p ys ∨ SqT K H p ys) ∧ Q (.int ys.length) H) (tCons (tVar 1) tNil)) tNil)) (g := gName 2) (tt := tYes) (te := tCall (spAlike K k) [] E0 (tCons (tOp (rIx K) (tVar 0) (tVar 2)) (tCons (tOp (rIx K) (tVar 1) (tVar 2)) tNil))) (vs := [2]) (n := (ds.length : Int).toNat) (fun _ => true) (fun _ => .bool true) (by omega) (wkRange1 (ea_cons (lenD rfl hY rfl) ea_nil) ⟨by omega, by omega⟩).asN (fun Dl i v H3 hi e3 hd => by
          rw [Int.toNat_natCast] at hi
          cases dpInt hd
          refine ⟨[some x, some y, some (.int (i : Nat))], fun Q q => q, rfl, et_yes, fun _ => EvD.x (fun H4 e4 Q q => ?_) rfl⟩
          have e34 := e3.trans e4
          have hX3 := hX.imp (SB.mono e34) (SB.mono e34)
          have hY3 := hY.imp (SB.mono e34) (SB.mono e34)
          have hi' := List.getElem?_eq_getElem hi
          exact da2 (ixD (σ := [some x, some y, some (.int (i : Nat))]) (i := i) rfl rfl hX3 hi') (ixD (i := i) rfl rfl hY3 hi') H4 (Ex.refl H4) _ fun vs H5 e5 hvs => ⟨ds[i], by rw [List.append_nil]; exact hvs, wides_at hwd hi', by have := dep_at hi'; omega, fun H6 e6 => q _ H6 (e5.trans e6) (.bl true)⟩)
        rw [outs_all, Int.toNat_natCast] at N
        intro H2 e2 Q q
        refine N H2 e2 (fun x H1 => rAll K [x] H1 Q) fun p xs H3 _ e3 h3 hA => ⟨p, (List.range ds.length).map fun _ => true, rfl, ?_, ?_⟩
        · refine sq_of ?_
          rw [h3]
          have z : (List.range ds.length).map (fun _ => PyData.bool true) = ((List.range ds.length).map fun _ => true).map PyData.bool := by rw [List.map_map]; rfl
          rw [z] at hA
          rw [blsOfAll hA]
        · rw [show ((List.range ds.length).map fun _ => true).all id = true by rw [List.all_map]; exact List.all_eq_true.mpr fun _ _ => rfl]
          exact q H3 e3
      have fin := fun (H2 : Hp) (e : Ex H H2) => q H2 e
      cases d with
      | none =>
        cases hx; cases hy
        exact s_if (b := true) (et_test (fun H1 _ Q q => ⟨.non, rfl, rfl, q H1 (Ex.refl H1)⟩)) (fun _ H1 e1 => s_ret (v := .bl true) (fun H2 _ Q q => ⟨.non, rfl, rfl, q H2 (Ex.refl H2)⟩) fun H2 e2 => fin H2 (e1.trans e2)) (fun z => nomatch z)
      | bool bb =>
        cases hx; cases hy
        refine s_if (b := false) (et_test (fun H1 _ Q q => ⟨.bl bb, rfl, rfl, q H1 (Ex.refl H1)⟩)) (fun z => nomatch z) (fun _ H1 e1 => ?_)
        refine s_if (b := true) (et_B (isi (d := .bool bb) rfl (.bl bb) (by first | exact kb_bool_bool | exact kb_bool_int | exact kb_bool_str | exact kb_bool_list | exact kb_bool_tuple))) (fun _ H2 e2 => ?_) (fun z => nomatch z)
        exact s_ret (v := .bl true) (ev_is (ev_andV (a := true) (isi (d := .bool bb) rfl (.bl bb) (by first | exact kb_bool_bool | exact kb_bool_int | exact kb_bool_str | exact kb_bool_list | exact kb_bool_tuple)) fun _ => ev_op (x := .bl bb) (y := .bl bb) (ev_var rfl) (ev_var rfl) (rv_eq rfl)) (by rw [decide_eq_true rfl]; rfl)) fun H3 e3 => fin H3 ((e1.trans e2).trans e3)
      | int i =>
        cases hx; cases hy
        refine s_if (b := false) (et_test (fun H1 _ Q q => ⟨.int i, rfl, rfl, q H1 (Ex.refl H1)⟩)) (fun z => nomatch z) (fun _ H1 e1 => ?_)
        refine s_if (b := false) (et_B (isi (d := .int i) rfl (.int i) (by first | exact kb_int_bool | exact kb_int_int | exact kb_int_str | exact kb_int_list | exact kb_int_tuple))) (fun z => nomatch z) (fun _ H2 e2 => ?_)
        refine s_if (b := true) (et_B (isi (d := .int i) rfl (.int i) (by first | exact kb_int_bool | exact kb_int_int | exact kb_int_str | exact kb_int_list | exact kb_int_tuple))) (fun _ H3 e3 => ?_) (fun z => nomatch z)
        exact s_ret (v := .bl true) (ev_is (ev_andV (a := true) (isi (d := .int i) rfl (.int i) (by first | exact kb_int_bool | exact kb_int_int | exact kb_int_str | exact kb_int_list | exact kb_int_tuple)) fun _ => ev_andV (a := !false) (ev_notV (isi (d := .int i) rfl (.int i) (by first | exact kb_int_bool | exact kb_int_int | exact kb_int_str | exact kb_int_list | exact kb_int_tuple))) fun _ => ev_op (x := .int i) (y := .int i) (ev_var rfl) (ev_var rfl) (rv_eq rfl)) (by rw [decide_eq_true rfl]; rfl)) fun H4 e4 => fin H4 (((e1.trans e2).trans e3).trans e4)
      | str t =>
        cases hx; cases hy
        refine s_if (b := false) (et_test (fun H1 _ Q q => ⟨.str t, rfl, rfl, q H1 (Ex.refl H1)⟩)) (fun z => nomatch z) (fun _ H1 e1 => ?_)
        refine s_if (b := false) (et_B (isi (d := .str t) rfl (.str t) (by first | exact kb_str_bool | exact kb_str_int | exact kb_str_str | exact kb_str_list | exact kb_str_tuple))) (fun z => nomatch z) (fun _ H2 e2 => ?_)
        refine s_if (b := false) (et_B (isi (d := .str t) rfl (.str t) (by first | exact kb_str_bool | exact kb_str_int | exact kb_str_str | exact kb_str_list | exact kb_str_tuple))) (fun z => nomatch z) (fun _ H3 e3 => ?_)
        refine s_if (b := true) (et_B (isi (d := .str t) rfl (.str t) (by first | exact kb_str_bool | exact kb_str_int | exact kb_str_str | exact kb_str_list | exact kb_str_tuple))) (fun _ H4 e4 => ?_) (fun z => nomatch z)
        exact s_ret (v := .bl true) (ev_is (ev_andV (a := true) (isi (d := .str t) rfl (.str t) (by first | exact kb_str_bool | exact kb_str_int | exact kb_str_str | exact kb_str_list | exact kb_str_tuple)) fun _ => ev_op (x := .str t) (y := .str t) (ev_var rfl) (ev_var rfl) (rv_eq rfl)) (by rw [decide_eq_true rfl]; rfl)) fun H5 e5 => fin H5 ((((e1.trans e2).trans e3).trans e4).trans e5)
      | dict _ => cases hx
      | list ds =>
        have hw' := Bool.and_eq_true_iff.mp hw
        have ev0 : ∀ {H1 : Hp}, Ev (tOp (fun x y H Q => y = .non ∧ Q (.bl (decide (x = .non))) H) (tVar 1) (tC .non)) [some x, some y, none] H1 (.bl false) := by
          obtain ⟨a, xs, rfl, _⟩ := dpList hy
          exact fun {H1} H2 _ Q q => ⟨_, rfl, rfl, q H2 (Ex.refl H2)⟩
        refine s_if (b := false) (et_test ev0) (fun z => nomatch z) (fun _ H1 e1 => ?_)
        refine s_if (b := false) (et_B (isi (v := y) (d := .list ds) rfl (SB.mono e1 hy) (by first | exact kb_list_bool | exact kb_list_int | exact kb_list_str | exact kb_list_list | exact kb_list_tuple))) (fun z => nomatch z) (fun _ H2 e2 => ?_)
        replace e2 := e1.trans e2
        refine s_if (b := false) (et_B (isi (v := y) (d := .list ds) rfl (SB.mono e2 hy) (by first | exact kb_list_bool | exact kb_list_int | exact kb_list_str | exact kb_list_list | exact kb_list_tuple))) (fun z => nomatch z) (fun _ H3 e3 => ?_)
        replace e3 := e2.trans e3
        refine s_if (b := false) (et_B (isi (v := y) (d := .list ds) rfl (SB.mono e3 hy) (by first | exact kb_list_bool | exact kb_list_int | exact kb_list_str | exact kb_list_list | exact kb_list_tuple))) (fun z => nomatch z) (fun _ H4 e4 => ?_)
        replace e4 := e3.trans e4
        refine s_if (b := false) (et_is (et_or (et_test (ev_op (isi (v := y) (d := .list ds) (b := false) rfl (SB.mono e4 hy) (by first | exact kb_list_bool | exact kb_list_int | exact kb_list_str | exact kb_list_list | exact kb_list_tuple)) (isi (v := x) (d := .list ds) (b := false) rfl (SB.mono e4 hx) (by first | exact kb_list_bool | exact kb_list_int | exact kb_list_str | exact kb_list_list | exact kb_list_tuple)) (rv_ne rfl))) fun _ => et_test (ev_op (isi (v := y) (d := .list ds) (b := true) rfl (SB.mono e4 hy) (by first | exact kb_list_bool | exact kb_list_int | exact kb_list_str | exact kb_list_list | exact kb_list_tuple)) (isi (v := x) (d := .list ds) (b := true) rfl (SB.mono e4 hx) (by first | exact kb_list_bool | exact kb_list_int | exact kb_list_str | exact kb_list_list | exact kb_list_tuple)) (rv_ne rfl))) (by decide)) (fun z => nomatch z) (fun _ H5 e5 => ?_)
        replace e5 := e4.trans e5
        refine s_if (b := false) (et_is (et_test (ev_op (x := .int (ds.length : Int)) (y := .int (ds.length : Int)) (lenD (v := x) rfl (.inl (SB.mono e5 hx)) rfl) (lenD (v := y) rfl (.inl (SB.mono e5 hy)) rfl) (rv_ne rfl))) (by rw [decide_eq_true rfl]; rfl)) (fun z => nomatch z) (fun _ H6 e6 => ?_)
        exact s_ret (seq ds (.inl ⟨hx, hy, rfl⟩) (of_decide_eq_true hw'.1) hw'.2 (by have : PyData.depthAll ds + 1 < k + 1 := hdep; omega) (e5.trans e6)) fun H7 e7 => fin H7 ((e5.trans e6).trans e7)
      | tuple ds =>
        have hw' := Bool.and_eq_true_iff.mp hw
        have ev0 : ∀ {H1 : Hp}, Ev (tOp (fun x y H Q => y = .non ∧ Q (.bl (decide (x = .non))) H) (tVar 1) (tC .non)) [some x, some y, none] H1 (.bl false) := by
          obtain ⟨a, xs, rfl, _⟩ := dpTuple hy
          exact fun {H1} H2 _ Q q => ⟨_, rfl, rfl, q H2 (Ex.refl H2)⟩
        refine s_if (b := false) (et_test ev0) (fun z => nomatch z) (fun _ H1 e1 => ?_)
        refine s_if (b := false) (et_B (isi (v := y) (d := .tuple ds) rfl (SB.mono e1 hy) (by first | exact kb_tuple_bool | exact kb_tuple_int | exact kb_tuple_str | exact kb_tuple_list | exact kb_tuple_tuple))) (fun z => nomatch z) (fun _ H2 e2 => ?_)
        replace e2 := e1.trans e2
        refine s_if (b := false) (et_B (isi (v := y) (d := .tuple ds) rfl (SB.mono e2 hy) (by first | exact kb_tuple_bool | exact kb_tuple_int | exact kb_tuple_str | exact kb_tuple_list | exact kb_tuple_tuple))) (fun z => nomatch z) (fun _ H3 e3 => ?_)
        replace e3 := e2.trans e3
        refine s_if (b := false) (et_B (isi (v := y) (d := .tuple ds) rfl (SB.mono e3 hy) (by first | exact kb_tuple_bool | exact kb_tuple_int | exact kb_tuple_str | exact kb_tuple_list | exact kb_tuple_tuple))) (fun z => nomatch z) (fun _ H4 e4 => ?_)
        replace e4 := e3.trans e4
        refine s_if (b := false) (et_is (et_or (et_test (ev_op (isi (v := y) (d := .tuple ds) (b := true) rfl (SB.mono e4 hy) (by first | exact kb_tuple_bool | exact kb_tuple_int | exact kb_tuple_str | exact kb_tuple_list | exact kb_tuple_tuple)) (isi (v := x) (d := .tuple ds) (b := true) rfl (SB.mono e4 hx) (by first | exact kb_tuple_bool | exact kb_tuple_int | exact kb_tuple_str | exact kb_tuple_list | exact kb_tuple_tuple)) (rv_ne rfl))) fun _ => et_test (ev_op (isi (v := y) (d := .tuple ds) (b := false) rfl (SB.mono e4 hy) (by first | exact kb_tuple_bool | exact kb_tuple_int | exact kb_tuple_str | exact kb_tuple_list | exact kb_tuple_tuple)) (isi (v := x) (d := .tuple ds) (b := false) rfl (SB.mono e4 hx) (by first | exact kb_tuple_bool | exact kb_tuple_int | exact kb_tuple_str | exact kb_tuple_list | exact kb_tuple_tuple)) (rv_ne rfl))) (by decide)) (fun z => nomatch z) (fun _ H5 e5 => ?_)
        replace e5 := e4.trans e5
        refine s_if (b := false) (et_is (et_test (ev_op (x := .int (ds.length : Int)) (y := .int (ds.length : Int)) (lenD (v := x) rfl (.inr (SB.mono e5 hx)) rfl) (lenD (v := y) rfl (.inr (SB.mono e5 hy)) rfl) (rv_ne rfl))) (by rw [decide_eq_true rfl]; rfl)) (fun z => nomatch z) (fun _ H6 e6 => ?_)
        exact s_ret (seq ds (.inr ⟨hx, hy, rfl⟩) (of_decide_eq_true hw'.1) hw'.2 (by have : PyData.depthAll ds + 1 < k + 1 := hdep; omega) (e5.trans e6)) fun H7 e7 => fin H7 ((e5.trans e6).trans e7)
end

/-! ### _law_members, _law_told, _law_others -/
section
variable {K : PySem.W.Frag} {w : World} {σ : L2.St} {H : Hp}
theorem nSorted {ta : TE} {ns out : List Int} (h : EvD K ta σ H (.list (ns.map PyData.int))) (hb : ns.length < 4000) (ho : out.Pairwise (· < ·)) (hm : ∀ k, k ∈ out ↔ k ∈ ns) : EvN K (tCB (SC.rSortS w) (tCons (tCB (SC.rSetI K w) (tCons ta tNil)) tNil)) σ H (out.map PyData.int) := fun H1 e Q q =>
  h H1 e _ fun v H2 e2 hd => by
    obtain ⟨a, xs, rfl, hs, hA⟩ := dpList hd
    have hx := intsOfAll hA
    subst hx
    refine ⟨a, ns, rfl, hs, by show ns.length + 1 < 4096; omega, fun c p hp => ⟨p, _, c, rfl, upd_same, fun ns' q' hs' hm' _ _ hq => ?_⟩⟩
    have eo : ns' = out := sortedInt hs' ho fun k => by rw [hm' k, hm k, decide_eq_true_eq]
    subst eo
    exact q q' _ _ (fresh_back (e2.trans (Ex.new hp)) hq) ((e2.trans (Ex.new hp)).trans (Ex.new hq)) upd_same (allOfInts _)
/-- xs + ys, both tracked -/
theorem nCat2 {ta tb : TE} {l b : Addr} {xs ys : List V} {ds es : List PyData} (ha : Ev ta σ H (.ref l)) (hl : H l = some (.lst xs)) (hA : DpAll K H xs ds) (hb : Ev tb σ H (.ref b)) (hl' : H b = some (.lst ys)) (hB : DpAll K H ys es) (hz : ds.length + es.length ≤ 100000) : EvN K (tOp rCat ta tb) σ H (ds ++ es) := fun H1 e Q q =>
  ha H1 e _ fun H2 e2 => hb H2 (e.trans e2) _ fun H3 e3 => ⟨l, b, xs, ys, rfl, rfl, ((e.trans e2).trans e3) l _ hl, ((e.trans e2).trans e3) b _ hl', sz_of (by rw [allLen hA, allLen hB]; exact hz), fun p hp =>
    q p _ _ (fresh_back (e2.trans e3) hp) ((e2.trans e3).trans (Ex.new hp)) upd_same (allApp (monoA (((e.trans e2).trans e3).trans (Ex.new hp)) hA) (monoA (((e.trans e2).trans e3).trans (Ex.new hp)) hB))⟩
theorem inInts {ns : List Int} {x : Int} : inV (.int x) (ns.map V.int) = decide (x ∈ ns) := by
  induction ns with
  | nil => rfl
  | cons y r ih =>
    show (eqV (.int y) (.int x) || inV (.int x) (r.map V.int)) = _
    rw [ih]
    show ((y == x) || decide (x ∈ r)) = _
    rw [Bool.eq_iff_iff]
    simp only [Bool.or_eq_true, beq_iff_eq, decide_eq_true_eq, List.mem_cons]
    constructor
    · rintro (h | h)
      · exact .inl h.symm
      · exact .inr h
    · rintro (h | h)
      · exact .inl h.symm
      · exact .inr h
theorem flatInts (ns : List Int) : (ns.map V.int).all flatV = true := by
  rw [List.all_map]
  exact List.all_eq_true.mpr fun _ _ => rfl
/-- x in numbers, x not in numbers -/
theorem inD {neg : Bool} {ta tb : TE} {x : Int} {ns : List Int} {v : V} (ha : Ev ta σ H (.int x)) (hb : Ev tb σ H v) (hd : Dp K H v (.list (ns.map PyData.int))) : Ev (tOp (rIn K neg) ta tb) σ H (.bl (if neg then !decide (x ∈ ns) else decide (x ∈ ns))) := fun H1 e Q q =>
  ha H1 e _ fun H2 e2 => hb H2 (e.trans e2) _ fun H3 e3 => by
    obtain ⟨a, xs, rfl, hs, hA⟩ := dpList (SB.mono ((e.trans e2).trans e3) hd)
    have hx := intsOfAll hA
    subst hx
    refine ⟨a, _, rfl, .inl hs, rfl, flatInts ns, ?_⟩
    rw [inInts]
    exact q H3 (e2.trans e3)
end
def msD (ms : List Nat) : List PyData := ms.map iD'
theorem msD_int (ms : List Nat) : msD ms = (ms.map fun k : Nat => (k : Int)).map PyData.int := by unfold msD; rw [List.map_map]; rfl
theorem mem_ints {ms : List Nat} {x : Int} : x ∈ (ms.map fun k : Nat => (k : Int)) ↔ ∃ k : Nat, k ∈ ms ∧ (k : Int) = x := List.mem_map
theorem outs_filter (ms : List Nat) (f : Nat → Bool) : outs ms.length (fun i => f (ms.getD i 0)) (fun i => iD' (ms.getD i 0)) = msD (ms.filter f) := by
  have h := outs_map (fun c => f c.toNat) (ms.map fun k : Nat => (k : Int))
  have e : ∀ i, (ms.map fun k : Nat => (k : Int)).getD i 0 = ((ms.getD i 0 : Nat) : Int) := fun i => by
    rw [List.getD_eq_getElem?_getD, List.getD_eq_getElem?_getD, List.getElem?_map]
    cases ms[i]? <;> rfl
  rw [List.length_map] at h
  have e1 : (fun i => f ((ms.map fun k : Nat => (k : Int)).getD i 0).toNat) = fun i => f (ms.getD i 0) := funext fun i => by rw [e i, Int.toNat_natCast]
  have e2 : (fun i => PyData.int ((ms.map fun k : Nat => (k : Int)).getD i 0)) = fun i => iD' (ms.getD i 0) := funext fun i => by rw [e i]; rfl
  rw [e1, e2] at h
  rw [h, msD_int, List.filter_map]
  rfl
section
variable {P : Program} {w : World} {K : PySem.W.Frag} {mg : Str → Option Value} {base : Heap}
def RMem : List PyData → List PyData → Prop := fun ds o => ∃ (n : Nat) (rs : List (Nat × Nat)), ds = [.int (n : Int), sD rs] ∧ n ≤ 64 ∧ Good n rs ∧ o = msD ((List.range n).filter (memB rs))
theorem ok_lmem {f : Addr} {fd : FuncData} {k : Nat} (F : Fun K "_law_members" "_law_members" sLawMembers f fd) (mL : mg "list" = none) (mr : mg "range" = none) (mso : mg "sorted" = none) (mse : mg "set" = none) : FnOk P w K mg base CX0 (k + 1) f fd ["_law_size_here", "_law_ranges"] (spN K RMem) := by
  refine F.ok scLawMembers (fun vs H Q E h => ?_) (fun cdv A outer s H vs Q E hr h => ?_)
  · obtain ⟨ds, out, ha, ⟨n, rs, rfl, _⟩, _⟩ := h
    exact allLen ha
  · obtain ⟨ds, out, ha, ⟨n, rs, rfl, h64, hg, rfl⟩, q⟩ := h
    obtain ⟨x, y, rfl, hx, hy⟩ := all2 ha
    cases dpInt hx
    have nd := scLawMembers.nd
    refine ⟨_, pss_cons (ps_set (i := 2) nd rfl (.inl rfl) (pe_lst pa_nil))
      (pss_cons (ps_for PassesOwn.never rfl (pi_list (pv 1)) (pg_tup rfl (pgs_cons (pg_name (i := 3) nd rfl (.inl rfl)) (pgs_cons (pg_name (i := 4) nd rfl (.inl rfl)) pgs_nil)))
        (pss_one (ps_set (i := 2) nd rfl (.inl rfl) (pe_op op_cat (pv 2) (pe_listRg rfl (by rfl) mL (prg_2 (by rfl) mr (pv 3) (pe_op op_add (pv 4) pe_int)))))))
      (pss_one (ps_ret (pe_callB (SC.crSortS rfl) (by rfl) mso (by decide +kernel) (pa_cons (pe_callTy (SC.crSetI rfl) (by rfl) mse (by decide +kernel) (pa_cons (pv 2) pa_nil)) pa_nil))))), ?_⟩
    refine ⟨Nat.zero_le _, fun l0 hl0 => ?_⟩
    refine sFor (B := H) (Ex.new hl0) (wkList (ev_var (v := y) rfl) hy) (fun i σ' H' => Ex H H' ∧ ∃ l a b, H' l = some (.lst ((cat (rs.take i)).map V.int)) ∧ σ' = [some (.int (n : Int)), some y, some (.ref l), a, b]) (fun H2 e => ⟨(Ex.new hl0).trans e, l0, none, none, e l0 _ upd_same, rfl⟩) (fun i σ' H' _ p => p.1) (fun i x σ' H' H'' hi p e hd => ?_) (fun σ' H' p => ?_)
    · obtain ⟨e0, l, a, b, hl, rfl⟩ := p
      rw [List.length_map] at hi
      rw [getD_map rD (List.getElem?_eq_getElem hi)] at hd
      have g := hg.ok rs[i] (List.getElem_mem hi)
      have gl : (cat (rs.take i)).length ≤ 64 * 64 := by
        have h1 := cat_len (n := n) (rs := rs.take i) fun r hr => hg.ok r (List.mem_of_mem_take hr)
        have h2 : (rs.take i).length ≤ 40 := by rw [List.length_take]; have := hg.len; omega
        have h3 : (rs.take i).length * n ≤ 64 * 64 := Nat.mul_le_mul (by omega) h64
        omega
      generalize hr' : rs[i] = r at hd g
      refine gPair hd fun y1 z1 hy1 hz1 => ?_
      cases dpInt hy1
      cases dpInt hz1
      refine ⟨.ref l, rfl, .int (r.1 : Int), rfl, .int (r.2 : Int), rfl, (r.2 : Int), 1, rfl, rfl, (r.1 : Int), (r.2 : Int) + 1, rfl, rfl, RgOk.of_le (by omega) (by omega) (by omega) (by omega), fun c hc => ?_⟩
      refine ⟨l, c, _, _, rfl, rfl, by rw [upd_ne (ne_of_none (e l _ hl) hc)]; exact e l _ hl, upd_same, sz_of ?_, fun p hp => ?_⟩
      · rw [rgV_length, List.length_map]; omega
      · refine ⟨((e0.trans e).trans (Ex.new hc)).trans (Ex.new hp), p, some (.int (r.1 : Int)), some (.int (r.2 : Int)), ?_, rfl⟩
        rw [upd_same, List.take_add_one, List.getElem?_eq_getElem hi, hr']
        refine congrArg (fun z => some (HO.lst z)) ?_
        unfold cat rgV
        show _ = ((rs.take i ++ [r]).flatMap _).map V.int
        rw [List.flatMap_append, List.map_append, List.flatMap_cons, List.flatMap_nil, List.append_nil, List.map_map, show ((r.2 : Int) + 1 - (r.1 : Int)).toNat = r.2 + 1 - r.1 by omega]
        rfl
    · obtain ⟨e0, l, a, b, hl, rfl⟩ := p
      rw [List.length_map, List.take_length] at hl
      have gl : (cat rs).length < 4000 := by
        have h1 := cat_len (n := n) (rs := rs) hg.ok
        have h3 : rs.length * n ≤ 40 * 64 := Nat.mul_le_mul hg.len h64
        omega
      have S := nSorted (K := K) (w := w) (σ := [some (.int (n : Int)), some y, some (.ref l), a, b]) (H := H') (ta := tVar 2) (ns := cat rs) (out := ((List.range n).filter (memB rs)).map fun k : Nat => (k : Int)) (dVar (v := .ref l) rfl (.lst (sq_of hl) (allOfInts _))) gl (int_lt (filt_lt _ _)) (fun k => by
        rw [mem_ints, mem_cat]
        constructor
        · rintro ⟨j, h1, rfl⟩
          exact ⟨j, rfl, (mem_filt.mp h1).2⟩
        · rintro ⟨j, rfl, h1⟩
          exact ⟨j, mem_filt.mpr ⟨memB_lt hg.ok h1, h1⟩, rfl⟩)
      rw [← msD_int] at S
      exact sRetN S (q.ex e0)
def RTold : List PyData → List PyData → Prop := fun ds o => ∃ (n : Nat) (m : Nat → Bool), ds = [.list (msD ((List.range n).filter m))] ∧ n ≤ 64 ∧ o = (told m n).map rD
theorem filt_filt (n : Nat) (m g : Nat → Bool) : ((List.range n).filter m).filter g = (List.range n).filter fun k => m k && g k := by
  rw [List.filter_filter]
  refine List.filter_congr fun k _ => ?_
  exact Bool.and_comm _ _
theorem ok_ltold {f : Addr} {fd : FuncData} {k : Nat} (F : Fun K "_law_told" "_law_told" sLawTold f fd) (mr : mg "range" = none) (ml : mg "len" = none) : FnOk P w K mg base CX0 (k + 1) f fd ["_law_numbers"] (spN K RTold) := by
  refine F.ok scLawTold (fun vs H Q E h => ?_) (fun cdv A outer s H vs Q E hr h => ?_)
  · obtain ⟨ds, out, ha, ⟨n, m, rfl, _⟩, _⟩ := h
    exact allLen ha
  · obtain ⟨ds, out, ha, ⟨n, m, rfl, h64, rfl⟩, q⟩ := h
    obtain ⟨y, rfl, hy⟩ := all1 ha
    have nd := scLawTold.nd
    obtain ⟨ms, hms⟩ : ∃ ms, ms = (List.range n).filter m := ⟨_, rfl⟩
    rw [← hms] at hy
    have hlen : ms.length ≤ 64 := by
      rw [hms]
      have := List.length_filter_le m (List.range n)
      rw [List.length_range] at this
      omega
    refine ⟨_, pss_cons (ps_set (i := 1) nd rfl (.inr rfl) (pe_lc (own := [("_law_number", 3)]) (g := gName 3) (tt := tTest (tOp (rIn K true) (tOp (rI0 fun i j => .int (i - j)) (tVar 3) (tC (.int 1))) (tVar 0))) (te := tVar 3) rfl nd (pi_list (pv 0)) (blkOk_by (own := [("_law_number", 3)]) (N := nLawTold) (sc := defScope sLawTold) (by decide +kernel))
        (fun _ _ _ _ _ => pg_name (i := 3) nd rfl (Or.inl rfl)) (fun _ _ _ _ _ => pts_one (pt_cmpR op_notIn_seq (pe_op op_sub (pv 3) pe_int) (pv 0) (by rfl))) (fun _ _ _ _ _ => pv 3)))
      (pss_cons (ps_set (i := 2) nd rfl (.inr rfl) (pe_lc (own := [("_law_number", 3)]) (g := gName 3) (tt := tTest (tOp (rIn K true) (tOp (rI0 fun i j => .int (i + j)) (tVar 3) (tC (.int 1))) (tVar 0))) (te := tVar 3) rfl nd (pi_list (pv 0)) (blkOk_by (own := [("_law_number", 3)]) (N := nLawTold) (sc := defScope sLawTold) (by decide +kernel))
        (fun _ _ _ _ _ => pg_name (i := 3) nd rfl (Or.inl rfl)) (fun _ _ _ _ _ => pts_one (pt_cmpR op_notIn_seq (pe_op op_add (pv 3) pe_int) (pv 0) (by rfl))) (fun _ _ _ _ _ => pv 3)))
      (pss_one (ps_ret (pe_lc (own := [("_law_k", 4)]) (g := gName 4) (tt := tYes) (te := tTup (tCons (tOp (rIx K) (tVar 1) (tVar 4)) (tCons (tOp (rIx K) (tVar 2) (tVar 4)) tNil))) rfl nd (pi_range1 (by rfl) mr (pa_cons (pe_callB call_len_seq (by rfl) ml PySem.boot_len (pa_cons (pv 1) pa_nil)) pa_nil)) (blkOk_by (own := [("_law_k", 4)]) (N := nLawTold) (sc := defScope sLawTold) (by decide +kernel))
        (fun _ _ _ _ _ => pg_name (i := 4) nd rfl (Or.inl rfl)) (fun _ _ _ _ _ => pts_nil) (fun _ _ _ _ _ => pe_tup (pa_cons (pe_ix ix_seq (pv 1) (pv 4) (fun _ _ => rfl)) (pa_cons (pe_ix ix_seq (pv 2) (pv 4) (fun _ _ => rfl)) pa_nil))))))), ?_⟩
    have hy' : Dp K H y (.list ((ms.map fun k : Nat => (k : Int)).map PyData.int)) := by rw [← msD_int]; exact hy
    -- firsts
    have N1 := nLc (K := K) (σ := [some y, none, none, none, none]) (H := H) (wi := iList K (tVar 0)) (g := gName 3) (tt := tTest (tOp (rIn K true) (tOp (rI0 fun i j => .int (i - j)) (tVar 3) (tC (.int 1))) (tVar 0))) (te := tVar 3) (vs := [3]) (fun i => (fun x : Nat => !decide (((x : Int) - 1) ∈ ms.map fun k : Nat => (k : Int))) (ms.getD i 0)) (fun i => iD' (ms.getD i 0)) (by rw [show (msD ms).length = ms.length from List.length_map ..]; omega) (wkList (ev_var (v := y) rfl) hy).asN (fun Dl i x H3 hi e3 hd => by
      rw [show (msD ms).length = ms.length from List.length_map ..] at hi
      rw [show (msD ms).getD i .none = iD' ms[i] from getD_map iD' (List.getElem?_eq_getElem hi)] at hd
      cases dpInt hd
      rw [getD_at 0 hi]
      exact ⟨[some y, none, none, some (.int (ms[i] : Nat)), none], fun Q q => q, rfl, et_test (inD (neg := true) (ev_op (ev_var (v := .int (ms[i] : Nat)) rfl) ev_c rv_I0) (ev_var (v := y) rfl) (SB.mono e3 hy')), fun _ => (dVar (d := iD' ms[i]) rfl (.int _)).x rfl⟩)
    rw [show (msD ms).length = ms.length from List.length_map .., outs_filter ms fun x : Nat => !decide (((x : Int) - 1) ∈ ms.map fun k : Nat => (k : Int))] at N1
    have E1 : ms.filter (fun x : Nat => !decide (((x : Int) - 1) ∈ ms.map fun k : Nat => (k : Int))) = (told m n).map Prod.fst := by
      rw [told_fst, hms, filt_filt]
      refine List.filter_congr fun x hx => ?_
      unfold isF
      refine congrArg _ ?_
      rw [Bool.eq_iff_iff, Bool.not_eq_true', decide_eq_false_iff_not, mem_ints]
      simp only [Bool.or_eq_true, decide_eq_true_eq, Bool.not_eq_true']
      have hx' := List.mem_range.mp hx
      constructor
      · intro h
        by_cases c : x = 0
        · exact .inl c
        · refine .inr ?_
          cases hmx : m (x - 1) with
          | false => rfl
          | true => exact absurd ⟨x - 1, mem_filt.mpr ⟨by omega, hmx⟩, by omega⟩ h
      · rintro h ⟨j, hj, ej⟩
        obtain ⟨_, j2⟩ := mem_filt.mp hj
        rcases h with h | h
        · omega
        · rw [show x - 1 = j by omega, j2] at h; cases h
    rw [E1] at N1
    refine sAsgN N1 fun p1 xs1 H1 hp1 e1 h1 a1 => ?_
    have N2 := nLc (K := K) (σ := [some y, some (.ref p1), none, none, none]) (H := H1) (wi := iList K (tVar 0)) (g := gName 3) (tt := tTest (tOp (rIn K true) (tOp (rI0 fun i j => .int (i + j)) (tVar 3) (tC (.int 1))) (tVar 0))) (te := tVar 3) (vs := [3]) (fun i => (fun x : Nat => !decide (((x : Int) + 1) ∈ ms.map fun k : Nat => (k : Int))) (ms.getD i 0)) (fun i => iD' (ms.getD i 0)) (by rw [show (msD ms).length = ms.length from List.length_map ..]; omega) (wkList (ev_var (v := y) rfl) (SB.mono e1 hy)).asN (fun Dl i x H3 hi e3 hd => by
      rw [show (msD ms).length = ms.length from List.length_map ..] at hi
      rw [show (msD ms).getD i .none = iD' ms[i] from getD_map iD' (List.getElem?_eq_getElem hi)] at hd
      cases dpInt hd
      rw [getD_at 0 hi]
      exact ⟨[some y, some (.ref p1), none, some (.int (ms[i] : Nat)), none], fun Q q => q, rfl, et_test (inD (neg := true) (ev_op (ev_var (v := .int (ms[i] : Nat)) rfl) ev_c rv_I0) (ev_var (v := y) rfl) (SB.mono (e1.trans e3) hy')), fun _ => (dVar (d := iD' ms[i]) rfl (.int _)).x rfl⟩)
    rw [show (msD ms).length = ms.length from List.length_map .., outs_filter ms fun x : Nat => !decide (((x : Int) + 1) ∈ ms.map fun k : Nat => (k : Int))] at N2
    have E2 : ms.filter (fun x : Nat => !decide (((x : Int) + 1) ∈ ms.map fun k : Nat => (k : Int))) = (told m n).map Prod.snd := by
      rw [told_snd, hms, filt_filt]
      refine List.filter_congr fun x hx => ?_
      unfold isL
      refine congrArg _ ?_
      rw [Bool.eq_iff_iff, Bool.not_eq_true', decide_eq_false_iff_not, mem_ints]
      simp only [Bool.or_eq_true, decide_eq_true_eq, Bool.not_eq_true']
      have hx' := List.mem_range.mp hx
      constructor
      · intro h
        by_cases c : x + 1 = n
        · exact .inl c
        · refine .inr ?_
          cases hmx : m (x + 1) with
          | false => rfl
          | true => exact absurd ⟨x + 1, mem_filt.mpr ⟨by omega, hmx⟩, by omega⟩ h
      · rintro h ⟨j, hj, ej⟩
        obtain ⟨j1, j2⟩ := mem_filt.mp hj
        rcases h with h | h
        · omega
        · rw [show x + 1 = j by omega, j2] at h; cases h
    rw [E2] at N2
    refine sAsgN N2 fun p2 xs2 H2 hp2 e2 h2 a2 => ?_
    obtain ⟨ts, hts⟩ : ∃ ts, ts = told m n := ⟨_, rfl⟩
    rw [← hts] at q a1 a2
    have htl : ts.length ≤ 64 := by rw [hts]; have := told_len m n; omega
    have d1 : Dp K H2 (.ref p1) (.list (msD (ts.map Prod.fst))) := .lst (sq_of (e2 p1 _ h1)) (monoA e2 a1)
    have d2 : Dp K H2 (.ref p2) (.list (msD (ts.map Prod.snd))) := .lst (sq_of h2) a2
    have hfl : (msD (ts.map Prod.fst)).length = ts.length := by unfold msD; rw [List.length_map, List.length_map]
    have N3 := nLc (K := K) (σ := [some y, some (.ref p1), some (.ref p2), none, none]) (H := H2) (wi := iRng1 (tCons (tCB (fun xs H Q => ∃ p ys, xs = [.ref p] ∧ (SqL K H p ys ∨ SqT K H p ys) ∧ Q (.int ys.length) H) (tCons (tVar 1) tNil)) tNil)) (g := gName 4) (tt := tYes) (te := tTup (tCons (tOp (rIx K) (tVar 1) (tVar 4)) (tCons (tOp (rIx K) (tVar 2) (tVar 4)) tNil))) (vs := [4]) (n := (ts.length : Int).toNat) (fun _ => true) (fun i => rD (ts.getD i (0, 0))) (by omega) (wkRange1 (ea_cons (ev_is (lenD (v := .ref p1) rfl (.inl d1) rfl) (congrArg (fun z : Nat => V.int (z : Int)) hfl)) ea_nil) ⟨by omega, by omega⟩).asN (fun Dl i x H3 hi e3 hd => by
      rw [Int.toNat_natCast] at hi
      cases dpInt hd
      rw [getD_at (0, 0) hi]
      refine ⟨[some y, some (.ref p1), some (.ref p2), none, some (.int (i : Nat))], fun Q q => q, rfl, et_yes, fun _ => (dTup (da2 (ixD (d := iD' ts[i].1) (i := i) rfl rfl (.inl (SB.mono e3 d1)) ?_) (ixD (d := iD' ts[i].2) (i := i) rfl rfl (.inl (SB.mono e3 d2)) ?_)) (by show 2 ≤ 100000; decide)).x rfl⟩
      · unfold msD; rw [List.getElem?_map, List.getElem?_map, List.getElem?_eq_getElem hi]; rfl
      · unfold msD; rw [List.getElem?_map, List.getElem?_map, List.getElem?_eq_getElem hi]; rfl)
    rw [outs_all, Int.toNat_natCast, range_getD rD (0, 0) ts] at N3
    exact sRetN N3 (q.ex (e1.trans e2))
def ROth : List PyData → List PyData → Prop := fun ds o => ∃ (n : Nat) (m : Nat → Bool), ds = [.int (n : Int), .list (msD ((List.range n).filter m))] ∧ n ≤ 64 ∧ o = msD ((List.range n).filter fun k => !m k)
theorem ok_loth {f : Addr} {fd : FuncData} {k : Nat} (F : Fun K "_law_others" "_law_others" sLawOthers f fd) (mr : mg "range" = none) : FnOk P w K mg base CX0 (k + 1) f fd ["_law_size_here", "_law_numbers"] (spN K ROth) := by
  refine F.ok scLawOthers (fun vs H Q E h => ?_) (fun cdv A outer s H vs Q E hr h => ?_)
  · obtain ⟨ds, out, ha, ⟨n, m, rfl, _⟩, _⟩ := h
    exact allLen ha
  · obtain ⟨ds, out, ha, ⟨n, m, rfl, h64, rfl⟩, q⟩ := h
    obtain ⟨x, y, rfl, hx, hy⟩ := all2 ha
    cases dpInt hx
    have nd := scLawOthers.nd
    refine ⟨_, pss_one (ps_ret (pe_lc (own := [("_law_number", 2)]) (g := gName 2) (tt := tTest (tOp (rIn K true) (tVar 2) (tVar 1))) (te := tVar 2) rfl nd (pi_range1 (by rfl) mr (pa_cons (pv 0) pa_nil)) (blkOk_by (own := [("_law_number", 2)]) (N := nLawOthers) (sc := defScope sLawOthers) (by decide +kernel))
        (fun _ _ _ _ _ => pg_name (i := 2) nd rfl (Or.inl rfl)) (fun _ _ _ _ _ => pts_one (pt_cmpR op_notIn_seq (pv 2) (pv 1) (by rfl))) (fun _ _ _ _ _ => pv 2))), ?_⟩
    rw [msD_int] at hy
    have N := nLc (K := K) (σ := [some (.int (n : Int)), some y, none]) (H := H) (wi := iRng1 (tCons (tVar 0) tNil)) (g := gName 2) (tt := tTest (tOp (rIn K true) (tVar 2) (tVar 1))) (te := tVar 2) (vs := [2]) (n := (n : Int).toNat) (fun i => !m i) iD' (by omega) (wkRange1 (ea_cons (ev_var rfl) ea_nil) ⟨by omega, by omega⟩).asN (fun Dl i x H3 hi e3 hd => by
      rw [Int.toNat_natCast] at hi
      cases dpInt hd
      refine ⟨[some (.int (n : Int)), some y, some (.int (i : Nat))], fun Q q => q, rfl, et_is (et_test (inD (neg := true) (x := (i : Nat)) (ev_var rfl) (ev_var (v := y) rfl) (SB.mono e3 hy))) ?_, fun _ => (dVar (d := iD' i) rfl (.int _)).x rfl⟩
      show (!decide _) = _
      refine congrArg _ ?_
      rw [Bool.eq_iff_iff, decide_eq_true_eq, mem_ints]
      constructor
      · rintro ⟨j, hj, ej⟩
        rw [show i = j by omega]
        exact (mem_filt.mp hj).2
      · intro h
        exact ⟨i, mem_filt.mpr ⟨hi, h⟩, rfl⟩)
    rw [Int.toNat_natCast] at N
    exact sRetN N q
end

/-! ### lists of new lists -/
inductive Parts (K : PySem.W.Frag) (H H' : Hp) : List Addr → List (List PyData) → Prop
  | nil : Parts K H H' [] []
  | cons {a : Addr} {xs : List V} {ds : List PyData} {ps : List Addr} {dss : List (List PyData)} : H a = none → H' a = some (.lst xs) → DpAll K H' xs ds → Parts K H H' ps dss → Parts K H H' (a :: ps) (ds :: dss)
section
variable {K : PySem.W.Frag} {σ : L2.St} {H H' H'' : Hp}
theorem Parts.mono {ps : List Addr} {dss : List (List PyData)} (e : Ex H' H'') (h : Parts K H H' ps dss) : Parts K H H'' ps dss := by
  induction h with
  | nil => exact .nil
  | cons h1 h2 h3 _ ih => exact .cons h1 (e _ _ h2) (monoA e h3) ih
theorem Parts.back {H0 : Hp} {ps : List Addr} {dss : List (List PyData)} (e : Ex H0 H) (h : Parts K H H' ps dss) : Parts K H0 H' ps dss := by
  induction h with
  | nil => exact .nil
  | cons h1 h2 h3 _ ih => exact .cons (fresh_back e h1) h2 h3 ih
theorem Parts.app {ps qs : List Addr} {dss ess : List (List PyData)} (h : Parts K H H' ps dss) (h' : Parts K H H' qs ess) : Parts K H H' (ps ++ qs) (dss ++ ess) := by
  induction h with
  | nil => exact h'
  | cons h1 h2 h3 _ ih => exact .cons h1 h2 h3 ih
theorem Parts.dp {ps : List Addr} {dss : List (List PyData)} (h : Parts K H H' ps dss) : DpAll K H' (ps.map V.ref) (dss.map PyData.list) := by
  induction h with
  | nil => exact .nil
  | cons h1 h2 h3 _ ih => exact .cons (.lst (sq_of h2) h3) ih
theorem Parts.fresh {ps : List Addr} {dss : List (List PyData)} (h : Parts K H H' ps dss) : ∀ a ∈ ps, H a = none := by
  induction h with
  | nil => intro a ha; simp at ha
  | cons h1 h2 h3 _ ih =>
    intro b hb
    rcases List.mem_cons.mp hb with e | e
    · rw [e]; exact h1
    · exact ih b e
theorem Parts.lists {ps : List Addr} {dss : List (List PyData)} {k : Nat} (h : Parts K H H' ps dss) (hk : ∀ ds ∈ dss, ds.length ≤ k) : ∀ a ∈ ps, ∃ xs, H' a = some (.lst xs) ∧ xs.length ≤ k := by
  induction h with
  | nil => intro a ha; simp at ha
  | cons h1 h2 h3 _ ih =>
    intro b hb
    rcases List.mem_cons.mp hb with e | e
    · rw [e]; exact ⟨_, h2, by rw [allLen h3]; exact hk _ List.mem_cons_self⟩
    · exact ih (fun ds hds => hk ds (List.mem_cons_of_mem _ hds)) b e
theorem Parts.len {ps : List Addr} {dss : List (List PyData)} (h : Parts K H H' ps dss) : ps.length = dss.length := by
  induction h with
  | nil => rfl
  | cons h1 h2 h3 _ ih => rw [List.length_cons, List.length_cons, ih]
def EvPs (K : PySem.W.Frag) (ta : TA) (σ : L2.St) (H : Hp) (dss : List (List PyData)) : Prop := ∀ H1, Ex H H1 → ∀ Q : List V → Hp → Prop, (∀ ps H2, Ex H1 H2 → Parts K H1 H2 ps dss → Q (ps.map V.ref) H2) → ta σ H1 Q
theorem psNil : EvPs K tNil σ H [] := fun H1 _ Q q => q [] H1 (Ex.refl H1) .nil
theorem psCons {te : TE} {tA : TA} {ds : List PyData} {dss : List (List PyData)} (h : EvN K te σ H ds) (hr : EvPs K tA σ H dss) : EvPs K (tCons te tA) σ H (ds :: dss) := fun H1 e Q q =>
  h H1 e _ fun p xs H2 hp e2 h2 a2 => hr H2 (e.trans e2) _ fun ps H3 e3 pr => q (p :: ps) H3 (e2.trans e3) (.cons hp (e3 p _ h2) (monoA e3 a2) (pr.back e2))
/-- a new list of new lists -/
def NewP (K : PySem.W.Frag) (H : Hp) (Q : VK) (dss : List (List PyData)) : Prop := ∀ p ps H', H p = none → Ex H H' → H' p = some (.lst (ps.map V.ref)) → Parts K H H' ps dss → p ∉ ps → Q (.ref p) H'
theorem Parts.notin {ps : List Addr} {dss : List (List PyData)} {p : Addr} (h : Parts K H H' ps dss) (hp : H' p = none) : p ∉ ps := fun z => by
  have : ∀ {ps : List Addr} {dss : List (List PyData)}, Parts K H H' ps dss → p ∈ ps → False := by
    intro ps dss h
    induction h with
    | nil => intro z; simp at z
    | cons h1 h2 h3 _ ih =>
      intro z
      rcases List.mem_cons.mp z with e | e
      · rw [← e, hp] at h2; cases h2
      · exact ih e
  exact this h z
theorem pLst {tA : TA} {dss : List (List PyData)} {Q : VK} (h : EvPs K tA σ H dss) (hl : dss.length ≤ 100000) (q : NewP K H Q dss) : tLst tA σ H Q :=
  h H (Ex.refl H) _ fun ps H1 e1 pr => ⟨sz_of (by rw [List.length_map, pr.len]; exact hl), fun p hp => q p ps _ (fresh_back e1 hp) (e1.trans (Ex.new hp)) upd_same (pr.mono (Ex.new hp)) (pr.notin hp)⟩
theorem sAsgP {tA : TA} {dss : List (List PyData)} {D : Ends} {i : Nat} (h : EvPs K tA σ H dss) (hl : dss.length ≤ 100000) (k : ∀ p ps H', H p = none → Ex H H' → H' p = some (.lst (ps.map V.ref)) → Parts K H H' ps dss → p ∉ ps → D.nx (σ.set i (some (.ref p))) H') : tAsg (tLst tA) (gName i) D σ H := pLst (Q := fun x H1 => D.nx (σ.set i (some x)) H1) h hl k
theorem nListOf {ta : TE} {r : List V → Hp → VK → Prop} {ds : List PyData} (h : EvD K ta σ H (.list ds)) (hr : r = fun xs H Q => ∃ p ys, xs = [.ref p] ∧ (SqL K H p ys ∨ SqT K H p ys) ∧ ∀ l, H l = none → Q (.ref l) (upd H l (.lst ys))) : EvN K (tCB r (tCons ta tNil)) σ H ds := fun H1 e Q q => by
  subst hr
  refine h H1 e _ fun v H2 e2 hd => ?_
  obtain ⟨a, xs, rfl, hs, hA⟩ := dpList hd
  exact ⟨a, xs, rfl, .inl hs, fun l hl => q l xs _ (fresh_back e2 hl) (e2.trans (Ex.new hl)) upd_same (monoA (Ex.new hl) hA)⟩
/-- u = [..], what is in it told beside it -/
theorem sAsgX {tA : TA} {ds : List PyData} {D : Ends} {i : Nat} (h : EvDA K tA σ H ds) (hl : ds.length ≤ 100000) (k : ∀ u vs H1, H u = none → Ex H H1 → H1 u = some (.lst vs) → DpAll K (rm H1 u) vs ds → D.nx (σ.set i (some (.ref u))) H1) : tAsg (tLst tA) (gName i) D σ H :=
  h H (Ex.refl H) _ fun vs H1 e1 ha => ⟨sz_of (by rw [allLen ha]; exact hl), fun u hu => k u vs _ (fresh_back e1 hu) (e1.trans (Ex.new hu)) upd_same (by rw [rmUpd, rmFree hu]; exact ha)⟩
theorem sAppX {te ta : TE} {u : Addr} {vs : List V} {ds : List PyData} {d : PyData} {D : Ends} (hu : H u = some (.lst vs)) (hA : DpAll K (rm H u) vs ds) (hs : vs.length < 100000) (ht : Ev ta σ H (.ref u)) (h : EvX K te σ H u d)
    (k : ∀ vs' H2, H2 u = some (.lst vs') → DpAll K (rm H2 u) vs' (ds ++ [d]) → (∀ B : Hp, B u = none → Ex B H → Ex B H2) → D.nx σ H2) : tDrop (tBM K "list" rAppend ta (tCons te tNil)) D σ H :=
  ht H (Ex.refl H) _ fun H1 e1 => ⟨.inl ⟨rfl, vs, sq_of (e1 u _ hu)⟩, h H1 e1 ⟨vs, e1 u _ hu⟩ _ fun y H2 e2 hd => ⟨u, vs, y, rfl, rfl, e2 u _ (e1 u _ hu), sz_lt hs, k _ _ upd_same (by
    rw [rmUpd]
    exact allApp (monoA (rmMono (e1.trans e2)) hA) (.cons hd .nil)) fun B hB eB => Ex.mut (eB.trans (e1.trans e2)) hB⟩⟩
theorem sForN {wi : TI} {n : Nat} {o : Nat → PyData} {g : TG} {tb : TS} {D : Ends} (hw : WkN K wi σ H n o) (Pv : Hp → Nat → L2.St → Hp → Prop) (h0 : ∀ B, Ex H B → Pv B 0 σ B) (hG : ∀ B i σ' H', Pv B i σ' H' → Ex B H')
    (hs : ∀ B i x σ' H' H'', Ex H B → i < n → Pv B i σ' H' → Ex H' H'' → Dp K H'' x (o i) → g x σ' H'' fun σ2 H2 => tb { D with nx := Pv B (i + 1), ct := Pv B (i + 1), bk := D.nx } σ2 H2) (hd : ∀ B σ' H', Ex H B → Pv B n σ' H' → D.nx σ' H') : tFor wi g tb D σ H :=
  hw H (Ex.refl H) _ fun J B e w => for_it w (Pv B) (h0 B e) (fun i σ' H' _ p => hG B i σ' H' p) (fun i x σ' H' H'' hi p y => hs B i x σ' H' H'' e hi p y.1 y.2) (fun σ' H' p => hd B σ' H' e p)
theorem gTriple {i j l : Nat} {x : V} {d e f : PyData} {Q : L2.St → Hp → Prop} (h : Dp K H x (.tuple [d, e, f])) (q : ∀ y z u, Dp K H y d → Dp K H z e → Dp K H u f → Q (((σ.set i (some y)).set j (some z)).set l (some u)) H) : gTup K 3 (gCons (gName i) (gCons (gName j) (gCons (gName l) gNil))) x σ H Q := by
  obtain ⟨a, xs, rfl, hs, ha⟩ := dpTuple h
  obtain ⟨y, z, u, rfl, h1, h2, h3⟩ := all3 ha
  exact ⟨a, _, rfl, hs, rfl, y, [z, u], rfl, z, [u], rfl, u, [], rfl, rfl, q y z u h1 h2 h3⟩
end
/-! ### _law_all -/
def allD (n : Nat) (rs ss : List (Nat × Nat)) : List (List PyData) :=
  [msD ((List.range n).filter (memB rs)), (told (memB rs) n).map rD, (told (fun k => !memB rs k) n).map rD, (told (fun k => memB rs k || memB ss k) n).map rD, (told (fun k => memB rs k && memB ss k) n).map rD, (told (fun k => memB rs k && !memB ss k) n).map rD]
def spAll (K : PySem.W.Frag) : Sp := fun vs H Q _ => ∃ (n : Nat) (rs ss : List (Nat × Nat)), DpAll K H vs [.int (n : Int), sD rs, sD ss] ∧ 1 ≤ n ∧ n ≤ 64 ∧ Good n rs ∧ Good n ss ∧ NewP K H Q (allD n rs ss)
/-- a def of the text: its promise, and where it stands -/
structure Def (P : Program) (w : World) (K : PySem.W.Frag) (mg : Str → Option Value) (base : Heap) (k : Nat) (x : Str) (ps : List Str) (sp : Sp) : Prop where
  ex : ∃ f fd, FnOk P w K mg base CX0 k f fd ps sp ∧ mg x = some (.ref f) ∧ PySem.W.keepIn K (.ref f) = true ∧ Binds K fd ps []
section
variable {P : Program} {w : World} {K : PySem.W.Frag} {mg : Str → Option Value} {base : Heap}
end

/-! ### _law_sets -/
theorem outs_gen {α : Type} (f : α → Bool) (h : α → PyData) (d : α) : ∀ xs : List α, outs xs.length (fun i => f (xs.getD i d)) (fun i => h (xs.getD i d)) = (xs.filter f).map h := by
  intro xs
  have key : ∀ xs : List α, ((List.range xs.length).filter (fun i => f (xs.getD i d))).map (fun i => xs.getD i d) = xs.filter f := by
    intro xs
    induction xs with
    | nil => rfl
    | cons x r ih =>
      rw [List.length_cons, List.range_succ_eq_map, List.filter_cons, List.filter_map]
      have e : (List.filter ((fun i => f ((x :: r).getD i d)) ∘ Nat.succ) (List.range r.length)) = List.filter (fun i => f (r.getD i d)) (List.range r.length) := rfl
      rw [e]
      have e2 : ((List.filter (fun i => f (r.getD i d)) (List.range r.length)).map Nat.succ).map (fun i => (x :: r).getD i d) = r.filter f := by
        rw [List.map_map, ← ih]; rfl
      by_cases c : f x = true
      · rw [if_pos (show f ((x :: r).getD 0 d) = true from c), List.map_cons, e2, List.filter_cons, if_pos c]; rfl
      · rw [if_neg (show ¬ f ((x :: r).getD 0 d) = true from c), e2, List.filter_cons, if_neg c]
  unfold outs
  rw [← key xs, List.map_map]; rfl
theorem atLast {α : Type} {xs : List α} {x : α} (h : xs[xs.length - 1]? = some x) (hp : 0 < xs.length) : atI xs (-1) = some x := by
  unfold atI
  rw [ixN_last hp]
  exact h
theorem setCall2 {K : PySem.W.Frag} {d : Addr} {n m i j : Nat} {te : TE} {σ : L2.St} {H : Hp} {Q : VK} (h1 : σ[i]? = some (some (.ref d))) (h2 : σ[j]? = some (some (.int (n : Int)))) (ht : ∀ Q : VK, Q (.int (m : Int)) H → te σ H Q) (hd : DSt H d) (hn : 1 ≤ n ∧ n ≤ 64) (hm : m ≤ 40)
    (k : ∀ (rs : List (Nat × Nat)) p xs H', rs.length ≤ m → Good n rs → H p = none → Dk d H H' → H' p = some (.lst xs) → DpAll K (rm H' d) xs (rs.map rD) → Q (.ref p) H') : tCall (spLSet K) [] E0 (tCons (tVar i) (tCons (tVar j) (tCons te tNil))) σ H Q :=
  ⟨.ref d, h1, .int (n : Int), h2, ht _ ⟨d, n, m, rfl, hd, hn.1, hn.2, hm, fun rs p xs H' hl hg hp D hx ha => k rs p xs H' hl ⟨by omega, hg⟩ hp D hx ha⟩⟩
/-- sets of at most twenty ranges that can be -/
def Sets (n : Nat) (rss : List (List (Nat × Nat))) : Prop := rss.length ≤ 6 ∧ ∀ rs ∈ rss, rs.length ≤ 20 ∧ Good n rs
def ssD (rss : List (List (Nat × Nat))) : PyData := .list (rss.map sD)
theorem can_sD (rs : List (Nat × Nat)) : (sD rs).canLay0 = true := canMap (fun _ => rfl) rs
theorem dep_sD (rs : List (Nat × Nat)) : (sD rs).depth ≤ 2 := by
  have := depMap (f := rD) (k := 1) (fun _ => Nat.le_refl 1) rs
  show PyData.depthAll (rs.map rD) + 1 ≤ 2
  omega
theorem sh_ssD (rss : List (List (Nat × Nat))) : SeqAt.shaped (ssD rss) = true := shList (f := sD) can_sD (fun rs => Nat.le_trans (dep_sD rs) (by decide)) rss
theorem ssD_eqv : ∀ rss : List (List (Nat × Nat)), PyData.eqv (ssD rss) (.list []) = rss.isEmpty
  | [] => eqvSame (d := .list []) rfl
  | rs :: rss => by
    show PyData.eqv (.list (sD rs :: rss.map sD)) (.list []) = false
    simp [PyData.eqv, PyData.eqvAll]
def spSets (K : PySem.W.Frag) : Sp := fun vs H Q _ => ∃ (d : Addr) (n : Nat), vs = [.ref d, .int (n : Int)] ∧ DSt H d ∧ 1 ≤ n ∧ n ≤ 64 ∧
  ∀ (rss : List (List (Nat × Nat))) p xs H', Sets n rss → H p = none → Dk d H H' → H' p = some (.lst xs) → DpAll K (rm H' d) xs (rss.map sD) → Q (.ref p) H'
/-- the same, told beside any other list -/
def spSetsN (K : PySem.W.Frag) : Sp := fun vs H Q _ => ∃ (d : Addr) (n : Nat), vs = [.ref d, .int (n : Int)] ∧ DSt H d ∧ 1 ≤ n ∧ n ≤ 64 ∧
  ∀ (rss : List (List (Nat × Nat))) p xs H', Sets n rss → H p = none → Dk d H H' → H' p = some (.lst xs) → DpAll K (rm H' d) xs (rss.map sD) → (∀ z, z ≠ d → (∃ ys, H z = some (.lst ys)) → DpAll K (rm (rm H' d) z) xs (rss.map sD)) → Q (.ref p) H'
theorem spSets_N {K : PySem.W.Frag} (vs : List V) (H : Hp) (Q : VK) (E : XK) (h : spSets K vs H Q E) : spSetsN K vs H Q E := by
  obtain ⟨d, n, a, b, c, e, q⟩ := h
  exact ⟨d, n, a, b, c, e, fun rss p xs H' h1 h2 h3 h4 h5 _ => q rss p xs H' h1 h2 h3 h4 h5⟩
section
variable {P : Program} {w : World} {K : PySem.W.Frag} {mg : Str → Option Value} {base : Heap}
end

/-! ### texts of bits, tables -/
def bt (b : Bool) : Nat := if b then 49 else 48
def enc (bs : List Bool) : Str := ⟨(bs.map bt).toArray⟩
theorem bt_inj {a b : Bool} (h : bt a = bt b) : a = b := by cases a <;> cases b <;> first | rfl | exact absurd h (by decide)
theorem enc_inj {a b : List Bool} (h : enc a = enc b) : a = b := by
  have h1 : (a.map bt) = (b.map bt) := by
    have := congrArg (fun z : Str => z.cps.toList) h
    simpa [enc] using this
  exact (List.map_inj_right (fun x y z => bt_inj z)).mp h1
theorem enc_len (bs : List Bool) : (enc bs).length = bs.length := by
  show (bs.map bt).toArray.size = bs.length
  rw [List.size_toArray, List.length_map]
def sD' (bs : List Bool) : PyData := .str (enc bs)
theorem enc_app (a b : List Bool) : enc a ++ enc b = enc (a ++ b) := by
  refine congrArg Str.mk ?_
  show (a.map bt).toArray ++ (b.map bt).toArray = _
  rw [List.map_append]; simp
theorem tl_enc (bs : List Bool) : TL.tl (enc bs) = bs.map bt := by
  show (bs.map bt).toArray.toList = _
  simp
theorem str_tl {x y : Str} (h : x.cps.toList = y.cps.toList) : x = y := by
  cases x; cases y
  exact congrArg Str.mk (Array.toList_inj.mp h)
theorem join_enc : ∀ bs : List Bool, Txt.join (enc []) (bs.map fun b => enc [b]) = enc bs := by
  intro bs
  rw [TL.join_eq]
  induction bs with
  | nil => rfl
  | cons b r ih =>
    cases r with
    | nil => rfl
    | cons c r =>
      show enc [b] ++ enc [] ++ Str.join (enc []) ((c :: r).map fun b => enc [b]) = _
      rw [ih, enc_app, enc_app]; rfl
/-- '0' * k -/
def rRepS : R2 := fun x y H Q => ∃ (z : Str) (k : Int), x = .str z ∧ y = .int k ∧ MulOk z k ∧ Q (.str (Txt.mul z k)) H
theorem op_repS {X : Cx} : OpR X (binaryOp .Mult) rRepS := by
  intro pins s σ H x y v u Q I rx ry h
  obtain ⟨z, k, rfl, rfl, hk, q⟩ := h
  obtain ⟨t, rfl⟩ := rx
  obtain ⟨t', rfl⟩ := ry
  exact PySem.SB.mul hk fun t2 kk => ⟨.str (Txt.mul z k), H, I.tok _, ⟨t2, rfl⟩, q⟩
theorem foldl_zeros : ∀ (k : Nat) (acc : Array Nat), (List.replicate k #[48]).foldl (· ++ ·) acc = acc ++ (List.replicate k 48).toArray
  | 0, acc => by simp
  | k + 1, acc => by
    rw [List.replicate_succ, List.foldl_cons, foldl_zeros k, List.replicate_succ]
    refine Array.toList_inj.mp ?_
    simp
theorem mul_zeros {k : Nat} (h : 1 ≤ k) : Txt.mul (enc [false]) (k : Int) = enc (List.replicate k false) := by
  unfold Txt.mul
  rw [if_neg (by omega)]
  by_cases c : k = 1
  · subst c; rfl
  · rw [if_neg (by
      rw [Bool.or_eq_true, beq_iff_eq, beq_iff_eq]
      rintro (z | z)
      · omega
      · exact absurd z (by decide))]
    refine congrArg Str.mk ?_
    show (List.replicate (k : Int).toNat #[48]).foldl (· ++ ·) #[] = _
    rw [foldl_zeros, Int.toNat_natCast, List.map_replicate]
    simp [bt]
theorem mulOk_zeros {k : Nat} (h : k ≤ 64) : MulOk (enc [false]) (k : Int) := by
  refine ⟨?_, fun h1 _ => ?_, fun _ _ => ?_⟩
  · rw [Bool.or_eq_false_iff]
    exact ⟨decide_eq_false (by omega), decide_eq_false (by omega)⟩
  · have : (enc [false]).length = 1 := rfl
    rw [this]
    have hk : 0 < (k : Int) := by omega
    have := Int.le_ediv_of_mul_le hk (show ((1 : Int)) * (k : Int) ≤ 2 ^ 63 - 1 by omega)
    omega
  · have : (enc [false]).length * (k : Int).toNat ≤ 64 := by
      have e : (enc [false]).length = 1 := rfl
      rw [e, Int.toNat_natCast]; omega
    show Builtin.Str.tooLong _ = false
    unfold Builtin.Str.tooLong
    exact decide_eq_false (by show ¬ (sizeLine < _); have : (64 : Nat) ≤ sizeLine := by decide
                              omega)
theorem cut_enc {bs : List Bool} {a w : Nat} (h : a + w ≤ bs.length) : cutS (enc bs) (some (a : Int)) (some ((a + w : Nat) : Int)) = enc ((bs.drop a).take w) := by
  unfold cutS
  rw [HT.sIx_nat, HT.sIx_nat, enc_len, Nat.min_eq_left (by omega), Nat.min_eq_left (by omega)]
  refine congrArg Str.mk ?_
  show (((bs.map bt).toArray.toList.drop a).take (a + w - a)).toArray = _
  rw [show a + w - a = w by omega, List.map_take, List.map_drop]
theorem rgc {n w : Nat} (hn : 1 ≤ n ∧ n ≤ 64) (hw : 1 ≤ w ∧ w ≤ 64) : RgC 0 (n : Int) (w : Int) (SM.cnt n w) := by
  have rs : Builtin.Range.rangeSize 0 (n : Int) (w : Int) = ((SM.cnt n w : Nat) : Int) := by
    unfold Builtin.Range.rangeSize SM.cnt
    rw [if_pos (by omega), if_pos (by omega), show ((n : Int) - 0 - 1) = ((n - 1 : Nat) : Int) by omega]
    omega
  have cl := cnt_le (w := w) hn.1
  refine ⟨by omega, by omega, ?_, rs⟩
  unfold Builtin.Range.small
  rw [rs]
  simp only [Builtin.Range.rangeFitsLong, Bool.and_eq_true, Bool.or_eq_true, decide_eq_true_eq, beq_iff_eq, show ((w : Int) > 0) by omega, if_true]
  omega
theorem wkRange3 {K : PySem.W.Frag} {σ : L2.St} {H : Hp} {tA : TA} {i j c : Int} {n : Nat} (h : EvA tA σ H [.int i, .int j, .int c]) (hb : RgC i j c n) : WkE K (iRng3 tA) σ H n (fun k => .int (i + (k : Nat) * c)) := fun H1 e R q => h H1 e _ fun H2 e2 => by
  refine ⟨i, j, c, n, rfl, hb, q _ H2 e2 (walk_rangeC.mono (fun _ _ => trivial) fun i H3 x H4 _ _ y => ?_)⟩
  obtain ⟨rfl, rfl⟩ := y
  exact ⟨Ex.refl _, .int _⟩

/-! ### _law_table -/
def tabD (n w : Nat) (rss : List (List (Nat × Nat))) : PyData := .tuple [.list ((tab n w (rss.map memB)).1.map fun l => .list (msD l)), .list ((tab n w (rss.map memB)).2.map sD')]
def vS (s : List Bool) : V := .str (enc s)
theorem allStrs {K : PySem.W.Frag} {H : Hp} : ∀ ss : List (List Bool), DpAll K H (ss.map vS) (ss.map sD')
  | [] => .nil
  | s :: ss => .cons (.str _) (allStrs ss)
theorem strsAll {K : PySem.W.Frag} {H : Hp} : ∀ {ss : List (List Bool)} {vs : List V}, DpAll K H vs (ss.map sD') → vs = ss.map vS
  | [], _, h => by cases h; rfl
  | n :: ns, _, h => by
    cases h with
    | cons h1 h2 => rw [dpStr h1, strsAll h2]; rfl
theorem flatStrs (ss : List (List Bool)) : (ss.map vS).all flatV = true := by
  rw [List.all_map]
  exact List.all_eq_true.mpr fun _ _ => rfl
theorem eqStr (a b : List Bool) : eqV (vS a) (vS b) = decide (a = b) := by
  show (enc a == enc b) = decide (a = b)
  rw [Bool.eq_iff_iff, beq_iff_eq, decide_eq_true_eq]
  exact ⟨enc_inj, fun h => by rw [h]⟩
theorem inStrs (s : List Bool) : ∀ rows : List (List Bool), inV (vS s) (rows.map vS) = decide (s ∈ rows)
  | [] => rfl
  | r :: rows => by
    show (eqV (vS r) (vS s) || inV (vS s) (rows.map vS)) = _
    rw [inStrs s rows, eqStr, Bool.eq_iff_iff]
    simp only [Bool.or_eq_true, decide_eq_true_eq, List.mem_cons]
    constructor
    · rintro (h | h)
      · exact .inl h.symm
      · exact .inr h
    · rintro (h | h)
      · exact .inl h.symm
      · exact .inr h
theorem noStrs (ss : List (List Bool)) : noLs (ss.map sD') = true := noLs_map (fun _ => rfl) ss
theorem memB_beyond {n : Nat} {rs : List (Nat × Nat)} (h : Good n rs) : ∀ k, n ≤ k → memB rs k = false := fun k hk => by
  cases hm : memB rs k with
  | false => rfl
  | true => have := memB_lt h.ok hm; omega
theorem tab_succ (n w : Nat) (rss : List (List (Nat × Nat))) (rs : List (Nat × Nat)) : tab n w ((rss ++ [rs]).map memB) = tabF n w (tab n w (rss.map memB)) (memB rs) := by
  unfold tab
  rw [List.map_append, List.foldl_append]; rfl
theorem tab_grow (n w : Nat) : ∀ (ms : List (Nat → Bool)) (t : List (List Nat) × List (List Bool)), (ms.foldl (tabF n w) t).1.length = t.1.length + ms.length ∧ (ms.foldl (tabF n w) t).2.length ≤ t.2.length + ms.length * SM.cnt n w
  | [], t => ⟨rfl, by simp⟩
  | m :: ms, t => by
    have ih := tab_grow n w ms (tabF n w t m)
    have a := puts_len (strc n w m) t.2
    rw [strc_len] at a
    have h1 : (tabF n w t m).1.length = t.1.length + 1 := by
      show (t.1 ++ [_]).length = _
      rw [List.length_append]; rfl
    have h2 : (tabF n w t m).2.length ≤ t.2.length + SM.cnt n w := a
    rw [List.foldl_cons, List.length_cons, Nat.succ_mul]
    exact ⟨by omega, by omega⟩
theorem tab_fits (n w : Nat) (rss : List (List (Nat × Nat))) : (tab n w (rss.map memB)).1.length = rss.length ∧ (tab n w (rss.map memB)).2.length ≤ rss.length * SM.cnt n w := by
  have h := tab_grow n w (rss.map memB) ([], [])
  rw [List.length_map] at h
  exact ⟨by have := h.1; simpa [tab] using this, by have := h.2; simpa [tab] using this⟩
section
variable {P : Program} {w : World} {K : PySem.W.Frag} {mg : Str → Option Value} {base : Heap}
def RTab : List PyData → PyData → Prop := fun ds out => ∃ (n w : Nat) (rss : List (List (Nat × Nat))), ds = [.int (n : Int), ssD rss, .int (w : Int)] ∧ (1 ≤ n ∧ n ≤ 64) ∧ (1 ≤ w ∧ w ≤ 64) ∧ Sets n rss ∧ out = tabD n w rss
end

/-! ### what the functions of tables and classes promise -/
def SetsG (n : Nat) (rss : List (List (Nat × Nat))) : Prop := rss.length ≤ 6 ∧ ∀ rs ∈ rss, Good n rs
theorem Sets.g {n : Nat} {rss : List (List (Nat × Nat))} (h : Sets n rss) : SetsG n rss := ⟨h.1, fun rs hr => (h.2 rs hr).2⟩
def spTab (K : PySem.W.Frag) : Sp := fun vs H Q _ => ∃ (n w : Nat) (rss : List (List (Nat × Nat))), DpAll K H vs [.int (n : Int), ssD rss, .int (w : Int)] ∧ (1 ≤ n ∧ n ≤ 64) ∧ (1 ≤ w ∧ w ≤ n) ∧ SetsG n rss ∧
  ∀ T f r ps H', H T = none → H f = none → H r = none → Ex H H' → H' T = some (.tup [.ref f, .ref r]) → H' f = some (.lst (ps.map V.ref)) → Parts K H H' ps ((tab n w (rss.map memB)).1.map msD) → H' r = some (.lst ((tab n w (rss.map memB)).2.map vS)) → f ∉ ps → r ∉ ps → Q (.ref T) H'
def RLook : List PyData → PyData → Prop := fun ds out => ∃ (n w : Nat) (rss : List (List (Nat × Nat))) (which x : Nat) (rs : List (Nat × Nat)), ds = [.int (n : Int), tabD n w rss, .int (which : Int), .int (x : Int)] ∧ (1 ≤ n ∧ n ≤ 64) ∧ (1 ≤ w ∧ w ≤ n) ∧ SetsG n rss ∧ rss[which]? = some rs ∧ x < n ∧ out = .bool (memB rs x)
section
variable {K : PySem.W.Frag} {σ : L2.St} {H : Hp}
theorem tabData {H' : Hp} {T f r : Addr} {ps : List Addr} {n w : Nat} {rss : List (List (Nat × Nat))} (hT : H' T = some (.tup [.ref f, .ref r])) (hf : H' f = some (.lst (ps.map V.ref))) (hp : Parts K H H' ps ((tab n w (rss.map memB)).1.map msD)) (hr : H' r = some (.lst ((tab n w (rss.map memB)).2.map vS))) : Dp K H' (.ref T) (tabD n w rss) := by
  refine .tup (st_of hT) (.cons (.lst (sq_of hf) ?_) (.cons (.lst (sq_of hr) (allStrs _)) .nil))
  have z := hp.dp
  rw [List.map_map] at z
  exact z
theorem sAsgTab {tA : TA} {n w i : Nat} {rss : List (List (Nat × Nat))} {D : Ends} (h : EvDA K tA σ H [.int (n : Int), ssD rss, .int (w : Int)]) (hn : 1 ≤ n ∧ n ≤ 64) (hw : 1 ≤ w ∧ w ≤ n) (hs : SetsG n rss)
    (k : ∀ T f r ps H', H T = none → H f = none → H r = none → Ex H H' → H' T = some (.tup [.ref f, .ref r]) → H' f = some (.lst (ps.map V.ref)) → Parts K H H' ps ((tab n w (rss.map memB)).1.map msD) → H' r = some (.lst ((tab n w (rss.map memB)).2.map vS)) → f ∉ ps → r ∉ ps → D.nx (σ.set i (some (.ref T))) H') : tAsg (tCall (spTab K) [] E0 tA) (gName i) D σ H :=
  h H (Ex.refl H) _ fun vs H2 e2 ha => ⟨n, w, rss, by rw [List.append_nil]; exact ha, hn, hw, hs, fun T f r ps H3 hT hf hr e3 h3 h4 pr h5 n1 n2 => k T f r ps H3 (fresh_back e2 hT) (fresh_back e2 hf) (fresh_back e2 hr) (e2.trans e3) h3 h4 (pr.back e2) h5 n1 n2⟩
theorem vTab {tA : TA} {n w : Nat} {rss : List (List (Nat × Nat))} (h : EvDA K tA σ H [.int (n : Int), ssD rss, .int (w : Int)]) (hn : 1 ≤ n ∧ n ≤ 64) (hw : 1 ≤ w ∧ w ≤ n) (hs : SetsG n rss) : EvD K (tCall (spTab K) [] E0 tA) σ H (tabD n w rss) := fun H1 e Q q =>
  h H1 e _ fun vs H2 e2 ha => ⟨n, w, rss, by rw [List.append_nil]; exact ha, hn, hw, hs, fun T f r ps H3 hT hf hr e3 h3 h4 pr h5 n1 n2 => q _ H3 (e2.trans e3) (tabData h3 h4 pr h5)⟩
theorem dIxT {ta tb : TE} {ds : List PyData} {d : PyData} {i : Int} (ha : EvD K ta σ H (.tuple ds)) (hb : Ev tb σ H (.int i)) (h : atI ds i = some d) : EvD K (tOp (rIxT K) ta tb) σ H d := fun H1 a Q q =>
  ha H1 a _ fun v H2 e2 hd => hb H2 (a.trans e2) _ fun H3 e3 => by
    obtain ⟨p, xs, rfl, hs, hA⟩ := dpTuple (SB.mono e3 hd)
    have key : ∃ x, atI xs i = some x ∧ Dp K H3 x d := by
      have hl := allLen hA
      unfold atI at h ⊢
      rw [hl]
      cases q : ixN ds.length i with
      | none => rw [q] at h; cases h
      | some j => rw [q] at h; exact allGet hA h
    obtain ⟨x, hx, hdx⟩ := key
    exact ⟨p, xs, i, x, rfl, rfl, hs, hx, q x H3 (e2.trans e3) hdx⟩
theorem evAlike {tA : TA} {d : PyData} {k : Nat} (h : EvDA K tA σ H [d, d]) (hw : wide d = true) (hd : d.depth < k) : Ev (tCall (spAlike K k) [] E0 tA) σ H (.bl true) := fun H1 e Q q =>
  h H1 e _ fun vs H2 e2 ha => ⟨d, by rw [List.append_nil]; exact ha, hw, hd, fun H3 e3 => q H3 (e2.trans e3)⟩
end
theorem msD_len (ms : List Nat) : (msD ms).length = ms.length := List.length_map ..
theorem widesAll {α : Type} {f : α → PyData} : ∀ {xs : List α}, (∀ x ∈ xs, wide (f x) = true) → wides (xs.map f) = true
  | [], _ => rfl
  | x :: xs, h => by
    show (wide (f x) && wides (xs.map f)) = true
    rw [h x List.mem_cons_self, widesAll fun z hz => h z (List.mem_cons_of_mem _ hz)]; rfl
theorem wideAll {α : Type} {f : α → PyData} {xs : List α} (hl : xs.length ≤ 1000) (h : ∀ x ∈ xs, wide (f x) = true) : wide (.list (xs.map f)) = true := by
  show (decide ((xs.map f).length ≤ 1000) && wides (xs.map f)) = true
  rw [List.length_map, decide_eq_true hl, widesAll h]; rfl
theorem tab_inner (n w : Nat) : ∀ (ms : List (Nat → Bool)) (t : List (List Nat) × List (List Bool)), (∀ l ∈ t.1, l.length = SM.cnt n w) → ∀ l ∈ (ms.foldl (tabF n w) t).1, l.length = SM.cnt n w
  | [], _, h => h
  | m :: ms, t, h => tab_inner n w ms (tabF n w t m) fun l hl => by
    rcases List.mem_append.mp hl with e | e
    · exact h l e
    · rw [List.mem_singleton.mp e, List.length_map, strc_len]
theorem tabD_wide {n w : Nat} (hn : 1 ≤ n ∧ n ≤ 64) {rss : List (List (Nat × Nat))} (hs : rss.length ≤ 6) : wide (tabD n w rss) = true := by
  have cl : SM.cnt n w ≤ 64 := Nat.le_trans (cnt_le hn.1) hn.2
  have hf := tab_fits n w rss
  have h1 : (tab n w (rss.map memB)).2.length ≤ 384 := Nat.le_trans hf.2 (Nat.mul_le_mul hs cl)
  have a : wide (.list ((tab n w (rss.map memB)).1.map fun l => .list (msD l))) = true := wideAll (by rw [hf.1]; omega) fun l hl => wideAll (by
    have := tab_inner n w (rss.map memB) ([], []) (fun _ h => by simp at h) l hl
    omega) fun _ _ => rfl
  have b : wide (.list ((tab n w (rss.map memB)).2.map sD')) = true := wideAll (by omega) fun _ _ => rfl
  show (decide (2 ≤ 1000) && (wide _ && (wide _ && true))) = true
  rw [a, b]; rfl
theorem tabD_depth (n w : Nat) (rss : List (List (Nat × Nat))) : (tabD n w rss).depth < 4 := by
  have a := depMap (f := fun l : List Nat => PyData.list (msD l)) (k := 1) (fun l => by
    have := depMap (f := iD') (k := 0) (fun _ => Nat.le_refl 0) l
    show PyData.depthAll (l.map iD') + 1 ≤ 1
    omega) (tab n w (rss.map memB)).1
  have b := depMap (f := sD') (k := 0) (fun _ => Nat.le_refl 0) (tab n w (rss.map memB)).2
  show max (PyData.depthAll _ + 1) (max (PyData.depthAll _ + 1) 0) + 1 < 4
  omega

/-! ### what the functions of classes promise -/
def RRow : List PyData → List PyData → Prop := fun ds o => ∃ (n : Nat) (rss : List (List (Nat × Nat))), ds = [.int (n : Int), ssD rss] ∧ (1 ≤ n ∧ n ≤ 64) ∧ SetsG n rss ∧ o = msD (rowF rss n)
def spP (K : PySem.W.Frag) (f : Nat → List (List (Nat × Nat)) → List (List PyData)) : Sp := fun vs H Q _ => ∃ (n : Nat) (rss : List (List (Nat × Nat))), DpAll K H vs [.int (n : Int), ssD rss] ∧ (1 ≤ n ∧ n ≤ 64) ∧ SetsG n rss ∧ NewP K H Q (f n rss)
def clsD (n : Nat) (rss : List (List (Nat × Nat))) : List (List PyData) := (clsF rss n).map fun l => l.map rD
def evD (n : Nat) (rss : List (List (Nat × Nat))) : List (List PyData) := (evF rss n).map msD
section
variable {K : PySem.W.Frag} {σ : L2.St} {H : Hp}
theorem vP {f : Nat → List (List (Nat × Nat)) → List (List PyData)} {tA : TA} {n : Nat} {rss : List (List (Nat × Nat))} (h : EvDA K tA σ H [.int (n : Int), ssD rss]) (hn : 1 ≤ n ∧ n ≤ 64) (hs : SetsG n rss) : EvD K (tCall (spP K f) [] E0 tA) σ H (.list ((f n rss).map PyData.list)) := fun H1 e Q q =>
  h H1 e _ fun vs H2 e2 ha => ⟨n, rss, by rw [List.append_nil]; exact ha, hn, hs, fun p ps H3 hp e3 h3 pr np => q _ H3 (e2.trans e3) (.lst (sq_of h3) pr.dp)⟩
theorem pCall {f : Nat → List (List (Nat × Nat)) → List (List PyData)} {tA : TA} {n : Nat} {rss : List (List (Nat × Nat))} {Q : VK} (h : EvDA K tA σ H [.int (n : Int), ssD rss]) (hn : 1 ≤ n ∧ n ≤ 64) (hs : SetsG n rss) (q : NewP K H Q (f n rss)) : tCall (spP K f) [] E0 tA σ H Q :=
  h H (Ex.refl H) _ fun vs H2 e2 ha => ⟨n, rss, by rw [List.append_nil]; exact ha, hn, hs, fun p ps H3 hp e3 h3 pr np => q p ps H3 (fresh_back e2 hp) (e2.trans e3) h3 (pr.back e2) np⟩
theorem lenE {te : TE} {ds : List PyData} {r : List V → Hp → VK → Prop} (h : EvD K te σ H (.list ds)) (hr : r = fun xs H Q => ∃ p ys, xs = [.ref p] ∧ (SqL K H p ys ∨ SqT K H p ys) ∧ Q (.int ys.length) H) : Ev (tCB r (tCons te tNil)) σ H (.int (ds.length : Int)) := fun H1 e Q q => by
  subst hr
  refine h H1 e _ fun v H2 e2 hd => ?_
  obtain ⟨a, xs, rfl, hs, ha⟩ := dpList hd
  exact ⟨a, xs, rfl, .inl hs, by rw [allLen ha]; exact q H2 e2⟩
end
theorem sg_len (rss : List (List (Nat × Nat))) (k : Nat) : (sg rss k).length = rss.length := by unfold sg; rw [List.length_map]
theorem UN_at {rss : List (List (Nat × Nat))} {n c : Nat} (h : c < (UN rss n).length) : ((UN rss n).getD c []).length = rss.length := by
  rw [getD_at [] h]
  obtain ⟨k, _, e⟩ := mem_UN.mp (List.getElem_mem h)
  rw [← e, sg_len]
theorem bit_eq (b : Bool) : decide (V.str ⟨#[bt b]⟩ = V.str (PySem.Str.ofString "1")) = b := by
  cases b <;> decide +kernel
/-- the three answers together -/
def ansD (rss : List (List (Nat × Nat))) (n : Nat) : PyData := .list [.list (msD (rowF rss n)), .list ((clsF rss n).map fun l => .list (l.map rD)), .list ((evF rss n).map fun l => .list (msD l))]
theorem ansD_wide {n : Nat} (hn : 1 ≤ n ∧ n ≤ 64) {rss : List (List (Nat × Nat))} (hs : rss.length ≤ 6) : wide (ansD rss n) = true := by
  have ul := UN_len rss n
  have a : wide (.list (msD (rowF rss n))) = true := wideAll (by unfold rowF SG; rw [List.length_map, List.length_map, List.length_range]; omega) fun _ _ => rfl
  have b : wide (.list ((clsF rss n).map fun l => .list (l.map rD))) = true := wideAll (by unfold clsF; rw [List.length_map, List.length_range]; omega) fun l hl => wideAll (by
    unfold clsF at hl
    obtain ⟨c, _, rfl⟩ := List.mem_map.mp hl
    have := told_len (fun k => decide ((rowF rss n).getD k 0 = c)) n
    omega) fun _ _ => rfl
  have c : wide (.list ((evF rss n).map fun l => .list (msD l))) = true := wideAll (by unfold evF; rw [List.length_map, List.length_range]; omega) fun l hl => wideAll (by
    unfold evF at hl
    obtain ⟨c, _, rfl⟩ := List.mem_map.mp hl
    have := List.length_filter_le (fun c' => ((UN rss n).getD c' []).getD c false) (List.range (UN rss n).length)
    rw [List.length_range] at this
    omega) fun _ _ => rfl
  show (decide (3 ≤ 1000) && (wide _ && (wide _ && (wide _ && true)))) = true
  rw [a, b, c]; rfl
theorem ansD_depth (rss : List (List (Nat × Nat))) (n : Nat) : (ansD rss n).depth < 5 := by
  have a := depMap (f := iD') (k := 0) (fun _ => Nat.le_refl 0) (rowF rss n)
  have b := depMap (f := fun l : List (Nat × Nat) => PyData.list (l.map rD)) (k := 2) (fun l => by
    have := depMap (f := rD) (k := 1) (fun _ => Nat.le_refl 1) l
    show PyData.depthAll (l.map rD) + 1 ≤ 2
    omega) (clsF rss n)
  have c := depMap (f := fun l : List Nat => PyData.list (msD l)) (k := 1) (fun l => by
    have := depMap (f := iD') (k := 0) (fun _ => Nat.le_refl 0) l
    show PyData.depthAll (l.map iD') + 1 ≤ 1
    omega) (evF rss n)
  show max (PyData.depthAll ((rowF rss n).map iD') + 1) (max (PyData.depthAll _ + 1) (max (PyData.depthAll _ + 1) 0)) + 1 < 5
  omega

/-! ### _law_cells -/
theorem sum_cast : ∀ ds : List Nat, (ds.map fun k : Nat => (k : Int)).sum = (ds.sum : Nat)
  | [] => rfl
  | d :: ds => by rw [List.map_cons, List.sum_cons, List.sum_cons, sum_cast ds]; omega
section
variable {K : PySem.W.Frag} {σ : L2.St} {H : Hp}
theorem sumN {te : TE} {ds : List Nat} (h : EvN K te σ H (msD ds)) : Ev (tCB (rSum K) (tCons te tNil)) σ H (.int (ds.sum : Nat)) := fun H1 e Q q => h H1 e _ fun p xs H2 _ e2 hp ha => by
  rw [msD_int] at ha
  have z := intsOfAll ha
  subst z
  refine ⟨p, _, rfl, sq_of hp, ?_⟩
  rw [sum_cast]; exact q H2 e2
theorem lenS {j : Nat} {z : Str} (h : σ[j]? = some (some (.str z))) (hz : z.length ≤ sizeLine) : Ev (tCB (fun xs H Q => ∃ z : Str, xs = [.str z] ∧ z.length ≤ sizeLine ∧ Q (.int z.length) H) (tCons (tVar j) tNil)) σ H (.int (z.length : Int)) := fun H1 e Q q =>
  ⟨.str z, h, z, rfl, hz, q H1 (Ex.refl H1)⟩
end
section
variable {P : Program} {w : World} {K : PySem.W.Frag} {mg : Str → Option Value} {base : Heap}
def RCells : List PyData → PyData → Prop := fun ds out => ∃ (n w : Nat) (rss : List (List (Nat × Nat))), ds = [tabD n w rss] ∧ (1 ≤ n ∧ n ≤ 64) ∧ w ≤ 64 ∧ rss.length ≤ 6 ∧ out = .int (CE n (rss.map memB) w : Nat)
end

/-! ### what least promises; readings for k09 -/
def leaF (n : Nat) (rss : List (List (Nat × Nat))) : Nat × Nat := lea (CE n (rss.map memB)) (n - 1)
def RLeast : List PyData → PyData → Prop := fun ds out => ∃ (n : Nat) (rss : List (List (Nat × Nat))), ds = [.int (n : Int), ssD rss] ∧ (1 ≤ n ∧ n ≤ 64) ∧ SetsG n rss ∧ out = SD.pD (leaF n rss)
section
variable {K : PySem.W.Frag} {σ : L2.St} {H : Hp}
theorem sAsgNums {te : TE} {i j a b : Nat} {D : Ends} (h : EvD K te σ H (SD.pD (a, b))) (k : ∀ H1, Ex H H1 → D.nx ((σ.set i (some (.int (a : Int)))).set j (some (.int (b : Int)))) H1) : tAsg te (gTup K 2 (gCons (gName i) (gCons (gName j) gNil))) D σ H :=
  h H (Ex.refl H) _ fun v H1 e hd => by
    obtain ⟨p, xs, rfl, hs, hA⟩ := dpTuple hd
    obtain ⟨x, y, rfl, hx, hy⟩ := all2 hA
    cases dpInt hx
    cases dpInt hy
    exact ⟨p, _, rfl, hs, rfl, _, _, rfl, _, _, rfl, rfl, k H1 e⟩
theorem minE {j : Nat} {v : V} {d : PyData} {ds : List PyData} (h : σ[j]? = some (some v)) (hd : Dp K H v (.list (d :: ds))) (ha : PySem.W.AlikeAll (d :: ds)) (hz : PyData.depthAll (d :: ds) < 63) : EvD K (tCB (SD.rMinL K) (tCons (tVar j) tNil)) σ H (PySem.W.minD d ds) := fun H1 e Q q => by
  obtain ⟨a, xs, rfl, hs, hA⟩ := dpList (SB.mono e hd)
  exact ⟨.ref a, h, a, xs, d, ds, rfl, hs, hA, ha, hz, fun v _ hv => q v H1 (Ex.refl H1) hv⟩
theorem nDrop {ta : TE} {ds : List PyData} {k : Nat} (ha : EvD K ta σ H (.list ds)) : EvN K (tSl (rSlL K) ta (tPart (tC (.int (k : Int)))) tNoPart) σ H (ds.drop k) := fun H1 e Q q => ha H1 e _ fun v H2 e2 hd => by
  obtain ⟨a, xs, rfl, hs, hA⟩ := dpList hd
  refine ⟨(k : Int), rfl, a, xs, rfl, hs, fun p hp => ?_⟩
  have ec : cutV xs (some (k : Int)) none = xs.drop k := by
    unfold cutV
    rw [HT.sIx_none, HT.sIx_nat]
    by_cases c : k ≤ xs.length
    · rw [Nat.min_eq_left c, List.take_of_length_le (by rw [List.length_drop]; omega)]
    · rw [Nat.min_eq_right (by omega), List.drop_of_length_le (Nat.le_refl _), List.drop_of_length_le (by omega), List.take_nil]
  have aD : ∀ {ds : List PyData} {vs : List V} (n : Nat), DpAll K H2 vs ds → DpAll K H2 (vs.drop n) (ds.drop n) := fun {ds vs} n h => by
    induction n generalizing ds vs with
    | zero => exact h
    | succ n ih =>
      cases h with
      | nil => exact .nil
      | cons _ h2 => exact ih h2
  exact q p _ _ (fresh_back e2 hp) (e2.trans (Ex.new hp)) upd_same (by rw [ec]; exact monoA (Ex.new hp) (aD k hA))
end
theorem leaF_at (n : Nat) (rss : List (List (Nat × Nat))) (hn : 1 ≤ n) : (leaF n rss).1 = CE n (rss.map memB) (leaF n rss).2 ∧ 1 ≤ (leaF n rss).2 ∧ (leaF n rss).2 ≤ n := by
  have := lea_at (CE n (rss.map memB)) (n - 1)
  exact ⟨this.1, this.2.1, by unfold leaF; omega⟩
theorem leaF_more {n : Nat} {rss rss' : List (List (Nat × Nat))} (hl : rss'.length ≤ rss.length + 1) (h : ∀ r ∈ rss', r ∈ rss) : (leaF n rss').1 ≤ (leaF n rss).1 + SM.cnt n (leaF n rss).2 :=
  lea_more (c := fun w => SM.cnt n w) fun w _ _ => CE_more (by rw [List.length_map, List.length_map]; exact hl) fun m hm => by
    obtain ⟨r, hr, rfl⟩ := List.mem_map.mp hm
    exact List.mem_map.mpr ⟨r, h r hr, rfl⟩
theorem leaF_less {n : Nat} {rss rss' : List (List (Nat × Nat))} (hl : rss'.length ≤ rss.length) (h : ∀ r ∈ rss', r ∈ rss) : (leaF n rss').1 ≤ (leaF n rss).1 :=
  lea_mono (c := 0) fun w _ _ => CE_sub (by rw [List.length_map, List.length_map]; exact hl) fun m hm => by
    obtain ⟨r, hr, rfl⟩ := List.mem_map.mp hm
    exact List.mem_map.mpr ⟨r, h r hr, rfl⟩
section
variable {K : PySem.W.Frag} {σ : L2.St} {H : Hp}
theorem evInt {te : TE} {i : Int} (h : EvD K te σ H (.int i)) : Ev te σ H (.int i) := fun H1 e Q q => h H1 e _ fun v H2 e2 hd => by
  cases dpInt hd
  exact q H2 e2
theorem nCatR {ta tb : TE} {l : Addr} {xs : List V} {ds es : List PyData} (ha : Ev ta σ H (.ref l)) (hl : H l = some (.lst xs)) (hA : DpAll K H xs ds) (hb : EvN K tb σ H es) (hz : ds.length + es.length ≤ 100000) : EvN K (tOp rCat ta tb) σ H (ds ++ es) := fun H1 e Q q =>
  ha H1 e _ fun H2 e2 => hb H2 (e.trans e2) _ fun b ys H3 _ e3 h3 a3 => ⟨l, b, xs, ys, rfl, rfl, ((e.trans e2).trans e3) l _ hl, h3, sz_of (by rw [allLen hA, allLen a3]; exact hz), fun p hp =>
    q p _ _ (fresh_back (e2.trans e3) hp) ((e2.trans e3).trans (Ex.new hp)) upd_same (allApp (monoA (((e.trans e2).trans e3).trans (Ex.new hp)) hA) (monoA (Ex.new hp) a3))⟩
end

/-! ### stretch_rows -/
theorem cut_encM {bs : List Bool} {a w : Nat} (h : a ≤ bs.length) : cutS (enc bs) (some (a : Int)) (some ((a + w : Nat) : Int)) = enc ((bs.drop a).take w) := by
  unfold cutS
  rw [HT.sIx_nat, HT.sIx_nat, enc_len, Nat.min_eq_left h]
  refine congrArg Str.mk ?_
  show (((bs.map bt).toArray.toList.drop a).take (min (a + w) bs.length - a)).toArray = (((bs.drop a).take w).map bt).toArray
  rw [List.map_take, List.map_drop]
  refine congrArg List.toArray ?_
  show ((bs.map bt).drop a).take _ = _
  by_cases c : a + w ≤ bs.length
  · rw [Nat.min_eq_left c, show a + w - a = w by omega]
  · rw [Nat.min_eq_right (by omega), List.take_of_length_le (by rw [List.length_drop, List.length_map]; omega), List.take_of_length_le (by rw [List.length_drop, List.length_map]; omega)]
theorem fill_enc (bs : List Bool) (w : Nat) : Txt.ljustF (enc bs) (w : Int) 48 = enc (bs ++ List.replicate (w - bs.length) false) := by
  refine str_tl ?_
  rw [PyProof.Rows.ljustF_list, enc_len, Int.toNat_natCast]
  show (bs.map bt).toArray.toList ++ _ = ((bs ++ List.replicate (w - bs.length) false).map bt).toArray.toList
  rw [List.map_append, List.map_replicate]; rfl
theorem padOk_small {w : Nat} (h : w ≤ 64) : PadOk (w : Int) = true := by
  unfold PadOk
  rw [Bool.and_eq_true]
  constructor
  · show (!(decide ((w : Int) < -(2 ^ 63 : Int)) || decide ((w : Int) ≥ 2 ^ 63))) = true
    rw [decide_eq_false (by omega), decide_eq_false (by omega)]; rfl
  · rw [Int.toNat_natCast]
    unfold Builtin.Str.tooLong
    rw [decide_eq_false (by show ¬ (sizeLine < w); have : (64 : Nat) ≤ sizeLine := by decide
                            omega)]; rfl
def rJustF : V → List V → Hp → VK → Prop := fun x xs H Q => ∃ (a f : Str) (i : Int), x = .str a ∧ xs = [.int i, .str f] ∧ PadOk i = true ∧ f.length = 1 ∧ Q (.str (Txt.ljustF a i (f.cps.getD 0 0))) H
theorem mt_justF {X : Cx} : MtR X "str.ljust" rJustF := by
  intro pins s σ H x xs v us Q I rx rs h
  obtain ⟨a, f, i, rfl, rfl, hp, hf, h⟩ := h
  obtain ⟨t, rfl⟩ := rx
  cases rs with
  | cons r1 rs =>
    cases rs with
    | cons r2 rs =>
      cases rs
      obtain ⟨u, rfl⟩ := r1
      obtain ⟨z, rfl⟩ := r2
      exact PyProof.Rows.ljust_fill hp hf fun t' k => ⟨.str (Txt.ljustF a i (f.cps.getD 0 0)), H, I.tok k, ⟨t', rfl⟩, h⟩
theorem sum_ones : ∀ bs : List Bool, ((bs.map fun b => enc [b]).map (·.length)).sum = bs.length
  | [] => rfl
  | b :: r => by
    have ih := sum_ones r
    show 1 + ((r.map fun b => enc [b]).map (·.length)).sum = r.length + 1
    omega
theorem joinBits {K : PySem.W.Frag} {σ : L2.St} {H : Hp} {te : TE} {r : V → List V → Hp → VK → Prop} {bs : List Bool} (h : EvN K te σ H (bs.map fun b => sD' [b])) (hl : bs.length ≤ 1000)
    (hr : r = fun x xs H Q => ∃ a p, ∃ ys : List Str, x = .str a ∧ xs = [.ref p] ∧ (SqL K H p (ys.map V.str) ∨ SqT K H p (ys.map V.str)) ∧ (ys.map (·.length)).sum + ys.length * a.length ≤ 16777216 ∧ Q (.str (Txt.join a ys)) H) :
    Ev (tM1 r (tC (.str (PySem.Str.ofString ""))) te) σ H (vS bs) := fun H1 e1 Q q => by
  subst hr
  refine ⟨⟨_, rfl⟩, h H1 e1 _ fun p xs H2 _ e2 h2 A2 => ?_⟩
  have hxs : xs = (bs.map fun b => enc [b]).map V.str := by
    have z : bs.map (fun b => sD' [b]) = (bs.map fun b => [b]).map sD' := by rw [List.map_map]; rfl
    rw [z] at A2
    rw [strsAll A2, List.map_map, List.map_map]; rfl
  subst hxs
  refine ⟨_, p, _, rfl, rfl, .inl (sq_of h2), ?_, ?_⟩
  · rw [show PySem.Str.ofString "" = enc [] by decide +kernel, sum_ones]
    show bs.length + _ * 0 ≤ 16777216
    omega
  · rw [show PySem.Str.ofString "" = enc [] by decide +kernel, join_enc]
    exact q H2 e2
def beyond (n : Nat) (m : Nat → Bool) : Prop := ∀ k, n ≤ k → m k = false
section
variable {P : Program} {w : World} {K : PySem.W.Frag} {mg : Str → Option Value} {base : Heap}
def RStretch : List PyData → List PyData → Prop := fun ds out => ∃ (n w : Nat) (m : Nat → Bool), ds = [.list (bls n m), .int (w : Int)] ∧ (1 ≤ n ∧ n ≤ 64) ∧ (1 ≤ w ∧ w ≤ 64) ∧ beyond n m ∧ out = (strc n w m).map sD'
end

/-! ### table_of -/
def kvF : List (List Bool) → Nat → List (Key × V)
  | [], _ => []
  | s :: r, i => (Sum.inr (enc s), .int (i : Int)) :: kvF r (i + 1)
theorem kvF_len : ∀ (rows : List (List Bool)) (i : Nat), (kvF rows i).length = rows.length
  | [], _ => rfl
  | _ :: r, i => by
    show (kvF r (i + 1)).length + 1 = r.length + 1
    rw [kvF_len r]
theorem kvF_app (s : List Bool) : ∀ (rows : List (List Bool)) (i : Nat), kvF (rows ++ [s]) i = kvF rows i ++ [(Sum.inr (enc s), .int ((i + rows.length : Nat) : Int))]
  | [], i => rfl
  | r :: rows, i => by
    show (_, _) :: kvF (rows ++ [s]) (i + 1) = (_, _) :: (kvF rows (i + 1) ++ _)
    rw [kvF_app s rows (i + 1), show i + 1 + rows.length = i + (r :: rows).length by rw [List.length_cons]; omega]
theorem kvF_keys : ∀ (rows : List (List Bool)) (i : Nat), (kvF rows i).map (fun kv => kV kv.1) = rows.map vS
  | [], _ => rfl
  | r :: rows, i => by
    show vS r :: (kvF rows (i + 1)).map _ = vS r :: rows.map vS
    rw [kvF_keys rows]
theorem kvF_none {s : List Bool} : ∀ {rows : List (List Bool)} {i : Nat}, s ∉ rows → valV (kvF rows i) (Sum.inr (enc s)) = none
  | [], _, _ => rfl
  | r :: rows, i, h => by
    have h1 : ¬ (Sum.inr (enc r) : Key) = Sum.inr (enc s) := fun z => h (by rw [enc_inj (Sum.inr.inj z)]; exact List.mem_cons_self)
    show valV ((Sum.inr (enc r), V.int (i : Int)) :: kvF rows (i + 1)) _ = none
    rw [valV_neg h1]
    exact kvF_none fun z => h (List.mem_cons_of_mem _ z)
theorem kvF_some {s : List Bool} : ∀ {rows : List (List Bool)} {i : Nat}, s ∈ rows → valV (kvF rows i) (Sum.inr (enc s)) = some (.int ((i + rows.idxOf s : Nat) : Int))
  | [], _, h => by simp at h
  | r :: rows, i, h => by
    show valV ((Sum.inr (enc r), V.int (i : Int)) :: kvF rows (i + 1)) _ = _
    by_cases c : r = s
    · subst c
      rw [valV_pos rfl, List.idxOf_cons_self]; rfl
    · have h1 : ¬ (Sum.inr (enc r) : Key) = Sum.inr (enc s) := fun z => c (enc_inj (Sum.inr.inj z))
      rcases List.mem_cons.mp h with e | e
      · exact absurd e.symm c
      · rw [valV_neg h1, kvF_some e, List.idxOf_cons, show (r == s) = false from beq_eq_false_iff_ne.mpr c]
        refine congrArg (fun z : Nat => some (V.int (z : Int))) ?_
        show i + 1 + rows.idxOf s = i + (rows.idxOf s + 1)
        omega
/-- new lists of whole numbers -/
inductive IP (H H' : Hp) : List Addr → List (List Nat) → Prop
  | nil : IP H H' [] []
  | cons {a : Addr} {L : List Nat} {ps : List Addr} {Ls : List (List Nat)} : H a = none → H' a = some (.lst (L.map fun k : Nat => V.int (k : Int))) → IP H H' ps Ls → IP H H' (a :: ps) (L :: Ls)
section
variable {H H' H'' : Hp}
theorem IP.step {ps : List Addr} {Ls : List (List Nat)} (h : IP H H' ps Ls) (k : ∀ a xs, a ∈ ps → H' a = some (.lst xs) → H'' a = some (.lst xs)) : IP H H'' ps Ls := by
  induction h with
  | nil => exact .nil
  | cons h1 h2 _ ih => exact .cons h1 (k _ _ List.mem_cons_self h2) (ih fun a xs ha => k a xs (List.mem_cons_of_mem _ ha))
theorem IP.mono {ps : List Addr} {Ls : List (List Nat)} (h : IP H H' ps Ls) (e : Ex H' H'') : IP H H'' ps Ls := h.step fun a _ _ ha => e a _ ha
theorem IP.app {ps : List Addr} {Ls : List (List Nat)} {a : Addr} {L : List Nat} (h : IP H H' ps Ls) (h1 : H a = none) (h2 : H' a = some (.lst (L.map fun k : Nat => V.int (k : Int)))) : IP H H' (ps ++ [a]) (Ls ++ [L]) := by
  induction h with
  | nil => exact .cons h1 h2 .nil
  | cons a b _ ih => exact .cons a b ih
theorem IP.len {ps : List Addr} {Ls : List (List Nat)} (h : IP H H' ps Ls) : ps.length = Ls.length := by
  induction h with
  | nil => rfl
  | cons _ _ _ ih => rw [List.length_cons, List.length_cons, ih]
theorem IP.parts {K : PySem.W.Frag} {ps : List Addr} {Ls : List (List Nat)} (h : IP H H' ps Ls) : Parts K H H' ps (Ls.map msD) := by
  induction h with
  | nil => exact .nil
  | @cons a L ps Ls h1 h2 _ ih =>
    refine .cons h1 h2 ?_ ih
    have z := allOfInts (K := K) (H := H') (L.map fun k : Nat => (k : Int))
    rw [← msD_int, List.map_map] at z
    exact z
theorem IP.notin {ps : List Addr} {Ls : List (List Nat)} {p : Addr} (h : IP H H' ps Ls) (hp : ∀ xs, H' p ≠ some (.lst xs)) : p ∉ ps := by
  induction h with
  | nil => intro z; simp at z
  | cons h1 h2 _ ih =>
    intro z
    rcases List.mem_cons.mp z with e | e
    · rw [← e] at h2; exact hp _ h2
    · exact ih e
end
def spTabOf (K : PySem.W.Frag) : Sp := fun vs H Q _ => ∃ (n w : Nat) (rss : List (List (Nat × Nat))), DpAll K H vs [.list (rss.map (mD n)), .int (w : Int)] ∧ (1 ≤ n ∧ n ≤ 64) ∧ (1 ≤ w ∧ w ≤ n) ∧ SetsG n rss ∧
  ∀ T f r ps H', H T = none → H f = none → H r = none → Ex H H' → H' T = some (.tup [.ref f, .ref r]) → H' f = some (.lst (ps.map V.ref)) → Parts K H H' ps ((tab n w (rss.map memB)).1.map msD) → H' r = some (.lst ((tab n w (rss.map memB)).2.map vS)) → f ∉ ps → r ∉ ps → ps.Nodup → f ≠ r → Q (.ref T) H'
section
variable {P : Program} {w : World} {K : PySem.W.Frag} {mg : Str → Option Value} {base : Heap}
end

/-! ### table, look -/
theorem evStr {K : PySem.W.Frag} {σ : L2.St} {H : Hp} {te : TE} {x : Str} (h : EvD K te σ H (.str x)) : Ev te σ H (.str x) := fun H1 e Q q => h H1 e _ fun v H2 e2 hd => by
  cases dpStr hd
  exact q H2 e2
theorem evInt' {K : PySem.W.Frag} {σ : L2.St} {H : Hp} {te : TE} {i : Int} (h : EvD K te σ H (.int i)) : Ev te σ H (.int i) := fun H1 e Q q => h H1 e _ fun v H2 e2 hd => by
  cases dpInt hd
  exact q H2 e2
def spTabN (K : PySem.W.Frag) : Sp := fun vs H Q _ => ∃ (n w : Nat) (rss : List (List (Nat × Nat))), DpAll K H vs [.int (n : Int), ssD rss, .int (w : Int)] ∧ (1 ≤ n ∧ n ≤ 64) ∧ (1 ≤ w ∧ w ≤ n) ∧ SetsG n rss ∧
  ∀ T f r ps H', H T = none → H f = none → H r = none → Ex H H' → H' T = some (.tup [.ref f, .ref r]) → H' f = some (.lst (ps.map V.ref)) → Parts K H H' ps ((tab n w (rss.map memB)).1.map msD) → H' r = some (.lst ((tab n w (rss.map memB)).2.map vS)) → f ∉ ps → r ∉ ps → ps.Nodup → f ≠ r → Q (.ref T) H'
theorem spTab_N {K : PySem.W.Frag} (vs : List V) (H : Hp) (Q : VK) (E : XK) (h : spTab K vs H Q E) : spTabN K vs H Q E := by
  obtain ⟨n, w, rss, a, b, c, d, q⟩ := h
  exact ⟨n, w, rss, a, b, c, d, fun T f r ps H' h1 h2 h3 h4 h5 h6 h7 h8 h9 h10 _ _ => q T f r ps H' h1 h2 h3 h4 h5 h6 h7 h8 h9 h10⟩
section
variable {P : Program} {w : World} {K : PySem.W.Frag} {mg : Str → Option Value} {base : Heap}
end

/-! ### cells_of, least -/
section
variable {P : Program} {w : World} {K : PySem.W.Frag} {mg : Str → Option Value} {base : Heap}
theorem vTabOf {σ : L2.St} {H : Hp} {tA : TA} {n w : Nat} {rss : List (List (Nat × Nat))} (h : EvDA K tA σ H [.list (rss.map (mD n)), .int (w : Int)]) (hn : 1 ≤ n ∧ n ≤ 64) (hw : 1 ≤ w ∧ w ≤ n) (hs : SetsG n rss) : EvD K (tCall (spTabOf K) [] E0 tA) σ H (tabD n w rss) := fun H1 e Q q =>
  h H1 e _ fun vs H2 e2 ha => ⟨n, w, rss, by rw [List.append_nil]; exact ha, hn, hw, hs, fun T f r ps H3 hT hf hr e3 h3 h4 pr h5 n1 n2 _ _ => q _ H3 (e2.trans e3) (tabData h3 h4 pr h5)⟩
theorem minN {σ : L2.St} {H : Hp} {te : TE} {d : PyData} {ds : List PyData} (h : EvN K te σ H (d :: ds)) (ha : PySem.W.AlikeAll (d :: ds)) (hz : PyData.depthAll (d :: ds) < 63) : EvD K (tCB (SD.rMinL K) (tCons te tNil)) σ H (PySem.W.minD d ds) := fun H1 e Q q =>
  h H1 e _ fun p xs H2 _ e2 hp hA => ⟨p, xs, d, ds, rfl, sq_of hp, hA, ha, hz, fun v _ hv => q v H2 e2 hv⟩
end

/-! ### item_text, items_text, written -/
def tD (l : List Nat) : PyData := .str (ST.mk l)
theorem strsAllT {K : PySem.W.Frag} {H : Hp} : ∀ {ss : List (List Nat)} {vs : List V}, DpAll K H vs (ss.map tD) → vs = (ss.map ST.mk).map V.str
  | [], _, h => by cases h; rfl
  | n :: ns, _, h => by
    cases h with
    | cons h1 h2 => rw [dpStr h1, strsAllT h2]; rfl
theorem joinTs {K : PySem.W.Frag} {σ : L2.St} {H : Hp} {te : TE} {r : V → List V → Hp → VK → Prop} {S : List Nat} {s : Str} {ps : List (List Nat)} (hs : s = ST.mk S) (h : EvN K te σ H (ps.map tD)) (hl : (ps.map (·.length)).sum + ps.length * S.length ≤ 100000)
    (hr : r = fun x xs H Q => ∃ a p, ∃ ys : List Str, x = .str a ∧ xs = [.ref p] ∧ (SqL K H p (ys.map V.str) ∨ SqT K H p (ys.map V.str)) ∧ (ys.map (·.length)).sum + ys.length * a.length ≤ 16777216 ∧ Q (.str (Txt.join a ys)) H) :
    Ev (tM1 r (tC (.str s)) te) σ H (.str (ST.mk (TL.joinL S ps))) := fun H1 e1 Q q => by
  subst hr hs
  refine ⟨⟨_, rfl⟩, h H1 e1 _ fun p xs H2 _ e2 h2 A2 => ?_⟩
  have hx := strsAllT A2
  subst hx
  refine ⟨_, p, ps.map ST.mk, rfl, rfl, .inl (sq_of h2), ?_, ?_⟩
  · rw [List.map_map, List.length_map, ST.mk_len]
    have : ((fun x : Str => x.length) ∘ ST.mk) = fun l : List Nat => l.length := funext fun l => ST.mk_len l
    rw [this]
    exact Nat.le_trans hl (by decide)
  · rw [ST.join_mk]; exact q H2 e2
theorem log_small {k : Nat} (h : k < 100) : ((k : Nat) : Int).natAbs.log2 < 1920 := by
  rw [Int.natAbs_natCast]
  exact Nat.lt_of_le_of_lt (Nat.log2_le_self k) (by omega)
theorem catS {σ : L2.St} {H : Hp} {ta tb : TE} {r : R2} {a b : List Nat} (ha : Ev ta σ H (.str (ST.mk a))) (hb : Ev tb σ H (.str (ST.mk b))) (hl : a.length + b.length ≤ 100000) (hr : r = fun x y H Q => ∃ i j, x = V.str i ∧ y = V.str j ∧ i.length + j.length ≤ sizeLine ∧ Q (V.str (i ++ j)) H) : Ev (tOp r ta tb) σ H (.str (ST.mk (a ++ b))) := fun H1 e Q q => by
  subst hr
  exact ha H1 e _ fun H2 e2 => hb H2 (e.trans e2) _ fun H3 e3 => ⟨_, _, rfl, rfl, by rw [ST.mk_len, ST.mk_len]; exact sz_of hl, by rw [ST.mk_app]; exact q H3 (e2.trans e3)⟩
section
variable {P : Program} {w : World} {K : PySem.W.Frag} {mg : Str → Option Value} {base : Heap}
theorem fmtI {σ : L2.St} {H : Hp} {te : TE} {k : Nat} (h : Ev te σ H (.int (k : Int))) (hk : k < 100) : Ev (tFmt te) σ H (.str (ST.mk (ST.num k))) := fun H1 e Q q => h H1 e _ fun H2 e2 => .inr ⟨(k : Int), rfl, log_small hk, by rw [ST.toStr hk]; exact q H2 e2⟩
theorem strI {σ : L2.St} {H : Hp} {te : TE} {k : Nat} {r : List V → Hp → VK → Prop} (h : Ev te σ H (.int (k : Int))) (hk : k < 100) (hr : r = fun xs H Q => ∃ i : Int, xs = [.int i] ∧ i.natAbs.log2 < 1920 ∧ Q (.str (toString i)) H) : Ev (tCB r (tCons te tNil)) σ H (.str (ST.mk (ST.num k))) := fun H1 e Q q => by
  subst hr
  exact h H1 e _ fun H2 e2 => ⟨(k : Int), rfl, log_small hk, by rw [ST.toStr hk]; exact q H2 e2⟩
theorem js3 {σ : L2.St} {H : Hp} {ta tb tc : TE} {a b c : List Nat} (ha : Ev ta σ H (.str (ST.mk a))) (hb : Ev tb σ H (.str (ST.mk b))) (hc : Ev tc σ H (.str (ST.mk c))) (hl : a.length + b.length + c.length ≤ 1000) :
    Ev (fun σ H Q => tJs [ta, tb, tc] Str.empty σ H fun out H1 => Q (.str out) H1) σ H (.str (ST.mk (a ++ b ++ c))) := fun H1 e Q q => by
  have e0 : Str.empty ++ ST.mk a = ST.mk a := ST.mk_app [] a
  refine ha H1 e _ fun H2 e2 => ⟨_, rfl, ?_, hb H2 (e.trans e2) _ fun H3 e3 => ⟨_, rfl, ?_, hc H3 ((e.trans e2).trans e3) _ fun H4 e4 => ⟨_, rfl, ?_, ?_⟩⟩⟩
  · rw [e0, ST.mk_len]; exact sz_of (by omega)
  · rw [e0, ST.mk_app, ST.mk_len, List.length_append]; exact sz_of (by omega)
  · rw [e0, ST.mk_app, ST.mk_app, ST.mk_len, List.length_append, List.length_append]; exact sz_of (by omega)
  · show Q (.str (Str.empty ++ ST.mk a ++ ST.mk b ++ ST.mk c)) H4
    rw [e0, ST.mk_app, ST.mk_app]
    exact q H4 ((e2.trans e3).trans e4)
def RItemT : List PyData → PyData → Prop := fun ds out => ∃ a b : Nat, ds = [.int (a : Int), .int (b : Int)] ∧ a ≤ b ∧ b < 100 ∧ out = tD (ST.itemT (a, b))
def RItemsT : List PyData → PyData → Prop := fun ds out => ∃ (n : Nat) (m : Nat → Bool), ds = [.list (bls n m)] ∧ n ≤ 64 ∧ out = tD (ST.itemsT (told m n))
theorem told_in {m : Nat → Bool} {n : Nat} {r : Nat × Nat} (h : r ∈ told m n) : r.1 ≤ r.2 ∧ r.2 < n := by
  exact ⟨(told_sep m n).1 r h, told_below m n r h⟩
def RWritten : List PyData → PyData → Prop := fun ds o => ∃ (n : Nat) (rs : List (Nat × Nat)), ds = [.int (n : Int), sD rs] ∧ (1 ≤ n ∧ n ≤ 64) ∧ Good n rs ∧ o = tD (ST.wrt n (memB rs))
end

/-! ### item_range, item_ranges, read -/
def kvN (n : Nat) : List (Key × V) := (List.range n).map fun k => (Sum.inr (ST.mk (ST.num k)), V.int (k : Int))
theorem kvN_val {n : Nat} (hn : n ≤ 100) (w : List Nat) : valV (kvN n) (Sum.inr (ST.mk w)) = (ST.val n w).map fun k => V.int ((k : Nat) : Int) := by
  unfold kvN valV ST.val
  have gen : ∀ l : List Nat, ((l.map fun k => ((Sum.inr (ST.mk (ST.num k)) : Key), V.int (k : Int))).find? fun kv => decide (kv.1 = Sum.inr (ST.mk w))).map (·.2) = (l.find? fun k => ST.num k == w).map fun k => V.int ((k : Nat) : Int) := by
    intro l
    induction l with
    | nil => rfl
    | cons k l ih =>
      rw [List.map_cons, List.find?_cons, List.find?_cons]
      by_cases c : ST.num k = w
      · rw [decide_eq_true (show (Sum.inr (ST.mk (ST.num k)) : Key) = Sum.inr (ST.mk w) by rw [c]), show (ST.num k == w) = true from beq_iff_eq.mpr c]; rfl
      · rw [decide_eq_false (show ¬ (Sum.inr (ST.mk (ST.num k)) : Key) = Sum.inr (ST.mk w) from fun z => c (ST.mk_inj (Sum.inr.inj z))), show (ST.num k == w) = false from beq_eq_false_iff_ne.mpr c]
        exact ih
  exact gen _
section
variable {K : PySem.W.Frag} {σ : L2.St} {H : Hp}
theorem dNot {ty td : TE} {w : List Nat} {n : Nat} {d : Addr} (hy : Ev ty σ H (.str (ST.mk w))) (hd : Ev td σ H (.ref d)) (h : H d = some (.dK (kvN n))) (hn : n ≤ 100) : Ev (tDNotIn ty td) σ H (.bl (!(ST.val n w).isSome)) := fun H1 e Q q =>
  hy H1 e _ fun H2 e2 => hd H2 (e.trans e2) _ fun H3 e3 => by
    have g := DGet.k (k := Sum.inr (ST.mk w)) (((e.trans e2).trans e3) d _ h)
    rw [kvN_val hn] at g
    refine ⟨d, _, rfl, g, ?_⟩
    rw [Option.isSome_map]
    exact q H3 (e2.trans e3)
theorem dGetN {ty td : TE} {w : List Nat} {n k : Nat} {d : Addr} (hd : Ev td σ H (.ref d)) (hy : Ev ty σ H (.str (ST.mk w))) (h : H d = some (.dK (kvN n))) (hn : n ≤ 100) (hk : ST.val n w = some k) : Ev (tDGet td ty) σ H (.int (k : Int)) := fun H1 e Q q =>
  hd H1 e _ fun H2 e2 => hy H2 (e.trans e2) _ fun H3 e3 => by
    have g := DGet.k (k := Sum.inr (ST.mk w)) (((e.trans e2).trans e3) d _ h)
    rw [kvN_val hn, hk] at g
    exact ⟨d, _, rfl, g, q H3 (e2.trans e3)⟩
theorem truS {te : TE} {l : List Nat} {tt : TT} (h : Ev te σ H (.str (ST.mk l))) (hl : l.length ≤ 100000) (ht : tt = fun σ H Q => te σ H fun x H' => ∃ k, TruV K x H' k ∧ Q k H') : EvT tt σ H (!l.isEmpty) := fun H1 e Q q => by
  subst ht
  refine h H1 e _ fun H2 e2 => ⟨!l.isEmpty, ⟨by rw [ST.mk_len]; exact sz_of hl, ?_⟩, q H2 e2⟩
  rw [ST.mk_len]
  cases l with
  | nil => rfl
  | cons a l =>
    show true = _
    symm
    rw [bne_iff_ne]
    intro z
    rw [List.length_cons] at z
    omega
/-- {str(k): k for k in range(n)} -/
theorem dcN {wi : TI} {g : TG} {tk tv : TE} {n : Nat} {vs : List Nat} {D : Ends} {i : Nat} (hn : n ≤ 100) (hw : WkN K wi σ H n fun k => .int (k : Nat))
    (ht : ∀ k x H', k < n → Ex H H' → Dp K H' x (.int ((k : Nat) : Int)) → ∃ σ2, (∀ Q : L2.St → Hp → Prop, Q σ2 H' → g x (wipe σ vs) H' Q) ∧ wipe σ2 vs = wipe σ vs ∧ Ev tk σ2 H' (.str (ST.mk (ST.num k))) ∧ Ev tv σ2 H' (.int ((k : Nat) : Int)))
    (q : ∀ p H', H p = none → Ex H H' → H' p = some (.dK (kvN n)) → D.nx (σ.set i (some (.ref p))) H') : tAsg (tDc wi g tYes tk tv vs) (gName i) D σ H :=
  hw H (Ex.refl H) _ fun J H2 e2 w => fun Dl hD => by
  refine ⟨fun i m G => m = n - i ∧ i ≤ n ∧ Ex H2 G ∧ G Dl = some (.dK (kvN i)), ⟨n, by simp, Nat.zero_le _, Ex.new hD, upd_same⟩, ?_⟩
  rintro i m G ⟨rfl, hi, eG, hG⟩
  by_cases hlt : i < n
  · refine .inr ⟨w.goes i G hlt eG, fun G' => Ex H2 G' ∧ G' Dl = some (.dK (kvN (i + 1))), fun G2 p => ⟨n - (i + 1), by omega, rfl, hlt, p⟩, fun x G2 y => ?_⟩
    obtain ⟨eY, dY⟩ := w.yields i G x G2 hlt eG y
    obtain ⟨σ2, hg, hwi, hk, hv⟩ := ht i x G2 hlt ((e2.trans eG).trans eY) dY
    refine hg _ ⟨hwi, et_yes G2 (Ex.refl _) _ fun G3 e3 => ?_⟩
    show tk σ2 G3 _
    refine hk G3 e3 _ fun G4 e4 => hv G4 (e3.trans e4) _ fun G5 e5 => ?_
    have e15 := ((eY.trans e3).trans e4).trans e5
    refine ⟨kvN i, Sum.inr (ST.mk (ST.num i)), rfl, e15 Dl _ hG, sz_lt (by unfold kvN; rw [List.length_map, List.length_range]; omega), Ex.mut (eG.trans e15) hD, ?_⟩
    rw [upd_same, putK_new]
    · unfold kvN
      rw [List.range_succ, List.map_append]; rfl
    · rw [kvN_val (by omega)]
      cases c : ST.val i (ST.num i) with
      | none => rfl
      | some j =>
        obtain ⟨c1, c2⟩ := ST.val_some c
        have := ST.num_eq (by omega) (by omega) c2
        omega
  · have e : i = n := by omega
    subst e
    exact .inl ⟨w.stops G eG, q Dl G (fresh_back e2 hD) (e2.trans eG) hG⟩
end
theorem par_str (w : List Nat) : Txt.partition (ST.mk w) (ST.mk [45]) = (match TL.par [45] [] w with | some (a, b) => (ST.mk a, ST.mk [45], ST.mk b) | none => (ST.mk w, ST.mk [], ST.mk [])) := TL.partition_par (ST.mk w) (ST.mk [45]) (by show ([45] : List Nat) ≠ []; simp)
def spItemR (K : PySem.W.Frag) : Sp := fun vs H Q _ => ∃ (d : Addr) (n : Nat) (w : List Nat), vs = [.ref d, .str (ST.mk w)] ∧ H d = some (.dK (kvN n)) ∧ n ≤ 64 ∧ w.length ≤ 100000 ∧
  (ST.rdI n w = none → ∀ H', Ex H H' → Q .non H') ∧ (∀ r, ST.rdI n w = some r → ∀ T H', H T = none → Ex H H' → H' T = some (.tup [.int (r.1 : Int), .int (r.2 : Int)]) → Q (.ref T) H')
theorem par_len : ∀ {w acc a b : List Nat}, TL.par [45] acc w = some (a, b) → a.length + b.length ≤ acc.length + w.length
  | [], acc, a, b, h => by cases h
  | c :: r, acc, a, b, h => by
    unfold TL.par at h
    by_cases e : TL.pre [45] (c :: r) = true
    · rw [if_pos e] at h
      cases h
      rw [List.length_drop, List.length_cons]
      omega
    · rw [if_neg e] at h
      have := par_len h
      rw [List.length_append, List.length_cons, List.length_nil] at this
      rw [List.length_cons]
      omega
section
variable {P : Program} {w : World} {K : PySem.W.Frag} {mg : Str → Option Value} {base : Heap}
theorem ok_itemR {f : Addr} {fd : FuncData} {k : Nat} (F : Fun K "item_range" "item_range" sItemRange f fd) : FnOk P w K mg base CX0 (k + 1) f fd ["numbers", "item"] (spItemR K) := by
  refine F.ok scItemRange (fun vs H Q E h => ?_) (fun cdv A outer s H vs Q E hr h => ?_)
  · obtain ⟨d, n, w', rfl, _⟩ := h
    rfl
  · obtain ⟨d, n, w', rfl, hd, hn, hw, q1, q2⟩ := h
    have nd := scItemRange.nd
    have hu := hu_of hr
    refine ⟨_, pss_cons (ps_asg (pe_partition (pv 1) pe_str) (pg_tup rfl (pgs_cons (pg_name (i := 2) nd rfl (.inl rfl)) (pgs_cons (pg_name (i := 3) nd rfl (.inl rfl)) (pgs_cons (pg_name (i := 4) nd rfl (.inl rfl)) pgs_nil)))))
      (pss_cons (ps_if (pt_cmp (pc_dnotin hu (pv 2) (pv 0))) (pss_one (ps_ret pe_non)) pss_nil)
      (pss_cons (ps_if (pt_not (pt_truth (pv 3) (by intro _; rfl))) (pss_one (ps_ret (pe_tup (pa_cons (pe_dget hu (pv 0) (pv 2) (fun _ _ => rfl)) (pa_cons (pe_dget hu (pv 0) (pv 2) (fun _ _ => rfl)) pa_nil))))) pss_nil)
      (pss_cons (ps_if (PW.pt (pw_or (pt_cmp (pc_dnotin hu (pv 4) (pv 0))) (pw_or1 (pt_cmpR op_ge (pe_dget hu (pv 0) (pv 2) (fun _ _ => rfl)) (pe_dget hu (pv 0) (pv 4) (fun _ _ => rfl)) (nomark _))))) (pss_one (ps_ret pe_non)) pss_nil)
      (pss_one (ps_ret (pe_tup (pa_cons (pe_dget hu (pv 0) (pv 2) (fun _ _ => rfl)) (pa_cons (pe_dget hu (pv 0) (pv 4) (fun _ _ => rfl)) pa_nil)))))))), ?_⟩
    obtain ⟨a, c, b, hpar, hcl, hr1⟩ : ∃ a c b : List Nat, Txt.partition (ST.mk w') (ST.mk [45]) = (ST.mk a, ST.mk c, ST.mk b) ∧ (a.length ≤ 100000 ∧ c.length ≤ 1 ∧ b.length ≤ 100000) ∧
        ST.rdI n w' = (if c = [] then (ST.val n a).map fun x => (x, x) else match ST.val n a, ST.val n b with | some x, some y => if x < y then some (x, y) else none | _, _ => none) := by
      rw [par_str]
      unfold ST.rdI
      cases e : TL.par [45] [] w' with
      | none => exact ⟨w', [], [], rfl, ⟨hw, Nat.zero_le _, Nat.zero_le _⟩, by rw [if_pos rfl]⟩
      | some p =>
        obtain ⟨a, b⟩ := p
        have := par_len e
        rw [List.length_nil, Nat.zero_add] at this
        exact ⟨a, [45], b, rfl, ⟨by omega, Nat.le_refl _, by omega⟩, by first | (rw [if_neg (by simp)]; done) | (rw [if_neg (by simp)]; generalize hA : ST.val n a = A; generalize hB : ST.val n b = B; dsimp only; rw [hA, hB]; cases A <;> cases B <;> rfl)⟩
    refine ⟨.str (ST.mk w'), rfl, ⟨_, rfl⟩, ST.mk w', ST.mk [45], rfl, ?_, by decide +kernel, by rw [ST.mk_len]; exact sz_of hw, fun p hp => ?_⟩
    · rw [show PySem.Str.ofString "-" = ST.mk [45] by decide +kernel]
    rw [hpar]
    refine ⟨p, _, rfl, st_of upd_same, rfl, _, _, rfl, _, _, rfl, _, _, rfl, rfl, ?_⟩
    have e1 : Ex H (upd H p (.tup [.str (ST.mk a), .str (ST.mk c), .str (ST.mk b)])) := Ex.new hp
    show tSeq _ _ _ [some (.ref d), some (.str (ST.mk w')), some (.str (ST.mk a)), some (.str (ST.mk c)), some (.str (ST.mk b))] (upd H p (.tup [.str (ST.mk a), .str (ST.mk c), .str (ST.mk b)]))
    generalize upd H p (.tup [.str (ST.mk a), .str (ST.mk c), .str (ST.mk b)]) = H1 at e1 ⊢
    have hd1 := e1 d _ hd
    refine q_when (b := !(ST.val n a).isSome) (et_B (dNot (ev_var rfl) (ev_var rfl) hd1 (by omega))) (fun hb H2 e2 => ?_) (fun hb H2 e2 => ?_)
    · have z : ST.val n a = none := by simpa using hb
      refine s_ret ev_c fun H3 e3 => q1 ?_ H3 ((e1.trans e2).trans e3)
      rw [hr1, z]
      split <;> rfl
    · obtain ⟨x, hx⟩ : ∃ x, ST.val n a = some x := Option.isSome_iff_exists.mp (by simpa using hb)
      have hd2 := e2 d _ hd1
      have tup : ∀ {ta tb : TE} {σ : L2.St} {G : Hp} {i j : Int} {Q' : VK}, Ex H G → Ev ta σ G (.int i) → Ev tb σ G (.int j) → (∀ T H', H T = none → Ex H H' → H' T = some (.tup [.int i, .int j]) → Q' (.ref T) H') → tTup (tCons ta (tCons tb tNil)) σ G Q' := fun {ta tb σ G i j Q'} eG ha hb k =>
        (eu_tup (ea_cons ha (ea_cons hb ea_nil)) (by show 2 ≤ 100000; decide)) G (Ex.refl G) _ fun T G2 hT e2 h2 => k T G2 (fresh_back eG hT) (eG.trans e2) h2
      refine q_when (b := c.isEmpty) (et_is (et_not (truS (l := c) (ev_var rfl) (by omega) rfl)) (by rw [Bool.not_not])) (fun hc H3 e3 => ?_) (fun hc H3 e3 => ?_)
      · have hd3 := e3 d _ hd2
        have z : c = [] := List.isEmpty_iff.mp hc
        have hr2 : ST.rdI n w' = some (x, x) := by rw [hr1, if_pos z, hx]; rfl
        exact tup ((e1.trans e2).trans e3) (dGetN (ev_var rfl) (ev_var rfl) hd3 (by omega) hx) (dGetN (ev_var rfl) (ev_var rfl) hd3 (by omega) hx) (q2 _ hr2)
      · have hd3 := e3 d _ hd2
        have z : ¬ c = [] := fun z => by rw [z] at hc; cases hc
        rw [if_neg z, hx] at hr1
        cases hy : ST.val n b with
        | none =>
          rw [hy] at hr1
          refine q_when (b := true) (et_is (et_or (b := false) (et_B (dNot (ev_var rfl) (ev_var rfl) hd3 (by omega))) (fun hf => by rw [hy] at hf; cases hf)) (by rw [hy]; rfl)) (fun _ H4 e4 => s_ret ev_c fun H5 e5 => q1 hr1 H5 ((((e1.trans e2).trans e3).trans e4).trans e5)) (fun h => by cases h)
        | some y =>
          rw [hy] at hr1
          simp only at hr1
          refine q_when (b := decide ((x : Int) ≥ (y : Int))) (et_is (et_or (b := decide ((x : Int) ≥ (y : Int))) (et_B (dNot (ev_var rfl) (ev_var rfl) hd3 (by omega))) (fun _ => et_test (ev_op (dGetN (ev_var rfl) (ev_var rfl) hd3 (by omega) hx) (dGetN (ev_var rfl) (ev_var rfl) hd3 (by omega) hy) rv_I0))) (by rw [hy]; rfl)) (fun hb2 H4 e4 => ?_) (fun hb2 H4 e4 => ?_)
          · rw [if_neg (by have := of_decide_eq_true hb2; omega)] at hr1
            exact s_ret ev_c fun H5 e5 => q1 hr1 H5 ((((e1.trans e2).trans e3).trans e4).trans e5)
          · rw [if_pos (by have := of_decide_eq_false hb2; omega)] at hr1
            have hd4 := e4 d _ hd3
            exact tup (((e1.trans e2).trans e3).trans e4) (dGetN (ev_var rfl) (ev_var rfl) hd4 (by omega) hx) (dGetN (ev_var rfl) (ev_var rfl) hd4 (by omega) hy) (q2 _ hr1)
end

/-! ### item_ranges, read -/
def comb (rs : List (Nat × Nat)) : Nat ⊕ List (Nat × Nat) → Nat ⊕ List (Nat × Nat)
  | .inl q => .inl q
  | .inr rs' => .inr (rs ++ rs')
theorem comb_step {n i lo : Nat} {w : List Nat} {ws : List (List Nat)} {r : Nat × Nat} (rs : List (Nat × Nat)) (h1 : ST.rdI n w = some r) (h2 : ¬ r.1 < lo) : comb rs (ST.rdG n i lo (w :: ws)) = comb (rs ++ [r]) (ST.rdG n (i + 1) (r.2 + 1) ws) := by
  have e : ST.rdG n i lo (w :: ws) = (match ST.rdG n (i + 1) (r.2 + 1) ws with | .inl q => Sum.inl q | .inr rs => .inr (r :: rs)) := by
    show (match ST.rdI n w with | none => Sum.inl i | some r => if r.1 < lo then .inl i else match ST.rdG n (i + 1) (r.2 + 1) ws with | .inl q => .inl q | .inr rs => .inr (r :: rs)) = _
    rw [h1]
    dsimp only
    rw [if_neg h2]
  rw [e]
  cases ST.rdG n (i + 1) (r.2 + 1) ws with
  | inl q => rfl
  | inr rs' =>
    show Sum.inr (rs ++ (r :: rs')) = Sum.inr (rs ++ [r] ++ rs')
    rw [List.append_assoc]; rfl
theorem comb_bad {n i lo : Nat} {w : List Nat} {ws : List (List Nat)} (rs : List (Nat × Nat)) (h : ∀ r, ST.rdI n w = some r → r.1 < lo) : comb rs (ST.rdG n i lo (w :: ws)) = .inl i := by
  have e : ST.rdG n i lo (w :: ws) = .inl i := by
    show (match ST.rdI n w with | none => Sum.inl i | some r => if r.1 < lo then .inl i else match ST.rdG n (i + 1) (r.2 + 1) ws with | .inl q => .inl q | .inr rs => .inr (r :: rs)) = _
    cases c : ST.rdI n w with
    | none => rfl
    | some r =>
      dsimp only
      rw [if_pos (h r c)]
  rw [e]; rfl
theorem isNone {σ : L2.St} {H : Hp} {te : TE} {v : V} (h : Ev te σ H v) : Ev (tOp (fun x y H Q => y = V.non ∧ Q (.bl (decide (x = V.non))) H) te (tC .non)) σ H (.bl (decide (v = V.non))) := fun H1 e Q q => h H1 e _ fun H2 e2 => ⟨rfl, q H2 e2⟩
section
variable {P : Program} {w : World} {K : PySem.W.Frag} {mg : Str → Option Value} {base : Heap}
def RItemRs : List PyData → List PyData → Prop := fun ds out => ∃ (n : Nat) (ws : List (List Nat)) (rs : List (Nat × Nat)), ds = [.int (n : Int), .list (ws.map tD)] ∧ n ≤ 64 ∧ (∀ w ∈ ws, w.length ≤ 100000) ∧ ST.rdG n 0 0 ws = .inr rs ∧ out = rs.map rD
theorem ok_itemRs {f f1 : Addr} {fd fd1 : FuncData} {k : Nat} (F : Fun K "item_ranges" "item_ranges" sItemRanges f fd)
    (F1 : FnOk P w K mg base CX0 (k + 1) f1 fd1 ["numbers", "item"] (spItemR K)) (g1 : mg "item_range" = some (.ref f1)) (k1 : PySem.W.keepIn K (.ref f1) = true) (b1 : Binds K fd1 ["numbers", "item"] [])
    (mS : mg "str" = none) (mr : mg "range" = none) (me : mg "enumerate" = none) : FnOk P w K mg base CX0 (k + 2) f fd ["size", "items"] (spN K RItemRs) := by
  refine F.ok scItemRanges (fun vs H Q E h => ?_) (fun cdv A outer s H vs Q E hr h => ?_)
  · obtain ⟨ds, out, ha, ⟨n, ws, rs, rfl, _⟩, _⟩ := h
    exact allLen ha
  · obtain ⟨ds, out, ha, ⟨n, ws, RS, rfl, hn, hws, hrd, rfl⟩, q⟩ := h
    obtain ⟨x, y, rfl, hx, hy⟩ := all2 ha
    cases dpInt hx
    have nd := scItemRanges.nd
    refine ⟨_, pss_cons (SH.ps_setDc (i := 2) (own := [("sign", 8)]) (g := gName 8) (tt := tYes) (tk := tCB (fun xs H Q => ∃ i : Int, xs = [.int i] ∧ i.natAbs.log2 < 1920 ∧ Q (.str (toString i)) H) (tCons (tVar 8) tNil)) (tv := tVar 8) rfl nd rfl rfl (SH.swapD rfl rfl rfl (by decide +kernel)) (pi_range1 (by rfl) mr (pa_cons (pv 0) pa_nil)) (blkOk_by (own := [("sign", 8)]) (N := nItemRanges) (sc := defScope sItemRanges) (by decide +kernel))
        (fun _ _ _ _ _ => pg_name (i := 8) nd rfl (Or.inl rfl)) (fun _ _ _ _ _ => pts_nil) (fun _ _ _ _ _ => pe_callTy call_str_int (by rfl) mS (by decide +kernel) (pa_cons (pv 8) pa_nil)) (fun _ _ _ _ _ => pv 8))
      (pss_cons (ps_set (i := 3) nd rfl (.inl rfl) (pe_lst pa_nil))
      (pss_cons (ps_set (i := 4) nd rfl (.inl rfl) (pe_un un_neg pe_int))
      (pss_cons (ps_for PassesOwn.never rfl (pi_enum (by rfl) me (pa_cons (pv 1) pa_nil)) (pg_tup rfl (pgs_cons (pg_name (i := 5) nd rfl (.inl rfl)) (pgs_cons (pg_name (i := 6) nd rfl (.inl rfl)) pgs_nil)))
        (pss_cons (ps_set (i := 7) nd rfl (.inl rfl) (pe_call F1 hr (by rfl) g1 k1 b1 .nil pass0 (pa_cons (pv 2) (pa_cons (pv 6) pa_nil))))
        (pss_cons (ps_if (PW.pt (pw_or (pt_cmpR op_isN (pv 7) pe_non (nomark _)) (pw_or1 (pt_cmpR op_le (pe_ix ix_tup (pv 7) pe_int (fun _ _ => rfl)) (pv 4) (nomark _))))) (pss_one ps_never) pss_nil)
        (pss_cons (ps_expr (pe_bm PySem.F.plainAttrs_list PySem.F.slot_list_append PySem.F.type_list_append mt_append (pv 3) (pa_cons (pv 7) pa_nil)))
        (pss_one (ps_set (i := 4) nd rfl (.inl rfl) (pe_ix ix_tup (pv 7) pe_int (fun _ _ => rfl))))))))
      (pss_one (ps_ret (pv 3)))))), ?_⟩
    have hok := ST.rdG_ok hrd
    refine dcN (K := K) (n := n) (by omega) (wkRange1 (j := (n : Int)) (ea_cons (ev_var rfl) ea_nil) ⟨by omega, by omega⟩).asN (fun k v H' hk e hd => ?_) fun d0 H1 hd0 e1 h1 => ?_
    · cases dpInt hd
      exact ⟨[some (.int (n : Int)), some y, none, none, none, none, none, none, some (.int (k : Nat))], fun Q q => q, rfl, strI (ev_var rfl) (by omega) rfl, ev_var rfl⟩
    refine ⟨Nat.zero_le _, fun l hl => ⟨1, rfl, ?_⟩⟩
    have hl0 : H l = none := fresh_back e1 hl
    have e2 := e1.trans (Ex.new (o := .lst []) hl)
    have h2l : (upd H1 l (.lst [])) l = some (.lst []) := upd_same
    have h2d : (upd H1 l (.lst [])) d0 = some (.dK (kvN n)) := (Ex.new hl) d0 _ h1
    generalize upd H1 l (.lst []) = H2 at e2 h2l h2d ⊢
    refine sFor (B := H) e2 (wkEnum (ev_var (v := y) rfl) hy) (fun i σ' H' => Ex H H' ∧ H' d0 = some (.dK (kvN n)) ∧ (∃ (rs : List (Nat × Nat)) (lo : Nat) (acc : List V) (b5 b6 b7 : Option V), H' l = some (.lst acc) ∧ DpAll K (rm H' l) acc (rs.map rD) ∧ rs.length = i ∧ comb rs (ST.rdG n i lo (ws.drop i)) = .inr RS ∧ σ' = [some (.int (n : Int)), some y, some (.ref d0), some (.ref l), some (.int ((lo : Int) - 1)), b5, b6, b7, none])) (fun H3 e => ⟨e2.trans e, e d0 _ h2d, [], 0, [], none, none, none, e l _ h2l, .nil, rfl, by rw [List.drop_zero, hrd]; rfl, rfl⟩) (fun i σ' H' _ p => p.1) (fun i x σ' H' H3 hi p e hd => ?_) (fun σ' H' p => ?_)
    · obtain ⟨e0, kd, rs, lo, acc, b5, b6, b7, kl, kA, krl, kc, rfl⟩ := p
      rw [List.length_map] at hi
      rw [getD_map tD (List.getElem?_eq_getElem hi)] at hd
      rw [List.drop_eq_getElem_cons hi] at kc
      have hwl := hws ws[i] (List.getElem_mem hi)
      generalize ws[i] = w1 at hd kc hwl
      refine gPair hd fun y1 y2 hy1 hy2 => ?_
      cases dpInt hy1
      cases dpStr hy2
      obtain ⟨r, hr1, hr2⟩ : ∃ r, ST.rdI n w1 = some r ∧ ¬ r.1 < lo := Classical.byContradiction fun z => by
        rw [comb_bad rs fun r hr => Classical.byContradiction fun z2 => z ⟨r, hr, z2⟩] at kc
        cases kc
      rw [comb_step rs hr1 hr2] at kc
      refine ⟨.ref d0, rfl, .str (ST.mk w1), rfl, d0, n, w1, rfl, e d0 _ kd, hn, hwl, fun z => (by rw [hr1] at z; cases z), fun r' hr' T H4 hT e4 h4 => ?_⟩
      rw [hr1] at hr'
      cases hr'
      have e34 := e.trans e4
      have dT : Dp K H4 (.ref T) (rD r) := .tup (st_of h4) (.cons (.int _) (.cons (.int _) .nil))
      have ix : ∀ {σ : L2.St} {G : Hp} (j : Nat), σ[7]? = some (some (.ref T)) → Ex H4 G → ∀ v : Int, [PyData.int (r.1 : Int), PyData.int (r.2 : Int)][j]? = some (.int v) → Ev (tOp (rIxT K) (tVar 7) (tC (.int (j : Int)))) σ G (.int v) := fun {σ G} j hs eG v hv => evInt' (dIxT (i := (j : Int)) (dVar (v := .ref T) hs (SB.mono eG dT)) ev_c (atI_nat hv))
      refine q_when (b := false) (et_is (et_or (b := false) (et_test (isNone (ev_var (v := .ref T) rfl))) (fun _ => et_is (et_test (ev_op (ix 0 rfl (Ex.refl _) _ rfl) (ev_var rfl) rv_I0)) (decide_eq_false (by omega)))) rfl) (fun h => by cases h) (fun _ H5 e5 => ?_)
      have kl5 := (e34.trans e5) l _ kl
      refine ⟨.ref l, rfl, .inl ⟨rfl, _, sq_of kl5⟩, .ref T, rfl, l, acc, .ref T, rfl, rfl, kl5, sz_lt (by rw [allLen kA, List.length_map]; omega), ?_⟩
      have hTl : T ≠ l := Ne.symm (ne_of_none (e l _ kl) hT)
      have h5T : H5 T = some (.tup [.int (r.1 : Int), .int (r.2 : Int)]) := e5 T _ h4
      have h6T : (upd H5 l (.lst (acc ++ [.ref T]))) T = some (.tup [.int (r.1 : Int), .int (r.2 : Int)]) := by rw [upd_ne hTl]; exact h5T
      have dT6 : Dp K (upd H5 l (.lst (acc ++ [.ref T]))) (.ref T) (rD r) := .tup (st_of h6T) (.cons (.int _) (.cons (.int _) .nil))
      refine s_asg (v := .int (r.2 : Int)) (evInt' (dIxT (i := 1) (dVar (v := .ref T) rfl dT6) ev_c rfl)) fun H6 e6 => ?_
      have hld : d0 ≠ l := ne_of kd kl (by intro z; cases z)
      refine ⟨?_, ?_, rs ++ [r], r.2 + 1, acc ++ [.ref T], some (.int (i : Nat)), some (.str (ST.mk w1)), some (.ref T), e6 l _ upd_same, ?_, by rw [List.length_append, krl]; rfl, kc, ?_⟩
      · exact (Ex.mut ((e0.trans e34).trans e5) hl0).trans e6
      · exact e6 d0 _ (by rw [upd_ne hld]; exact (e34.trans e5) d0 _ kd)
      · rw [List.map_append]
        have z : DpAll K (rm (upd H5 l (.lst (acc ++ [.ref T]))) l) (acc ++ [.ref T]) (rs.map rD ++ [rD r]) := by
          rw [rmUpd]
          exact allApp (monoA (rmMono (e34.trans e5)) kA) (.cons (.tup (st_of (by rw [rmNe hTl]; exact h5T)) (.cons (.int _) (.cons (.int _) .nil))) .nil)
        exact monoA (rmMono e6) z
      · show _ = [some (.int (n : Int)), some y, some (.ref d0), some (.ref l), some (.int (((r.2 + 1 : Nat) : Int) - 1)), some (.int (i : Nat)), some (.str (ST.mk w1)), some (.ref T), none]
        rw [show ((r.2 + 1 : Nat) : Int) - 1 = (r.2 : Int) by omega]; rfl
    · obtain ⟨e0, kd, rs, lo, acc, b5, b6, b7, kl, kA, krl, kc, rfl⟩ := p
      rw [List.length_map, List.drop_length] at kc
      have z : rs = RS := by
        have := Sum.inr.inj (show (Sum.inr (rs ++ []) : Nat ⊕ List (Nat × Nat)) = Sum.inr RS from kc)
        rw [List.append_nil] at this
        exact this
      subst z
      exact ⟨.ref l, rfl, q l acc H' hl0 e0 kl (monoA rmEx kA)⟩
end

/-! ### read -/
theorem split_mk (r : List Nat) : Txt.split (ST.mk r) (ST.mk [44]) = (TL.spl [44] 0 [] r).map ST.mk := by
  refine TL.map_tl_inj ?_
  rw [TL.split_spl _ _ (by show ([44] : List Nat) ≠ []; simp) (TL.kind_ok (by decide +kernel)), List.map_map]
  show TL.spl [44] 0 [] r = _
  rw [show (TL.tl ∘ ST.mk) = id from rfl, List.map_id]
theorem spl_len1 (S : List Nat) : ∀ (l acc : List Nat) (k : Nat), ∀ p ∈ TL.spl S k acc l, p.length ≤ acc.length + l.length
  | [], acc, k, p, h => by
    rw [TL.spl_nil] at h
    rw [List.mem_singleton.mp h]; omega
  | c :: r, acc, 0, p, h => by
    unfold TL.spl at h
    by_cases e : TL.pre S (c :: r) = true
    · rw [if_pos e] at h
      rcases List.mem_cons.mp h with z | z
      · rw [z]; omega
      · have := spl_len1 S r [] _ p z
        rw [List.length_nil] at this
        rw [List.length_cons]; omega
    · rw [if_neg e] at h
      have := spl_len1 S r (acc ++ [c]) 0 p h
      rw [List.length_append, List.length_cons, List.length_nil] at this
      rw [List.length_cons]; omega
  | c :: r, acc, k + 1, p, h => by
    unfold TL.spl at h
    have := spl_len1 S r acc k p h
    rw [List.length_cons]; omega
theorem spl_cnt (S : List Nat) : ∀ (l acc : List Nat) (k : Nat), (TL.spl S k acc l).length ≤ l.length + 1
  | [], acc, k => by rw [TL.spl_nil]; exact Nat.le_refl _
  | c :: r, acc, 0 => by
    unfold TL.spl
    by_cases e : TL.pre S (c :: r) = true
    · rw [if_pos e, List.length_cons, List.length_cons]
      have := spl_cnt S r [] (S.length - 1)
      omega
    · rw [if_neg e, List.length_cons]
      have := spl_cnt S r (acc ++ [c]) 0
      omega
  | c :: r, acc, k + 1 => by
    unfold TL.spl
    have := spl_cnt S r acc k
    rw [List.length_cons]; omega
theorem sub94 (t : List Nat) : Builtin.Str.subAt (ST.mk t) (ST.mk [94]) 0 = ST.isN t := by
  rw [PySem.StrLaws.subAt_eq]
  show ((t.drop 0).take 1 == [94]) = _
  cases t with
  | nil => rfl
  | cons c r =>
    show ([c] == [94]) = _
    by_cases h : c = 94
    · subst h; rfl
    · rw [show ([c] == [94]) = false from beq_eq_false_iff_ne.mpr (fun z => h (List.cons.inj z).1)]
      unfold ST.isN
      split
      · rename_i hz
        exact absurd (List.cons.inj hz).1 h
      · rfl
theorem isN_len {t : List Nat} (h : ST.isN t = true) : 1 ≤ t.length := by
  cases t with
  | nil => cases h
  | cons c r => rw [List.length_cons]; omega
theorem starts_mk (t : List Nat) : Txt.startswith (ST.mk t) (ST.mk [94]) = ST.isN t := by
  unfold Txt.startswith
  rw [sub94, ST.mk_len, ST.mk_len]
  cases h : ST.isN t with
  | false => rw [Bool.and_false]
  | true => rw [Bool.and_true]; exact decide_eq_true (by show 0 + 1 ≤ _; have := isN_len h; omega)
theorem pref_mk (t : List Nat) : Txt.removeprefix (ST.mk t) (ST.mk [94]) = ST.mk (ST.rest t) := by
  rw [PySem.StrLaws.removeprefix_eq, sub94, ST.mk_len, ST.mk_len]
  unfold ST.rest
  cases h : ST.isN t with
  | false =>
    rw [Bool.and_false, if_neg (by decide), if_neg (by decide)]
  | true =>
    have := isN_len h
    rw [Bool.and_true, if_pos (decide_eq_true (by show 0 + 1 ≤ _; omega)), if_pos rfl]
    show ST.mk ((t.drop 1).take (t.length - 1)) = _
    rw [List.take_of_length_le (by rw [List.length_drop]; omega), List.drop_one]
theorem rest_len (t : List Nat) : (ST.rest t).length ≤ t.length := by
  unfold ST.rest
  split
  · rw [List.length_tail]; omega
  · omega
theorem allTs {K : PySem.W.Frag} {H : Hp} : ∀ ws : List (List Nat), DpAll K H ((ws.map ST.mk).map V.str) (ws.map tD)
  | [] => .nil
  | w :: ws => .cons (.str _) (allTs ws)
section
variable {K : PySem.W.Frag} {σ : L2.St} {H : Hp}
theorem nSplit {te : TE} {r : List Nat} {rr : V → List V → Hp → VK → Prop} (h : Ev te σ H (.str (ST.mk r))) (hl : r.length ≤ 90000) (hr : rr = fun x xs H Q => ∃ a b, x = .str a ∧ xs = [.str b] ∧ (b.length == 0) = false ∧ a.length + 2 ≤ sizeLine ∧ rNewStrs (Txt.split a b) H Q) :
    EvN K (tM1 rr te (tC (.str (PySem.Str.ofString ",")))) σ H ((TL.spl [44] 0 [] r).map tD) := fun H1 e Q q => by
  subst hr
  refine h H1 e _ fun H2 e2 => ⟨⟨_, rfl⟩, _, _, rfl, rfl, by decide +kernel, sz_of (by rw [ST.mk_len]; omega), fun p hp => ?_⟩
  rw [show PySem.Str.ofString "," = ST.mk [44] by decide +kernel, split_mk]
  exact q p _ _ (fresh_back e2 hp) (e2.trans (Ex.new hp)) upd_same (allTs _)
theorem nIf {t : TT} {ta tb : TE} {b : Bool} {ds : List PyData} (h : EvT t σ H b) (h1 : b = true → EvN K ta σ H ds) (h2 : b = false → EvN K tb σ H ds) : EvN K (tIf t ta tb) σ H ds := fun H1 e Q q => h H1 e _ fun H2 e2 => by
  cases b with
  | true =>
    show ta σ H2 Q
    exact h1 rfl H2 (e.trans e2) Q (q.ex e2)
  | false =>
    show tb σ H2 Q
    exact h2 rfl H2 (e.trans e2) Q (q.ex e2)
end
section
variable {P : Program} {w : World} {K : PySem.W.Frag} {mg : Str → Option Value} {base : Heap}
def rdM (t : List Nat) (rs : List (Nat × Nat)) : Nat → Bool := fun k => if ST.isN t = true then !memB rs k else memB rs k
def RRead : List PyData → List PyData → Prop := fun ds out => ∃ (n : Nat) (t : List Nat) (rs : List (Nat × Nat)), ds = [.int (n : Int), tD t] ∧ (1 ≤ n ∧ n ≤ 64) ∧ t.length ≤ 90000 ∧ ST.rdT n t = .inr rs ∧ out = (told (rdM t rs) n).map rD
theorem ok_read {f f1 f2 f3 f4 : Addr} {fd fd1 fd2 fd3 fd4 : FuncData} {k : Nat} (F : Fun K "read" "read" sRead f fd)
    (F1 : FnOk P w K mg base CX0 (k + 2) f1 fd1 ["size"] (spV K RSize)) (g1 : mg "check_size" = some (.ref f1)) (k1 : PySem.W.keepIn K (.ref f1) = true) (b1 : Binds K fd1 ["size"] [])
    (F2 : FnOk P w K mg base CX0 (k + 2) f2 fd2 ["size", "items"] (spN K RItemRs)) (g2 : mg "item_ranges" = some (.ref f2)) (k2 : PySem.W.keepIn K (.ref f2) = true) (b2 : Binds K fd2 ["size", "items"] [])
    (F3 : FnOk P w K mg base CX0 (k + 2) f3 fd3 ["size", "ranges"] (spN K RMarks)) (g3 : mg "marks_of" = some (.ref f3)) (k3 : PySem.W.keepIn K (.ref f3) = true) (b3 : Binds K fd3 ["size", "ranges"] [])
    (F4 : FnOk P w K mg base CX0 (k + 2) f4 fd4 ["marks"] (spN K RRanges)) (g4 : mg "ranges_of" = some (.ref f4)) (k4 : PySem.W.keepIn K (.ref f4) = true) (b4 : Binds K fd4 ["marks"] []) :
    FnOk P w K mg base CX0 (k + 3) f fd ["size", "text"] (spN K RRead) := by
  refine F.ok scRead (fun vs H Q E h => ?_) (fun cdv A outer s H vs Q E hr h => ?_)
  · obtain ⟨ds, out, ha, ⟨n, t, rs, rfl, _⟩, _⟩ := h
    exact allLen ha
  · obtain ⟨ds, out, ha, ⟨n, t, rs, rfl, hn, hl, hrd, rfl⟩, q⟩ := h
    obtain ⟨x, y, rfl, hx, hy⟩ := all2 ha
    cases dpInt hx
    cases dpStr hy
    have nd := scRead.nd
    refine ⟨_, pss_cons (ps_expr (pe_call F1 hr (by rfl) g1 k1 b1 .nil pass0 (pa_cons (pv 0) pa_nil)))
      (pss_cons (ps_set (i := 2) nd rfl (.inl rfl) (pe_bm PySem.F.plainAttrs_str PySem.F.slot_str_removeprefix PySem.F.type_str_removeprefix mt_removeprefix (pv 1) (pa_cons pe_str pa_nil)))
      (pss_cons (ps_set (i := 3) nd rfl (.inl rfl) (pe_ifExp (pt_truth (pv 2) (by intro _; rfl)) (pe_split (pv 2) pe_str) (pe_lst pa_nil)))
      (pss_cons (ps_set (i := 4) nd rfl (.inl rfl) (pe_call F3 hr (by rfl) g3 k3 b3 .nil pass0 (pa_cons (pv 0) (pa_cons (pe_call F2 hr (by rfl) g2 k2 b2 .nil pass0 (pa_cons (pv 0) (pa_cons (pv 3) pa_nil))) pa_nil))))
      (pss_cons (ps_if (pt_val (pe_m1 PySem.F.slot_str_startswith PySem.F.type_str_startswith mt_startswith (pv 1) pe_str)) (pss_one (ps_setLc (i := 4) (own := [("marked", 5)]) (g := gName 5) (tt := tYes) (te := tNotV (tVar 5)) rfl nd rfl rfl (sw_true rfl rfl rfl (by decide +kernel)) (pi_list (pv 4)) (blkOk_by (own := [("marked", 5)]) (N := nRead) (sc := defScope sRead) (by decide +kernel))
        (fun _ _ _ _ _ => pg_name (i := 5) nd rfl (Or.inl rfl)) (fun _ _ _ _ _ => pts_nil) (fun _ _ _ _ _ => pe_not (pv 5)))) pss_nil)
      (pss_one (ps_ret (pe_call F4 hr (by rfl) g4 k4 b4 .nil pass0 (pa_cons (pv 4) pa_nil)))))))), ?_⟩
    have rl := rest_len t
    have hok := ST.rdG_ok hrd
    have hc94 : PySem.Str.ofString "^" = ST.mk [94] := by decide +kernel
    refine sDropD (vCall (K := K) (da1 (dVar rfl (.int (n : Int)))) ⟨n, rfl, hn.1, hn.2, rfl⟩) fun H1 e1 => ?_
    refine ⟨.str (ST.mk t), rfl, rfl, _, _, rfl, rfl, by rw [ST.mk_len]; exact sz_of (by omega), ?_⟩
    rw [hc94, pref_mk]
    have itemsE : EvN K (tIf (fun σ H Q => tVar 2 σ H fun x H' => ∃ k, TruV K x H' k ∧ Q k H') (tM1 (fun x xs H Q => ∃ a b, x = .str a ∧ xs = [.str b] ∧ (b.length == 0) = false ∧ a.length + 2 ≤ sizeLine ∧ rNewStrs (Txt.split a b) H Q) (tVar 2) (tC (.str (PySem.Str.ofString ",")))) (tLst tNil)) [some (.int (n : Int)), some (.str (ST.mk t)), some (.str (ST.mk (ST.rest t))), none, none, none] H1 ((ST.itm t).map tD) := by
      refine nIf (truS (l := ST.rest t) (ev_var rfl) (by omega) rfl) (fun hb => ?_) (fun hb => ?_)
      · have z : ¬ ST.rest t = [] := fun z => by rw [z] at hb; cases hb
        unfold ST.itm
        rw [if_neg z]
        exact nSplit (ev_var rfl) (by omega) rfl
      · have z : ST.rest t = [] := List.isEmpty_iff.mp (by simpa using hb)
        unfold ST.itm
        rw [if_pos z]
        exact nLst daNil (Nat.zero_le _)
    refine sAsgN itemsE fun pi xi H2 hpi e2 h2 A2 => ?_
    have hws : ∀ w ∈ ST.itm t, w.length ≤ 100000 := fun w hw => by
      unfold ST.itm at hw
      by_cases z : ST.rest t = []
      · rw [if_pos z] at hw; simp at hw
      · rw [if_neg z] at hw
        have := spl_len1 [44] (ST.rest t) [] 0 w hw
        rw [List.length_nil] at this
        omega
    refine sAsgN (nCall (R := RMarks) (da2 (dVar rfl (.int (n : Int))) (nCall (R := RItemRs) (da2 (dVar rfl (.int (n : Int))) (dVar (v := .ref pi) rfl (.lst (sq_of h2) A2))) ⟨n, ST.itm t, rs, rfl, hn.2, hws, hrd, rfl⟩).asD) ⟨n, rs, rfl, hn.2, fun r hr => ⟨(hok.1 r hr).1, (hok.1 r hr).2.1⟩, rfl⟩) fun pm xm H3 hpm e3 h3 A3 => ?_
    have d3 : Dp K H3 (.ref pm) (.list (bls n (memB rs))) := .lst (sq_of h3) A3
    have E3 := (e1.trans e2).trans e3
    have SW : Ev (tM1 (fun x xs H Q => ∃ a b, x = V.str a ∧ xs = [V.str b] ∧ Q (V.bl (Txt.startswith a b)) H) (tVar 1) (tC (V.str (ST.mk [94])))) [some (.int (n : Int)), some (.str (ST.mk t)), some (.str (ST.mk (ST.rest t))), some (.ref pi), some (.ref pm), none] H3 (.bl (ST.isN t)) := fun G eG Q' q' => ⟨.str (ST.mk t), rfl, ⟨_, rfl⟩, _, _, rfl, rfl, by rw [starts_mk]; exact q' G (Ex.refl G)⟩
    refine q_when (b := ST.isN t) (et_B SW) (fun hb H4 e4 => ?_) (fun hb H4 e4 => ?_)
    · have N := nLc (K := K) (σ := [some (.int (n : Int)), some (.str (ST.mk t)), some (.str (ST.mk (ST.rest t))), some (.ref pi), some (.ref pm), none]) (H := H4) (wi := iList K (tVar 4)) (g := gName 5) (tt := tYes) (te := tNotV (tVar 5)) (vs := [5]) (fun _ => true) (fun i => .bool (!memB rs i)) (by rw [bls_len]; omega) (wkList (ev_var (v := .ref pm) rfl) (SB.mono e4 d3)).asN (fun Dl i x H5 hi e5 hd => by
        rw [bls_len] at hi
        rw [getD_bls _ hi] at hd
        cases dpBool hd
        exact ⟨[some (.int (n : Int)), some (.str (ST.mk t)), some (.str (ST.mk (ST.rest t))), some (.ref pi), some (.ref pm), some (.bl (memB rs i))], fun Q q => q, rfl, et_yes, fun _ => (bD (ev_notV (ev_var rfl))).x rfl⟩)
      rw [outs_all, bls_len] at N
      refine sAsgN N fun p2 x2 H5 hp2 e5 h5 A5 => ?_
      refine sRetN (nCall (R := RRanges) (da1 (dVar (v := .ref p2) rfl (.lst (sq_of h5) A5))) ⟨n, fun k => !memB rs k, rfl, hn.2, ?_⟩) (q.ex ((E3.trans e4).trans e5))
      refine congrArg (List.map rD) (told_congr n fun k _ => ?_)
      unfold rdM
      rw [if_pos hb]
    · refine sRetN (nCall (R := RRanges) (da1 (dVar (v := .ref pm) rfl (SB.mono e4 d3))) ⟨n, memB rs, rfl, hn.2, ?_⟩) (q.ex (E3.trans e4))
      refine congrArg (List.map rD) (told_congr n fun k _ => ?_)
      unfold rdM
      rw [if_neg (by rw [hb]; decide)]
end

/-! ### _law_number, _law_read -/
theorem merge_kvN : ∀ n : Nat, n ≤ 100 → mergeK [] (kvN n) = kvN n
  | 0, _ => rfl
  | n + 1, h => by
    have ih := merge_kvN n (by omega)
    have e : kvN (n + 1) = kvN n ++ [(Sum.inr (ST.mk (ST.num n)), V.int (n : Int))] := by unfold kvN; rw [List.range_succ, List.map_append]; rfl
    rw [e]
    unfold mergeK at ih ⊢
    rw [List.foldl_append, ih]
    show putK (kvN n) (Sum.inr (ST.mk (ST.num n))) (V.int (n : Int)) = _
    refine putK_new _ ?_
    rw [kvN_val (by omega)]
    cases c : ST.val n (ST.num n) with
    | none => rfl
    | some j =>
      obtain ⟨c1, c2⟩ := ST.val_some c
      have := ST.num_eq (by omega) (by omega) c2
      omega
theorem pairRefs {K : PySem.W.Frag} {H : Hp} : ∀ {l : List Nat} {xs : List V}, DpAll K H xs (l.map fun k => .tuple [tD (ST.num k), .int (k : Int)]) → ∃ ps : List Addr, xs = ps.map V.ref ∧ Paired (fun p (kv : Key × V) => SqT K H p [kV kv.1, kv.2]) ps (l.map fun k => (Sum.inr (ST.mk (ST.num k)), V.int (k : Int)))
  | [], _, h => by cases h; exact ⟨[], rfl, .nil⟩
  | k :: l, _, h => by
    cases h with
    | cons h1 h2 =>
      obtain ⟨a, ys, rfl, hs, ha⟩ := dpTuple h1
      obtain ⟨x, y, rfl, hx, hy⟩ := all2 ha
      cases dpStr hx
      cases dpInt hy
      obtain ⟨ps, rfl, hp⟩ := pairRefs h2
      exact ⟨a :: ps, rfl, .cons hs hp⟩
def oD : Option Nat → PyData
  | some k => .int (k : Int)
  | none => .none
def oV : Option Nat → V
  | some k => .int (k : Int)
  | none => .non
theorem getN {K : PySem.W.Frag} {σ : L2.St} {H : Hp} {te ty : TE} {n : Nat} {w : List Nat} {r : List V → Hp → VK → Prop} (h : EvN K te σ H ((List.range n).map fun k => .tuple [tD (ST.num k), .int (k : Int)])) (hn : n ≤ 100)
    (hr : r = fun xs H Q => ∃ (a : Addr) (ps : List Addr) (kvs : List (Key × V)), xs = [.ref a] ∧ SqL K H a (ps.map V.ref) ∧ Paired (fun p kv => SqT K H p [kV kv.1, kv.2]) ps kvs ∧ ∀ p, H p = none → Q (.ref p) (upd H p (.dK (mergeK [] kvs)))) (hy : Ev ty σ H (.str (ST.mk w))) :
    EvD K (tDGet2 (tCB r (tCons te tNil)) ty (tC .non)) σ H (oD (ST.val n w)) := fun H0 e0 Q q => by
  subst hr
  refine h H0 e0 _ fun p xs H1 _ e1 h1 A1 => ?_
  obtain ⟨ps, rfl, hp⟩ := pairRefs A1
  refine ⟨p, ps, kvN n, rfl, sq_of h1, hp, fun d hd => ?_⟩
  rw [merge_kvN n hn]
  have hd' : (upd H1 d (.dK (kvN n))) d = some (.dK (kvN n)) := upd_same
  have e2 := e1.trans (Ex.new (o := .dK (kvN n)) hd)
  refine ⟨d, rfl, .inl ⟨_, .inl hd'⟩, hy _ (e0.trans e2) _ fun H3 e3 => ⟨_, DGet.k (k := Sum.inr (ST.mk w)) (e3 d _ hd'), ?_⟩⟩
  rw [kvN_val hn]
  refine q _ _ (e2.trans e3) ?_
  cases ST.val n w with
  | none => exact .non
  | some k => exact .int _
section
variable {P : Program} {w : World} {K : PySem.W.Frag} {mg : Str → Option Value} {base : Heap}
def RLNum : List PyData → PyData → Prop := fun ds out => ∃ (n : Nat) (w : List Nat), ds = [tD w, .int (n : Int)] ∧ n ≤ 64 ∧ out = oD (ST.val n w)
end

/-! ### _law_read -/
theorem oAll {K : PySem.W.Frag} {H : Hp} : ∀ {l : List (Option Nat)} {vs : List V}, DpAll K H vs (l.map oD) → vs = l.map oV
  | [], _, h => by cases h; rfl
  | o :: l, _, h => by
    cases h with
    | cons h1 h2 =>
      rw [oAll h2]
      cases o with
      | none => cases h1; rfl
      | some k => cases dpInt h1; rfl
theorem flatO (l : List (Option Nat)) : (l.map oV).all flatV = true := by
  rw [List.all_map]
  exact List.all_eq_true.mpr fun o _ => by cases o <;> rfl
theorem inO : ∀ l : List (Option Nat), inV .non (l.map oV) = decide (none ∈ l)
  | [] => rfl
  | o :: l => by
    show (eqV (oV o) .non || inV .non (l.map oV)) = _
    rw [inO l, Bool.eq_iff_iff]
    simp only [Bool.or_eq_true, decide_eq_true_eq, List.mem_cons]
    cases o with
    | none => exact ⟨fun _ => .inl rfl, fun _ => .inl rfl⟩
    | some k =>
      constructor
      · rintro (h | h)
        · cases h
        · exact .inr h
      · rintro (h | h)
        · cases h
        · exact .inr h
theorem cut1 (t : List Nat) : cutS (ST.mk t) none (some 1) = ST.mk (t.take 1) := by
  unfold cutS
  rw [HT.sIx_none, show (1 : Int) = ((1 : Nat) : Int) from rfl, HT.sIx_nat, ST.mk_len]
  refine congrArg Str.mk ?_
  show ((t.drop 0).take (min 1 t.length - 0)).toArray = (t.take 1).toArray
  rw [List.drop_zero, Nat.sub_zero]
  refine congrArg List.toArray ?_
  cases t with
  | nil => rfl
  | cons a t => rw [Nat.min_eq_left (by rw [List.length_cons]; omega)]
theorem cutR (t : List Nat) (k : Nat) (hk : k ≤ 1) (ht : k ≤ t.length) : cutS (ST.mk t) (some (k : Int)) none = ST.mk (t.drop k) := by
  unfold cutS
  rw [HT.sIx_none, HT.sIx_nat, ST.mk_len, Nat.min_eq_left ht]
  refine congrArg Str.mk ?_
  show ((t.drop k).take (t.length - k)).toArray = (t.drop k).toArray
  rw [List.take_of_length_le (by rw [List.length_drop]; omega)]
theorem head94 (t : List Nat) : decide (V.str (ST.mk (t.take 1)) = V.str (PySem.Str.ofString "^")) = ST.isN t := by
  rw [show PySem.Str.ofString "^" = ST.mk [94] by decide +kernel, Bool.eq_iff_iff, decide_eq_true_eq]
  constructor
  · intro h
    have e := ST.mk_inj (V.str.inj h)
    cases t with
    | nil => cases e
    | cons c r =>
      have : c = 94 := (List.cons.inj e).1
      subst this; rfl
  · intro h
    cases t with
    | nil => cases h
    | cons c r =>
      unfold ST.isN at h
      split at h
      · rename_i hz
        rw [(List.cons.inj hz).1]; rfl
      · cases h
theorem strNe (l : List Nat) : (!decide (V.str (ST.mk l) = V.str (PySem.Str.ofString ""))) = !l.isEmpty := by
  rw [show PySem.Str.ofString "" = ST.mk [] by decide +kernel]
  cases l with
  | nil => rw [decide_eq_true rfl]; rfl
  | cons a l => rw [decide_eq_false fun z => by cases ST.mk_inj (V.str.inj z)]; rfl
def rdD (n : Nat) (t : List Nat) : PyData := match ST.rdT n t with
  | .inl _ => .none
  | .inr rs => .list (msD ((List.range n).filter (rdM t rs)))
section
variable {K : PySem.W.Frag} {σ : L2.St} {H : Hp}
theorem nSplitD {te : TE} {r : List Nat} {rr : V → List V → Hp → VK → Prop} (h : Ev te σ H (.str (ST.mk r))) (hl : r.length ≤ 90000) (hr : rr = fun x xs H Q => ∃ a b, x = .str a ∧ xs = [.str b] ∧ (b.length == 0) = false ∧ a.length + 2 ≤ sizeLine ∧ rNewStrs (Txt.split a b) H Q) :
    EvN K (tM1 rr te (tC (.str (PySem.Str.ofString "-")))) σ H ((ST.pts r).map tD) := fun H1 e Q q => by
  subst hr
  refine h H1 e _ fun H2 e2 => ⟨⟨_, rfl⟩, _, _, rfl, rfl, by decide +kernel, sz_of (by rw [ST.mk_len]; omega), fun p hp => ?_⟩
  have hs : Txt.split (ST.mk r) (PySem.Str.ofString "-") = (ST.pts r).map ST.mk := by
    rw [show PySem.Str.ofString "-" = ST.mk [45] by decide +kernel]
    refine TL.map_tl_inj ?_
    rw [TL.split_spl _ _ (by show ([45] : List Nat) ≠ []; simp) (TL.kind_ok (by decide +kernel)), List.map_map]
    show TL.spl [45] 0 [] r = _
    rw [show (TL.tl ∘ ST.mk) = id from rfl, List.map_id]; rfl
  rw [hs]
  exact q p _ _ (fresh_back e2 hp) (e2.trans (Ex.new hp)) upd_same (allTs _)
/-- t[:1] == '^' -/
theorem caret {t : List Nat} {j : Nat} (h : σ[j]? = some (some (.str (ST.mk t)))) (hl : t.length ≤ 90000) : Ev (tOp rEq (tSl rSlS (tVar j) tNoPart (tPart (tC (.int 1)))) (tC (.str (PySem.Str.ofString "^")))) σ H (.bl (ST.isN t)) := fun H1 e Q q =>
  ⟨.str (ST.mk t), h, 1, rfl, _, rfl, by rw [ST.mk_len]; exact sz_of (by omega), by rw [cut1]; exact ⟨rfl, by rw [head94]; exact q H1 (Ex.refl H1)⟩⟩
end
section
variable {P : Program} {w : World} {K : PySem.W.Frag} {mg : Str → Option Value} {base : Heap}
def RLRead : List PyData → PyData → Prop := fun ds out => ∃ (n : Nat) (t : List Nat), ds = [.int (n : Int), tD t] ∧ n ≤ 64 ∧ t.length ≤ 40000 ∧ out = rdD n t
end

/-! ### _law_is -/
theorem in_num (n : Nat) (w : List Nat) : inV (.str (ST.mk w)) ((((List.range n).map ST.num).map ST.mk).map V.str) = (ST.val n w).isSome := by
  unfold inV ST.val
  rw [List.any_map, List.any_map, List.any_map, Bool.eq_iff_iff, List.any_eq_true, List.find?_isSome]
  constructor
  · rintro ⟨k, hk, h⟩
    refine ⟨k, hk, ?_⟩
    have h' : (ST.mk (ST.num k) == ST.mk w) = true := h
    exact beq_iff_eq.mpr (ST.mk_inj (beq_iff_eq.mp h'))
  · rintro ⟨k, hk, h⟩
    refine ⟨k, hk, ?_⟩
    show (ST.mk (ST.num k) == ST.mk w) = true
    rw [beq_iff_eq.mp h]
    exact beq_self_eq_true _
section
variable {P : Program} {w : World} {K : PySem.W.Frag} {mg : Str → Option Value} {base : Heap}
def RIs : List PyData → PyData → Prop := fun ds out => ∃ (n : Nat) (w : List Nat), ds = [tD w, .int (n : Int)] ∧ n ≤ 64 ∧ out = .bool (ST.val n w).isSome
theorem ok_lis {f : Addr} {fd : FuncData} {k : Nat} (F : Fun K "_law_is" "_law_is" sLawIs f fd) (mS : mg "str" = none) (mr : mg "range" = none) : FnOk P w K mg base CX0 (k + 1) f fd ["_law_word", "_law_size_here"] (spV K RIs) := by
  refine F.ok scLawIs (fun vs H Q E h => ?_) (fun cdv A outer s H vs Q E hr h => ?_)
  · obtain ⟨ds, out, ha, ⟨n, w', rfl, _⟩, _⟩ := h
    exact allLen ha
  · obtain ⟨ds, out, ha, ⟨n, w', rfl, hn, rfl⟩, q⟩ := h
    obtain ⟨x, y, rfl, hx, hy⟩ := all2 ha
    cases dpStr hx
    cases dpInt hy
    have nd := scLawIs.nd
    refine ⟨_, pss_one (ps_ret (pe_cmpR op_in_seq (pv 0) (pe_lc (own := [("_law_number", 2)]) (g := gName 2) (tt := tYes) (te := tCB (fun xs H Q => ∃ i : Int, xs = [.int i] ∧ i.natAbs.log2 < 1920 ∧ Q (.str (toString i)) H) (tCons (tVar 2) tNil)) rfl nd (pi_range1 (by rfl) mr (pa_cons (pv 1) pa_nil)) (blkOk_by (own := [("_law_number", 2)]) (N := nLawIs) (sc := defScope sLawIs) (by decide +kernel))
      (fun _ _ _ _ _ => pg_name (i := 2) nd rfl (Or.inl rfl)) (fun _ _ _ _ _ => pts_nil) (fun _ _ _ _ _ => pe_callTy call_str_int (by rfl) mS (by decide +kernel) (pa_cons (pv 2) pa_nil))) (by rfl))), ?_⟩
    have N := nLc (K := K) (σ := [some (.str (ST.mk w')), some (.int (n : Int)), none]) (H := H) (wi := iRng1 (tCons (tVar 1) tNil)) (g := gName 2) (tt := tYes) (te := tCB (fun xs H Q => ∃ i : Int, xs = [.int i] ∧ i.natAbs.log2 < 1920 ∧ Q (.str (toString i)) H) (tCons (tVar 2) tNil)) (vs := [2]) (n := (n : Int).toNat) (fun _ => true) (fun k => tD (ST.num k)) (by omega) (wkRange1 (ea_cons (ev_var rfl) ea_nil) ⟨by omega, by omega⟩).asN (fun Dl k v H3 hk e3 hd => by
      rw [Int.toNat_natCast] at hk
      cases dpInt hd
      exact ⟨[some (.str (ST.mk w')), some (.int (n : Int)), some (.int (k : Nat))], fun Q q => q, rfl, et_yes, fun _ => (EvD.of (strI (ev_var rfl) (by omega) rfl) (.str _)).x rfl⟩)
    rw [outs_all, Int.toNat_natCast, show (List.range n).map (fun k => tD (ST.num k)) = ((List.range n).map ST.num).map tD by rw [List.map_map]; rfl] at N
    refine ⟨_, rfl, N H (Ex.refl H) _ fun p xs H1 hp e1 h1 A1 => ?_⟩
    have hx := strsAllT A1
    refine ⟨p, xs, rfl, .inl (sq_of h1), rfl, ?_, ?_⟩
    · rw [hx, List.all_map]; exact List.all_eq_true.mpr fun _ _ => rfl
    · refine q _ H1 e1 ?_
      rw [hx]
      show Dp K H1 (.bl (inV (.str (ST.mk w')) _)) _
      rw [in_num]; exact .bl _
end

/-! ### _law_due -/
theorem spl_sub (S : List Nat) : ∀ (l acc : List Nat) (k : Nat), ∀ p ∈ TL.spl S k acc l, ∀ c ∈ p, c ∈ acc ∨ c ∈ l
  | [], acc, k, p, h, c, hc => by
    rw [TL.spl_nil] at h
    rw [List.mem_singleton.mp h] at hc; exact .inl hc
  | a :: r, acc, 0, p, h, c, hc => by
    unfold TL.spl at h
    by_cases e : TL.pre S (a :: r) = true
    · rw [if_pos e] at h
      rcases List.mem_cons.mp h with z | z
      · rw [z] at hc; exact .inl hc
      · rcases spl_sub S r [] _ p z c hc with y | y
        · cases y
        · exact .inr (List.mem_cons_of_mem _ y)
    · rw [if_neg e] at h
      rcases spl_sub S r (acc ++ [a]) 0 p h c hc with y | y
      · rcases List.mem_append.mp y with y | y
        · exact .inl y
        · rw [List.mem_singleton.mp y]; exact .inr List.mem_cons_self
      · exact .inr (List.mem_cons_of_mem _ y)
  | a :: r, acc, k + 1, p, h, c, hc => by
    unfold TL.spl at h
    rcases spl_sub S r acc k p h c hc with y | y
    · exact .inl y
    · exact .inr (List.mem_cons_of_mem _ y)
/-- signs that a text may have -/
def Asc (t : List Nat) : Prop := ∀ c ∈ t, c < 1000
theorem Asc.ok {t : List Nat} (h : Asc t) : PyData.strOk (ST.mk t) = true := by
  unfold PyData.strOk
  show (t.toArray.all fun c => decide (c < 0x110000)) = true
  rw [List.all_toArray]
  exact List.all_eq_true.mpr fun c hc => decide_eq_true (Nat.lt_trans (h c hc) (by decide))
theorem Asc.rest {t : List Nat} (h : Asc t) : Asc (ST.rest t) := by
  unfold ST.rest
  split
  · exact fun c hc => h c (List.mem_of_mem_tail hc)
  · exact h
theorem Asc.itm {t w : List Nat} (h : Asc t) (hw : w ∈ ST.itm t) : Asc w := by
  unfold ST.itm at hw
  split at hw
  · cases hw
  · intro c hc
    rcases spl_sub _ _ _ _ w hw c hc with z | z
    · cases z
    · exact h.rest c z
theorem Asc.pts {w p : List Nat} (h : Asc w) (hp : p ∈ ST.pts w) : Asc p := by
  intro c hc
  rcases spl_sub _ _ _ _ p hp c hc with z | z
  · cases z
  · exact h c z
theorem int_num : ∀ k : Fin 100, PySem.intText? (ST.mk (ST.num k.val)) = some (k.val : Int) := by decide +kernel
theorem evIntT {σ : L2.St} {H : Hp} {te : TE} {x : Nat} {r : List V → Hp → VK → Prop} (h : Ev te σ H (.str (ST.mk (ST.num x)))) (hx : x < 100) (hr : r = (fun xs H Q => ∃ a n, xs = [.str a] ∧ PySem.intText? a = some n ∧ a.length ≤ 640 ∧ Q (.int n) H)) : Ev (tCB r (tCons te tNil)) σ H (.int (x : Int)) := fun H1 e Q q => by
  subst hr
  exact h H1 e _ fun H2 e2 => ⟨_, _, rfl, int_num ⟨x, hx⟩, by rw [ST.mk_len]; have := (ST.num_len x).1; omega, q H2 e2⟩
theorem strs_shaped : ∀ {ws : List (List Nat)}, (∀ w ∈ ws, Asc w) → SeqAt.shaped (.list (ws.map tD)) = true := fun {ws} h => by
  have h1 : ∀ l : List (List Nat), (∀ w ∈ l, Asc w) → PyData.canLayAll0 (l.map tD) = true ∧ PyData.depthAll (l.map tD) ≤ 1 := by
    intro l
    induction l with
    | nil => intro _; exact ⟨rfl, Nat.zero_le _⟩
    | cons w l ih =>
      intro hl
      obtain ⟨i1, i2⟩ := ih fun z hz => hl z (List.mem_cons_of_mem _ hz)
      refine ⟨?_, ?_⟩
      · show (PyData.strOk (ST.mk w) && PyData.canLayAll0 (l.map tD)) = true
        rw [(hl w List.mem_cons_self).ok, i1]; rfl
      · show max (PyData.depth (tD w)) (PyData.depthAll (l.map tD)) ≤ 1
        have : PyData.depth (tD w) = 0 := rfl
        omega
  obtain ⟨a, b⟩ := h1 ws h
  unfold SeqAt.shaped
  rw [Bool.and_eq_true]
  refine ⟨a, decide_eq_true ?_⟩
  show PyData.depthAll (ws.map tD) + 1 ≤ 64
  omega
theorem strs_eqv : ∀ ws : List (List Nat), PyData.eqv (.list (ws.map tD)) (.list []) = ws.isEmpty
  | [] => eqvSame (d := .list []) rfl
  | w :: ws => by
    show PyData.eqv (.list (tD w :: ws.map tD)) (.list []) = false
    rfl
theorem rdI_good {n : Nat} (hn : n ≤ 100) (w : List Nat) :
    (∃ x y, x < n ∧ y < n ∧ ((ST.pts w = [ST.num x] ∧ x = y ∧ ST.rdI n w = some (x, y)) ∨ (ST.pts w = [ST.num x, ST.num y] ∧ ST.rdI n w = if x < y then some (x, y) else none))) ∨
    (ST.rdI n w = none ∧ ((2 < (ST.pts w).length) ∨ ((ST.pts w).length ≤ 2 ∧ ((ST.pts w).filter fun p => !(ST.val n p).isSome).isEmpty = false))) := by
  rcases ST.rdI_parts hn w with ⟨a, x, hp, hv, hI⟩ | ⟨a, b, x, y, hp, hv, hv', hI⟩ | ⟨hI, hbad⟩
  · obtain ⟨h1, h2⟩ := ST.val_some hv
    exact .inl ⟨x, x, h1, h1, .inl ⟨by rw [hp, h2], rfl, hI⟩⟩
  · obtain ⟨h1, h2⟩ := ST.val_some hv
    obtain ⟨h3, h4⟩ := ST.val_some hv'
    exact .inl ⟨x, y, h1, h3, .inr ⟨by rw [hp, h2, h4], hI⟩⟩
  · refine .inr ⟨hI, ?_⟩
    rcases hbad with hb | ⟨hb, a, ha, hv⟩
    · exact .inl hb
    · refine .inr ⟨hb, ?_⟩
      cases c : (ST.pts w).filter fun p => !(ST.val n p).isSome with
      | nil =>
        have : a ∈ (ST.pts w).filter fun p => !(ST.val n p).isSome := List.mem_filter.mpr ⟨ha, by rw [hv]; rfl⟩
        rw [c] at this; cases this
      | cons _ _ => rfl
theorem filt_one {n x : Nat} (hn : n ≤ 100) (h : x < n) : ([ST.num x].filter fun p => !(ST.val n p).isSome).isEmpty = true := by
  rw [List.filter_cons, ST.val_num h hn]; rfl
theorem filt_two {n x y : Nat} (hn : n ≤ 100) (h : x < n) (h' : y < n) : ([ST.num x, ST.num y].filter fun p => !(ST.val n p).isSome).isEmpty = true := by
  rw [List.filter_cons, ST.val_num h hn, List.filter_cons, ST.val_num h' hn]; rfl
def dueD (n : Nat) (t : List Nat) : PyData := match ST.rdT n t with
  | .inl p => .int (p : Int)
  | .inr rs => .list ((told (rdM t rs) n).map rD)
section
variable {P : Program} {w : World} {K : PySem.W.Frag} {mg : Str → Option Value} {base : Heap}
def RDue : List PyData → PyData → Prop := fun ds out => ∃ (n : Nat) (t : List Nat), ds = [.int (n : Int), tD t] ∧ n ≤ 64 ∧ t.length ≤ 40000 ∧ Asc t ∧ out = dueD n t
theorem ok_ldue {f f1 f2 f3 : Addr} {fd fd1 fd2 fd3 : FuncData} {k : Nat} (F : Fun K "_law_due" "_law_due" sLawDue f fd)
    (F1 : FnOk P w K mg base CX0 (k + 1) f1 fd1 ["_law_word", "_law_size_here"] (spV K RIs)) (g1 : mg "_law_is" = some (.ref f1)) (k1 : PySem.W.keepIn K (.ref f1) = true) (b1 : Binds K fd1 ["_law_word", "_law_size_here"] [])
    (F2 : FnOk P w K mg base CX0 (k + 1) f2 fd2 ["_law_size_here", "_law_numbers"] (spN K ROth)) (g2 : mg "_law_others" = some (.ref f2)) (k2 : PySem.W.keepIn K (.ref f2) = true) (b2 : Binds K fd2 ["_law_size_here", "_law_numbers"] [])
    (F3 : FnOk P w K mg base CX0 (k + 1) f3 fd3 ["_law_numbers"] (spN K RTold)) (g3 : mg "_law_told" = some (.ref f3)) (k3 : PySem.W.keepIn K (.ref f3) = true) (b3 : Binds K fd3 ["_law_numbers"] [])
    (mI : mg "int" = none) (ml : mg "len" = none) (mL : mg "list" = none) (mr : mg "range" = none) : FnOk P w K mg base CX0 (k + 2) f fd ["_law_size_here", "_law_text_here"] (spV K RDue) := by
  refine F.ok scLawDue (fun vs H Q E h => ?_) (fun cdv A outer s H vs Q E hr h => ?_)
  · obtain ⟨ds, out, ha, ⟨n, t, rfl, _⟩, _⟩ := h
    exact allLen ha
  · obtain ⟨ds, out, ha, ⟨n, t, rfl, hn, hl, hA, rfl⟩, q⟩ := h
    obtain ⟨x, y, rfl, hx, hy⟩ := all2 ha
    cases dpInt hx
    cases dpStr hy
    have nd := scLawDue.nd
    refine ⟨_, pss_cons (ps_set (i := 2) nd rfl (.inl rfl) (pe_slice sl_str (pv 1) (po_some (pe_callTy call_int1 (by rfl) mI (by decide +kernel) (pa_cons (pe_cmpR op_eq (pe_slice sl_str (pv 1) po_none (po_some pe_int)) pe_str (nomark _)) pa_nil))) po_none))
      (pss_cons (ps_set (i := 3) nd rfl (.inl rfl) (pe_ifExp (pt_cmpR op_ne (pv 2) pe_str (nomark _)) (pe_split (pv 2) pe_str) (pe_lst pa_nil)))
      (pss_cons (ps_set (i := 4) nd rfl (.inl rfl) (pe_lst pa_nil))
      (pss_cons (ps_set (i := 5) nd rfl (.inl rfl) (pe_un un_neg pe_int))
      (pss_cons (ps_for PassesOwn.never rfl (pi_range1 (by rfl) mr (pa_cons (pe_callB call_len_seq (by rfl) ml PySem.boot_len (pa_cons (pv 3) pa_nil)) pa_nil)) (pg_name (i := 6) nd rfl (.inl rfl))
        (pss_cons (ps_set (i := 7) nd rfl (.inl rfl) (pe_split (pe_ix ix_list (pv 3) (pv 6) (fun _ _ => rfl)) pe_str))
        (pss_cons (ps_if (PW.pt (pw_or (pt_cmpR op_gt (pe_callB call_len_seq (by rfl) ml PySem.boot_len (pa_cons (pv 7) pa_nil)) pe_int (nomark _)) (pw_or1 (pt_cmpR (op_neD hr.units) (pe_lc (own := [("_law_part", 8)]) (g := gName 8) (tt := tNot (tB (tCall (spV K RIs) [] E0 (tCons (tVar 8) (tCons (tVar 0) tNil))))) (te := tVar 8) rfl nd (pi_list (pv 7)) (blkOk_by (own := [("_law_part", 8)]) (N := nLawDue) (sc := defScope sLawDue) (by decide +kernel))
          (fun _ _ _ _ _ => pg_name (i := 8) nd rfl (Or.inl rfl)) (fun _ _ _ _ _ => pts_one (pt_not (pt_val (pe_call F1 hr (by rfl) g1 k1 b1 .nil pass0 (pa_cons (pv 8) (pa_cons (pv 0) pa_nil)))))) (fun _ _ _ _ _ => pv 8)) (pe_lst pa_nil) (nomark _))))) (pss_one (ps_ret (pv 6))) pss_nil)
        (pss_cons (ps_if (PW.pt (pw_or (pt_cmpR op_le (pe_callTy call_int_str (by rfl) mI (by decide +kernel) (pa_cons (pe_ix ix_list (pv 7) pe_int (fun _ _ => rfl)) pa_nil)) (pv 5) (nomark _)) (pw_or1 (PW.pt (pw_and (pt_cmpR op_eq (pe_callB call_len_seq (by rfl) ml PySem.boot_len (pa_cons (pv 7) pa_nil)) pe_int (nomark _)) (pw_and1 (pt_cmpR op_ge (pe_callTy call_int_str (by rfl) mI (by decide +kernel) (pa_cons (pe_ix ix_list (pv 7) pe_int (fun _ _ => rfl)) pa_nil)) (pe_callTy call_int_str (by rfl) mI (by decide +kernel) (pa_cons (pe_ix ix_list (pv 7) pe_int (fun _ _ => rfl)) pa_nil)) (nomark _)))))))) (pss_one (ps_ret (pv 6))) pss_nil)
        (pss_cons (ps_set (i := 5) nd rfl (.inl rfl) (pe_callTy call_int_str (by rfl) mI (by decide +kernel) (pa_cons (pe_ix ix_list (pv 7) (pe_un un_neg pe_int) (fun _ _ => rfl)) pa_nil)))
        (pss_one (ps_set (i := 4) nd rfl (.inl rfl) (pe_op op_cat (pv 4) (pe_listRg rfl (by rfl) mL (prg_2 (by rfl) mr (pe_callTy call_int_str (by rfl) mI (by decide +kernel) (pa_cons (pe_ix ix_list (pv 7) pe_int (fun _ _ => rfl)) pa_nil)) (pe_op op_add (pv 5) pe_int)))))))))))
      (pss_one (ps_ret (pe_call F3 hr (by rfl) g3 k3 b3 .nil pass0 (pa_cons (pe_ifExp (pt_cmpR op_eq (pe_slice sl_str (pv 1) po_none (po_some pe_int)) pe_str (nomark _)) (pe_call F2 hr (by rfl) g2 k2 b2 .nil pass0 (pa_cons (pv 0) (pa_cons (pv 4) pa_nil))) (pv 4)) pa_nil)))))))), ?_⟩
    have rl := rest_len t
    have restE : Ev (tSl rSlS (tVar 1) (tPart (tCB (fun xs H Q => (∃ i, xs = [.int i] ∧ Q (.int i) H) ∨ ∃ k, xs = [.bl k] ∧ Q (.int (if k then 1 else 0)) H) (tCons (tOp rEq (tSl rSlS (tVar 1) tNoPart (tPart (tC (.int 1)))) (tC (.str (PySem.Str.ofString "^")))) tNil))) tNoPart) [some (.int (n : Int)), some (.str (ST.mk t)), none, none, none, none, none, none, none] H (.str (ST.mk (ST.rest t))) := fun H1 e Q' q' => by
      refine ⟨.str (ST.mk t), rfl, caret (j := 1) (σ := [some (.int (n : Int)), some (.str (ST.mk t)), none, none, none, none, none, none, none]) rfl (by omega) H1 (Ex.refl H1) _ fun H2 e2 => .inr ⟨ST.isN t, rfl, _, rfl, _, rfl, by rw [ST.mk_len]; exact sz_of (by omega), ?_⟩⟩
      unfold ST.rest at q'
      cases c : ST.isN t with
      | true =>
        rw [c, if_pos rfl] at q'
        have := isN_len c
        show Q' (.str (cutS (ST.mk t) (some ((1 : Nat) : Int)) none)) H2
        rw [cutR t 1 (by decide) this, List.drop_one]
        exact q' H2 e2
      | false =>
        rw [c, if_neg (by decide)] at q'
        show Q' (.str (cutS (ST.mk t) (some ((0 : Nat) : Int)) none)) H2
        rw [cutR t 0 (by decide) (Nat.zero_le _), List.drop_zero]
        exact q' H2 e2
    refine s_asg restE fun H1 e1 => ?_
    have itemsE : EvN K (tIf (tTest (tOp rNe (tVar 2) (tC (.str (PySem.Str.ofString ""))))) (tM1 (fun x xs H Q => ∃ a b, x = .str a ∧ xs = [.str b] ∧ (b.length == 0) = false ∧ a.length + 2 ≤ sizeLine ∧ rNewStrs (Txt.split a b) H Q) (tVar 2) (tC (.str (PySem.Str.ofString ",")))) (tLst tNil)) [some (.int (n : Int)), some (.str (ST.mk t)), some (.str (ST.mk (ST.rest t))), none, none, none, none, none, none] H1 ((ST.itm t).map tD) := by
      refine nIf (b := !(ST.rest t).isEmpty) (et_is (et_test (ev_op (ev_var rfl) ev_c (rv_ne rfl))) (strNe _)) (fun hb => ?_) (fun hb => ?_)
      · have z : ¬ ST.rest t = [] := fun z => by rw [z] at hb; cases hb
        unfold ST.itm
        rw [if_neg z]
        exact nSplit (ev_var rfl) (by omega) rfl
      · have z : ST.rest t = [] := List.isEmpty_iff.mp (by simpa using hb)
        unfold ST.itm
        rw [if_pos z]
        exact nLst daNil (Nat.zero_le _)
    have hws : ∀ w ∈ ST.itm t, w.length ≤ 40000 := fun w hw => by
      unfold ST.itm at hw
      by_cases z : ST.rest t = []
      · rw [if_pos z] at hw; simp at hw
      · rw [if_neg z] at hw
        have := spl_len1 [44] (ST.rest t) [] 0 w hw
        rw [List.length_nil] at this
        omega
    have hwn : (ST.itm t).length ≤ 40001 := by
      unfold ST.itm
      split
      · exact Nat.zero_le _
      · have := spl_cnt [44] (ST.rest t) [] 0
        omega
    have hwA : ∀ w ∈ ST.itm t, Asc w := fun w hw => hA.itm hw
    obtain ⟨ws, hws'⟩ : ∃ ws, ws = ST.itm t := ⟨_, rfl⟩
    rw [← hws'] at itemsE hws hwn hwA
    have hRD : ST.rdT n t = ST.rdG n 0 0 ws := by rw [hws']; rfl
    refine sAsgN itemsE fun p3 x3 H1' hp3 e1' h3 A3 => ?_
    have hx3 := strsAllT A3
    have E1 := e1.trans e1'
    refine ⟨Nat.zero_le _, fun l0 hl0 => ⟨1, rfl, ?_⟩⟩
    have e2 := E1.trans (Ex.new (o := .lst []) hl0)
    have h2l : (upd H1' l0 (.lst [])) l0 = some (.lst []) := upd_same
    have h23 : (upd H1' l0 (.lst [])) p3 = some (.lst x3) := Ex.new hl0 p3 _ h3
    generalize upd H1' l0 (.lst []) = H2 at e2 h2l h23 ⊢
    have len3 : x3.length = ws.length := by rw [hx3, List.length_map, List.length_map]
    have hW : WkE K (iRng1 (tCons (tCB (rLenS K) (tCons (tVar 3) tNil)) tNil)) [some (.int (n : Int)), some (.str (ST.mk t)), some (.str (ST.mk (ST.rest t))), some (.ref p3), some (.ref l0), some (.int (-1)), none, none, none] H2 (x3.length : Int).toNat (fun i => .int (i : Nat)) := wkRange1 (ea_cons (ev_len (ev_var rfl) (sq_of h23)) ea_nil) ⟨by omega, by omega⟩
    rw [Int.toNat_natCast, len3] at hW
    refine sFor (K := K) (Ex.refl H2) hW (fun i σ' H' => Ex H2 H' ∧ ∃ (rs : List (Nat × Nat)) (lo : Nat) (l : Addr) (b6 b7 : Option V), H' l = some (.lst ((cat rs).map V.int)) ∧ (∀ r ∈ rs, r.1 ≤ r.2 ∧ r.2 < n) ∧ rs.length ≤ 64 ∧ rs.length ≤ lo ∧ lo ≤ n ∧ comb rs (ST.rdG n i lo (ws.drop i)) = ST.rdG n 0 0 ws ∧ σ' = [some (.int (n : Int)), some (.str (ST.mk t)), some (.str (ST.mk (ST.rest t))), some (.ref p3), some (.ref l), some (.int ((lo : Int) - 1)), b6, b7, none])
      (fun B e => ⟨e, [], 0, l0, none, none, e l0 _ h2l, fun _ h => absurd h List.not_mem_nil, Nat.zero_le _, Nat.zero_le _, Nat.zero_le _, by rw [List.drop_zero]; cases ST.rdG n 0 0 ws <;> rfl, rfl⟩) (fun i σ' H' _ p => p.1) (fun i x σ' H' H3 hi p e hd => ?_) (fun σ' H' p => ?_)
    · obtain ⟨e0, rs, lo, l, b6, b7, kl, kr, krl, krlo, klo, kc, rfl⟩ := p
      cases dpInt hd
      rw [List.drop_eq_getElem_cons hi] at kc
      have hwl := hws ws[i] (List.getElem_mem hi)
      have hwa := hwA ws[i] (List.getElem_mem hi)
      have hix : x3[i]? = some (.str (ST.mk ws[i])) := by rw [hx3, List.getElem?_map, List.getElem?_map, List.getElem?_eq_getElem hi]; rfl
      generalize ws[i] = w1 at hix kc hwl hwa
      have eH3 : Ex H H3 := e2.trans (e0.trans e)
      have h33 : H3 p3 = some (.lst x3) := (e0.trans e) p3 _ h23
      have hpl : (ST.pts w1).length ≤ 40001 := by have := spl_cnt [45] w1 [] 0; unfold ST.pts; omega
      refine sAsgN (K := K) (nSplitD (ev_op (ev_var (i := 3) (v := .ref p3) rfl) (ev_var (i := 6) (v := .int (i : Int)) rfl) (rv_ixL (sq_of h33) (atI_nat hix))) (by omega) rfl) fun p7 x7 H4 hp7 e4 h4 A4 => ?_
      have hx7 := strsAllT A4
      have len7 : x7.length = (ST.pts w1).length := by rw [hx7, List.length_map, List.length_map]
      have LEN : ∀ {G : Hp}, Ex H4 G → Ev (tCB (rLenS K) (tCons (tVar 7) tNil)) [some (.int (n : Int)), some (.str (ST.mk t)), some (.str (ST.mk (ST.rest t))), some (.ref p3), some (.ref l), some (.int ((lo : Int) - 1)), some (.int (i : Int)), some (.ref p7), none] G (.int (x7.length : Int)) := fun e => ev_len (ev_var rfl) (sq_of (e p7 _ h4))
      have IX : ∀ {G : Hp} (j x : Nat), Ex H4 G → x < n → (ST.pts w1)[j]? = some (ST.num x) → Ev (tCB (fun xs H Q => ∃ a n, xs = [.str a] ∧ PySem.intText? a = some n ∧ a.length ≤ 640 ∧ Q (.int n) H) (tCons (tOp (rIxL K) (tVar 7) (tC (.int (j : Int)))) tNil)) [some (.int (n : Int)), some (.str (ST.mk t)), some (.str (ST.mk (ST.rest t))), some (.ref p3), some (.ref l), some (.int ((lo : Int) - 1)), some (.int (i : Int)), some (.ref p7), none] G (.int (x : Int)) := fun {G} j x eG hx h => evIntT (ev_op (ev_var rfl) ev_c (rv_ixL (sq_of (eG p7 _ h4)) (atI_nat (by rw [hx7, List.getElem?_map, List.getElem?_map, h]; rfl)))) (by omega) rfl
      have FIL : (ST.pts w1).length ≤ 2 → Ev (tOp (rNeD K) (tLc (iList K (tVar 7)) (gName 8) (tNot (tB (tCall (spV K RIs) [] E0 (tCons (tVar 8) (tCons (tVar 0) tNil))))) (tVar 8) [8]) (tLst tNil)) [some (.int (n : Int)), some (.str (ST.mk t)), some (.str (ST.mk (ST.rest t))), some (.ref p3), some (.ref l), some (.int ((lo : Int) - 1)), some (.int (i : Int)), some (.ref p7), none] H4 (.bl (!((ST.pts w1).filter fun p => !(ST.val n p).isSome).isEmpty)) := fun hl2 => by
        have N := nLc (K := K) (σ := [some (.int (n : Int)), some (.str (ST.mk t)), some (.str (ST.mk (ST.rest t))), some (.ref p3), some (.ref l), some (.int ((lo : Int) - 1)), some (.int (i : Int)), some (.ref p7), none]) (H := H4) (wi := iList K (tVar 7)) (g := gName 8) (tt := tNot (tB (tCall (spV K RIs) [] E0 (tCons (tVar 8) (tCons (tVar 0) tNil))))) (te := tVar 8) (vs := [8]) (fun j => !(ST.val n ((ST.pts w1).getD j [])).isSome) (fun j => tD ((ST.pts w1).getD j [])) (by rw [List.length_map]; omega) (wkNew (dVar (v := .ref p7) rfl (.lst (sq_of h4) A4))) (fun Dl j v H5 hj e5 hd => by
          rw [List.length_map] at hj
          rw [getD_map tD (List.getElem?_eq_getElem hj)] at hd
          rw [getD_at [] hj]
          refine ⟨[some (.int (n : Int)), some (.str (ST.mk t)), some (.str (ST.mk (ST.rest t))), some (.ref p3), some (.ref l), some (.int ((lo : Int) - 1)), some (.int (i : Int)), some (.ref p7), some v], fun Q q => q, rfl, et_not (et_B (vCall (R := RIs) (E := E0) (da2 (dVar (v := v) rfl hd) (dVar (v := .int (n : Int)) rfl (.int _))) ⟨n, _, rfl, hn, rfl⟩).bl), fun _ => EvD.x (dVar (v := v) rfl hd) rfl⟩)
        have eo : outs ((ST.pts w1).map tD).length (fun j => !(ST.val n ((ST.pts w1).getD j [])).isSome) (fun j => tD ((ST.pts w1).getD j [])) = ((ST.pts w1).filter fun p => !(ST.val n p).isSome).map tD := by
          rw [List.length_map]
          exact outs_gen (fun p => !(ST.val n p).isSome) tD [] (ST.pts w1)
        rw [eo] at N
        refine ev_is (neD N.asD (nLst (K := K) daNil (Nat.zero_le _)).asD (strs_shaped fun w hw => hwa.pts (List.mem_filter.mp hw).1) rfl) ?_
        rw [strs_eqv]
      have bad : (∀ r, ST.rdI n w1 = some r → r.1 < lo) → dueD n t = .int (i : Int) := fun h => by
        have := kc
        rw [comb_bad rs h] at this
        unfold dueD
        rw [hRD, ← this]
      have no : ∀ {G : Hp} {D : Ends}, Ex H4 G → D.rt = Q → (∀ r, ST.rdI n w1 = some r → r.1 < lo) → tRet (tVar 6) D [some (.int (n : Int)), some (.str (ST.mk t)), some (.str (ST.mk (ST.rest t))), some (.ref p3), some (.ref l), some (.int ((lo : Int) - 1)), some (.int (i : Int)), some (.ref p7), none] G := fun {G D} eG hD h => by
        refine s_ret (ev_var (v := .int (i : Int)) rfl) fun G2 e2' => ?_
        rw [hD]
        refine q _ G2 (((eH3.trans e4).trans eG).trans e2') ?_
        rw [bad h]; exact .int _
      rcases rdI_good (n := n) (by omega) w1 with ⟨x, y, hxn, hyn, hc⟩ | ⟨hI, hbad⟩
      · have hl2 : (ST.pts w1).length ≤ 2 ∧ ((ST.pts w1).filter fun p => !(ST.val n p).isSome).isEmpty = true ∧ (ST.pts w1)[0]? = some (ST.num x) ∧ atI x7 (-1) = some (.str (ST.mk (ST.num y))) := by
          rcases hc with ⟨hp, rfl, _⟩ | ⟨hp, _⟩
          · rw [hx7, hp]
            exact ⟨by show 1 ≤ 2; decide, filt_one (by omega) hxn, rfl, rfl⟩
          · rw [hx7, hp]
            exact ⟨by show 2 ≤ 2; decide, filt_two (by omega) hxn hyn, rfl, rfl⟩
        obtain ⟨hl2, hfil, hix0, hixl⟩ := hl2
        refine q_when (b := false) (et_is (et_or (a := false) (b := false) (et_is (et_test (ev_op (LEN (Ex.refl _)) ev_c rv_I0)) (decide_eq_false (by omega))) fun _ => et_is (et_test (FIL hl2)) (by rw [hfil]; rfl)) rfl) (fun z => nomatch z) (fun _ G g => ?_)
        have LT : EvT (tOr (tTest (tOp (rI0 fun i j => V.bl (decide (i ≤ j))) (tCB (fun xs H Q => ∃ a n, xs = [.str a] ∧ PySem.intText? a = some n ∧ a.length ≤ 640 ∧ Q (.int n) H) (tCons (tOp (rIxL K) (tVar 7) (tC (.int 0))) tNil)) (tVar 5))) (tAnd (tTest (tOp rEq (tCB (rLenS K) (tCons (tVar 7) tNil)) (tC (.int 2)))) (tTest (tOp (rI0 fun i j => V.bl (decide (j ≤ i))) (tCB (fun xs H Q => ∃ a n, xs = [.str a] ∧ PySem.intText? a = some n ∧ a.length ≤ 640 ∧ Q (.int n) H) (tCons (tOp (rIxL K) (tVar 7) (tC (.int 0))) tNil)) (tCB (fun xs H Q => ∃ a n, xs = [.str a] ∧ PySem.intText? a = some n ∧ a.length ≤ 640 ∧ Q (.int n) H) (tCons (tOp (rIxL K) (tVar 7) (tC (.int 1))) tNil)))))) [some (.int (n : Int)), some (.str (ST.mk t)), some (.str (ST.mk (ST.rest t))), some (.ref p3), some (.ref l), some (.int ((lo : Int) - 1)), some (.int (i : Int)), some (.ref p7), none] G (decide (x < lo) || (decide ((ST.pts w1).length = 2) && decide (y ≤ x))) := by
          refine et_or (a := decide (x < lo)) (b := decide ((ST.pts w1).length = 2) && decide (y ≤ x)) (et_is (et_test (ev_op (IX 0 x g hxn hix0) (ev_var rfl) rv_I0)) (decide_eq_decide.mpr (by omega))) fun _ => et_and (a := decide ((ST.pts w1).length = 2)) (b := decide (y ≤ x)) (et_is (et_test (ev_op (LEN g) ev_c (rv_eq rfl))) ?_) fun h2 => ?_
          · rw [len7]
            exact decide_eq_decide.mpr ⟨fun h => by have := V.int.inj h; omega, fun h => by rw [h]; rfl⟩
          · have hp1 : (ST.pts w1)[1]? = some (ST.num y) := by
              rcases hc with ⟨hp, _, _⟩ | ⟨hp, _⟩
              · rw [hp] at h2; cases h2
              · rw [hp]; rfl
            exact et_is (et_test (ev_op (IX 0 x g hxn hix0) (IX 1 y g hyn hp1) rv_I0)) (decide_eq_decide.mpr (by omega))
        refine q_when LT (fun hb G2 g2 => no (g.trans g2) rfl fun r hr => ?_) (fun hb G2 g2 => ?_)
        · rcases hc with ⟨hp, rfl, hI⟩ | ⟨hp, hI⟩
          · rw [hI] at hr; cases hr
            rw [hp] at hb
            simpa using hb
          · rw [hI] at hr
            by_cases c2 : x < y
            · rw [if_pos c2] at hr; cases hr
              rw [hp] at hb
              have : ¬ y ≤ x := by omega
              simpa [this] using hb
            · rw [if_neg c2] at hr; cases hr
        · rw [Bool.or_eq_false_iff] at hb
          have c : ¬ x < lo := of_decide_eq_false hb.1
          have hI : ST.rdI n w1 = some (x, y) := by
            rcases hc with ⟨hp, _, hI⟩ | ⟨hp, hI⟩
            · exact hI
            · have h2 := hb.2
              rw [hp, show decide ([ST.num x, ST.num y].length = 2) = true from rfl, Bool.true_and] at h2
              have : ¬ y ≤ x := of_decide_eq_false h2
              rw [hI, if_pos (by omega)]
          have hg := g.trans g2
          have kc' := kc
          rw [comb_step rs hI c] at kc'
          refine s_asg (v := .int (y : Int)) (evIntT (ev_op (ev_var rfl) (ev_un ev_c ru_neg) (rv_ixL (sq_of (hg p7 _ h4)) hixl)) (by omega) rfl) fun G1 g1 => ?_
          have hl1 : G1 l = some (.lst ((cat rs).map V.int)) := (hg.trans g1) l _ (e4 l _ (e l _ kl))
          have h61 : G1 p7 = some (.lst x7) := (hg.trans g1) p7 _ h4
          have hr' := ST.rdI_le hI
          have hb1 : x ≤ y := hr'.1
          have gl : (cat rs).length ≤ 64 * 64 := by
            have z1 := cat_len (n := n) (rs := rs) kr
            have z3 : rs.length * n ≤ 64 * 64 := Nat.mul_le_mul krl hn
            omega
          have ix0 : x7[0]? = some (.str (ST.mk (ST.num x))) := by rw [hx7, List.getElem?_map, List.getElem?_map, hix0]; rfl
          refine ⟨.ref l, rfl, .ref p7, rfl, p7, x7, 0, .str (ST.mk (ST.num x)), rfl, rfl, sq_of h61, atI_nat (j := 0) ix0, _, _, rfl, int_num ⟨x, by omega⟩, by rw [ST.mk_len]; have := (ST.num_len x).1; omega, .int (y : Int), rfl, (y : Int), 1, rfl, rfl, (x : Int), (y : Int) + 1, rfl, rfl, RgOk.of_le (by omega) (by omega) (by omega) (by omega), fun c hc => ?_⟩
          refine ⟨l, c, _, _, rfl, rfl, by rw [upd_ne (ne_of_none hl1 hc)]; exact hl1, upd_same, sz_of ?_, fun p hp => ?_⟩
          · rw [rgV_length, List.length_map]; omega
          · refine ⟨(((e0.trans e).trans e4).trans (hg.trans g1)).trans ((Ex.new hc).trans (Ex.new hp)), rs ++ [(x, y)], y + 1, p, some (.int (i : Int)), some (.ref p7), ?_, ?_, ?_, ?_, ?_, kc', ?_⟩
            · rw [upd_same]
              refine congrArg (fun z => some (HO.lst z)) ?_
              unfold cat rgV
              rw [List.flatMap_append, List.map_append, List.flatMap_cons, List.flatMap_nil, List.append_nil, List.map_map, show ((y : Int) + 1 - (x : Int)).toNat = y + 1 - x by omega]
              rfl
            · intro z hz
              rcases List.mem_append.mp hz with y | y
              · exact kr z y
              · rw [List.mem_singleton.mp y]; exact hr'
            · rw [List.length_append, List.length_singleton]; omega
            · rw [List.length_append, List.length_singleton]; omega
            · omega
            · show (_ : L2.St) = [some (.int (n : Int)), some (.str (ST.mk t)), some (.str (ST.mk (ST.rest t))), some (.ref p3), some (.ref p), some (.int (((y + 1 : Nat) : Int) - 1)), some (.int (i : Int)), some (.ref p7), none]
              rw [show ((y + 1 : Nat) : Int) - 1 = (y : Int) by omega]; rfl
      · have nor : ∀ r, ST.rdI n w1 = some r → r.1 < lo := fun r hr => by rw [hI] at hr; cases hr
        rcases hbad with hb | ⟨hb, hf⟩
        · exact q_when (b := true) (et_is (et_or (a := true) (b := false) (et_is (et_test (ev_op (LEN (Ex.refl _)) ev_c rv_I0)) (decide_eq_true (by omega))) fun z => nomatch z) rfl) (fun _ G g => no g rfl nor) (fun z => nomatch z)
        · exact q_when (b := true) (et_is (et_or (a := false) (b := true) (et_is (et_test (ev_op (LEN (Ex.refl _)) ev_c rv_I0)) (decide_eq_false (by omega))) fun _ => et_is (et_test (FIL hb)) (by rw [hf]; rfl)) rfl) (fun _ G g => no g rfl nor) (fun z => nomatch z)
    · obtain ⟨e0, rs, lo, l, b6, b7, kl, kr, krl, krlo, klo, kc, rfl⟩ := p
      rw [List.drop_length] at kc
      have hr' : ST.rdG n 0 0 ws = .inr rs := by
        rw [← kc]
        show Sum.inr (rs ++ []) = Sum.inr rs
        rw [List.append_nil]
      have ec := ST.cat_filt hr'
      have dF : Dp K H' (.ref l) (.list (msD ((List.range n).filter (memB rs)))) := by
        refine .lst (sq_of kl) ?_
        rw [msD_int, ← ec]
        exact allOfInts _
      have eHB : Ex H H' := e2.trans e0
      have eo : dueD n t = .list ((told (rdM t rs) n).map rD) := by
        unfold dueD
        rw [hRD, hr']
      have EV : EvD K (tIf (tTest (tOp rEq (tSl rSlS (tVar 1) tNoPart (tPart (tC (.int 1)))) (tC (.str (PySem.Str.ofString "^"))))) (tCall (spN K ROth) [] E0 (tCons (tVar 0) (tCons (tVar 4) tNil))) (tVar 4)) [some (.int (n : Int)), some (.str (ST.mk t)), some (.str (ST.mk (ST.rest t))), some (.ref p3), some (.ref l), some (.int ((lo : Int) - 1)), b6, b7, none] H' (.list (msD ((List.range n).filter (rdM t rs)))) := by
       intro H4 e4 Q' q'
       refine et_test (caret (j := 1) (σ := [some (.int (n : Int)), some (.str (ST.mk t)), some (.str (ST.mk (ST.rest t))), some (.ref p3), some (.ref l), some (.int ((lo : Int) - 1)), b6, b7, none]) rfl (by omega)) H4 (Ex.refl H4) _ fun H5 e5 => ?_
       cases c : ST.isN t with
       | true =>
         show tCall (spN K ROth) [] E0 (tCons (tVar 0) (tCons (tVar 4) tNil)) _ H5 Q'
         refine (nCall (K := K) (R := ROth) (E := E0) (da2 (dVar (v := .int (n : Int)) rfl (.int _)) (dVar (v := .ref l) rfl (SB.mono (e4.trans e5) dF))) ⟨n, memB rs, rfl, hn, rfl⟩).asD H5 (Ex.refl H5) _ fun v H6 e6 hd => q' v H6 (e5.trans e6) ?_
         have : (List.range n).filter (rdM t rs) = (List.range n).filter fun k => !memB rs k := by
           congr 1
           funext k
           unfold rdM
           rw [c, if_pos rfl]
         rw [this]; exact hd
       | false =>
         show tVar 4 _ H5 Q'
         refine ⟨.ref l, rfl, q' _ H5 e5 ?_⟩
         have : (List.range n).filter (rdM t rs) = (List.range n).filter (memB rs) := by
           congr 1
           funext k
           unfold rdM
           rw [c, if_neg (by decide)]
         rw [this]; exact SB.mono (e4.trans e5) dF
      refine sRetD (nCall (K := K) (R := RTold) (E := E0) (da1 EV) ⟨n, rdM t rs, rfl, hn, rfl⟩).asD fun v H4 e4 hd => q v H4 (eHB.trans e4) ?_
      rw [eo]; exact hd
end

/-! ### BadText's __init__ -/
def clsM (c : Stmt) : Stmt := match c with
  | .ClassDef _ _ _ (b :: _) _ _ _ _ _ _ _ => b
  | _ => .Pass ⟨0, 0, 0, 0⟩
abbrev mBadText : Stmt := clsM (topS 5)
abbrev nBadText : List Str := ["self", "place", "__class__"]
theorem nsBadText : NdefX.NScope nBadText ["self", "place"] ["__class__"] (defScope mBadText) := ⟨rfl, rfl, rfl, by decide +kernel, rfl, by decide +kernel, by decide +kernel, by decide +kernel, by decide +kernel⟩
section
variable {P : Program} {w : World} {K : PySem.W.Frag} {mg : Str → Option Value} {base : Heap} {CX : CXT}
def spBT (C : Addr) : Sp := fun vs H Q _ => ∃ (a : Addr) (i : Nat), vs = [.ref a, .int (i : Int)] ∧ i < 100 ∧ H a = some (exo a C none) ∧ ∀ dx, H dx = none → dx ≠ a → Q .non (upd (upd H dx (exd dx [("place", .int (i : Int))])) a (exo a C (some dx)))
theorem ok_btext {k : Nat} {f C cc cda : Addr} {kV doc pm ct oc : Value} {an od : Option Addr} {osl : Array (Option Value)} {ccl : Value} {cdd : Option Addr} {ccs : Array (Option Value)} {vs0 : Array Value} {file : Str} {tf : Tok}
    (lk : K.lookup f = some ⟨oc, od, .func (PySem.W.ksFn "__init__" "BadText.__init__" (defArgs mBadText) (defBody mBadText) (defScope mBadText) .none kV doc pm an (.ref cda) ct cc), osl⟩) (hcd : PySem.W.codeIn K (.ref cda) "BadText.__init__" = true)
    (Z : SW.SupC K C cc) (hcode : K.lookup cda = some ⟨ccl, cdd, .fields vs0, ccs⟩) (hvs : vs0[2]? = some (.str file tf)) (hfile : ((P.main.file : Str) == file) = true)
    (hsup : mg "super" = none) (htop : (P.main.scope.names.lookup ("super" : Str)).isSome = false) (hno : PySem.W.findIn K (.ref C) "place" = some none) :
    FnOk P w K mg base CX (k + 1) f (PySem.W.ksFn "__init__" "BadText.__init__" (defArgs mBadText) (defBody mBadText) (defScope mBadText) .none kV doc pm an (.ref cda) ct cc) ["self", "place"] (spBT C) := by
  refine SW.fn_super (N := nBadText) lk hcd nsBadText Z hcode hvs hfile hsup htop (by decide +kernel) rfl rfl (fun vs H Q E h => ?_) (fun A outer s H vs Q E h => ?_)
  · obtain ⟨a, i, rfl, _⟩ := h
    rfl
  · obtain ⟨a, i, rfl, hi, ha, q⟩ := h
    have nd := nsBadText.nd
    refine ⟨a, _, _, rfl, ha, pe_joined (.cons pe_str (.cons (pe_fmt (pe_var (i := 1) rfl (.inl rfl))) (.cons pe_str .nil))), pss_one (ps_ost (pe_var (i := 0) rfl (.inl rfl)) (pe_var (i := 1) rfl (.inl rfl))), ?_⟩
    have n1 : (PySem.Str.ofString (toString (i : Int))).length ≤ 2 := by rw [ST.toStr hi, ST.mk_len]; exact (ST.num_len i).1
    have l1 : (Str.empty ++ PySem.Str.ofString "item ").length ≤ 10 := by decide +kernel
    have l2 : (Str.empty ++ PySem.Str.ofString "item " ++ PySem.Str.ofString (toString (i : Int))).length ≤ 12 := by rw [PySem.Str.length_append]; omega
    have l3 : (PySem.Str.ofString " of the text cannot stand there").length ≤ 50 := by decide +kernel
    exact ⟨_, rfl, sz_of (by omega), .int (i : Int), rfl, .inr ⟨(i : Int), rfl, log_small hi, _, rfl, sz_of (by omega), _, rfl, sz_of (by rw [PySem.Str.length_append]; omega), ha, .int (i : Int), rfl, .ref a, rfl, a, C, rfl, Z.T, hno, .inl ⟨ha, fun dx h1 h2 => q dx h1 h2⟩⟩⟩
end

/-! ### item_ranges, refusals too -/
section
variable {P : Program} {w : World} {K : PySem.W.Frag} {mg : Str → Option Value} {base : Heap}
/-- a new list, or BadText with its place -/
def spR (K : PySem.W.Frag) (C : Addr) (R : List PyData → Nat ⊕ List PyData → Prop) : Sp := fun vs H Q E => ∃ ds r, DpAll K H vs ds ∧ R ds r ∧ (∀ out, r = .inr out → NewL K H Q out) ∧ (∀ p : Nat, r = .inl p → ∀ d H', Ex H H' → H d = none → H' d = some (.xd [("place", .int (p : Int))]) → E (.ref C) (some d) H')
def RItemX : List PyData → Nat ⊕ List PyData → Prop := fun ds r => ∃ (n : Nat) (ws : List (List Nat)), ds = [.int (n : Int), .list (ws.map tD)] ∧ n ≤ 64 ∧ (∀ w ∈ ws, w.length ≤ 100000) ∧ ws.length ≤ 90 ∧ r = (match ST.rdG n 0 0 ws with | .inl p => .inl p | .inr rs => .inr (rs.map rD))
theorem ok_itemRsX {f f1 fI C : Addr} {fd fd1 fdI : FuncData} {k : Nat} (F : Fun K "item_ranges" "item_ranges" sItemRanges f fd)
    (F1 : FnOk P w K mg base CX0 (k + 1) f1 fd1 ["numbers", "item"] (spItemR K)) (g1 : mg "item_range" = some (.ref f1)) (k1 : PySem.W.keepIn K (.ref f1) = true) (b1 : Binds K fd1 ["numbers", "item"] [])
    (mS : mg "str" = none) (mr : mg "range" = none) (me : mg "enumerate" = none)
    (FI : FnOk P w K mg base CX0 k fI fdI ["self", "place"] (spBT C)) (bI : Binds K fdI ["self", "place"] []) (T : OexC K C) (iC : PySem.W.findIn K (.ref C) "__init__" = some (some (.ref fI))) (tI : PySem.W.typeIn K (.ref fI) = some (.type "function")) (gC : mg "BadText" = some (.ref C)) : FnOk P w K mg base (L2N.CX P w) (k + 2) f fd ["size", "items"] (spR K C RItemX) := by
  refine SY.okN F scItemRanges (fun vs H Q E h => ?_) (fun cdv A outer s H vs Q E hr h => ?_)
  · obtain ⟨ds, out, ha, ⟨n, ws, rfl, _⟩, _⟩ := h
    exact allLen ha
  · obtain ⟨ds, out, ha, ⟨n, ws, rfl, hn, hws, hwn, rfl⟩, q, qx⟩ := h
    obtain ⟨x, y, rfl, hx, hy⟩ := all2 ha
    cases dpInt hx
    have nd := scItemRanges.nd
    refine ⟨_, pss_cons (SH.ps_setDc (i := 2) (own := [("sign", 8)]) (g := gName 8) (tt := tYes) (tk := tCB (fun xs H Q => ∃ i : Int, xs = [.int i] ∧ i.natAbs.log2 < 1920 ∧ Q (.str (toString i)) H) (tCons (tVar 8) tNil)) (tv := tVar 8) rfl nd rfl rfl (SH.swapD rfl rfl rfl (by decide +kernel)) (pi_range1 (by rfl) mr (pa_cons (pv 0) pa_nil)) (blkOk_by (own := [("sign", 8)]) (N := nItemRanges) (sc := defScope sItemRanges) (by decide +kernel))
        (fun _ _ _ _ _ => pg_name (i := 8) nd rfl (Or.inl rfl)) (fun _ _ _ _ _ => pts_nil) (fun _ _ _ _ _ => pe_callTy call_str_int (by rfl) mS (by decide +kernel) (pa_cons (pv 8) pa_nil)) (fun _ _ _ _ _ => pv 8))
      (pss_cons (ps_set (i := 3) nd rfl (.inl rfl) (pe_lst pa_nil))
      (pss_cons (ps_set (i := 4) nd rfl (.inl rfl) (pe_un un_neg pe_int))
      (pss_cons (ps_for (passes_of rfl) rfl (pi_enum (by rfl) me (pa_cons (pv 1) pa_nil)) (pg_tup rfl (pgs_cons (pg_name (i := 5) nd rfl (.inl rfl)) (pgs_cons (pg_name (i := 6) nd rfl (.inl rfl)) pgs_nil)))
        (pss_cons (ps_set (i := 7) nd rfl (.inl rfl) (pe_call F1 hr (by rfl) g1 k1 b1 .nil pass0 (pa_cons (pv 2) (pa_cons (pv 6) pa_nil))))
        (pss_cons (ps_if (PW.pt (pw_or (pt_cmpR op_isN (pv 7) pe_non (nomark _)) (pw_or1 (pt_cmpR op_le (pe_ix ix_tup (pv 7) pe_int (fun _ _ => rfl)) (pv 4) (nomark _))))) (pss_one (L2N.ps_raise rfl (L2N.takes_of rfl rfl rfl rfl) (SY.pmkN_oex T iC tI FI hr bI pass0 rfl gC (pa_cons (pv 5) pa_nil)))) pss_nil)
        (pss_cons (ps_expr (pe_bm PySem.F.plainAttrs_list PySem.F.slot_list_append PySem.F.type_list_append mt_append (pv 3) (pa_cons (pv 7) pa_nil)))
        (pss_one (ps_set (i := 4) nd rfl (.inl rfl) (pe_ix ix_tup (pv 7) pe_int (fun _ _ => rfl))))))))
      (pss_one (ps_ret (pv 3)))))), ?_⟩
    refine dcN (K := K) (n := n) (by omega) (wkRange1 (j := (n : Int)) (ea_cons (ev_var rfl) ea_nil) ⟨by omega, by omega⟩).asN (fun k v H' hk e hd => ?_) fun d0 H1 hd0 e1 h1 => ?_
    · cases dpInt hd
      exact ⟨[some (.int (n : Int)), some y, none, none, none, none, none, none, some (.int (k : Nat))], fun Q q => q, rfl, strI (ev_var rfl) (by omega) rfl, ev_var rfl⟩
    refine ⟨Nat.zero_le _, fun l hl => ⟨1, rfl, ?_⟩⟩
    have hl0 : H l = none := fresh_back e1 hl
    have e2 := e1.trans (Ex.new (o := .lst []) hl)
    have h2l : (upd H1 l (.lst [])) l = some (.lst []) := upd_same
    have h2d : (upd H1 l (.lst [])) d0 = some (.dK (kvN n)) := (Ex.new hl) d0 _ h1
    generalize upd H1 l (.lst []) = H2 at e2 h2l h2d ⊢
    refine sFor (B := H) e2 (wkEnum (ev_var (v := y) rfl) hy) (fun i σ' H' => Ex H H' ∧ H' d0 = some (.dK (kvN n)) ∧ (∃ (rs : List (Nat × Nat)) (lo : Nat) (acc : List V) (b5 b6 b7 : Option V), H' l = some (.lst acc) ∧ DpAll K (rm H' l) acc (rs.map rD) ∧ rs.length = i ∧ comb rs (ST.rdG n i lo (ws.drop i)) = ST.rdG n 0 0 ws ∧ σ' = [some (.int (n : Int)), some y, some (.ref d0), some (.ref l), some (.int ((lo : Int) - 1)), b5, b6, b7, none])) (fun H3 e => ⟨e2.trans e, e d0 _ h2d, [], 0, [], none, none, none, e l _ h2l, .nil, rfl, by rw [List.drop_zero]; cases ST.rdG n 0 0 ws <;> rfl, rfl⟩) (fun i σ' H' _ p => p.1) (fun i x σ' H' H3 hi p e hd => ?_) (fun σ' H' p => ?_)
    · obtain ⟨e0, kd, rs, lo, acc, b5, b6, b7, kl, kA, krl, kc, rfl⟩ := p
      rw [List.length_map] at hi
      rw [getD_map tD (List.getElem?_eq_getElem hi)] at hd
      rw [List.drop_eq_getElem_cons hi] at kc
      have hwl := hws ws[i] (List.getElem_mem hi)
      generalize ws[i] = w1 at hd kc hwl
      refine gPair hd fun y1 y2 hy1 hy2 => ?_
      cases dpInt hy1
      cases dpStr hy2
      have bad : ∀ {G : Hp} {b7' : Option V}, Ex H3 G → (∀ r, ST.rdI n w1 = some r → r.1 < lo) → tMkO C (spBT C) [] (tCons (tVar 5) tNil) [some (.int (n : Int)), some y, some (.ref d0), some (.ref l), some (.int ((lo : Int) - 1)), some (.int (i : Nat)), some (.str (ST.mk w1)), b7', none] G (fun cls d H' => E cls d H') := fun {G b7'} eG hbad => by
        rw [comb_bad rs hbad] at kc
        refine ⟨.int (i : Int), rfl, by show 1 ≤ 1000; decide, fun a hna => ⟨a, i, rfl, by omega, upd_same, fun dx h1 h2 => ⟨rfl, dx, [("place", .int (i : Int))], upd_same, ?_, ?_, ?_⟩⟩⟩
        · rw [upd_ne h2, upd_same]
        · rw [upd_ne h2] at h1; exact h1
        · have h1' : G dx = none := by rw [upd_ne h2] at h1; exact h1
          have eGX : Ex H G := (e0.trans e).trans eG
          refine qx i (by rw [← kc]) dx _ ?_ (fresh_back eGX h1') upd_same
          intro b o hb
          have hbG := eGX b o hb
          have n1 : b ≠ dx := ne_of_none hbG h1'
          have n2 : b ≠ a := ne_of_none hbG hna
          rw [upd_ne n1, del_ne n2, upd_ne n2, upd_ne n1, upd_ne n2]
          exact hbG
      refine ⟨.ref d0, rfl, .str (ST.mk w1), rfl, d0, n, w1, rfl, e d0 _ kd, hn, hwl, fun z H4 e4 => ?_, fun r hr1 T' H4 hT e4 h4 => ?_⟩
      · dsimp only [gName]
        refine q_when (b := true) (et_is (et_or (a := true) (b := false) (et_test (isNone (ev_var (v := .non) rfl))) (fun z => nomatch z)) rfl) (fun _ G g => ?_) (fun h => by cases h)
        exact bad (e4.trans g) fun r hr => by rw [z] at hr; cases hr
      have e34 := e.trans e4
      have dT : Dp K H4 (.ref T') (rD r) := .tup (st_of h4) (.cons (.int _) (.cons (.int _) .nil))
      have ix : ∀ {σ : L2.St} {G : Hp} (j : Nat), σ[7]? = some (some (.ref T')) → Ex H4 G → ∀ v : Int, [PyData.int (r.1 : Int), PyData.int (r.2 : Int)][j]? = some (.int v) → Ev (tOp (rIxT K) (tVar 7) (tC (.int (j : Int)))) σ G (.int v) := fun {σ G} j hs eG v hv => evInt' (dIxT (i := (j : Int)) (dVar (v := .ref T') hs (SB.mono eG dT)) ev_c (atI_nat hv))
      by_cases hr2 : r.1 < lo
      · dsimp only [gName]
        refine q_when (b := true) (et_is (et_or (a := false) (b := true) (et_test (isNone (ev_var (v := .ref T') rfl))) (fun _ => et_is (et_test (ev_op (ix 0 rfl (Ex.refl _) _ rfl) (ev_var rfl) rv_I0)) (decide_eq_true (by omega)))) rfl) (fun _ G g => ?_) (fun h => by cases h)
        exact bad (e4.trans g) fun r' hr' => by rw [hr1] at hr'; cases hr'; exact hr2
      rw [comb_step rs hr1 hr2] at kc
      dsimp only [gName]
      refine q_when (b := false) (et_is (et_or (b := false) (et_test (isNone (ev_var (v := .ref T') rfl))) (fun _ => et_is (et_test (ev_op (ix 0 rfl (Ex.refl _) _ rfl) (ev_var rfl) rv_I0)) (decide_eq_false (by omega)))) rfl) (fun h => by cases h) (fun _ H5 e5 => ?_)
      have kl5 := (e34.trans e5) l _ kl
      refine ⟨.ref l, rfl, .inl ⟨rfl, _, sq_of kl5⟩, .ref T', rfl, l, acc, .ref T', rfl, rfl, kl5, sz_lt (by rw [allLen kA, List.length_map]; omega), ?_⟩
      have hTl : T' ≠ l := Ne.symm (ne_of_none (e l _ kl) hT)
      have h5T : H5 T' = some (.tup [.int (r.1 : Int), .int (r.2 : Int)]) := e5 T' _ h4
      have h6T : (upd H5 l (.lst (acc ++ [.ref T']))) T' = some (.tup [.int (r.1 : Int), .int (r.2 : Int)]) := by rw [upd_ne hTl]; exact h5T
      have dT6 : Dp K (upd H5 l (.lst (acc ++ [.ref T']))) (.ref T') (rD r) := .tup (st_of h6T) (.cons (.int _) (.cons (.int _) .nil))
      refine s_asg (v := .int (r.2 : Int)) (evInt' (dIxT (i := 1) (dVar (v := .ref T') rfl dT6) ev_c rfl)) fun H6 e6 => ?_
      have hld : d0 ≠ l := ne_of kd kl (by intro z; cases z)
      refine ⟨?_, ?_, rs ++ [r], r.2 + 1, acc ++ [.ref T'], some (.int (i : Nat)), some (.str (ST.mk w1)), some (.ref T'), e6 l _ upd_same, ?_, by rw [List.length_append, krl]; rfl, kc, ?_⟩
      · exact (Ex.mut ((e0.trans e34).trans e5) hl0).trans e6
      · exact e6 d0 _ (by rw [upd_ne hld]; exact (e34.trans e5) d0 _ kd)
      · rw [List.map_append]
        have z : DpAll K (rm (upd H5 l (.lst (acc ++ [.ref T']))) l) (acc ++ [.ref T']) (rs.map rD ++ [rD r]) := by
          rw [rmUpd]
          exact allApp (monoA (rmMono (e34.trans e5)) kA) (.cons (.tup (st_of (by rw [rmNe hTl]; exact h5T)) (.cons (.int _) (.cons (.int _) .nil))) .nil)
        exact monoA (rmMono e6) z
      · show _ = [some (.int (n : Int)), some y, some (.ref d0), some (.ref l), some (.int (((r.2 + 1 : Nat) : Int) - 1)), some (.int (i : Nat)), some (.str (ST.mk w1)), some (.ref T'), none]
        rw [show ((r.2 + 1 : Nat) : Int) - 1 = (r.2 : Int) by omega]; rfl
    · obtain ⟨e0, kd, rs, lo, acc, b5, b6, b7, kl, kA, krl, kc, rfl⟩ := p
      rw [List.length_map, List.drop_length] at kc
      have z : ST.rdG n 0 0 ws = .inr rs := by
        rw [← kc]
        show Sum.inr (rs ++ []) = Sum.inr rs
        rw [List.append_nil]
      exact ⟨.ref l, rfl, q _ (by rw [z]) l acc H' hl0 e0 kl (monoA rmEx kA)⟩
end

/-! ### read, refusals too -/
section
variable {P : Program} {w : World} {K : PySem.W.Frag} {mg : Str → Option Value} {base : Heap}
theorem nCallX {σ : L2.St} {H : Hp} {ta : TA} {ds out : List PyData} {E : XK} {C : Addr} {R : List PyData → Nat ⊕ List PyData → Prop} (ha : EvDA K ta σ H ds) (hR : R ds (.inr out)) : EvN K (tCall (spR K C R) [] E ta) σ H out := fun H1 e Q q => ha H1 e _ fun vs H2 e2 hd => by
  refine ⟨ds, .inr out, by rw [List.append_nil]; exact hd, hR, fun out' h => ?_, fun p h => by cases h⟩
  cases h
  exact q.ex e2
def RReadX : List PyData → Nat ⊕ List PyData → Prop := fun ds r => ∃ (n : Nat) (t : List Nat), ds = [.int (n : Int), tD t] ∧ (1 ≤ n ∧ n ≤ 64) ∧ t.length ≤ 90000 ∧ (ST.itm t).length ≤ 90 ∧ r = (match ST.rdT n t with | .inl p => .inl p | .inr rs => .inr ((told (rdM t rs) n).map rD))
theorem ok_readX {f f1 f2 f3 f4 C : Addr} {fd fd1 fd2 fd3 fd4 : FuncData} {k : Nat} (F : Fun K "read" "read" sRead f fd)
    (F1 : FnOk P w K mg base CX0 (k + 2) f1 fd1 ["size"] (spV K RSize)) (g1 : mg "check_size" = some (.ref f1)) (k1 : PySem.W.keepIn K (.ref f1) = true) (b1 : Binds K fd1 ["size"] [])
    (F2 : FnOk P w K mg base (L2N.CX P w) (k + 2) f2 fd2 ["size", "items"] (spR K C RItemX)) (g2 : mg "item_ranges" = some (.ref f2)) (k2 : PySem.W.keepIn K (.ref f2) = true) (b2 : Binds K fd2 ["size", "items"] [])
    (F3 : FnOk P w K mg base CX0 (k + 2) f3 fd3 ["size", "ranges"] (spN K RMarks)) (g3 : mg "marks_of" = some (.ref f3)) (k3 : PySem.W.keepIn K (.ref f3) = true) (b3 : Binds K fd3 ["size", "ranges"] [])
    (F4 : FnOk P w K mg base CX0 (k + 2) f4 fd4 ["marks"] (spN K RRanges)) (g4 : mg "ranges_of" = some (.ref f4)) (k4 : PySem.W.keepIn K (.ref f4) = true) (b4 : Binds K fd4 ["marks"] []) :
    FnOk P w K mg base (L2N.CX P w) (k + 3) f fd ["size", "text"] (spR K C RReadX) := by
  refine SY.okN F scRead (fun vs H Q E h => ?_) (fun cdv A outer s H vs Q E hr h => ?_)
  · obtain ⟨ds, out, ha, ⟨n, t, rfl, _⟩, _⟩ := h
    exact allLen ha
  · obtain ⟨ds, out, ha, ⟨n, t, rfl, hn, hl, hwn, rfl⟩, q0, qx⟩ := h
    obtain ⟨x, y, rfl, hx, hy⟩ := all2 ha
    cases dpInt hx
    cases dpStr hy
    have nd := scRead.nd
    refine ⟨_, pss_cons (ps_expr (pe_call F1 hr (by rfl) g1 k1 b1 .nil pass0 (pa_cons (pv 0) pa_nil)))
      (pss_cons (ps_set (i := 2) nd rfl (.inl rfl) (pe_bm PySem.F.plainAttrs_str PySem.F.slot_str_removeprefix PySem.F.type_str_removeprefix mt_removeprefix (pv 1) (pa_cons pe_str pa_nil)))
      (pss_cons (ps_set (i := 3) nd rfl (.inl rfl) (pe_ifExp (pt_truth (pv 2) (by intro _; rfl)) (pe_split (pv 2) pe_str) (pe_lst pa_nil)))
      (pss_cons (ps_set (i := 4) nd rfl (.inl rfl) (pe_call F3 hr (by rfl) g3 k3 b3 .nil pass0 (pa_cons (pv 0) (pa_cons (pe_call F2 hr (by rfl) g2 k2 b2 .nil (L2N.passes_call (E := E) (L2N.takes_of rfl rfl rfl rfl) (fun _ _ _ _ h => h)) (pa_cons (pv 0) (pa_cons (pv 3) pa_nil))) pa_nil))))
      (pss_cons (ps_if (pt_val (pe_m1 PySem.F.slot_str_startswith PySem.F.type_str_startswith mt_startswith (pv 1) pe_str)) (pss_one (ps_setLc (i := 4) (own := [("marked", 5)]) (g := gName 5) (tt := tYes) (te := tNotV (tVar 5)) rfl nd rfl rfl (sw_true rfl rfl rfl (by decide +kernel)) (pi_list (pv 4)) (blkOk_by (own := [("marked", 5)]) (N := nRead) (sc := defScope sRead) (by decide +kernel))
        (fun _ _ _ _ _ => pg_name (i := 5) nd rfl (Or.inl rfl)) (fun _ _ _ _ _ => pts_nil) (fun _ _ _ _ _ => pe_not (pv 5)))) pss_nil)
      (pss_one (ps_ret (pe_call F4 hr (by rfl) g4 k4 b4 .nil pass0 (pa_cons (pv 4) pa_nil)))))))), ?_⟩
    have rl := rest_len t
    have hc94 : PySem.Str.ofString "^" = ST.mk [94] := by decide +kernel
    refine sDropD (vCall (K := K) (da1 (dVar rfl (.int (n : Int)))) ⟨n, rfl, hn.1, hn.2, rfl⟩) fun H1 e1 => ?_
    refine ⟨.str (ST.mk t), rfl, rfl, _, _, rfl, rfl, by rw [ST.mk_len]; exact sz_of (by omega), ?_⟩
    rw [hc94, pref_mk]
    have itemsE : EvN K (tIf (fun σ H Q => tVar 2 σ H fun x H' => ∃ k, TruV K x H' k ∧ Q k H') (tM1 (fun x xs H Q => ∃ a b, x = .str a ∧ xs = [.str b] ∧ (b.length == 0) = false ∧ a.length + 2 ≤ sizeLine ∧ rNewStrs (Txt.split a b) H Q) (tVar 2) (tC (.str (PySem.Str.ofString ",")))) (tLst tNil)) [some (.int (n : Int)), some (.str (ST.mk t)), some (.str (ST.mk (ST.rest t))), none, none, none] H1 ((ST.itm t).map tD) := by
      refine nIf (truS (l := ST.rest t) (ev_var rfl) (by omega) rfl) (fun hb => ?_) (fun hb => ?_)
      · have z : ¬ ST.rest t = [] := fun z => by rw [z] at hb; cases hb
        unfold ST.itm
        rw [if_neg z]
        exact nSplit (ev_var rfl) (by omega) rfl
      · have z : ST.rest t = [] := List.isEmpty_iff.mp (by simpa using hb)
        unfold ST.itm
        rw [if_pos z]
        exact nLst daNil (Nat.zero_le _)
    refine sAsgN itemsE fun pi xi H2 hpi e2 h2 A2 => ?_
    have hws : ∀ w ∈ ST.itm t, w.length ≤ 100000 := fun w hw => by
      unfold ST.itm at hw
      by_cases z : ST.rest t = []
      · rw [if_pos z] at hw; simp at hw
      · rw [if_neg z] at hw
        have := spl_len1 [44] (ST.rest t) [] 0 w hw
        rw [List.length_nil] at this
        omega
    cases hrd : ST.rdT n t with
    | inl p =>
      have hR : RItemX [.int (n : Int), .list ((ST.itm t).map tD)] (.inl p) := ⟨n, ST.itm t, rfl, hn.2, hws, hwn, by rw [show ST.rdG n 0 0 (ST.itm t) = .inl p from hrd]⟩
      exact ⟨.int (n : Int), rfl, .int (n : Int), rfl, .ref pi, rfl, _, .inl p, .cons (.int _) (.cons (.lst (sq_of h2) A2) .nil), hR, (fun out h => by cases h), fun p' h d H' e hd hx => by
        cases h
        exact qx p (by rw [hrd]) d H' ((e1.trans e2).trans e) (fresh_back (e1.trans e2) hd) hx⟩
    | inr rs =>
    have hok := ST.rdG_ok hrd
    have q : NewL K H Q ((told (rdM t rs) n).map rD) := q0 _ (by rw [hrd])
    refine sAsgN (nCall (R := RMarks) (da2 (dVar rfl (.int (n : Int))) (nCallX (E := E) (R := RItemX) (da2 (dVar rfl (.int (n : Int))) (dVar (v := .ref pi) rfl (.lst (sq_of h2) A2))) ⟨n, ST.itm t, rfl, hn.2, hws, hwn, by rw [show ST.rdG n 0 0 (ST.itm t) = .inr rs from hrd]⟩).asD) ⟨n, rs, rfl, hn.2, fun r hr => ⟨(hok.1 r hr).1, (hok.1 r hr).2.1⟩, rfl⟩) fun pm xm H3 hpm e3 h3 A3 => ?_
    have d3 : Dp K H3 (.ref pm) (.list (bls n (memB rs))) := .lst (sq_of h3) A3
    have E3 := (e1.trans e2).trans e3
    have SW : Ev (tM1 (fun x xs H Q => ∃ a b, x = V.str a ∧ xs = [V.str b] ∧ Q (V.bl (Txt.startswith a b)) H) (tVar 1) (tC (V.str (ST.mk [94])))) [some (.int (n : Int)), some (.str (ST.mk t)), some (.str (ST.mk (ST.rest t))), some (.ref pi), some (.ref pm), none] H3 (.bl (ST.isN t)) := fun G eG Q' q' => ⟨.str (ST.mk t), rfl, ⟨_, rfl⟩, _, _, rfl, rfl, by rw [starts_mk]; exact q' G (Ex.refl G)⟩
    refine q_when (b := ST.isN t) (et_B SW) (fun hb H4 e4 => ?_) (fun hb H4 e4 => ?_)
    · have N := nLc (K := K) (σ := [some (.int (n : Int)), some (.str (ST.mk t)), some (.str (ST.mk (ST.rest t))), some (.ref pi), some (.ref pm), none]) (H := H4) (wi := iList K (tVar 4)) (g := gName 5) (tt := tYes) (te := tNotV (tVar 5)) (vs := [5]) (fun _ => true) (fun i => .bool (!memB rs i)) (by rw [bls_len]; omega) (wkList (ev_var (v := .ref pm) rfl) (SB.mono e4 d3)).asN (fun Dl i x H5 hi e5 hd => by
        rw [bls_len] at hi
        rw [getD_bls _ hi] at hd
        cases dpBool hd
        exact ⟨[some (.int (n : Int)), some (.str (ST.mk t)), some (.str (ST.mk (ST.rest t))), some (.ref pi), some (.ref pm), some (.bl (memB rs i))], fun Q q => q, rfl, et_yes, fun _ => (bD (ev_notV (ev_var rfl))).x rfl⟩)
      rw [outs_all, bls_len] at N
      refine sAsgN N fun p2 x2 H5 hp2 e5 h5 A5 => ?_
      refine sRetN (nCall (R := RRanges) (da1 (dVar (v := .ref p2) rfl (.lst (sq_of h5) A5))) ⟨n, fun k => !memB rs k, rfl, hn.2, ?_⟩) (q.ex ((E3.trans e4).trans e5))
      refine congrArg (List.map rD) (told_congr n fun k _ => ?_)
      unfold rdM
      rw [if_pos hb]
    · refine sRetN (nCall (R := RRanges) (da1 (dVar (v := .ref pm) rfl (SB.mono e4 d3))) ⟨n, memB rs, rfl, hn.2, ?_⟩) (q.ex (E3.trans e4))
      refine congrArg (List.map rD) (told_congr n fun k _ => ?_)
      unfold rdM
      rw [if_neg (by rw [hb]; decide)]
end

/-! ### _law_alike of two ints, called in an except suite -/
section
variable {P : Program} {w : World} {K : PySem.W.Frag} {mg : Str → Option Value} {base : Heap}
def spAlikeI : Sp := fun vs H Q _ => ∃ i : Int, vs = [.int i, .int i] ∧ ∀ H', Ex H H' → Q (.bl true) H'
theorem ok_alikeI {f : Addr} {fd : FuncData} {k : Nat} (F : Fun K "_law_alike" "_law_alike" sLawAlike f fd) (mi : mg "isinstance" = none) (mB : mg "bool" = none) (mI : mg "int" = none) : L2H.FnH P w K mg base CX0 (k + 1) f fd ["_law_found", "_law_due_here"] spAlikeI := by
  refine SY.okH F scLawAlike (fun vs H Q E h => ?_) (fun cdv A outer s H vs Q E p hot hr h => ?_)
  · obtain ⟨i, rfl, _⟩ := h
    rfl
  · obtain ⟨i, rfl, q⟩ := h
    have nd := scLawAlike.nd
    refine ⟨_, pss_cons (ps_if (pt_cmpR op_isN (pv 1) pe_non (nomark _)) (pss_one (ps_ret (pe_cmpR op_isN (pv 0) pe_non (nomark _)))) pss_nil)
      (pss_cons (ps_if (pt_val (pe_callB call_isi (by rfl) mi (by decide +kernel) (pa_cons (pv 1) (pa_cons (pe_bltn (v := .ty "bool") (by rfl) mB boot_bool rfl) pa_nil)))) pss_never pss_nil)
      (pss_cons (ps_if (pt_val (pe_callB call_isi (by rfl) mi (by decide +kernel) (pa_cons (pv 1) (pa_cons (pe_bltn (v := .ty "int") (by rfl) mI boot_int rfl) pa_nil))))
        (pss_one (ps_ret (pe_and (pe_callB call_isi (by rfl) mi (by decide +kernel) (pa_cons (pv 0) (pa_cons (pe_bltn (v := .ty "int") (by rfl) mI boot_int rfl) pa_nil))) (pe_and (pe_not (pe_callB call_isi (by rfl) mi (by decide +kernel) (pa_cons (pv 0) (pa_cons (pe_bltn (v := .ty "bool") (by rfl) mB boot_bool rfl) pa_nil)))) (pe_one (pe_cmpR op_eq (pv 0) (pv 1) (nomark _))))))) pss_nil)
      pss_never)), ?_⟩
    refine s_if (b := false) (et_test (fun H1 _ Q q => ⟨.int i, rfl, rfl, q H1 (Ex.refl H1)⟩)) (fun z => nomatch z) (fun _ H1 e1 => ?_)
    refine s_if (b := false) (et_B (isi (d := .int i) rfl (.int i) kb_int_bool)) (fun z => nomatch z) (fun _ H2 e2 => ?_)
    refine s_if (b := true) (et_B (isi (d := .int i) rfl (.int i) kb_int_int)) (fun _ H3 e3 => ?_) (fun z => nomatch z)
    exact s_ret (v := .bl true) (ev_is (ev_andV (a := true) (isi (d := .int i) rfl (.int i) kb_int_int) fun _ => ev_andV (a := !false) (ev_notV (isi (d := .int i) rfl (.int i) kb_int_bool)) fun _ => ev_op (x := .int i) (y := .int i) (ev_var rfl) (ev_var rfl) (rv_eq rfl)) (by rw [decide_eq_true rfl]; rfl)) fun H4 e4 => q H4 (((e1.trans e2).trans e3).trans e4)
end

/-! ### _law_refused -/
theorem takesN0 {X : Cx} : L2N.Takes X (fun _ _ _ _ => False) := fun _ _ x => by
  obtain ⟨_, _, _, _, _, _, _, _, _, _, _, _, _, _, _, _, z⟩ := x
  exact z.elim
theorem hotS {X : Cx} {a : Addr} {oe : Obj} {cls : Value} {d : Option Addr} {pn : List (Addr × Obj)} (hz : L2N.Zn cls d oe) (hf : ∃ vs, oe.data = .fields vs) : L2H.Hot1 (X.suite a ((a, oe) :: pn)).A (a, oe) := by
  obtain ⟨vs, hv⟩ := hf
  exact ⟨rfl, vs, hv, hz.2.2 vs hv⟩
section
variable {P : Program} {w : World} {K : PySem.W.Frag} {mg : Str → Option Value} {base : Heap}
theorem isD {σ : L2.St} {H : Hp} {C dd a : Addr} {fs : List (Str × V)} {c : V} {cv : Value} {b : Bool} {j : Nat} (X : ExcC K C) (hd : H dd = some (.xd fs)) (hj : σ[j]? = some (some (.ref a))) (hc : ∀ u, RelV c u → u = cv) (hk : PySem.W.kitOne K (.ref C) cv = some b) : Ev (tCB (SW.rIsD K (.ref C) (some dd) a) (tCons (tVar j) (tCons (tC c) tNil))) σ H (.bl b) := fun H1 e Q q =>
  ⟨.ref a, hj, C, dd, fs, c, cv, b, rfl, X, rfl, e dd _ hd, rfl, hc, hk, q H1 (Ex.refl H1)⟩
theorem kitSelf {C : Addr} : PySem.W.kitOne K (.ref C) (.ref C) = some true := by
  unfold PySem.W.kitOne
  rw [if_pos (beq_self_eq_true _)]
/-- the work refuses with BadText -/
def spRefT (P : Program) (w : World) (K : PySem.W.Frag) (mg : Str → Option Value) (base : Heap) (k : Nat) (C : Addr) : Sp := fun vs H Q _ => ∃ (f : Addr) (p : Int), vs = [.ref f, .str "text", .int p] ∧ SY.Work P w K mg base k H f C (some [("place", .int p)]) ∧ ∀ H', Ex H H' → Q (.bl true) H'
theorem ok_refT {f fA C CS C1 C2 C3 : Addr} {fd fdA : FuncData} {k : Nat} (F : Fun K "_law_refused" "_law_refused" sLawRefused f fd)
    (FA : L2H.FnH P w K mg base CX0 k fA fdA ["_law_found", "_law_due_here"] spAlikeI) (gA : mg "_law_alike" = some (.ref fA)) (kA : PySem.W.keepIn K (.ref fA) = true) (bA : Binds K fdA ["_law_found", "_law_due_here"] [])
    (mi : mg "isinstance" = none) (mV : mg "ValueError" = none) (gS : mg "SetError" = some (.ref CS)) (g1 : mg "BadSize" = some (.ref C1)) (g2 : mg "BadSet" = some (.ref C2)) (g3 : mg "BadNumber" = some (.ref C3)) (gC : mg "BadText" = some (.ref C))
    (eS : PySem.W.exmOne K (.ref C) (.ref CS) = some true) (X : ExcC K C) (T : XfC K C) (hno : PySem.W.findIn K (.ref C) "place" = some none)
    (k1 : PySem.W.kitOne K (.ref C) (.ref C1) = some false) (k2 : PySem.W.kitOne K (.ref C) (.ref C2) = some false) (k3 : PySem.W.kitOne K (.ref C) (.ref C3) = some false) (kV : PySem.W.kitOne K (.ref C) (.type "ValueError") = some true) :
    FnOk P w K mg base CX0 (k + 1) f fd ["_law_work", "_law_word", "_law_value"] (spRefT P w K mg base k C) := by
  refine F.ok scLawRefused (fun vs H Q E h => ?_) (fun cdv A outer s H vs Q E hr h => ?_)
  · obtain ⟨f, p, rfl, _⟩ := h
    rfl
  · obtain ⟨f, p, rfl, wk, q⟩ := h
    have nd := scLawRefused.nd
    refine ⟨_, pss_cons (L2N.ps_try_as (i := 3) rfl rfl nd rfl rfl ⟨rfl, by decide, .inl gS⟩ takesN0 (fun W pn xe tk _ => pss_one (ps_expr (SY.pe_work (P := P) (w := w) (K := K) (mg := mg) (base := base) (i := 0) tk hr rfl (.inl rfl))))
      (fun a oe cls d pn hz hf => pss_cons (ps_set (i := 4) nd rfl (.inl rfl) (pe_lst (pa_cons (pe_callB (SW.call_isD hz.zc hf) (by rfl) mi (by decide +kernel) (pa_cons (pv 3) (pa_cons (pe_glob (v := .ref C1) (by rfl) g1 rfl) pa_nil)))
          (pa_cons (pe_callB (SW.call_isD hz.zc hf) (by rfl) mi (by decide +kernel) (pa_cons (pv 3) (pa_cons (pe_glob (v := .ref C2) (by rfl) g2 rfl) pa_nil)))
          (pa_cons (pe_callB (SW.call_isD hz.zc hf) (by rfl) mi (by decide +kernel) (pa_cons (pv 3) (pa_cons (pe_glob (v := .ref C3) (by rfl) g3 rfl) pa_nil)))
          (pa_cons (pe_callB (SW.call_isD hz.zc hf) (by rfl) mi (by decide +kernel) (pa_cons (pv 3) (pa_cons (pe_glob (v := .ref C) (by rfl) gC rfl) pa_nil))) pa_nil))))))
        (pss_cons (ps_set (i := 5) nd rfl (.inl rfl) (pe_lst (pa_cons pe_str (pa_cons pe_str (pa_cons pe_str (pa_cons pe_str pa_nil))))))
        (pss_cons (ps_if (PW.pt (pw_or (pt_not (pt_val (pe_callB (SW.call_isD hz.zc hf) (by rfl) mi (by decide +kernel) (pa_cons (pv 3) (pa_cons (pe_bltn (v := .ty "ValueError") (by rfl) mV PyProof.Rows.Boot.«ValueError» rfl) pa_nil)))))
            (pw_or1 (pt_cmpR (r := rNeD K) (op_neD (by exact hr.units)) (pv 4) (SY.pe_lcH (wi := iList K (tVar 5)) (own := [("_law_one", 6)]) (g := gName 6) (tt := tYes) (te := tOp rEq (tVar 1) (tVar 6)) (p := (a, oe)) (by exact hotS hz hf) (by exact List.mem_cons_self) nd (by exact SY.pi_listH (pv 5)) (blkOk_by (own := [("_law_one", 6)]) (N := nLawRefused) (sc := defScope sLawRefused) (by decide +kernel))
              (fun _ _ _ _ _ => pg_name (i := 6) nd rfl (Or.inl rfl)) (fun _ _ _ _ _ => pts_nil) (fun _ _ _ _ _ => pe_cmpR op_eq (pv 1) (pv 6) (nomark _))) (nomark _)))))
            (pss_one (ps_ret pe_bl)) pss_nil)
        (pss_cons (ps_if (pt_cmpR op_eq (pv 1) pe_str (nomark _)) pss_never pss_nil)
        (pss_one (ps_ret (pe_or (pe_cmpR op_ne (pv 1) pe_str (nomark _)) (pe_one (L2H.pe_callH (E := fun _ => E0) FA (L2H.roomH_mark hr _) (by exact ⟨(a, oe), hotS hz hf, List.mem_cons_self⟩) (by rfl) gA kA bA (fun _ => fun _ _ _ _ _ _ z => False.elim z) (pa_cons (pe_xf T hno hz.zc hf (pv 3)) (pa_cons (pv 2) pa_nil)))))))))))) (pss_one (ps_ret pe_bl)), ?_⟩
    refine ⟨f, C, some [("place", .int p)], rfl, wk, fun d H1 e1 hd => ?_⟩
    obtain ⟨dd, rfl, hdd⟩ := hd
    refine ⟨true, eS, fun _ a ha => ?_, fun z => nomatch z⟩
    have rel : ∀ (C' : Addr) (u : Value), RelV (.ref C') u → u = Value.ref C' := fun _ _ h => h
    refine sAsgN (K := K) (nLst (daCons (bD (isD X hdd rfl (rel _) k1)) (daCons (bD (isD X hdd rfl (rel _) k2)) (daCons (bD (isD X hdd rfl (rel _) k3)) (daCons (bD (isD X hdd rfl (rel _) kitSelf)) daNil)))) (by decide)) fun p1 x1 H2 hp1 e2 h2 A2 => ?_
    refine sAsgN (K := K) (nLst (daCons (EvD.of ev_c (.str "size")) (daCons (EvD.of ev_c (.str "set")) (daCons (EvD.of ev_c (.str "number")) (daCons (EvD.of ev_c (.str "text")) daNil)))) (by decide)) fun p2 x2 H3 hp2 e3 h3 A3 => ?_
    have d3 := (e2.trans e3) dd _ hdd
    have W3 : Dp K H3 (.ref p2) (.list [.str "size", .str "set", .str "number", .str "text"]) := .lst (sq_of h3) A3
    have N := nLc (K := K) (σ := [some (.ref f), some (.str "text"), some (.int p), some (.ref a), some (.ref p1), some (.ref p2), none]) (H := H3) (wi := iList K (tVar 5)) (g := gName 6) (tt := tYes) (te := tOp rEq (tVar 1) (tVar 6)) (vs := [6]) (fun _ => true) (fun i => .bool (i == 3)) (by decide) (wkList (ev_var (v := .ref p2) rfl) W3).asN (fun Dl i v H4 hi e4 hv => by
      have go : ∀ (z : Str) (b : Bool), v = .str z → decide (V.str "text" = V.str z) = b → (i == 3) = b → ∃ σ2, (∀ Q : L2.St → Hp → Prop, Q σ2 H4 → gName 6 v (wipe [some (.ref f), some (.str "text"), some (.int p), some (.ref a), some (.ref p1), some (.ref p2), none] [6]) H4 Q) ∧ wipe σ2 [6] = wipe [some (.ref f), some (.str "text"), some (.int p), some (.ref a), some (.ref p1), some (.ref p2), none] [6] ∧ EvT tYes σ2 H4 true ∧ (true = true → EvX K (tOp rEq (tVar 1) (tVar 6)) σ2 H4 Dl (.bool (i == 3))) := fun z b ev e1 e2 => by
        subst ev
        refine ⟨[some (.ref f), some (.str "text"), some (.int p), some (.ref a), some (.ref p1), some (.ref p2), some (.str z)], fun Q q => q, rfl, et_yes, fun _ => (bD (ev_is (ev_op (x := .str "text") (y := .str z) (ev_var rfl) (ev_var rfl) (rv_eq rfl)) ?_)).x rfl⟩
        rw [e1, e2]
      match i, hi with
      | 0, _ => exact go "size" false (dpStr hv) (by decide) rfl
      | 1, _ => exact go "set" false (dpStr hv) (by decide) rfl
      | 2, _ => exact go "number" false (dpStr hv) (by decide) rfl
      | 3, _ => exact go "text" true (dpStr hv) (by decide) rfl)
    refine s_if (b := false) (et_is (et_or (a := !true) (b := false) (et_not (et_B (isD (c := .ty "ValueError") X d3 rfl (fun _ h => h) kV))) (fun _ => et_is (et_test (neD (dVar (v := .ref p1) rfl (SB.mono e3 (.lst (sq_of h2) A2))) N.asD rfl rfl)) (by decide))) rfl) (fun z => nomatch z) (fun _ H4 e4 => ?_)
    refine s_if (b := false) (et_is (et_test (ev_op (x := .str "text") (y := .str "set") (ev_var rfl) ev_c (rv_eq rfl))) (by decide)) (fun z => nomatch z) (fun _ H5 e5 => ?_)
    have d5 := (e4.trans e5) dd _ d3
    refine s_ret (v := .bl true) (ev_is (ev_orV (a := false) (b := true) (ev_is (ev_op (x := .str "text") (y := .str "text") (ev_var rfl) ev_c (rv_ne rfl)) (by decide)) (fun _ => fun H6 e6 Q q => ⟨.ref a, rfl, rfl, rfl, dd, _, .int p, rfl, e6 dd _ d5, rfl, .int p, rfl, p, rfl, fun H7 e7 => q H7 e7⟩)) rfl) fun H6 e6 => q H6 (((((e1.trans e2).trans e3).trans e4).trans e5).trans e6)
end

/-! ### _law_cut, _law_shortest -/
def cutF (f a b i : Nat) : List (List Nat) := if a + i = b then [ST.wd a (a + i)] else (ST.cutL f (a + i + 1) b).map fun r => ST.wd a (a + i) ++ 44 :: r
theorem cutL_F (f a b : Nat) : ST.cutL (f + 1) a b = (List.range (b + 1 - a)).flatMap (cutF f a b) := rfl
theorem flat_pre {α : Type} (F : Nat → List α) {i n : Nat} (h : i ≤ n) : ((List.range i).flatMap F).length ≤ ((List.range n).flatMap F).length := by
  obtain ⟨m, rfl⟩ : ∃ m, n = i + m := ⟨n - i, by omega⟩
  rw [List.range_add, List.flatMap_append, List.length_append]
  omega
theorem flat_succ {α : Type} (F : Nat → List α) (i : Nat) : (List.range (i + 1)).flatMap F = (List.range i).flatMap F ++ F i := by
  rw [List.range_succ, List.flatMap_append, List.flatMap_cons, List.flatMap_nil, List.append_nil]
theorem wd_len {a e : Nat} : (ST.wd a e).length ≤ 5 := by
  have := ST.num_len a
  have := ST.num_len e
  unfold ST.wd
  split
  · omega
  · rw [List.length_append, List.length_cons]; omega
section
variable {P : Program} {w : World} {K : PySem.W.Frag} {mg : Str → Option Value} {base : Heap}
theorem catE {σ : L2.St} {H : Hp} {ta tb : TE} {r : R2} {a b : List Nat} {s : Str} (ha : Ev ta σ H (.str (ST.mk a))) (hs : s = ST.mk b) (hl : a.length + b.length ≤ 100000) (ht : tb = tC (.str s)) (hr : r = fun x y H Q => ∃ i j, x = V.str i ∧ y = V.str j ∧ i.length + j.length ≤ sizeLine ∧ Q (V.str (i ++ j)) H) : Ev (tOp r ta tb) σ H (.str (ST.mk (a ++ b))) := by
  subst ht
  exact catS ha (ev_is ev_c (by rw [hs])) hl hr
def RCut (f : Nat) : List PyData → List PyData → Prop := fun ds out => ∃ a b : Nat, ds = [.int (a : Int), .int (b : Int)] ∧ a ≤ b ∧ b < 64 ∧ b - a < f ∧ f ≤ 5 ∧ out = (ST.cutL f a b).map tD
def RShort : List PyData → PyData → Prop := fun ds out => ∃ rs : List (Nat × Nat), ds = [.list (rs.map rD)] ∧ (∀ r ∈ rs, r.1 ≤ r.2 ∧ r.2 < 64) ∧ rs.length ≤ 64 ∧ out = tD (ST.itemsT rs)
end

/-! ### lists of tuples stay when a list is changed -/
theorem Dk.keepT {K : PySem.W.Frag} {d : Addr} {H H' : Hp} {xs : List V} {ds : List PyData} (D : Dk d H H') (hd : DSt H d) (hn : noLs ds = true) (h : DpAll K H xs ds) : DpAll K H' xs ds := by
  obtain ⟨s, hs, _⟩ := hd
  exact monoA rmEx (monoA D.ex (dpAllRm hs ds xs hn h))
theorem noMs (ms : List Nat) : noLs (msD ms) = true := noLs_map (fun _ => rfl) ms
theorem allErase {K : PySem.W.Frag} {H : Hp} : ∀ {ds : List PyData} {vs : List V} (i : Nat), DpAll K H vs ds → DpAll K H (vs.eraseIdx i) (ds.eraseIdx i)
  | [], _, _, h => by cases h; exact .nil
  | e :: ds, _, 0, h => by
    cases h with
    | cons h1 h2 => exact h2
  | e :: ds, _, i + 1, h => by
    cases h with
    | cons h1 h2 => exact .cons h1 (allErase i h2)
theorem erase_map {α β : Type} (f : α → β) : ∀ (l : List α) (j : Nat), (l.map f).eraseIdx j = (l.eraseIdx j).map f
  | [], j => by simp
  | a :: r, 0 => by simp
  | a :: r, j + 1 => by
    have ih := erase_map f r j
    simp [ih]
theorem erase_perm {α : Type} : ∀ {l : List α} {j : Nat} {x : α}, l[j]? = some x → (x :: l.eraseIdx j).Perm l
  | [], _, _, h => by simp at h
  | a :: r, 0, x, h => by
    have e : a = x := by simpa using h
    rw [e]; exact List.Perm.refl _
  | a :: r, j + 1, x, h => by
    have ih := erase_perm (l := r) (j := j) (x := x) (by simpa using h)
    exact (List.Perm.swap a x _).trans (ih.cons a)
/-! ### _law_mixed -/
def spMixed (K : PySem.W.Frag) : Sp := fun vs H Q _ => ∃ (d : Addr) (v : V) (rs : List (Nat × Nat)), vs = [.ref d, v] ∧ DSt H d ∧ Dp K H v (sD rs) ∧ rs.length ≤ 100 ∧
  ∀ (us : List (Nat × Nat)) p xs H', us.Perm rs → H p = none → Dk d H H' → H' p = some (.lst xs) → DpAll K H' xs (us.map rD) → Q (.ref p) H'
theorem eqv_nil (r : Nat × Nat) (rs : List (Nat × Nat)) : PyData.eqv (sD (r :: rs)) (.list []) = false := by
  unfold sD
  rw [List.map_cons]
  simp [PyData.eqv, PyData.eqvAll]
section
variable {P : Program} {w : World} {K : PySem.W.Frag} {mg : Str → Option Value} {base : Heap}
end

/-! ### _law_text -/
theorem num_asc {k : Nat} (hk : k < 100) : Asc (ST.num k) := fun c hc => by
  have := ST.num_dig hk c hc
  omega
theorem wd_asc {a e : Nat} (ha : a < 100) (he : e < 100) : Asc (ST.wd a e) := by
  unfold ST.wd
  split
  · exact num_asc ha
  · intro c hc
    rcases List.mem_append.mp hc with z | z
    · exact num_asc ha c z
    · rcases List.mem_cons.mp z with z | z
      · rw [z]; decide
      · exact num_asc he c z
theorem join_asc : ∀ {ws : List (List Nat)}, (∀ w ∈ ws, Asc w) → Asc (TL.joinL [44] ws)
  | [], _ => fun c hc => by cases hc
  | [w], h => h w List.mem_cons_self
  | w :: v :: ws, h => fun c hc => by
    have ih := join_asc (ws := v :: ws) fun u hu => h u (List.mem_cons_of_mem _ hu)
    have hc : c ∈ w ++ ([44] ++ TL.joinL [44] (v :: ws)) := hc
    rcases List.mem_append.mp hc with z | z
    · exact h w List.mem_cons_self c z
    · rcases List.mem_append.mp z with z | z
      · rw [List.mem_singleton.mp z]; decide
      · exact ih c z
theorem join_len : ∀ ws : List (List Nat), (TL.joinL [44] ws).length ≤ (ws.map fun w => w.length + 1).sum
  | [] => Nat.zero_le _
  | [w] => by
    show w.length ≤ w.length + 1 + 0
    omega
  | w :: v :: ws => by
    have ih := join_len (v :: ws)
    show (w ++ ([44] ++ TL.joinL [44] (v :: ws))).length ≤ _
    rw [List.length_append, List.length_append, List.map_cons, List.sum_cons]
    show w.length + (1 + _) ≤ _
    omega
theorem sum_len {k : Nat} : ∀ {ws : List (List Nat)}, (∀ w ∈ ws, w.length ≤ k) → (ws.map fun w => w.length + 1).sum ≤ ws.length * (k + 1)
  | [], _ => Nat.zero_le _
  | w :: ws, h => by
    have ih := sum_len (ws := ws) fun u hu => h u (List.mem_cons_of_mem _ hu)
    have := h w List.mem_cons_self
    rw [List.map_cons, List.sum_cons, List.length_cons, Nat.succ_mul]
    omega
theorem sum_len0 {k : Nat} : ∀ {ws : List (List Nat)}, (∀ w ∈ ws, w.length ≤ k) → (ws.map (·.length)).sum ≤ ws.length * k
  | [], _ => Nat.zero_le _
  | w :: ws, h => by
    have ih := sum_len0 (ws := ws) fun u hu => h u (List.mem_cons_of_mem _ hu)
    have := h w List.mem_cons_self
    rw [List.map_cons, List.sum_cons, List.length_cons, Nat.succ_mul]
    omega
section
variable {P : Program} {w : World} {K : PySem.W.Frag} {mg : Str → Option Value} {base : Heap}
def spText (K : PySem.W.Frag) : Sp := fun vs H Q _ => ∃ (d : Addr) (v : V) (n : Nat) (m : Nat → Bool), vs = [.ref d, v] ∧ DSt H d ∧ Dp K H v (.list (msD ((List.range n).filter m))) ∧ n ≤ 64 ∧ ∀ (t : List Nat) H', t.length ≤ 500 → Asc t → Dk d H H' → Q (.str (ST.mk t)) H'
theorem ok_ltext {f f1 f2 : Addr} {fd fd1 fd2 : FuncData} {k : Nat} (F : Fun K "_law_text" "_law_text" sLawText f fd)
    (F1 : FnOk P w K mg base CX0 (k + 1) f1 fd1 ["_law_d", "_law_most"] spOff) (g1 : mg "_law_off" = some (.ref f1)) (k1 : PySem.W.keepIn K (.ref f1) = true) (b1 : Binds K fd1 ["_law_d", "_law_most"] [])
    (F2 : FnOk P w K mg base CX0 (k + 1) f2 fd2 ["_law_numbers"] (spN K RTold)) (g2 : mg "_law_told" = some (.ref f2)) (k2 : PySem.W.keepIn K (.ref f2) = true) (b2 : Binds K fd2 ["_law_numbers"] [])
    (mm : mg "min" = none) (mS : mg "str" = none) : FnOk P w K mg base CX0 (k + 2) f fd ["_law_d", "_law_numbers"] (spText K) := by
  refine F.ok scLawText (fun vs H Q E h => ?_) (fun cdv A outer s H vs Q E hr h => ?_)
  · obtain ⟨d, v, n, m, rfl, _⟩ := h
    rfl
  · obtain ⟨d, v, n, m, rfl, hd, hv, hn, q⟩ := h
    have nd := scLawText.nd
    refine ⟨_, pss_cons (ps_set (i := 2) nd rfl (.inl rfl) (pe_lst pa_nil))
      (pss_cons (ps_for PassesOwn.never rfl (pi_list (pe_call F2 hr (by rfl) g2 k2 b2 .nil pass0 (pa_cons (pv 1) pa_nil))) (pg_tup rfl (pgs_cons (pg_name (i := 3) nd rfl (.inl rfl)) (pgs_cons (pg_name (i := 4) nd rfl (.inl rfl)) pgs_nil)))
        (pss_one (ps_while PassesOwn.never (pt_cmpR op_le (pv 3) (pv 4) (nomark _))
          (pss_cons (ps_set (i := 5) nd rfl (.inl rfl) (pe_ix ix_list (pe_lst (pa_cons (pv 4) (pa_cons (pv 3) (pa_cons (pe_callB (call_min2 rfl) (by rfl) mm (by decide +kernel) (pa_cons (pv 4) (pa_cons (pe_op op_add (pv 3) (pe_call F1 hr (by rfl) g1 k1 b1 .nil pass0 (pa_cons (pv 0) (pa_cons pe_int pa_nil)))) pa_nil))) pa_nil)))) (pe_call F1 hr (by rfl) g1 k1 b1 .nil pass0 (pa_cons (pv 0) (pa_cons pe_int pa_nil))) (fun _ _ => rfl)))
          (pss_cons (ps_expr (pe_bm PySem.F.plainAttrs_list PySem.F.slot_list_append PySem.F.type_list_append mt_append (pv 2) (pa_cons (pe_ifExp (pt_cmpR op_eq (pv 5) (pv 3) (nomark _)) (pe_callTy call_str_int (by rfl) mS (by decide +kernel) (pa_cons (pv 3) pa_nil))
            (pe_op op_add_str (pe_op op_add_str (pe_callTy call_str_int (by rfl) mS (by decide +kernel) (pa_cons (pv 3) pa_nil)) pe_str) (pe_callTy call_str_int (by rfl) mS (by decide +kernel) (pa_cons (pv 5) pa_nil)))) pa_nil)))
          (pss_one (ps_set (i := 3) nd rfl (.inl rfl) (pe_op op_add (pv 5) pe_int))))))))
      (pss_one (ps_ret (pe_join pe_str (pv 2))))), ?_⟩
    refine ⟨Nat.zero_le _, fun l hl => ?_⟩
    have hld : l ≠ d := hd.ne hl
    have D1 := Dk.of hd (Ex.new (o := .lst []) hl)
    have hl1 : (upd H l (.lst [])) l = some (.lst []) := upd_same
    have hv1 : Dp K (upd H l (.lst [])) v (.list (msD ((List.range n).filter m))) := SB.mono (Ex.new hl) hv
    generalize upd H l (.lst []) = H1 at D1 hl1 hv1 ⊢
    refine nCall (K := K) (R := RTold) (da1 (dVar (v := v) rfl hv1)) ⟨n, m, rfl, hn, rfl⟩ H1 (Ex.refl H1) _ fun p xs H2 hp e2 h2 A2 => ⟨p, rfl, ⟨xs, sq_of h2⟩, ?_⟩
    have D2 := D1.trans (Dk.of D1.st e2)
    have hpd : p ≠ d := D1.st.ne hp
    have hpl : p ≠ l := Ne.symm (ne_of_none hl1 hp)
    have hxl : xs.length = (told m n).length := by rw [allLen A2, List.length_map]
    refine for_list (K := K) (a := p) (xs := xs) (fun i σ' H' => Dk d H H' ∧ H' p = some (.lst xs) ∧ DpAll K H' xs ((told m n).map rD) ∧ (∃ ws : List (List Nat), H' l = some (.lst ((ws.map ST.mk).map V.str)) ∧ (∀ w ∈ ws, w.length ≤ 5 ∧ Asc w) ∧ ws.length ≤ (match i with | 0 => 0 | j + 1 => ((told m n).getD j (0, 0)).2 + 1)) ∧ ∃ b3 b4 b5, σ' = [some (.ref d), some v, some (.ref l), b3, b4, b5])
      ⟨D2, h2, A2, ⟨[], e2 l _ hl1, fun _ h => by simp at h, Nat.le_refl _⟩, none, none, none, rfl⟩ (fun i σ' H' _ p => sq_of p.2.1) (fun i x σ' H' hx pv => ?_) (fun σ' H' pv => ?_)
    · obtain ⟨D, hp', A', ⟨ws, hl', hws, hwl⟩, b3, b4, b5, rfl⟩ := pv
      have hi : i < (told m n).length := by rw [← hxl]; exact (List.getElem?_eq_some_iff.mp hx).1
      have hxr : Dp K H' x (rD (told m n)[i]) := by
        have z := allAt A' hx
        rw [getD_map rD (List.getElem?_eq_getElem hi)] at z
        exact z
      have hr1 := (told_sep m n).le _ (List.getElem_mem hi)
      have hr2 := told_below m n _ (List.getElem_mem hi)
      have hwl2 : ws.length ≤ (told m n)[i].1 := by
        cases i with
        | zero => exact Nat.le_trans hwl (Nat.zero_le _)
        | succ j =>
          have hj : j < (told m n).length := by omega
          have := told_gap (List.getElem?_eq_getElem hj) (List.getElem?_eq_getElem hi)
          have hwl : ws.length ≤ ((told m n).getD j (0, 0)).2 + 1 := hwl
          rw [getD_at (0, 0) hj] at hwl
          omega
      have hnx : ∀ ws' : List (List Nat), ws'.length ≤ (told m n)[i].2 + 1 → ws'.length ≤ (match i + 1 with | 0 => 0 | j + 1 => ((told m n).getD j (0, 0)).2 + 1) := fun ws' h => by
        show ws'.length ≤ ((told m n).getD i (0, 0)).2 + 1
        rw [getD_at (0, 0) hi]
        exact h
      generalize (told m n)[i] = r at hxr hr1 hr2 hwl2 hnx
      refine gPair hxr fun y1 y2 h1 h2 => ?_
      cases dpInt h1
      cases dpInt h2
      refine s_while (fun k σ' H' => ∃ (a : Nat) (b5 : Option V), k = r.2 + 1 - a ∧ σ' = [some (.ref d), some v, some (.ref l), some (.int (a : Int)), some (.int (r.2 : Int)), b5] ∧ r.1 ≤ a ∧ a ≤ r.2 + 1 ∧ Dk d H H' ∧ H' p = some (.lst xs) ∧ DpAll K H' xs ((told m n).map rD) ∧ ∃ ws : List (List Nat), H' l = some (.lst ((ws.map ST.mk).map V.str)) ∧ (∀ w ∈ ws, w.length ≤ 5 ∧ Asc w) ∧ ws.length ≤ a) (r.2 + 1 - r.1) ⟨r.1, b5, rfl, rfl, Nat.le_refl _, by omega, D, hp', A', ws, hl', hws, hwl2⟩ (fun k σ' H3 hW => ?_)
      obtain ⟨a, b5', rfl, rfl, ha1, ha2, D3, hp3, A3, ws3, hl3, hws3, hwl3⟩ := hW
      refine ⟨decide ((a : Int) ≤ (r.2 : Int)), et_test (ev_op (ev_var rfl) (ev_var rfl) rv_I0), fun hb H4 e4 => ?_, fun hb H4 e4 => ?_⟩
      · have hab : a ≤ r.2 := by have := of_decide_eq_true hb; omega
        have D4 := D3.trans (Dk.of D3.st e4)
        refine ⟨fun σ2 H5 => ∃ (e : Nat) (b5 : Option V), a ≤ e ∧ e ≤ r.2 ∧ σ2 = [some (.ref d), some v, some (.ref l), some (.int ((e + 1 : Nat) : Int)), some (.int (r.2 : Int)), b5] ∧ Dk d H H5 ∧ H5 p = some (.lst xs) ∧ DpAll K H5 xs ((told m n).map rD) ∧ ∃ ws : List (List Nat), H5 l = some (.lst ((ws.map ST.mk).map V.str)) ∧ (∀ w ∈ ws, w.length ≤ 5 ∧ Asc w) ∧ ws.length ≤ a + 1, fun σ2 H5 hN => ?_, ?_⟩
        · obtain ⟨e, b5, he1, he2, z1, z2, z3, z4, ws5, z5, z6, z7⟩ := hN
          exact ⟨r.2 + 1 - (e + 1), by omega, e + 1, b5, rfl, z1, by omega, by omega, z2, z3, z4, ws5, z5, z6, by omega⟩
        · refine ⟨.int (r.2 : Int), rfl, .int (a : Int), rfl, .int (r.2 : Int), rfl, .int (a : Int), rfl, ?_⟩
          refine offCall (d := d) (m := 4) rfl (fun Q q => q) D4.st (by decide) fun y H5 hy0 hy1 D5 => ⟨(a : Int), y, rfl, rfl, (r.2 : Int), (a : Int) + y, rfl, by show 3 ≤ sizeLine; decide, fun T hT => ?_⟩
          obtain ⟨mn, hmn, hmn1, hmn2⟩ : ∃ mn : Nat, (if (a : Int) + y < (r.2 : Int) then (a : Int) + y else (r.2 : Int)) = (mn : Int) ∧ a ≤ mn ∧ mn ≤ r.2 := by
            by_cases c : (a : Int) + y < (r.2 : Int)
            · exact ⟨((a : Int) + y).toNat, by rw [if_pos c]; omega, by omega, by omega⟩
            · exact ⟨r.2, by rw [if_neg c], hab, Nat.le_refl _⟩
          rw [hmn]
          have D5' := (D4.trans D5).trans (Dk.of D5.st (Ex.new (o := .lst [.int (r.2 : Int), .int (a : Int), .int (mn : Int)]) hT))
          have hTd : T ≠ d := D5.st.ne hT
          refine offCall (d := d) (m := 3) rfl (fun Q q => q) D5'.st (by decide) fun z H6 hz0 hz1 D6 => ?_
          refine ⟨T, ([(r.2 : Int), (a : Int), (mn : Int)] : List Int).map V.int, z, _, rfl, rfl, SqL.of (D6.keep hTd upd_same), small_at hz0 hz1, ?_⟩
          obtain ⟨e, he, he1, he2⟩ : ∃ e : Nat, ([(r.2 : Int), (a : Int), (mn : Int)] : List Int).getD z.toNat 0 = (e : Int) ∧ a ≤ e ∧ e ≤ r.2 := by
            obtain ⟨j, rfl⟩ : ∃ j : Nat, z = (j : Int) := ⟨z.toNat, by omega⟩
            rw [Int.toNat_natCast]
            have hj : j < 3 := by omega
            match j, hj with
            | 0, _ => exact ⟨r.2, rfl, hab, Nat.le_refl _⟩
            | 1, _ => exact ⟨a, rfl, Nat.le_refl _, hab⟩
            | 2, _ => exact ⟨mn, rfl, hmn1, hmn2⟩
          rw [he]
          have D7 := D5'.trans D6
          have h4p : H4 p = some (.lst xs) := e4 p _ hp3
          have h4l : H4 l = some (.lst ((ws3.map ST.mk).map V.str)) := e4 l _ hl3
          have hTp : p ≠ T := ne_of_none (D5.keep hpd h4p) hT
          have hTl : l ≠ T := ne_of_none (D5.keep hld h4l) hT
          have h6p : H6 p = some (.lst xs) := D6.keep hpd (by rw [upd_ne hTp]; exact D5.keep hpd h4p)
          have h6l : H6 l = some (.lst ((ws3.map ST.mk).map V.str)) := D6.keep hld (by rw [upd_ne hTl]; exact D5.keep hld h4l)
          have A6 : DpAll K H6 xs ((told m n).map rD) := D6.keepT (Dk.of D5.st (Ex.new hT)).st (noRs _) (monoA (Ex.new hT) (D5.keepT D4.st (noRs _) (monoA e4 A3)))
          refine ⟨.ref l, rfl, .inl ⟨rfl, _, SqL.of h6l⟩, ?_⟩
          have na := ST.num_len a
          have ne := ST.num_len e
          have WD : ∀ {σ : L2.St}, σ[3]? = some (some (.int (a : Int))) → σ[5]? = some (some (.int (e : Int))) → Ev (tIf (tTest (tOp rEq (tVar 5) (tVar 3))) (tCB (fun xs H Q => ∃ i : Int, xs = [.int i] ∧ i.natAbs.log2 < 1920 ∧ Q (.str (toString i)) H) (tCons (tVar 3) tNil)) (tOp (fun x y H Q => ∃ i j, x = V.str i ∧ y = V.str j ∧ i.length + j.length ≤ sizeLine ∧ Q (V.str (i ++ j)) H) (tOp (fun x y H Q => ∃ i j, x = V.str i ∧ y = V.str j ∧ i.length + j.length ≤ sizeLine ∧ Q (V.str (i ++ j)) H) (tCB (fun xs H Q => ∃ i : Int, xs = [.int i] ∧ i.natAbs.log2 < 1920 ∧ Q (.str (toString i)) H) (tCons (tVar 3) tNil)) (tC (.str (PySem.Str.ofString "-")))) (tCB (fun xs H Q => ∃ i : Int, xs = [.int i] ∧ i.natAbs.log2 < 1920 ∧ Q (.str (toString i)) H) (tCons (tVar 5) tNil)))) σ H6 (.str (ST.mk (ST.wd a e))) := fun {σ} h3 h5 => by
            refine ev_if (b := decide (V.int (e : Int) = V.int (a : Int))) (et_test (ev_op (ev_var h5) (ev_var h3) (rv_eq rfl))) (fun hb => ?_) (fun hb => ?_)
            · have z : e = a := by have := V.int.inj (of_decide_eq_true hb); omega
              unfold ST.wd
              rw [if_pos z]
              exact strI (ev_var h3) (by omega) rfl
            · have z : ¬ e = a := fun z => by rw [z, decide_eq_true rfl] at hb; cases hb
              unfold ST.wd
              rw [if_neg z, show ST.num a ++ 45 :: ST.num e = (ST.num a ++ [45]) ++ ST.num e by rw [List.append_assoc]; rfl]
              exact catS (catE (b := [45]) (strI (ev_var h3) (by omega) rfl) (by decide +kernel) (by show _ + 1 ≤ _; omega) rfl rfl) (strI (ev_var h5) (by omega) rfl) (by rw [List.length_append]; show _ + 1 + _ ≤ _; omega) rfl
          refine WD rfl rfl H6 (Ex.refl H6) _ fun H7 e7 => ?_
          have h7l := e7 l _ h6l
          refine ⟨l, _, _, rfl, rfl, h7l, sz_lt (by rw [List.length_map, List.length_map]; omega), ?_⟩
          refine ⟨.int (e : Int), rfl, (e : Int), 1, rfl, rfl, e, some (.int (e : Int)), he1, he2, by rw [Int.natCast_add]; rfl, ?_, ?_, ?_, ws3 ++ [ST.wd a e], ?_, ?_, ?_⟩
          · have D8 := D7.trans (Dk.of D7.st e7)
            refine ⟨?_, ?_⟩
            · obtain ⟨s', z1, z2, z3⟩ := D8.st
              exact ⟨s', by rw [upd_ne (Ne.symm hld)]; exact z1, z2, z3⟩
            · rw [rmNew hld]
              exact Ex.mut D8.ex (by rw [rmNe hld]; exact hl)
          · rw [upd_ne hpl]; exact e7 p _ h6p
          · exact SG.keepT h7l (noRs _) (monoA e7 A6)
          · rw [upd_same, List.map_append, List.map_append]; rfl
          · intro w hw
            rcases List.mem_append.mp hw with z | z
            · exact hws3 w z
            · rw [List.mem_singleton.mp z]
              exact ⟨wd_len, wd_asc (by omega) (by omega)⟩
          · rw [List.length_append]
            show ws3.length + 1 ≤ a + 1
            omega
      · have hab : a = r.2 + 1 := by have := of_decide_eq_false hb; omega
        exact ⟨D3.trans (Dk.of D3.st e4), e4 p _ hp3, monoA e4 A3, ⟨ws3, e4 l _ hl3, hws3, hnx ws3 (by omega)⟩, _, _, _, rfl⟩
    · obtain ⟨D, hp', A', ⟨ws, hl', hws, hwl⟩, b3, b4, b5, rfl⟩ := pv
      have hwl2 : ws.length ≤ 64 := by
        rw [hxl] at hwl
        cases e : (told m n).length with
        | zero => rw [e] at hwl; exact Nat.le_trans hwl (show 0 ≤ 64 from Nat.zero_le _)
        | succ j =>
          rw [e] at hwl
          have hj : j < (told m n).length := by omega
          have hwl : ws.length ≤ ((told m n).getD j (0, 0)).2 + 1 := hwl
          rw [getD_at (0, 0) hj] at hwl
          have := told_below m n _ (List.getElem_mem hj)
          omega
      have hw5 : ∀ w ∈ ws, w.length ≤ 5 := fun w hw => (hws w hw).1
      refine ⟨⟨_, rfl⟩, .ref l, rfl, _, l, ws.map ST.mk, rfl, rfl, .inl (sq_of hl'), ?_, ?_⟩
      · have z : (ws.map ST.mk).map (·.length) = ws.map (·.length) := by
          rw [List.map_map]
          exact List.map_congr_left fun w _ => ST.mk_len w
        have := sum_len0 hw5
        rw [z, List.length_map, show PySem.Str.ofString "," = ST.mk [44] by decide +kernel, ST.mk_len]
        show _ + _ * 1 ≤ _
        omega
      · rw [show PySem.Str.ofString "," = ST.mk [44] by decide +kernel, ST.join_mk]
        have := join_len ws
        have := sum_len hw5
        exact q _ H' (by omega) (join_asc fun w hw => (hws w hw).2) D
end

/-! ### _law_changed -/
def rMul01 : R2 := fun x y H Q => ∃ (a : Str) (k : Int), x = .str a ∧ y = .int k ∧ (k = 0 ∨ k = 1) ∧ Q (.str (if k = 0 then Str.empty else a)) H
theorem op_mul01 {X : Cx} : OpR X (binaryOp .Mult) rMul01 := by
  intro pins s σ H x y v u Q I rx ry h
  obtain ⟨a, k, rfl, rfl, hk, q⟩ := h
  obtain ⟨t, rfl⟩ := rx
  obtain ⟨t', rfl⟩ := ry
  rcases hk with rfl | rfl
  · exact P.mul_str_none (by decide) (by decide) ⟨.str Str.empty, H, I.tok _, ⟨_, rfl⟩, q⟩
  · exact P.mul_str (by decide) (fun _ h => by simp at h) (fun _ h => by simp at h) ⟨.str a, H, I, ⟨_, rfl⟩, q⟩
theorem spl_sum : ∀ (l acc : List Nat), ((TL.spl [44] 0 acc l).map fun w => w.length + 1).sum = acc.length + l.length + 1
  | [], acc => by
    rw [TL.spl_nil]
    show acc.length + 1 + 0 = acc.length + 0 + 1
    omega
  | c :: r, acc => by
    unfold TL.spl
    by_cases e : TL.pre [44] (c :: r) = true
    · rw [if_pos e, List.map_cons, List.sum_cons]
      have := spl_sum r []
      rw [List.length_nil] at this
      show _ + ((TL.spl [44] 0 [] r).map _).sum = _
      rw [this, List.length_cons]
      omega
    · rw [if_neg e, spl_sum r (acc ++ [c])]
      simp only [List.length_append, List.length_cons, List.length_nil]
      omega
theorem sum_cut (ws : List (List Nat)) (a b : Nat) : (((ws.drop a).take b).map fun w => w.length + 1).sum ≤ (ws.map fun w => w.length + 1).sum := by
  have h1 : ∀ (l : List Nat) (n : Nat), (l.take n).sum ≤ l.sum := fun l n => by
    have := List.sum_append (l₁ := l.take n) (l₂ := l.drop n)
    rw [List.take_append_drop] at this
    omega
  have h2 : ∀ (l : List Nat) (n : Nat), (l.drop n).sum ≤ l.sum := fun l n => by
    have := List.sum_append (l₁ := l.take n) (l₂ := l.drop n)
    rw [List.take_append_drop] at this
    omega
  rw [List.map_take, List.map_drop]
  exact Nat.le_trans (h1 _ _) (h2 _ _)
theorem mem_cut {α : Type} {l : List α} {a b : Nat} {x : α} (h : x ∈ (l.drop a).take b) : x ∈ l := List.mem_of_mem_drop (List.mem_of_mem_take h)
theorem sum_len1 : ∀ ws : List (List Nat), (ws.map (·.length)).sum ≤ (ws.map fun w => w.length + 1).sum
  | [] => Nat.le_refl _
  | w :: ws => by
    have := sum_len1 ws
    rw [List.map_cons, List.sum_cons, List.map_cons, List.sum_cons]
    omega
theorem cnt_sum : ∀ ws : List (List Nat), ws.length ≤ (ws.map fun w => w.length + 1).sum
  | [] => Nat.le_refl _
  | w :: ws => by
    have := cnt_sum ws
    rw [List.map_cons, List.sum_cons, List.length_cons]
    omega
theorem mk_self (z : Str) : z = ST.mk z.cps.toList := by
  obtain ⟨a⟩ := z
  unfold ST.mk
  rw [Array.toArray_toList]
def okV : V → Bool
  | .str z => decide (z.cps.toList.length ≤ 5) && z.cps.toList.all fun c => decide (c < 1000)
  | _ => false
theorem okV_mk {v : V} (h : okV v = true) : ∃ w, v = .str (ST.mk w) ∧ w.length ≤ 5 ∧ Asc w := by
  cases v with
  | str z =>
    obtain ⟨h1, h2⟩ := Bool.and_eq_true_iff.mp h
    exact ⟨z.cps.toList, congrArg V.str (mk_self z), of_decide_eq_true h1, fun c hc => of_decide_eq_true (List.all_eq_true.mp h2 c hc)⟩
  | _ => cases h
theorem at_in {xs : List V} {r : Int} (h0 : 0 ≤ r) (h1 : r < (xs.length : Int)) : ∃ v, atI xs r = some v ∧ v ∈ xs := by
  obtain ⟨j, rfl⟩ : ∃ j : Nat, r = (j : Int) := ⟨r.toNat, by omega⟩
  have hj : j < xs.length := by omega
  exact ⟨xs[j], atI_nat (List.getElem?_eq_getElem hj), List.getElem_mem hj⟩
section
variable {K : PySem.W.Frag} {σ : L2.St} {H : Hp}
/-- words[a:b] -/
theorem nSlT {ta : TE} {lo hi : TO} {ol oh : Option Int} {p : Addr} {ws : List (List Nat)} (ha : Ev ta σ H (.ref p)) (hp : H p = some (.lst ((ws.map ST.mk).map V.str))) (hl : EvO lo σ H ol) (hh : EvO hi σ H oh) :
    ∃ ws' : List (List Nat), EvN K (tSl (rSlL K) ta lo hi) σ H (ws'.map tD) ∧ (∀ w ∈ ws', w ∈ ws) ∧ (ws'.map fun w => w.length + 1).sum ≤ (ws.map fun w => w.length + 1).sum := by
  refine ⟨(ws.drop (HT.sIx ((ws.map ST.mk).map V.str).length 0 ol)).take (HT.sIx ((ws.map ST.mk).map V.str).length ((ws.map ST.mk).map V.str).length oh - HT.sIx ((ws.map ST.mk).map V.str).length 0 ol), fun H1 e Q q => ?_, fun w h => mem_cut h, sum_cut _ _ _⟩
  refine el_sl (K := K) ha hl hh (sq_of hp) H1 e Q fun p' H2 hp' e2 h2 => q p' _ H2 hp' e2 h2 ?_
  unfold cutV
  rw [← List.map_drop, ← List.map_take, ← List.map_drop, ← List.map_take]
  exact allTs _
/-- ",".join of such -/
theorem joinCh {te : TE} {r : V → List V → Hp → VK → Prop} {ws : List (List Nat)} {b : Nat} (h : EvN K te σ H (ws.map tD)) (hs : (ws.map fun w => w.length + 1).sum ≤ b) (hb : b ≤ 50000) (ha : ∀ w ∈ ws, Asc w)
    (hr : r = fun x xs H Q => ∃ a p, ∃ ys : List Str, x = .str a ∧ xs = [.ref p] ∧ (SqL K H p (ys.map V.str) ∨ SqT K H p (ys.map V.str)) ∧ (ys.map (·.length)).sum + ys.length * a.length ≤ 16777216 ∧ Q (.str (Txt.join a ys)) H) :
    ∃ t : List Nat, Ev (tM1 r (tC (.str (PySem.Str.ofString ","))) te) σ H (.str (ST.mk t)) ∧ t.length ≤ b ∧ Asc t := by
  refine ⟨TL.joinL [44] ws, joinTs (S := [44]) (by decide +kernel) h ?_ hr, Nat.le_trans (join_len ws) hs, join_asc ha⟩
  have h1 := sum_len1 ws
  have h2 := cnt_sum ws
  show _ + _ * 1 ≤ _
  omega
/-- text[a:b] -/
theorem evSlS {ta : TE} {lo hi : TO} {ol oh : Option Int} {t : List Nat} (ha : Ev ta σ H (.str (ST.mk t))) (ht : t.length ≤ 90000) (hl : EvO lo σ H ol) (hh : EvO hi σ H oh) : ∃ t' : List Nat, Ev (tSl rSlS ta lo hi) σ H (.str (ST.mk t')) ∧ t'.length ≤ t.length ∧ ∀ c ∈ t', c ∈ t := by
  refine ⟨(t.drop (HT.sIx (ST.mk t).length 0 ol)).take (HT.sIx (ST.mk t).length (ST.mk t).length oh - HT.sIx (ST.mk t).length 0 ol), fun H1 e Q q => ?_, ?_, fun c h => mem_cut h⟩
  · exact ha H1 e _ fun H2 e2 => hl H2 (e.trans e2) _ fun H3 e3 => hh H3 ((e.trans e2).trans e3) _ fun H4 e4 => ⟨_, rfl, by rw [ST.mk_len]; exact sz_of (by omega), q H4 ((e2.trans e3).trans e4)⟩
  · rw [List.length_take, List.length_drop]
    omega
end
section
variable {P : Program} {w : World} {K : PySem.W.Frag} {mg : Str → Option Value} {base : Heap}
def spChange (K : PySem.W.Frag) : Sp := fun vs H Q _ => ∃ (d : Addr) (t : List Nat), vs = [.ref d, .str (ST.mk t)] ∧ DSt H d ∧ t.length ≤ 10000 ∧ Asc t ∧ ∀ (t' : List Nat) H', t'.length ≤ 3 * t.length + 20 → Asc t' → Dk d H H' → Q (.str (ST.mk t')) H'
def oddA : List V := [.str "", .str "-", .str "1-", .str "-1", .str "2-2", .str "5-3", .str "00", .str "01", .str "64", .str "99", .str "100", .str "1-2-3", .str "a", .str "^", .str "^1", .str "1^", .str " 1", .str "1 "]
def oddB : List V := [.str "+1", .str "0-0", .str "3--5", .str "0-63", .str "63", .str "0", .str "7", .str "12-19", .str "1.5", .str "1-x"]
theorem odd_all : (oddA ++ oddB).all okV = true := by decide +kernel
theorem ok_lchange {f f1 : Addr} {fd fd1 : FuncData} {k : Nat} (F : Fun K "_law_changed" "_law_changed" sLawChanged f fd)
    (F1 : FnOk P w K mg base CX0 (k + 1) f1 fd1 ["_law_d", "_law_most"] spOff) (g1 : mg "_law_off" = some (.ref f1)) (k1 : PySem.W.keepIn K (.ref f1) = true) (b1 : Binds K fd1 ["_law_d", "_law_most"] []) (ml : mg "len" = none) :
    FnOk P w K mg base CX0 (k + 2) f fd ["_law_d", "_law_text_here"] (spChange K) := by
  refine F.ok scLawChanged (fun vs H Q E h => ?_) (fun cdv A outer s H vs Q E hr h => ?_)
  · obtain ⟨d, t, rfl, _⟩ := h
    rfl
  · obtain ⟨d, t, rfl, hd, ht, hA, q⟩ := h
    have nd := scLawChanged.nd
    refine ⟨_, pss_cons (ps_set (i := 2) nd rfl (.inl rfl) (pe_split (pv 1) pe_str))
      (pss_cons (ps_set (i := 3) nd rfl (.inl rfl) (pe_call F1 hr (by rfl) g1 k1 b1 .nil pass0 (pa_cons (pv 0) (pa_cons (pe_op op_add (pe_callB call_len_seq (by rfl) ml PySem.boot_len (pa_cons (pv 2) pa_nil)) pe_int) pa_nil))))
      (pss_cons (ps_set (i := 4) nd rfl (.inl rfl) (pe_lst (pa_cons pe_str (pa_cons pe_str (pa_cons pe_str (pa_cons pe_str (pa_cons pe_str (pa_cons pe_str (pa_cons pe_str (pa_cons pe_str (pa_cons pe_str (pa_cons pe_str (pa_cons pe_str (pa_cons pe_str (pa_cons pe_str (pa_cons pe_str (pa_cons pe_str (pa_cons pe_str (pa_cons pe_str (pa_cons pe_str pa_nil))))))))))))))))))))
      (pss_cons (ps_set (i := 4) nd rfl (.inl rfl) (pe_op op_cat (pv 4) (pe_lst (pa_cons pe_str (pa_cons pe_str (pa_cons pe_str (pa_cons pe_str (pa_cons pe_str (pa_cons pe_str (pa_cons pe_str (pa_cons pe_str (pa_cons pe_str (pa_cons pe_str pa_nil)))))))))))))
      (pss_cons (ps_set (i := 5) nd rfl (.inl rfl) (pe_ix ix_list (pv 4) (pe_call F1 hr (by rfl) g1 k1 b1 .nil pass0 (pa_cons (pv 0) (pa_cons pe_int pa_nil))) (fun _ _ => rfl)))
      (pss_cons (ps_set (i := 6) nd rfl (.inl rfl) (pe_call F1 hr (by rfl) g1 k1 b1 .nil pass0 (pa_cons (pv 0) (pa_cons pe_int pa_nil))))
      (pss_cons (ps_if (pt_cmpR op_lt (pv 6) pe_int (nomark _)) (pss_one (ps_ret (pe_join pe_str (pe_op op_cat (pe_op op_cat (pe_slice sl_list (pv 2) po_none (po_some (pv 3))) (pe_lst (pa_cons (pv 5) pa_nil))) (pe_slice sl_list (pv 2) (po_some (pe_op op_add (pv 3) (pv 6))) po_none))))) pss_nil)
      (pss_cons (ps_if (pt_cmpR op_eq (pv 6) pe_int (nomark _)) (pss_one (ps_ret (pe_join pe_str (pe_op op_cat (pe_slice sl_list (pv 2) po_none (po_some (pv 3))) (pe_slice sl_list (pv 2) (po_some (pe_op op_add (pv 3) pe_int)) po_none))))) pss_nil)
      (pss_cons (ps_if (pt_cmpR op_eq (pv 6) pe_int (nomark _)) (pss_one (ps_ret (pe_join pe_str (pe_op op_cat (pe_op op_cat (pe_slice sl_list (pv 2) po_none (po_some (pv 3))) (pe_slice sl_list (pv 2) (po_some (pv 3)) (po_some (pe_op op_add (pv 3) pe_int)))) (pe_slice sl_list (pv 2) (po_some (pv 3)) po_none))))) pss_nil)
      (pss_cons (ps_set (i := 7) nd rfl (.inl rfl) (pe_call F1 hr (by rfl) g1 k1 b1 .nil pass0 (pa_cons (pv 0) (pa_cons (pe_op op_add (pe_callB call_len_str (by rfl) ml PySem.boot_len (pa_cons (pv 1) pa_nil)) pe_int) pa_nil))))
      (pss_one (ps_ret (pe_op op_add_str (pe_op op_add_str (pe_slice sl_str (pv 1) po_none (po_some (pv 7))) (pe_op op_mul01 (pe_ix ix_str pe_str (pe_call F1 hr (by rfl) g1 k1 b1 .nil pass0 (pa_cons (pv 0) (pa_cons pe_int pa_nil))) (fun _ _ => rfl)) (pe_call F1 hr (by rfl) g1 k1 b1 .nil pass0 (pa_cons (pv 0) (pa_cons pe_int pa_nil)))))
        (pe_slice sl_str (pv 1) (po_some (pe_op op_add (pv 7) (pe_call F1 hr (by rfl) g1 k1 b1 .nil pass0 (pa_cons (pv 0) (pa_cons pe_int pa_nil))))) po_none))))))))))))), ?_⟩
    have S0 : EvN K (tM1 (fun x xs H Q => ∃ a b, x = .str a ∧ xs = [.str b] ∧ (b.length == 0) = false ∧ a.length + 2 ≤ sizeLine ∧ rNewStrs (Txt.split a b) H Q) (tVar 1) (tC (.str (PySem.Str.ofString ",")))) [some (.ref d), some (.str (ST.mk t)), none, none, none, none, none, none] H ((TL.spl [44] 0 [] t).map tD) := nSplit (ev_var rfl) (by omega) rfl
    refine sAsgN S0 fun pw xw H1 hpw e1 h1 A1 => ?_
    have hsum := spl_sum t []
    have hasc : ∀ w ∈ TL.spl [44] 0 [] t, Asc w := fun w hw c hc => by
      rcases spl_sub _ _ _ _ w hw c hc with z | z
      · cases z
      · exact hA c z
    have hcnt := spl_cnt [44] t [] 0
    generalize TL.spl [44] 0 [] t = ws at A1 hsum hasc hcnt
    rw [strsAllT A1] at h1
    have hsum : (ws.map fun w => w.length + 1).sum = t.length + 1 := by rw [hsum]; show 0 + _ + 1 = _; omega
    have D1 := Dk.of hd e1
    have hwd : pw ≠ d := hd.ne hpw
    refine offCall (d := d) (m := (ws.length : Int) + 1) rfl (fun Q q => ⟨.ref pw, rfl, pw, _, rfl, .inl (sq_of h1), _, 1, by rw [List.length_map, List.length_map], rfl, q⟩) D1.st ⟨by omega, by omega⟩ fun at_ H2 ha0 ha1 D2 => ?_
    have h2 := D2.keep hwd h1
    refine ⟨by show 18 ≤ sizeLine; decide, fun po hpo => ?_⟩
    have D3 := (D1.trans D2).trans (Dk.of D2.st (Ex.new (o := .lst oddA) hpo))
    have h3 : (upd H2 po (.lst oddA)) pw = some (.lst ((ws.map ST.mk).map V.str)) := (Ex.new hpo) pw _ h2
    have h3o : (upd H2 po (.lst oddA)) po = some (.lst oddA) := upd_same
    show tSeq _ _ _ _ (upd H2 po (.lst oddA))
    generalize upd H2 po (.lst oddA) = H3 at D3 h3 h3o ⊢
    refine ⟨.ref po, rfl, by show 10 ≤ sizeLine; decide, fun p2 hp2 => ?_⟩
    have D4 := D3.trans (Dk.of D3.st (Ex.new (o := .lst oddB) hp2))
    refine ⟨po, p2, oddA, oddB, rfl, rfl, (Ex.new hp2) po _ h3o, upd_same, by show 28 ≤ sizeLine; decide, fun p3 hp3 => ?_⟩
    have D5 := D4.trans (Dk.of D4.st (Ex.new (o := .lst (oddA ++ oddB)) hp3))
    have h5 : (upd (upd H3 p2 (.lst oddB)) p3 (.lst (oddA ++ oddB))) pw = some (.lst ((ws.map ST.mk).map V.str)) := (Ex.new hp3) pw _ ((Ex.new hp2) pw _ h3)
    have h5o : (upd (upd H3 p2 (.lst oddB)) p3 (.lst (oddA ++ oddB))) p3 = some (.lst (oddA ++ oddB)) := upd_same
    show tSeq _ _ _ _ (upd (upd H3 p2 (.lst oddB)) p3 (.lst (oddA ++ oddB)))
    generalize upd (upd H3 p2 (.lst oddB)) p3 (.lst (oddA ++ oddB)) = H5 at D5 h5 h5o ⊢
    have h3d : p3 ≠ d := D4.st.ne hp3
    refine ⟨.ref p3, rfl, offCall (d := d) (m := 28) rfl (fun Q q => q) D5.st (by decide) fun r6 H6 hr0 hr1 D6 => ?_⟩
    obtain ⟨v, hv, hvm⟩ := at_in (xs := oddA ++ oddB) hr0 hr1
    obtain ⟨wd, rfl, hwd5, hwdA⟩ := okV_mk (List.all_eq_true.mp odd_all v hvm)
    refine ⟨p3, oddA ++ oddB, r6, _, rfl, rfl, sq_of (D6.keep h3d h5o), hv, ?_⟩
    have h6 := D6.keep hwd h5
    have D6' := D5.trans D6
    refine offCall (d := d) (m := 5) rfl (fun Q q => q) D6'.st (by decide) fun kd H7 hk0 hk1 D7 => ?_
    have h7 := D7.keep hwd h6
    have D7' := D6'.trans D7
    have fin : ∀ {σ : L2.St} {H8 : Hp} {te : TE} {ws' : List (List Nat)} {r : V → List V → Hp → VK → Prop}, Ex H7 H8 → EvN K te σ H8 (ws'.map tD) → (ws'.map fun w => w.length + 1).sum ≤ 3 * t.length + 20 → (∀ w ∈ ws', Asc w) → (r = fun x xs H Q => ∃ a p, ∃ ys : List Str, x = .str a ∧ xs = [.ref p] ∧ (SqL K H p (ys.map V.str) ∨ SqT K H p (ys.map V.str)) ∧ (ys.map (·.length)).sum + ys.length * a.length ≤ 16777216 ∧ Q (.str (Txt.join a ys)) H) →
        tM1 r (tC (.str (PySem.Str.ofString ","))) te σ H8 Q := fun {σ H8 te ws' r} e8 hN hs hA hr => by
      obtain ⟨t', hE, hl, hA'⟩ := joinCh hN hs (by omega) hA hr
      exact hE H8 (Ex.refl H8) _ fun H9 e9 => q t' H9 hl hA' (D7'.trans (Dk.of D7'.st (e8.trans e9)))
    have lsum : ∀ {w1 w2 : List (List Nat)}, ((w1 ++ w2).map fun w => w.length + 1).sum = (w1.map fun w => w.length + 1).sum + (w2.map fun w => w.length + 1).sum := fun {w1 w2} => by rw [List.map_append, List.sum_append]
    have cap : ∀ {w1 : List (List Nat)}, (w1.map fun w => w.length + 1).sum ≤ (ws.map fun w => w.length + 1).sum → (w1.map tD).length ≤ 20000 := fun {w1} h => by
      rw [List.length_map]
      have := cnt_sum w1
      omega
    refine s_if (b := decide (kd < 2)) (et_test (ev_op (ev_var rfl) ev_c rv_I0)) (fun _ H8 e8 => ?_) (fun hb H8 e8 => ?_)
    · have h8 := e8 pw _ h7
      obtain ⟨w1, N1, s1, l1⟩ := nSlT (K := K) (σ := [some (.ref d), some (.str (ST.mk t)), some (.ref pw), some (.int at_), some (.ref p3), some (.str (ST.mk wd)), some (.int kd), none]) (ta := tVar 2) (ev_var rfl) h8 eo_none (eo_some (te := tVar 3) (i := at_) (ev_var rfl))
      obtain ⟨w2, N2, s2, l2⟩ := nSlT (K := K) (σ := [some (.ref d), some (.str (ST.mk t)), some (.ref pw), some (.int at_), some (.ref p3), some (.str (ST.mk wd)), some (.int kd), none]) (ta := tVar 2) (ev_var rfl) h8 (eo_some (te := tOp (rI0 fun i j => .int (i + j)) (tVar 3) (tVar 6)) (i := at_ + kd) (ev_op (ev_var rfl) (ev_var rfl) rv_I0)) eo_none
      have c1 := cap l1
      have c2 := cap l2
      have N := nCat (nCat N1 (nLst (da1 (EvD.of (ev_var (v := .str (ST.mk wd)) (i := 5) rfl) (.str _))) (by show 1 ≤ 100000; decide)) (by show _ + 1 ≤ _; omega)) N2 (by rw [List.length_append]; show _ + 1 + _ ≤ _; omega)
      rw [show w1.map tD ++ [PyData.str (ST.mk wd)] ++ w2.map tD = (w1 ++ [wd] ++ w2).map tD by rw [List.map_append, List.map_append]; rfl] at N
      refine fin e8 N ?_ (fun w hw => ?_) rfl
      · rw [lsum, lsum]
        show _ + (wd.length + 1 + 0) + _ ≤ _
        omega
      · rcases List.mem_append.mp hw with hw | hw
        · rcases List.mem_append.mp hw with hw | hw
          · exact hasc w (s1 w hw)
          · rw [List.mem_singleton.mp hw]; exact hwdA
        · exact hasc w (s2 w hw)
    refine s_if (b := decide (V.int kd = V.int 2)) (et_test (ev_op (x := .int kd) (y := .int 2) (ev_var rfl) ev_c (rv_eq rfl))) (fun _ H9 e9 => ?_) (fun hb2 H9 e9 => ?_)
    · have h8 := (e8.trans e9) pw _ h7
      obtain ⟨w1, N1, s1, l1⟩ := nSlT (K := K) (σ := [some (.ref d), some (.str (ST.mk t)), some (.ref pw), some (.int at_), some (.ref p3), some (.str (ST.mk wd)), some (.int kd), none]) (ta := tVar 2) (ev_var rfl) h8 eo_none (eo_some (te := tVar 3) (i := at_) (ev_var rfl))
      obtain ⟨w2, N2, s2, l2⟩ := nSlT (K := K) (σ := [some (.ref d), some (.str (ST.mk t)), some (.ref pw), some (.int at_), some (.ref p3), some (.str (ST.mk wd)), some (.int kd), none]) (ta := tVar 2) (ev_var rfl) h8 (eo_some (te := tOp (rI0 fun i j => .int (i + j)) (tVar 3) (tC (.int 1))) (i := at_ + 1) (ev_op (ev_var rfl) ev_c rv_I0)) eo_none
      have c1 := cap l1
      have c2 := cap l2
      have N := nCat N1 N2 (by omega)
      rw [← List.map_append] at N
      refine fin (e8.trans e9) N (by rw [lsum]; omega) (fun w hw => ?_) rfl
      rcases List.mem_append.mp hw with hw | hw
      · exact hasc w (s1 w hw)
      · exact hasc w (s2 w hw)
    refine s_if (b := decide (V.int kd = V.int 3)) (et_test (ev_op (x := .int kd) (y := .int 3) (ev_var rfl) ev_c (rv_eq rfl))) (fun _ H10 e10 => ?_) (fun hb3 H10 e10 => ?_)
    · have h8 := ((e8.trans e9).trans e10) pw _ h7
      obtain ⟨w1, N1, s1, l1⟩ := nSlT (K := K) (σ := [some (.ref d), some (.str (ST.mk t)), some (.ref pw), some (.int at_), some (.ref p3), some (.str (ST.mk wd)), some (.int kd), none]) (ta := tVar 2) (ev_var rfl) h8 eo_none (eo_some (te := tVar 3) (i := at_) (ev_var rfl))
      obtain ⟨w2, N2, s2, l2⟩ := nSlT (K := K) (σ := [some (.ref d), some (.str (ST.mk t)), some (.ref pw), some (.int at_), some (.ref p3), some (.str (ST.mk wd)), some (.int kd), none]) (ta := tVar 2) (ev_var rfl) h8 (eo_some (te := tVar 3) (i := at_) (ev_var rfl)) (eo_some (te := tOp (rI0 fun i j => .int (i + j)) (tVar 3) (tC (.int 1))) (i := at_ + 1) (ev_op (ev_var rfl) ev_c rv_I0))
      obtain ⟨w3, N3, s3, l3⟩ := nSlT (K := K) (σ := [some (.ref d), some (.str (ST.mk t)), some (.ref pw), some (.int at_), some (.ref p3), some (.str (ST.mk wd)), some (.int kd), none]) (ta := tVar 2) (ev_var rfl) h8 (eo_some (te := tVar 3) (i := at_) (ev_var rfl)) eo_none
      have c1 := cap l1
      have c2 := cap l2
      have c3 := cap l3
      have N := nCat (nCat N1 N2 (by omega)) N3 (by rw [List.length_append]; omega)
      rw [← List.map_append, ← List.map_append] at N
      refine fin ((e8.trans e9).trans e10) N (by rw [lsum, lsum]; omega) (fun w hw => ?_) rfl
      rcases List.mem_append.mp hw with hw | hw
      · rcases List.mem_append.mp hw with hw | hw
        · exact hasc w (s1 w hw)
        · exact hasc w (s2 w hw)
      · exact hasc w (s3 w hw)
    have D10 := D7'.trans (Dk.of D7'.st ((e8.trans e9).trans e10))
    refine offCall (d := d) (m := (t.length : Int) + 1) rfl (fun Q q => ⟨.str (ST.mk t), rfl, _, rfl, by rw [ST.mk_len]; exact sz_of (by omega), _, 1, by rw [ST.mk_len], rfl, q⟩) D10.st ⟨by omega, by omega⟩ fun pl H11 hp0 hp1 D11 => ?_
    have D11' := D10.trans D11
    obtain ⟨t1, E1, l1, s1⟩ := evSlS (σ := [some (.ref d), some (.str (ST.mk t)), some (.ref pw), some (.int at_), some (.ref p3), some (.str (ST.mk wd)), some (.int kd), some (.int pl)]) (H := H11) (ta := tVar 1) (ev_var rfl) (by omega) eo_none (eo_some (te := tVar 7) (i := pl) (ev_var rfl))
    refine E1 H11 (Ex.refl H11) _ fun H12 e12 => ?_
    have D12 := D11'.trans (Dk.of D11'.st e12)
    refine offCall (d := d) (m := 7) rfl (fun Q q => q) D12.st (by decide) fun r13 H13 hs0 hs1 D13 => ?_
    obtain ⟨c, hc, hcA⟩ : ∃ c : Nat, atI (PySem.Str.ofString ",-^019 ").cps.toList r13 = some c ∧ c < 1000 := by
      obtain ⟨j, rfl⟩ : ∃ j : Nat, r13 = (j : Int) := ⟨r13.toNat, by omega⟩
      have hj : j < 7 := by omega
      match j, hj with
      | 0, _ => exact ⟨44, by decide +kernel, by decide⟩
      | 1, _ => exact ⟨45, by decide +kernel, by decide⟩
      | 2, _ => exact ⟨94, by decide +kernel, by decide⟩
      | 3, _ => exact ⟨48, by decide +kernel, by decide⟩
      | 4, _ => exact ⟨49, by decide +kernel, by decide⟩
      | 5, _ => exact ⟨57, by decide +kernel, by decide⟩
      | 6, _ => exact ⟨32, by decide +kernel, by decide⟩
    refine ⟨_, r13, c, rfl, rfl, by decide +kernel, hc, ?_⟩
    have D13' := D12.trans D13
    refine offCall (d := d) (m := 2) rfl (fun Q q => q) D13'.st (by decide) fun r14 H14 hu0 hu1 D14 => ?_
    obtain ⟨z, hz, hzl, hzA⟩ : ∃ z : List Nat, (if r14 = 0 then Str.empty else (⟨#[c]⟩ : Str)) = ST.mk z ∧ z.length ≤ 1 ∧ Asc z := by
      by_cases y : r14 = 0
      · exact ⟨[], by rw [if_pos y]; rfl, by decide, fun c h => by cases h⟩
      · exact ⟨[c], by rw [if_neg y]; rfl, Nat.le_refl 1, fun c' h => by rw [List.mem_singleton.mp h]; exact hcA⟩
    refine ⟨⟨#[c]⟩, r14, rfl, rfl, by omega, ?_⟩
    rw [hz]
    refine ⟨_, _, rfl, rfl, by rw [ST.mk_len, ST.mk_len]; exact sz_of (by omega), ?_⟩
    rw [ST.mk_app]
    have D14' := D13'.trans D14
    refine ⟨.str (ST.mk t), rfl, ⟨.int pl, rfl, offCall (d := d) (m := 2) rfl (fun Q q => q) D14'.st (by decide) fun r15 H15 hw0 hw1 D15 => ⟨pl, r15, rfl, rfl, pl + r15, rfl, ?_⟩⟩⟩
    have D15' := D14'.trans D15
    obtain ⟨t2, E2, l2, s2⟩ := evSlS (σ := []) (H := H15) (ta := tC (.str (ST.mk t))) ev_c (by omega) (eo_some (te := tC (.int (pl + r15))) (i := pl + r15) ev_c) eo_none
    have z2 := E2 H15 (Ex.refl H15) (fun v H => ∃ i j, V.str (ST.mk (t1 ++ z)) = V.str i ∧ v = V.str j ∧ i.length + j.length ≤ sizeLine ∧ Q (V.str (i ++ j)) H) fun H16 e16 => ⟨_, _, rfl, rfl, by rw [ST.mk_len, ST.mk_len, List.length_append]; exact sz_of (by omega), by
      rw [ST.mk_app]
      refine q _ H16 (by rw [List.length_append, List.length_append]; omega) (fun c' hc' => ?_) (D15'.trans (Dk.of D15'.st e16))
      rcases List.mem_append.mp hc' with y | y
      · rcases List.mem_append.mp y with y | y
        · exact hA c' (s1 c' y)
        · exact hzA c' y
      · exact hA c' (s2 c' y)⟩
    obtain ⟨i, ei, rest⟩ := z2
    cases ei
    exact rest
end

/-! ### how many items a cut text has -/
theorem spl_count : ∀ (l acc : List Nat), (TL.spl [44] 0 acc l).length = l.count 44 + 1
  | [], acc => by rw [TL.spl_nil]; rfl
  | c :: r, acc => by
    unfold TL.spl
    by_cases e : c = 44
    · rw [if_pos (by rw [ST.pre1, decide_eq_true e]), List.length_cons, e, List.count_cons_self]
      have := spl_count r []
      show (TL.spl [44] 0 [] r).length + 1 = _
      omega
    · rw [if_neg (by rw [ST.pre1, decide_eq_false e]; decide), spl_count r (acc ++ [c]), List.count_cons_of_ne e]
theorem spl_no : ∀ (l acc : List Nat), 44 ∉ acc → ∀ w ∈ TL.spl [44] 0 acc l, 44 ∉ w
  | [], acc, h, w, hw => by
    rw [TL.spl_nil] at hw
    rw [List.mem_singleton.mp hw]
    exact h
  | c :: r, acc, h, w, hw => by
    unfold TL.spl at hw
    by_cases e : c = 44
    · rw [if_pos (by rw [ST.pre1, decide_eq_true e])] at hw
      rcases List.mem_cons.mp hw with z | z
      · rw [z]; exact h
      · exact spl_no r [] (by simp) w z
    · rw [if_neg (by rw [ST.pre1, decide_eq_false e]; decide)] at hw
      refine spl_no r (acc ++ [c]) (fun z => ?_) w hw
      rcases List.mem_append.mp z with z | z
      · exact h z
      · exact e (List.mem_singleton.mp z).symm
theorem join_count : ∀ ws : List (List Nat), (∀ w ∈ ws, 44 ∉ w) → (TL.joinL [44] ws).count 44 ≤ ws.length
  | [], _ => Nat.zero_le _
  | [w], h => by
    show w.count 44 ≤ 1
    rw [List.count_eq_zero.mpr (h w List.mem_cons_self)]
    exact Nat.zero_le _
  | w :: v :: ws, h => by
    have ih := join_count (v :: ws) fun u hu => h u (List.mem_cons_of_mem _ hu)
    show (w ++ ([44] ++ TL.joinL [44] (v :: ws))).count 44 ≤ _
    rw [List.count_append, List.count_append, List.count_eq_zero.mpr (h w List.mem_cons_self), List.length_cons]
    show 0 + (1 + _) ≤ _
    omega
theorem itm_len (t : List Nat) : (ST.itm t).length ≤ t.count 44 + 1 := by
  have hr : (ST.rest t).count 44 ≤ t.count 44 := by
    unfold ST.rest
    split
    · cases t with
      | nil => exact Nat.le_refl _
      | cons c r => rw [List.count_cons]; exact Nat.le_add_right _ _
    · exact Nat.le_refl _
  unfold ST.itm
  split
  · exact Nat.zero_le _
  · rw [spl_count]
    omega
/-- a text's first forty items -/
def cut40 (t : List Nat) : List Nat := TL.joinL [44] ((TL.spl [44] 0 [] t).take 40)
theorem cut40_itm (t : List Nat) : (ST.itm (cut40 t)).length ≤ 90 := by
  have h := join_count ((TL.spl [44] 0 [] t).take 40) fun w hw => spl_no t [] (by simp) w (List.mem_of_mem_take hw)
  have h2 := itm_len (cut40 t)
  rw [List.length_take] at h
  unfold cut40 at h2 ⊢
  omega
theorem cut40_len (t : List Nat) : (cut40 t).length ≤ t.length + 1 := by
  have h := join_len ((TL.spl [44] 0 [] t).take 40)
  have h1 := sum_cut (TL.spl [44] 0 [] t) 0 40
  rw [List.drop_zero] at h1
  have h2 := spl_sum t []
  rw [List.length_nil] at h2
  unfold cut40
  omega
theorem cut40_asc {t : List Nat} (h : Asc t) : Asc (cut40 t) := join_asc fun w hw c hc => by
  rcases spl_sub _ _ _ _ w (List.mem_of_mem_take hw) c hc with z | z
  · cases z
  · exact h c z
/-- the text of all signs -/
def allT (n : Nat) : List Nat := TL.joinL [44] ((List.range n).map ST.num)
def chkA (n : Nat) : Bool := match ST.rdT n (allT n) with
  | .inl _ => false
  | .inr rs => decide (told (rdM (allT n) rs) n = [(0, n - 1)]) && decide ((ST.itm (allT n)).length ≤ 90)
theorem chkA_all : ∀ n : Fin 64, chkA (n.val + 1) = true := by decide +kernel
theorem allT_ok {n : Nat} (h : 1 ≤ n ∧ n ≤ 64) : ∃ rs, ST.rdT n (allT n) = .inr rs ∧ told (rdM (allT n) rs) n = [(0, n - 1)] ∧ (ST.itm (allT n)).length ≤ 90 := by
  have c := chkA_all ⟨n - 1, by omega⟩
  have e : n - 1 + 1 = n := by omega
  simp only [e] at c
  unfold chkA at c
  cases r : ST.rdT n (allT n) with
  | inl p => rw [r] at c; cases c
  | inr rs =>
    rw [r] at c
    obtain ⟨c1, c2⟩ := Bool.and_eq_true_iff.mp c
    exact ⟨rs, rfl, of_decide_eq_true c1, of_decide_eq_true c2⟩
theorem allT_len {n : Nat} (h : n ≤ 64) : (allT n).length ≤ 200 := by
  have h1 := join_len ((List.range n).map ST.num)
  have h2 := sum_len (k := 2) (ws := (List.range n).map ST.num) fun w hw => by
    obtain ⟨k, _, rfl⟩ := List.mem_map.mp hw
    exact (ST.num_len k).1
  rw [List.length_map, List.length_range] at h2
  unfold allT
  omega
/-! ### the tables while numbers are drawn -/
theorem tabDk {T : List (Addr × Str)} {H H' : Hp} {d : Addr} (D : Dk d H H') (hd : DSt H d) (hT : LamX.Tabs T H) : LamX.Tabs T H' := fun p hp => by
  obtain ⟨ps, h1, h2, h3⟩ := hT p hp
  obtain ⟨s, hs, _⟩ := hd
  have n1 : p.1 ≠ d := ne_of h1 hs (by intro z; cases z)
  refine ⟨ps, D.keep n1 h1, h2, fun pos cv hc => ?_⟩
  obtain ⟨c, e1, e2⟩ := h3 pos cv hc
  exact ⟨c, e1, D.keep (ne_of e2 hs (by intro z; cases z)) e2⟩
theorem tabEx {T : List (Addr × Str)} {H H' : Hp} (e : Ex H H') (hT : LamX.Tabs T H) : LamX.Tabs T H' := hT.ext e
/-- a list that is no part of the tables changes -/
theorem tabUpd {T : List (Addr × Str)} {H : Hp} {p : Addr} {xs ys : List V} (hp : H p = some (.lst xs)) (hT : LamX.Tabs T H) : LamX.Tabs T (upd H p (.lst ys)) := fun q hq => by
  obtain ⟨ps, h1, h2, h3⟩ := hT q hq
  refine ⟨ps, by rw [upd_ne (ne_of h1 hp (by intro z; cases z))]; exact h1, h2, fun pos cv hc => ?_⟩
  obtain ⟨c, e1, e2⟩ := h3 pos cv hc
  exact ⟨c, e1, by rw [upd_ne (ne_of e2 hp (by intro z; cases z))]; exact e2⟩
theorem dstEx {H H' : Hp} {d : Addr} (e : Ex H H') (h : DSt H d) : DSt H' d := (Dk.of h e).st
theorem passLN {X : Cx} : Passes (L2N.CX X.prog X.w) X E0 := fun _ _ _ _ _ _ _ h => by
  obtain ⟨_, _, _, _, _, _, _, _, _, _, _, _, z⟩ := h
  exact z.elim

/-! ### the law of k07 -/
def spLawT (K : PySem.W.Frag) (Pt : Addr) : Sp := fun vs H Q _ => ∃ (a : Addr) (ns : List Int), vs = [.ref a] ∧ SqL K H a (ns.map V.int) ∧ ns.length ≤ 63 ∧ H Pt = some (.tbl #[]) ∧ ∀ H', Q (.bl true) H'
abbrev lamQ : Str := (("law" : Str) ++ ".<locals>.") ++ "<lambda>"
abbrev lamSc : Scope := { kind := .function, names := [("_law_size_here", .free), ("_law_text_here", .free), ("read", .globalImplicit)], isGenerator := false, isCoroutine := false }
theorem lamN : NdefX.NScope ["_law_size_here", "_law_text_here"] [] ["_law_size_here", "_law_text_here"] lamSc := NdefX.nscope_by (by decide +kernel)
theorem rs_wide (rs : List (Nat × Nat)) (h : rs.length ≤ 1000) : wide (.list (rs.map rD)) = true := by
  show (decide ((rs.map rD).length ≤ 1000) && wides (rs.map rD)) = true
  rw [List.length_map, decide_eq_true h, Bool.true_and]
  clear h
  induction rs with
  | nil => rfl
  | cons r rs ih =>
    rw [List.map_cons]
    show (wide (rD r) && wides (rs.map rD)) = true
    rw [ih, Bool.and_true]; rfl
theorem rs_depth (rs : List (Nat × Nat)) : PyData.depth (.list (rs.map rD)) < 4 := by
  have h : PyData.depthAll (rs.map rD) ≤ 1 := by
    induction rs with
    | nil => exact Nat.zero_le _
    | cons r rs ih =>
      rw [List.map_cons]
      show max (PyData.depth (rD r)) (PyData.depthAll (rs.map rD)) ≤ 1
      have : PyData.depth (rD r) ≤ 1 := by show (1 : Nat) ≤ 1; exact Nat.le_refl 1
      omega
  show PyData.depthAll (rs.map rD) + 1 < 4
  omega
section
variable {P : Program} {w : World} {K : PySem.W.Frag} {mg : Str → Option Value} {base : Heap}
theorem ok_law {fL c Pt C fRD fRE : Addr} {fdRD fdRE : FuncData} {kV doc pm ct oc : Value} {an od : Option Addr} {osl : Array (Option Value)}
    (lk : K.lookup fL = some ⟨oc, od, .func (PySem.W.fnOf "law" "law" (defArgs sLaw) (defBody sLaw) (defScope sLaw) .none kV doc pm an (.ref c) ct), osl⟩) (hcd : PySem.W.codeIn K (.ref c) "law" = true) (TB : LamX.TabB base mg c Pt)
    (dD : Def P w K mg base 6 "_law_dice" ["_law_script", "_law_k"] (spN K RDice)) (dOF : Def P w K mg base 6 "_law_off" ["_law_d", "_law_most"] spOff) (dZ : Def P w K mg base 6 "_law_size" ["_law_d"] spSize) (dS : Def P w K mg base 6 "_law_set" ["_law_d", "_law_size_here", "_law_most"] (spLSet K))
    (dME : Def P w K mg base 6 "_law_members" ["_law_size_here", "_law_ranges"] (spN K RMem)) (dDU : Def P w K mg base 6 "_law_due" ["_law_size_here", "_law_text_here"] (spV K RDue)) (dTX : Def P w K mg base 6 "_law_text" ["_law_d", "_law_numbers"] (spText K)) (dCH : Def P w K mg base 6 "_law_changed" ["_law_d", "_law_text_here"] (spChange K))
    (dAK : Def P w K mg base 6 "_law_alike" ["_law_found", "_law_due_here"] (spAlike K 4))
    (FRD : FnOk P w K mg base (L2N.CX P w) 4 fRD fdRD ["size", "text"] (spR K C RReadX)) (gRD : mg "read" = some (.ref fRD)) (kRD : PySem.W.keepIn K (.ref fRD) = true) (bRD : Binds K fdRD ["size", "text"] [])
    (FRE : FnOk P w K mg base CX0 6 fRE fdRE ["_law_work", "_law_word", "_law_value"] (spRefT P w K mg base 5 C)) (gRE : mg "_law_refused" = some (.ref fRE)) (kRE : PySem.W.keepIn K (.ref fRE) = true) (bRE : Binds K fdRE ["_law_work", "_law_word", "_law_value"] [])
    (mr : mg "range" = none) (mS : mg "str" = none) (mi : mg "isinstance" = none) (mL : mg "list" = none) :
    FnOk P w K mg base CX0 7 fL (PySem.W.fnOf "law" "law" (defArgs sLaw) (defBody sLaw) (defScope sLaw) .none kV doc pm an (.ref c) ct) ["_law_script"] (spLawT K Pt) := by
  obtain ⟨fD, fdD, FD, gD, kD, bD⟩ := dD.ex
  obtain ⟨fOF, fdOF, FOF, gOF, kOF, bOF⟩ := dOF.ex
  obtain ⟨fZ, fdZ, FZ, gZ, kZ, bZ⟩ := dZ.ex
  obtain ⟨fS, fdS, FS, gS, kS, bS⟩ := dS.ex
  obtain ⟨fME, fdME, FME, gME, kME, bME⟩ := dME.ex
  obtain ⟨fDU, fdDU, FDU, gDU, kDU, bDU⟩ := dDU.ex
  obtain ⟨fTX, fdTX, FTX, gTX, kTX, bTX⟩ := dTX.ex
  obtain ⟨fCH, fdCH, FCH, gCH, kCH, bCH⟩ := dCH.ex
  obtain ⟨fAK, fdAK, FAK, gAK, kAK, bAK⟩ := dAK.ex
  have FRD6 := FRD.mono (k := 6) (by decide)
  refine fn_of lk hcd scLaw (fun vs H Q E h => ?_) (fun A outer s H vs Q E hr h => ?_)
  · obtain ⟨a, ns, rfl, _⟩ := h
    rfl
  · obtain ⟨a, ns, rfl, hS, hl, hPt, q⟩ := h
    have nd := scLaw.nd
    have key : ∃ t, PSs (cxOf CX0 P w K mg base nLaw "law" (defScope sLaw) fL (.ref c) A outer s H E).nox (defBody sLaw) t ∧ t { nx := fun _ H' => Q .non H', rt := Q } (L2.start nLaw [.ref a]) H := by
      have hfr : ∀ y ∈ (["_law_size_here", "_law_text_here"] : List Str), true = true ∧ ((defScope sLaw).names.lookup y = some .cell ∨ (defScope sLaw).names.lookup y = some .free) := fun y hy => ⟨rfl, by
        rcases List.mem_cons.mp hy with z | z
        · rw [z]; exact .inl (by decide +kernel)
        · rw [List.mem_singleton.mp z]; exact .inl (by decide +kernel)⟩
      have lamL : LamX.LamS (defScope sLaw) lamSc := LamX.lamS_by (by decide +kernel)
      have lamFr : ∀ y ∈ (["_law_size_here", "_law_text_here"] : List Str), (y, NameKind.free) ∈ lamSc.names := by decide +kernel
      have lamAll : ∀ y ∈ lamSc.names, y.2 = .free → y.1 ∈ (["_law_size_here", "_law_text_here"] : List Str) := by decide +kernel
      have hmT : (Pt, lamQ) ∈ [(Pt, lamQ)] := List.mem_singleton.mpr rfl
      have huT : ∀ p ∈ [(Pt, lamQ)], p.1 = Pt → p.2 = lamQ := fun p hp _ => by rw [List.mem_singleton.mp hp]
      refine ⟨_, pss_cons (ps_set (i := 1) nd rfl (.inl rfl) (pe_call FD hr (by rfl) gD kD bD .nil pass0 (pa_cons (pv 0) (pa_cons pe_int pa_nil))))
        (pss_cons (ps_set (i := 6) nd rfl (.inr rfl) (pe_call FZ hr (by rfl) gZ kZ bZ .nil pass0 (pa_cons (pv 1) pa_nil)))
        (pss_cons (ps_if (pt_not (pt_val (pe_call FAK hr (by rfl) gAK kAK bAK .nil pass0 (pa_cons (pe_call FRD6 hr (by rfl) gRD kRD bRD .nil passLN (pa_cons (pv 6) (pa_cons (pe_join pe_str (pe_lc (own := [("_law_number", 8)]) (g := gName 8) (tt := tYes) (te := tCB (fun xs H Q => ∃ i : Int, xs = [.int i] ∧ i.natAbs.log2 < 1920 ∧ Q (.str (toString i)) H) (tCons (tVar 8) tNil)) rfl nd (pi_range1 (by rfl) mr (pa_cons (pv 6) pa_nil)) (blkOk_by (own := [("_law_number", 8)]) (N := nLaw) (sc := defScope sLaw) (by decide +kernel))
            (fun _ _ _ _ _ => pg_name (i := 8) nd rfl (Or.inl rfl)) (fun _ _ _ _ _ => pts_nil) (fun _ _ _ _ _ => pe_callTy call_str_int (by rfl) mS (by decide +kernel) (pa_cons (pv 8) pa_nil)))) pa_nil)))
          (pa_cons (pe_lst (pa_cons (pe_tup (pa_cons pe_int (pa_cons (pe_op op_sub (pv 6) pe_int) pa_nil))) pa_nil)) pa_nil))))) (pss_one (ps_ret pe_bl)) pss_nil)
        (pss_cons (ps_for PassesOwn.never rfl (pi_range1 (by rfl) mr (pa_cons pe_int pa_nil)) (pg_name (i := 2) nd rfl (.inl rfl))
          (pss_cons (ps_set (i := 7) nd rfl (.inr rfl) (pe_op op_add_str (pe_ix ix_list (pe_lst (pa_cons pe_str (pa_cons pe_str pa_nil))) (pe_call FOF hr (by rfl) gOF kOF bOF .nil pass0 (pa_cons (pv 1) (pa_cons pe_int pa_nil))) (fun _ _ => rfl))
            (pe_call FTX hr (by rfl) gTX kTX bTX .nil pass0 (pa_cons (pv 1) (pa_cons (pe_call FME hr (by rfl) gME kME bME .nil pass0 (pa_cons (pv 6) (pa_cons (pe_call FS hr (by rfl) gS kS bS .nil pass0 (pa_cons (pv 1) (pa_cons (pv 6) (pa_cons pe_int pa_nil)))) pa_nil))) pa_nil)))))
          (pss_cons (ps_for PassesOwn.never rfl (pi_range1 (by rfl) mr (pa_cons (pe_call FOF hr (by rfl) gOF kOF bOF .nil pass0 (pa_cons (pv 1) (pa_cons pe_int pa_nil))) pa_nil)) (pg_name (i := 3) nd rfl (.inl rfl)) (pss_one (ps_set (i := 7) nd rfl (.inr rfl) (pe_call FCH hr (by rfl) gCH kCH bCH .nil pass0 (pa_cons (pv 1) (pa_cons (pv 7) pa_nil))))))
          (pss_cons (ps_set (i := 7) nd rfl (.inr rfl) (pe_join pe_str (pe_slice sl_list (pe_split (pv 7) pe_str) po_none (po_some pe_int))))
          (pss_cons (ps_set (i := 4) nd rfl (.inl rfl) (pe_call FDU hr (by rfl) gDU kDU bDU .nil pass0 (pa_cons (pv 6) (pa_cons (pv 7) pa_nil))))
          (pss_one (ps_if (pt_val (pe_callB call_isi (by rfl) mi (by decide +kernel) (pa_cons (pv 4) (pa_cons (pe_bltn (v := .ty "list") (by rfl) mL boot_list rfl) pa_nil))))
            (pss_cons (ps_set (i := 5) nd rfl (.inl rfl) (pe_call FRD6 hr (by rfl) gRD kRD bRD .nil passLN (pa_cons (pv 6) (pa_cons (pv 7) pa_nil))))
            (pss_cons (ps_if (pt_not (pt_val (pe_call FAK hr (by rfl) gAK kAK bAK .nil pass0 (pa_cons (pv 5) (pa_cons (pv 4) pa_nil))))) (pss_one (ps_ret pe_bl)) pss_nil)
            (pss_cons (ps_expr (pe_bm PySem.F.plainAttrs_list PySem.F.slot_list_append PySem.F.type_list_append mt_append (pv 5) (pa_cons (pe_tup pa_nil) pa_nil)))
            (pss_one (ps_if (pt_not (pt_val (pe_call FAK hr (by rfl) gAK kAK bAK .nil pass0 (pa_cons (pe_call FRD6 hr (by rfl) gRD kRD bRD .nil passLN (pa_cons (pv 6) (pa_cons (pv 7) pa_nil))) (pa_cons (pv 4) pa_nil))))) (pss_one (ps_ret pe_bl)) pss_nil)))))
            (pss_one (ps_if (pt_not (pt_val (SY.pe_callT (fr := ["_law_size_here", "_law_text_here"]) FRE hr (by rfl) gRE kRE bRE hfr
              (pa_cons (SY.pe_lamN (T := [(Pt, lamQ)]) TB rfl hmT huT lamL rfl) (pa_cons pe_str (pa_cons (pv 4) pa_nil)))))) (pss_one (ps_ret pe_bl)) pss_nil)))))))))
        (pss_one (ps_ret pe_bl))))), ?_⟩
      have hScr : Dp K H (.ref a) (.list (ns.map PyData.int)) := .lst hS (allOfInts ns)
      refine sAsgN (nCall (da2 (dVar rfl hScr) dInt) ⟨ns, 0, rfl, hl, by decide, by decide, rfl⟩) fun d xs H1 hd e1 h1 a1 => ?_
      have d1 : DSt H1 d := dst_of (by decide) hl h1 a1
      refine ⟨.ref d, rfl, d, rfl, d1, fun n H2 hn1 hn64 D2 => ?_⟩
      have hn : 1 ≤ n ∧ n ≤ 64 := ⟨hn1, hn64⟩
      have T2 : LamX.Tabs [(Pt, lamQ)] H2 := tabDk D2 d1 (tabEx e1 fun p hp => by rw [List.mem_singleton.mp hp]; exact LamX.TabS.nil hPt)
      -- all signs one by one
      obtain ⟨rs0, hrd0, htold0, hitm0⟩ := allT_ok hn
      have N0 := nLc (K := K) (σ := [some (.ref a), some (.ref d), none, none, none, none, some (.int (n : Int)), none, none]) (H := H2) (wi := iRng1 (tCons (tVar 6) tNil)) (g := gName 8) (tt := tYes) (te := tCB (fun xs H Q => ∃ i : Int, xs = [.int i] ∧ i.natAbs.log2 < 1920 ∧ Q (.str (toString i)) H) (tCons (tVar 8) tNil)) (vs := [8]) (n := (n : Int).toNat) (fun _ => true) (fun k => tD (ST.num k)) (by omega) (wkRange1 (ea_cons (ev_var rfl) ea_nil) ⟨by omega, by omega⟩).asN (fun Dl k v H3 hk e3 hd => by
        rw [Int.toNat_natCast] at hk
        cases dpInt hd
        exact ⟨[some (.ref a), some (.ref d), none, none, none, none, some (.int (n : Int)), none, some (.int (k : Nat))], fun Q q => q, rfl, et_yes, fun _ => (EvD.of (strI (ev_var rfl) (by omega) rfl) (.str _)).x rfl⟩)
      rw [outs_all, Int.toNat_natCast, show (List.range n).map (fun k => tD (ST.num k)) = ((List.range n).map ST.num).map tD by rw [List.map_map]; rfl] at N0
      have hsz0 : (((List.range n).map ST.num).map (·.length)).sum + ((List.range n).map ST.num).length * [44].length ≤ 100000 := by
        have h2 := sum_len0 (k := 2) (ws := (List.range n).map ST.num) fun w hw => by
          obtain ⟨k, _, rfl⟩ := List.mem_map.mp hw
          exact (ST.num_len k).1
        rw [List.length_map, List.length_range] at h2 ⊢
        show _ + n * 1 ≤ _
        omega
      have J0 := joinTs (S := [44]) (s := PySem.Str.ofString ",") (by decide +kernel) N0 hsz0 rfl
      have al0 := allT_len hn64
      have R0 : RReadX [.int (n : Int), tD (allT n)] (.inr [rD (0, n - 1)]) := ⟨n, allT n, rfl, hn, by omega, hitm0, by rw [hrd0]; show _ = Sum.inr ((told (rdM (allT n) rs0) n).map rD); rw [htold0]; rfl⟩
      have L0 : EvN K (tLst (tCons (tTup (tCons (tC (.int 0)) (tCons (tOp (rI0 fun i j => .int (i - j)) (tVar 6) (tC (.int 1))) tNil))) tNil)) [some (.ref a), some (.ref d), none, none, none, none, some (.int (n : Int)), none, none] H2 [rD (0, n - 1)] := nLst (da1 (dTup (daCons dInt (da1 (iD (i := ((n - 1 : Nat) : Int)) (ev_is (ev_op (x := .int (n : Int)) (ev_var rfl) ev_c rv_I0) (congrArg V.int (by omega)))))) (by show 2 ≤ 100000; decide))) (by show 1 ≤ 100000; decide)
      refine s_if (b := false) (et_is (et_not (et_B (evAlike (d := .list [rD (0, n - 1)]) (da2 (nCallX (R := RReadX) (E := E0) (da2 (dVar (v := .int (n : Int)) rfl (.int (n : Int))) (EvD.of J0 (.str _))) R0).asD L0.asD) (rs_wide [(0, n - 1)] (by show 1 ≤ 1000; decide)) (rs_depth [(0, n - 1)])))) rfl) (fun z => nomatch z) (fun _ H3 e3 => ?_)
      refine ⟨9, rfl, by decide, by decide, ?_⟩
      refine for_range (lo := 0) (n := (9 : Int).toNat) (fun i σ' H' => DSt H' d ∧ LamX.Tabs [(Pt, lamQ)] H' ∧ ∃ b2 b3 b4 b5 b7, σ' = [some (.ref a), some (.ref d), b2, b3, b4, b5, some (.int (n : Int)), b7, none]) ⟨dstEx e3 D2.st, tabEx e3 T2, none, none, none, none, none, rfl⟩ (fun i σ' H4 hi p => ?_) (fun σ' H4 p => q H4)
      obtain ⟨d4, T4, b2, b3, b4, b5, b7, rfl⟩ := p
      -- a text
      refine ⟨by show 2 ≤ sizeLine; decide, fun pq hpq => ?_⟩
      have D5 := Dk.of d4 (Ex.new (o := .lst [.str "", .str "^"]) hpq)
      have hqd : pq ≠ d := d4.ne hpq
      refine offCall (d := d) (m := 2) rfl (fun Q q => q) D5.st (by decide) fun r H6 hr0 hr1 D6 => ?_
      obtain ⟨pre, hpre, hpl, hpA⟩ : ∃ pre : List Nat, atI [V.str "", V.str "^"] r = some (.str (ST.mk pre)) ∧ pre.length ≤ 1 ∧ Asc pre := by
        obtain ⟨j, rfl⟩ : ∃ j : Nat, r = (j : Int) := ⟨r.toNat, by omega⟩
        have hj : j < 2 := by omega
        match j, hj with
        | 0, _ => exact ⟨[], atI_nat rfl, by decide, fun c h => by cases h⟩
        | 1, _ => exact ⟨[94], atI_nat rfl, by decide, fun c h => by rw [List.mem_singleton.mp h]; decide⟩
      refine ⟨pq, [.str "", .str "^"], r, _, rfl, rfl, SqL.of (D6.keep hqd upd_same), hpre, ?_⟩
      have D6' := D5.trans D6
      refine ⟨.ref d, rfl, .int (n : Int), rfl, .ref d, rfl, .int (n : Int), rfl, d, n, 20, rfl, D6'.st, hn1, hn64, by decide, fun rs pS xS H7 hrl hrs hpS D7 h7 A7 => ?_⟩
      have D7' := D6'.trans D7
      have g7 : Good n rs := ⟨by omega, hrs⟩
      have dS7 : Dp K H7 (.ref pS) (sD rs) := .lst (sq_of h7) (monoA rmEx A7)
      refine ⟨[.int (n : Int), sD rs], _, .cons (.int _) (.cons dS7 .nil), ⟨n, rs, rfl, hn64, g7, rfl⟩, fun pm xm H8 hpm e8 h8 A8 => ?_⟩
      have D8' := D7'.trans (Dk.of D7'.st e8)
      refine ⟨d, .ref pm, n, memB rs, rfl, D8'.st, .lst (sq_of h8) A8, hn64, fun t0 H9 ht0 hA0 D9 => ?_⟩
      have D9' := D8'.trans D9
      refine ⟨ST.mk pre, ST.mk t0, rfl, rfl, by rw [ST.mk_len, ST.mk_len]; exact sz_of (by omega), ?_⟩
      rw [ST.mk_app]
      have T9 : LamX.Tabs [(Pt, lamQ)] H9 := tabDk D9' d4 T4
      have hA1 : Asc (pre ++ t0) := fun c hc => (List.mem_append.mp hc).elim (hpA c) (hA0 c)
      have hl1 : (pre ++ t0).length ≤ 501 := by rw [List.length_append]; omega
      generalize pre ++ t0 = t1 at hA1 hl1
      -- changes
      refine offCall (d := d) (m := 3) rfl (fun Q q => q) D9'.st (by decide) fun rc H10 hc0 hc1 D10 => ⟨rc, rfl, by omega, by omega, ?_⟩
      have T10 := tabDk D10 D9'.st T9
      refine for_range (lo := 0) (n := rc.toNat) (fun j σ' H' => DSt H' d ∧ LamX.Tabs [(Pt, lamQ)] H' ∧ ∃ (t : List Nat) (b3 : Option V), t.length ≤ 501 * 4 ^ j ∧ Asc t ∧ σ' = [some (.ref a), some (.ref d), some (.int (0 + (i : Int))), b3, b4, b5, some (.int (n : Int)), some (.str (ST.mk t)), none]) ⟨D10.st, T10, t1, b3, by omega, hA1, rfl⟩ (fun j σ' H11 hj p => ?_) (fun σ' H11 p => ?_)
      · obtain ⟨d11, T11, t, b3', ht, hA, rfl⟩ := p
        have hj2 : j < 2 := by omega
        have hjb : 501 * 4 ^ j ≤ 2004 ∧ 3 * (501 * 4 ^ j) + 20 ≤ 501 * 4 ^ (j + 1) := by
          match j, hj2 with
          | 0, _ => decide
          | 1, _ => decide
        refine ⟨.ref d, rfl, .str (ST.mk t), rfl, d, t, rfl, d11, by omega, hA, fun t' H12 ht' hA' D12 => ?_⟩
        exact ⟨D12.st, tabDk D12 d11 T11, t', some (.int (0 + (j : Int))), by omega, hA', rfl⟩
      obtain ⟨d11, T11, t, b3', ht, hA, rfl⟩ := p
      have ht8 : t.length ≤ 8016 := by
        have hj2 : rc.toNat ≤ 2 := by omega
        generalize rc.toNat = j at ht hj2
        match j, hj2 with
        | 0, _ => omega
        | 1, _ => omega
        | 2, _ => omega
      -- the first forty items
      have J1 : Ev (tM1 (fun x xs H Q => ∃ a p, ∃ ys : List Str, x = .str a ∧ xs = [.ref p] ∧ (SqL K H p (ys.map V.str) ∨ SqT K H p (ys.map V.str)) ∧ (ys.map (·.length)).sum + ys.length * a.length ≤ 16777216 ∧ Q (.str (Txt.join a ys)) H) (tC (.str (PySem.Str.ofString ","))) (tSl (rSlL K) (tM1 (fun x xs H Q => ∃ a b, x = .str a ∧ xs = [.str b] ∧ (b.length == 0) = false ∧ a.length + 2 ≤ sizeLine ∧ rNewStrs (Txt.split a b) H Q) (tVar 7) (tC (.str (PySem.Str.ofString ",")))) tNoPart (tPart (tC (.int 40))))) [some (.ref a), some (.ref d), some (.int (0 + (i : Int))), b3', b4, b5, some (.int (n : Int)), some (.str (ST.mk t)), none] H11 (.str (ST.mk (cut40 t))) := by
        have N1 := nCut (K := K) (k := 40) (nSplit (K := K) (σ := [some (.ref a), some (.ref d), some (.int (0 + (i : Int))), b3', b4, b5, some (.int (n : Int)), some (.str (ST.mk t)), none]) (H := H11) (te := tVar 7) (r := t) (ev_var rfl) (by omega) rfl).asD
        rw [← List.map_take] at N1
        refine joinTs (S := [44]) (by decide +kernel) N1 ?_ rfl
        have h1 := sum_cut (TL.spl [44] 0 [] t) 0 40
        rw [List.drop_zero] at h1
        have h2 := spl_sum t []
        rw [List.length_nil] at h2
        have h3 := sum_len1 ((TL.spl [44] 0 [] t).take 40)
        have h4 := cnt_sum ((TL.spl [44] 0 [] t).take 40)
        show _ + _ * 1 ≤ _
        omega
      refine s_asg J1 fun H12 e12 => ?_
      have hu1 := cut40_itm t
      have hu2 := cut40_len t
      have hu3 := cut40_asc hA
      generalize cut40 t = u at hu1 hu2 hu3 ⊢
      have d12 := dstEx e12 d11
      have T12 := tabEx e12 T11
      refine sAsgD (vCall (R := RDue) (da2 (dVar (v := .int (n : Int)) rfl (.int (n : Int))) (dVar (v := .str (ST.mk u)) rfl (.str _))) ⟨n, u, rfl, hn64, by omega, hu3, rfl⟩) fun vD H13 e13 dv => ?_
      have d13 := dstEx e13 d12
      have T13 := tabEx e13 T12
      unfold dueD at dv
      cases hrd : ST.rdT n u with
      | inr rs2 =>
        rw [hrd] at dv
        have dv : Dp K H13 vD (.list ((told (rdM u rs2) n).map rD)) := dv
        have tl := told_len (rdM u rs2) n
        have R2 : RReadX [.int (n : Int), tD u] (.inr ((told (rdM u rs2) n).map rD)) := ⟨n, u, rfl, hn, by omega, hu1, by rw [hrd]⟩
        have wd2 := rs_wide (told (rdM u rs2) n) (by omega)
        have dp2 := rs_depth (told (rdM u rs2) n)
        have hl3 : (told (rdM u rs2) n).length ≤ 1000 := by omega
        generalize told (rdM u rs2) n = rs3 at dv R2 wd2 dp2 hl3
        refine s_if (b := true) (et_B (isi (v := vD) (d := .list (rs3.map rD)) rfl dv kb_list_list)) (fun _ H14 e14 => ?_) (fun z => nomatch z)
        refine sAsgN (nCallX (R := RReadX) (E := E0) (da2 (dVar (v := .int (n : Int)) rfl (.int (n : Int))) (dVar (v := .str (ST.mk u)) rfl (.str _))) R2) fun pf xf H15 hpf e15 h15 A15 => ?_
        refine s_if (b := false) (et_is (et_not (et_B (evAlike (da2 (dVar (v := .ref pf) rfl (.lst (sq_of h15) A15)) (dVar (v := vD) rfl (SB.mono (e14.trans e15) dv))) wd2 dp2))) rfl) (fun z => nomatch z) (fun _ H16 e16 => ?_)
        have h16 := e16 pf _ h15
        refine ⟨.ref pf, rfl, .inl ⟨rfl, _, sq_of h16⟩, by show 0 ≤ sizeLine; decide, fun pt hpt => ?_⟩
        have h17 : (upd H16 pt (.tup [])) pf = some (.lst xf) := (Ex.new hpt) pf _ h16
        refine ⟨pf, xf, .ref pt, rfl, rfl, h17, sz_lt (by rw [allLen A15, List.length_map]; omega), ?_⟩
        have E18 : Ex H14 (upd (upd H16 pt (.tup [])) pf (.lst (xf ++ [.ref pt]))) := Ex.mut ((e15.trans e16).trans (Ex.new hpt)) hpf
        refine s_if (b := false) (et_is (et_not (et_B (evAlike (da2 (nCallX (R := RReadX) (E := E0) (da2 (dVar (v := .int (n : Int)) rfl (.int (n : Int))) (dVar (v := .str (ST.mk u)) rfl (.str _))) R2).asD (dVar (v := vD) rfl (SB.mono (e14.trans E18) dv))) wd2 dp2))) rfl) (fun z => nomatch z) (fun _ H19 e19 => ?_)
        exact ⟨dstEx (((e14.trans E18)).trans e19) d13, tabEx (((e14.trans E18)).trans e19) T13, _, _, _, _, _, rfl⟩
      | inl pl =>
        rw [hrd] at dv
        have dv : Dp K H13 vD (.int (pl : Int)) := dv
        cases dpInt dv
        have R2 : RReadX [.int (n : Int), tD u] (.inl pl) := ⟨n, u, rfl, hn, by omega, hu1, by rw [hrd]⟩
        refine s_if (b := false) (et_B (isi (v := .int (pl : Int)) (d := .int (pl : Int)) rfl (.int _) kb_int_list)) (fun z => nomatch z) (fun _ H14 e14 => ?_)
        refine ⟨tabEx e14 T13, fun f c' H15 eN T15 f0 f1 c1 => ⟨.int (pl : Int), rfl, fun cs CC => ⟨f, (pl : Int), rfl, ?_, fun H16 e16 => ⟨fun b o z => e16 b _ (SY.addIn z), true, rfl, ?_⟩⟩⟩⟩
        · have hf1 := (SY.addOut (H := H15) (SY.outN CC.free f1)).trans f1
          have hc1 := (SY.addOut (H := H15) (SY.outN CC.free c1)).trans c1
          have hp1 : ∀ b o, cs.lookup b = some o → SY.addP cs H15 b = some (SY.PinO b o) := fun b o z => SY.addIn z
          refine ⟨fun h hok => ?_, fun A' outer' s' Q' E' hr' e0 hE => ?_⟩
          · obtain ⟨od', sl', pm', ctv', e'⟩ := SY.lamO_at hok hf1
            exact ⟨_, od', _, sl', e'⟩
          · refine SY.lam_run (k := 4) (N := ["_law_size_here", "_law_text_here"]) (ps := []) (fr := ["_law_size_here", "_law_text_here"]) (ws := [some (.int (n : Int)), some (.str (ST.mk u))]) (vs := []) (us := []) (cs := cs) (tb := tCall (spR K C RReadX) [] (fun cls d H' => (∀ b o, cs.lookup b = some o → H' b = none) → E' cls d (SY.addP cs H')) (tCons (tVar 0) (tCons (tVar 1) tNil))) lamN hr' e0 hf1 hc1 hp1 (CC.caps (js := [6, 7]) lamL lamFr lamAll rfl) .nil rfl (fun pm ctv => rfl)
              (fun hr2 => pe_call FRD hr2 (by rfl) gRD kRD bRD .nil (L2N.passes_call (L2N.takes_of rfl rfl rfl rfl) (fun _ _ _ _ h => h)) (pa_cons (pv 0) (pa_cons (pv 1) pa_nil))) ?_
            refine ⟨.int (n : Int), rfl, .str (ST.mk u), rfl, [.int (n : Int), tD u], .inl pl, .cons (.int _) (.cons (.str _) .nil), R2, (fun out h => by cases h), fun p' h d' H' e hd hx hfree => ?_⟩
            cases h
            rw [SY.rmAdd CC.free] at e
            refine hE (some d') _ (SY.addMono e) ⟨d', rfl, ?_⟩
            rw [SY.addOut (SY.outN hfree hx)]
            exact hx
        · have eR : Ex H15 (SY.rmP cs H16) := by
            have z := SY.rmMonoP (cs := cs) e16
            rw [SY.rmAdd CC.free] at z
            exact z
          refine iteF ?_
          obtain ⟨s14, hs14, hs2, hs3⟩ := dstEx e14 d13
          exact ⟨dstEx eR ⟨s14, eN d _ hs14 (by intro ps z; cases z), hs2, hs3⟩, tabEx eR T15, _, _, _, _, _, rfl⟩
    obtain ⟨t, h1, h2⟩ := key
    exact ⟨t, h1.nox, h2⟩
end

section
theorem all_mk {l : PySem.W.OpenLaw} {w : World} {K : PySem.W.Frag} {h : Heap} {mg : Str → Option Value} {fa : Addr} (X : K.In h) (G : h.Ns mainGlobals mg) (hfa : mg "law" = some (.ref fa)) (own : LamX.OwnTab K fa h)
    {f0 : Addr} {od0 an0 : Option Addr} {sl0 : Array (Option Value)} {oc0 kV0 dc0 pm0 cd0 ct0 : Value}
    (a0 : PySem.W.nsIn K mainGlobals "check_size" = some (some (.ref f0)))
    (l0 : K.lookup f0 = some ⟨oc0, od0, .func (PySem.W.fnOf "check_size" "check_size" (defArgs sCheckSize) (defBody sCheckSize) (defScope sCheckSize) .none kV0 dc0 pm0 an0 cd0 ct0), sl0⟩)
    (c0 : PySem.W.codeIn K cd0 "check_size" = true)
    (k0 : PySem.W.keepIn K (.ref f0) = true)
    {f1 : Addr} {od1 an1 : Option Addr} {sl1 : Array (Option Value)} {oc1 kV1 dc1 pm1 cd1 ct1 : Value}
    (a1 : PySem.W.nsIn K mainGlobals "marks_of" = some (some (.ref f1)))
    (l1 : K.lookup f1 = some ⟨oc1, od1, .func (PySem.W.fnOf "marks_of" "marks_of" (defArgs sMarksOf) (defBody sMarksOf) (defScope sMarksOf) .none kV1 dc1 pm1 an1 cd1 ct1), sl1⟩)
    (c1 : PySem.W.codeIn K cd1 "marks_of" = true)
    (k1 : PySem.W.keepIn K (.ref f1) = true)
    {f2 : Addr} {od2 an2 : Option Addr} {sl2 : Array (Option Value)} {oc2 kV2 dc2 pm2 cd2 ct2 : Value}
    (a2 : PySem.W.nsIn K mainGlobals "ranges_of" = some (some (.ref f2)))
    (l2 : K.lookup f2 = some ⟨oc2, od2, .func (PySem.W.fnOf "ranges_of" "ranges_of" (defArgs sRangesOf) (defBody sRangesOf) (defScope sRangesOf) .none kV2 dc2 pm2 an2 cd2 ct2), sl2⟩)
    (c2 : PySem.W.codeIn K cd2 "ranges_of" = true)
    (k2 : PySem.W.keepIn K (.ref f2) = true)
    {f3 : Addr} {od3 an3 : Option Addr} {sl3 : Array (Option Value)} {oc3 kV3 dc3 pm3 cd3 ct3 : Value}
    (a3 : PySem.W.nsIn K mainGlobals "item_range" = some (some (.ref f3)))
    (l3 : K.lookup f3 = some ⟨oc3, od3, .func (PySem.W.fnOf "item_range" "item_range" (defArgs sItemRange) (defBody sItemRange) (defScope sItemRange) .none kV3 dc3 pm3 an3 cd3 ct3), sl3⟩)
    (c3 : PySem.W.codeIn K cd3 "item_range" = true)
    (k3 : PySem.W.keepIn K (.ref f3) = true)
    {f4 : Addr} {od4 an4 : Option Addr} {sl4 : Array (Option Value)} {oc4 kV4 dc4 pm4 cd4 ct4 : Value}
    (a4 : PySem.W.nsIn K mainGlobals "item_ranges" = some (some (.ref f4)))
    (l4 : K.lookup f4 = some ⟨oc4, od4, .func (PySem.W.fnOf "item_ranges" "item_ranges" (defArgs sItemRanges) (defBody sItemRanges) (defScope sItemRanges) .none kV4 dc4 pm4 an4 cd4 ct4), sl4⟩)
    (c4 : PySem.W.codeIn K cd4 "item_ranges" = true)
    (k4 : PySem.W.keepIn K (.ref f4) = true)
    {f5 : Addr} {od5 an5 : Option Addr} {sl5 : Array (Option Value)} {oc5 kV5 dc5 pm5 cd5 ct5 : Value}
    (a5 : PySem.W.nsIn K mainGlobals "read" = some (some (.ref f5)))
    (l5 : K.lookup f5 = some ⟨oc5, od5, .func (PySem.W.fnOf "read" "read" (defArgs sRead) (defBody sRead) (defScope sRead) .none kV5 dc5 pm5 an5 cd5 ct5), sl5⟩)
    (c5 : PySem.W.codeIn K cd5 "read" = true)
    (k5 : PySem.W.keepIn K (.ref f5) = true)
    {f6 : Addr} {od6 an6 : Option Addr} {sl6 : Array (Option Value)} {oc6 kV6 dc6 pm6 cd6 ct6 : Value}
    (a6 : PySem.W.nsIn K mainGlobals "_law_dice" = some (some (.ref f6)))
    (l6 : K.lookup f6 = some ⟨oc6, od6, .func (PySem.W.fnOf "_law_dice" "_law_dice" (defArgs sLawDice) (defBody sLawDice) (defScope sLawDice) .none kV6 dc6 pm6 an6 cd6 ct6), sl6⟩)
    (c6 : PySem.W.codeIn K cd6 "_law_dice" = true)
    (k6 : PySem.W.keepIn K (.ref f6) = true)
    {f7 : Addr} {od7 an7 : Option Addr} {sl7 : Array (Option Value)} {oc7 kV7 dc7 pm7 cd7 ct7 : Value}
    (a7 : PySem.W.nsIn K mainGlobals "_law_off" = some (some (.ref f7)))
    (l7 : K.lookup f7 = some ⟨oc7, od7, .func (PySem.W.fnOf "_law_off" "_law_off" (defArgs sLawOff) (defBody sLawOff) (defScope sLawOff) .none kV7 dc7 pm7 an7 cd7 ct7), sl7⟩)
    (c7 : PySem.W.codeIn K cd7 "_law_off" = true)
    (k7 : PySem.W.keepIn K (.ref f7) = true)
    {f8 : Addr} {od8 an8 : Option Addr} {sl8 : Array (Option Value)} {oc8 kV8 dc8 pm8 cd8 ct8 : Value}
    (a8 : PySem.W.nsIn K mainGlobals "_law_size" = some (some (.ref f8)))
    (l8 : K.lookup f8 = some ⟨oc8, od8, .func (PySem.W.fnOf "_law_size" "_law_size" (defArgs sLawSize) (defBody sLawSize) (defScope sLawSize) .none kV8 dc8 pm8 an8 cd8 ct8), sl8⟩)
    (c8 : PySem.W.codeIn K cd8 "_law_size" = true)
    (k8 : PySem.W.keepIn K (.ref f8) = true)
    {f9 : Addr} {od9 an9 : Option Addr} {sl9 : Array (Option Value)} {oc9 kV9 dc9 pm9 cd9 ct9 : Value}
    (a9 : PySem.W.nsIn K mainGlobals "_law_set" = some (some (.ref f9)))
    (l9 : K.lookup f9 = some ⟨oc9, od9, .func (PySem.W.fnOf "_law_set" "_law_set" (defArgs sLawSet) (defBody sLawSet) (defScope sLawSet) .none kV9 dc9 pm9 an9 cd9 ct9), sl9⟩)
    (c9 : PySem.W.codeIn K cd9 "_law_set" = true)
    (k9 : PySem.W.keepIn K (.ref f9) = true)
    {f10 : Addr} {od10 an10 : Option Addr} {sl10 : Array (Option Value)} {oc10 kV10 dc10 pm10 cd10 ct10 : Value}
    (a10 : PySem.W.nsIn K mainGlobals "_law_members" = some (some (.ref f10)))
    (l10 : K.lookup f10 = some ⟨oc10, od10, .func (PySem.W.fnOf "_law_members" "_law_members" (defArgs sLawMembers) (defBody sLawMembers) (defScope sLawMembers) .none kV10 dc10 pm10 an10 cd10 ct10), sl10⟩)
    (c10 : PySem.W.codeIn K cd10 "_law_members" = true)
    (k10 : PySem.W.keepIn K (.ref f10) = true)
    {f11 : Addr} {od11 an11 : Option Addr} {sl11 : Array (Option Value)} {oc11 kV11 dc11 pm11 cd11 ct11 : Value}
    (a11 : PySem.W.nsIn K mainGlobals "_law_told" = some (some (.ref f11)))
    (l11 : K.lookup f11 = some ⟨oc11, od11, .func (PySem.W.fnOf "_law_told" "_law_told" (defArgs sLawTold) (defBody sLawTold) (defScope sLawTold) .none kV11 dc11 pm11 an11 cd11 ct11), sl11⟩)
    (c11 : PySem.W.codeIn K cd11 "_law_told" = true)
    (k11 : PySem.W.keepIn K (.ref f11) = true)
    {f12 : Addr} {od12 an12 : Option Addr} {sl12 : Array (Option Value)} {oc12 kV12 dc12 pm12 cd12 ct12 : Value}
    (a12 : PySem.W.nsIn K mainGlobals "_law_others" = some (some (.ref f12)))
    (l12 : K.lookup f12 = some ⟨oc12, od12, .func (PySem.W.fnOf "_law_others" "_law_others" (defArgs sLawOthers) (defBody sLawOthers) (defScope sLawOthers) .none kV12 dc12 pm12 an12 cd12 ct12), sl12⟩)
    (c12 : PySem.W.codeIn K cd12 "_law_others" = true)
    (k12 : PySem.W.keepIn K (.ref f12) = true)
    {f13 : Addr} {od13 an13 : Option Addr} {sl13 : Array (Option Value)} {oc13 kV13 dc13 pm13 cd13 ct13 : Value}
    (a13 : PySem.W.nsIn K mainGlobals "_law_is" = some (some (.ref f13)))
    (l13 : K.lookup f13 = some ⟨oc13, od13, .func (PySem.W.fnOf "_law_is" "_law_is" (defArgs sLawIs) (defBody sLawIs) (defScope sLawIs) .none kV13 dc13 pm13 an13 cd13 ct13), sl13⟩)
    (c13 : PySem.W.codeIn K cd13 "_law_is" = true)
    (k13 : PySem.W.keepIn K (.ref f13) = true)
    {f14 : Addr} {od14 an14 : Option Addr} {sl14 : Array (Option Value)} {oc14 kV14 dc14 pm14 cd14 ct14 : Value}
    (a14 : PySem.W.nsIn K mainGlobals "_law_due" = some (some (.ref f14)))
    (l14 : K.lookup f14 = some ⟨oc14, od14, .func (PySem.W.fnOf "_law_due" "_law_due" (defArgs sLawDue) (defBody sLawDue) (defScope sLawDue) .none kV14 dc14 pm14 an14 cd14 ct14), sl14⟩)
    (c14 : PySem.W.codeIn K cd14 "_law_due" = true)
    (k14 : PySem.W.keepIn K (.ref f14) = true)
    {f15 : Addr} {od15 an15 : Option Addr} {sl15 : Array (Option Value)} {oc15 kV15 dc15 pm15 cd15 ct15 : Value}
    (a15 : PySem.W.nsIn K mainGlobals "_law_text" = some (some (.ref f15)))
    (l15 : K.lookup f15 = some ⟨oc15, od15, .func (PySem.W.fnOf "_law_text" "_law_text" (defArgs sLawText) (defBody sLawText) (defScope sLawText) .none kV15 dc15 pm15 an15 cd15 ct15), sl15⟩)
    (c15 : PySem.W.codeIn K cd15 "_law_text" = true)
    (k15 : PySem.W.keepIn K (.ref f15) = true)
    {f16 : Addr} {od16 an16 : Option Addr} {sl16 : Array (Option Value)} {oc16 kV16 dc16 pm16 cd16 ct16 : Value}
    (a16 : PySem.W.nsIn K mainGlobals "_law_changed" = some (some (.ref f16)))
    (l16 : K.lookup f16 = some ⟨oc16, od16, .func (PySem.W.fnOf "_law_changed" "_law_changed" (defArgs sLawChanged) (defBody sLawChanged) (defScope sLawChanged) .none kV16 dc16 pm16 an16 cd16 ct16), sl16⟩)
    (c16 : PySem.W.codeIn K cd16 "_law_changed" = true)
    (k16 : PySem.W.keepIn K (.ref f16) = true)
    {f17 : Addr} {od17 an17 : Option Addr} {sl17 : Array (Option Value)} {oc17 kV17 dc17 pm17 cd17 ct17 : Value}
    (a17 : PySem.W.nsIn K mainGlobals "_law_alike" = some (some (.ref f17)))
    (l17 : K.lookup f17 = some ⟨oc17, od17, .func (PySem.W.fnOf "_law_alike" "_law_alike" (defArgs sLawAlike) (defBody sLawAlike) (defScope sLawAlike) .none kV17 dc17 pm17 an17 cd17 ct17), sl17⟩)
    (c17 : PySem.W.codeIn K cd17 "_law_alike" = true)
    (k17 : PySem.W.keepIn K (.ref f17) = true)
    {f18 : Addr} {od18 an18 : Option Addr} {sl18 : Array (Option Value)} {oc18 kV18 dc18 pm18 cd18 ct18 : Value}
    (a18 : PySem.W.nsIn K mainGlobals "_law_refused" = some (some (.ref f18)))
    (l18 : K.lookup f18 = some ⟨oc18, od18, .func (PySem.W.fnOf "_law_refused" "_law_refused" (defArgs sLawRefused) (defBody sLawRefused) (defScope sLawRefused) .none kV18 dc18 pm18 an18 cd18 ct18), sl18⟩)
    (c18 : PySem.W.codeIn K cd18 "_law_refused" = true)
    (k18 : PySem.W.keepIn K (.ref f18) = true)
    {f19 : Addr} {od19 an19 : Option Addr} {sl19 : Array (Option Value)} {oc19 kV19 dc19 pm19 ct19 : Value} {cL : Addr}
    (a19 : PySem.W.nsIn K mainGlobals "law" = some (some (.ref f19)))
    (l19 : K.lookup f19 = some ⟨oc19, od19, .func (PySem.W.fnOf "law" "law" (defArgs sLaw) (defBody sLaw) (defScope sLaw) .none kV19 dc19 pm19 an19 (.ref cL) ct19), sl19⟩)
    (c19 : PySem.W.codeIn K (.ref cL) "law" = true)
    (k19 : PySem.W.keepIn K (.ref f19) = true)
    (z0 : PySem.W.nsIn K mainGlobals "enumerate" = some none)
    (z1 : PySem.W.nsIn K mainGlobals "range" = some none)
    (z2 : PySem.W.nsIn K mainGlobals "abs" = some none)
    (z3 : PySem.W.nsIn K mainGlobals "len" = some none)
    (z4 : PySem.W.nsIn K mainGlobals "min" = some none)
    (z5 : PySem.W.nsIn K mainGlobals "list" = some none)
    (z6 : PySem.W.nsIn K mainGlobals "sorted" = some none)
    (z7 : PySem.W.nsIn K mainGlobals "set" = some none)
    (z8 : PySem.W.nsIn K mainGlobals "isinstance" = some none)
    (z9 : PySem.W.nsIn K mainGlobals "bool" = some none)
    (z10 : PySem.W.nsIn K mainGlobals "int" = some none)
    (z11 : PySem.W.nsIn K mainGlobals "str" = some none)
    (z12 : PySem.W.nsIn K mainGlobals "tuple" = some none)
    (z13 : PySem.W.nsIn K mainGlobals "all" = some none)
    (z14 : PySem.W.nsIn K mainGlobals "ValueError" = some none)
    (z15 : PySem.W.nsIn K mainGlobals "super" = some none)
    {t0 : Tok}
    (y0 : PySem.W.nsIn K mainGlobals "MOST_SIGNS" = some (some (.int 64 t0)))
    {CS C1 C2 C3 C : Addr}
    (nCS : PySem.W.nsIn K mainGlobals "SetError" = some (some (.ref CS)))
    (nC1 : PySem.W.nsIn K mainGlobals "BadSize" = some (some (.ref C1)))
    (nC2 : PySem.W.nsIn K mainGlobals "BadSet" = some (some (.ref C2)))
    (nC3 : PySem.W.nsIn K mainGlobals "BadNumber" = some (some (.ref C3)))
    (nC : PySem.W.nsIn K mainGlobals "BadText" = some (some (.ref C)))
    {nm qn : Str} {NN : Addr} {bs bm : List Value} {sn : List Str} {sub : List Value} {ab : Bool} {col : Option Bool} {dd : Option Addr} {x0 x1 x2 x3 x5 : Option Value}
    (xC : K.lookup C = some (excClassObj nm qn C NN bs bm true sn sub ab col dd x0 x1 x2 x3 x5 "ValueError.__new__"))
    (rC : PySem.HandSPX.refsVE bm = true)
    (sC : PySem.W.findIn K (.ref C) "__setattr__" = some (some (.builtin "object.__setattr__")))
    (gaC : PySem.W.findIn K (.ref C) "__getattribute__" = some (some (.builtin "BaseException.__getattribute__")))
    (ggC : PySem.W.findIn K (.ref C) "__getattr__" = some none)
    (hno : PySem.W.findIn K (.ref C) "place" = some none)
    (clC : PySem.W.findIn K (.ref C) "__class__" = some (some (.builtin "object.__class__")))
    (spC : PySem.W.specialIn K (.builtin "object.__class__") "__get__" = some (some (.builtin "getset_descriptor.__get__")))
    (tkC : PySem.W.takesIn K (.builtin "object.__class__") = some true)
    (moC : PySem.W.mroIn K C (.type "object") = some true)
    (eC : PySem.W.subIn K (.ref C) (.type "BaseException") = some true)
    (tC : PySem.W.typeIn K (.ref C) = some (.type "type"))
    (kC : PySem.W.keepIn K (.ref C) = true)
    (dC : PySem.W.hasDictIn K C = true)
    (vC : PySem.W.subIn K (.ref C) (.type "ValueError") = some true)
    (oC : PySem.W.mroIn K C (.ref C) = some true)
    (suC : PySem.W.ks_superIn K C C "__init__" = some (some (.builtin "ValueError.__init__")))
    (opq : PySem.W.nsIn K cStatics "thirdparty.any" = some none)
    {fI cc cda : Addr} {kVI dcI pmI ctI ocI : Value} {anI odI : Option Addr} {slI : Array (Option Value)}
    (iC : PySem.W.findIn K (.ref C) "__init__" = some (some (.ref fI)))
    (tI : PySem.W.typeIn K (.ref fI) = some (.type "function"))
    (lI : K.lookup fI = some ⟨ocI, odI, .func (PySem.W.ksFn "__init__" "BadText.__init__" (defArgs mBadText) (defBody mBadText) (defScope mBadText) .none kVI dcI pmI anI (.ref cda) ctI cc), slI⟩)
    (cI : PySem.W.codeIn K (.ref cda) "BadText.__init__" = true)
    {cl0 : Value} {cl1 : Option Addr} {cl2 : Array (Option Value)}
    (ceI : K.lookup cc = some ⟨cl0, cl1, .cell (some (.ref C)), cl2⟩)
    {cc0 : Value} {cc1 : Option Addr} {vs0 : Array Value} {cc2 : Array (Option Value)} {file : Str} {tf : Tok}
    (coI : K.lookup cda = some ⟨cc0, cc1, .fields vs0, cc2⟩)
    (vsI : vs0[2]? = some (.str file tf))
    (hfile : ((l.prog.main.file : Str) == file) = true)
    (htop : (l.prog.main.scope.names.lookup ("super" : Str)).isSome = false)
    (s1 : PySem.W.subIn K (.ref CS) (.type "BaseException") = some true)
    (s2 : PySem.W.hasDictIn K CS = true)
    (s3 : PySem.W.typeIn K (.ref CS) = some (.type "type"))
    (s4 : PySem.W.subIn K (.ref C) (.ref CS) = some true)
    (kit1 : PySem.W.kitOne K (.ref C) (.ref C1) = some false)
    (kit2 : PySem.W.kitOne K (.ref C) (.ref C2) = some false)
    (kit3 : PySem.W.kitOne K (.ref C) (.ref C3) = some false)
    (kV : PySem.W.kitOne K (.ref C) (.type "ValueError") = some true)
    {Pt : Addr} {e0 : Value} {e1 : Option Addr} {vsL : Array Value} {e2 : Array (Option Value)}
    (coL : K.lookup cL = some ⟨e0, e1, .fields vsL, e2⟩)
    (ptL : vsL[11]? = some (.ref Pt))
    (hdL : PySem.W.codeHdIn K cL Pt = true)
    (noL : K.lookup Pt = none) :
    LamX.LawAtS l w K CX0 7 63 "_law_script" mg fa h := by
  have eL := hfa.symm.trans (PySem.W.mg_of X G a19)
  cases eL
  have FCheckSize := fun_mk (st := sCheckSize) l0 c0 k0
  have BCheckSize := FCheckSize.binds (ps := ["size"]) fun _ _ _ _ _ _ us hl => match us, hl with | [_], _ => rfl
  have GCheckSize := PySem.W.mg_of X G a0
  have KCheckSize := k0
  have FMarksOf := fun_mk (st := sMarksOf) l1 c1 k1
  have BMarksOf := FMarksOf.binds (ps := ["size", "ranges"]) fun _ _ _ _ _ _ us hl => match us, hl with | [_, _], _ => rfl
  have GMarksOf := PySem.W.mg_of X G a1
  have KMarksOf := k1
  have FRangesOf := fun_mk (st := sRangesOf) l2 c2 k2
  have BRangesOf := FRangesOf.binds (ps := ["marks"]) fun _ _ _ _ _ _ us hl => match us, hl with | [_], _ => rfl
  have GRangesOf := PySem.W.mg_of X G a2
  have KRangesOf := k2
  have FItemRange := fun_mk (st := sItemRange) l3 c3 k3
  have BItemRange := FItemRange.binds (ps := ["numbers", "item"]) fun _ _ _ _ _ _ us hl => match us, hl with | [_, _], _ => rfl
  have GItemRange := PySem.W.mg_of X G a3
  have KItemRange := k3
  have FItemRanges := fun_mk (st := sItemRanges) l4 c4 k4
  have BItemRanges := FItemRanges.binds (ps := ["size", "items"]) fun _ _ _ _ _ _ us hl => match us, hl with | [_, _], _ => rfl
  have GItemRanges := PySem.W.mg_of X G a4
  have KItemRanges := k4
  have FRead := fun_mk (st := sRead) l5 c5 k5
  have BRead := FRead.binds (ps := ["size", "text"]) fun _ _ _ _ _ _ us hl => match us, hl with | [_, _], _ => rfl
  have GRead := PySem.W.mg_of X G a5
  have KRead := k5
  have FLawDice := fun_mk (st := sLawDice) l6 c6 k6
  have BLawDice := FLawDice.binds (ps := ["_law_script", "_law_k"]) fun _ _ _ _ _ _ us hl => match us, hl with | [_, _], _ => rfl
  have GLawDice := PySem.W.mg_of X G a6
  have KLawDice := k6
  have FLawOff := fun_mk (st := sLawOff) l7 c7 k7
  have BLawOff := FLawOff.binds (ps := ["_law_d", "_law_most"]) fun _ _ _ _ _ _ us hl => match us, hl with | [_, _], _ => rfl
  have GLawOff := PySem.W.mg_of X G a7
  have KLawOff := k7
  have FLawSize := fun_mk (st := sLawSize) l8 c8 k8
  have BLawSize := FLawSize.binds (ps := ["_law_d"]) fun _ _ _ _ _ _ us hl => match us, hl with | [_], _ => rfl
  have GLawSize := PySem.W.mg_of X G a8
  have KLawSize := k8
  have FLawSet := fun_mk (st := sLawSet) l9 c9 k9
  have BLawSet := FLawSet.binds (ps := ["_law_d", "_law_size_here", "_law_most"]) fun _ _ _ _ _ _ us hl => match us, hl with | [_, _, _], _ => rfl
  have GLawSet := PySem.W.mg_of X G a9
  have KLawSet := k9
  have FLawMembers := fun_mk (st := sLawMembers) l10 c10 k10
  have BLawMembers := FLawMembers.binds (ps := ["_law_size_here", "_law_ranges"]) fun _ _ _ _ _ _ us hl => match us, hl with | [_, _], _ => rfl
  have GLawMembers := PySem.W.mg_of X G a10
  have KLawMembers := k10
  have FLawTold := fun_mk (st := sLawTold) l11 c11 k11
  have BLawTold := FLawTold.binds (ps := ["_law_numbers"]) fun _ _ _ _ _ _ us hl => match us, hl with | [_], _ => rfl
  have GLawTold := PySem.W.mg_of X G a11
  have KLawTold := k11
  have FLawOthers := fun_mk (st := sLawOthers) l12 c12 k12
  have BLawOthers := FLawOthers.binds (ps := ["_law_size_here", "_law_numbers"]) fun _ _ _ _ _ _ us hl => match us, hl with | [_, _], _ => rfl
  have GLawOthers := PySem.W.mg_of X G a12
  have KLawOthers := k12
  have FLawIs := fun_mk (st := sLawIs) l13 c13 k13
  have BLawIs := FLawIs.binds (ps := ["_law_word", "_law_size_here"]) fun _ _ _ _ _ _ us hl => match us, hl with | [_, _], _ => rfl
  have GLawIs := PySem.W.mg_of X G a13
  have KLawIs := k13
  have FLawDue := fun_mk (st := sLawDue) l14 c14 k14
  have BLawDue := FLawDue.binds (ps := ["_law_size_here", "_law_text_here"]) fun _ _ _ _ _ _ us hl => match us, hl with | [_, _], _ => rfl
  have GLawDue := PySem.W.mg_of X G a14
  have KLawDue := k14
  have FLawText := fun_mk (st := sLawText) l15 c15 k15
  have BLawText := FLawText.binds (ps := ["_law_d", "_law_numbers"]) fun _ _ _ _ _ _ us hl => match us, hl with | [_, _], _ => rfl
  have GLawText := PySem.W.mg_of X G a15
  have KLawText := k15
  have FLawChanged := fun_mk (st := sLawChanged) l16 c16 k16
  have BLawChanged := FLawChanged.binds (ps := ["_law_d", "_law_text_here"]) fun _ _ _ _ _ _ us hl => match us, hl with | [_, _], _ => rfl
  have GLawChanged := PySem.W.mg_of X G a16
  have KLawChanged := k16
  have FLawAlike := fun_mk (st := sLawAlike) l17 c17 k17
  have BLawAlike := FLawAlike.binds (ps := ["_law_found", "_law_due_here"]) fun _ _ _ _ _ _ us hl => match us, hl with | [_, _], _ => rfl
  have GLawAlike := PySem.W.mg_of X G a17
  have KLawAlike := k17
  have FLawRefused := fun_mk (st := sLawRefused) l18 c18 k18
  have BLawRefused := FLawRefused.binds (ps := ["_law_work", "_law_word", "_law_value"]) fun _ _ _ _ _ _ us hl => match us, hl with | [_, _, _], _ => rfl
  have GLawRefused := PySem.W.mg_of X G a18
  have KLawRefused := k18
  have m_enumerate := PySem.W.mg_none_of X G z0
  have m_range := PySem.W.mg_none_of X G z1
  have m_abs := PySem.W.mg_none_of X G z2
  have m_len := PySem.W.mg_none_of X G z3
  have m_min := PySem.W.mg_none_of X G z4
  have m_list := PySem.W.mg_none_of X G z5
  have m_sorted := PySem.W.mg_none_of X G z6
  have m_set := PySem.W.mg_none_of X G z7
  have m_isinstance := PySem.W.mg_none_of X G z8
  have m_bool := PySem.W.mg_none_of X G z9
  have m_int := PySem.W.mg_none_of X G z10
  have m_str := PySem.W.mg_none_of X G z11
  have m_tuple := PySem.W.mg_none_of X G z12
  have m_all := PySem.W.mg_none_of X G z13
  have m_ValueError := PySem.W.mg_none_of X G z14
  have m_super := PySem.W.mg_none_of X G z15
  have m_MOST_SIGNS := PySem.W.mg_of X G y0
  have gS := PySem.W.mg_of X G nCS
  have g1 := PySem.W.mg_of X G nC1
  have g2 := PySem.W.mg_of X G nC2
  have g3 := PySem.W.mg_of X G nC3
  have gC := PySem.W.mg_of X G nC
  have TO : OexC K C := ⟨⟨nm, qn, NN, bs, bm, sn, sub, ab, col, dd, x0, x1, x2, x3, x5, xC, rC⟩, sC, eC, tC, kC⟩
  have XC : ExcC K C := ⟨gaC, ggC, eC, dC, clC, spC, tkC, moC⟩
  have XF : XfC K C := ⟨gaC, ggC, eC, dC⟩
  have eS := PySem.W.exm_ref (K := K) (C := CS) (cls := .ref C) s1 s2 s3 s4
  have SU : SW.SupC K C cc := ⟨TO, ⟨_, _, _, ceI⟩, suC, vC, oC, opq⟩
  have q1 := kit1
  have q2 := kit2
  have q3 := kit3
  refine ⟨PySem.W.fnOf "law" "law" (defArgs sLaw) (defBody sLaw) (defScope sLaw) .none kV19 dc19 pm19 an19 (.ref cL) ct19, [(cL, Pt)], spLawT K Pt, fun p hp => ?_, fun p hp => ?_, fun p hp => ?_, fun s v => .of_eq rfl, fun H a ns hl _ hH hS => ⟨a, ns, rfl, hS, hl, hH _ List.mem_cons_self, fun _ => rfl⟩, fun base _ _ TBs => ?_⟩
  · rw [List.mem_singleton.mp hp]
    exact own cL Pt _ _ _ _ _ _ l19 rfl rfl coL ptL
  · rw [List.mem_singleton.mp hp]
    exact noL
  · rw [List.mem_singleton.mp hp]
    exact PySem.W.codeHd_of_K X hdL
  have TB := TBs _ List.mem_cons_self
  have OBT := ok_btext (P := l.prog) (w := w) (base := base) (CX := CX0) (k := 0) lI cI SU coI vsI hfile m_super htop hno
  have BBT : Binds K (PySem.W.ksFn "__init__" "BadText.__init__" (defArgs mBadText) (defBody mBadText) (defScope mBadText) .none kVI dcI pmI anI (.ref cda) ctI cc) ["self", "place"] [] := .all fun us hl => match us, hl with | [_, _], _ => rfl
  have OCheckSize := ok_size (P := l.prog) (w := w) (base := base) (k := 0) FCheckSize m_MOST_SIGNS
  have OMarksOf := ok_marks (P := l.prog) (w := w) (base := base) (k := 0) FMarksOf m_range
  have ORangesOf := ok_ranges (P := l.prog) (w := w) (base := base) (k := 0) FRangesOf m_enumerate
  have OItemRange := ok_itemR (P := l.prog) (w := w) (base := base) (mg := mg) (k := 0) FItemRange
  have OItemRanges := ok_itemRsX (k := 1) FItemRanges (OItemRange.mono (by decide)) GItemRange KItemRange BItemRange m_str m_range m_enumerate OBT BBT TO iC tI gC
  have ORead := ok_readX (k := 1) FRead (OCheckSize.mono (by decide)) GCheckSize KCheckSize BCheckSize (OItemRanges.mono (by decide)) GItemRanges KItemRanges BItemRanges (OMarksOf.mono (by decide)) GMarksOf KMarksOf BMarksOf (ORangesOf.mono (by decide)) GRangesOf KRangesOf BRangesOf
  have OLawDice := ok_dice (P := l.prog) (w := w) (base := base) (k := 2) FLawDice m_abs
  have OLawOff := ok_off (P := l.prog) (w := w) (base := base) (k := 1) FLawOff m_len
  have OLawSize := ok_lsize (k := 1) FLawSize OLawOff GLawOff KLawOff BLawOff
  have OLawSet := ok_lset (k := 1) FLawSet OLawOff GLawOff KLawOff BLawOff m_range m_min
  have OLawMembers := ok_lmem (P := l.prog) (w := w) (base := base) (k := 2) FLawMembers m_list m_range m_sorted m_set
  have OLawTold := ok_ltold (P := l.prog) (w := w) (base := base) (k := 2) FLawTold m_range m_len
  have OLawOthers := ok_loth (P := l.prog) (w := w) (base := base) (k := 2) FLawOthers m_range
  have OLawIs := ok_lis (P := l.prog) (w := w) (base := base) (k := 0) FLawIs m_str m_range
  have OLawDue := ok_ldue (k := 2) FLawDue (OLawIs.mono (by decide)) GLawIs KLawIs BLawIs (OLawOthers.mono (by decide)) GLawOthers KLawOthers BLawOthers (OLawTold.mono (by decide)) GLawTold KLawTold BLawTold m_int m_len m_list m_range
  have OLawText := ok_ltext (k := 2) FLawText (OLawOff.mono (by decide)) GLawOff KLawOff BLawOff (OLawTold.mono (by decide)) GLawTold KLawTold BLawTold m_min m_str
  have OLawChanged := ok_lchange (k := 1) FLawChanged (OLawOff.mono (by decide)) GLawOff KLawOff BLawOff m_len
  have OLawAlike := ok_alike (P := l.prog) (w := w) (base := base) FLawAlike GLawAlike KLawAlike BLawAlike m_isinstance m_bool m_int m_str m_tuple m_list m_len m_all m_range 4
  have OLawRefused := ok_refT (k := 5) FLawRefused (ok_alikeI (P := l.prog) (w := w) (base := base) (k := 4) FLawAlike m_isinstance m_bool m_int) GLawAlike KLawAlike BLawAlike m_isinstance m_ValueError gS g1 g2 g3 gC eS XC XF hno kit1 kit2 kit3 kV
  exact ok_law l19 c19 TB ⟨⟨_, _, OLawDice.mono (by decide), GLawDice, KLawDice, BLawDice⟩⟩ ⟨⟨_, _, OLawOff.mono (by decide), GLawOff, KLawOff, BLawOff⟩⟩ ⟨⟨_, _, OLawSize.mono (by decide), GLawSize, KLawSize, BLawSize⟩⟩ ⟨⟨_, _, OLawSet.mono (by decide), GLawSet, KLawSet, BLawSet⟩⟩ ⟨⟨_, _, OLawMembers.mono (by decide), GLawMembers, KLawMembers, BLawMembers⟩⟩ ⟨⟨_, _, OLawDue.mono (by decide), GLawDue, KLawDue, BLawDue⟩⟩ ⟨⟨_, _, OLawText.mono (by decide), GLawText, KLawText, BLawText⟩⟩ ⟨⟨_, _, OLawChanged.mono (by decide), GLawChanged, KLawChanged, BLawChanged⟩⟩ ⟨⟨_, _, OLawAlike.mono (by decide), GLawAlike, KLawAlike, BLawAlike⟩⟩ (ORead.mono (by decide)) GRead KRead BRead OLawRefused GLawRefused KLawRefused BLawRefused m_range m_str m_isinstance m_list
end
end SG
open PySem PySem.W PyProof.Rows
set_option maxHeartbeats 0 in
theorem PySem.Challenge.cw_signsets_k07_texts_read_holds : PySem.Challenge.rw_signsets_k07_texts_read.Holds := by
  w_on; o_law; k_head; (case hw => w_witness2)
  k_fill
  refine LamX.walk_ofOwn (l := PySem.Challenge.rw_signsets_k07_texts_read) (n := 63) (k := 7) (x := "_law_script") (CX := fun _ => L2.CX0) rfl (by decide) rfl ⟨rfl, by decide, by decide⟩ (by decide +kernel) (fun w h Y => PySem.W.km_in_of Y) ?F (fun _ _ _ _ _ h => h)
  case F =>
    intro w mg fa h Y KX G hmg own
    refine' SG.all_mk KX G hmg own ?a0 ?l0 ?c0 ?k0 ?a1 ?l1 ?c1 ?k1 ?a2 ?l2 ?c2 ?k2 ?a3 ?l3 ?c3 ?k3 ?a4 ?l4 ?c4 ?k4 ?a5 ?l5 ?c5 ?k5 ?a6 ?l6 ?c6 ?k6 ?a7 ?l7 ?c7 ?k7 ?a8 ?l8 ?c8 ?k8 ?a9 ?l9 ?c9 ?k9 ?a10 ?l10 ?c10 ?k10 ?a11 ?l11 ?c11 ?k11 ?a12 ?l12 ?c12 ?k12 ?a13 ?l13 ?c13 ?k13 ?a14 ?l14 ?c14 ?k14 ?a15 ?l15 ?c15 ?k15 ?a16 ?l16 ?c16 ?k16 ?a17 ?l17 ?c17 ?k17 ?a18 ?l18 ?c18 ?k18 ?a19 ?l19 ?c19 ?k19 ?z0 ?z1 ?z2 ?z3 ?z4 ?z5 ?z6 ?z7 ?z8 ?z9 ?z10 ?z11 ?z12 ?z13 ?z14 ?z15 ?y0 ?nCS ?nC1 ?nC2 ?nC3 ?nC ?xC ?rC ?sC ?gaC ?ggC ?hno ?clC ?spC ?tkC ?moC ?eC ?tC ?kC ?dC ?vC ?oC ?suC ?opq ?iC ?tI ?lI ?cI ?ceI ?coI ?vsI ?hfile ?htop ?s1 ?s2 ?s3 ?s4 ?kit1 ?kit2 ?kit3 ?kV ?coL ?ptL ?hdL ?noL
    (case a0 => k_is); (case l0 => k_is); (case c0 => k_is); (case k0 => k_is); (case a1 => k_is); (case l1 => k_is)
    (case c1 => k_is); (case k1 => k_is); (case a2 => k_is); (case l2 => k_is); (case c2 => k_is); (case k2 => k_is)
    (case a3 => k_is); (case l3 => k_is); (case c3 => k_is); (case k3 => k_is); (case a4 => k_is); (case l4 => k_is)
    (case c4 => k_is); (case k4 => k_is); (case a5 => k_is); (case l5 => k_is); (case c5 => k_is); (case k5 => k_is)
    (case a6 => k_is); (case l6 => k_is); (case c6 => k_is); (case k6 => k_is); (case a7 => k_is); (case l7 => k_is)
    (case c7 => k_is); (case k7 => k_is); (case a8 => k_is); (case l8 => k_is); (case c8 => k_is); (case k8 => k_is)
    (case a9 => k_is); (case l9 => k_is); (case c9 => k_is); (case k9 => k_is); (case a10 => k_is); (case l10 => k_is)
    (case c10 => k_is); (case k10 => k_is); (case a11 => k_is); (case l11 => k_is); (case c11 => k_is); (case k11 => k_is)
    (case a12 => k_is); (case l12 => k_is); (case c12 => k_is); (case k12 => k_is); (case a13 => k_is); (case l13 => k_is)
    (case c13 => k_is); (case k13 => k_is); (case a14 => k_is); (case l14 => k_is); (case c14 => k_is); (case k14 => k_is)
    (case a15 => k_is); (case l15 => k_is); (case c15 => k_is); (case k15 => k_is); (case a16 => k_is); (case l16 => k_is)
    (case c16 => k_is); (case k16 => k_is); (case a17 => k_is); (case l17 => k_is); (case c17 => k_is); (case k17 => k_is)
    (case a18 => k_is); (case l18 => k_is); (case c18 => k_is); (case k18 => k_is); (case a19 => k_is); (case l19 => k_is)
    (case c19 => k_is); (case k19 => k_is); (case z0 => k_is); (case z1 => k_is); (case z2 => k_is); (case z3 => k_is)
    (case z4 => k_is); (case z5 => k_is); (case z6 => k_is); (case z7 => k_is); (case z8 => k_is); (case z9 => k_is)
    (case z10 => k_is); (case z11 => k_is); (case z12 => k_is); (case z13 => k_is); (case z14 => k_is); (case z15 => k_is)
    (case y0 => k_is); (case nCS => k_is); (case nC1 => k_is); (case nC2 => k_is); (case nC3 => k_is); (case nC => k_is)
    (case xC => k_is); (case rC => decide +kernel); (case sC => k_is); (case gaC => k_is); (case ggC => k_is); (case hno => k_is)
    (case clC => k_is); (case spC => k_is); (case tkC => k_is); (case moC => k_is); (case eC => k_is); (case tC => k_is)
    (case kC => k_is); (case dC => k_is); (case vC => k_is); (case oC => k_is); (case suC => kernel_rfl); (case opq => k_is)
    (case iC => k_is); (case tI => k_is); (case lI => k_is); (case cI => k_is); (case ceI => k_is); (case coI => k_is)
    (case vsI => rfl); (case hfile => decide +kernel); (case htop => decide +kernel); (case s1 => k_is); (case s2 => k_is); (case s3 => k_is)
    (case s4 => k_is); (case kit1 => kernel_rfl); (case kit2 => kernel_rfl); (case kit3 => kernel_rfl); (case kV => kernel_rfl); (case coL => k_is)
    (case ptL => rfl); (case hdL => kernel_rfl); (case noL => kernel_rfl)

