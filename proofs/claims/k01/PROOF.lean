import PyProof.Rows.All
import Wide.All
import OpenK.AllK
import Wide.FinOn
import HandS.ForMost
import HandS.Walk
import HandS.Evl
import HandS.NoneIn
import HandS.Style
import HandS.Conv
import HandS.Set
import HandS.Strs
import HandS.SetFor
import HandS.SortInts
import HandS.IsInst
import HandS.SetKeys
import KE.DatumOrd
import PyProof.Rows.StrPadWhole
import HandS.SetBool
import HandS.TupLen
import PyProof.DictMoreH
import HandS.FStr
import HandS.Text
import HandS.StrMore
import HandS.DictComp
import HandS.ExcInit
import HandS.ExcOwn
import HandS.Nested
import HandS.ClsMeth
import KE.KExcSuper
import HandS.ExcIs
import HandS.ExcField
import KE.KExcIs
import HandS.HotCalls
import HandS.Comp
import HandS.ExcInitHot
import HandS.Words
import HandS.WordsExc
import HandS.FStr
import HandS.ReplaceDef
import KE.KDflt
import HandS.List
import HandS.EndOwn
import KE.KNestM
import PySem.Challenge.RW_signsets_k01_sets_refused
set_option Elab.async false
set_option linter.all false
set_option maxRecDepth 100000
set_option maxHeartbeats 4000001
namespace SM
/-- whether a sign is in one of the ranges -/
def memB (rs : List (Nat × Nat)) (k : Nat) : Bool := rs.any fun r => decide (r.1 ≤ k) && decide (k ≤ r.2)
/-- the start of the run behind sign i, and the runs told so far -/
def st (m : Nat → Bool) : Nat → Nat
  | 0 => 0
  | i + 1 => if m i = true then st m i else i + 1
def told (m : Nat → Bool) : Nat → List (Nat × Nat)
  | 0 => []
  | i + 1 => if m i = true then (if st m i = i then told m i ++ [(i, i)] else (told m i).dropLast ++ [(st m i, i)]) else told m i
theorem st_yes {m : Nat → Bool} {i : Nat} (h : m i = true) : st m (i + 1) = st m i := by rw [st, if_pos h]
theorem st_no {m : Nat → Bool} {i : Nat} (h : m i = false) : st m (i + 1) = i + 1 := by rw [st, if_neg (by rw [h]; decide)]
theorem memB_nil (k : Nat) : memB [] k = false := rfl
theorem memB_cons (r : Nat × Nat) (rs : List (Nat × Nat)) (k : Nat) : memB (r :: rs) k = ((decide (r.1 ≤ k) && decide (k ≤ r.2)) || memB rs k) := rfl
theorem memB_append (a b : List (Nat × Nat)) (k : Nat) : memB (a ++ b) k = (memB a k || memB b k) := List.any_append
theorem memB_one (r : Nat × Nat) (k : Nat) : memB [r] k = (decide (r.1 ≤ k) && decide (k ≤ r.2)) := by
  rw [memB_cons, memB_nil, Bool.or_false]
theorem memB_iff {rs : List (Nat × Nat)} {k : Nat} : memB rs k = true ↔ ∃ r ∈ rs, r.1 ≤ k ∧ k ≤ r.2 := by
  unfold memB
  rw [List.any_eq_true]
  constructor
  · rintro ⟨r, h, e⟩
    rw [Bool.and_eq_true, decide_eq_true_eq, decide_eq_true_eq] at e
    exact ⟨r, h, e⟩
  · rintro ⟨r, h, e⟩
    exact ⟨r, h, by rw [Bool.and_eq_true, decide_eq_true_eq, decide_eq_true_eq]; exact e⟩
theorem memB_perm {a b : List (Nat × Nat)} (h : ∀ r, r ∈ a ↔ r ∈ b) (k : Nat) : memB a k = memB b k := by
  rw [Bool.eq_iff_iff, memB_iff, memB_iff]
  constructor
  · rintro ⟨r, q, e⟩; exact ⟨r, (h r).mp q, e⟩
  · rintro ⟨r, q, e⟩; exact ⟨r, (h r).mpr q, e⟩
theorem st_le (m : Nat → Bool) : ∀ i, st m i ≤ i
  | 0 => Nat.le_refl 0
  | i + 1 => by
    have := st_le m i
    unfold st
    split <;> omega
/-- rising, with a gap between each two -/
structure Sep (rs : List (Nat × Nat)) : Prop where
  le : ∀ r ∈ rs, r.1 ≤ r.2
  gap : rs.Pairwise fun r s => r.2 + 1 < s.1
/-- what the loop keeps -/
structure Kept (m : Nat → Bool) (i : Nat) : Prop where
  run : ∀ k, st m i ≤ k → k < i → m k = true
  edge : st m i = 0 ∨ ∃ j, st m i = j + 1 ∧ m j = false
  shape : ∃ pre, told m i = pre ++ (if st m i < i then [(st m i, i - 1)] else []) ∧ Sep pre ∧ (∀ r ∈ pre, r.2 + 1 < st m i) ∧ (∀ k, k < st m i → memB pre k = m k)
theorem kept (m : Nat → Bool) : ∀ i, Kept m i
  | 0 => ⟨fun k _ h => absurd h (Nat.not_lt_zero k), .inl rfl, [], rfl, ⟨fun _ h => by simp at h, List.Pairwise.nil⟩, fun _ h => by simp at h, fun k h => absurd h (Nat.not_lt_zero k)⟩
  | i + 1 => by
    have K := kept m i
    have hle := st_le m i
    obtain ⟨pre, e, sp, hb, hm⟩ := K.shape
    cases hi : m i with
    | true =>
      have es : st m (i + 1) = st m i := by rw [st, if_pos hi]
      refine ⟨fun k h1 h2 => ?_, ?_, pre, ?_, sp, ?_, ?_⟩
      · rw [es] at h1
        by_cases c : k = i
        · rw [c]; exact hi
        · exact K.run k h1 (by omega)
      · rw [es]; exact K.edge
      · rw [es, if_pos (by omega), Nat.add_sub_cancel, told, if_pos hi]
        by_cases c : st m i = i
        · rw [if_pos c, e, if_neg (by omega), List.append_nil, c]
        · rw [if_neg c, e, if_pos (by omega), List.dropLast_concat]
      · rw [es]; exact hb
      · rw [es]; exact hm
    | false =>
      have es : st m (i + 1) = i + 1 := by rw [st, if_neg (by rw [hi]; decide)]
      have et : told m (i + 1) = told m i := by rw [told, if_neg (by rw [hi]; decide)]
      refine ⟨fun k h1 h2 => by omega, .inr ⟨i, es, hi⟩, told m i, ?_, ?_, ?_, ?_⟩
      · rw [es, if_neg (by omega), List.append_nil, et]
      · rw [e]
        by_cases c : st m i < i
        · rw [if_pos c]
          refine ⟨fun r h => ?_, ?_⟩
          · rcases List.mem_append.mp h with h | h
            · exact sp.le r h
            · rw [List.mem_singleton.mp h]; show st m i ≤ i - 1; omega
          · refine List.pairwise_append.mpr ⟨sp.gap, List.pairwise_singleton _ _, fun r h s hs => ?_⟩
            rw [List.mem_singleton.mp hs]
            exact hb r h
        · rw [if_neg c, List.append_nil]; exact sp
      · intro r h
        rw [es]
        rw [e] at h
        rcases List.mem_append.mp h with h | h
        · have := hb r h; omega
        · by_cases c : st m i < i
          · rw [if_pos c] at h
            rw [List.mem_singleton.mp h]
            show i - 1 + 1 < i + 1
            omega
          · rw [if_neg c] at h; simp at h
      · intro k hk
        rw [es] at hk
        rw [e, memB_append]
        by_cases c : st m i < i
        · rw [if_pos c, memB_one]
          by_cases c2 : k < st m i
          · rw [hm k c2, decide_eq_false (show ¬ st m i ≤ k by omega), Bool.false_and, Bool.or_false]
          · have np : memB pre k = false := by
              cases q : memB pre k with
              | false => rfl
              | true =>
                obtain ⟨r, hr, _, h2⟩ := memB_iff.mp q
                have := hb r hr
                omega
            rw [np, Bool.false_or]
            by_cases c3 : k = i
            · rw [c3, hi, decide_eq_false (show ¬ i ≤ i - 1 by omega), Bool.and_false]
            · rw [K.run k (by omega) (by omega), decide_eq_true (show st m i ≤ k by omega), decide_eq_true (show k ≤ i - 1 by omega)]; rfl
        · rw [if_neg c, memB_nil, Bool.or_false]
          by_cases c2 : k < st m i
          · exact hm k c2
          · have ek : k = i := by omega
            subst ek
            rw [hi]
            cases q : memB pre k with
            | false => rfl
            | true =>
              obtain ⟨r, hr, _, h2⟩ := memB_iff.mp q
              have := hb r hr
              omega
theorem told_sep (m : Nat → Bool) (n : Nat) : Sep (told m n) := by
  obtain ⟨pre, e, sp, hb, hm⟩ := (kept m n).shape
  rw [e]
  by_cases c : st m n < n
  · rw [if_pos c]
    refine ⟨fun r h => ?_, ?_⟩
    · rcases List.mem_append.mp h with h | h
      · exact sp.le r h
      · rw [List.mem_singleton.mp h]; show st m n ≤ n - 1; omega
    · refine List.pairwise_append.mpr ⟨sp.gap, List.pairwise_singleton _ _, fun r h s hs => ?_⟩
      rw [List.mem_singleton.mp hs]
      exact hb r h
  · rw [if_neg c, List.append_nil]; exact sp
theorem told_below (m : Nat → Bool) (n : Nat) : ∀ r ∈ told m n, r.2 < n := by
  obtain ⟨pre, e, sp, hb, hm⟩ := (kept m n).shape
  have hle := st_le m n
  intro r h
  rw [e] at h
  rcases List.mem_append.mp h with h | h
  · have := hb r h; omega
  · by_cases c : st m n < n
    · rw [if_pos c] at h
      rw [List.mem_singleton.mp h]
      show n - 1 < n
      omega
    · rw [if_neg c] at h; simp at h
theorem told_mem (m : Nat → Bool) (n k : Nat) (hk : k < n) : memB (told m n) k = m k := by
  have K := kept m n
  have hle := st_le m n
  obtain ⟨pre, e, sp, hb, hm⟩ := K.shape
  rw [e, memB_append]
  by_cases c2 : k < st m n
  · rw [hm k c2]
    by_cases c : st m n < n
    · rw [if_pos c, memB_one, decide_eq_false (show ¬ st m n ≤ k by omega), Bool.false_and, Bool.or_false]
    · rw [if_neg c, memB_nil, Bool.or_false]
  · rw [if_pos (by omega), memB_one, K.run k (by omega) hk, decide_eq_true (show st m n ≤ k by omega), decide_eq_true (show k ≤ n - 1 by omega)]
    exact Bool.or_true _
theorem st_congr {m m' : Nat → Bool} : ∀ n, (∀ k, k < n → m k = m' k) → st m n = st m' n
  | 0, _ => rfl
  | n + 1, h => by
    rw [st, st, h n (Nat.lt_succ_self n), st_congr n fun k hk => h k (Nat.lt_succ_of_lt hk)]
theorem told_congr {m m' : Nat → Bool} : ∀ n, (∀ k, k < n → m k = m' k) → told m n = told m' n
  | 0, _ => rfl
  | n + 1, h => by
    have h' : ∀ k, k < n → m k = m' k := fun k hk => h k (Nat.lt_succ_of_lt hk)
    rw [told, told, h n (Nat.lt_succ_self n), st_congr n h', told_congr n h']
theorem sep_len : ∀ (rs : List (Nat × Nat)) (a n : Nat), Sep rs → (∀ r ∈ rs, a ≤ r.1 ∧ r.2 < n) → a ≤ n + 1 → 2 * rs.length + a ≤ n + 1
  | [], a, n, _, _, h => by simpa using h
  | r :: rs, a, n, s, h, ha => by
    have h1 := s.le r List.mem_cons_self
    have h2 := h r List.mem_cons_self
    have g := List.pairwise_cons.mp s.gap
    have s' : Sep rs := ⟨fun q hq => s.le q (List.mem_cons_of_mem _ hq), g.2⟩
    have ih := sep_len rs (r.2 + 2) n s' (fun q hq => by
      have a1 := g.1 q hq
      have a2 := h q (List.mem_cons_of_mem _ hq)
      exact ⟨by omega, a2.2⟩) (by omega)
    rw [List.length_cons]
    omega
theorem told_len (m : Nat → Bool) (n : Nat) : 2 * (told m n).length ≤ n + 1 := by
  have := sep_len (told m n) 0 n (told_sep m n) (fun r h => ⟨Nat.zero_le _, told_below m n r h⟩) (by omega)
  omega
theorem st_true : ∀ n, st (fun _ => true) n = 0
  | 0 => rfl
  | n + 1 => by rw [st, if_pos rfl, st_true n]
theorem told_true : ∀ n, told (fun _ => true) (n + 1) = [(0, n)]
  | 0 => rfl
  | n + 1 => by
    rw [told, if_pos rfl, st_true, if_neg (by omega), told_true n]; rfl
theorem told_false : ∀ n, told (fun _ => false) n = []
  | 0 => rfl
  | n + 1 => by rw [told, if_neg (by decide), told_false n]
/-- a set that can be -/
structure Good (n : Nat) (rs : List (Nat × Nat)) : Prop where
  len : rs.length ≤ 40
  ok : ∀ r ∈ rs, r.1 ≤ r.2 ∧ r.2 < n
theorem told_good (m : Nat → Bool) {n : Nat} (h : n ≤ 64) : Good n (told m n) :=
  ⟨by have := told_len m n; omega, fun r hr => ⟨(told_sep m n).le r hr, told_below m n r hr⟩⟩
theorem memB_lt {n : Nat} {rs : List (Nat × Nat)} (g : ∀ r ∈ rs, r.1 ≤ r.2 ∧ r.2 < n) {k : Nat} (h : memB rs k = true) : k < n := by
  obtain ⟨r, hr, h1, h2⟩ := memB_iff.mp h
  have := g r hr
  omega
end SM

namespace SM
theorem sortedNat : ∀ {a b : List Nat}, a.Pairwise (· < ·) → b.Pairwise (· < ·) → (∀ k, k ∈ a ↔ k ∈ b) → a = b
  | [], [], _, _, _ => rfl
  | [], y :: b, _, _, h => absurd ((h y).mpr List.mem_cons_self) (by simp)
  | x :: a, [], _, _, h => absurd ((h x).mp List.mem_cons_self) (by simp)
  | x :: a, y :: b, ha, hb, h => by
    obtain ⟨a1, a2⟩ := List.pairwise_cons.mp ha
    obtain ⟨b1, b2⟩ := List.pairwise_cons.mp hb
    have e : x = y := by
      rcases List.mem_cons.mp ((h x).mp List.mem_cons_self) with e | e
      · exact e
      · rcases List.mem_cons.mp ((h y).mpr List.mem_cons_self) with e' | e'
        · exact e'.symm
        · have := b1 x e; have := a1 y e'; omega
    subst e
    refine congrArg (x :: ·) (sortedNat a2 b2 fun k => ⟨fun hk => ?_, fun hk => ?_⟩)
    · rcases List.mem_cons.mp ((h k).mp (List.mem_cons_of_mem _ hk)) with e | e
      · have := a1 k hk; omega
      · exact e
    · rcases List.mem_cons.mp ((h k).mpr (List.mem_cons_of_mem _ hk)) with e | e
      · have := b1 k hk; omega
      · exact e
theorem sortedInt : ∀ {a b : List Int}, a.Pairwise (· < ·) → b.Pairwise (· < ·) → (∀ k, k ∈ a ↔ k ∈ b) → a = b
  | [], [], _, _, _ => rfl
  | [], y :: b, _, _, h => absurd ((h y).mpr List.mem_cons_self) (by simp)
  | x :: a, [], _, _, h => absurd ((h x).mp List.mem_cons_self) (by simp)
  | x :: a, y :: b, ha, hb, h => by
    obtain ⟨a1, a2⟩ := List.pairwise_cons.mp ha
    obtain ⟨b1, b2⟩ := List.pairwise_cons.mp hb
    have e : x = y := by
      rcases List.mem_cons.mp ((h x).mp List.mem_cons_self) with e | e
      · exact e
      · rcases List.mem_cons.mp ((h y).mpr List.mem_cons_self) with e' | e'
        · exact e'.symm
        · have := b1 x e; have := a1 y e'; omega
    subst e
    refine congrArg (x :: ·) (sortedInt a2 b2 fun k => ⟨fun hk => ?_, fun hk => ?_⟩)
    · rcases List.mem_cons.mp ((h k).mp (List.mem_cons_of_mem _ hk)) with e | e
      · have := a1 k hk; omega
      · exact e
    · rcases List.mem_cons.mp ((h k).mpr (List.mem_cons_of_mem _ hk)) with e | e
      · have := b1 k hk; omega
      · exact e
theorem range_lt (n : Nat) : (List.range n).Pairwise (· < ·) := List.pairwise_lt_range
theorem filt_lt (n : Nat) (f : Nat → Bool) : ((List.range n).filter f).Pairwise (· < ·) := (range_lt n).filter f
theorem mem_filt {n : Nat} {f : Nat → Bool} {k : Nat} : k ∈ (List.range n).filter f ↔ k < n ∧ f k = true := by
  rw [List.mem_filter, List.mem_range]
theorem sep_tri : ∀ {rs : List (Nat × Nat)}, Sep rs → ∀ r ∈ rs, ∀ q ∈ rs, r = q ∨ r.2 + 1 < q.1 ∨ q.2 + 1 < r.1
  | [], _, r, hr, _, _ => by simp at hr
  | x :: rs, s, r, hr, q, hq => by
    obtain ⟨g1, g2⟩ := List.pairwise_cons.mp s.gap
    have s' : Sep rs := ⟨fun z hz => s.le z (List.mem_cons_of_mem _ hz), g2⟩
    rcases List.mem_cons.mp hr with e1 | h1
    · rcases List.mem_cons.mp hq with e2 | h2
      · exact .inl (e1.trans e2.symm)
      · rw [e1]; exact .inr (.inl (g1 q h2))
    · rcases List.mem_cons.mp hq with e2 | h2
      · rw [e2]; exact .inr (.inr (g1 r h1))
      · exact sep_tri s' r h1 q h2
theorem sep_fst : ∀ {rs : List (Nat × Nat)}, Sep rs → (rs.map Prod.fst).Pairwise (· < ·) := fun {rs} s => by
  refine List.pairwise_map.mpr ?_
  have h : rs.Pairwise fun r q => r.2 + 1 < q.1 := s.gap
  refine (List.pairwise_iff_forall_sublist.mpr fun {a b} hs => ?_)
  have h1 := List.pairwise_iff_forall_sublist.mp h hs
  have h2 := s.le a (hs.subset (by simp))
  omega
theorem sep_snd : ∀ {rs : List (Nat × Nat)}, Sep rs → (rs.map Prod.snd).Pairwise (· < ·) := fun {rs} s => by
  refine List.pairwise_map.mpr ?_
  have h : rs.Pairwise fun r q => r.2 + 1 < q.1 := s.gap
  refine (List.pairwise_iff_forall_sublist.mpr fun {a b} hs => ?_)
  have h1 := List.pairwise_iff_forall_sublist.mp h hs
  have h2 := s.le b (hs.subset (by simp))
  omega
/-- the first and last signs of runs -/
def isF (m : Nat → Bool) (k : Nat) : Bool := m k && (decide (k = 0) || !m (k - 1))
def isL (n : Nat) (m : Nat → Bool) (k : Nat) : Bool := m k && (decide (k + 1 = n) || !m (k + 1))
theorem told_fst (m : Nat → Bool) (n : Nat) : (told m n).map Prod.fst = (List.range n).filter (isF m) := by
  have s := told_sep m n
  refine sortedNat (sep_fst s) (filt_lt n _) fun k => ?_
  rw [mem_filt, List.mem_map]
  constructor
  · rintro ⟨r, hr, rfl⟩
    have h1 := s.le r hr
    have h2 := told_below m n r hr
    refine ⟨by omega, ?_⟩
    have h3 : m r.1 = true := by rw [← told_mem m n r.1 (by omega)]; exact memB_iff.mpr ⟨r, hr, Nat.le_refl _, h1⟩
    unfold isF
    rw [h3, Bool.true_and]
    by_cases c : r.1 = 0
    · rw [decide_eq_true c]; rfl
    · rw [decide_eq_false c, Bool.false_or, Bool.not_eq_true']
      cases hm : m (r.1 - 1) with
      | false => rfl
      | true =>
        rw [← told_mem m n (r.1 - 1) (by omega)] at hm
        obtain ⟨q, hq, q1, q2⟩ := memB_iff.mp hm
        rcases sep_tri s r hr q hq with e | e | e
        · subst e; omega
        · omega
        · omega
  · rintro ⟨hk, hf⟩
    unfold isF at hf
    obtain ⟨f1, f2⟩ := Bool.and_eq_true_iff.mp hf
    rw [← told_mem m n k hk] at f1
    obtain ⟨r, hr, r1, r2⟩ := memB_iff.mp f1
    refine ⟨r, hr, ?_⟩
    by_cases c : r.1 = k
    · exact c
    · exfalso
      rw [decide_eq_false (show ¬ k = 0 by omega), Bool.false_or, Bool.not_eq_true', ← told_mem m n (k - 1) (by omega)] at f2
      have := memB_iff.mpr ⟨r, hr, show r.1 ≤ k - 1 by omega, show k - 1 ≤ r.2 by omega⟩
      rw [this] at f2; cases f2
theorem told_snd (m : Nat → Bool) (n : Nat) : (told m n).map Prod.snd = (List.range n).filter (isL n m) := by
  have s := told_sep m n
  refine sortedNat (sep_snd s) (filt_lt n _) fun k => ?_
  rw [mem_filt, List.mem_map]
  constructor
  · rintro ⟨r, hr, rfl⟩
    have h1 := s.le r hr
    have h2 := told_below m n r hr
    refine ⟨h2, ?_⟩
    have h3 : m r.2 = true := by rw [← told_mem m n r.2 h2]; exact memB_iff.mpr ⟨r, hr, h1, Nat.le_refl _⟩
    unfold isL
    rw [h3, Bool.true_and]
    by_cases c : r.2 + 1 = n
    · rw [decide_eq_true c]; rfl
    · rw [decide_eq_false c, Bool.false_or, Bool.not_eq_true']
      cases hm : m (r.2 + 1) with
      | false => rfl
      | true =>
        rw [← told_mem m n (r.2 + 1) (by omega)] at hm
        obtain ⟨q, hq, q1, q2⟩ := memB_iff.mp hm
        rcases sep_tri s r hr q hq with e | e | e
        · subst e; omega
        · omega
        · have := s.le q hq; omega
  · rintro ⟨hk, hf⟩
    unfold isL at hf
    obtain ⟨f1, f2⟩ := Bool.and_eq_true_iff.mp hf
    rw [← told_mem m n k hk] at f1
    obtain ⟨r, hr, r1, r2⟩ := memB_iff.mp f1
    refine ⟨r, hr, ?_⟩
    have h2 := told_below m n r hr
    by_cases c : r.2 = k
    · exact c
    · exfalso
      rw [decide_eq_false (show ¬ k + 1 = n by omega), Bool.false_or, Bool.not_eq_true', ← told_mem m n (k + 1) (by omega)] at f2
      have := memB_iff.mpr ⟨r, hr, show r.1 ≤ k + 1 by omega, show k + 1 ≤ r.2 by omega⟩
      rw [this] at f2; cases f2
/-- all numbers of the ranges, as they come -/
def cat (rs : List (Nat × Nat)) : List Int := rs.flatMap fun r => (List.range (r.2 + 1 - r.1)).map fun i => ((r.1 : Int) + (i : Nat))
theorem mem_cat {rs : List (Nat × Nat)} {k : Int} : k ∈ cat rs ↔ ∃ j : Nat, k = (j : Int) ∧ memB rs j = true := by
  unfold cat
  rw [List.mem_flatMap]
  constructor
  · rintro ⟨r, hr, h⟩
    obtain ⟨i, hi, rfl⟩ := List.mem_map.mp h
    rw [List.mem_range] at hi
    exact ⟨r.1 + i, by omega, memB_iff.mpr ⟨r, hr, by omega, by omega⟩⟩
  · rintro ⟨j, rfl, h⟩
    obtain ⟨r, hr, h1, h2⟩ := memB_iff.mp h
    exact ⟨r, hr, List.mem_map.mpr ⟨j - r.1, List.mem_range.mpr (by omega), by omega⟩⟩
theorem cat_len {n : Nat} : ∀ {rs : List (Nat × Nat)}, (∀ r ∈ rs, r.1 ≤ r.2 ∧ r.2 < n) → (cat rs).length ≤ rs.length * n
  | [], _ => by simp [cat]
  | r :: rs, h => by
    have ih := cat_len (rs := rs) fun q hq => h q (List.mem_cons_of_mem _ hq)
    have h1 := h r List.mem_cons_self
    have e : (cat (r :: rs)).length = (r.2 + 1 - r.1) + (cat rs).length := by
      unfold cat
      rw [List.flatMap_cons, List.length_append, List.length_map, List.length_range]
    rw [e, List.length_cons, Nat.succ_mul]
    omega
theorem int_lt {l : List Nat} (h : l.Pairwise (· < ·)) : (l.map fun k : Nat => (k : Int)).Pairwise (· < ·) := List.pairwise_map.mpr (h.imp fun {a b} z => by omega)
end SM

namespace SM
theorem fewest_aux {m : Nat → Bool} : ∀ (ts rs : List (Nat × Nat)), Sep ts → (∀ t ∈ ts, m (t.2 + 1) = false) → (∀ r ∈ rs, ∀ k, r.1 ≤ k → k ≤ r.2 → m k = true) → (∀ t ∈ ts, ∃ r ∈ rs, r.1 ≤ t.1 ∧ t.1 ≤ r.2) → ts.length ≤ rs.length
  | [], rs, _, _, _, _ => Nat.zero_le _
  | t :: ts, rs, s, hm, hr, hx => by
    obtain ⟨r, hrm, r1, r2⟩ := hx t List.mem_cons_self
    have hr2 : r.2 ≤ t.2 := by
      have tl := s.le t List.mem_cons_self
      by_cases c : t.2 + 1 ≤ r.2
      · have := hr r hrm (t.2 + 1) (by omega) c
        rw [hm t List.mem_cons_self] at this; cases this
      · omega
    obtain ⟨g1, g2⟩ := List.pairwise_cons.mp s.gap
    have s' : Sep ts := ⟨fun z hz => s.le z (List.mem_cons_of_mem _ hz), g2⟩
    have ih := fewest_aux ts (rs.erase r) s' (fun z hz => hm z (List.mem_cons_of_mem _ hz)) (fun z hz => hr z (List.mem_of_mem_erase hz)) (fun z hz => by
      obtain ⟨q, hq, q1, q2⟩ := hx z (List.mem_cons_of_mem _ hz)
      have gz := g1 z hz
      refine ⟨q, (List.mem_erase_of_ne (fun e => ?_)).mpr hq, q1, q2⟩
      subst e; omega)
    rw [List.length_erase_of_mem hrm] at ih
    have hp : 0 < rs.length := List.length_pos_of_mem hrm
    rw [List.length_cons]
    omega
/-- no list of ranges of the same signs is shorter -/
theorem fewest {n : Nat} {f : Nat → Bool} {rs : List (Nat × Nat)} (hg : ∀ r ∈ rs, r.1 ≤ r.2 ∧ r.2 < n) (h : ∀ k, k < n → memB rs k = f k) : (told f n).length ≤ rs.length := by
  have s := told_sep f n
  refine fewest_aux (m := fun k => decide (k < n) && f k) _ rs s (fun t ht => ?_) (fun r hr k h1 h2 => ?_) (fun t ht => ?_)
  · have tb := told_below f n t ht
    have tl := s.le t ht
    cases hc : (decide (t.2 + 1 < n) && f (t.2 + 1)) with
    | false => rfl
    | true =>
      obtain ⟨c1, c2⟩ := Bool.and_eq_true_iff.mp hc
      have c1 := of_decide_eq_true c1
      rw [← told_mem f n _ c1] at c2
      obtain ⟨q, hq, q1, q2⟩ := memB_iff.mp c2
      rcases sep_tri s t ht q hq with e | e | e
      · subst e; omega
      · omega
      · omega
  · have := hg r hr
    have hk : k < n := by omega
    rw [decide_eq_true hk, Bool.true_and, ← h k hk]
    exact memB_iff.mpr ⟨r, hr, h1, h2⟩
  · have tb := told_below f n t ht
    have tl := s.le t ht
    have hk : t.1 < n := by omega
    have : memB rs t.1 = true := by
      rw [h t.1 hk, ← told_mem f n t.1 hk]
      exact memB_iff.mpr ⟨t, ht, Nat.le_refl _, tl⟩
    exact memB_iff.mp this
/-- the sign ahead of a run, and the run before it -/
theorem told_ahead {f : Nat → Bool} {n : Nat} {r : Nat × Nat} (hr : r ∈ told f n) (h0 : r.1 ≠ 0) : f (r.1 - 1) = false := by
  have h : r.1 ∈ (told f n).map Prod.fst := List.mem_map.mpr ⟨r, hr, rfl⟩
  rw [told_fst, mem_filt] at h
  obtain ⟨_, h2⟩ := h
  unfold isF at h2
  have h3 := (Bool.and_eq_true_iff.mp h2).2
  rw [decide_eq_false h0, Bool.false_or, Bool.not_eq_true'] at h3
  exact h3
theorem told_gap {f : Nat → Bool} {n i : Nat} {r q : Nat × Nat} (hr : (told f n)[i]? = some r) (hq : (told f n)[i + 1]? = some q) : r.2 + 1 < q.1 := by
  obtain ⟨h1, e1⟩ := List.getElem?_eq_some_iff.mp hr
  obtain ⟨h2, e2⟩ := List.getElem?_eq_some_iff.mp hq
  have := List.pairwise_iff_getElem.mp (told_sep f n).gap i (i + 1) h1 h2 (Nat.lt_succ_self i)
  rw [e1, e2] at this
  exact this
theorem told_run {f : Nat → Bool} {n : Nat} {r : Nat × Nat} (hr : r ∈ told f n) {k : Nat} (h1 : r.1 ≤ k) (h2 : k ≤ r.2) : f k = true := by
  have := told_below f n r hr
  rw [← told_mem f n k (by omega)]
  exact memB_iff.mpr ⟨r, hr, h1, h2⟩
theorem memB_of_perm {a b : List (Nat × Nat)} (h : a.Perm b) (k : Nat) : memB a k = memB b k := memB_perm (fun r => h.mem_iff) k
end SM

namespace SM
/-- the search by halving: whether it is found, and what is looked at -/
def look (ts : List (Nat × Nat)) (x : Nat) : Nat → Nat → Nat → Bool × List (Nat × Nat)
  | 0, _, _ => (false, [])
  | f + 1, lo, hi =>
    if lo < hi then
      if x < (ts.getD ((lo + hi) / 2) (0, 0)).1 then ((look ts x f lo ((lo + hi) / 2)).1, ts.getD ((lo + hi) / 2) (0, 0) :: (look ts x f lo ((lo + hi) / 2)).2)
      else if (ts.getD ((lo + hi) / 2) (0, 0)).2 < x then ((look ts x f ((lo + hi) / 2 + 1) hi).1, ts.getD ((lo + hi) / 2) (0, 0) :: (look ts x f ((lo + hi) / 2 + 1) hi).2)
      else (true, [ts.getD ((lo + hi) / 2) (0, 0)])
    else (false, [])
theorem look_done {ts : List (Nat × Nat)} {x f lo hi : Nat} (h : ¬ lo < hi) : look ts x f lo hi = (false, []) := by
  cases f with
  | zero => rfl
  | succ f => unfold look; rw [if_neg h]
theorem look_less {ts : List (Nat × Nat)} {x f lo hi : Nat} {r : Nat × Nat} (h : lo < hi) (hr : ts.getD ((lo + hi) / 2) (0, 0) = r) (c : x < r.1) : look ts x (f + 1) lo hi = ((look ts x f lo ((lo + hi) / 2)).1, r :: (look ts x f lo ((lo + hi) / 2)).2) := by
  subst hr
  rw [look, if_pos h, if_pos c]
theorem look_more {ts : List (Nat × Nat)} {x f lo hi : Nat} {r : Nat × Nat} (h : lo < hi) (hr : ts.getD ((lo + hi) / 2) (0, 0) = r) (c : ¬ x < r.1) (c2 : r.2 < x) : look ts x (f + 1) lo hi = ((look ts x f ((lo + hi) / 2 + 1) hi).1, r :: (look ts x f ((lo + hi) / 2 + 1) hi).2) := by
  subst hr
  rw [look, if_pos h, if_neg c, if_pos c2]
theorem look_found {ts : List (Nat × Nat)} {x f lo hi : Nat} {r : Nat × Nat} (h : lo < hi) (hr : ts.getD ((lo + hi) / 2) (0, 0) = r) (c : ¬ x < r.1) (c2 : ¬ r.2 < x) : look ts x (f + 1) lo hi = (true, [r]) := by
  subst hr
  rw [look, if_pos h, if_neg c, if_neg c2]
theorem look_len (ts : List (Nat × Nat)) (x : Nat) : ∀ (f lo hi m : Nat), hi - lo < 2 ^ m → (look ts x f lo hi).2.length ≤ m
  | 0, _, _, _, _ => Nat.zero_le _
  | f + 1, lo, hi, m, h => by
    by_cases c : lo < hi
    · cases m with
      | zero => exact absurd h (by simp; omega)
      | succ m =>
        rw [Nat.pow_succ] at h
        by_cases c1 : x < (ts.getD ((lo + hi) / 2) (0, 0)).1
        · rw [look_less c rfl c1]
          have := look_len ts x f lo ((lo + hi) / 2) m (by omega)
          show (look ts x f lo ((lo + hi) / 2)).2.length + 1 ≤ m + 1
          omega
        · by_cases c2 : (ts.getD ((lo + hi) / 2) (0, 0)).2 < x
          · rw [look_more c rfl c1 c2]
            have := look_len ts x f ((lo + hi) / 2 + 1) hi m (by omega)
            show (look ts x f ((lo + hi) / 2 + 1) hi).2.length + 1 ≤ m + 1
            omega
          · rw [look_found c rfl c1 c2]
            show 1 ≤ m + 1
            omega
    · rw [look_done c]; exact Nat.zero_le _
theorem sep_get {ts : List (Nat × Nat)} (s : Sep ts) {i j : Nat} (h : i < j) (hj : j < ts.length) : (ts.getD i (0, 0)).2 + 1 < (ts.getD j (0, 0)).1 := by
  have hi : i < ts.length := by omega
  have := List.pairwise_iff_getElem.mp s.gap i j hi hj h
  rw [List.getD_eq_getElem?_getD, List.getElem?_eq_getElem hi, List.getD_eq_getElem?_getD, List.getElem?_eq_getElem hj]
  exact this
theorem getD_mem' {ts : List (Nat × Nat)} {i : Nat} (h : i < ts.length) : ts.getD i (0, 0) ∈ ts := by
  rw [List.getD_eq_getElem?_getD, List.getElem?_eq_getElem h]
  exact List.getElem_mem h
theorem look_right {ts : List (Nat × Nat)} (s : Sep ts) (x : Nat) : ∀ (f lo hi : Nat), hi - lo ≤ f → hi ≤ ts.length → (∀ i, i < lo → (ts.getD i (0, 0)).2 < x) → (∀ i, hi ≤ i → i < ts.length → x < (ts.getD i (0, 0)).1) → (look ts x f lo hi).1 = memB ts x
  | f, lo, hi, hf, hh, h1, h2 => by
    by_cases c : lo < hi
    · cases f with
      | zero => omega
      | succ f =>
        have hm : (lo + hi) / 2 < ts.length := by omega
        by_cases c1 : x < (ts.getD ((lo + hi) / 2) (0, 0)).1
        · rw [look_less c rfl c1]
          refine look_right s x f lo ((lo + hi) / 2) (by omega) (by omega) h1 fun i i1 i2 => ?_
          by_cases e : i = (lo + hi) / 2
          · rw [e]; exact c1
          · have a := sep_get s (show (lo + hi) / 2 < i by omega) i2
            have b := s.le _ (getD_mem' hm)
            omega
        · by_cases c2 : (ts.getD ((lo + hi) / 2) (0, 0)).2 < x
          · rw [look_more c rfl c1 c2]
            refine look_right s x f ((lo + hi) / 2 + 1) hi (by omega) hh (fun i i1 => ?_) h2
            by_cases e : i = (lo + hi) / 2
            · rw [e]; exact c2
            · have a := sep_get s (show i < (lo + hi) / 2 by omega) hm
              have b := s.le _ (getD_mem' hm)
              omega
          · rw [look_found c rfl c1 c2]
            refine (memB_iff.mpr ⟨_, getD_mem' hm, ?_, ?_⟩).symm <;> omega
    · rw [look_done c]
      cases hq : memB ts x with
      | false => rfl
      | true =>
        obtain ⟨r, hr, r1, r2⟩ := memB_iff.mp hq
        obtain ⟨i, hi, e⟩ := List.getElem_of_mem hr
        have ed : ts.getD i (0, 0) = r := by rw [List.getD_eq_getElem?_getD, List.getElem?_eq_getElem hi, e]; rfl
        by_cases ci : i < lo
        · have := h1 i ci; rw [ed] at this; omega
        · have := h2 i (by omega) hi; rw [ed] at this; omega
end SM

namespace SM
/-! tables: stretches, rows as they come -/
def strt (m : Nat → Bool) (w j : Nat) : List Bool := (List.range w).map fun i => m (j * w + i)
def cnt (n w : Nat) : Nat := (n - 1) / w + 1
def strc (n w : Nat) (m : Nat → Bool) : List (List Bool) := (List.range (cnt n w)).map (strt m w)
def put (rows : List (List Bool)) (s : List Bool) : List (List Bool) := if decide (s ∈ rows) = true then rows else rows ++ [s]
def puts (rows : List (List Bool)) (ss : List (List Bool)) : List (List Bool) := ss.foldl put rows
def tabF (n w : Nat) (t : List (List Nat) × List (List Bool)) (m : Nat → Bool) : List (List Nat) × List (List Bool) :=
  (t.1 ++ [(strc n w m).map fun s => (puts t.2 (strc n w m)).idxOf s], puts t.2 (strc n w m))
def tab (n w : Nat) (ms : List (Nat → Bool)) : List (List Nat) × List (List Bool) := ms.foldl (tabF n w) ([], [])
theorem put_mem (rows : List (List Bool)) (s : List Bool) : s ∈ put rows s := by
  unfold put
  by_cases h : s ∈ rows
  · rw [if_pos (decide_eq_true h)]; exact h
  · rw [if_neg (by rw [decide_eq_false h]; decide)]; simp
theorem put_keep {rows : List (List Bool)} {s x : List Bool} (h : x ∈ rows) : x ∈ put rows s := by
  unfold put
  by_cases c : s ∈ rows
  · rw [if_pos (decide_eq_true c)]; exact h
  · rw [if_neg (by rw [decide_eq_false c]; decide)]; exact List.mem_append_left _ h
theorem puts_keep {x : List Bool} : ∀ {ss rows : List (List Bool)}, x ∈ rows → x ∈ puts rows ss
  | [], _, h => h
  | s :: ss, rows, h => puts_keep (ss := ss) (rows := put rows s) (put_keep h)
theorem puts_mem {x : List Bool} : ∀ {ss rows : List (List Bool)}, x ∈ ss → x ∈ puts rows ss
  | s :: ss, rows, h => by
    rcases List.mem_cons.mp h with e | e
    · subst e; exact puts_keep (ss := ss) (rows := put rows x) (put_mem rows x)
    · exact puts_mem (ss := ss) (rows := put rows s) e
theorem puts_app (rows a b : List (List Bool)) : puts rows (a ++ b) = puts (puts rows a) b := List.foldl_append
theorem put_len (rows : List (List Bool)) (s : List Bool) : (put rows s).length ≤ rows.length + 1 := by
  unfold put
  by_cases c : s ∈ rows
  · rw [if_pos (decide_eq_true c)]; omega
  · rw [if_neg (by rw [decide_eq_false c]; decide), List.length_append]; exact Nat.le_refl _
theorem puts_len : ∀ (ss rows : List (List Bool)), (puts rows ss).length ≤ rows.length + ss.length
  | [], _ => Nat.le_refl _
  | s :: ss, rows => by
    have a := puts_len ss (put rows s)
    have b := put_len rows s
    rw [List.length_cons]
    show (puts (put rows s) ss).length ≤ _
    omega
theorem put_all {rows : List (List Bool)} {s : List Bool} {p : List Bool → Prop} (h : ∀ x ∈ rows, p x) (hs : p s) : ∀ x ∈ put rows s, p x := by
  intro x hx
  unfold put at hx
  by_cases c : s ∈ rows
  · rw [if_pos (decide_eq_true c)] at hx; exact h x hx
  · rw [if_neg (by rw [decide_eq_false c]; decide)] at hx
    rcases List.mem_append.mp hx with e | e
    · exact h x e
    · rw [List.mem_singleton.mp e]; exact hs
theorem puts_all {p : List Bool → Prop} : ∀ {ss rows : List (List Bool)}, (∀ x ∈ rows, p x) → (∀ x ∈ ss, p x) → ∀ x ∈ puts rows ss, p x
  | [], _, h, _ => h
  | s :: ss, rows, h, hs => puts_all (ss := ss) (rows := put rows s) (put_all h (hs s List.mem_cons_self)) fun x hx => hs x (List.mem_cons_of_mem _ hx)
/-- the signs of a set, and those behind the size -/
def line (n w : Nat) (m : Nat → Bool) : List Bool := (List.range n).map m ++ List.replicate w false
theorem line_cut {n w j : Nat} {m : Nat → Bool} (hm : ∀ k, n ≤ k → m k = false) (hj : j * w < n) : ((line n w m).drop (j * w)).take w = strt m w j := by
  refine List.ext_getElem? fun i => ?_
  unfold strt
  by_cases hi : i < w
  · rw [List.getElem?_take, if_pos hi, List.getElem?_drop, List.getElem?_map, List.getElem?_range hi]
    unfold line
    by_cases hk : j * w + i < n
    · rw [List.getElem?_append_left (by rw [List.length_map, List.length_range]; exact hk), List.getElem?_map, List.getElem?_range hk]; rfl
    · rw [List.getElem?_append_right (by rw [List.length_map, List.length_range]; omega), List.length_map, List.length_range, List.getElem?_replicate, if_pos (by omega)]
      show some false = some (m (j * w + i))
      rw [hm _ (by omega)]
  · rw [List.getElem?_take, if_neg hi, List.getElem?_map, List.getElem?_eq_none (by rw [List.length_range]; omega)]; rfl
theorem strt_len (m : Nat → Bool) (w j : Nat) : (strt m w j).length = w := by unfold strt; rw [List.length_map, List.length_range]
theorem strc_len (n w : Nat) (m : Nat → Bool) : (strc n w m).length = cnt n w := by unfold strc; rw [List.length_map, List.length_range]
theorem cnt_lt {n w j : Nat} (hn : 1 ≤ n) (hw : 1 ≤ w) (h : j < cnt n w) : j * w < n := by
  unfold cnt at h
  have h1 : j ≤ (n - 1) / w := by omega
  have h2 := Nat.mul_le_mul_right w h1
  have h3 := Nat.div_mul_le_self (n - 1) w
  omega
theorem cnt_le {n w : Nat} (hn : 1 ≤ n) : cnt n w ≤ n := by
  unfold cnt
  have := Nat.div_le_self (n - 1) w
  omega
end SM

namespace SM
/-! classes: signs by what has them -/
theorem mem_put {rows : List (List Bool)} {s x : List Bool} : x ∈ put rows s ↔ x ∈ rows ∨ x = s := by
  unfold put
  by_cases c : s ∈ rows
  · rw [if_pos (decide_eq_true c)]
    constructor
    · exact .inl
    · rintro (h | h)
      · exact h
      · rw [h]; exact c
  · rw [if_neg (by rw [decide_eq_false c]; decide), List.mem_append, List.mem_singleton]
theorem mem_puts {x : List Bool} : ∀ {ss rows : List (List Bool)}, x ∈ puts rows ss ↔ x ∈ rows ∨ x ∈ ss
  | [], rows => by simp [puts]
  | s :: ss, rows => by
    show x ∈ puts (put rows s) ss ↔ _
    rw [mem_puts (ss := ss), mem_put, List.mem_cons, or_assoc]
theorem put_nodup {rows : List (List Bool)} {s : List Bool} (h : rows.Nodup) : (put rows s).Nodup := by
  unfold put
  by_cases c : s ∈ rows
  · rw [if_pos (decide_eq_true c)]; exact h
  · rw [if_neg (by rw [decide_eq_false c]; decide)]
    refine List.nodup_append.mpr ⟨h, by simp, fun a ha b hb => ?_⟩
    rw [List.mem_singleton.mp hb]
    intro e; subst e; exact c ha
theorem puts_nodup : ∀ {ss rows : List (List Bool)}, rows.Nodup → (puts rows ss).Nodup
  | [], _, h => h
  | s :: ss, rows, h => puts_nodup (ss := ss) (rows := put rows s) (put_nodup h)
theorem len_sub {α : Type} [DecidableEq α] : ∀ {a b : List α}, a.Nodup → (∀ x ∈ a, x ∈ b) → a.length ≤ b.length
  | [], b, _, _ => Nat.zero_le _
  | x :: a, b, h, hs => by
    obtain ⟨h1, h2⟩ := List.nodup_cons.mp h
    have hx := hs x List.mem_cons_self
    have ih := len_sub (a := a) (b := b.erase x) h2 fun y hy => (List.mem_erase_of_ne (fun e : y = x => h1 (e ▸ hy))).mpr (hs y (List.mem_cons_of_mem _ hy))
    rw [List.length_erase_of_mem hx] at ih
    have hp : 0 < b.length := List.length_pos_of_mem hx
    rw [List.length_cons]
    omega
def sg (rss : List (List (Nat × Nat))) (k : Nat) : List Bool := rss.map fun rs => memB rs k
def SG (rss : List (List (Nat × Nat))) (n : Nat) : List (List Bool) := (List.range n).map (sg rss)
def UN (rss : List (List (Nat × Nat))) (n : Nat) : List (List Bool) := puts [] (SG rss n)
def rowF (rss : List (List (Nat × Nat))) (n : Nat) : List Nat := (SG rss n).map fun s => (UN rss n).idxOf s
def clsF (rss : List (List (Nat × Nat))) (n : Nat) : List (List (Nat × Nat)) := (List.range (UN rss n).length).map fun c => told (fun k => decide ((rowF rss n).getD k 0 = c)) n
def evF (rss : List (List (Nat × Nat))) (n : Nat) : List (List Nat) := (List.range rss.length).map fun a => (List.range (UN rss n).length).filter fun c => ((UN rss n).getD c []).getD a false
theorem mem_SG {rss : List (List (Nat × Nat))} {n : Nat} {s : List Bool} : s ∈ SG rss n ↔ ∃ k, k < n ∧ sg rss k = s := by
  unfold SG
  rw [List.mem_map]
  constructor
  · rintro ⟨k, hk, e⟩; exact ⟨k, List.mem_range.mp hk, e⟩
  · rintro ⟨k, hk, e⟩; exact ⟨k, List.mem_range.mpr hk, e⟩
theorem mem_UN {rss : List (List (Nat × Nat))} {n : Nat} {s : List Bool} : s ∈ UN rss n ↔ ∃ k, k < n ∧ sg rss k = s := by
  unfold UN
  rw [mem_puts, mem_SG]
  simp
theorem UN_nodup (rss : List (List (Nat × Nat))) (n : Nat) : (UN rss n).Nodup := puts_nodup List.nodup_nil
theorem UN_len (rss : List (List (Nat × Nat))) (n : Nat) : (UN rss n).length ≤ n := by
  have := puts_len (SG rss n) []
  unfold SG at this
  rw [List.length_map, List.length_range] at this
  simpa [UN, SG] using this
theorem sg_more (rss : List (List (Nat × Nat))) (x k : Nat) : sg (rss ++ [[(x, x)]]) k = sg rss k ++ [decide (k = x)] := by
  unfold sg
  rw [List.map_append]
  refine congrArg _ ?_
  show [memB [(x, x)] k] = _
  rw [memB_one]
  refine congrArg (fun z => [z]) ?_
  rw [Bool.eq_iff_iff]
  simp only [Bool.and_eq_true, decide_eq_true_eq]
  omega
theorem UN_more (rss : List (List (Nat × Nat))) (n x : Nat) : (UN rss n).length ≤ (UN (rss ++ [[(x, x)]]) n).length ∧ (UN (rss ++ [[(x, x)]]) n).length ≤ (UN rss n).length + 1 := by
  constructor
  · have h := len_sub (a := UN rss n) (b := (UN (rss ++ [[(x, x)]]) n).map List.dropLast) (UN_nodup _ _) fun s hs => by
      obtain ⟨k, hk, rfl⟩ := mem_UN.mp hs
      refine List.mem_map.mpr ⟨sg (rss ++ [[(x, x)]]) k, mem_UN.mpr ⟨k, hk, rfl⟩, ?_⟩
      rw [sg_more, List.dropLast_concat]
    rw [List.length_map] at h
    exact h
  · have h := len_sub (a := UN (rss ++ [[(x, x)]]) n) (b := (UN rss n).map (fun s => s ++ [false]) ++ [sg rss x ++ [true]]) (UN_nodup _ _) fun s hs => by
      obtain ⟨k, hk, rfl⟩ := mem_UN.mp hs
      rw [sg_more]
      by_cases c : k = x
      · subst c
        rw [decide_eq_true rfl]
        exact List.mem_append_right _ (List.mem_singleton.mpr rfl)
      · rw [decide_eq_false c]
        exact List.mem_append_left _ (List.mem_map.mpr ⟨sg rss k, mem_UN.mpr ⟨k, hk, rfl⟩, rfl⟩)
    rw [List.length_append, List.length_map] at h
    exact h
end SM

namespace SM
/-! the cells of tables -/
theorem fold_rows (n w : Nat) : ∀ (ms : List (Nat → Bool)) (t : List (List Nat) × List (List Bool)), (ms.foldl (tabF n w) t).2 = puts t.2 (ms.flatMap (strc n w))
  | [], _ => rfl
  | m :: ms, t => by
    rw [List.foldl_cons, fold_rows n w ms, List.flatMap_cons, puts_app]; rfl
theorem tab_rows (n w : Nat) (ms : List (Nat → Bool)) : (tab n w ms).2 = puts [] (ms.flatMap (strc n w)) := fold_rows n w ms _
theorem fold_firsts (n w : Nat) : ∀ (ms : List (Nat → Bool)) (t : List (List Nat) × List (List Bool)), (ms.foldl (tabF n w) t).1.map List.length = t.1.map List.length ++ List.replicate ms.length (cnt n w)
  | [], _ => by simp
  | m :: ms, t => by
    rw [List.foldl_cons, fold_firsts n w ms, List.length_cons, List.replicate_succ]
    show (t.1 ++ [_]).map List.length ++ _ = _
    rw [List.map_append, List.append_assoc, List.map_cons, List.map_nil, List.length_map, strc_len]; rfl
theorem tab_firsts (n w : Nat) (ms : List (Nat → Bool)) : (tab n w ms).1.map List.length = List.replicate ms.length (cnt n w) := by
  have := fold_firsts n w ms ([], [])
  exact this
def CE (n : Nat) (ms : List (Nat → Bool)) (w : Nat) : Nat := ms.length * cnt n w + (puts [] (ms.flatMap (strc n w))).length * w
theorem rows_len (n w : Nat) (ms : List (Nat → Bool)) : ∀ x ∈ puts [] (ms.flatMap (strc n w)), x.length = w :=
  puts_all (fun _ h => absurd h List.not_mem_nil) fun x hx => by
    obtain ⟨m, _, h⟩ := List.mem_flatMap.mp hx
    obtain ⟨j, _, rfl⟩ := List.mem_map.mp h
    exact strt_len m w j
theorem map_const {α β : Type} {f : α → β} {c : β} : ∀ {l : List α}, (∀ x ∈ l, f x = c) → l.map f = List.replicate l.length c
  | [], _ => rfl
  | a :: l, h => by rw [List.map_cons, List.length_cons, List.replicate_succ, h a List.mem_cons_self, map_const fun x hx => h x (List.mem_cons_of_mem _ hx)]
theorem sum_rep (k c : Nat) : (List.replicate k c).sum = k * c := by
  induction k with
  | zero => simp
  | succ k ih => rw [List.replicate_succ, List.sum_cons, ih, Nat.succ_mul]; omega
theorem tab_cells (n w : Nat) (ms : List (Nat → Bool)) : ((tab n w ms).1.map List.length ++ (tab n w ms).2.map List.length).sum = CE n ms w := by
  rw [List.sum_append, tab_firsts, tab_rows, map_const (rows_len n w ms), sum_rep, sum_rep]; rfl
theorem CE_sub {n w : Nat} {ms ms' : List (Nat → Bool)} (hl : ms.length ≤ ms'.length) (h : ∀ m ∈ ms, m ∈ ms') : CE n ms w ≤ CE n ms' w := by
  have a : (puts [] (ms.flatMap (strc n w))).length ≤ (puts [] (ms'.flatMap (strc n w))).length :=
    len_sub (puts_nodup List.nodup_nil) fun x hx => by
      rcases mem_puts.mp hx with h1 | h1
      · exact absurd h1 List.not_mem_nil
      · obtain ⟨m, hm, h2⟩ := List.mem_flatMap.mp h1
        exact mem_puts.mpr (.inr (List.mem_flatMap.mpr ⟨m, h m hm, h2⟩))
  exact Nat.add_le_add (Nat.mul_le_mul_right _ hl) (Nat.mul_le_mul_right _ a)
theorem CE_more {n w : Nat} {ms ms' : List (Nat → Bool)} (hl : ms.length ≤ ms'.length + 1) (h : ∀ m ∈ ms, m ∈ ms') : CE n ms w ≤ CE n ms' w + cnt n w := by
  have a : (puts [] (ms.flatMap (strc n w))).length ≤ (puts [] (ms'.flatMap (strc n w))).length :=
    len_sub (puts_nodup List.nodup_nil) fun x hx => by
      rcases mem_puts.mp hx with h1 | h1
      · exact absurd h1 List.not_mem_nil
      · obtain ⟨m, hm, h2⟩ := List.mem_flatMap.mp h1
        exact mem_puts.mpr (.inr (List.mem_flatMap.mpr ⟨m, h m hm, h2⟩))
  have b := Nat.mul_le_mul_right (cnt n w) hl
  have c := Nat.mul_le_mul_right w a
  rw [Nat.add_mul, Nat.one_mul] at b
  unfold CE
  omega
/-- the least (value, place), places from 1 on, of n + 1 places -/
def lea (f : Nat → Nat) : Nat → Nat × Nat
  | 0 => (f 1, 1)
  | n + 1 => if f (n + 2) < (lea f n).1 then (f (n + 2), n + 2) else lea f n
theorem lea_at (f : Nat → Nat) : ∀ n, (lea f n).1 = f (lea f n).2 ∧ 1 ≤ (lea f n).2 ∧ (lea f n).2 ≤ n + 1
  | 0 => ⟨rfl, Nat.le_refl 1, Nat.le_refl 1⟩
  | n + 1 => by
    have := lea_at f n
    unfold lea
    split
    · exact ⟨rfl, by show 1 ≤ n + 2; omega, by show n + 2 ≤ n + 1 + 1; omega⟩
    · exact ⟨this.1, this.2.1, by omega⟩
theorem lea_le (f : Nat → Nat) : ∀ n w, 1 ≤ w → w ≤ n + 1 → (lea f n).1 ≤ f w ∧ (w < (lea f n).2 → (lea f n).1 < f w)
  | 0, w, h1, h2 => by
    have : w = 1 := by omega
    subst this
    exact ⟨Nat.le_refl _, fun h => absurd h (Nat.lt_irrefl _)⟩
  | n + 1, w, h1, h2 => by
    have ih := lea_le f n
    have at' := lea_at f n
    unfold lea
    split
    · rename_i hlt
      show f (n + 2) ≤ f w ∧ (w < n + 2 → f (n + 2) < f w)
      by_cases e : w = n + 2
      · subst e; exact ⟨Nat.le_refl _, fun h => absurd h (Nat.lt_irrefl _)⟩
      · have := (ih w h1 (by omega)).1
        exact ⟨by omega, fun _ => by omega⟩
    · rename_i hge
      by_cases e : w = n + 2
      · subst e; exact ⟨by omega, fun h => by omega⟩
      · exact ih w h1 (by omega)
theorem lea_mono {f g : Nat → Nat} {n c : Nat} (h : ∀ w, 1 ≤ w → w ≤ n + 1 → f w ≤ g w + c) : (lea f n).1 ≤ (lea g n).1 + c := by
  have a := lea_at g n
  have b := (lea_le f n _ a.2.1 a.2.2).1
  have := h _ a.2.1 a.2.2
  omega
/-- what is asked of a set more: only at the told width -/
theorem lea_more {f g : Nat → Nat} {n : Nat} {c : Nat → Nat} (h : ∀ w, 1 ≤ w → w ≤ n + 1 → f w ≤ g w + c w) : (lea f n).1 ≤ (lea g n).1 + c (lea g n).2 := by
  have a := lea_at g n
  have b := (lea_le f n _ a.2.1 a.2.2).1
  have := h _ a.2.1 a.2.2
  omega
theorem cnt_up {n w : Nat} (hn : 1 ≤ n) (hw : 1 ≤ w) : (n + w - 1) / w = cnt n w := by
  unfold cnt
  rw [show n + w - 1 = (n - 1) + w by omega, Nat.add_div_right _ (by omega)]
end SM

namespace SM
/-! looking into a table -/
theorem put_pre (rows : List (List Bool)) (s : List Bool) : rows <+: put rows s := by
  unfold put
  by_cases c : s ∈ rows
  · rw [if_pos (decide_eq_true c)]; exact List.prefix_rfl
  · rw [if_neg (by rw [decide_eq_false c]; decide)]; exact List.prefix_append _ _
theorem puts_pre : ∀ (ss rows : List (List Bool)), rows <+: puts rows ss
  | [], _ => List.prefix_rfl
  | s :: ss, rows => (put_pre rows s).trans (puts_pre ss (put rows s))
theorem at_pre {α : Type} {a b : List α} {i : Nat} {x : α} (h : a <+: b) (e : a[i]? = some x) : b[i]? = some x := by
  obtain ⟨t, rfl⟩ := h
  rw [List.getElem?_append_left (List.getElem?_eq_some_iff.mp e).1, e]
theorem tabs_pre (n w : Nat) : ∀ (ms : List (Nat → Bool)) (t : List (List Nat) × List (List Bool)), t.1 <+: (ms.foldl (tabF n w) t).1 ∧ t.2 <+: (ms.foldl (tabF n w) t).2
  | [], _ => ⟨List.prefix_rfl, List.prefix_rfl⟩
  | m :: ms, t => by
    have ih := tabs_pre n w ms (tabF n w t m)
    exact ⟨(List.prefix_append _ _).trans ih.1, (puts_pre (strc n w m) t.2).trans ih.2⟩
theorem tabs_at (n w : Nat) : ∀ (ms : List (Nat → Bool)) (t : List (List Nat) × List (List Bool)) (i : Nat) (m : Nat → Bool), ms[i]? = some m → ∀ j, j < cnt n w →
    ∃ L k, (ms.foldl (tabF n w) t).1[t.1.length + i]? = some L ∧ L[j]? = some k ∧ (ms.foldl (tabF n w) t).2[k]? = some (strt m w j)
  | [], _, i, _, h, _, _ => by simp at h
  | m0 :: ms, t, 0, m, h, j, hj => by
    have e : m0 = m := by simpa using h
    subst e
    have pre := tabs_pre n w ms (tabF n w t m0)
    have hs : strt m0 w j ∈ strc n w m0 := by
      unfold strc
      exact List.mem_map.mpr ⟨j, List.mem_range.mpr hj, rfl⟩
    have hm : strt m0 w j ∈ puts t.2 (strc n w m0) := puts_mem hs
    refine ⟨(strc n w m0).map fun s => (puts t.2 (strc n w m0)).idxOf s, (puts t.2 (strc n w m0)).idxOf (strt m0 w j), at_pre pre.1 ?_, ?_, at_pre pre.2 ?_⟩
    · show (t.1 ++ [_])[t.1.length + 0]? = _
      rw [List.getElem?_append_right (by omega)]; simp
    · rw [List.getElem?_map]
      unfold strc
      rw [List.getElem?_map, List.getElem?_range hj]; rfl
    · have hl := List.idxOf_lt_length_iff.mpr hm
      show (puts t.2 (strc n w m0))[_]? = _
      rw [List.getElem?_eq_getElem hl, List.getElem_idxOf hl]
  | m0 :: ms, t, i + 1, m, h, j, hj => by
    have h' : ms[i]? = some m := by simpa using h
    obtain ⟨L, k, a, b, c⟩ := tabs_at n w ms (tabF n w t m0) i m h' j hj
    refine ⟨L, k, ?_, b, c⟩
    have e : (tabF n w t m0).1.length = t.1.length + 1 := by
      show (t.1 ++ [_]).length = _
      rw [List.length_append]; rfl
    rw [e] at a
    rw [List.foldl_cons, show t.1.length + (i + 1) = t.1.length + 1 + i by omega]
    exact a
theorem tab_at {n w i j : Nat} {ms : List (Nat → Bool)} {m : Nat → Bool} (h : ms[i]? = some m) (hj : j < cnt n w) : ∃ L k, (tab n w ms).1[i]? = some L ∧ L[j]? = some k ∧ (tab n w ms).2[k]? = some (strt m w j) := by
  obtain ⟨L, k, a, b, c⟩ := tabs_at n w ms ([], []) i m h j hj
  exact ⟨L, k, by simpa [tab] using a, b, c⟩
theorem tabs_wide (n w : Nat) : ∀ (ms : List (Nat → Bool)) (t : List (List Nat) × List (List Bool)), (∀ r ∈ t.2, r.length = w) → ∀ r ∈ (ms.foldl (tabF n w) t).2, r.length = w
  | [], _, h => h
  | m :: ms, t, h => tabs_wide n w ms (tabF n w t m) (puts_all h fun x hx => by
      unfold strc at hx
      obtain ⟨j, _, rfl⟩ := List.mem_map.mp hx
      exact strt_len m w j)
theorem tab_wide {n w : Nat} {ms : List (Nat → Bool)} : ∀ r ∈ (tab n w ms).2, r.length = w := tabs_wide n w ms ([], []) fun _ h => by simp at h
theorem tab_zero {n w : Nat} {ms : List (Nat → Bool)} (h : ms ≠ []) : ∃ r, (tab n w ms).2[0]? = some r ∧ r.length = w := by
  have hp : 0 < ms.length := List.length_pos_iff.mpr h
  obtain ⟨L, k, _, _, c⟩ := tab_at (n := n) (w := w) (i := 0) (j := 0) (List.getElem?_eq_getElem hp) (by unfold cnt; exact Nat.succ_pos _)
  have hl := (List.getElem?_eq_some_iff.mp c).1
  have h0 : 0 < (tab n w ms).2.length := by omega
  exact ⟨_, List.getElem?_eq_getElem h0, tab_wide _ (List.getElem_mem h0)⟩
theorem strt_at {m : Nat → Bool} {w x : Nat} (hw : 1 ≤ w) : (strt m w (x / w))[x % w]? = some (m x) := by
  unfold strt
  rw [List.getElem?_map, List.getElem?_range (Nat.mod_lt _ hw)]
  show some (m (x / w * w + x % w)) = _
  rw [Nat.mul_comm, Nat.div_add_mod]
theorem cnt_div {n w x : Nat} (hw : 1 ≤ w) (h : x < n) : x / w < cnt n w := by
  unfold cnt
  have : x / w ≤ (n - 1) / w := Nat.div_le_div_right (by omega)
  omega
/-- a stretch that is cut short, filled up -/
theorem short_cut {n w j : Nat} {m : Nat → Bool} (hm : ∀ k, n ≤ k → m k = false) (hj : j * w < n) :
    ((((List.range n).map m).drop (j * w)).take w) ++ List.replicate (w - ((((List.range n).map m).drop (j * w)).take w).length) false = strt m w j := by
  have hl : ((((List.range n).map m).drop (j * w)).take w).length = min w (n - j * w) := by
    rw [List.length_take, List.length_drop, List.length_map, List.length_range]
  refine List.ext_getElem? fun i => ?_
  unfold strt
  by_cases hi : i < w
  · rw [List.getElem?_map, List.getElem?_range hi]
    by_cases hk : j * w + i < n
    · rw [List.getElem?_append_left (by rw [hl]; omega), List.getElem?_take, if_pos hi, List.getElem?_drop, List.getElem?_map, List.getElem?_range hk]; rfl
    · rw [List.getElem?_append_right (by rw [hl]; omega), List.getElem?_replicate, if_pos (by rw [hl]; omega)]
      show some false = some (m (j * w + i))
      rw [hm _ (by omega)]
  · rw [List.getElem?_eq_none (by rw [List.length_append, List.length_replicate, hl]; omega), List.getElem?_eq_none (by rw [List.length_map, List.length_range]; omega)]
end SM

namespace SM
/-! classes: the numbers as they come -/
theorem idx_app {α : Type} [BEq α] [LawfulBEq α] {s : α} : ∀ {a b : List α}, s ∈ a → (a ++ b).idxOf s = a.idxOf s
  | x :: a, b, h => by
    rw [List.cons_append, List.idxOf_cons, List.idxOf_cons]
    cases c : x == s with
    | true => rfl
    | false =>
      rcases List.mem_cons.mp h with e | e
      · rw [e, beq_self_eq_true] at c; cases c
      · rw [idx_app e]
theorem getD_lt {α : Type} {xs : List α} {i : Nat} {d : α} (h : i < xs.length) : xs.getD i d = xs[i] := by
  rw [List.getD_eq_getElem?_getD, List.getElem?_eq_getElem h]; rfl
theorem idx_pre {α : Type} [BEq α] [LawfulBEq α] {a b : List α} {s : α} (h : a <+: b) (hs : s ∈ a) : b.idxOf s = a.idxOf s := by
  obtain ⟨t, rfl⟩ := h
  exact idx_app hs
theorem idx_new {α : Type} [BEq α] [LawfulBEq α] : ∀ {a : List α} {s : α}, s ∉ a → (a ++ [s]).idxOf s = a.length
  | [], s, _ => by simp
  | x :: a, s, h => by
    have h1 : x ≠ s := fun z => h (by rw [z]; exact List.mem_cons_self)
    rw [List.cons_append, List.idxOf_cons, show (x == s) = false from beq_eq_false_iff_ne.mpr h1, List.length_cons, ← idx_new (a := a) (s := s) fun z => h (List.mem_cons_of_mem _ z)]
    rfl
theorem UN_succ (rss : List (List (Nat × Nat))) (i : Nat) : UN rss (i + 1) = put (UN rss i) (sg rss i) := by
  unfold UN SG
  rw [List.range_succ, List.map_append, puts_app]; rfl
theorem UN_pre (rss : List (List (Nat × Nat))) : ∀ {i n : Nat}, i ≤ n → UN rss i <+: UN rss n
  | i, 0, h => by
    have : i = 0 := by omega
    subst this; exact List.prefix_rfl
  | i, n + 1, h => by
    by_cases c : i = n + 1
    · subst c; exact List.prefix_rfl
    · exact (UN_pre rss (show i ≤ n by omega)).trans (by rw [UN_succ]; exact put_pre _ _)
theorem rowF_get (rss : List (List (Nat × Nat))) (n : Nat) : rowF rss n = (List.range n).map fun k => (UN rss n).idxOf (sg rss k) := by
  unfold rowF SG
  rw [List.map_map]; rfl
theorem rowF_len (rss : List (List (Nat × Nat))) (n : Nat) : (rowF rss n).length = n := by rw [rowF_get, List.length_map, List.length_range]
theorem rowF_at {rss : List (List (Nat × Nat))} {n k : Nat} (h : k < n) : (rowF rss n)[k]? = some ((UN rss n).idxOf (sg rss k)) := by
  rw [rowF_get, List.getElem?_map, List.getElem?_range h]; rfl
theorem rowF_lt {rss : List (List (Nat × Nat))} {n : Nat} : ∀ m ∈ rowF rss n, m < (UN rss n).length := fun m hm => by
  rw [rowF_get] at hm
  obtain ⟨k, hk, rfl⟩ := List.mem_map.mp hm
  exact List.idxOf_lt_length_iff.mpr (mem_UN.mpr ⟨k, List.mem_range.mp hk, rfl⟩)
theorem idx_nodup {α : Type} [BEq α] [LawfulBEq α] : ∀ {a : List α} {i : Nat} (h : i < a.length), a.Nodup → a.idxOf a[i] = i
  | x :: a, 0, h, _ => by simp
  | x :: a, i + 1, h, nd => by
    have nd' := List.nodup_cons.mp nd
    have hi : i < a.length := by simpa using h
    have ne : x ≠ a[i] := fun z => nd'.1 (by rw [z]; exact List.getElem_mem hi)
    show (x :: a).idxOf a[i] = i + 1
    rw [List.idxOf_cons, show (x == a[i]) = false from beq_eq_false_iff_ne.mpr ne, idx_nodup hi nd'.2]; rfl
theorem rowF_has {rss : List (List (Nat × Nat))} {n c : Nat} (h : c < (UN rss n).length) : c ∈ rowF rss n := by
  obtain ⟨k, hk, e⟩ := mem_UN.mp (List.getElem_mem h)
  rw [rowF_get]
  exact List.mem_map.mpr ⟨k, List.mem_range.mpr hk, by rw [e]; exact idx_nodup h (UN_nodup rss n)⟩
theorem UN_pos {rss : List (List (Nat × Nat))} {n : Nat} (h : 1 ≤ n) : 1 ≤ (UN rss n).length := List.length_pos_of_mem (mem_UN.mpr ⟨0, h, rfl⟩)
/-- the classes of the a-th set: those of its signs -/
theorem ev_mem {rss : List (List (Nat × Nat))} {n a : Nat} {rs : List (Nat × Nat)} (ha : rss[a]? = some rs) (c : Nat) :
    c ∈ ((List.range (UN rss n).length).filter fun c => ((UN rss n).getD c []).getD a false) ↔ ∃ k, k < n ∧ memB rs k = true ∧ (UN rss n).idxOf (sg rss k) = c := by
  have sgA : ∀ k, (sg rss k).getD a false = memB rs k := fun k => by
    unfold sg
    rw [List.getD_eq_getElem?_getD, List.getElem?_map, ha]; rfl
  rw [List.mem_filter, List.mem_range]
  constructor
  · rintro ⟨h1, h2⟩
    rw [getD_lt h1] at h2
    obtain ⟨k, hk, e⟩ := mem_UN.mp (List.getElem_mem h1)
    refine ⟨k, hk, ?_, by rw [e]; exact idx_nodup h1 (UN_nodup rss n)⟩
    rw [← sgA k, e]; exact h2
  · rintro ⟨k, hk, h2, rfl⟩
    have hm : sg rss k ∈ UN rss n := mem_UN.mpr ⟨k, hk, rfl⟩
    have hl := List.idxOf_lt_length_iff.mpr hm
    refine ⟨hl, ?_⟩
    rw [getD_lt hl, List.getElem_idxOf hl]
    rw [sgA, h2]
end SM

/-! values by their data: what a reading makes, told by data alone -/
namespace SB
open PySem L2 Evl
variable {K : PySem.W.Frag} {σ : L2.St} {H H' H1 : Hp}
mutual
theorem dpMono (e : Ex H H') : ∀ (d : PyData) (v : V), Dp K H v d → Dp K H' v d
  | .none, _, h => by cases h; exact .non
  | .bool b, _, h => by cases h; exact .bl b
  | .int i, _, h => by cases h; exact .int i
  | .str x, _, h => by cases h; exact .str x
  | .list ds, _, h => by
    cases h with
    | lst hs ha => exact .lst (ex_l e hs) (dpAllMono e ds _ ha)
  | .tuple ds, _, h => by
    cases h with
    | tup hs ha => exact .tup (ex_t e hs) (dpAllMono e ds _ ha)
  | .dict _, _, h => by cases h
theorem dpAllMono (e : Ex H H') : ∀ (ds : List PyData) (vs : List V), DpAll K H vs ds → DpAll K H' vs ds
  | [], _, h => by cases h; exact .nil
  | d :: ds, _, h => by
    cases h with
    | cons h1 h2 => exact .cons (dpMono e d _ h1) (dpAllMono e ds _ h2)
end
theorem mono {d : PyData} {v : V} (e : Ex H H') (h : Dp K H v d) : Dp K H' v d := dpMono e d v h
theorem monoA {ds : List PyData} {vs : List V} (e : Ex H H') (h : DpAll K H vs ds) : DpAll K H' vs ds := dpAllMono e ds vs h
theorem dpInt {v : V} {i : Int} (h : Dp K H v (.int i)) : v = .int i := by cases h; rfl
theorem dpBool {v : V} {b : Bool} (h : Dp K H v (.bool b)) : v = .bl b := by cases h; rfl
theorem dpStr {v : V} {x : Str} (h : Dp K H v (.str x)) : v = .str x := by cases h; rfl
theorem dpList {v : V} {ds : List PyData} (h : Dp K H v (.list ds)) : ∃ a xs, v = .ref a ∧ SqL K H a xs ∧ DpAll K H xs ds := by
  cases h with
  | lst hs ha => exact ⟨_, _, rfl, hs, ha⟩
theorem dpTuple {v : V} {ds : List PyData} (h : Dp K H v (.tuple ds)) : ∃ a xs, v = .ref a ∧ SqT K H a xs ∧ DpAll K H xs ds := by
  cases h with
  | tup hs ha => exact ⟨_, _, rfl, hs, ha⟩
theorem allNil {vs : List V} (h : DpAll K H vs []) : vs = [] := by cases h; rfl
theorem allCons {vs : List V} {d : PyData} {ds : List PyData} (h : DpAll K H vs (d :: ds)) : ∃ x xs, vs = x :: xs ∧ Dp K H x d ∧ DpAll K H xs ds := by
  cases h with
  | cons h1 h2 => exact ⟨_, _, rfl, h1, h2⟩
theorem all1 {vs : List V} {d : PyData} (h : DpAll K H vs [d]) : ∃ x, vs = [x] ∧ Dp K H x d := by
  obtain ⟨x, xs, rfl, h1, h2⟩ := allCons h
  rw [allNil h2]
  exact ⟨x, rfl, h1⟩
theorem all2 {vs : List V} {d e : PyData} (h : DpAll K H vs [d, e]) : ∃ x y, vs = [x, y] ∧ Dp K H x d ∧ Dp K H y e := by
  obtain ⟨x, xs, rfl, h1, h2⟩ := allCons h
  obtain ⟨y, rfl, h3⟩ := all1 h2
  exact ⟨x, y, rfl, h1, h3⟩
theorem all3 {vs : List V} {d e f : PyData} (h : DpAll K H vs [d, e, f]) : ∃ x y z, vs = [x, y, z] ∧ Dp K H x d ∧ Dp K H y e ∧ Dp K H z f := by
  obtain ⟨x, xs, rfl, h1, h2⟩ := allCons h
  obtain ⟨y, z, rfl, h3, h4⟩ := all2 h2
  exact ⟨x, y, z, rfl, h1, h3, h4⟩
theorem allLen : ∀ {ds : List PyData} {vs : List V}, DpAll K H vs ds → vs.length = ds.length
  | [], _, h => by cases h; rfl
  | d :: ds, _, h => by
    cases h with
    | cons h1 h2 => rw [List.length_cons, List.length_cons, allLen h2]
theorem allGet : ∀ {ds : List PyData} {vs : List V} {i : Nat} {d : PyData}, DpAll K H vs ds → ds[i]? = some d → ∃ x, vs[i]? = some x ∧ Dp K H x d
  | [], _, i, _, h, e => by simp at e
  | d :: ds, _, 0, _, h, e => by
    cases h with
    | cons h1 h2 => simp at e; subst e; exact ⟨_, rfl, h1⟩
  | d :: ds, _, i + 1, _, h, e => by
    cases h with
    | cons h1 h2 =>
      obtain ⟨x, q, r⟩ := allGet h2 (show ds[i]? = some _ by simpa using e)
      exact ⟨x, by simpa using q, r⟩
theorem allAt : ∀ {ds : List PyData} {vs : List V} {i : Nat} {x : V}, DpAll K H vs ds → vs[i]? = some x → Dp K H x (ds.getD i .none)
  | [], _, i, _, h, e => by cases h; simp at e
  | d :: ds, _, 0, _, h, e => by
    cases h with
    | cons h1 h2 => simp at e; subst e; exact h1
  | d :: ds, _, i + 1, _, h, e => by
    cases h with
    | cons h1 h2 =>
      have q := allAt h2 (i := i) (by simpa using e)
      simpa using q
theorem allApp : ∀ {ds es : List PyData} {vs ws : List V}, DpAll K H vs ds → DpAll K H ws es → DpAll K H (vs ++ ws) (ds ++ es)
  | [], _, _, _, h, k => by cases h; exact k
  | d :: ds, _, _, _, h, k => by
    cases h with
    | cons h1 h2 => exact .cons h1 (allApp h2 k)
theorem allSet {d : PyData} {x : V} (hx : Dp K H x d) : ∀ {ds : List PyData} {vs : List V} (i : Nat), DpAll K H vs ds → DpAll K H (vs.set i x) (ds.set i d)
  | [], _, _, h => by cases h; exact .nil
  | e :: ds, _, 0, h => by
    cases h with
    | cons h1 h2 => exact .cons hx h2
  | e :: ds, _, i + 1, h => by
    cases h with
    | cons h1 h2 => exact .cons h1 (allSet hx i h2)
theorem allRev : ∀ {ds : List PyData} {vs : List V}, DpAll K H vs ds → DpAll K H vs.reverse ds.reverse
  | [], _, h => by cases h; exact .nil
  | d :: ds, _, h => by
    cases h with
    | cons h1 h2 =>
      rw [List.reverse_cons, List.reverse_cons]
      exact allApp (allRev h2) (.cons h1 .nil)
theorem allTake : ∀ {ds : List PyData} {vs : List V} (n : Nat), DpAll K H vs ds → DpAll K H (vs.take n) (ds.take n)
  | _, _, 0, _ => by simp; exact .nil
  | [], _, n + 1, h => by cases h; exact .nil
  | d :: ds, _, n + 1, h => by
    cases h with
    | cons h1 h2 => exact .cons h1 (allTake n h2)
theorem allOfInts : ∀ ns : List Int, DpAll K H (ns.map V.int) (ns.map PyData.int)
  | [] => .nil
  | n :: ns => .cons (.int n) (allOfInts ns)
theorem intsOfAll : ∀ {ns : List Int} {vs : List V}, DpAll K H vs (ns.map PyData.int) → vs = ns.map V.int
  | [], _, h => by cases h; rfl
  | n :: ns, _, h => by
    cases h with
    | cons h1 h2 => rw [dpInt h1, intsOfAll h2]; rfl
theorem allOfBls : ∀ bs : List Bool, DpAll K H (bs.map V.bl) (bs.map PyData.bool)
  | [] => .nil
  | n :: ns => .cons (.bl n) (allOfBls ns)
theorem blsOfAll : ∀ {bs : List Bool} {vs : List V}, DpAll K H vs (bs.map PyData.bool) → vs = bs.map V.bl
  | [], _, h => by cases h; rfl
  | n :: ns, _, h => by
    cases h with
    | cons h1 h2 => rw [dpBool h1, blsOfAll h2]; rfl
theorem dpRef {v : V} {ds : List PyData} (h : Dp K H v (.list ds)) : ∃ a, v = .ref a := by
  obtain ⟨a, _, e, _⟩ := dpList h
  exact ⟨a, e⟩

/-! ### what evaluates to which data -/
/-- a new list of that data -/
def NewL (K : PySem.W.Frag) (H : Hp) (Q : VK) (ds : List PyData) : Prop := ∀ p xs H', H p = none → Ex H H' → H' p = some (.lst xs) → DpAll K H' xs ds → Q (.ref p) H'
def EvN (K : PySem.W.Frag) (te : TE) (σ : L2.St) (H : Hp) (ds : List PyData) : Prop := ∀ H1, Ex H H1 → ∀ Q : VK, NewL K H1 Q ds → te σ H1 Q
def EvD (K : PySem.W.Frag) (te : TE) (σ : L2.St) (H : Hp) (d : PyData) : Prop := ∀ H1, Ex H H1 → ∀ Q : VK, (∀ v H2, Ex H1 H2 → Dp K H2 v d → Q v H2) → te σ H1 Q
def EvDA (K : PySem.W.Frag) (ta : TA) (σ : L2.St) (H : Hp) (ds : List PyData) : Prop := ∀ H1, Ex H H1 → ∀ Q : List V → Hp → Prop, (∀ vs H2, Ex H1 H2 → DpAll K H2 vs ds → Q vs H2) → ta σ H1 Q
/-- a promise: arguments by data, a new list by data -/
def spN (K : PySem.W.Frag) (R : List PyData → List PyData → Prop) : Sp := fun vs H Q _ => ∃ ds out, DpAll K H vs ds ∧ R ds out ∧ NewL K H Q out
/-- a promise: arguments by data, a value by data -/
def spV (K : PySem.W.Frag) (R : List PyData → PyData → Prop) : Sp := fun vs H Q _ => ∃ ds out, DpAll K H vs ds ∧ R ds out ∧ ∀ v H', Ex H H' → Dp K H' v out → Q v H'
section
variable {ta tb te : TE} {tA : TA} {d e : PyData} {ds es : List PyData} {v : V} {E : XK}
theorem EvN.asD (h : EvN K te σ H ds) : EvD K te σ H (.list ds) := fun H1 e Q q => h H1 e Q fun p xs H2 _ e2 hp ha => q _ H2 e2 (.lst (sq_of hp) ha)
theorem EvD.mono (e : Ex H H') (h : EvD K te σ H d) : EvD K te σ H' d := fun H1 a Q q => h H1 (e.trans a) Q q
theorem EvN.mono (e : Ex H H') (h : EvN K te σ H ds) : EvN K te σ H' ds := fun H1 a Q q => h H1 (e.trans a) Q q
theorem EvDA.mono (e : Ex H H') (h : EvDA K tA σ H ds) : EvDA K tA σ H' ds := fun H1 a Q q => h H1 (e.trans a) Q q
theorem EvD.of (h : Ev te σ H v) (hd : Dp K H v d) : EvD K te σ H d := fun H1 e Q q => h H1 e Q fun H2 e2 => q v H2 e2 (SB.mono (e.trans e2) hd)
theorem dVar {i : Nat} (h : σ[i]? = some (some v)) (hd : Dp K H v d) : EvD K (tVar i) σ H d := EvD.of (ev_var h) hd
theorem dInt {i : Int} : EvD K (tC (.int i)) σ H (.int i) := EvD.of ev_c (.int i)
theorem dBl {i : Bool} : EvD K (tC (.bl i)) σ H (.bool i) := EvD.of ev_c (.bl i)
theorem EvD.int {i : Int} (h : EvD K te σ H (.int i)) : Ev te σ H (.int i) := fun H1 e Q q => h H1 e Q fun v H2 e2 hd => by rw [dpInt hd]; exact q H2 e2
theorem EvD.bl {i : Bool} (h : EvD K te σ H (.bool i)) : Ev te σ H (.bl i) := fun H1 e Q q => h H1 e Q fun v H2 e2 hd => by rw [dpBool hd]; exact q H2 e2
theorem iD {i : Int} (h : Ev te σ H (.int i)) : EvD K te σ H (.int i) := EvD.of h (.int i)
theorem bD {i : Bool} (h : Ev te σ H (.bl i)) : EvD K te σ H (.bool i) := EvD.of h (.bl i)
theorem daNil : EvDA K tNil σ H [] := fun H1 _ Q q => q [] H1 (Ex.refl H1) .nil
theorem daCons (h : EvD K te σ H d) (hr : EvDA K tA σ H ds) : EvDA K (tCons te tA) σ H (d :: ds) := fun H1 e Q q =>
  h H1 e _ fun v H2 e2 hd => hr H2 (e.trans e2) _ fun vs H3 e3 ha => q _ H3 (e2.trans e3) (.cons (SB.mono e3 hd) ha)
theorem da1 (h : EvD K te σ H d) : EvDA K (tCons te tNil) σ H [d] := daCons h daNil
theorem da2 (h : EvD K ta σ H d) (h' : EvD K tb σ H e) : EvDA K (tCons ta (tCons tb tNil)) σ H [d, e] := daCons h (da1 h')
theorem nCall {R : List PyData → List PyData → Prop} (ha : EvDA K tA σ H ds) (hr : R ds es) : EvN K (tCall (spN K R) [] E tA) σ H es := fun H1 e Q q =>
  ha H1 e _ fun vs H2 e2 hd => by
    refine ⟨ds, es, ?_, hr, fun p xs H3 hp e3 h3 h4 => q p xs H3 (fresh_back e2 hp) (e2.trans e3) h3 h4⟩
    rw [List.append_nil]
    exact hd
theorem vCall {R : List PyData → PyData → Prop} (ha : EvDA K tA σ H ds) (hr : R ds d) : EvD K (tCall (spV K R) [] E tA) σ H d := fun H1 e Q q =>
  ha H1 e _ fun vs H2 e2 hd => by
    refine ⟨ds, d, ?_, hr, fun v H3 e3 h3 => q v H3 (e2.trans e3) h3⟩
    rw [List.append_nil]
    exact hd
theorem dTup (h : EvDA K tA σ H ds) (hl : ds.length ≤ 100000) : EvD K (tTup tA) σ H (.tuple ds) := fun H1 e Q q =>
  h H1 e _ fun vs H2 e2 ha => ⟨sz_of (by rw [allLen ha]; exact hl), fun p hp => q _ _ (e2.trans (Ex.new hp)) (.tup (st_of upd_same) (monoA (Ex.new hp) ha))⟩
theorem nLst (h : EvDA K tA σ H ds) (hl : ds.length ≤ 100000) : EvN K (tLst tA) σ H ds := fun H1 e Q q =>
  h H1 e _ fun vs H2 e2 ha => ⟨sz_of (by rw [allLen ha]; exact hl), fun p hp => q p vs _ (fresh_back e2 hp) (e2.trans (Ex.new hp)) upd_same (monoA (Ex.new hp) ha)⟩
theorem eqD (ha : EvD K ta σ H d) (hb : EvD K tb σ H e) (sd : SeqAt.shaped d = true) (se : SeqAt.shaped e = true) : Ev (tOp (rEqD K) ta tb) σ H (.bl (PyData.eqv d e)) := fun H1 a Q q =>
  ha H1 a _ fun v H2 e2 hd => hb H2 (a.trans e2) _ fun u H3 e3 he => ⟨d, e, SB.mono e3 hd, he, sd, se, q H3 (e2.trans e3)⟩
theorem neD (ha : EvD K ta σ H d) (hb : EvD K tb σ H e) (sd : SeqAt.shaped d = true) (se : SeqAt.shaped e = true) : Ev (tOp (rNeD K) ta tb) σ H (.bl (!PyData.eqv d e)) := fun H1 a Q q =>
  ha H1 a _ fun v H2 e2 hd => hb H2 (a.trans e2) _ fun u H3 e3 he => ⟨d, e, SB.mono e3 hd, he, sd, se, q H3 (e2.trans e3)⟩
/-- xs[i] -/
theorem dIxL {i : Int} (ha : EvD K ta σ H (.list ds)) (hb : Ev tb σ H (.int i)) (h : atI ds i = some d) : EvD K (tOp (rIxL K) ta tb) σ H d := fun H1 a Q q =>
  ha H1 a _ fun v H2 e2 hd => hb H2 (a.trans e2) _ fun H3 e3 => by
    obtain ⟨p, xs, rfl, hs, hA⟩ := dpList (SB.mono e3 hd)
    have key : ∃ x, atI xs i = some x ∧ Dp K H3 x d := by
      have hl := allLen hA
      unfold atI at h ⊢
      rw [hl]
      cases q : ixN ds.length i with
      | none => rw [q] at h; cases h
      | some j => rw [q] at h; exact allGet hA h
    obtain ⟨x, hx, hdx⟩ := key
    exact ⟨p, xs, i, x, rfl, rfl, hs, hx, q x H3 (e2.trans e3) hdx⟩
end

/-! ### one list is changed: what stands beside it -/
def rm (H : Hp) (D : Addr) : Hp := fun a => if a = D then none else H a
theorem rmSame {D : Addr} : rm H D D = none := by unfold rm; rw [if_pos rfl]
theorem rmNe {D a : Addr} (h : a ≠ D) : rm H D a = H a := by unfold rm; rw [if_neg h]
theorem rmEx {D : Addr} : Ex (rm H D) H := fun a o h => by
  by_cases c : a = D
  · rw [c, rmSame] at h; cases h
  · rw [rmNe c] at h; exact h
theorem rmMono {D : Addr} (e : Ex H H') : Ex (rm H D) (rm H' D) := fun a o h => by
  by_cases c : a = D
  · rw [c, rmSame] at h; cases h
  · rw [rmNe c] at h ⊢; exact e a o h
theorem rmUpd {D : Addr} {o : HO} : rm (upd H D o) D = rm H D := by
  funext a
  by_cases c : a = D
  · rw [c, rmSame, rmSame]
  · rw [rmNe c, rmNe c, upd_ne c]
theorem rmNew {D p : Addr} {o : HO} (h : p ≠ D) : rm (upd H p o) D = upd (rm H D) p o := by
  funext a
  by_cases c : a = D
  · rw [c, rmSame, upd_ne (Ne.symm h), rmSame]
  · rw [rmNe c]
    by_cases c2 : a = p
    · rw [c2, upd_same, upd_same]
    · rw [upd_ne c2, upd_ne c2, rmNe c]
theorem rmFree {D : Addr} (h : H D = none) : rm H D = H := by
  funext a
  by_cases c : a = D
  · rw [c, rmSame, h]
  · rw [rmNe c]
/-- what H has stays if D is new to it -/
theorem exRm {D : Addr} (e : Ex H H') (h : H D = none) : Ex H (rm H' D) := fun a o q => by
  rw [rmNe (ne_of_none q h)]
  exact e a o q
mutual
/-- no list within -/
def noL : PyData → Bool
  | .none => true
  | .bool _ => true
  | .int _ => true
  | .str _ => true
  | .list _ => false
  | .tuple ds => noLs ds
  | .dict _ => false
def noLs : List PyData → Bool
  | [] => true
  | d :: ds => noL d && noLs ds
end
theorem sqtRm {D a : Addr} {ys xs : List V} (hD : H D = some (.lst ys)) (h : SqT K H a xs) : SqT K (rm H D) a xs := by
  rcases h with (h | ⟨o, h⟩) | h
  · refine .inl (.inl ?_)
    rw [rmNe (ne_of h hD (by intro z; cases z))]; exact h
  · refine .inl (.inr ⟨o, ?_⟩)
    rw [rmNe (ne_of h hD (by intro z; cases z))]; exact h
  · exact .inr h
mutual
theorem dpRm {D : Addr} {ys : List V} (hD : H D = some (.lst ys)) : ∀ (d : PyData) (v : V), noL d = true → Dp K H v d → Dp K (rm H D) v d
  | .none, _, _, h => by cases h; exact .non
  | .bool b, _, _, h => by cases h; exact .bl b
  | .int i, _, _, h => by cases h; exact .int i
  | .str x, _, _, h => by cases h; exact .str x
  | .list ds, _, n, h => by cases n
  | .tuple ds, _, n, h => by
    cases h with
    | tup hs ha => exact .tup (sqtRm hD hs) (dpAllRm hD ds _ n ha)
  | .dict _, _, _, h => by cases h
theorem dpAllRm {D : Addr} {ys : List V} (hD : H D = some (.lst ys)) : ∀ (ds : List PyData) (vs : List V), noLs ds = true → DpAll K H vs ds → DpAll K (rm H D) vs ds
  | [], _, _, h => by cases h; exact .nil
  | d :: ds, _, n, h => by
    have n' := Bool.and_eq_true_iff.mp n
    cases h with
    | cons h1 h2 => exact .cons (dpRm hD d _ n'.1 h1) (dpAllRm hD ds _ n'.2 h2)
end
/-- evaluated while the list at D is at work: the value's data does not lean on D -/
def EvX (K : PySem.W.Frag) (te : TE) (σ : L2.St) (H : Hp) (D : Addr) (d : PyData) : Prop :=
  ∀ H1, Ex H H1 → (∃ ys, H1 D = some (.lst ys)) → ∀ Q : VK, (∀ v H2, Ex H1 H2 → Dp K (rm H2 D) v d → Q v H2) → te σ H1 Q
section
variable {ta tb te : TE} {tA : TA} {d e : PyData} {ds es : List PyData} {v : V} {D : Addr}
theorem EvD.x (h : EvD K te σ H d) (hn : noL d = true) : EvX K te σ H D d := fun H1 e hD Q q => h H1 e Q fun v H2 e2 hd => by
  obtain ⟨ys, hD⟩ := hD
  exact q v H2 e2 (dpRm (e2 D _ hD) d v hn hd)
theorem EvN.x (h : EvN K te σ H ds) (hn : noLs ds = true) : EvX K te σ H D (.list ds) := fun H1 e hD Q q => h H1 e Q fun p xs H2 hp e2 h2 ha => by
  obtain ⟨ys, hD⟩ := hD
  refine q _ H2 e2 (.lst (sq_of ?_) (dpAllRm (e2 D _ hD) ds xs hn ha))
  rw [rmNe (fun z => by rw [z, hD] at hp; cases hp)]
  exact h2
end
/-! ### walks -/
def YD (K : PySem.W.Frag) (o : Nat → PyData) : Nat → Hp → V → Hp → Prop := fun i H x H' => Ex H H' ∧ Dp K H' x (o i)
/-- over what stands in H already -/
def WkE (K : PySem.W.Frag) (wi : TI) (σ : L2.St) (H : Hp) (n : Nat) (o : Nat → PyData) : Prop := ∀ H1, Ex H H1 → ∀ R : It → Hp → Prop, (∀ J H2, Ex H1 H2 → Walk J n (fun H' => Ex H H') (YD K o) → R J H2) → wi σ H1 R
/-- over something new -/
def WkN (K : PySem.W.Frag) (wi : TI) (σ : L2.St) (H : Hp) (n : Nat) (o : Nat → PyData) : Prop := ∀ H1, Ex H H1 → ∀ R : It → Hp → Prop, (∀ J H2, Ex H1 H2 → Walk J n (fun H' => Ex H2 H') (YD K o) → R J H2) → wi σ H1 R
section
variable {wi : TI} {n : Nat} {o : Nat → PyData} {g : TG} {tb : TS} {D : Ends} {tt : TT} {te tl : TE} {tA : TA} {ds es : List PyData} {v : V}
theorem WkE.asN (h : WkE K wi σ H n o) : WkN K wi σ H n o := fun H1 e R q => h H1 e R fun J H2 e2 w => q J H2 e2 (w.mono (fun H' e3 => (e.trans e2).trans e3) fun _ _ _ _ _ _ y => y)
theorem walkL {a : Addr} {xs : List V} (hs : SqL K H a xs) (ha : DpAll K H xs ds) : Walk (Itl K a) ds.length (fun H' => Ex H H') (YD K fun i => ds.getD i .none) := by
  have w := walk_list (K := K) (a := a) (xs := xs)
  rw [allLen ha] at w
  exact w.mono (fun H' e => ex_l e hs) fun i H1 x H2 hi e y => by
    obtain ⟨rfl, hx⟩ := y
    exact ⟨Ex.refl _, SB.mono e (allAt ha hx)⟩
theorem walkEn {a : Addr} {xs : List V} (hs : SqL K H a xs) (ha : DpAll K H xs ds) : Walk (Ite K a) ds.length (fun H' => Ex H H') (YD K fun i => .tuple [.int (i : Nat), ds.getD i .none]) := by
  have w := walk_enum (K := K) (a := a) (xs := xs)
  rw [allLen ha] at w
  exact w.mono (fun H' e => ex_l e hs) fun i H1 x H2 hi e y => by
    obtain ⟨T, x1, x2, rfl, hT, rfl, h1, h2⟩ := y
    have e1 : V.int (i : Nat) = x1 := Option.some.inj h1
    subst e1
    exact ⟨Ex.new hT, .tup (st_of upd_same) (.cons (.int _) (.cons (SB.mono (e.trans (Ex.new hT)) (allAt ha h2)) .nil))⟩
theorem walkZ {a b : Addr} {xs ys : List V} (hs : SqL K H a xs) (ha : DpAll K H xs ds) (hs' : SqL K H b ys) (ha' : DpAll K H ys es) (hl : ds.length = es.length) : Walk (Itz K a b) ds.length (fun H' => Ex H H') (YD K fun i => .tuple [ds.getD i .none, es.getD i .none]) := by
  have w := walk_zip (K := K) (a := a) (b := b) (xs := xs) (ys := ys) (n := ds.length) (by rw [allLen ha, allLen ha', ← hl, Nat.min_self])
  exact w.mono (fun H' e => ⟨ex_l e hs, ex_l e hs'⟩) fun i H1 x H2 hi e y => by
    obtain ⟨T, x1, x2, rfl, hT, rfl, h1, h2⟩ := y
    have e' := e.trans (Ex.new (o := .tup [x1, x2]) hT)
    exact ⟨Ex.new hT, .tup (st_of upd_same) (.cons (SB.mono e' (allAt ha h1)) (.cons (SB.mono e' (allAt ha' h2)) .nil))⟩
theorem wkList (h : Ev tl σ H v) (hd : Dp K H v (.list ds)) : WkE K (iList K tl) σ H ds.length (fun i => ds.getD i .none) := fun H1 e R q => h H1 e _ fun H2 e2 => by
  obtain ⟨a, xs, rfl, hs, ha⟩ := dpList hd
  exact ⟨a, rfl, ⟨xs, ex_l (e.trans e2) hs⟩, q _ H2 e2 (walkL hs ha)⟩
theorem wkEnum (h : Ev tl σ H v) (hd : Dp K H v (.list ds)) : WkE K (iEnum K (tCons tl tNil)) σ H ds.length (fun i => .tuple [.int (i : Nat), ds.getD i .none]) := fun H1 e R q => h H1 e _ fun H2 e2 => by
  obtain ⟨a, xs, rfl, hs, ha⟩ := dpList hd
  exact ⟨a, xs, rfl, ex_l (e.trans e2) hs, q _ H2 e2 (walkEn hs ha)⟩
theorem wkZip {tl' : TE} {v' : V} (h : Ev tl σ H v) (hd : Dp K H v (.list ds)) (h' : Ev tl' σ H v') (hd' : Dp K H v' (.list es)) (hl : ds.length = es.length) : WkE K (iZip K (tCons tl (tCons tl' tNil))) σ H ds.length (fun i => .tuple [ds.getD i .none, es.getD i .none]) := fun H1 e R q => h H1 e _ fun H2 e2 => h' H2 (e.trans e2) _ fun H3 e3 => by
  obtain ⟨a, xs, rfl, hs, ha⟩ := dpList hd
  obtain ⟨b, ys, rfl, hs', ha'⟩ := dpList hd'
  have e' := (e.trans e2).trans e3
  exact ⟨a, b, xs, ys, rfl, ex_l e' hs, ex_l e' hs', q _ H3 (e2.trans e3) (walkZ hs ha hs' ha' hl)⟩
theorem wkNew (h : EvD K tl σ H (.list ds)) : WkN K (iList K tl) σ H ds.length (fun i => ds.getD i .none) := fun H1 e R q => h H1 e _ fun v H2 e2 hd => by
  obtain ⟨a, xs, rfl, hs, ha⟩ := dpList hd
  exact ⟨a, rfl, ⟨xs, hs⟩, q _ H2 e2 (walkL hs ha)⟩
theorem wkRange1 {j : Int} (h : EvA tA σ H [.int j]) (hb : -(2 ^ 62) ≤ j ∧ j < 2 ^ 62) : WkE K (iRng1 tA) σ H j.toNat (fun i => .int (i : Nat)) := fun H1 e R q => h H1 e _ fun H2 e2 => by
  refine ⟨j, rfl, hb.1, hb.2, q _ H2 e2 (walk_range.mono (fun _ _ => trivial) fun i H3 x H4 _ _ y => ?_)⟩
  obtain ⟨rfl, rfl⟩ := y
  refine ⟨Ex.refl _, ?_⟩
  show Dp K _ (V.int (0 + (i : Int))) _
  rw [Int.zero_add]
  exact .int _
theorem wkRange2 {i j : Int} (h : EvA tA σ H [.int i, .int j]) (hb : -(2 ^ 62) ≤ i ∧ i < 2 ^ 62 ∧ -(2 ^ 62) ≤ j ∧ j < 2 ^ 62) : WkE K (iRng2 tA) σ H (j - i).toNat (fun k => .int (i + (k : Nat))) := fun H1 e R q => h H1 e _ fun H2 e2 => by
  refine ⟨i, j, rfl, hb, q _ H2 e2 (walk_range.mono (fun _ _ => trivial) fun i H3 x H4 _ _ y => ?_)⟩
  obtain ⟨rfl, rfl⟩ := y
  exact ⟨Ex.refl _, .int _⟩
theorem gPair {i j : Nat} {x : V} {d e : PyData} {Q : L2.St → Hp → Prop} (h : Dp K H x (.tuple [d, e])) (q : ∀ y z, Dp K H y d → Dp K H z e → Q ((σ.set i (some y)).set j (some z)) H) : gTup K 2 (gCons (gName i) (gCons (gName j) gNil)) x σ H Q := by
  obtain ⟨a, xs, rfl, hs, ha⟩ := dpTuple h
  obtain ⟨y, z, rfl, h1, h2⟩ := all2 ha
  exact ⟨a, _, rfl, hs, rfl, y, [z], rfl, z, [], rfl, rfl, q y z h1 h2⟩
theorem sFor {B : Hp} (eB : Ex B H) (hw : WkE K wi σ B n o) (Pv : Nat → L2.St → Hp → Prop) (h0 : ∀ H2, Ex H H2 → Pv 0 σ H2) (hG : ∀ i σ' H', i ≤ n → Pv i σ' H' → Ex B H')
    (hs : ∀ i x σ' H' H'', i < n → Pv i σ' H' → Ex H' H'' → Dp K H'' x (o i) → g x σ' H'' fun σ2 H2 => tb { D with nx := Pv (i + 1), ct := Pv (i + 1), bk := D.nx } σ2 H2) (hd : ∀ σ' H', Pv n σ' H' → D.nx σ' H') : tFor wi g tb D σ H :=
  hw H eB _ fun J H2 e w => for_it w Pv (h0 H2 e) hG (fun i x σ' H' H'' hi p y => hs i x σ' H' H'' hi p y.1 y.2) hd
/-- what a comprehension tells -/
def outs (n : Nat) (f : Nat → Bool) (out : Nat → PyData) : List PyData := ((List.range n).filter f).map out
theorem outsYes {f : Nat → Bool} {out : Nat → PyData} (h : f n = true) : outs (n + 1) f out = outs n f out ++ [out n] := by
  unfold outs
  rw [List.range_succ, List.filter_append, List.map_append, List.filter_cons, if_pos h]; rfl
theorem outsNo {f : Nat → Bool} {out : Nat → PyData} (h : f n = false) : outs (n + 1) f out = outs n f out := by
  unfold outs
  rw [List.range_succ, List.filter_append, List.map_append, List.filter_cons, if_neg (by rw [h]; decide)]
  exact List.append_nil _
theorem outsLen (n : Nat) (f : Nat → Bool) (out : Nat → PyData) : (outs n f out).length ≤ n := by
  unfold outs
  rw [List.length_map]
  have h := List.length_filter_le f (List.range n)
  rw [List.length_range] at h
  exact h
theorem nLc {vs : List Nat} (f : Nat → Bool) (out : Nat → PyData) (hn : n ≤ 50000) (hw : WkN K wi σ H n o)
    (ht : ∀ Dl i x H', i < n → Ex H H' → Dp K H' x (o i) → ∃ σ2, (∀ Q : L2.St → Hp → Prop, Q σ2 H' → g x (wipe σ vs) H' Q) ∧ wipe σ2 vs = wipe σ vs ∧ EvT tt σ2 H' (f i) ∧ (f i = true → EvX K te σ2 H' Dl (out i))) :
    EvN K (tLc wi g tt te vs) σ H (outs n f out) := fun H1 e1 Q q => hw H1 e1 _ fun J H2 e2 w => fun Dl hD => by
  refine lc_it w (fun i H' => Ex H2 H' ∧ ∃ acc, H' Dl = some (.lst acc) ∧ DpAll K (rm H' Dl) acc (outs i f out)) ⟨Ex.new hD, [], upd_same, .nil⟩ (fun i H' _ p => p.1) (fun i x H' H'' hi p y => ?_) (fun H' p => ?_)
  · obtain ⟨eP, acc, hacc, hall⟩ := p
    obtain ⟨eY, dY⟩ := y
    obtain ⟨σ2, hg, hwi, hT, hE⟩ := ht Dl i x H'' hi (((e1.trans e2).trans eP).trans eY) dY
    refine hg _ ⟨hwi, hT H'' (Ex.refl _) _ fun H3 e3 => ?_⟩
    have e13 := eY.trans e3
    cases hf : f i with
    | true =>
      show te σ2 H3 _
      refine hE hf H3 e3 ⟨acc, e13 Dl _ hacc⟩ _ fun y H4 e4 hd => ⟨acc, e4 Dl _ (e13 Dl _ hacc), sz_lt ?_, Ex.mut ((eP.trans e13).trans e4) hD, acc ++ [y], upd_same, ?_⟩
      · rw [allLen hall]
        have := outsLen i f out
        omega
      · rw [rmUpd, outsYes hf]
        exact allApp (monoA (rmMono (e13.trans e4)) hall) (.cons hd .nil)
    | false =>
      show Ex H2 H3 ∧ _
      refine ⟨eP.trans e13, acc, e13 Dl _ hacc, ?_⟩
      rw [outsNo hf]
      exact monoA (rmMono e13) hall
  · obtain ⟨eP, acc, hacc, hall⟩ := p
    exact q Dl acc H' (fresh_back e2 hD) (e2.trans eP) hacc (monoA rmEx hall)
theorem sAsgN {i : Nat} {D : Ends} (h : EvN K te σ H ds) (k : ∀ p xs H1, H p = none → Ex H H1 → H1 p = some (.lst xs) → DpAll K H1 xs ds → D.nx (σ.set i (some (.ref p))) H1) : tAsg te (gName i) D σ H := h H (Ex.refl H) _ k
theorem sAsgD {i : Nat} {D : Ends} {d : PyData} (h : EvD K te σ H d) (k : ∀ v H1, Ex H H1 → Dp K H1 v d → D.nx (σ.set i (some v)) H1) : tAsg te (gName i) D σ H := h H (Ex.refl H) _ k
theorem sRetN {D : Ends} (h : EvN K te σ H ds) (k : NewL K H D.rt ds) : tRet te D σ H := h H (Ex.refl H) _ k
theorem sRetD {D : Ends} {d : PyData} (h : EvD K te σ H d) (k : ∀ v H1, Ex H H1 → Dp K H1 v d → D.rt v H1) : tRet te D σ H := h H (Ex.refl H) _ k
theorem NewL.ex {Q : VK} (e : Ex H H1) (q : NewL K H Q ds) : NewL K H1 Q ds := fun p xs H2 hp e2 h2 ha => q p xs H2 (fresh_back e hp) (e.trans e2) h2 ha
end
/-! ### a op b op c op d -/
section
variable {X : Cx} {a b c d : Expr} {ta tb tc td : TE} {pos : Pos}
def tChain3 (r r' r'' : R2) (ta tb tc td : TE) : TE := fun σ H Q => ta σ H fun x H1 => tb σ H1 fun y H2 => r x y H2 fun z H3 => ∃ k, z = .bl k ∧
  (if k = true then tc σ H3 fun w' H4 => r' y w' H4 fun z' H5 => ∃ k', z' = .bl k' ∧ (if k' = true then td σ H5 fun u' H6 => r'' w' u' H6 Q else Q (.bl false) H5) else Q (.bl false) H3)
theorem pt_chain3 {op op' op'' : CmpOp} {r r' r'' : R2} (ho : OpR X (compareOp op) r) (ho' : OpR X (compareOp op') r') (ho'' : OpR X (compareOp op'') r'') (ha : PE X a ta) (hb : PE X b tb) (hc : PE X c tc) (hd : PE X d td)
    (hm : PySem.lastMarks [op, op', op''] [b, c, d] = false := by with_unfolding_all rfl) : PT X (.Compare a [op, op', op''] [b, c, d] pos) (tTest (tChain3 r r' r'' ta tb tc td)) := by
  refine ⟨fun pins s σ H Q I h => ?_⟩
  refine PyProof.Rows.isTrue_chain (thn (ha.run pins s σ H _ I h) fun v s1 ⟨x, H1, I1, r1, q1⟩ => PyProof.Rows.test_link (thn (hb.run pins s1 σ H1 _ I1 q1) fun u s2 ⟨y, H2, I2, r2, q2⟩ =>
    thn (ho pins s2 σ H2 x y v u _ I2 r1 r2 q2) fun d3 s3 ⟨z, H3, I3, r3, k, ek, q3⟩ => ?_)) hm
  subst ek; cases r3
  refine wpAny_truthy_bool ?_
  cases k with
  | false =>
    obtain ⟨k', e', q'⟩ := q3
    cases e'
    exact PyProof.Rows.ite_ff ⟨H3, I3, q'⟩
  | true =>
    refine PyProof.Rows.ite_tt (PyProof.Rows.test_link (thn (hc.run pins s3 σ H3 _ I3 q3) fun w' s4 ⟨z', H4, I4, r4, q4⟩ => thn (ho' pins s4 σ H4 y z' u w' _ I4 r2 r4 q4) fun d' s5 ⟨z2, H5, I5, r5, k2, e2, q5⟩ => ?_))
    subst e2; cases r5
    refine wpAny_truthy_bool ?_
    cases k2 with
    | false =>
      obtain ⟨k', e', q'⟩ := q5
      cases e'
      exact PyProof.Rows.ite_ff ⟨H5, I5, q'⟩
    | true =>
      refine PyProof.Rows.ite_tt (PyProof.Rows.test_last (thn (hd.run pins s5 σ H5 _ I5 q5) fun w2 s6 ⟨z3, H6, I6, r6, q6⟩ => thn (ho'' pins s6 σ H6 z' z3 w' w2 _ I6 r4 r6 q6) fun d7 s7 ⟨z4, H7, I7, r7, k4, e4, q7⟩ => ?_))
      subst e4; cases r7
      exact wpAny_truthy_bool ⟨H7, I7, q7⟩
theorem ev_chain3 {f f' f'' : Int → Int → Bool} {i j k l : Int} {H : Hp} (ha : Ev ta σ H (.int i)) (hb : Ev tb σ H (.int j)) (hc : Ev tc σ H (.int k)) (hd : Ev td σ H (.int l)) :
    Ev (tChain3 (rI0 fun a b => .bl (f a b)) (rI0 fun a b => .bl (f' a b)) (rI0 fun a b => .bl (f'' a b)) ta tb tc td) σ H (.bl (f i j && f' j k && f'' k l)) := fun H1 e Q q =>
  ha H1 e _ fun H2 e2 => hb H2 (e.trans e2) _ fun H3 e3 => ⟨i, j, rfl, rfl, f i j, rfl, by
    generalize f i j = A at q ⊢
    cases A with
    | false => exact iteF (q H3 (e2.trans e3))
    | true =>
      refine iteT (hc H3 ((e.trans e2).trans e3) _ fun H4 e4 => ⟨j, k, rfl, rfl, f' j k, rfl, ?_⟩)
      generalize f' j k = A at q ⊢
      cases A with
      | false => exact iteF (q H4 ((e2.trans e3).trans e4))
      | true => exact iteT (hd H4 (((e.trans e2).trans e3).trans e4) _ fun H5 e5 => ⟨k, l, rfl, rfl, q H5 (((e2.trans e3).trans e4).trans e5)⟩)⟩
theorem ev_chain2 {f f' : Int → Int → Bool} {i j k : Int} {H : Hp} (ha : Ev ta σ H (.int i)) (hb : Ev tb σ H (.int j)) (hc : Ev tc σ H (.int k)) :
    Ev (tChain (rI0 fun a b => .bl (f a b)) (rI0 fun a b => .bl (f' a b)) ta tb tc) σ H (.bl (f i j && f' j k)) := fun H1 e Q q =>
  ha H1 e _ fun H2 e2 => hb H2 (e.trans e2) _ fun H3 e3 => ⟨i, j, rfl, rfl, f i j, rfl, by
    generalize f i j = A at q ⊢
    cases A with
    | false => exact iteF (q H3 (e2.trans e3))
    | true => exact iteT (hc H3 ((e.trans e2).trans e3) _ fun H4 e4 => ⟨j, k, rfl, rfl, q H4 ((e2.trans e3).trans e4)⟩)⟩
end
end SB

/-! set(xs) of a list of ints, and sorted of such a set, of any number -/
namespace SC
open PySem PySem.Spec PyProof.Rows L2
abbrev nS (w : World) : Obj := { cls := .type "set", dict := none, data := .set #[] 0 (.fresh 0 0 (!w.params.followText "set-order")) }
section
variable {P : Program} {w : World} {A : Around} {E : Value → Shared → Prop} {s : Shared}
theorem callSetL {l : Addr} {items : Array Value} {ns : List Int} {Q : Value → Shared → Prop} (jh : A.handled = none) (jl : s.heap.IsList l items) (ji : IntsAre items.toList ns) (jb : ns.length + 1 < scanBound)
    (q : ∀ h' tk c, SetR w h' s.heap.objs.size (fun j => decide (j ∈ ns)) c → c ≤ ns.length → (∀ b o, s.heap.get? b = some o → h'.get? b = some o) → Q (.ref s.heap.objs.size) { s with heap := h', toks := tk }) :
    wpAny (model P w) A (PySem.call (.type "set") [.ref l]) Q E s := by
  have jz : items.size = ns.length := by rw [← Array.length_toList]; exact IntsAre.length ji
  obtain ⟨c0, t0, jm⟩ := F.called_set.mro
  have jM := F.called_set.made; have jU := F.called_set.sub
  refine wpAny_call (codeAny_of_tree ?_); show wpAny _ _ (callAny (.type "set") _) _ _ _
  refine wpAny_pure ⟨Code.quiet_builtin _ (by decide +kernel), codeAny_builtin F.entry_type_call ?_⟩; rw [Around.under_plain (weight_type_call_type "set" [.ref l] []) rfl]
  have u1 := F.called_set.notType; have u2 := F.called_set.canCreate; have u3 := F.typeCall_set_1 (.ref l)
  repeat any_goals first | assumption | wp_step
  refine codeAny_mono (code_set_led1 (.ref l) (E := E) (Q₁ := fun ob s1 => ob = .ref s.heap.objs.size ∧ s1 = { s with heap := s.heap.push (nS w) }) ⟨rfl, rfl⟩) fun r s1 jr => ?_
  match r, jr with
  | .error e, jr => exact jr
  | .ok (.ret ob), jr =>
    obtain ⟨rfl, rfl⟩ := jr
    have jS : (s.heap.push (nS w)).get? s.heap.objs.size = some (nS w) := Heap.get?_push_size _ rfl
    have jT : Shared.TypeIs { s with heap := s.heap.push (nS w) } (.ref s.heap.objs.size) "set" := ⟨_, jS, rfl⟩
    have u4 := F.called_set.init.lookup; have u5 := F.called_set.init.bind (.ref s.heap.objs.size)
    repeat any_goals first | assumption | wp_step
    refine codeAny_mono (codeAny_call_builtin (R := wants (fun r s2 => r = .none ∧ ∃ h' tk c, s2 = { s with heap := h', toks := tk } ∧ SetR w h' s.heap.objs.size (fun j => decide (j ∈ ns)) c ∧ c ≤ ns.length ∧ (∀ b o, s.heap.get? b = some o → h'.get? b = some o)) E) F.called_set.init.plain F.entry_set_init (check_set_init_1 jT ?_)) fun r2 s2 jr2 => ?_
    · obtain ⟨⟨oc, od, ox, os⟩, jo, j1, nl, j2⟩ := jl
      simp only at j1 j2; subst j1; subst j2
      have jo' : (s.heap.push (nS w)).get? l = some { cls := .type "list", dict := od, data := .seq items nl, slots := os } := Heap.get?_push_of_some _ jo
      have j3 := F.sub_list_set; have j4 := F.sub_list_frozenset
      have j5 : (Value.type "list" == Value.type "dict") = false := by decide
      have j6 : (s.heap.push (nS w)).IsList l items := ⟨_, jo', rfl, nl, rfl⟩
      unfold Builtin.«set.__init__» noKeywords Builtin.Frozenset.updateFrom; generalize jP : pyIter = PI; wp_walk; subst jP
      refine wpAny_pyIter_list j6 ?_; refine wpAny_bind (wpAny_runValue ?_)
      have lS : l < s.heap.objs.size := Heap.lt_size jo
      have jz1 : (s.heap.push (nS w)).objs.size = s.heap.objs.size + 1 := Heap.size_push ..
      have jI : l ≠ (s.heap.push (nS w)).objs.size := by rw [jz1]; exact Nat.ne_of_lt (Nat.lt_succ_of_lt lS)
      have jF : s.heap.objs.size ∉ [(s.heap.push (nS w)).objs.size, l] := by
        rw [jz1]; intro z
        rcases List.mem_cons.mp z with z | z
        · exact absurd z (Nat.ne_of_lt (Nat.lt_succ_self _))
        · exact absurd (List.mem_singleton.mp z) (Nat.ne_of_gt lS)
      have jV : ∀ (i : Nat) (v : Value), items[i]? = some v → ∃ k t, ns[i]? = some k ∧ v = .int k t := fun i v hv => by
        have hi : i < ns.length := jz ▸ (Array.getElem?_eq_some_iff.mp hv).1
        obtain ⟨t, e⟩ := IntsAre.int_at ji i v (by rw [Array.getElem?_toList, hv])
        exact ⟨ns[i], t, List.getElem?_eq_getElem hi, by rw [e, List.getD_eq_getElem?_getD, List.getElem?_eq_getElem hi]; rfl⟩
      refine set_update_ints ((Walks.list (show A.in1.in1.in1.handled = none by simp [jh]) _ l jI items).toS) s.heap.objs.size jF ns jz jb jV (items.size - 0) 0 _ (by omega) (Nat.zero_le _) ⟨⟨_, Heap.get?_push_size _ rfl, rfl, rfl⟩, (j6.push _)⟩ ?_ ?_
      · exact ⟨0, Nat.le_refl 0, setR_new_at (Heap.get?_push_of_some _ jS)⟩
      · intro s3 c3 m3 z3 R3
        obtain ⟨h3, g3, d3, t3, o3⟩ := s3
        obtain rfl : g3 = s.gens := m3.gens
        obtain rfl : d3 = s.drawn := m3.drawn
        obtain rfl : o3 = s.os := m3.os
        show wpAny _ _ _ _ _ _; refine wpAny_pure ?_; show wpAny _ _ (ret Value.none) _ _ _
        refine wpAny_pure ⟨rfl, h3, t3, c3, rfl, R3, jz ▸ z3, fun b o e => ?_⟩
        have b0 : b < s.heap.objs.size := Heap.lt_size e
        refine m3.heap b o (fun z => ?_) (Heap.get?_push_of_some _ (Heap.get?_push_of_some _ e))
        rcases List.mem_cons.mp z with z | z
        · exact absurd z (Nat.ne_of_lt b0)
        · exact absurd ((List.mem_singleton.mp z).trans jz1) (Nat.ne_of_lt (Nat.lt_succ_of_lt b0))
    · match r2, jr2 with
      | .error e, jr2 => exact jr2
      | .ok (.ret r), jr2 =>
        obtain ⟨rfl, h', tk, c', rfl, R', z', k'⟩ := jr2
        repeat any_goals first | assumption | wp_step
        exact q _ _ _ R' z' k'
theorem sortedSet {a : Addr} {S : Int → Bool} {n : Nat} {Q : Value → Shared → Prop} (R : SetR w s.heap a S n) (jh : A.handled = none)
    (q : ∀ s' p (out : Array Value) (c : Nat) (ns : List Int), (∀ b o, s.heap.get? b = some o → s'.heap.get? b = some o) → s'.gens = s.gens → s'.os = s.os → s.heap.objs.size ≤ p → s'.heap.get? p = some (seqObj "list" out c) →
      IntsAre out.toList ns → ns.Pairwise (· < ·) → (∀ k, k ∈ ns ↔ S k = true) → ns.length = n → Q (.ref p) s') : wpAny (model P w) A (PySem.call (.builtin "sorted") [.ref a]) Q E s := by
  obtain ⟨o, es, ep, t, ho, hex, hd, g, nd, hm, hb, hf, hn, hr, hl⟩ := R
  refine Calls.call_function_entry kind_sorted plain_sorted entry_sorted (args_sorted1 _) ?_; unfold Builtin.«sorted»
  refine wpAny_bind (m := checkCount "sorted" 1 1 _) (wpAny_pure ?_); refine wpAny_bind (collect_set (A := A.in1) jh ⟨o, ho, hex.1, hd⟩ hf hb hr hl fun s1 vs k1 hz g1 o1 pm => ?_)
  have vl : vs.length = n := by rw [pm.length_eq, List.length_map, Array.length_toList]; exact hn
  have zl : vs.length ≤ sizeLine := by
    have : scanBound ≤ sizeLine := by decide
    omega
  have vI : IntsAre vs (vs.map Builtin.Re.reRawOf) := ints_of vs fun v hv => by
    obtain ⟨e, he, qe⟩ := List.mem_map.mp (pm.mem_iff.mp hv)
    obtain ⟨k, tk, z1, _⟩ := g e he
    exact ⟨k, tk, by rw [← qe, z1]⟩
  have pk : (vs.map Builtin.Re.reRawOf).Perm (es.toList.map keyOf) := by
    have qq := pm.map Builtin.Re.reRawOf
    rwa [List.map_map] at qq
  refine wpAny_bind (wpAny_newList ?_ zl)
  have oL : (s1.heap.push (seqObj "list" vs.toArray 0)).get? s1.heap.objs.size = some (seqObj "list" vs.toArray 0) := Heap.get?_push_size _ rfl
  refine wpAny_bind (wpAny_holding (wpAny_call_entry slot_list_sort ⟨_, oL, rfl⟩ entry_list_sort (SrtO.list_sort_ord SrtO.swo_int oL zl (fun h2 => SrtO.ints_sortable vI h2) fun out x1 x2 => ⟨_, rfl, ?_⟩) (args_list_sort _)))
  obtain ⟨y1, y2, y3⟩ := SrtO.ints_out vI x1 x2
  obtain ⟨c, hc⟩ := sortedHeap_at (vs := vs) (out := out.toArray) oL
  have pn : (out.map SrtO.iv).Perm (es.toList.map keyOf) := y2.trans pk
  refine wpAny_pure ⟨_, rfl, q _ s1.heap.objs.size out.toArray c (out.map SrtO.iv) (fun b u e => ?_) g1 o1 hz hc y1 (lt_of_le_nodup _ y3 (pn.nodup_iff.mpr nd)) (fun k => by rw [pn.mem_iff, ← hm k]) ?_⟩
  · have e1 := k1 b u e
    have lt1 := Heap.lt_size e1
    show (sortedHeap (s1.heap.push (seqObj "list" vs.toArray 0)) s1.heap.objs.size vs out.toArray).get? b = some u
    rw [sortedHeap_old (Nat.ne_of_lt lt1) (by rw [size_push']; exact Nat.lt_succ_of_lt lt1)]
    exact Heap.get?_push_of_some _ e1
  · rw [pn.length_eq, List.length_map, Array.length_toList]; exact hn
end
/-- set(xs), ints; sorted of it -/
def rSetI (K : PySem.W.Frag) (w : World) : List V → Hp → VK → Prop := fun vs H Q => ∃ (a : Addr) (ns : List Int), vs = [V.ref a] ∧ SqL K H a (ns.map V.int) ∧ ns.length + 1 < scanBound ∧ ∀ c p, H p = none → Q (.ref p) (upd H p (SetO w p (fun j => decide (j ∈ ns)) c))
def rSortS (w : World) : List V → Hp → VK → Prop := fun vs H Q => ∃ (a : Addr) (S : Int → Bool) (n : Nat), vs = [V.ref a] ∧ H a = some (SetO w a S n) ∧ ∀ (ns : List Int) (p : Addr), ns.Pairwise (· < ·) → (∀ k : Int, k ∈ ns ↔ S k = true) → ns.length = n → ns.length ≤ sizeLine → H p = none → Q (.ref p) (upd H p (.lst (ns.map V.int)))
section
variable {X : Cx}
theorem crSetI (hc : X.calm = true) : CallR X (.type "set") (rSetI X.K X.w) := by
  intro pins s σ H vs us Q I r h
  obtain ⟨a, ns, rfl, hs, hb, q⟩ := h
  obtain ⟨its, rv, hl, hz⟩ := I.list hs
  rw [Vals.ref1 r]
  refine callSetL (ns := ns) (I.ok.hd hc) hl.isList (by simpa using rv.ints) hb fun h' tk c R hc' k => ?_
  have hn : H s.heap.objs.size = none := I.hok.fresh (Nat.le_refl _)
  exact ⟨.ref _, upd H s.heap.objs.size (SetO X.w s.heap.objs.size (fun j => decide (j ∈ ns)) c), I.laid (t' := tk) k (Nat.le_refl _) (setO_new R), rfl, q c _ hn⟩
theorem crSortS (hc : X.calm = true) : CallR X (.builtin "sorted") (rSortS X.w) := by
  intro pins s σ H vs us Q I r h
  obtain ⟨a, S, n, rfl, ha, q⟩ := h
  have R := setO_get I ha
  have hsz : n < scanBound := by
    obtain ⟨o, es, ep, t, _, _, _, _, _, _, hb, _, hn, _⟩ := R
    omega
  rw [Vals.ref1 r]
  refine sortedSet R (I.ok.hd hc) fun s' p out c ns k g o hp hg hi hs hm hl => ?_
  have hlen : (ns.map V.int).length ≤ sizeLine := by
    have : scanBound ≤ sizeLine := by decide
    rw [List.length_map]; omega
  have hn : H p = none := I.hok.fresh hp
  have J : Inv X pins σ (upd H p (.lst (ns.map V.int))) { s with heap := s'.heap, gens := s'.gens, drawn := s'.drawn, toks := s'.toks } := I.call (ch := []) (Un.laid k hp hn) (I.hok.laid k hp ⟨hlen, out.toList, c, vals_of_ints hi, hg⟩) (by rw [g]; exact I.bare) (fun _ z => nomatch z)
  have e : s' = { s with heap := s'.heap, gens := s'.gens, drawn := s'.drawn, toks := s'.toks } := by cases s'; cases s; cases o; rfl
  rw [e]
  exact ⟨.ref p, _, J, rfl, q ns p hs hm hl (by rw [List.length_map] at hlen; exact hlen) hn⟩
end
end SC

/-! min of a list of data that are alike: the datum, and the item itself -/
namespace SD
open PySem L2 Evl SB
section
variable {X : Cx}
/-- min(xs) -/
def rMinL (K : PySem.W.Frag) : List V → Hp → VK → Prop := fun vs H Q => ∃ (a : Addr) (xs : List V) (d : PyData) (ds : List PyData), vs = [V.ref a] ∧ SqL K H a xs ∧ DpAll K H xs (d :: ds) ∧ PySem.W.AlikeAll (d :: ds) ∧ PyData.depthAll (d :: ds) < 63 ∧
  ∀ v, v ∈ xs → Dp K H v (PySem.W.minD d ds) → Q v H
theorem cr_minL (hc : X.calm = true) (hu : X.A.units + 64 < cLine) : CallR X (.builtin "min") (rMinL X.K) := by
  intro pins s σ H vs us Q I r h
  obtain ⟨a, xs, d, ds, rfl, hs, hd, hk, hz, q⟩ := h
  obtain ⟨its, rv, hl, _⟩ := I.list hs
  rw [Vals.ref1 r]
  obtain ⟨as, hr⟩ := Dp.readsAll I (d :: ds) xs its hd rv
  refine PySem.W.min_list_data (I.ok.hd hc) hl.isList (by simpa using hr) hk (by omega) fun i v h' tk bs hi hm ho => ?_
  have hi' : its[i]? = some v := by simpa using hi
  obtain ⟨x, hx, rx⟩ : ∃ x, xs[i]? = some x ∧ RelV x v := by
    cases e : xs[i]? with
    | none => have := Vals.none_of rv e; rw [this] at hi'; cases hi'
    | some x =>
      obtain ⟨u, hu', ru⟩ := Vals.get rv e
      rw [hu'] at hi'
      exact ⟨x, rfl, (Option.some.inj hi') ▸ ru⟩
  refine ⟨x, H, I.kept ho, rx, q x (List.mem_of_getElem? hx) ?_⟩
  have hdx := allAt hd hx
  obtain ⟨cs, hrx⟩ := Dp.reads I _ x v hdx rx
  have := (Reads.unique (PySem.W.reads_keeps ho hrx) _ _ hm).1
  rw [← this]; exact hdx
end
open PySem.W in
theorem lea_min (f : Nat → Nat) : ∀ n, minOf (((f 1 : Nat) : Int), (1 : Int)) ((List.range n).map fun i => (((f (i + 2) : Nat) : Int), ((i + 2 : Nat) : Int))) = (((SM.lea f n).1 : Int), ((SM.lea f n).2 : Int))
  | 0 => rfl
  | n + 1 => by
    have ih := lea_min f n
    have ha := SM.lea_at f n
    unfold minOf at ih ⊢
    rw [List.range_succ, List.map_append, List.foldl_append, ih]
    have key : (if ((f (n + 2) : Nat) : Int) = ((SM.lea f n).1 : Int) then decide (((n + 2 : Nat) : Int) < ((SM.lea f n).2 : Int)) else decide (((f (n + 2) : Nat) : Int) < ((SM.lea f n).1 : Int))) = decide (f (n + 2) < (SM.lea f n).1) := by
      by_cases e : f (n + 2) = (SM.lea f n).1
      · rw [if_pos (congrArg _ e), decide_eq_false (by omega), decide_eq_false (by omega)]
      · rw [if_neg (by omega)]
        by_cases c : f (n + 2) < (SM.lea f n).1
        · rw [decide_eq_true (by omega), decide_eq_true c]
        · rw [decide_eq_false (by omega), decide_eq_false c]
    show (if (if ((f (n + 2) : Nat) : Int) = ((SM.lea f n).1 : Int) then decide (((n + 2 : Nat) : Int) < ((SM.lea f n).2 : Int)) else decide (((f (n + 2) : Nat) : Int) < ((SM.lea f n).1 : Int))) = true then (((f (n + 2) : Nat) : Int), ((n + 2 : Nat) : Int)) else (((SM.lea f n).1 : Int), ((SM.lea f n).2 : Int))) = _
    rw [key]
    show _ = ((((if f (n + 2) < (SM.lea f n).1 then (f (n + 2), n + 2) else SM.lea f n) : Nat × Nat).1 : Int), (((if f (n + 2) < (SM.lea f n).1 then (f (n + 2), n + 2) else SM.lea f n) : Nat × Nat).2 : Int))
    by_cases c : f (n + 2) < (SM.lea f n).1
    · rw [decide_eq_true c, if_pos rfl, if_pos c]
    · rw [decide_eq_false c, if_neg (by decide), if_neg c]
def pD (p : Nat × Nat) : PyData := .tuple [.int (p.1 : Int), .int (p.2 : Int)]
theorem pD_toD (a b : Nat) : pD (a, b) = PySem.W.Datum.toD (((a : Int), (b : Int)) : Int × Int) := rfl
theorem minPairs (f : Nat → Nat) (n : Nat) : PySem.W.minD (pD (f 1, 1)) ((List.range n).map fun i => pD (f (i + 2), i + 2)) = pD (SM.lea f n) := by
  have h := PySem.W.minD_map (((f 1 : Nat) : Int), (1 : Int)) ((List.range n).map fun i => (((f (i + 2) : Nat) : Int), ((i + 2 : Nat) : Int)))
  rw [lea_min, List.map_map] at h
  exact h
theorem alikePairs (ps : List (Nat × Nat)) : PySem.W.AlikeAll (ps.map pD) := by
  have h := PySem.W.alikeAll_datum (ps.map fun p => (((p.1 : Int), (p.2 : Int)) : Int × Int))
  rw [List.map_map] at h
  exact h
theorem depPairs : ∀ ps : List (Nat × Nat), PyData.depthAll (ps.map pD) ≤ 1
  | [] => Nat.zero_le _
  | p :: ps => Nat.max_le.mpr ⟨Nat.le_refl _, depPairs ps⟩
end SD

/-! dicts whose keys are tuples of truth values, and whose values are whole numbers -/
namespace SE
open PySem PySem.Spec PyProof.Rows L2
abbrev bK (P : Program) (w : World) : HeapKind P w (List Bool) := tupleKind (PpSet.boolK P w)
abbrev En : Type := List Bool × Addr × Int
abbrev Er (p : En) (q : List Bool × Addr × Value) : Prop := p.1 = q.1 ∧ p.2.1 = q.2.1 ∧ ∃ t, q.2.2 = .int p.2.2 t
def lookB (es : List En) (ks : List Bool) : Option Int := (es.find? fun e => decide (e.1 = ks)).map (·.2.2)
def DBp (P : Program) (w : World) (a : Addr) (es : List En) (h : Heap) : Prop :=
  (a == sysModules) = false ∧ ∃ xs, Paired Er es xs ∧ ∃ o ds ep, h.get? a = some o ∧ o.ExactDict ∧ o.data = .dict ds ep ∧ ds.toList = xs.map (entryOfKey (bK P w)) ∧ (xs.map (·.1)).Nodup
def DBO (P : Program) (w : World) (a : Addr) (es : List En) : HO := .ext (DBp P w a es)
section
variable {P : Program} {w : World} {H : Hp} {h : Heap} {a b : Addr} {es : List En} {ks : List Bool}
theorem dbo_new (R : DBp P w a es h) : ObjOk P w H h a (DBO P w a es) := by
  obtain ⟨hz, xs, pr, o, ds, ep, ho, rest⟩ := id R
  refine ⟨R, ⟨o, ho⟩, fun h1 h2 p k => ?_⟩
  obtain ⟨hz', xs', pr', o', ds', ep', ho', rest'⟩ := p
  exact ⟨hz', xs', pr', o', ds', ep', k _ ho', rest'⟩
theorem bItems : ∀ {ks : List Bool} {us : List Value}, Vals (ks.map V.bl) us → ItemsAre (PpSet.boolK P w) ks us
  | [], _, r => by rw [List.map_nil] at r; cases r; exact .nil
  | k :: ks, _, r => by
    rw [List.map_cons] at r
    cases r with
    | cons h1 h2 =>
      cases (show _ = Value.bool k from h1)
      exact .cons (PpSet.boolK_is P w k) (bItems h2)
theorem bKey (ok : HOk P w H h) (e : H b = some (.tup (ks.map V.bl))) : (bK P w).is h ks b := by
  have z : ObjOk P w H h b (.tup (ks.map V.bl)) := ok b _ e
  obtain ⟨_, its, r, o, j1, j2, m, j3⟩ := z
  exact ⟨o, its.toArray, m, j1, j2, j3, by simpa using bItems r⟩
theorem look_at : ∀ {es : List En} {xs : List (List Bool × Addr × Value)}, Paired Er es xs → ∀ ks, (lookB es ks = none ∧ atKey xs ks = none) ∨ ∃ j t p, lookB es ks = some j ∧ atKey xs ks = some p ∧ p.2 = Value.int j t
  | _, _, .nil, _ => .inl ⟨rfl, rfl⟩
  | e :: es, x :: xs, .cons h t, ks => by
    obtain ⟨h1, h2, t', h3⟩ := h
    by_cases c : e.1 = ks
    · refine .inr ⟨e.2.2, t', x.2, ?_, ?_, h3⟩
      · unfold lookB; rw [List.find?_cons, decide_eq_true c]; rfl
      · unfold atKey; rw [List.find?_cons, decide_eq_true (h1.symm.trans c)]; rfl
    · have c' : ¬ x.1 = ks := fun z => c (h1.trans z)
      have e1 : lookB (e :: es) ks = lookB es ks := by unfold lookB; rw [List.find?_cons, decide_eq_false c]
      have e2 : atKey (x :: xs) ks = atKey xs ks := by unfold atKey; rw [List.find?_cons, decide_eq_false c']
      rw [e1, e2]
      exact look_at t ks
theorem pair_len : ∀ {es : List En} {xs : List (List Bool × Addr × Value)}, Paired Er es xs → xs.length = es.length
  | _, _, .nil => rfl
  | _ :: _, _ :: _, .cons _ t => by rw [List.length_cons, List.length_cons, pair_len t]
theorem pair_mem : ∀ {es : List En} {xs : List (List Bool × Addr × Value)}, Paired Er es xs → ∀ x ∈ xs, ∃ e ∈ es, Er e x
  | _, _, .nil, _, h => by simp at h
  | e :: _, _ :: _, .cons h t, x, hx => by
    rcases List.mem_cons.mp hx with z | z
    · subst z; exact ⟨e, List.mem_cons_self, h⟩
    · obtain ⟨e', m, r⟩ := pair_mem t x z
      exact ⟨e', List.mem_cons_of_mem _ m, r⟩
/-- its entries' keys stand in H -/
def Keys (H : Hp) (es : List En) : Prop := ∀ e ∈ es, H e.2.1 = some (.tup (e.1.map V.bl))
theorem dbo_dict (ok : HOk P w H h) (e : H a = some (DBO P w a es)) (hk : Keys H es) : (a == sysModules) = false ∧ ∃ xs, Paired Er es xs ∧ h.DictOfH (bK P w) a xs := by
  obtain ⟨⟨hz, xs, pr, o, ds, ep, j1, j2, j3, j4, j5⟩, _⟩ := (show ObjOk P w H h a (DBO P w a es) from ok a _ e)
  refine ⟨hz, xs, pr, o, ds, ep, j1, j2, j3, j4, fun x hx => ?_, j5⟩
  obtain ⟨e, he, r1, r2, _⟩ := pair_mem pr x hx
  have := hk e he
  rw [r1, r2] at this
  exact bKey ok this
theorem dbo_make {xs : List (List Bool × Addr × Value)} (hz : (a == sysModules) = false) (pr : Paired Er es xs) (d : h.DictOfH (bK P w) a xs) : ObjOk P w H h a (DBO P w a es) := by
  obtain ⟨o, ds, ep, j1, j2, j3, j4, _, j5⟩ := d
  exact dbo_new ⟨hz, xs, pr, o, ds, ep, j1, j2, j3, j4, j5⟩
end
section
variable {X : Cx} {pos : Pos}
/-- {} -/
def tNewB (P : Program) (w : World) : TE := fun _ H Q => ∀ p, H p = none → Q (.ref p) (upd H p (DBO P w p []))
theorem pe_newB : PE X (.Dict [] [] pos) (tNewB X.prog X.w) := by
  refine ⟨fun pins s σ H Q I h => wpAny_Dict_empty ?_⟩
  have ok : ObjOk X.prog X.w (upd H s.heap.objs.size (DBO X.prog X.w s.heap.objs.size [])) (s.heap.push { cls := .type "dict", data := .dict #[] }) s.heap.objs.size (DBO X.prog X.w s.heap.objs.size []) :=
    dbo_make (beq_eq_false_iff_ne.mpr (Ne.symm (Nat.ne_of_lt I.big))) .nil (Heap.DictOfH.new s.heap)
  exact ⟨.ref s.heap.objs.size, _, I.laid (t' := s.toks) (fun _ _ q => Heap.get?_push_of_some _ q) (Nat.le_refl _) ok, rfl, h _ (I.hok.fresh (Nat.le_refl _))⟩
/-- len(d) -/
def rLenB (P : Program) (w : World) : List V → Hp → VK → Prop := fun xs H Q => ∃ a es, xs = [V.ref a] ∧ H a = some (DBO P w a es) ∧ Keys H es ∧ es.length ≤ 1000 ∧ Q (.int es.length) H
theorem cr_lenB : CallR X (.builtin "len") (rLenB X.prog X.w) := by
  intro pins s σ H vs us Q I r h
  obtain ⟨a, es, rfl, ha, hk, hl, q⟩ := h
  rw [Vals.ref1 r]
  obtain ⟨hz, xs, pr, d⟩ := dbo_dict I.hok ha hk
  have e := pair_len pr
  refine call_len_dictH hz d (by omega) ?_
  rw [e]
  exact ⟨.int es.length, H, I.tok _, ⟨_, rfl⟩, q⟩
/-- d.setdefault(k, i) -/
def tSetB (P : Program) (w : World) (td ty tx : TE) : TE := fun σ H Q => td σ H fun x H1 => ∃ a es, x = .ref a ∧ H1 a = some (DBO P w a es) ∧ Keys H1 es ∧ ty σ H1 fun y H2 => tx σ H2 fun z H3 =>
  ∃ ks b i, y = .ref b ∧ z = .int i ∧ H3 b = some (.tup (ks.map V.bl)) ∧ H3 a = some (DBO P w a es) ∧ Keys H3 es ∧ es.length ≤ 1000 ∧ (∀ j, lookB es ks = some j → Q (.int j) H3) ∧ (lookB es ks = none → Q (.int i) (upd H3 a (DBO P w a (es ++ [(ks, b, i)]))))
theorem pair_app : ∀ {es : List En} {xs : List (List Bool × Addr × Value)} {e : En} {x : List Bool × Addr × Value}, Paired Er es xs → Er e x → Paired Er (es ++ [e]) (xs ++ [x])
  | _, _, _, _, .nil, r => .cons r .nil
  | _ :: _, _ :: _, _, _, .cons h t, r => .cons h (pair_app t r)
theorem pe_setB {o e f : Expr} {td ty tx : TE} {ap cp : Pos} (hu : X.A.units + 1 < cLine) (ho : PE X o td) (he : PE X e ty) (hf : PE X f tx) (m : M2 X o "setdefault" ap e f cp) : PE X (.Call (.Attribute o "setdefault" ap) [e, f] [] cp) (tSetB X.prog X.w td ty tx) := by
  refine ⟨fun pins s σ H Q I h => wpAny_Call_method m.base m.few m.line PySem.F.plainAttrs_dict PySem.F.slot_dict_setdefault PySem.F.type_dict_setdefault ?_⟩
  refine thn (ho.run pins s σ H _ I h) fun ov s1 ⟨x, H1, I1, rx, a, es, ex, ha1, hk1, q1⟩ => ?_
  subst ex
  obtain rfl : ov = Value.ref a := rx
  obtain ⟨_, _, _, d1⟩ := dbo_dict I1.hok ha1 hk1
  refine ⟨d1.typeIs, fun c ec => ?_, ?_⟩
  · cases ec
    obtain ⟨ob, _, _, j1, j2, _⟩ := d1
    exact ⟨ob, j1, j2.2.1⟩
  · rw [m.trees]
    refine Calls.callWith_builtin rfl (Calls.evalArgs_plain (Calls.spliced_cons ?_))
    refine thn (he.run pins s1 σ H1 _ I1 q1) fun kv s2 ⟨y, H2, I2, ry, q2⟩ => Calls.spliced_cons ?_
    refine thn (hf.run pins s2 σ H2 _ I2 q2) fun fv s3 ⟨z, H3, I3, rz, ks, b, i, ey, ez, hb, ha, hk, hl, k1, k2⟩ => Calls.spliced_nil ?_
    subst ey ez
    cases (show kv = Value.ref b from ry)
    obtain ⟨t, rfl⟩ := rz
    obtain ⟨hz, xs, pr, d⟩ := dbo_dict I3.hok ha hk
    have el := pair_len pr
    refine call_setdefault_heap (knd := bK X.prog X.w) (k := ks) (tupleKind_room_in1 hu) (bKey I3.hok hb) hz d (fun p hp => ?_) (fun hn h' d' sb => ?_) (Nat.le_trans (by omega) (show 1000 ≤ sizeLine by decide))
    · rcases look_at pr ks with ⟨_, c⟩ | ⟨j, t', p', c1, c2, c3⟩
      · rw [c] at hp; cases hp
      · rw [hp] at c2
        cases c2
        exact ⟨.int j, H3, I3.tok _, ⟨t', c3⟩, k1 j c1⟩
    · have cn : lookB es ks = none := by
        rcases look_at pr ks with ⟨c, _⟩ | ⟨j, t', p', _, c2, _⟩
        · exact c
        · rw [hn] at c2; cases c2
      rw [storedH_new hn] at d'
      have ok : ObjOk X.prog X.w (upd H3 a (DBO X.prog X.w a (es ++ [(ks, b, i)]))) h' a (DBO X.prog X.w a (es ++ [(ks, b, i)])) := dbo_make hz (pair_app pr ⟨rfl, rfl, t, rfl⟩) d'
      have ex : ∃ u, h'.get? a = some u := by
        obtain ⟨u, _, _, j, _⟩ := d'
        exact ⟨u, j⟩
      exact ⟨.int i, _, I3.write (e := a) (by rw [ha]; trivial) (.inl rfl) (fun c u hc hu' => (sb.2 c hc).trans hu') ex ok, ⟨t, rfl⟩, k2 cn⟩
end
end SE

/-! {e for t in xs if ..}, e a whole number -/
namespace SF
open PySem PySem.Spec PyProof.Rows L2
abbrev oS (w : World) (D : Addr) (S : Int → Bool) (n : Nat) : HO := SetO w D S n
/-- what becomes of the set at D by one more -/
abbrev more (S : Int → Bool) (c : Int) : Int → Bool := fun j => S j || decide (j = c)
/-- one turn: the target, the tests, the item laid -/
def Turn (w : World) (D : Addr) (g : TG) (tt : TT) (te : TE) (τ : L2.St) (vs : List Nat) (Nx : Hp → Prop) (x : V) (G : Hp) : Prop :=
  g x τ G fun τ2 G2 => wipe τ2 vs = τ ∧ tt τ2 G2 fun b G3 => if b = true then te τ2 G3 fun y G4 => ∃ (c : Int) (S : Int → Bool) (n : Nat), y = .int c ∧ G4 D = some (oS w D S n) ∧ n + 1 < scanBound ∧ Nx (upd G4 D (oS w D (more S c) (if S c = true then n else n + 1))) else Nx G3
def tSi (w : World) (wi : TI) (g : TG) (tt : TT) (te : TE) (vs : List Nat) : TE := fun σ H Q => wi σ H fun J G => ∀ D, G D = none → ∃ W : Nat → Nat → Hp → Prop, (∃ m, W 0 m (upd G D (oS w D (fun _ => false) 0))) ∧
  ∀ i m G', W i m G' → (J.stop i G' ∧ Q (.ref D) G') ∨ (J.go i G' ∧ ∃ Nx : Hp → Prop, (∀ G2, Nx G2 → ∃ m', m' < m ∧ W (i + 1) m' G2) ∧ ∀ x G2, J.yld i G' x G2 → Turn w D g tt te (wipe σ vs) vs Nx x G2)
section
variable {X : Cx}
theorem newS {pins : List (Addr × Obj)} {σ : L2.St} {H : Hp} {s : Shared} (I : Inv X pins σ H s) : Inv X pins σ (upd H s.heap.objs.size (oS X.w s.heap.objs.size (fun _ => false) 0)) { s with heap := s.heap.push (SC.nS X.w) } :=
  I.laid (t' := s.toks) (fun _ _ e => Heap.get?_push_of_some _ e) (Nat.le_refl _) (setO_new (setR_fresh X.w))
theorem pe_si {elt tg iter : Expr} {ifs : List Expr} {scope : Scope} {own : List (PySem.Str × Nat)} {pos : Pos} {wi : TI} {g : TG} {tt : TT} {te : TE} (cm : X.calm = true) (nd : X.N.Nodup) (walk : PI X tg iter wi) (bo : BlkOk X.N X.env.scope scope own)
    (rg : ∀ s H C cl fp, PG (X.blk s H scope (compEnvC scope cl C X.env) fp) tg g)
    (rt : ∀ s H C cl fp, PTs (X.blk s H scope (compEnvC scope cl C X.env) fp) ifs tt)
    (re : ∀ s H C cl fp, PE (X.blk s H scope (compEnvC scope cl C X.env) fp) elt te)
    (fold : ∀ x, foldedSetIterable iter X.env x = pure x := by intro _; rfl) : PE X (.SetComp elt [⟨tg, iter, ifs, 0⟩] scope pos) (tSi X.w wi g tt te (own.map (·.2))) := by
  refine ⟨fun pins s σ H Q I h => ?_⟩
  rw [PpSet.eval_SetComp]
  have fr : ∀ y ∈ scope.names, y.2 = .free → ∃ c, X.env.cells.lookup y.1 = some c := fun y hy e => (bo.free y hy e).elim (fun k => I.ok.has _ (.inl k)) (fun k => I.ok.has _ (.inr k))
  refine wpAny_comprehension_free rfl fold (closure_ok fr) bo.kind (fun y hy e => (bo.uniq y hy).trans (by rw [e])) ?_
  refine thn (walk.run pins s σ H _ I h) fun xv s1 hx => thn hx fun itv s2 ⟨it, fp, tn, J, G2, e, I2, T, st2, f2, q⟩ => ?_
  subst e
  refine PpSet.newSet_ok (newEnv_comp ?_)
  have IS := newS I2
  obtain ⟨D, hD⟩ : ∃ D, s2.heap.objs.size = D := ⟨_, rfl⟩
  have fD : G2 D = none := I2.hok.fresh (Nat.le_of_eq hD)
  obtain ⟨W, ⟨m0, w0⟩, turn⟩ := q D fD
  rw [hD] at IS ⊢
  obtain ⟨s3, h3⟩ : ∃ s3 : Shared, ({ s2 with heap := s2.heap.push (SC.nS X.w) } : Shared) = s3 := ⟨_, rfl⟩
  have h3h : s3.heap = s2.heap.push (SC.nS X.w) := by rw [← h3]
  rw [h3] at IS
  have ltF : ∀ b ∈ fp, b < s2.heap.objs.size := fun b hb => let ⟨_, e, _⟩ := T.obj _ _ st2 b hb; Heap.lt_size e
  have okF : ∀ b ∈ fp, FpOk X pins (upd G2 D (oS X.w D (fun _ => false) 0)) b ∧ b < s3.heap.objs.size := fun b hb => by
    have lt := ltF b hb
    have ne : b ≠ D := by rw [← hD]; exact Nat.ne_of_lt lt
    exact ⟨⟨by rw [upd_ne ne]; exact (f2 b hb).1, (f2 b hb).2⟩, by rw [h3h, Heap.size_push]; exact Nat.lt_succ_of_lt lt⟩
  have st3 : tn 0 s3.heap := T.keep _ _ _ st2 fun b _ o e => by rw [h3h]; exact Heap.get?_push_of_some _ e
  have I4 := block_start IS bo nd okF
  obtain ⟨cl, hcl⟩ : ∃ cl, cellsFrom (s3.heap.objs.size + 1) scope.names (cloFrom X.env.cells scope.names []) = cl := ⟨_, rfl⟩
  obtain ⟨G3, hG3⟩ : ∃ G3, upd G2 D (oS X.w D (fun _ => false) 0) = G3 := ⟨_, rfl⟩
  obtain ⟨C, hC⟩ : ∃ C, s3.heap.objs.size = C := ⟨_, rfl⟩
  obtain ⟨ce, hce⟩ : ∃ ce, compEnvC scope cl C X.env = ce := ⟨_, rfl⟩
  have pg := rg s3 G3 C cl fp
  have pt := rt s3 G3 C cl fp
  have pe := re s3 G3 C cl fp
  have cL : ce.locals = C := by rw [← hce]; rfl
  rw [hce] at pg pt pe
  rw [hG3] at IS okF I4 w0
  have I4' : Inv (X.blk s3 G3 scope ce fp) [] (wipe σ (own.map (·.2))) G3 { s3 with heap := pushCells (s3.heap.push { cls := .type "dict", data := .dict #[] }) scope.names } := by
    rw [← hce, ← hcl, ← hC]; exact I4
  obtain ⟨s4, h4⟩ : ∃ s4 : Shared, ({ s3 with heap := pushCells (s3.heap.push { cls := .type "dict", data := .dict #[] }) scope.names } : Shared) = s4 := ⟨_, rfl⟩
  rw [h4] at I4'
  have st4 : tn 0 s4.heap := T.keep _ _ _ st3 fun b _ o e => by rw [← h4]; exact pushCells_keeps _ _ _ _ (Heap.get?_push_of_some _ e)
  have still : ∀ {τ : L2.St} {G : Hp} {z : Shared}, Inv (X.blk s3 G3 scope ce fp) [] τ G z → (∀ b ∈ fp, G b = none) → ∀ b ∈ fp, FpOk (X.blk s3 G3 scope ce fp) [] G b := fun {τ G z} J0 hn b hb =>
    ⟨hn b hb, (J0.ok.exf b hb).1, J0.ok.exfs b hb, .inl hb, fun x c e => (J0.ok.exf b hb).2 x c e, fun p hp => by cases hp⟩
  have done : ∀ (s' : Shared) (m : PySem.Str → Option Value) (G : Hp), Inv X pins σ G s' → Q (.ref D) G → s'.heap.Ns C m → FpOk X pins G C → compPost (model X.prog X.w) X.A X.xe none (EP X pins σ Q) (.ref D) C (.ok .next) s' := fun s' m G J1 qq hn f => by
    refine ⟨m, hn, fun h'' sb => ?_⟩
    obtain ⟨u0, u1, u2, u3, u4, u5⟩ := f
    exact ⟨.ref D, G, J1.turned (t' := s'.toks) (fun b o hb e => (sb.2 b hb).trans e) u0 u1 u3 u4 u5, rfl, qq⟩
  have loop : codeAny (model X.prog X.w) X.A (.compLoop (.SetComp elt [⟨tg, iter, ifs, 0⟩] scope pos) 0 (.ref it) (.ref D) ce) (compPost (model X.prog X.w) X.A X.xe none (EP X pins σ Q) (.ref D) C) s4 := by
    refine PpSet.compLoopS_any (fun n z => ∃ i G, Inv (X.blk s3 G3 scope ce fp) [] (wipe σ (own.map (·.2))) G z ∧ tn i z.heap ∧ (∀ b ∈ fp, G b = none) ∧ W i n G) ?_ m0 ⟨0, G3, I4', st4, fun b hb => (okF b hb).1.1, w0⟩
    rintro n z5 ⟨i, G5, I5, st5, n5, w5⟩
    rcases turn i n G5 w5 with ⟨stop, qq⟩ | ⟨go, Nx, hNx, step⟩
    · refine thnF (T.done (X.blk s3 G3 scope ce fp) rfl rfl rfl cm i [] z5 _ G5 (fun _ _ => False) I5 (still I5 n5) st5 stop) fun r z6 ⟨hr, I6⟩ => ?_
      subst hr
      have J1 : Inv X pins σ G5 z6 := IS.call' (ch := fp) I6.os I6.base I6.hok I6.bare fun b hb => let k := (okF b hb).1.2; ⟨k.2.2.1, k.1, k.2.2.2.1, k.2.2.2.2⟩
      have nC : G5 C = none := by
        have y : G5 ce.locals = none := I6.free
        rwa [cL] at y
      obtain ⟨m, hn, _⟩ := I6.loc
      have hn' : z6.heap.Ns C m := by
        have y : z6.heap.Ns ce.locals m := hn
        rwa [cL] at y
      exact done z6 m G5 J1 qq hn' (IS.fpOk (Nat.le_of_eq hC) nC)
    · refine thnF (T.item (X.blk s3 G3 scope ce fp) rfl rfl rfl cm i [] z5 _ G5 (fun _ _ => False) I5 (still I5 n5) st5 go) fun r z6 ⟨u, hr, k6⟩ => ?_
      subst hr
      refine thnF k6 fun _ z7 ⟨x, G7, I7, r7, y7, st7, n7⟩ => ?_
      have I7' := I7.pinned (still I7 n7) (T.obj _ _ st7)
      refine thnF (pg.run _ z7 _ G7 x u _ I7' r7 (step x G7 y7)) fun _ z8 ⟨τ8, G8, I8, w8, q8⟩ => ?_
      refine thnF (pt.run _ z8 τ8 G8 _ I8 q8) fun b z9 ⟨G9, I9, q9⟩ => ?_
      have fin : ∀ {z' : Shared} {G' : Hp}, Inv (X.blk s3 G3 scope ce fp) ([] ++ pinsAt fp z7.heap) τ8 G' z' → Nx G' → ∃ m, m < n ∧ ∃ i G'', Inv (X.blk s3 G3 scope ce fp) [] (wipe σ (own.map (·.2))) G'' z' ∧ tn i z'.heap ∧ (∀ b ∈ fp, G'' b = none) ∧ W i m G'' := fun {z' G'} J' nx => by
        obtain ⟨m', lt', w'⟩ := hNx G' nx
        have pinned : ∀ b ∈ fp, ∀ o, z7.heap.get? b = some o → z'.heap.get? b = some o ∧ G' b = none := fun b hb o e =>
          let k := J'.pin (b, o) (List.mem_append_right _ (List.mem_append_right _ (mem_pinsAt hb e))); ⟨k.1, k.2.1⟩
        have len : (wipe σ (own.map (·.2))).length = τ8.length := by rw [← w8, wipe_length]
        refine ⟨m', lt', i + 1, G', (J'.unpinned (pins := [])).weak len (fun j v e => by rw [← w8] at e; exact (wipe_some e).1), T.keep _ _ _ st7 fun b hb o e => (pinned b hb o e).1, fun b hb => ?_, w'⟩
        obtain ⟨o, e, _⟩ := T.obj _ _ st7 b hb
        exact (pinned b hb o e).2
      cases b with
      | false => exact fin I9 q9
      | true =>
        refine thnF (pe.run _ z9 τ8 G9 _ I9 q9) fun v z10 ⟨yv, G10, I10, r10, c, S, n0, ey, hS, room, nx⟩ => ?_
        subst ey
        obtain ⟨tk, rfl⟩ := r10
        have R := setO_get (X := X.blk s3 G3 scope ce fp) I10 hS
        refine setR_add R room fun h' sb new => fin ?_ nx
        have ex : ∃ u, h'.get? D = some u := let ⟨o, _, _, _, ho, _⟩ := new; ⟨o, ho⟩
        exact I10.write (e := D) (t' := z10.toks + 1) (by rw [hS]; trivial) (.inl rfl) (fun b u hb hu => (sb.2 b hb).trans hu) ex (setO_new new)
  have fini := PpSet.codeAny_compStart_set (env := ce) loop (T.self X.A 0 _ _ _ st4 loop)
  rw [← h4, ← hce, ← hcl, ← h3, ← hC, ← h3] at fini
  first
    | exact fini
    | (rw [← hC, ← h3] at fini; exact fini)
end
end SF

/-! texts of sets, by lists of signs -/
namespace ST
open PySem L2 SM
def mk (l : List Nat) : Str := ⟨l.toArray⟩
theorem tl_mk (l : List Nat) : TL.tl (mk l) = l := rfl
theorem mk_len (l : List Nat) : (mk l).length = l.length := by rw [TL.len_tl]; rfl
theorem mk_inj {a b : List Nat} (h : mk a = mk b) : a = b := by
  have := congrArg TL.tl h
  exact this
theorem mk_app (a b : List Nat) : mk a ++ mk b = mk (a ++ b) := TL.ext_tl (by rw [TL.tl_append]; rfl)
def num (k : Nat) : List Nat := if k < 10 then [48 + k] else [48 + k / 10, 48 + k % 10]
theorem num_str : ∀ k : Fin 100, PySem.Str.ofString (toString ((k.val : Nat) : Int)) = mk (num k.val) := by decide +kernel
theorem toStr {k : Nat} (h : k < 100) : PySem.Str.ofString (toString ((k : Nat) : Int)) = mk (num k) := num_str ⟨k, h⟩
theorem num_len (k : Nat) : (num k).length ≤ 2 ∧ 1 ≤ (num k).length := by
  unfold num
  by_cases h : k < 10
  · rw [if_pos h]; exact ⟨by show 1 ≤ 2; decide, by show 1 ≤ 1; decide⟩
  · rw [if_neg h]; exact ⟨by show 2 ≤ 2; decide, by show 1 ≤ 2; decide⟩
theorem num_dig {k : Nat} (h : k < 100) : ∀ c ∈ num k, 48 ≤ c ∧ c ≤ 57 := by
  unfold num
  intro c hc
  by_cases h1 : k < 10
  · rw [if_pos h1] at hc
    have := List.mem_singleton.mp hc
    omega
  · rw [if_neg h1] at hc
    rcases List.mem_cons.mp hc with e | e
    · omega
    · have := List.mem_singleton.mp e
      omega
theorem num_inj : ∀ a b : Fin 100, num a.val = num b.val → a = b := by decide +kernel
theorem num_eq {a b : Nat} (ha : a < 100) (hb : b < 100) (h : num a = num b) : a = b := congrArg Fin.val (num_inj ⟨a, ha⟩ ⟨b, hb⟩ h)
def itemT (r : Nat × Nat) : List Nat := if r.1 = r.2 then num r.1 else if r.1 + 1 = r.2 then num r.1 ++ 44 :: num r.2 else num r.1 ++ 45 :: num r.2
def itemsT (rs : List (Nat × Nat)) : List Nat := TL.joinL [44] (rs.map itemT)
def wrt (n : Nat) (m : Nat → Bool) : List Nat := if (94 :: itemsT (told (fun k => !m k) n)).length < (itemsT (told m n)).length then 94 :: itemsT (told (fun k => !m k) n) else itemsT (told m n)
theorem itemT_len (r : Nat × Nat) : (itemT r).length ≤ 5 := by
  have a := num_len r.1
  have b := num_len r.2
  unfold itemT
  split
  · omega
  · split
    · rw [List.length_append, List.length_cons]; omega
    · rw [List.length_append, List.length_cons]; omega
theorem joinL_len (S : List Nat) : ∀ ps : List (List Nat), (∀ p ∈ ps, p.length ≤ 5) → (TL.joinL S ps).length ≤ ps.length * (5 + S.length)
  | [], _ => Nat.zero_le _
  | [p], h => by
    have := h p List.mem_cons_self
    show p.length ≤ 1 * _
    omega
  | p :: q :: r, h => by
    have ih := joinL_len S (q :: r) fun x hx => h x (List.mem_cons_of_mem _ hx)
    have := h p List.mem_cons_self
    show (p ++ (S ++ TL.joinL S (q :: r))).length ≤ _
    rw [List.length_append, List.length_append, List.length_cons, Nat.succ_mul]
    omega
theorem itemsT_len {rs : List (Nat × Nat)} (h : rs.length ≤ 64) : (itemsT rs).length ≤ 384 := by
  have := joinL_len [44] (rs.map itemT) fun p hp => by
    obtain ⟨r, _, rfl⟩ := List.mem_map.mp hp
    exact itemT_len r
  rw [List.length_map] at this
  unfold itemsT
  have h2 : rs.length * (5 + [44].length) ≤ 64 * 6 := Nat.mul_le_mul_right _ h
  omega
theorem join_mk (S : List Nat) (ps : List (List Nat)) : Txt.join (mk S) (ps.map mk) = mk (TL.joinL S ps) := by
  refine TL.ext_tl ?_
  rw [TL.join_eq, TL.tl_join, List.map_map, tl_mk, tl_mk]
  refine congrArg _ ?_
  rw [show (TL.tl ∘ mk) = id from rfl, List.map_id]
end ST

/-! reading texts of sets -/
namespace ST
open PySem L2 SM
/-- the sign of some figures -/
def val (n : Nat) (a : List Nat) : Option Nat := (List.range n).find? fun k => num k == a
theorem val_some {n k : Nat} {a : List Nat} (h : val n a = some k) : k < n ∧ num k = a := by
  have h1 := List.find?_some h
  have h2 := List.mem_of_find?_eq_some h
  exact ⟨List.mem_range.mp h2, eq_of_beq h1⟩
theorem val_num {n k : Nat} (hk : k < n) (hn : n ≤ 100) : val n (num k) = some k := by
  cases h : val n (num k) with
  | none =>
    have := List.find?_eq_none.mp h k (List.mem_range.mpr hk)
    simp at this
  | some j =>
    obtain ⟨h1, h2⟩ := val_some h
    rw [num_eq (by omega) (by omega) h2]
theorem val_none {n : Nat} {a : List Nat} (h : val n a = none) : ∀ k, k < n → num k ≠ a := fun k hk e => by
  have := List.find?_eq_none.mp h k (List.mem_range.mpr hk)
  rw [e] at this
  simp at this
/-- an item -/
def rdI (n : Nat) (w : List Nat) : Option (Nat × Nat) := match TL.par [45] [] w with
  | none => (val n w).map fun x => (x, x)
  | some (a, b) => match val n a, val n b with
    | some x, some y => if x < y then some (x, y) else none
    | _, _ => none
theorem rdI_le {n : Nat} {w : List Nat} {r : Nat × Nat} (h : rdI n w = some r) : r.1 ≤ r.2 ∧ r.2 < n := by
  unfold rdI at h
  cases e : TL.par [45] [] w with
  | none =>
    rw [e] at h
    obtain ⟨x, hx, rfl⟩ := Option.map_eq_some_iff.mp h
    exact ⟨Nat.le_refl _, (val_some hx).1⟩
  | some p =>
    obtain ⟨a, b⟩ := p
    rw [e] at h
    simp only at h
    cases ha : val n a with
    | none => rw [ha] at h; cases h
    | some x =>
      cases hb : val n b with
      | none => rw [ha, hb] at h; cases h
      | some y =>
        rw [ha, hb] at h
        simp only at h
        by_cases c : x < y
        · rw [if_pos c] at h
          cases h
          exact ⟨Nat.le_of_lt c, (val_some hb).1⟩
        · rw [if_neg c] at h; cases h
/-- the items from place p on, none of them beginning below lo: the first that cannot stand there, or the ranges -/
def rdG (n : Nat) : Nat → Nat → List (List Nat) → Nat ⊕ List (Nat × Nat)
  | _, _, [] => .inr []
  | p, lo, w :: ws => match rdI n w with
    | none => .inl p
    | some r => if r.1 < lo then .inl p else match rdG n (p + 1) (r.2 + 1) ws with
      | .inl q => .inl q
      | .inr rs => .inr (r :: rs)
def isN (t : List Nat) : Bool := match t with
  | 94 :: _ => true
  | _ => false
def rest (t : List Nat) : List Nat := if isN t = true then t.tail else t
def itm (t : List Nat) : List (List Nat) := if rest t = [] then [] else TL.spl [44] 0 [] (rest t)
def rdT (n : Nat) (t : List Nat) : Nat ⊕ List (Nat × Nat) := rdG n 0 0 (itm t)
theorem rdG_ok {n : Nat} : ∀ {ws : List (List Nat)} {p lo : Nat} {rs : List (Nat × Nat)}, rdG n p lo ws = .inr rs → (∀ r ∈ rs, r.1 ≤ r.2 ∧ r.2 < n ∧ lo ≤ r.1) ∧ rs.length = ws.length ∧ rs.length ≤ n - lo
  | [], _, _, _, h => by cases h; exact ⟨fun _ h => absurd h List.not_mem_nil, rfl, Nat.zero_le _⟩
  | w :: ws, p, lo, rs, h => by
    unfold rdG at h
    cases e : rdI n w with
    | none => rw [e] at h; cases h
    | some r =>
      rw [e] at h
      simp only at h
      by_cases c : r.1 < lo
      · rw [if_pos c] at h; cases h
      · rw [if_neg c] at h
        cases e2 : rdG n (p + 1) (r.2 + 1) ws with
        | inl q => rw [e2] at h; cases h
        | inr rs' =>
          rw [e2] at h
          cases h
          have ih := rdG_ok e2
          have hr := rdI_le e
          refine ⟨fun z hz => ?_, by rw [List.length_cons, List.length_cons, ih.2.1], ?_⟩
          · rcases List.mem_cons.mp hz with x | x
            · subst x; exact ⟨hr.1, hr.2, by omega⟩
            · have := ih.1 z x; exact ⟨this.1, this.2.1, by omega⟩
          · rw [List.length_cons]
            have := ih.2.2
            omega
/-! ### what is written is read -/
def wrd (r : Nat × Nat) : List (List Nat) := if r.1 = r.2 then [num r.1] else if r.1 + 1 = r.2 then [num r.1, num r.2] else [num r.1 ++ 45 :: num r.2]
def rng (r : Nat × Nat) : List (Nat × Nat) := if r.1 = r.2 then [(r.1, r.1)] else if r.1 + 1 = r.2 then [(r.1, r.1), (r.2, r.2)] else [r]
theorem wrd_item (r : Nat × Nat) : itemT r = TL.joinL [44] (wrd r) := by
  unfold itemT wrd
  by_cases a : r.1 = r.2
  · rw [if_pos a, if_pos a]; rfl
  · rw [if_neg a, if_neg a]
    by_cases b : r.1 + 1 = r.2
    · rw [if_pos b, if_pos b]; rfl
    · rw [if_neg b, if_neg b]; rfl
theorem wrd_ne (r : Nat × Nat) : wrd r ≠ [] := by
  unfold wrd
  split
  · simp
  · split <;> simp
theorem joinL_app (S : List Nat) : ∀ {a b : List (List Nat)}, a ≠ [] → b ≠ [] → TL.joinL S (a ++ b) = TL.joinL S a ++ (S ++ TL.joinL S b)
  | [], _, h, _ => absurd rfl h
  | [p], q :: r, _, _ => rfl
  | [p], [], _, h => absurd rfl h
  | p :: q :: a, b, _, h => by
    have ih := joinL_app S (a := q :: a) (b := b) (by simp) h
    show p ++ (S ++ TL.joinL S ((q :: a) ++ b)) = (p ++ (S ++ TL.joinL S (q :: a))) ++ (S ++ TL.joinL S b)
    rw [ih]; simp [List.append_assoc]
theorem joinL_flat (S : List Nat) (f : Nat × Nat → List (List Nat)) (hf : ∀ r, f r ≠ []) : ∀ rs : List (Nat × Nat), TL.joinL S (rs.map fun r => TL.joinL S (f r)) = TL.joinL S (rs.flatMap f)
  | [] => rfl
  | [r] => by simp [TL.joinL]
  | r :: q :: rs => by
    have ih := joinL_flat S f hf (q :: rs)
    rw [List.flatMap_cons, joinL_app S (hf r) (by rw [List.flatMap_cons]; intro z; exact hf q (List.append_eq_nil_iff.mp z).1), ← ih]
    rfl
theorem items_words (rs : List (Nat × Nat)) : itemsT rs = TL.joinL [44] (rs.flatMap wrd) := by
  unfold itemsT
  rw [show rs.map itemT = rs.map fun r => TL.joinL [44] (wrd r) from List.map_congr_left fun r _ => wrd_item r, joinL_flat [44] wrd wrd_ne]
theorem no_sign {k c : Nat} (h : k < 100) (hc : c < 48 ∨ 57 < c) : c ∉ num k := fun z => by
  have := num_dig h c z
  omega
theorem wrd_free {r : Nat × Nat} (h : r.1 < 100 ∧ r.2 < 100) : ∀ w ∈ wrd r, 44 ∉ w ∧ w ≠ [] ∧ (∀ c, c ∈ w → c < 94) := by
  have n1 : ∀ k, num k ≠ [] := fun k e => by have := (num_len k).2; rw [e] at this; exact absurd this (by decide)
  have dig : ∀ k, k < 100 → 44 ∉ num k ∧ num k ≠ [] ∧ (∀ c, c ∈ num k → c < 94) := fun k hk => ⟨no_sign hk (.inl (by decide)), n1 k, fun c hc => by have := num_dig hk c hc; omega⟩
  intro w hw
  unfold wrd at hw
  by_cases a : r.1 = r.2
  · rw [if_pos a] at hw
    rw [List.mem_singleton.mp hw]; exact dig _ h.1
  · rw [if_neg a] at hw
    by_cases b : r.1 + 1 = r.2
    · rw [if_pos b] at hw
      rcases List.mem_cons.mp hw with e | e
      · rw [e]; exact dig _ h.1
      · rw [List.mem_singleton.mp e]; exact dig _ h.2
    · rw [if_neg b] at hw
      rw [List.mem_singleton.mp hw]
      refine ⟨fun z => ?_, by simp, fun c hc => ?_⟩
      · rcases List.mem_append.mp z with e | e
        · exact (dig _ h.1).1 e
        · rcases List.mem_cons.mp e with e | e
          · exact absurd e (by decide)
          · exact (dig _ h.2).1 e
      · rcases List.mem_append.mp hc with e | e
        · exact (dig _ h.1).2.2 c e
        · rcases List.mem_cons.mp e with e | e
          · omega
          · exact (dig _ h.2).2.2 c e
theorem rdI_num {n k : Nat} (hk : k < n) (hn : n ≤ 64) : rdI n (num k) = some (k, k) := by
  unfold rdI
  rw [TL.par_none1 (no_sign (by omega) (.inl (by decide)))]
  simp only
  rw [val_num hk (by omega)]; rfl
theorem rdI_two {n a b : Nat} (hab : a < b) (hb : b < n) (hn : n ≤ 64) : rdI n (num a ++ 45 :: num b) = some (a, b) := by
  unfold rdI
  rw [show num a ++ 45 :: num b = num a ++ ([45] ++ num b) from rfl, TL.par_part1 (no_sign (by omega) (.inl (by decide)))]
  simp only [List.nil_append]
  rw [val_num (by omega) (by omega), val_num hb (by omega)]
  simp only
  rw [if_pos hab]
theorem rdG_cons {n p lo : Nat} {w : List Nat} {ws : List (List Nat)} {r : Nat × Nat} {rs : List (Nat × Nat)} (h1 : rdI n w = some r) (h2 : lo ≤ r.1) (h3 : rdG n (p + 1) (r.2 + 1) ws = .inr rs) : rdG n p lo (w :: ws) = .inr (r :: rs) := by
  show (match rdI n w with | none => Sum.inl p | some r => if r.1 < lo then .inl p else match rdG n (p + 1) (r.2 + 1) ws with | .inl q => .inl q | .inr rs => .inr (r :: rs)) = _
  rw [h1]
  simp only
  rw [if_neg (by omega), h3]
theorem rdG_words {n : Nat} (hn : n ≤ 64) : ∀ (rs : List (Nat × Nat)) (p lo : Nat), (∀ r ∈ rs, r.1 ≤ r.2 ∧ r.2 < n) → rs.Pairwise (fun r s => r.2 + 1 < s.1) → (∀ r ∈ rs, lo ≤ r.1) → rdG n p lo (rs.flatMap wrd) = .inr (rs.flatMap rng)
  | [], _, _, _, _, _ => rfl
  | r :: rs, p, lo, h1, h2, h3 => by
    have hr := h1 r List.mem_cons_self
    have hl := h3 r List.mem_cons_self
    obtain ⟨p1, p2⟩ := List.pairwise_cons.mp h2
    have ih := fun p => rdG_words hn rs p (r.2 + 1) (fun z hz => h1 z (List.mem_cons_of_mem _ hz)) p2 (fun z hz => by have := p1 z hz; omega)
    rw [List.flatMap_cons, List.flatMap_cons]
    unfold wrd rng
    by_cases a : r.1 = r.2
    · rw [if_pos a, if_pos a]
      exact rdG_cons (rdI_num (by omega) hn) hl (by show rdG n (p + 1) (r.1 + 1) _ = _; rw [a]; exact ih (p + 1))
    · rw [if_neg a, if_neg a]
      by_cases b : r.1 + 1 = r.2
      · rw [if_pos b, if_pos b]
        refine rdG_cons (rdI_num (by omega) hn) hl ?_
        exact rdG_cons (r := (r.2, r.2)) (rdI_num hr.2 hn) (by show r.1 + 1 ≤ r.2; omega) (ih (p + 1 + 1))
      · rw [if_neg b, if_neg b]
        exact rdG_cons (rdI_two (by omega) hr.2 hn) hl (ih (p + 1))
theorem rng_mem {r : Nat × Nat} (h : r.1 ≤ r.2) (k : Nat) : memB (rng r) k = memB [r] k := by
  have one : ∀ a b : Nat, memB [(a, b)] k = (decide (a ≤ k) && decide (k ≤ b)) := fun a b => memB_one (a, b) k
  unfold rng
  by_cases a : r.1 = r.2
  · rw [if_pos a]
    have : r = (r.1, r.1) := by rw [show (r.1, r.1) = (r.1, r.2) by rw [← a]]
    rw [← this]
  · rw [if_neg a]
    by_cases b : r.1 + 1 = r.2
    · rw [if_pos b, show [(r.1, r.1), (r.2, r.2)] = [(r.1, r.1)] ++ [(r.2, r.2)] from rfl, memB_append, one, one, memB_one, Bool.eq_iff_iff]
      simp only [Bool.or_eq_true, Bool.and_eq_true, decide_eq_true_eq]
      omega
    · rw [if_neg b]
theorem flat_mem : ∀ {rs : List (Nat × Nat)}, (∀ r ∈ rs, r.1 ≤ r.2) → ∀ k, memB (rs.flatMap rng) k = memB rs k
  | [], _, _ => rfl
  | r :: rs, h, k => by
    rw [List.flatMap_cons, memB_append, rng_mem (h r List.mem_cons_self), flat_mem fun z hz => h z (List.mem_cons_of_mem _ hz), show r :: rs = [r] ++ rs from rfl, memB_append]
theorem isN_items {rs : List (Nat × Nat)} (h : ∀ r ∈ rs, r.1 < 100 ∧ r.2 < 100) : isN (itemsT rs) = false := by
  cases rs with
  | nil => rfl
  | cons r rs =>
    have hn := num_len r.1
    have hd := num_dig (h r List.mem_cons_self).1
    have hh : ∃ c l, itemsT (r :: rs) = c :: l ∧ c < 94 := by
      have h0 : ∃ c l, num r.1 = c :: l := by
        cases e : num r.1 with
        | nil => rw [e] at hn; exact absurd hn.2 (by decide)
        | cons c l => exact ⟨c, l, rfl⟩
      obtain ⟨c, l, e⟩ := h0
      have hc := hd c (by rw [e]; exact List.mem_cons_self)
      have hi : ∃ l', itemT r = c :: l' := by
        unfold itemT
        rw [e]
        split
        · exact ⟨_, rfl⟩
        · split
          · exact ⟨_, rfl⟩
          · exact ⟨_, rfl⟩
      obtain ⟨l', e'⟩ := hi
      unfold itemsT
      rw [List.map_cons]
      cases rs with
      | nil => exact ⟨c, l', e', by omega⟩
      | cons q rs =>
        refine ⟨c, l' ++ ([44] ++ TL.joinL [44] ((q :: rs).map itemT)), ?_, by omega⟩
        show itemT r ++ ([44] ++ TL.joinL [44] ((q :: rs).map itemT)) = _
        rw [e']; rfl
    obtain ⟨c, l, e, hc⟩ := hh
    rw [e]
    unfold isN
    split
    · rename_i hz
      cases hz
      exact absurd hc (by decide)
    · rfl
theorem spl_items {rs : List (Nat × Nat)} (h : ∀ r ∈ rs, r.1 < 100 ∧ r.2 < 100) : (if itemsT rs = [] then [] else TL.spl [44] 0 [] (itemsT rs)) = rs.flatMap wrd := by
  cases rs with
  | nil => exact if_pos rfl
  | cons r rs =>
    have hw : ∀ w ∈ (r :: rs).flatMap wrd, 44 ∉ w ∧ w ≠ [] ∧ (∀ c, c ∈ w → c < 94) := fun w hw => by
      obtain ⟨z, hz, hzw⟩ := List.mem_flatMap.mp hw
      exact wrd_free (h z hz) w hzw
    have hne : (r :: rs).flatMap wrd ≠ [] := by
      rw [List.flatMap_cons]; intro z; exact wrd_ne r (List.append_eq_nil_iff.mp z).1
    rw [items_words]
    have hj : TL.joinL [44] ((r :: rs).flatMap wrd) ≠ [] := by
      cases e : (r :: rs).flatMap wrd with
      | nil => exact absurd e hne
      | cons a b =>
        have ha := (hw a (by rw [e]; exact List.mem_cons_self)).2.1
        cases b with
        | nil => exact ha
        | cons b c =>
          show a ++ _ ≠ []
          intro z; exact ha (List.append_eq_nil_iff.mp z).1
    rw [if_neg hj, TL.spl_join hne fun w hz => (hw w hz).1]
/-- what written tells is read as the same set -/
theorem rd_wrt {n : Nat} (hn : n ≤ 64) (m : Nat → Bool) : ∃ rs, rdT n (wrt n m) = .inr rs ∧ ∀ k, k < n → (if isN (wrt n m) = true then !memB rs k else memB rs k) = m k := by
  have key : ∀ m : Nat → Bool, rdG n 0 0 ((told m n).flatMap wrd) = .inr ((told m n).flatMap rng) := fun m =>
    rdG_words hn (told m n) 0 0 (fun r hr => ⟨(told_sep m n).1 r hr, told_below m n r hr⟩) (told_sep m n).2 fun _ _ => Nat.zero_le _
  have small : ∀ m : Nat → Bool, ∀ r ∈ told m n, r.1 < 100 ∧ r.2 < 100 := fun m r hr => by
    have a := (told_sep m n).1 r hr
    have b := told_below m n r hr
    exact ⟨by omega, by omega⟩
  unfold wrt
  by_cases c : (94 :: itemsT (told (fun k => !m k) n)).length < (itemsT (told m n)).length
  · rw [if_pos c]
    refine ⟨(told (fun k => !m k) n).flatMap rng, ?_, fun k hk => ?_⟩
    · unfold rdT itm rest
      rw [if_pos (show isN (94 :: itemsT (told (fun k => !m k) n)) = true from rfl), List.tail_cons, spl_items (small _)]
      exact key _
    · rw [if_pos (show isN (94 :: itemsT (told (fun k => !m k) n)) = true from rfl), flat_mem (told_sep _ n).1, told_mem _ n k hk, Bool.not_not]
  · rw [if_neg c]
    refine ⟨(told m n).flatMap rng, ?_, fun k hk => ?_⟩
    · have er : rest (itemsT (told m n)) = itemsT (told m n) := by
        unfold rest
        rw [isN_items (small m)]; rfl
      unfold rdT itm
      rw [er, spl_items (small _)]
      exact key _
    · rw [if_neg (by rw [isN_items (small m)]; decide), flat_mem (told_sep _ n).1, told_mem _ n k hk]
end ST

/-! y = {k: v for ..}, y a local -/
namespace SH
open PySem PySem.Spec PyProof.Rows L2
theorem swapD {kx vx : Expr} {gs : List Comprehension} {scope : Scope} {pos py : Pos} {y : PySem.Str} {l : Nat} {env : Env} (fk : env.scope.kind = .function) (yl : env.scope.names.lookup y = some .local) (same : (py.line == pos.line) = true)
    (other : (scope.names.any fun (n, k) => n == y && (k == .local || k == .cell)) = false) : swapsWith (.DictComp kx vx gs scope pos) (some (.Name y py)) l env = pure true := by
  have e1 : env.kindOf y = some .local := yl
  have e2 : env.blockKind = .function := by
    unfold Env.blockKind
    rw [fk]; rfl
  unfold swapsWith
  simp only [e2, e1, other, Expr.pos, same]
  rfl
section
variable {X : Cx}
theorem ps_setDc {i : Nat} {y : PySem.Str} {py : Pos} {kx vx tg iter : Expr} {ifs : List Expr} {scope : Scope} {own : List (PySem.Str × Nat)} {pos spos : Pos} {wi : TI} {g : TG} {tt : TT} {tk tv : TE} (cm : X.calm = true) (nd : X.N.Nodup) (yi : X.N[i]? = some y) (yl : X.env.scope.names.lookup y = some .local)
    (sw : swapsWith (.DictComp kx vx [⟨tg, iter, ifs, 0⟩] scope pos) (some (.Name y py)) spos.line X.env = pure true) (walk : PI X tg iter wi) (bo : BlkOk X.N X.env.scope scope own)
    (rg : ∀ s H C cl fp, PG (X.blk s H scope (compEnvC scope cl C X.env) fp) tg g)
    (rt : ∀ s H C cl fp, PTs (X.blk s H scope (compEnvC scope cl C X.env) fp) ifs tt)
    (rk : ∀ s H C cl fp, PE (X.blk s H scope (compEnvC scope cl C X.env) fp) kx tk)
    (rv : ∀ s H C cl fp, PE (X.blk s H scope (compEnvC scope cl C X.env) fp) vx tv)
    (fold : ∀ x, foldedSetIterable iter X.env x = pure x := by intro _; rfl) :
    PS X (.Assign [.Name y py] (.DictComp kx vx [⟨tg, iter, ifs, 0⟩] scope pos) spos) (tAsg (tDc wi g tt tk tv (own.map (·.2))) (gName i)) := by
  refine ⟨fun pins s σ H D I h => ?_⟩
  rw [exec_Assign_Name_used _ _ _ _ sw]
  have h' : tDc wi g tt tk tv (own.map (·.2)) σ H (fun x G => gName i x σ G D.nx) := h
  refine wpAny_bind (wpAny_standAt (wpAny_bind ?_))
  show wpAny _ X.A (do let _ ← comprehension (.DictComp kx vx [⟨tg, iter, ifs, 0⟩] scope pos) scope X.env (firstIterPos [⟨tg, iter, ifs, 0⟩] pos) newDict false (eval iter X.env) (some (assign (.Name y py) X.env))) _ _ s
  refine wpAny_bind (thn (dc_core (Qf := fun _ s' => SP X pins D .next s') cm nd I walk bo rg rt rk rv fold h' fun L C s1 m G J1 q ns f => ?_) fun _ _ z => wpAny_pure (wpAny_pure z))
  obtain ⟨u0, u1, u2, u3, u4, u5⟩ := f
  show wpAny _ _ (assign (.Name y py) X.env (.ref L)) _ _ _
  refine wpAny_assign_Name (store_ok2 (v := V.ref L) J1 nd yi (.inl yl) rfl (fun s2 J2 ⟨a, sb, ha⟩ => ⟨m, ns.sameBut sb ?_, fun h3 sb3 => ⟨_, G, J2.turned (t' := s2.toks) (fun b o hb e => (sb3.2 b hb).trans e) u0 u1 u3 u4 u5, q⟩⟩) (.inr yl))
  rcases ha with z | z
  · rw [z]; exact u1
  · exact fun e => u4 y a z e.symm
end
end SH

/-! pairs of a length and a text: less, least -/
namespace SI
open PySem L2 Evl SB
def pS (l : List Nat) : PyData := .tuple [.int (l.length : Int), .str (ST.mk l)]
def ltL : List Nat → List Nat → Bool
  | [], [] => false
  | [], _ :: _ => true
  | _ :: _, [] => false
  | a :: r, b :: s => if a < b then true else if a = b then ltL r s else false
theorem ltL_dec : ∀ a b : List Nat, decide (a < b) = ltL a b
  | [], [] => by rfl
  | [], b :: s => decide_eq_true (List.nil_lt_cons b s)
  | a :: r, [] => decide_eq_false (List.not_lt_nil _)
  | a :: r, b :: s => by
    show _ = if a < b then true else if a = b then ltL r s else false
    rw [← ltL_dec r s]
    by_cases h : a < b
    · rw [if_pos h]; exact decide_eq_true (List.cons_lt_cons_iff.mpr (.inl h))
    · rw [if_neg h]
      by_cases e : a = b
      · rw [if_pos e]
        subst e
        rw [Bool.eq_iff_iff, decide_eq_true_eq, decide_eq_true_eq, List.cons_lt_cons_iff]
        exact ⟨fun z => z.elim (fun z => absurd z (Nat.lt_irrefl _)) fun z => z.2, fun z => .inr ⟨rfl, z⟩⟩
      · rw [if_neg e]
        exact decide_eq_false fun z => (List.cons_lt_cons_iff.mp z).elim (fun z => h z) fun z => e z.1
/-- (length, text) less -/
def lt2 (a b : List Nat) : Bool := if a.length = b.length then ltL a b else decide (a.length < b.length)
def minT (a : List Nat) (l : List (List Nat)) : List Nat := l.foldl (fun m x => if lt2 x m = true then x else m) a
abbrev PT : Type := Int × Str
def pr (l : List Nat) : PT := ((l.length : Int), ST.mk l)
theorem pS_toD (l : List Nat) : pS l = PySem.W.Datum.toD (pr l) := rfl
theorem lt_pr (a b : List Nat) : PySem.W.DatumOrd.lt (pr a) (pr b) = lt2 a b := by
  show (if (a.length : Int) = (b.length : Int) then decide ((ST.mk a).cps.toList < (ST.mk b).cps.toList) else decide ((a.length : Int) < (b.length : Int))) = lt2 a b
  unfold lt2
  by_cases h : a.length = b.length
  · rw [if_pos (congrArg _ h), if_pos h]; exact ltL_dec a b
  · rw [if_neg (by omega), if_neg h]
    by_cases c : a.length < b.length
    · rw [decide_eq_true c, decide_eq_true (by omega)]
    · rw [decide_eq_false c, decide_eq_false (by omega)]
theorem minOf_pr (a : List Nat) : ∀ l : List (List Nat), PySem.W.minOf (pr a) (l.map pr) = pr (minT a l) := by
  intro l
  unfold PySem.W.minOf minT
  induction l generalizing a with
  | nil => rfl
  | cons x l ih =>
    rw [List.map_cons, List.foldl_cons, List.foldl_cons, ← ih]
    refine congrArg (fun z => List.foldl _ z (l.map pr)) ?_
    show (if PySem.W.DatumOrd.lt (pr x) (pr a) = true then pr x else pr a) = _
    rw [lt_pr]
    by_cases c : lt2 x a = true
    · rw [if_pos c, if_pos c]
    · rw [if_neg c, if_neg c]
theorem minPr (a : List Nat) (l : List (List Nat)) : PySem.W.minD (pS a) (l.map pS) = pS (minT a l) := by
  have h := PySem.W.minD_map (pr a) (l.map pr)
  rw [minOf_pr, List.map_map] at h
  exact h
theorem alikePr (l : List (List Nat)) : PySem.W.AlikeAll (l.map pS) := by
  have h := PySem.W.alikeAll_datum (l.map pr)
  rw [List.map_map] at h
  exact h
theorem depPr : ∀ l : List (List Nat), PyData.depthAll (l.map pS) ≤ 1
  | [] => Nat.zero_le _
  | p :: ps => Nat.max_le.mpr ⟨Nat.le_refl _, depPr ps⟩
section
variable {X : Cx}
def rLtP (K : PySem.W.Frag) : R2 := fun x y H Q => ∃ a b : List Nat, Dp K H x (pS a) ∧ Dp K H y (pS b) ∧ Q (.bl (lt2 a b)) H
theorem op_ltP (hu : X.A.units + 64 < cLine) : OpR X (compareOp .Lt) (rLtP X.K) := by
  intro pins s σ H x y v u Q I rx ry h
  obtain ⟨a, b, ha, hb, q⟩ := h
  obtain ⟨as, h1⟩ := Dp.reads I _ x v ha rx
  obtain ⟨bs, h2⟩ := Dp.reads I _ y u hb ry
  refine PySem.W.lt_datum (α := PT) (x := pr a) (y := pr b) ⟨as, h1⟩ ⟨bs, h2⟩ (by show _ + 1 < cLine; omega) ?_
  rw [lt_pr]
  exact ⟨.bl (lt2 a b), H, I, rfl, q⟩
end
end SI

/-! the law's own reading of texts, and all texts that there are -/
namespace ST
open PySem L2 SM
theorem pre1 (s c : Nat) (r : List Nat) : TL.pre [s] (c :: r) = decide (c = s) := by
  show ((c :: r).take 1 == [s]) = _
  show ([c] == [s]) = _
  by_cases h : c = s
  · rw [h, decide_eq_true rfl]; exact beq_self_eq_true _
  · rw [decide_eq_false h]; exact beq_eq_false_iff_ne.mpr fun z => h (List.cons.inj z).1
theorem spl_par (s : Nat) : ∀ (w acc : List Nat), TL.spl [s] 0 acc w = (match TL.par [s] acc w with | none => [acc ++ w] | some (a, b) => a :: TL.spl [s] 0 [] b)
  | [], acc => by
    rw [TL.spl_nil]
    show [acc] = [acc ++ []]
    rw [List.append_nil]
  | c :: r, acc => by
    by_cases h : c = s
    · have hp : TL.pre [s] (c :: r) = true := by rw [pre1, decide_eq_true h]
      rw [TL.spl_hit hp, TL.par_hit hp]; rfl
    · have hp : TL.pre [s] (c :: r) = false := by rw [pre1, decide_eq_false h]
      rw [TL.spl_miss hp, TL.par_miss hp, spl_par s r (acc ++ [c])]
      cases TL.par [s] (acc ++ [c]) r with
      | none =>
        show [acc ++ [c] ++ r] = [acc ++ c :: r]
        rw [List.append_assoc]; rfl
      | some p => rfl
theorem par_mem (s : Nat) : ∀ {w acc a b : List Nat}, TL.par [s] acc w = some (a, b) → s ∈ w
  | [], _, _, _, h => by cases h
  | c :: r, acc, a, b, h => by
    by_cases e : c = s
    · rw [e]; exact List.mem_cons_self
    · have hp : TL.pre [s] (c :: r) = false := by rw [pre1, decide_eq_false e]
      rw [TL.par_miss hp] at h
      exact List.mem_cons_of_mem _ (par_mem s h)
theorem val_dash {n : Nat} (hn : n ≤ 100) {b : List Nat} (h : 45 ∈ b) : val n b = none := by
  cases e : val n b with
  | none => rfl
  | some k =>
    obtain ⟨h1, h2⟩ := val_some e
    rw [← h2] at h
    exact absurd h (no_sign (by omega) (.inl (by decide)))
/-- the parts of an item -/
def pts (w : List Nat) : List (List Nat) := TL.spl [45] 0 [] w
theorem pts_ne (w : List Nat) : pts w ≠ [] := by
  unfold pts
  rw [spl_par]
  cases TL.par [45] [] w with
  | none => simp
  | some p => simp
/-- by its parts -/
theorem rdI_parts {n : Nat} (hn : n ≤ 100) (w : List Nat) :
    (∃ a x, pts w = [a] ∧ val n a = some x ∧ rdI n w = some (x, x)) ∨ (∃ a b x y, pts w = [a, b] ∧ val n a = some x ∧ val n b = some y ∧ rdI n w = if x < y then some (x, y) else none) ∨
    (rdI n w = none ∧ ((2 < (pts w).length) ∨ ((pts w).length ≤ 2 ∧ ∃ a ∈ pts w, val n a = none))) := by
  unfold pts rdI
  rw [spl_par]
  cases e : TL.par [45] [] w with
  | none =>
    simp only [List.nil_append]
    cases v : val n w with
    | none => exact .inr (.inr ⟨rfl, .inr ⟨by show 1 ≤ 2; decide, w, List.mem_cons_self, v⟩⟩)
    | some x => exact .inl ⟨w, x, rfl, v, rfl⟩
  | some p =>
    obtain ⟨a, b⟩ := p
    simp only
    rw [spl_par]
    cases e2 : TL.par [45] [] b with
    | some p2 =>
      obtain ⟨c, d⟩ := p2
      have hb := val_dash hn (par_mem 45 e2)
      refine .inr (.inr ⟨?_, .inl ?_⟩)
      · rw [hb]
        cases val n a <;> rfl
      · show 2 < (a :: c :: TL.spl [45] 0 [] d).length
        have : 0 < (TL.spl [45] 0 [] d).length := List.length_pos_iff.mpr (pts_ne d)
        rw [List.length_cons, List.length_cons]
        omega
    | none =>
      simp only [List.nil_append]
      cases va : val n a with
      | none => exact .inr (.inr ⟨by cases val n b <;> rfl, .inr ⟨by show 2 ≤ 2; decide, a, List.mem_cons_self, va⟩⟩)
      | some x =>
        cases vb : val n b with
        | none => exact .inr (.inr ⟨rfl, .inr ⟨by show 2 ≤ 2; decide, b, List.mem_cons_of_mem _ List.mem_cons_self, vb⟩⟩)
        | some y => exact .inr (.inl ⟨a, b, x, y, rfl, va, vb, rfl⟩)
/-- the signs of rising ranges, one by one -/
theorem cat_lt : ∀ {rs : List (Nat × Nat)} {n p lo : Nat} {ws : List (List Nat)}, rdG n p lo ws = .inr rs → (cat rs).Pairwise (· < ·) ∧ ∀ k ∈ cat rs, (lo : Int) ≤ k
  | [], _, _, _, _, _ => ⟨List.Pairwise.nil, fun _ h => absurd h List.not_mem_nil⟩
  | r :: rs, n, p, lo, ws, h => by
    cases ws with
    | nil => cases h
    | cons w ws =>
      unfold rdG at h
      cases e : rdI n w with
      | none => rw [e] at h; cases h
      | some r' =>
        rw [e] at h
        simp only at h
        by_cases c : r'.1 < lo
        · rw [if_pos c] at h; cases h
        · rw [if_neg c] at h
          cases e2 : rdG n (p + 1) (r'.2 + 1) ws with
          | inl q => rw [e2] at h; cases h
          | inr rs' =>
            rw [e2] at h
            cases h
            have ih := cat_lt e2
            have hr := rdI_le e
            have ec : cat (r :: rs) = ((List.range (r.2 + 1 - r.1)).map fun i => ((r.1 : Int) + (i : Nat))) ++ cat rs := rfl
            rw [ec]
            have hin : ∀ k ∈ (List.range (r.2 + 1 - r.1)).map (fun i => ((r.1 : Int) + (i : Nat))), (r.1 : Int) ≤ k ∧ k ≤ (r.2 : Int) := fun k hk => by
              obtain ⟨i, hi, rfl⟩ := List.mem_map.mp hk
              have := List.mem_range.mp hi
              omega
            refine ⟨List.pairwise_append.mpr ⟨?_, ih.1, fun a ha b hb => ?_⟩, fun k hk => ?_⟩
            · refine List.pairwise_map.mpr (List.Pairwise.imp ?_ List.pairwise_lt_range)
              intro a b hab
              omega
            · have h1 := (hin a ha).2
              have h2 := ih.2 b hb
              omega
            · rcases List.mem_append.mp hk with z | z
              · have := (hin k z).1
                omega
              · have := ih.2 k z
                omega
theorem cat_filt {rs : List (Nat × Nat)} {n p lo : Nat} {ws : List (List Nat)} (h : rdG n p lo ws = .inr rs) : cat rs = ((List.range n).filter (memB rs)).map fun k : Nat => (k : Int) := by
  refine sortedInt (cat_lt h).1 (int_lt (filt_lt _ _)) fun k => ?_
  rw [mem_cat, List.mem_map]
  constructor
  · rintro ⟨j, rfl, hm⟩
    refine ⟨j, mem_filt.mpr ⟨?_, hm⟩, rfl⟩
    exact memB_lt (fun r hr => ⟨((rdG_ok h).1 r hr).1, ((rdG_ok h).1 r hr).2.1⟩) hm
  · rintro ⟨j, hj, rfl⟩
    exact ⟨j, rfl, (mem_filt.mp hj).2⟩
/-! ### cuttings of a run -/
def wd (a e : Nat) : List Nat := if e = a then num a else num a ++ 45 :: num e
def cutL : Nat → Nat → Nat → List (List Nat)
  | 0, _, _ => []
  | f + 1, a, b => (List.range (b + 1 - a)).flatMap fun i => if a + i = b then [wd a (a + i)] else (cutL f (a + i + 1) b).map fun r => wd a (a + i) ++ 44 :: r
def minL : List (List Nat) → List Nat
  | [] => []
  | x :: l => SI.minT x l
theorem cut_all : ∀ a : Fin 64, ∀ d : Fin 5, minL (cutL 5 a.val (a.val + d.val)) = itemT (a.val, a.val + d.val) := by decide +kernel
theorem cut_min {a b : Nat} (ha : a < 64) (hb : a ≤ b) (hd : b - a < 5) : minL (cutL 5 a b) = itemT (a, b) := by
  have := cut_all ⟨a, ha⟩ ⟨b - a, hd⟩
  simp only at this
  rw [show a + (b - a) = b by omega] at this
  exact this
theorem cut_sz : ∀ f : Fin 6, ∀ a : Fin 64, ∀ d : Fin 5, (decide ((cutL f.val a.val (a.val + d.val)).length ≤ 16) && (cutL f.val a.val (a.val + d.val)).all fun w => decide (w.length ≤ 40)) = true := by decide +kernel
theorem cut_size {f a b : Nat} (hf : f ≤ 5) (ha : a < 64) (hb : a ≤ b) (hd : b - a < 5) : (cutL f a b).length ≤ 16 ∧ ∀ w ∈ cutL f a b, w.length ≤ 40 := by
  have := cut_sz ⟨f, by omega⟩ ⟨a, ha⟩ ⟨b - a, hd⟩
  simp only at this
  rw [show a + (b - a) = b by omega, Bool.and_eq_true, List.all_eq_true] at this
  exact ⟨of_decide_eq_true this.1, fun w hw => of_decide_eq_true (this.2 w hw)⟩
theorem cut_ne : ∀ a : Fin 64, ∀ d : Fin 5, (cutL 5 a.val (a.val + d.val)).isEmpty = false := by decide +kernel
theorem cut_some {a b : Nat} (ha : a < 64) (hb : a ≤ b) (hd : b - a < 5) : cutL 5 a b ≠ [] := by
  have := cut_ne ⟨a, ha⟩ ⟨b - a, hd⟩
  simp only at this
  rw [show a + (b - a) = b by omega] at this
  intro z
  rw [z] at this; cases this
/-! ### all texts of few signs -/
def sgs (n : Nat) : List Nat := ([48, 49, 50, 51].take n) ++ [45, 44, 94]
def gen (n : Nat) : Nat → List (List Nat)
  | 0 => [[]]
  | k + 1 => (gen n k).flatMap fun t => (sgs n).map fun c => t ++ [c]
def chk (n : Nat) (t : List Nat) : Bool := match rdT n t with
  | .inl _ => true
  | .inr rs => !SI.lt2 t (wrt n fun k => if isN t = true then !memB rs k else memB rs k)
theorem chk_1 : ([1, 2, 3, 4] : List Nat).all (fun n => ([0, 1, 2, 3] : List Nat).all fun k => (gen n k).all (chk n)) = true := by decide +kernel
theorem chk_2 : ([1, 2, 3, 4] : List Nat).all (fun n => (gen n 4).all (chk n)) = true := by decide +kernel
end ST

/-! an own exception's __init__ that says super().__init__(e) first -/
namespace SW
open PySem PySem.Spec PySem.W PyProof.Rows L2 NdefX
/-- what is kept of the class C, whose __init__ has the cell cc for __class__ -/
structure SupC (K : PySem.W.Frag) (C cc : Addr) : Prop where
  T : OexC K C
  cell : ∃ (cl : Value) (cld : Option Addr) (csl : Array (Option Value)), K.lookup cc = some ⟨cl, cld, .cell (some (.ref C)), csl⟩
  sup : PySem.W.ks_superIn K C C "__init__" = some (some (.builtin "ValueError.__init__"))
  ve : PySem.W.subIn K (.ref C) (.type "ValueError") = some true
  own : PySem.W.mroIn K C (.ref C) = some true
  opq : PySem.W.nsIn K cStatics "thirdparty.any" = some none
section
variable {X : Cx} {pins : List (Addr × Obj)} {σ : L2.St} {H : Hp} {s : Shared} {a C u : Addr}
/-- the bound __init__ called -/
theorem run_bound {us : List Value} {Q : Value → Shared → Prop} {A : Around} {E : Value → Shared → Prop} (T : OexC X.K C) (I : Inv X pins σ H s) (hu : s.heap.get? u = some (kxs_mw "ValueError.__init__" a)) (e : H a = some (exo a C none)) (hl : us.length ≤ sizeLine) (h : ∀ s', Inv X pins σ H s' → Q .none s') :
    wpAny (model X.prog X.w) A (call (.ref u) us) Q E s := by
  obtain ⟨nm, q, N, bs, bm, sn, sub, ab, col, dd, k0, k1, k2, k3, k5, hC, hbm⟩ := T.cls
  obtain ⟨t1, ho⟩ := exo_at I.hok e
  have hCh := I.kIn _ _ hC
  obtain ⟨hp, g, d, t, os⟩ := s
  refine wpAny_call (codeAny_of_tree ?_)
  show wpAny _ A.in1 (callAny (.ref u) ⟨us, []⟩) _ _ _
  simp only [callAny]
  refine wpAny_bind (wpAny_load hu ?_)
  simp only [kxs_mw, show (Value.type "method-wrapper" == Value.type "method" || Value.type "method-wrapper" == Value.type "builtin_function_or_method" || Value.type "method-wrapper" == Value.type "method-wrapper") = true by decide, if_true]
  refine KFB.if_so (by decide) ?_
  refine wpAny_bind (check_bound_init F.excBase_ValueError.toExcCallFacts hCh ho rfl ?_)
  refine wpAny_bind (wpAny_pure (wpAny_pure ?_))
  refine ⟨plainId_quiet F.excBase_ValueError.init.plain _, codeAny_builtin F.excBase_ValueError.initEntry ?_⟩
  refine exc_init_tree (cls := .ref C) (t0 := t1) (dv := none) (c2 := .none) (c3 := .none) (b4 := .bool false) ho hl fun h' k hx _ => ?_
  have J := I.write (t' := t) (x := a) (e := a) (o := exo a C none) (by rw [e]; exact True.intro) (.inl rfl) k ⟨_, hx⟩ (exo_ok hx)
  have eu : upd H a (exo a C none) = H := by
    funext b
    by_cases hb : b = a
    · rw [hb, upd_same, e]
    · rw [upd_ne hb]
  rw [eu] at J
  exact h _ J
end
section
variable {CX : CXT} {P : Program} {w : World} {K : PySem.W.Frag} {mg : Str → Option Value} {base : Heap}
/-- the words of an __init__ with super() -/
abbrev supF (name qual : Str) (params : Arguments) (body : List Stmt) (scope : Scope) (cc cda : Addr) : NF := ⟨name, qual, params, body, scope, [("__class__", cc)], cda⟩
theorem fn_super {k : Nat} {f C cc cda : Addr} {name qual : Str} {params : Arguments} {rest : List Stmt} {scope : Scope} {dV kV doc pm ct oc : Value} {an od : Option Addr} {osl : Array (Option Value)} {N ps : List Str} {sp : Sp} {e : Expr} {p0 p1 p2 p3 p4 : Pos} {ar : Arg}
    {ccl : Value} {cdd : Option Addr} {ccs : Array (Option Value)} {vs0 : Array Value} {file : Str} {tf : Tok} {pl : Sem Bool}
    (lk : K.lookup f = some ⟨oc, od, .func (ksFn name qual params (.Expr (.Call (.Attribute (.Call (.Name "super" p0) [] [] p1) "__init__" p2) [e] [] p3) p4 :: rest) scope dV kV doc pm an (.ref cda) ct cc), osl⟩) (hcd : PySem.W.codeIn K (.ref cda) qual = true)
    (S : NScope N ps ["__class__"] scope) (Z : SupC K C cc) (hcode : K.lookup cda = some ⟨ccl, cdd, .fields vs0, ccs⟩) (hvs : vs0[2]? = some (.str file tf)) (hfile : ((P.main.file : Str) == file) = true)
    (hsup : mg "super" = none) (htop : (P.main.scope.names.lookup ("super" : Str)).isSome = false) (hks : scope.names.lookup ("super" : Str) = some .globalImplicit)
    (hp : (params.posonlyargs ++ params.args).head? = some ar) (har : ps[0]? = some ar.arg)
    (len : ∀ vs H Q E, sp vs H Q E → vs.length = ps.length)
    (hbody : ∀ (A : Around) (outer : List Env) (s : Shared) (H : Hp) (vs : List V) (Q : VK) (E : XK), sp vs H Q E →
      ∃ (a : Addr) (te : TE) (tr : TS), vs[0]? = some (.ref a) ∧ H a = some (exo a C none) ∧
        PE (ncx CX P w K mg base N (supF name qual params (.Expr (.Call (.Attribute (.Call (.Name "super" p0) [] [] p1) "__init__" p2) [e] [] p3) p4 :: rest) scope cc cda) f A outer s H E) e te ∧
        PSs (ncx CX P w K mg base N (supF name qual params (.Expr (.Call (.Attribute (.Call (.Name "super" p0) [] [] p1) "__init__" p2) [e] [] p3) p4 :: rest) scope cc cda) f A outer s H E) rest tr ∧
        te (startF N vs [none]) H fun _ H1 => H1 a = some (exo a C none) ∧ tr { nx := fun _ H' => Q .non H', rt := Q } (startF N vs [none]) H1)
    (hst : ∀ env : Env, starEach [e] env = [(false, eval e env)] := by intro _; rfl)
    (hev : ∀ env : Env, eval (.Call (.Attribute (.Call (.Name "super" p0) [] [] p1) "__init__" p2) [e] [] p3) env = (do
      let ov ← attributeBase (.Call (.Name "super" p0) [] [] p1) "__init__" env (eval (.Call (.Name "super" p0) [] [] p1) env)
      standAt p2.atName
      let (f, first) ← holding [ov] (getMethod ov "__init__" pl)
      callWith p3 f first (backTo p3 (starEach [e] env)) []) := by intro _; rfl)
    (hsw : ∀ env : Env, swapsWith (.Call (.Attribute (.Call (.Name "super" p0) [] [] p1) "__init__" p2) [e] [] p3) none p4.line env = pure false := by intro _; rfl) :
    FnOk P w K mg base CX (k + 1) f (ksFn name qual params (.Expr (.Call (.Attribute (.Call (.Name "super" p0) [] [] p1) "__init__" p2) [e] [] p3) p4 :: rest) scope dV kV doc pm an (.ref cda) ct cc) ps sp := by
  refine ⟨len, fun A outer s H args us vs Q E hr e0 hb r hsp => ?_⟩
  obtain ⟨hp0, g0, dr0, tk0, os0⟩ := s
  have hl := len _ _ _ _ hsp
  have KX : K.In hp0 := e0.mod.kin.keeps fun b o e => (e0.bs b o e).1
  have lim : hp0.NoLimit := e0.mod.nolimit.keeps fun b o e => (e0.bs b o e).1
  obtain ⟨a, te, tr, hva, hHa, he, hrest, ht⟩ := hbody A outer ⟨hp0, g0, dr0, tk0, os0⟩ H vs Q E hsp
  obtain ⟨cl, cld, csl, hcell⟩ := Z.cell
  have C0 : CellsAt [("__class__", cc)] ["__class__"] [none] hp0 H := {
    len := rfl
    all := fun y c hy => by
      have hc : c = cc := by
        rw [List.lookup] at hy
        split at hy
        · exact (Option.some.inj hy).symm
        · cases hy
      rw [hc]
      exact ⟨(e0.bs _ _ (e0.mod.kin _ _ hcell)).2, _, _, KX _ _ hcell, rfl⟩
    inj := fun x y c hx hy => by
      rw [List.lookup] at hx hy
      split at hx
      · split at hy
        · rename_i h1 _ h2
          exact (beq_iff_eq.mp h1).trans (beq_iff_eq.mp h2).symm
        · cases hy
      · cases hx
    has := fun i y hi => by
      cases i with
      | zero =>
        have hy : y = "__class__" := (Option.some.inj hi).symm
        rw [hy]
        exact ⟨cc, rfl, fun v hv => by cases hv⟩
      | succ i => cases hi }
  refine ks_codeAny_call_defAt (fd := ksFn name qual params (.Expr (.Call (.Attribute (.Call (.Name "super" p0) [] [] p1) "__init__" p2) [e] [] p3) p4 :: rest) scope dV kV doc pm an (.ref cda) ct cc) (binds := ps.zip us) hr.depth (KX _ _ lk) rfl lim (codeRec_of KX hcd) rfl hb S.nocell (fun y hy => S.par _ (List.of_mem_zip hy).1) (fun h₁ hns kp => ?_) S.co S.gen S.kind
  have I : Inv (ncx CX P w K mg base N (supF name qual params (.Expr (.Call (.Attribute (.Call (.Name "super" p0) [] [] p1) "__init__" p2) [e] [] p3) p4 :: rest) scope cc cda) f A outer ⟨hp0, g0, dr0, tk0, os0⟩ H E) [] (startF N vs [none]) H ⟨h₁, g0, dr0, tk0 + (ps.zip us).length, os0⟩ := inv_startN (s := ⟨hp0, g0, dr0, tk0, os0⟩) S hr.hd e0 hl r C0 hns kp
  obtain ⟨ua, hua, ra⟩ := r.get hva
  obtain rfl : ua = Value.ref a := ra
  have KX1 : K.In h₁ := KX.keeps kp
  obtain ⟨t1, hoa⟩ := exo_at I.hok hHa
  obtain ⟨nm, q, N', bs, bm, sn, sub, ab, col, dd, k0, k1, k2, k3, k5, hC, hbm⟩ := Z.T.cls
  have hcl : PySem.W.clsIn K C = some { name := nm, bases := bs, mro := .ref C :: bm, ns := N', qualname := q, hasDict := true, slotNames := sn, subclasses := sub, abstract := ab, collection := col, hasDel := false } := by unfold PySem.W.clsIn; rw [hC] <;> rfl
  have ndP : ps.Nodup := by
    have q := S.nd.sublist (List.take_sublist (ps.length + 1) N)
    rw [show N.take (ps.length + 1) = ps ++ (["__class__"] : List Str) from S.pre] at q
    exact (List.nodup_append.mp q).1
  have hint : ∀ {env : Env}, env.scope.kind = .function → interactive env = false := fun {env} h => by
    unfold interactive
    rw [h]; rfl
  refine ks_wpAt_execs_cons (ks_wpAt_Expr_any (ks_wpAt_MethodCall (pl := pl) ?_ (hev _)) (hint S.kind) (hsw _))
  refine ks_wpAt_super_base (fd := ksFn name qual params (.Expr (.Call (.Attribute (.Call (.Name "super" p0) [] [] p1) "__init__" p2) [e] [] p3) p4 :: rest) scope dV kV doc pm an (.ref cda) ct cc) hks (S.frk _ (List.mem_singleton.mpr rfl)) (by decide) rfl (KX1 _ _ lk) rfl hp rfl (KX1 _ _ hcode) rfl hvs hfile htop ?_
  obtain ⟨mb, hb1, hb2⟩ := I.mod.blt
  refine ks_loadName_global S.kind hks (Calls.loadGlobal_builtin (I.mod.glob.keeps I.bk) hsup (hb1.keeps I.bk) ((hb2 "super" (by decide)).trans PyProof.Rows.Boot.«super») ⟨rfl, ?_⟩)
  refine wpAny_loadName_free S.kind (S.frk _ (List.mem_singleton.mpr rfl)) rfl ⟨_, KX1 _ _ hcell, rfl⟩ ?_
  refine wpAny_loadName_local S.kind (S.par _ (List.mem_of_getElem? har)) hns (zip_look ndP har hua) ?_
  refine ks_wpAny_isType_cls (KX1 _ _ hC) rfl ⟨rfl, ?_⟩
  refine ks_wpAny_call_super (KX1 _ _ hC) rfl hoa rfl (fun c z => nomatch z) (looks_mroIn KX1 Z.own) (fun h' e' k' => ?_)
  have KX2 : K.In h' := KX1.keeps k'
  have I2 := I.kept (h' := h') (t' := tk0 + (ps.zip us).length) k'
  obtain ⟨t2, hoa2⟩ := exo_at I2.hok hHa
  have J : InstAt h' a _ C none := ⟨hoa2, rfl, rfl, trivial⟩
  have hIs : Looks (model P w) h' (isInstance (.ref a) (.type "ValueError")) true := J.type.andThen (looks_subIn KX2 Z.ve)
  have hm : alongIn K "__init__" (((Value.ref C :: bm).dropWhile (· != .ref C)).drop 1) = some (some (.builtin "ValueError.__init__")) := by
    have := Z.sup
    unfold ks_superIn at this
    rw [hcl] at this
    exact this
  refine kxs_getMethod kxs_ValueError e' (looks_opaque KX2 Z.opq) (l₀ := .ref C :: bm) (fun A Q E s k q => wpAny_bind ((looks_clsIn KX2 hcl) A _ E s k (wpAny_pure q))) rfl KX2 hm hIs (ks_ne KX2 J hcl) (by decide) ?_
  have I3 := ClX.pin_new (o := kxs_mw "ValueError.__init__" a) (h' := h'.push (kxs_mw "ValueError.__init__" a)) (a := h'.objs.size) (t' := tk0 + (ps.zip us).length + 1) I2 (fun _ _ z => Heap.get?_push_of_some _ z) (Nat.le_refl _) (Heap.get?_push_size h' rfl) (fun v z => nomatch z)
  rw [hst]
  refine kxs_callWith (i := "ValueError.__init__") (x := a) rfl ?_
  refine Calls.evalArgs_plain (Calls.spliced_cons (thn (he.run [(h'.objs.size, kxs_mw "ValueError.__init__" a)] _ _ H _ I3 ht) fun v s1 ⟨x, H1, I4, r4, hH1, htr⟩ => Calls.spliced_nil ⟨ClX.pin_at I4, ?_⟩))
  refine run_bound Z.T I4 (ClX.pin_at I4) hH1 (by show 1 ≤ sizeLine; rw [sizeLine_eq]; decide) fun s' J' => ?_
  refine wpAt_of_wpAny (wpAny_mono (hrest.run [] s' _ H1 _ (ClX.unpin J') htr) (fun fl s'' hs => ?_) fun e s'' hs => hs)
  cases fl with
  | ret u =>
    obtain ⟨v, σ', H', J, rv, q⟩ := hs
    exact ⟨v, H', J.os, J.bare, J.base, J.hok, rv, q⟩
  | next =>
    obtain ⟨σ', H', J, q⟩ := hs
    exact ⟨V.non, H', J.os, J.bare, J.base, J.hok, rfl, q⟩
  | brk =>
    obtain ⟨_, _, _, q⟩ := hs
    exact False.elim q
  | cont =>
    obtain ⟨_, _, _, q⟩ := hs
    exact False.elim q
end
end SW

/-! isinstance(e, C) of a caught exception that has its dict -/
namespace SW
open PySem PySem.Spec PySem.W PyProof.Rows L2 NdefX
/-- isinstance(e, c), e the exception that the suite holds, its dict at d -/
def rIsD (K : PySem.W.Frag) (cls : Value) (d : Option Addr) (a : Addr) : List V → Hp → VK → Prop := fun xs H Q => ∃ (D : Addr) (dd : Addr) (fs : List (Str × V)) (c : V) (cv : Value) (b : Bool), cls = .ref D ∧ ExcC K D ∧ d = some dd ∧ H dd = some (.xd fs) ∧ xs = [.ref a, c] ∧ (∀ u, RelV c u → u = cv) ∧ PySem.W.kitOne K (.ref D) cv = some b ∧ Q (.bl b) H
theorem call_isD {X : Cx} {a : Addr} {oe : Obj} {cls : Value} {d : Option Addr} {pn : List (Addr × Obj)} (hz : Zc cls d oe) (hf : ∃ vs, oe.data = .fields vs) : CallR (X.suite a ((a, oe) :: pn)) (.builtin "isinstance") (rIsD X.K cls d a) := by
  intro pins s σ H xs us Q I r h
  obtain ⟨D, dd, fs, c, cv, b, rfl, C, rfl, hdd, rfl, hcv, e, q⟩ := h
  cases r with
  | cons rx rr =>
    cases rr with
    | cons rt rr =>
      cases rr
      cases rx
      have ec := hcv _ rt
      subst ec
      obtain ⟨hget, _⟩ := I.pin (a, oe) (List.mem_append.mpr (.inl List.mem_cons_self))
      obtain ⟨vs, hv⟩ := hf
      have hx : ObjOk X.prog X.w H s.heap dd (.xd fs) := I.hok dd _ hdd
      obtain ⟨mA, hns, hr⟩ := hx
      obtain ⟨od, ho, hl⟩ := lookIn_ns hns
      have J : PySem.W.InstAt s.heap a oe D (some od) := ⟨hget, hz.1, by unfold PySem.W.notCls; rw [hv] <;> rfl, by rw [hz.2]; exact ho⟩
      obtain ⟨cd, hc, _⟩ := any_some C.hd
      exact PySem.W.kia_one (PySem.W.kitx_exc (od := some od) (ox := oe) (by rw [hc]; rfl) C.hg C.hk C.hs C.ha C.hn C.ht C.hm) I.kIn J e (fun z => nomatch z) fun tk => ⟨.bl b, H, I.kept (t' := tk) fun _ _ z => z, rfl, q⟩
end SW

/-! within an except suite: a list walked, a comprehension; exceptions whose context is told -/
namespace SY
open PySem PySem.Spec PyProof.Rows L2 L2H HotX
section
variable {prog : Program} {w : World} {A : Around} {E : Value → Shared → Prop} {s : Shared}
/-- the list's iterator has come to its end -/
theorem nextL_hot {it l x1 : Addr} {i : Nat} {items : Array Value} {Q : Option Value → Shared → Prop} (hot : HotAt A x1 s.heap) (hit : s.heap.IsListIter it l i) (hl : s.heap.IsList l items) (hx : items[i]? = none)
    (hQ : ∀ h', Heap.ExtBut it s.heap h' → Q none { s with heap := h' }) : wpAny (model prog w) A (pyNext (.ref it)) Q E s := by
  obtain ⟨o, ho, hc, hd⟩ := id hit
  obtain ⟨ol, hol, _, nl, hdl⟩ := hl
  obtain ⟨hh, o1, vs1, e1, d1, c1⟩ := hot
  have nx : x1 ≠ it := fun z => by
    rw [z, ho] at e1
    cases e1
    rw [hd] at d1
    cases d1
    simp at c1
  have body : ∀ {R : Value → Shared → Prop} {E' : Value → Shared → Prop}, (∀ h' e, Heap.ExtBut it s.heap h' → (∃ o, h'.get? e = some o ∧ o.cls = .type "StopIteration") → E' (.ref e) { s with heap := h' }) →
      wpAny (model prog w) A.in1 (Builtin.«list_iterator.__next__» ⟨[.ref it], []⟩) (fun _ _ => False) E' s := fun {R E'} hE => by
    show wpAny _ _ (field (.ref it) 0 >>= _) _ _ s
    refine wpAny_bind (wpAny_field ho hd (x := .ref l) rfl ?_)
    show wpAny _ _ (if (Value.ref l == Value.none) = true then _ else _) _ _ s
    rw [if_neg (c := (Value.ref l == Value.none) = true) (fun z => Bool.false_ne_true z)]
    refine wpAny_bind (m := field (.ref it) 1) (wpAny_field ho hd (x := .int i 0) rfl ?_)
    refine wpAny_bind (m := seqItems? (.ref l)) (wpAny_seqItems hol hdl ?_)
    simp only [Int.toNat_natCast, hx]
    refine wpAny_bind (wpAny_rule (wpAny_bind (wpAny_setField ho hd (by simp) (wpAny_bind (m := newExc (.type "StopIteration") []) ?_))))
    simp only [newExc, newTuple]
    refine wpAny_bind (wpAny_newObj_type (wpAny_bind (m := firstArgMember _ _) (wpAny_of_eq (a := Value.none) (by first | rfl | (simp only [firstArgMember]; rfl)) (wpAny_newObj_type ?_ (by size_fits)))) (by size_fits))
    have e2 := (Heap.get?_update_other s.heap (Obj.mapFields (·.setIfInBounds 0 Value.none)) (Ne.symm nx)).trans e1
    refine raiseNew_hot (x1 := x1) ⟨hh, o1, vs1, Heap.get?_push_of_some _ (Heap.get?_push_of_some _ e2), d1, c1⟩ (Nat.ne_of_lt (Heap.lt_size (Heap.get?_push_of_some _ e2))) (Heap.get?_push_size _ rfl) rfl (by first | (simp; done) | (simp; omega) | (simp only [Array.size_append]; simp; omega)) ?_
    refine hE _ _ (fun b u hb e => ?_) ⟨_, Heap.get?_update_self _ (Heap.get?_push_size _ rfl) rfl, rfl⟩
    have e3 := (Heap.get?_update_other s.heap (Obj.mapFields (·.setIfInBounds 0 Value.none)) (Ne.symm hb)).trans e
    rw [Heap.get?_update_other _ _ (Nat.ne_of_gt (Heap.lt_size (Heap.get?_push_of_some _ e3)))]
    exact Heap.get?_push_of_some _ (Heap.get?_push_of_some _ e3)
  unfold pyNext
  refine wpAny_bind (wpAny_attempt (wpAny_callSpecial?_slot (name := Str.ofString "__next__") hit.typeIs slot_listiter_next
    (wpAny_call_entry slot_listiter_next hit.typeIs entry_listiter_next (wpAny_mono (body (R := fun _ _ => False) (E' := _) fun h' e hk hc => ?_) (fun _ _ z => z.elim) fun _ _ z => z) (args_listiter_next _))))
  obtain ⟨oe, ge, ce⟩ := hc
  exact wpAny_bind (wpAny_isInstance (T := "StopIteration") (b := true) ⟨oe, ge, ce⟩ isSubtype_stop (wpAny_pure (hQ h' hk)))
end
/-! ### a list walked there -/
theorem turnL {P : Program} {w : World} {K : PySem.W.Frag} {tg : Expr} (a it : Addr) : TurnH P w K tg (Itl K a) [it] it (fun i h => h.IsListIter it a i) where
  mem := List.mem_cons_self
  obj := fun i h st b hb => by
    cases List.mem_singleton.mp hb
    obtain ⟨o, e, _, d⟩ := st
    exact ⟨o, e, fun v z => by rw [d] at z; cases z⟩
  keep := fun i h h' st k => st.at fun o e => k it List.mem_cons_self o e
  item := by
    intro X hP hw hK _ i pins s σ H E I hf st hg
    subst hP hw hK
    obtain ⟨xs, x, hq, hx⟩ := hg
    obtain ⟨its, rv, p, _⟩ := I.list hq
    obtain ⟨u, hu, ru⟩ := rv.get hx
    obtain ⟨f0, f1, _, f3, f4, f5⟩ := hf it List.mem_cons_self
    refine wpAny_pyNext_list_item st p.isList (x := u) (by simpa using hu) fun h' st' sb => ⟨u, rfl, ?_⟩
    have J : Inv X pins σ H { s with heap := h' } := I.turned (t' := s.toks) (fun b o hb e => (sb.2 b hb).trans e) f0 f1 f3 f4 f5
    obtain ⟨o, e, c, d⟩ := id st'
    exact go_of (s := { s with heap := h' }) e c d (by decide) ⟨x, H, J, ru, ⟨rfl, fun ys hy => by rw [I.list_inj hy hq]; exact hx⟩, st', fun b hb => (hf b hb).1⟩
  done := by
    intro X hP hw hK hc i pins s σ H E I hf st hg
    subst hP hw hK
    obtain ⟨xs, hq, hx⟩ := hg
    obtain ⟨its, rv, p, _⟩ := I.list hq
    obtain ⟨f0, f1, _, f3, f4, f5⟩ := hf it List.mem_cons_self
    obtain ⟨x1, hot⟩ := hc.at I
    have hl := rv.length
    exact nextL_hot hot st p.isList (by simp; omega) fun h' eb => ⟨rfl, I.turned (t' := s.toks) (fun b o hb e => eb b o hb e) f0 f1 f3 f4 f5⟩
  self := fun _ _ _ _ _ st h => wpAny_pyIter_listiter st h
section
variable {X : Cx} {tg : Expr}
theorem pi_listH {l : Expr} {tl : TE} (hl : PE X l tl) : PIH X tg l (iList X.K tl) := by
  refine ⟨fun pins s σ H R I h => thn (hl.run pins s σ H _ I h) fun v s1 ⟨x, H1, I1, r1, a, e, ⟨xs, hq⟩, q⟩ => ?_⟩
  subst e
  cases r1
  obtain ⟨its, rv, p, _⟩ := I1.list hq
  refine wpAny_pyIter_list p.isList ⟨s1.heap.objs.size, [s1.heap.objs.size], _, _, H1, rfl, I1.kept (t' := s1.toks) fun b o e => Heap.get?_push_of_some _ e, turnL a _, ⟨_, Heap.get?_push_size _ rfl, rfl, rfl⟩, fun b hb => ?_, q⟩
  cases List.mem_singleton.mp hb
  exact I1.fpOk (Nat.le_refl _) (I1.hok.fresh (Nat.le_refl _))
/-- a comprehension's block there: the handled exception is told -/
abbrev blkP (X : Cx) (p : Addr × Obj) (s : Shared) (H : Hp) (scope : Scope) (ce : Env) (fp : List Addr) : Cx := { X.blk s H scope ce fp with pn := [p] }
/-- the exception's object is no frame, no cell, not tracked -/
theorem toP {p : Addr × Obj} {s : Shared} {H : Hp} {scope : Scope} {ce : Env} {fp : List Addr} {σ' : L2.St} {H' : Hp} {s' : Shared} (J : Inv (X.blk s H scope ce fp) [] σ' H' s') (h1 : s'.heap.get? p.1 = some p.2) (h2 : H' p.1 = none) (h3 : p.1 ≠ ce.locals) (h4 : p.1 ∉ frs X.stack) (h5 : ∀ v, p.2.data ≠ .cell v) : Inv (blkP X p s H scope ce fp) [] σ' H' s' :=
  ⟨⟨J.ok.mod, J.ok.kind, J.ok.glob, J.ok.blt, J.ok.above, J.ok.inj, J.ok.has, J.ok.cab, J.ok.hd, J.ok.frames, J.ok.stk, J.ok.exf, J.ok.bs, J.ok.bsz, J.ok.noex, J.ok.exfs, J.ok.funs, J.ok.frf⟩, J.os, J.bare, J.base, J.loc, J.cell, J.free, J.freeC, fun q hq => by
    have hq' : q ∈ [p] := by simpa using hq
    rw [List.mem_singleton.mp hq']
    exact ⟨h1, h2, h3, h4, h5⟩, J.hok, J.len⟩
/-- [elt for tg in iter if ..] in an except suite -/
theorem pe_lcH {elt iter : Expr} {ifs : List Expr} {scope : Scope} {own : List (Str × Nat)} {pos : Pos} {wi : TI} {g : TG} {tt : TT} {te : TE} {p : Addr × Obj} (hot : Hot1 X.A p) (hp : p ∈ X.pn) (hN : X.N.Nodup) (hi : PIH X tg iter wi) (ok : BlkOk X.N X.env.scope scope own)
    (hg : ∀ (s : Shared) (H : Hp) (C : Addr) (cl : List (Str × Addr)) (fp : List Addr), PG (blkP X p s H scope (compEnvC scope cl C X.env) fp) tg g) (ht : ∀ (s : Shared) (H : Hp) (C : Addr) (cl : List (Str × Addr)) (fp : List Addr), PTs (blkP X p s H scope (compEnvC scope cl C X.env) fp) ifs tt)
    (he : ∀ (s : Shared) (H : Hp) (C : Addr) (cl : List (Str × Addr)) (fp : List Addr), PE (blkP X p s H scope (compEnvC scope cl C X.env) fp) elt te) (hs : ∀ x, foldedSetIterable iter X.env x = pure x := by intro _; rfl) :
    PE X (.ListComp elt [⟨tg, iter, ifs, 0⟩] scope pos) (tLc wi g tt te (own.map (·.2))) := by
  refine ⟨fun pins s σ H Q I h => ?_⟩
  rw [eval_ListComp]
  have clo : ∀ y ∈ scope.names, y.2 = .free → ∃ c, X.env.cells.lookup y.1 = some c := fun y hy e => (ok.free y hy e).elim (fun k => I.ok.has _ (.inl k)) fun k => I.ok.has _ (.inr k)
  refine wpAny_comprehension_free (use := none) rfl hs (closure_ok clo) ok.kind (fun y hy e => by rw [ok.uniq y hy, e]) (thn (hi.run pins s σ H _ I h) fun _ s1 h1 => thn h1 fun itv s2 ⟨it, fp, tn, J, H2, ei, I2, T, st2, f2, q⟩ => ?_)
  subst ei
  refine wpAny_newObj_type (newEnv_comp ?_) (by show 0 ≤ sizeLine; decide)
  have nD : H2 s2.heap.objs.size = none := I2.hok.fresh (Nat.le_refl _)
  obtain ⟨W, ⟨m0, w0⟩, turn⟩ := q s2.heap.objs.size nD
  have P2 := I2.pin p (List.mem_append_left _ hp)
  have I3 : Inv X pins σ (upd H2 s2.heap.objs.size (.lst [])) { s2 with heap := s2.heap.push { cls := .type "list", data := .seq ([] : List Value).toArray } } :=
    I2.laid (t' := s2.toks) (fun b o e => Heap.get?_push_of_some _ e) (Nat.le_refl _) ⟨Nat.zero_le _, [], 0, .nil, Heap.get?_push_size _ rfl⟩
  have P3 := I3.pin p (List.mem_append_left _ hp)
  have lt2 : ∀ b ∈ fp, b < s2.heap.objs.size := fun b hb => by
    obtain ⟨o, e, _⟩ := T.obj _ _ st2 b hb
    exact Heap.lt_size e
  have f3 : ∀ b ∈ fp, FpOk X pins (upd H2 s2.heap.objs.size (.lst [])) b ∧ b < (s2.heap.push { cls := .type "list", data := .seq ([] : List Value).toArray }).objs.size := fun b hb =>
    ⟨⟨by rw [upd_ne (Nat.ne_of_lt (lt2 b hb))]; exact (f2 b hb).1, (f2 b hb).2⟩, by rw [Heap.size_push]; exact Nat.lt_succ_of_lt (lt2 b hb)⟩
  have st3 : tn 0 (s2.heap.push { cls := .type "list", data := .seq ([] : List Value).toArray }) := T.keep _ _ _ st2 fun b _ o e => Heap.get?_push_of_some _ e
  have I4 := block_start I3 ok hN f3
  generalize eD : s2.heap.objs.size = D at *
  generalize e3 : ({ s2 with heap := s2.heap.push { cls := .type "list", data := .seq ([] : List Value).toArray } } : Shared) = s3 at *
  have eh : s2.heap.push { cls := .type "list", data := .seq ([] : List Value).toArray } = s3.heap := by rw [← e3]
  rw [eh] at f3 st3
  generalize eH : upd H2 D (.lst []) = H3 at *
  have pg := hg s3 H3 s3.heap.objs.size (cellsFrom (s3.heap.objs.size + 1) scope.names (cloFrom X.env.cells scope.names [])) fp
  have pt := ht s3 H3 s3.heap.objs.size (cellsFrom (s3.heap.objs.size + 1) scope.names (cloFrom X.env.cells scope.names [])) fp
  have pe := he s3 H3 s3.heap.objs.size (cellsFrom (s3.heap.objs.size + 1) scope.names (cloFrom X.env.cells scope.names [])) fp
  show codeAny _ _ (.compStart _ 0 (.ref it) (.ref D) (compEnvC scope (cellsFrom (s3.heap.objs.size + 1) scope.names (cloFrom X.env.cells scope.names [])) s3.heap.objs.size X.env)) (compPost _ _ _ _ _ _ s3.heap.objs.size) { s3 with heap := pushCells (s3.heap.push { cls := .type "dict", data := .dict #[] }) scope.names }
  generalize ec : compEnvC scope (cellsFrom (s3.heap.objs.size + 1) scope.names (cloFrom X.env.cells scope.names [])) s3.heap.objs.size X.env = ce at I4 pg pt pe ⊢
  have cL : ce.locals = s3.heap.objs.size := by rw [← ec]; rfl
  have kp : ∀ b o, s3.heap.get? b = some o → (pushCells (s3.heap.push { cls := .type "dict", data := .dict #[] }) scope.names).get? b = some o := fun b o e => pushCells_keeps _ _ _ _ (Heap.get?_push_of_some _ e)
  have st4 := T.keep _ _ _ st3 fun b _ o e => kp b o e
  have n4 : p.1 ∉ frs X.stack := fun z => (List.mem_cons.mp (I3.stkSub _ z)).elim P3.2.2.1 P3.2.2.2.1
  have nL : p.1 ≠ ce.locals := by rw [cL]; exact Nat.ne_of_lt (Heap.lt_size P3.1)
  have I5 := toP I4 (kp _ _ P3.1) P3.2.1 nL n4 P3.2.2.2.2
  have nfp : ∀ b ∈ fp, H3 b = none := fun b hb => (f3 b hb).1.1
  have pfp : ∀ b ∈ fp, p.1 ≠ b := fun b hb => (f2 b hb).2.2.2.2.2 p (List.mem_append_left _ hp)
  generalize e4 : ({ s3 with heap := pushCells (s3.heap.push { cls := .type "dict", data := .dict #[] }) scope.names } : Shared) = s4 at *
  have st4 : tn 0 s4.heap := by rw [← e4]; exact st4
  have stat : ∀ {σ' : L2.St} {H' : Hp} {s' : Shared}, Inv (blkP X p s3 H3 scope ce fp) [] σ' H' s' → (∀ b ∈ fp, H' b = none) → ∀ b ∈ fp, FpOk (blkP X p s3 H3 scope ce fp) [] H' b := fun {σ' H' s'} I' hn b hb =>
    ⟨hn b hb, (I'.ok.exf b hb).1, I'.ok.exfs b hb, .inl hb, fun x c e => (I'.ok.exf b hb).2 x c e, fun q hq => by
      have hq' : q ∈ [p] := by simpa using hq
      rw [List.mem_singleton.mp hq']
      exact pfp b hb⟩
  have HB : HotC (blkP X p s3 H3 scope ce fp) := ⟨p, hot, List.mem_cons_self⟩
  have loop : codeAny (model X.prog X.w) X.A (.compLoop (.ListComp elt [⟨tg, iter, ifs, 0⟩] scope pos) 0 (.ref it) (.ref D) ce) (compPost (model X.prog X.w) X.A X.xe none (EP X pins σ Q) (.ref D) s3.heap.objs.size) s4 := by
    refine compLoop_any (fun n s' => ∃ i H', Inv (blkP X p s3 H3 scope ce fp) [] (wipe σ (own.map (·.2))) H' s' ∧ tn i s'.heap ∧ (∀ b ∈ fp, H' b = none) ∧ W i n H') (fun n s5 ⟨i, H5, I5, st5, n5, w5⟩ => ?_) m0 ⟨0, H3, I5, st4, nfp, w0⟩
    rcases turn i n H5 w5 with ⟨stop, qq⟩ | ⟨go, Nx, hNx, step⟩
    · refine thnF (T.done (blkP X p s3 H3 scope ce fp) rfl rfl rfl HB i [] s5 _ H5 (fun _ _ => False) I5 (stat I5 n5) st5 stop) fun r s6 ⟨hr, I6⟩ => ?_
      subst hr
      have I7 : Inv X pins σ H5 s6 := I3.call' (ch := fp) I6.os I6.base I6.hok I6.bare fun b hb => ⟨(f3 b hb).1.2.2.2.1, (f3 b hb).1.2.1, (f3 b hb).1.2.2.2.2.1, (f3 b hb).1.2.2.2.2.2⟩
      have nC : H5 s3.heap.objs.size = none := by rw [← cL]; exact I6.free
      obtain ⟨m, hn, _⟩ := I6.loc
      have hn : s6.heap.Ns s3.heap.objs.size m := by rw [← cL]; exact hn
      obtain ⟨g0, g1, g2, g3, g4, g5⟩ : FpOk X pins H5 s3.heap.objs.size := I3.fpOk (Nat.le_refl _) nC
      exact ⟨m, hn, fun h' sb => ⟨.ref D, H5, I7.turned (t' := s6.toks) (fun b o hb e => (sb.2 b hb).trans e) g0 g1 g3 g4 g5, rfl, qq⟩⟩
    · refine thnF (T.item (blkP X p s3 H3 scope ce fp) rfl rfl rfl HB i [] s5 _ H5 (fun _ _ => False) I5 (stat I5 n5) st5 go) fun r s6 ⟨u, hr, h6⟩ => ?_
      subst hr
      refine thnF h6 fun _ s7 ⟨x, H7, I7, r7, y7, st7, n7⟩ => ?_
      refine thnF (pg.run _ s7 _ H7 x u _ (I7.pinned (stat I7 n7) (T.obj _ _ st7)) r7 (step x H7 y7)) fun _ s8 ⟨σ8, H8, I8, hw8, q8⟩ => ?_
      refine thnF (pt.run _ s8 σ8 H8 _ I8 q8) fun b s9 ⟨H9, I9, q9⟩ => ?_
      have fin : ∀ {s' : Shared} {H' : Hp}, Inv (blkP X p s3 H3 scope ce fp) ([] ++ pinsAt fp s7.heap) σ8 H' s' → Nx H' → ∃ m, m < n ∧ ∃ i H', Inv (blkP X p s3 H3 scope ce fp) [] (wipe σ (own.map (·.2))) H' s' ∧ tn i s'.heap ∧ (∀ b ∈ fp, H' b = none) ∧ W i m H' := fun {s' H'} I' nx => by
        obtain ⟨m', hm, w'⟩ := hNx H' nx
        have pin' : ∀ b ∈ fp, ∀ o, s7.heap.get? b = some o → s'.heap.get? b = some o ∧ H' b = none := fun b hb o e => by
          have z := I'.pin (b, o) (List.mem_append_right _ (List.mem_append_right _ (mem_pinsAt hb e)))
          exact ⟨z.1, z.2.1⟩
        refine ⟨m', hm, i + 1, H', (I'.unpinned (pins := [])).weak (by rw [← hw8, wipe_length]) (fun j v e => ?_), T.keep _ _ _ st7 fun b hb o e => (pin' b hb o e).1, fun b hb => ?_, w'⟩
        · rw [← hw8] at e
          exact (wipe_some e).1
        · obtain ⟨o, e, _⟩ := T.obj _ _ st7 b hb
          exact (pin' b hb o e).2
      cases b with
      | false =>
        rw [if_neg Bool.false_ne_true] at q9 ⊢
        exact fin I9 q9
      | true =>
        rw [if_pos rfl] at q9 ⊢
        exact thnF (pe.run _ s9 σ8 H9 _ I9 q9) fun z s10 ⟨yv, H10, I10, r10, acc, hD10, hz10, nx⟩ => app_ok (X := blkP X p s3 H3 scope ce fp) I10 hD10 hz10 r10 fun s11 I11 => fin I11 nx
  exact codeAny_compStart_list loop (T.self X.A 0 _ _ _ st4 loop)
end
end SY

/-! things made by a lambda, and what it captured, as things of the heap -/
namespace SY
open PySem PySem.Spec PyProof.Rows L2 L2H LamX NdefX Evl
/-! ### a new exception by its own __init__, its context told -/
theorem pmkN_oex {X : Cx} {e : Expr} {es : List Expr} {ta : TA} {p pos : Pos} {CX : CXT} {x : Str} {C fI : Addr} {k : Nat} {fd : FuncData} {ps : List Str} {sp : Sp} (T : OexC X.K C) (iC : PySem.W.findIn X.K (.ref C) "__init__" = some (some (.ref fI))) (tI : PySem.W.typeIn X.K (.ref fI) = some (.type "function"))
    (F1 : FnOk X.prog X.w X.K X.mg X.base CX k fI fd ps sp) (hr : Room (k + 1) X.A) (hb : Binds X.K fd ps []) (hx : Passes CX X (fun _ _ _ => False)) (hg : Gl X x) (hm : X.mg x = some (.ref C)) (ha : PA X (e :: es) ta)
    (hdb : (x == ("__debug__" : Str)) = false := by decide) (he : starEach (e :: es) X.env = (false, eval e X.env) :: starEach es X.env := by rfl) (hpl : (backTo pos (starEach es X.env)).any (·.1) = false := by rfl) :
    L2N.PMk X (.Call (.Name x p) (e :: es) [] pos) (tMkO C sp [] ta) := by
  intro pins s σ H Q I h
  obtain ⟨nm, qn, ns, bs, bm, sn, sub, ab, col, dd, k0, k1, k2, k3, k5, hC, hbm⟩ := T.cls
  refine wpAny_Call_Name_kw (ld_glob I hg hm (PySem.W.callWith_K (h₀ := X.base) I.ok.mod.kin T.kC (thn (ha.run pos pins s σ H _ I h) fun us s1 ⟨vs, H1, I1, r1, hz, q1⟩ => ⟨I1.kIn, ?_⟩) he hpl) hdb)
  show wpAny _ _ (call (.ref C) us) _ _ _
  obtain ⟨hp, g, dr, tk, os⟩ := s1
  have hq := q1 (hp.objs.size + 1) (I1.hok.fresh (Nat.le_succ _))
  rw [List.append_nil] at hq
  have I2 := I1.laid (t' := tk) (a := hp.objs.size + 1) (o := exo (hp.objs.size + 1) C none) (h' := (hp.push (PySem.W.kdv_tup us)).push (PySem.HandSPX.excO C hp.objs.size)) (fun b o e => Heap.get?_push_of_some _ (Heap.get?_push_of_some _ e)) (Nat.le_succ _) (exo_ok (by heap_get))
  have r2 : Vals (V.ref (hp.objs.size + 1) :: vs) (Value.ref (hp.objs.size + 1) :: us) := .cons rfl r1
  have hl : (Value.ref (hp.objs.size + 1) :: us ++ []).length = ps.length := by
    rw [List.append_nil, ← r2.length, F1.len _ _ _ _ hq]
  have b2 := hb _ (Value.ref (hp.objs.size + 1) :: us) I2.kIn hl
  rw [List.append_nil] at b2
  refine wpAny_call (PySem.HandSPX.call_own F.excBase_ValueError (fun Y => PySem.HandSPX.refsVE_contains Y bm hbm) (I1.kIn _ _ hC) (PySem.W.looks_findIn I1.kIn iC) (fun self => PySem.W.bind_fn I1.kIn self tI) (by rw [← Paired.length r1, sizeLine_eq]; omega)
    (codeAny_mono (F1.run _ X.stack _ _ ⟨Value.ref (hp.objs.size + 1) :: us, []⟩ _ _ _ (fun _ _ _ => False) (hr.make C us []) (I2.env0.make C us []) b2 r2 hq) fun r s' hq' => ?_))
  cases r with
  | error er => exact hx pins σ _ _ er s' I2 hq'
  | ok fl =>
    cases fl with
    | ret u =>
      obtain ⟨v, H2, os2, bare2, un2, hok2, rv, ev, d, fs, ea, ed, hd1, q2⟩ := hq'
      subst ev
      obtain ⟨h2, g2, d2, t2, os'⟩ := s'
      obtain ⟨t0, G, J, kG, ge, hoe, na⟩ := mk_end0 (d2 := d2) (t2 := t2) I1 (Nat.le_succ _) (fun b o e => Heap.get?_push_of_some _ (Heap.get?_push_of_some _ e)) un2 hok2 os2 bare2 ea ed hd1
      exact ⟨rv, hp.objs.size + 1, _, _, ⟨G, g2, d2, t2, os'⟩, _, .ref C, some d, rfl, J, kG, ge, hoe, ⟨rfl, rfl, fun vs hv => by cases hv; rfl⟩, rfl, rfl, na, rfl, bare2, raises_own T.exC T.tyC, q2⟩
    | next => exact False.elim hq'
    | brk => exact False.elim hq'
    | cont => exact False.elim hq'
/-- a def that may raise, the contexts told -/
theorem okN {P : Program} {w : World} {K : PySem.W.Frag} {mg : Str → Option Value} {base : Heap} {x qual : Str} {st : Stmt} {f : Addr} {fd : FuncData} {N ps : List Str} {k : Nat} {sp : Sp} (F : Fun K x qual st f fd) (S : FnScope N ps (defScope st)) (len : ∀ vs H Q E, sp vs H Q E → vs.length = ps.length)
    (hbody : ∀ (cdv : Value) (A : Around) (outer : List Env) (s : Shared) (H : Hp) (vs : List V) (Q : VK) (E : XK), Room k (A.deeper (envOfC qual (defScope st) s.heap.objs.size f cdv)) → sp vs H Q E →
      ∃ t, PSs (cxOf (L2N.CX P w) P w K mg base N qual (defScope st) f cdv A outer s H E) (defBody st) t ∧ t { nx := fun _ H' => Q .non H', rt := Q } (L2.start N vs) H) : FnOk P w K mg base (L2N.CX P w) (k + 1) f fd ps sp := by
  obtain ⟨oc, od, kV, doc, pm, an, cdv, ct, osl, rfl, lk, hcd⟩ := F.ex
  exact fn_of lk hcd S len fun A outer s H vs Q E hr hsp => hbody cdv A outer s H vs Q E hr hsp
/-- a def called in an except suite -/
theorem okH {P : Program} {w : World} {K : PySem.W.Frag} {mg : Str → Option Value} {base : Heap} {x qual : Str} {st : Stmt} {f : Addr} {fd : FuncData} {N ps : List Str} {k : Nat} {sp : Sp} (F : Fun K x qual st f fd) (S : FnScope N ps (defScope st)) (len : ∀ vs H Q E, sp vs H Q E → vs.length = ps.length)
    (hbody : ∀ (cdv : Value) (A : Around) (outer : List Env) (s : Shared) (H : Hp) (vs : List V) (Q : VK) (E : XK) (p : Addr × Obj), Hot1 (A.deeper (envOfC qual (defScope st) s.heap.objs.size f cdv)) p → RoomH k (A.deeper (envOfC qual (defScope st) s.heap.objs.size f cdv)) → sp vs H Q E →
      ∃ t, PSs (cxH CX0 P w K mg base N qual (defScope st) f cdv A outer s H E p).nox (defBody st) t ∧ t { nx := fun _ H' => Q .non H', rt := Q } (L2.start N vs) H) : FnH P w K mg base CX0 (k + 1) f fd ps sp := by
  obtain ⟨oc, od, kV, doc, pm, an, cdv, ct, osl, rfl, lk, hcd⟩ := F.ex
  exact fn_ofH lk hcd S len fun A outer s H vs Q E p hot hr hsp => by
    obtain ⟨t, h, q⟩ := hbody cdv A outer s H vs Q E p ⟨hot.1, hot.2⟩ hr hsp
    exact ⟨t, h.nox, q⟩
/-! ### objects that are told as they stand -/
def PinO (b : Addr) (o : Obj) : HO := .ext fun h => h.get? b = some o
section
variable {P : Program} {w : World} {K : PySem.W.Frag} {mg : Str → Option Value} {base : Heap} {A : Around} {outer : List Env} {H H' : Hp} {h : Heap} {b : Addr} {o : Obj} {s s' : Shared} {cs : List (Addr × Obj)} {Q : VK} {E : XK} {u : Value}
theorem pin_ok (e : h.get? b = some o) : ObjOk P w H h b (PinO b o) := ⟨e, ⟨o, e⟩, fun _ _ z st => st o z⟩
theorem pin_at (hok : HOk P w H h) (e : H b = some (PinO b o)) : h.get? b = some o := (hok b _ e).1
def addP (cs : List (Addr × Obj)) (H : Hp) : Hp := fun b => match cs.lookup b with
  | some o => some (PinO b o)
  | none => H b
def rmP (cs : List (Addr × Obj)) (H : Hp) : Hp := fun b => match cs.lookup b with
  | some _ => none
  | none => H b
theorem addIn (z : cs.lookup b = some o) : addP cs H b = some (PinO b o) := by unfold addP; rw [z]
theorem addOut (z : cs.lookup b = none) : addP cs H b = H b := by unfold addP; rw [z]
theorem rmIn (z : cs.lookup b = some o) : rmP cs H b = none := by unfold rmP; rw [z]
theorem rmOut (z : cs.lookup b = none) : rmP cs H b = H b := by unfold rmP; rw [z]
theorem outN (hn : ∀ b o, cs.lookup b = some o → H b = none) {u : HO} (e : H b = some u) : cs.lookup b = none := by
  cases z : cs.lookup b with
  | none => rfl
  | some o => rw [hn b o z] at e; cases e
theorem outP (hp : ∀ b o, cs.lookup b = some o → H b = some (PinO b o)) {u : Option HO} (e : H b = u) (hu : ∀ o, u ≠ some (PinO b o)) : cs.lookup b = none := by
  cases z : cs.lookup b with
  | none => rfl
  | some o => exact absurd (e.symm.trans (hp b o z)) (hu o)
theorem rmAdd (hn : ∀ b o, cs.lookup b = some o → H b = none) : rmP cs (addP cs H) = H := by
  funext b
  cases z : cs.lookup b with
  | none => rw [rmOut z, addOut z]
  | some o => rw [rmIn z, hn b o z]
theorem addRm (hp : ∀ b o, cs.lookup b = some o → H b = some (PinO b o)) : addP cs (rmP cs H) = H := by
  funext b
  cases z : cs.lookup b with
  | none => rw [addOut z, rmOut z]
  | some o => rw [addIn z, hp b o z]
theorem addEx (hn : ∀ b o, cs.lookup b = some o → H b = none) : Ex H (addP cs H) := fun a o e => by rw [addOut (outN hn e)]; exact e
theorem addMono (e : Ex H H') : Ex (addP cs H) (addP cs H') := fun a o z => by
  cases q : cs.lookup a with
  | none => rw [addOut q] at z ⊢; exact e a o z
  | some u => rw [addIn q] at z ⊢; exact z
theorem rmMonoP (e : Ex H H') : Ex (rmP cs H) (rmP cs H') := fun a o z => by
  cases q : cs.lookup a with
  | none => rw [rmOut q] at z ⊢; exact e a o z
  | some u => rw [rmIn q] at z; cases z
theorem rmPEx : Ex (rmP cs H) H := fun a o z => by
  cases q : cs.lookup a with
  | none => rw [rmOut q] at z; exact z
  | some u => rw [rmIn q] at z; cases z
theorem hokAdd (hok : HOk P w H h) (hn : ∀ b o, cs.lookup b = some o → H b = none ∧ h.get? b = some o) : HOk P w (addP cs H) h := fun a o e => by
  have hn1 : ∀ b o, cs.lookup b = some o → H b = none := fun b o z => (hn b o z).1
  cases q : cs.lookup a with
  | some u =>
    rw [addIn q] at e
    cases e
    exact pin_ok (hn a u q).2
  | none =>
    rw [addOut q] at e
    exact (hok a o e).stay (fun _ _ _ z => z) (fun c z => by rw [addOut (outN hn1 z)]; exact z) fun c xs z => by rw [addOut (outN hn1 z)]; exact z
theorem hokRm (hok : HOk P w H h) (hp : ∀ b o, cs.lookup b = some o → H b = some (PinO b o)) : HOk P w (rmP cs H) h := fun a o e => by
  cases q : cs.lookup a with
  | some u => rw [rmIn q] at e; cases e
  | none =>
    rw [rmOut q] at e
    exact (hok a o e).stay (fun _ _ _ z => z) (fun c z => by rw [rmOut (outP hp z fun o y => by cases y)]; exact z) fun c xs z => by rw [rmOut (outP hp z fun o y => by cases y)]; exact z
theorem envAdd (e : Env0 P w K mg base A outer s H) (hn : ∀ b o, cs.lookup b = some o → H b = none ∧ s.heap.get? b = some o ∧ base.get? b = none ∧ b ∉ frs outer) : Env0 P w K mg base A outer s (addP cs H) := by
  refine ⟨e.frames, e.mod, fun b o z => ⟨(e.bs b o z).1, ?_⟩, e.bsz, e.funs, fun b hb => ?_, hokAdd e.hok fun b o z => ⟨(hn b o z).1, (hn b o z).2.1⟩, e.bare⟩
  · cases q : cs.lookup b with
    | none => rw [addOut q]; exact (e.bs b o z).2
    | some u => rw [(hn b u q).2.2.1] at z; cases z
  · cases q : cs.lookup b with
    | none => rw [addOut q]; exact e.frf b hb
    | some u => exact absurd hb (hn b u q).2.2.2
theorem envRm (e : Env0 P w K mg base A outer s H) (hp : ∀ b o, cs.lookup b = some o → H b = some (PinO b o)) : Env0 P w K mg base A outer s (rmP cs H) := by
  refine ⟨e.frames, e.mod, fun b o z => ⟨(e.bs b o z).1, ?_⟩, e.bsz, e.funs, fun b hb => ?_, hokRm e.hok hp, e.bare⟩
  · cases q : cs.lookup b with
    | none => rw [rmOut q]; exact (e.bs b o z).2
    | some u => exact rmIn q
  · cases q : cs.lookup b with
    | none => rw [rmOut q]; exact e.frf b hb
    | some u => exact rmIn q
/-- told again behind a call -/
theorem ceAdd (e0 : Env0 P w K mg base A outer s H) (hp : ∀ b o, cs.lookup b = some o → H b = some (PinO b o)) (c : CE outer P w (rmP cs H) s (fun v H' => (∀ b o, cs.lookup b = some o → H' b = none) → Q v (addP cs H')) u s') : CE outer P w H s Q u s' := by
  obtain ⟨v, H', os, bare, un, hok, r, q⟩ := c
  have nf : ∀ b o, cs.lookup b = some o → b ∉ frs outer := fun b o z hb => by
    have y := e0.frf b hb
    rw [hp b o z] at y
    cases y
  have st : ∀ b o, cs.lookup b = some o → H' b = none ∧ s'.heap.get? b = some o := fun b o z => ⟨un.free b o (pin_at e0.hok (hp b o z)) (rmIn z) (by simp), un.keep b o (pin_at e0.hok (hp b o z)) (rmIn z) (nf b o z) (by simp)⟩
  have nn : ∀ {b : Addr}, H b = none → rmP cs H b = none := fun {b} n => by rw [rmOut (outP hp n fun o y => by cases y)]; exact n
  refine ⟨v, addP cs H', os, bare, ⟨fun b o e n hb hx => un.keep b o e (nn n) hb hx, fun b o e n hb hx => un.slot b o e (nn n) hb hx, fun b o e n hx => ?_, un.there, fun b xs e => ?_, fun b o v e => ?_, fun b ps e => ?_⟩, hokAdd hok st, r, q fun b o z => (st b o z).1⟩
  · rw [addOut (outP hp n fun o y => by cases y)]; exact un.free b o e (nn n) hx
  · have z := outP hp e fun o y => by cases y
    rw [addOut z]; exact un.tups b xs (by rw [rmOut z]; exact e)
  · have z := outP hp e fun o y => by cases y
    rw [addOut z]; exact un.frzs b o v (by rw [rmOut z]; exact e)
  · have z := outP hp e fun o y => by cases y
    rw [addOut z]; exact un.tbls b ps (by rw [rmOut z]; exact e)
theorem cxAdd (e0 : Env0 P w K mg base A outer s H) (hp : ∀ b o, cs.lookup b = some o → H b = some (PinO b o)) (c : L2N.CX P w outer (rmP cs H) s (fun cls d H' => (∀ b o, cs.lookup b = some o → H' b = none) → E cls d (addP cs H')) u s') : L2N.CX P w outer H s E u s' := by
  obtain ⟨a, B, H', cls, d, rfl, fl, hok, ub, na, os, ag, q⟩ := c
  have nf : ∀ b o, cs.lookup b = some o → b ∉ frs outer := fun b o z hb => by
    have y := e0.frf b hb
    rw [hp b o z] at y
    cases y
  have st : ∀ b o, cs.lookup b = some o → H' b = none ∧ B.get? b = some o := fun b o z => ⟨ub.free b o (pin_at e0.hok (hp b o z)) (rmIn z), ub.keep b o (pin_at e0.hok (hp b o z)) (rmIn z) (nf b o z)⟩
  have nn : ∀ {b : Addr}, H b = none → rmP cs H b = none := fun {b} n => by rw [rmOut (outP hp n fun o y => by cases y)]; exact n
  refine ⟨a, B, addP cs H', cls, d, rfl, fl, hokAdd hok st, ⟨fun b o e n hb => ub.keep b o e (nn n) hb, ub.slot, fun b o e n => ?_, ub.there, fun b xs e => ?_, fun b o v e => ?_, fun b ps e => ?_⟩, ?_, os, ag, q fun b o z => (st b o z).1⟩
  · rw [addOut (outP hp n fun o y => by cases y)]; exact ub.free b o e (nn n)
  · have z := outP hp e fun o y => by cases y
    rw [addOut z]; exact ub.tups b xs (by rw [rmOut z]; exact e)
  · have z := outP hp e fun o y => by cases y
    rw [addOut z]; exact ub.frzs b o v (by rw [rmOut z]; exact e)
  · have z := outP hp e fun o y => by cases y
    rw [addOut z]; exact ub.tbls b ps (by rw [rmOut z]; exact e)
  · cases z : cs.lookup a with
    | none => rw [addOut z]; exact na
    | some o =>
      have y := (st a o z).2
      rw [fl.2.1] at y
      cases y
/-- told for a call alone -/
theorem ceRm (hn : ∀ b o, cs.lookup b = some o → H b = none ∧ s.heap.get? b = some o) (c : CE outer P w (addP cs H) s (fun v H' => (∀ b o, cs.lookup b = some o → H' b = some (PinO b o)) ∧ Q v (rmP cs H')) u s') : CE outer P w H s Q u s' := by
  obtain ⟨v, H', os, bare, un, hok, r, hp, q⟩ := c
  have hn1 : ∀ b o, cs.lookup b = some o → H b = none := fun b o z => (hn b o z).1
  have same : ∀ b o, s.heap.get? b = some o → ∀ o', cs.lookup b = some o' → s'.heap.get? b = some o := fun b o e o' z => by
    rw [(hn b o' z).2] at e
    cases e
    exact pin_at hok (hp b _ z)
  refine ⟨v, rmP cs H', os, bare, ⟨fun b o e n hb hx => ?_, fun b o e n hb hx => ?_, fun b o e n hx => ?_, un.there, fun b xs e => ?_, fun b o v e => ?_, fun b ps e => ?_⟩, hokRm hok hp, r, q⟩
  · cases z : cs.lookup b with
    | none => exact un.keep b o e (by rw [addOut z]; exact n) hb hx
    | some o' => exact same b o e o' z
  · cases z : cs.lookup b with
    | none => exact un.slot b o e (by rw [addOut z]; exact n) hb hx
    | some o' => exact ⟨o.slots, same b o e o' z⟩
  · cases z : cs.lookup b with
    | none => rw [rmOut z]; exact un.free b o e (by rw [addOut z]; exact n) hx
    | some o' => exact rmIn z
  · have z := outN hn1 e
    rw [rmOut z]; exact un.tups b xs (by rw [addOut z]; exact e)
  · have z := outN hn1 e
    rw [rmOut z]; exact un.frzs b o v (by rw [addOut z]; exact e)
  · have z := outN hn1 e
    rw [rmOut z]; exact un.tbls b ps (by rw [addOut z]; exact e)
end
end SY

/-! a lambda without parameters: made, held, called -/
namespace SY
open PySem PySem.Spec PyProof.Rows L2 L2H LamX NdefX Evl
/-- the object at f is the lambda of the words F, its expression ex, its defaults dv -/
def LamO (f : Addr) (F : NF) (ex : Expr) (dv : Value) : HO := .ext fun h => ∃ (od : Option Addr) (sl : Array (Option Value)) (pm ctv : Value), h.get? f = some (⟨.type "function", od, .func { PySem.W.kla_fn F.name F.qual F.params ex F.scope F.cl pm (.ref F.c) ctv with defaults := dv }, sl⟩ : Obj)
theorem lamO_ok {P : Program} {w : World} {H : Hp} {h : Heap} {f : Addr} {F : NF} {ex : Expr} {dv : Value} {od : Option Addr} {sl : Array (Option Value)} {pm ctv : Value} (e : h.get? f = some (⟨.type "function", od, .func { PySem.W.kla_fn F.name F.qual F.params ex F.scope F.cl pm (.ref F.c) ctv with defaults := dv }, sl⟩ : Obj)) : ObjOk P w H h f (LamO f F ex dv) :=
  ⟨⟨od, sl, pm, ctv, e⟩, ⟨_, e⟩, fun h1 h2 ⟨a, b, c, d, z⟩ st => ⟨a, b, c, d, st _ z⟩⟩
theorem lamO_at {P : Program} {w : World} {H : Hp} {h : Heap} {f : Addr} {F : NF} {ex : Expr} {dv : Value} (hok : HOk P w H h) (e : H f = some (LamO f F ex dv)) : ∃ (od : Option Addr) (sl : Array (Option Value)) (pm ctv : Value), h.get? f = some (⟨.type "function", od, .func { PySem.W.kla_fn F.name F.qual F.params ex F.scope F.cl pm (.ref F.c) ctv with defaults := dv }, sl⟩ : Obj) := (hok f _ e).1
theorem lamO_ne {f : Addr} {F : NF} {ex : Expr} {dv : Value} (ps : Array Value) : LamO f F ex dv ≠ .tbl ps := fun z => by
  unfold LamO at z
  cases z
/-- the words of a lambda that X makes -/
abbrev lamF (X : Cx) (params : Arguments) (scope : Scope) (c' : Addr) : NF := ⟨"<lambda>", X.env.qual ++ "<lambda>", params, [], scope, cloFrom X.env.cells scope.names [], c'⟩
section
variable {X : Cx} {pins : List (Addr × Obj)} {σ : L2.St} {H : Hp} {s : Shared}
theorem tabsPut {T : List (Addr × Str)} {P c' : Addr} {q : Str} {ps : Array Value} {pos : Pos} {H : Hp} (hT : Tabs T H) (hu : ∀ p ∈ T, p.1 = P → p.2 = q) (hP : H P = some (.tbl ps)) (ht : TriplesOk ps.toList) (ha : ∀ (p' : Pos) (cv : Value), codeAmong p' ps.toList = some cv → ∃ c, cv = .ref c ∧ H c = some (CodeO c q)) (nC : H c' = none) :
    ExtN H (upd (upd H P (.tbl (ps ++ #[rawInt pos.line, rawInt pos.col, .ref c']))) c' (CodeO c' q)) ∧ Tabs T (upd (upd H P (.tbl (ps ++ #[rawInt pos.line, rawInt pos.col, .ref c']))) c' (CodeO c' q)) := by
  have hE : ExtN H (upd (upd H P (.tbl (ps ++ #[rawInt pos.line, rawInt pos.col, .ref c']))) c' (CodeO c' q)) := fun b o e n => by
    rw [upd_ne (ne_of_none e nC), upd_ne fun z => n ps (by rw [z, hP] at e; exact (Option.some.inj e).symm)]
    exact e
  have eL : (ps ++ #[rawInt pos.line, rawInt pos.col, .ref c']).toList = ps.toList ++ [rawInt pos.line, rawInt pos.col, .ref c'] := by simp
  refine ⟨hE, fun p hp => ?_⟩
  by_cases hb : p.1 = P
  · rw [hu p hp hb, hb]
    refine ⟨_, by rw [upd_ne (ne_of_none hP nC), upd_same], by rw [eL]; exact PySem.TriplesOk_snoc _ _ _ _ ht, fun p' cv z => ?_⟩
    rw [eL] at z
    rcases among_app _ ht z with y | y
    · obtain ⟨c0, e1, e2⟩ := ha p' cv y
      exact ⟨c0, e1, hE _ _ e2 codeO_ne⟩
    · exact ⟨c', y, upd_same⟩
  · obtain ⟨qs, a1, a2, a3⟩ := hT p hp
    refine ⟨qs, by rw [upd_ne (ne_of_none a1 nC), upd_ne hb]; exact a1, a2, fun p' cv z => ?_⟩
    obtain ⟨c0, e1, e2⟩ := a3 p' cv z
    exact ⟨c0, e1, hE _ _ e2 codeO_ne⟩
/-- the lambda is made -/
theorem lam_mk {T : List (Addr × Str)} {c P : Addr} {params : Arguments} {body : Expr} {scope : Scope} {pos : Pos} {E : Value → Shared → Prop} {Q : Value → Shared → Prop} (I : Inv X pins σ H s) (TB : TabB X.base X.mg c P) (hcode : X.env.code = .ref c)
    (hm : (P, X.env.qual ++ "<lambda>") ∈ T) (hu : ∀ p ∈ T, p.1 = P → p.2 = X.env.qual ++ "<lambda>") (hT : Tabs T H) (hdef : defaultsOf params X.env = ([], [])) (hfree : ∀ y ∈ scope.names, y.2 = .free → ∃ c, X.env.cells.lookup y.1 = some c)
    (h : ∀ (f c' : Addr) (H1 : Hp) (s' : Shared), Inv X pins σ H1 s' → ExtN H H1 → Tabs T H1 → H f = none → H1 f = some (LamO f (lamF X params scope c') body .none) → H1 c' = some (CodeO c' (X.env.qual ++ "<lambda>")) → Q (.ref f) s') :
    wpAny (model X.prog X.w) X.A (eval (.Lambda params body scope pos) X.env) Q E s := by
  obtain ⟨ps, hP, ht, ha⟩ := hT _ hm
  have hP' : s.heap.get? P = some { cls := .none, data := .fields ps } := I.hok P _ hP
  have fin : ∀ {H1 : Hp} {h1 : Heap} {tk : Nat} {c' : Addr} {ctv : Value}, Inv X pins σ H1 { s with heap := h1, toks := tk } → s.heap.objs.size ≤ h1.objs.size → ExtN H H1 → Tabs T H1 → H1 c' = some (CodeO c' (X.env.qual ++ "<lambda>")) →
      Q (.ref h1.objs.size) { s with heap := h1.push (PySem.W.kla_obj "<lambda>" (X.env.qual ++ "<lambda>") params body scope (cloFrom X.env.cells scope.names []) ((X.mg "__name__").getD .none) c' ctv), toks := tk } := fun {H1 h1 tk c' ctv} J hsz eN T1 hc => by
    have nF : H1 h1.objs.size = none := J.hok.fresh (Nat.le_refl _)
    have J2 : Inv X pins σ (upd H1 h1.objs.size (LamO h1.objs.size (lamF X params scope c') body .none)) { s with heap := h1.push (PySem.W.kla_obj "<lambda>" (X.env.qual ++ "<lambda>") params body scope (cloFrom X.env.cells scope.names []) ((X.mg "__name__").getD .none) c' ctv), toks := tk } :=
      J.laid (t' := tk) (a := h1.objs.size) (fun b u e => Heap.get?_push_of_some _ e) (Nat.le_refl _) (lamO_ok (Heap.get?_push_size _ rfl))
    have k : ∀ b o, H1 b = some o → upd H1 h1.objs.size (LamO h1.objs.size (lamF X params scope c') body .none) b = some o := fun b o e => (upd_ne (ne_of_none e nF)).trans e
    exact h _ c' _ _ J2 (fun b o e n => k b o (eN b o e n)) (T1.ext k) (I.hok.fresh hsz) upd_same (k _ _ hc)
  refine PySem.W.kla_eval hdef ?_
  cases hc : codeAmong pos ps.toList with
  | none =>
    refine PySem.W.kla_makeFunction (mg := X.mg) (c := c) (P := P) (ps := ps) (closure_ok hfree) I.ok.glob (I.mod.glob.keeps I.bk) hcode (TB.code.keeps I.bk) hP' ht hc TB.gP (TB.bm.keeps I.bk) fun c' ctv h' tk hx hge hlt hrec htb => ?_
    obtain ⟨c2, oc, vs, t, e2, hoc, hd, hv⟩ := hrec
    cases e2
    have nC : H c' = none := I.hok.fresh hge
    obtain ⟨hE, T1⟩ := tabsPut (pos := pos) hT hu hP ht ha nC
    exact fin (inv_table (t' := tk) (more := #[rawInt pos.line, rawInt pos.col, .ref c']) (h' := h') I hP hx htb hge ⟨oc, vs, t, hoc, hd, hv⟩) (Nat.le_trans hge (Nat.le_of_lt hlt)) hE T1 upd_same
  | some cv =>
    obtain ⟨c', e, hco⟩ := ha pos cv hc
    subst e
    exact PySem.W.kla_makeFunctionHit (mg := X.mg) (c := c) (P := P) (ps := ps) (closure_ok hfree) I.ok.glob (I.mod.glob.keeps I.bk) hcode (TB.code.keeps I.bk) hP' ht hc (TB.bm.keeps I.bk) fun ctv h' tk hx hsz => fin (I.kept hx) hsz (ExtN.refl H) hT hco
/-- lambda: body -/
def tLamN (T : List (Addr × Str)) (mk : Addr → NF) (ex : Expr) : TE := fun σ H Q => Tabs T H ∧ ∀ (f c' : Addr) (H1 : Hp), ExtN H H1 → Tabs T H1 → H f = none → H1 f = some (LamO f (mk c') ex .none) → H1 c' = some (CodeO c' (mk c').qual) → Q (.ref f) H1
theorem pe_lamN {T : List (Addr × Str)} {c P : Addr} {params : Arguments} {body : Expr} {scope : Scope} {pos : Pos} (TB : TabB X.base X.mg c P) (hcode : X.env.code = .ref c) (hm : (P, X.env.qual ++ "<lambda>") ∈ T) (hu : ∀ p ∈ T, p.1 = P → p.2 = X.env.qual ++ "<lambda>")
    (L : LamS X.env.scope scope) (hdef : defaultsOf params X.env = ([], [])) : PE X (.Lambda params body scope pos) (tLamN T (lamF X params scope) body) :=
  ⟨fun pins s σ H Q I ⟨hT, q⟩ => lam_mk I TB hcode hm hu hT hdef (L.has I.ok) fun f c' H1 s' I1 eN T1 f0 f1 c1 => ⟨.ref f, H1, I1, rfl, q f c' H1 eN T1 f0 f1 c1⟩⟩
end
/-! ### called -/
/-- what it captured, as told objects -/
structure CapsO (F : NF) (fr : List Str) (ws : List (Option V)) (cs : List (Addr × Obj)) : Prop where
  len : ws.length = fr.length
  inj : ∀ x y c, F.cl.lookup x = some c → F.cl.lookup y = some c → x = y
  all : ∀ y c, F.cl.lookup y = some c → ∃ o v, cs.lookup c = some o ∧ o.data = .cell v
  has : ∀ (i : Nat) (y : Str), fr[i]? = some y → ∃ c o, F.cl.lookup y = some c ∧ cs.lookup c = some o ∧ ∀ v, ws[i]? = some (some v) → ∃ u, L2.RelV v u ∧ o.data = .cell (some u)
theorem CapsO.at {P : Program} {w : World} {F : NF} {fr : List Str} {ws : List (Option V)} {cs : List (Addr × Obj)} {H : Hp} {h : Heap} (C : CapsO F fr ws cs) (hok : HOk P w H h) (hp : ∀ b o, cs.lookup b = some o → H b = some (PinO b o)) : CellsAt F.cl fr ws h (rmP cs H) := by
  refine ⟨C.len, fun y c e => ?_, C.inj, fun i y e => ?_⟩
  · obtain ⟨o, v, z, d⟩ := C.all y c e
    exact ⟨rmIn z, v, o, pin_at hok (hp c o z), d⟩
  · obtain ⟨c, o, e1, z, hv⟩ := C.has i y e
    refine ⟨c, e1, fun v ev => ?_⟩
    obtain ⟨u, r, d⟩ := hv v ev
    exact ⟨u, r, o, pin_at hok (hp c o z), d⟩
theorem lam_run {P : Program} {w : World} {K : PySem.W.Frag} {mg : Str → Option Value} {base : Heap} {N ps fr : List Str} {F : NF} {ex : Expr} {dv : Value} {f : Addr} {k : Nat} {A : Around} {outer : List Env} {s : Shared} {H : Hp} {Q : VK} {E : XK} {vs : List V} {us : List Value} {ws : List (Option V)} {cs : List (Addr × Obj)} {tb : TE}
    (S : NScope N ps fr F.scope) (hr : Room (k + 1) A) (e0 : Env0 P w K mg base A outer s H) (hf : H f = some (LamO f F ex dv)) (hc : H F.c = some (CodeO F.c F.qual)) (hp : ∀ b o, cs.lookup b = some o → H b = some (PinO b o)) (C : CapsO F fr ws cs) (r : Vals vs us) (hl : vs.length = ps.length)
    (hb : ∀ pm ctv : Value, bindArgs { PySem.W.kla_fn F.name F.qual F.params ex F.scope F.cl pm (.ref F.c) ctv with defaults := dv } ⟨[], []⟩ = pure (ps.zip us))
    (hbody : Room k (A.deeper (envF F f s.heap.objs.size)) → PE (ncx (L2N.CX P w) P w K mg base N F f A outer s (rmP cs H) (fun cls d H' => (∀ b o, cs.lookup b = some o → H' b = none) → E cls d (addP cs H'))) ex tb)
    (h : tb (startF N vs ws) (rmP cs H) (fun v H' => (∀ b o, cs.lookup b = some o → H' b = none) → Q v (addP cs H'))) :
    codeAny (model P w) A (.call (.ref f) ⟨[], []⟩) (CR (L2N.CX P w) outer P w H s Q E) s := by
  have e1 := envRm e0 hp
  have lim : s.heap.NoLimit := e0.mod.nolimit.keeps fun b o e => (e0.bs b o e).1
  obtain ⟨od, sl, pm, ctv, ho⟩ := lamO_at e0.hok hf
  have rc : codeAny (model P w) A (.call (.ref f) ⟨[], []⟩) (CR (L2N.CX P w) outer P w (rmP cs H) s (fun v H' => (∀ b o, cs.lookup b = some o → H' b = none) → Q v (addP cs H')) (fun cls d H' => (∀ b o, cs.lookup b = some o → H' b = none) → E cls d (addP cs H'))) s := by
    refine PySem.W.kla_callFunE hr.depth ho rfl S.co S.gen rfl (codeO_at e0.hok hc) ?_
    rw [hb pm ctv]
    refine wpAny_pure (wpAny_newFunctionEnv S.nocell (fun ⟨n, _⟩ hy => S.par n (List.of_mem_zip hy).1) (fun h₁ hns hsb => ⟨lim.fresh _ hsb, ?_⟩) S.kind)
    show codeAny _ _ (.expr ex (envF F f s.heap.objs.size)) _ _
    have kp : ∀ b o, s.heap.get? b = some o → h₁.get? b = some o := fun b o e => hsb.extBut b o (Nat.ne_of_lt (Heap.lt_size e)) (Heap.get?_push_of_some _ e)
    have J : Inv (ncx (L2N.CX P w) P w K mg base N F f A outer s (rmP cs H) (fun cls d H' => (∀ b o, cs.lookup b = some o → H' b = none) → E cls d (addP cs H'))) [] (startF N vs ws) (rmP cs H) { s with heap := h₁, toks := s.toks + (ps.zip us).length } := inv_startN S hr.hd e1 hl r (C.at e0.hok hp) hns kp
    refine PySem.W.kla_codeExpr (wpAny_mono ((hbody (hr.deeper _)).run [] _ _ _ _ J h) (fun v s' ⟨x, H', J', rv, q⟩ => ?_) fun e s' z => z)
    exact ⟨x, H', J'.os, J'.bare, J'.base, J'.hok, rv, q⟩
  refine codeAny_mono rc fun r s' hq => ?_
  cases r with
  | error e => exact cxAdd e0 hp hq
  | ok fl =>
    cases fl with
    | ret u => exact ceAdd e0 hp hq
    | next => exact False.elim hq
    | brk => exact False.elim hq
    | cont => exact False.elim hq
/-- the dict of a refusal -/
abbrev XOut (fs : Option (List (Str × V))) (d : Option Addr) (H' : Hp) : Prop := match fs with
  | none => d = none
  | some l => ∃ dd, d = some dd ∧ H' dd = some (.xd l)
/-- a thing that is called without arguments, and refuses: the class C, the fields fs of its dict (none: it has none) -/
structure Work (P : Program) (w : World) (K : PySem.W.Frag) (mg : Str → Option Value) (base : Heap) (k : Nat) (H : Hp) (f C : Addr) (fs : Option (List (Str × V))) : Prop where
  fn : ∀ h : Heap, HOk P w H h → PySem.W.FnAt f h
  run : ∀ (A : Around) (outer : List Env) (s : Shared) (Q : VK) (E : XK), Room k A → Env0 P w K mg base A outer s H → (∀ d H', Ex H H' → XOut fs d H' → E (.ref C) d H') →
    codeAny (model P w) A (.call (.ref f) ⟨[], []⟩) (CR (L2N.CX P w) outer P w H s Q E) s
/-- x(), x a name that holds it -/
theorem pe_work {P : Program} {w : World} {K : PySem.W.Frag} {mg : Str → Option Value} {base : Heap} {X : Cx} {W : WX} {k i : Nat} {x : Str} {p1 p2 : Pos} (tk : L2N.Takes X W) (hr : Room k X.A) (hN : X.N[i]? = some x) (hv : Vis X.env.scope x) (eP : X.prog = P := by rfl) (ew : X.w = w := by rfl) (eK : X.K = K := by rfl) (eg : X.mg = mg := by rfl) (eb : X.base = base := by rfl) (hd : (x == ("__debug__" : Str)) = false := by decide) (hcd : (x == ("__classdict__" : Str)) = false := by decide) :
    PE X (.Call (.Name x p1) [] [] p2) (fun σ H Q => ∃ f C fs, σ[i]? = some (some (.ref f)) ∧ Work P w K mg base k H f C fs ∧ ∀ d H', Ex H H' → XOut fs d H' → W (.ref C) d σ H') := by
  subst eP ew eK eg eb
  refine ⟨fun pins s σ H Q I ⟨f, C, fs, hs, wk, h⟩ => ?_⟩
  refine wpAny_Call_Name_kw (thn ((pe_var (pos := p1) hN hv hd hcd).run pins s σ H (fun v H1 => v = .ref f ∧ H1 = H) I ⟨.ref f, hs, rfl, rfl⟩) fun u s1 ⟨v, H1, I1, r1, ev, eH⟩ => ?_)
  subst ev
  rw [eH] at I1
  obtain rfl : u = Value.ref f := r1
  refine PySem.W.callWith_F0 (first := []) (wk.fn _ I1.hok) ?_
  show wpAny _ _ (call (.ref f) []) _ _ _
  refine wpAny_call (codeAny_mono (wk.run X.A X.stack s1 Q (fun cls d H' => W cls d σ H') hr I1.env0 h) fun r s' hq => ?_)
  cases r with
  | error e => exact L2N.passAt tk σ pins H s1 e s' I1 hq
  | ok fl =>
    cases fl with
    | ret u => exact I1.after hq
    | next => exact False.elim hq
    | brk => exact False.elim hq
    | cont => exact False.elim hq
end SY

/-! a call that hands a lambda on: what it captured is told meanwhile -/
namespace SY
open PySem PySem.Spec PyProof.Rows L2 L2H LamX NdefX Evl
theorem lookP : ∀ {l : List (Addr × Obj)} {c : Addr} {o : Obj}, (c, o) ∈ l → ∃ o', l.lookup c = some o'
  | [], _, _, h => by cases h
  | (b, u) :: l, c, o, h => by
    by_cases e : c = b
    · rw [e]
      exact ⟨u, by rw [List.lookup_cons, beq_self_eq_true]⟩
    · rcases List.mem_cons.mp h with z | z
      · exact absurd (congrArg Prod.fst z) e
      · obtain ⟨o', q⟩ := lookP z
        refine ⟨o', ?_⟩
        rw [List.lookup_cons, show (c == b) = false from beq_false_of_ne e]
        exact q
/-- the cells of the names fr, as they stand -/
def cellsP (X : Cx) (fr : List Str) (h : Heap) : List (Addr × Obj) := fr.filterMap fun y => (X.env.cells.lookup y).bind fun c => (h.get? c).map fun o => (c, o)
theorem cellsP_of {X : Cx} {fr : List Str} {h : Heap} {b : Addr} {o : Obj} (e : (cellsP X fr h).lookup b = some o) : ∃ y ∈ fr, X.env.cells.lookup y = some b ∧ h.get? b = some o := by
  obtain ⟨y, hy, z⟩ := List.mem_filterMap.mp (PySem.W.mem_of_lookupK e)
  refine ⟨y, hy, ?_⟩
  cases q : X.env.cells.lookup y with
  | none => rw [q] at z; cases z
  | some c =>
    rw [q] at z
    cases r : h.get? c with
    | none =>
      have z' : (h.get? c).map (fun o => (c, o)) = some (b, o) := z
      rw [r] at z'
      cases z'
    | some u =>
      have z' : (h.get? c).map (fun o => (c, o)) = some (b, o) := z
      rw [r] at z'
      cases z'
      exact ⟨rfl, r⟩
theorem cellsP_to {X : Cx} {fr : List Str} {h : Heap} {y : Str} {c : Addr} {o : Obj} (hy : y ∈ fr) (hc : X.env.cells.lookup y = some c) (ho : h.get? c = some o) : (cellsP X fr h).lookup c = some o := by
  obtain ⟨o', e⟩ := lookP (l := cellsP X fr h) (c := c) (o := o) (List.mem_filterMap.mpr ⟨y, hy, by rw [hc]; show (h.get? c).map (fun o => (c, o)) = _; rw [ho]; rfl⟩)
  obtain ⟨_, _, _, z⟩ := cellsP_of e
  rw [ho] at z
  cases z
  exact e
/-- cs: the cells of the names fr of X, told -/
structure CapC (X : Cx) (fr : List Str) (σ : L2.St) (H : Hp) (cs : List (Addr × Obj)) : Prop where
  ok : X.Ok
  free : ∀ b o, cs.lookup b = some o → H b = none
  has : ∀ y ∈ fr, ∀ c, X.env.cells.lookup y = some c → ∃ o v, cs.lookup c = some o ∧ o.data = .cell v
  val : ∀ (j : Nat) (y : Str) (v : V), y ∈ fr → X.N[j]? = some y → σ[j]? = some (some v) → ∃ c o u, X.env.cells.lookup y = some c ∧ cs.lookup c = some o ∧ o.data = .cell (some u) ∧ RelV v u
theorem CapC.of {X : Cx} {fr : List Str} {pins : List (Addr × Obj)} {σ : L2.St} {H : Hp} {s : Shared} (I : Inv X pins σ H s) (hfr : ∀ y ∈ fr, X.env.scope.names.lookup y = some .cell ∨ X.env.scope.names.lookup y = some .free) : CapC X fr σ H (cellsP X fr s.heap) := by
  refine ⟨I.ok, fun b o e => ?_, fun y hy c hc => ?_, fun j y v hy hN hv => ?_⟩
  · obtain ⟨y, hy, hc, _⟩ := cellsP_of e
    exact I.freeC y b hc
  · obtain ⟨v, o, ho, hd⟩ := I.cell y c hc
    exact ⟨o, v, cellsP_to hy hc ho, hd⟩
  · obtain ⟨m, _, hl⟩ := I.loc
    have k := hfr y hy
    obtain ⟨u, r, l⟩ := hl j y v hN hv (k.elim (fun z => .inr (.inl z)) fun z => .inr (.inr z))
    rcases l with ⟨z, _⟩ | ⟨_, c, hc, o, ho, hd⟩
    · have z' : X.env.scope.names.lookup y = some .local := z
      rcases k with k | k <;> rw [k] at z' <;> cases z'
    · exact ⟨c, o, u, hc, cellsP_to hy hc ho, hd, r⟩
/-- .. as the lambda's own -/
theorem CapC.caps {X : Cx} {fr : List Str} {σ : L2.St} {H : Hp} {cs : List (Addr × Obj)} {params : Arguments} {scope : Scope} {c' : Addr} {js : List Nat} (C : CapC X fr σ H cs) (L : LamS X.env.scope scope) (hfr : ∀ y ∈ fr, (y, NameKind.free) ∈ scope.names) (hall : ∀ y ∈ scope.names, y.2 = .free → y.1 ∈ fr) (hjs : js.map (fun j => X.N[j]?) = fr.map some) :
    CapsO (lamF X params scope c') fr (js.map (slotAt σ)) cs := by
  have hf := L.has C.ok
  refine ⟨?_, fun x y c e1 e2 => C.ok.inj x y c (clo_cm hf e1) (clo_cm hf e2), fun y c e => ?_, fun i y e => ?_⟩
  · have q := congrArg List.length hjs
    rw [List.length_map, List.length_map] at q
    rw [List.length_map]
    exact q
  · refine C.has y ?_ c (clo_cm hf e)
    rcases cloFrom_mem (PySem.mem_of_lookup e) with z | ⟨z, _⟩
    · cases z
    · exact hall _ z rfl
  · have hy := List.mem_of_getElem? e
    obtain ⟨c, hc⟩ := hf _ (hfr y hy) rfl
    obtain ⟨o, v, ho, hd⟩ := C.has y hy c hc
    refine ⟨c, o, clo_has hf (hfr y hy) hc, ho, fun v ev => ?_⟩
    have e2 : (js.map fun j => X.N[j]?)[i]? = some (some y) := by
      rw [hjs, List.getElem?_map, e] <;> rfl
    rw [List.getElem?_map] at e2
    cases ej : js[i]? with
    | none => rw [ej] at e2; cases e2
    | some j =>
      rw [ej] at e2
      have hj : X.N[j]? = some y := Option.some.inj (show some (X.N[j]?) = some (some y) from e2)
      rw [List.getElem?_map, ej] at ev
      have ev2 : σ[j]? = some (some v) := slotAt_some (Option.some.inj (show some (slotAt σ j) = some (some v) from ev))
      obtain ⟨c2, o2, u, hc2, ho2, hd2, r⟩ := C.val j y v hy hj ev2
      rw [hc] at hc2
      cases hc2
      rw [ho] at ho2
      cases ho2
      exact ⟨u, r, hd2⟩
/-- f(..): the cells of fr are told in the callee -/
def tCallT (X : Cx) (fr : List Str) (sp : Sp) (t : TA) : TE := fun σ H Q => t σ H fun vs H1 => ∀ cs, CapC X fr σ H1 cs → sp vs (addP cs H1) (fun v H2 => (∀ b o, cs.lookup b = some o → H2 b = some (PinO b o)) ∧ Q v (rmP cs H2)) (fun _ _ _ => False)
theorem pe_callT {X : Cx} {k : Nat} {f : Addr} {fd : FuncData} {ps fr : List Str} {sp : Sp} {x : Str} {p pos : Pos} {e : Expr} {es : List Expr} {t : TA} (F : FnOk X.prog X.w X.K X.mg X.base CX0 k f fd ps sp) (hr : Room k X.A) (hg : Gl X x) (hm : X.mg x = some (.ref f)) (hk : PySem.W.keepIn X.K (.ref f) = true) (hb : Binds X.K fd ps [])
    (hfr : ∀ y ∈ fr, X.fn y = true ∧ (X.env.scope.names.lookup y = some .cell ∨ X.env.scope.names.lookup y = some .free))
    (ha : PA X (e :: es) t) (hdb : (x == ("__debug__" : Str)) = false := by decide) (he : starEach (e :: es) X.env = (false, eval e X.env) :: starEach es X.env := by rfl) (hpl : (backTo pos (starEach es X.env)).any (·.1) = false := by rfl) :
    PE X (.Call (.Name x p) (e :: es) [] pos) (tCallT X fr sp t) := by
  refine ⟨fun pins s σ H Q I h => wpAny_Call_Name_kw (ld_glob I hg hm (PySem.W.callWith_K (h₀ := X.base) I.ok.mod.kin hk (thn (ha.run pos pins s σ H _ I h) fun us s1 ⟨vs, H1, I1, r, q⟩ => ⟨I1.kIn, ?_⟩) he hpl) hdb)⟩
  have C := CapC.of (fr := fr) I1 fun y hy => (hfr y hy).2
  have hq := q _ C
  have hl : us.length = ps.length := by rw [← r.length]; exact F.len _ _ _ _ hq
  have b := hb s1 us I1.kIn (by rw [List.append_nil]; exact hl)
  rw [List.append_nil] at b
  have told : ∀ b o, (cellsP X fr s1.heap).lookup b = some o → H1 b = none ∧ s1.heap.get? b = some o ∧ X.base.get? b = none ∧ b ∉ frs X.stack := fun b o z => by
    obtain ⟨y, hy, hc, ho⟩ := cellsP_of z
    refine ⟨I1.freeC y b hc, ho, Heap.get?_none_of_le (Nat.le_trans I1.ok.bsz (I1.ok.cab y b (hfr y hy).1 hc)), fun hm => ?_⟩
    obtain ⟨v, o', ho', hd⟩ := I1.cell y b hc
    rcases List.mem_cons.mp (I1.stkSub b hm) with z | z
    · exact I1.cne y b hc z
    · have h1 := I1.ok.cab y b (hfr y hy).1 hc
      obtain ⟨_, o2, h2, _⟩ := I1.ok.funs.mem z
      exact absurd (Nat.lt_of_lt_of_le (Heap.lt_size h2) h1) (Nat.lt_irrefl _)
  show wpAny _ _ (call (.ref f) us) _ _ _
  refine wpAny_call (codeAny_mono (F.run X.A X.stack s1 (addP (cellsP X fr s1.heap) H1) ⟨us, []⟩ us vs _ _ hr (envAdd I1.env0 told) b r hq) fun r s' hq => ?_)
  cases r with
  | error e => exact False.elim hq
  | ok fl =>
    cases fl with
    | ret u => exact I1.after (ceRm (fun b o z => ⟨(told b o z).1, (told b o z).2.1⟩) hq)
    | next => exact False.elim hq
    | brk => exact False.elim hq
    | cont => exact False.elim hq
end SY

/-! a def that gives lambdas out; a comprehension in which what lambdas captured is told; lambdas with defaults -/
namespace SY
open PySem PySem.Spec PyProof.Rows L2 L2H LamX NdefX Evl
section
variable {P : Program} {w : World} {H H' : Hp} {h h' : Heap} {fs ex : List Addr} {cs : List (Addr × Obj)}
theorem addNone {b : Addr} (e : addP cs H b = none) : cs.lookup b = none ∧ H b = none := by
  cases z : cs.lookup b with
  | none => rw [addOut z] at e; exact ⟨rfl, e⟩
  | some o => rw [addIn z] at e; cases e
/-- told from the start -/
theorem unAdd (u : Un fs ex H H' h h') : Un fs ex (addP cs H) (addP cs H') h h' := by
  refine ⟨fun b o e n hb hx => u.keep b o e (addNone n).2 hb hx, fun b o e n hb hx => u.slot b o e (addNone n).2 hb hx, fun b o e n hx => ?_, u.there, fun b xs e => ?_, fun b o v e => ?_, fun b ps e => ?_⟩
  · rw [addOut (addNone n).1]; exact u.free b o e (addNone n).2 hx
  all_goals
    have z : cs.lookup b = none := by
      cases q : cs.lookup b with
      | none => rfl
      | some o => rw [addIn q] at e; cases e
    rw [addOut z] at e ⊢
  · exact u.tups b xs e
  · exact u.frzs b o v e
  · exact u.tbls b ps e
/-- told at the end alone: the cells are new -/
theorem unNew (u : Un fs ex H H' h h') (hn : ∀ b o, cs.lookup b = some o → H' b = none ∧ h.get? b = none) : Un fs ex H (addP cs H') h h' := by
  refine ⟨u.keep, u.slot, fun b o e n hx => ?_, u.there, fun b xs e => ?_, fun b o v e => ?_, fun b ps e => ?_⟩
  · have z : cs.lookup b = none := by
      cases q : cs.lookup b with
      | none => rfl
      | some o' => rw [(hn b o' q).2] at e; cases e
    rw [addOut z]; exact u.free b o e n hx
  · have y := u.tups b xs e
    rw [addOut (outN (fun b o z => (hn b o z).1) y)]; exact y
  · have y := u.frzs b o v e
    rw [addOut (outN (fun b o z => (hn b o z).1) y)]; exact y
  · obtain ⟨more, y⟩ := u.tbls b ps e
    exact ⟨more, by rw [addOut (outN (fun b o z => (hn b o z).1) y)]; exact y⟩
/-- told meanwhile -/
theorem unRm (u : Un fs ex (addP cs H) H' h h') (hok : HOk P w H' h') (hn : ∀ b o, cs.lookup b = some o → H b = none ∧ h.get? b = some o) (hp : ∀ b o, cs.lookup b = some o → H' b = some (PinO b o)) : Un fs ex H (rmP cs H') h h' := by
  have hn1 : ∀ b o, cs.lookup b = some o → H b = none := fun b o z => (hn b o z).1
  have same : ∀ b o, h.get? b = some o → ∀ o', cs.lookup b = some o' → h'.get? b = some o := fun b o e o' z => by
    rw [(hn b o' z).2] at e
    cases e
    exact pin_at hok (hp b _ z)
  refine ⟨fun b o e n hb hx => ?_, fun b o e n hb hx => ?_, fun b o e n hx => ?_, u.there, fun b xs e => ?_, fun b o v e => ?_, fun b ps e => ?_⟩
  · cases z : cs.lookup b with
    | none => exact u.keep b o e (by rw [addOut z]; exact n) hb hx
    | some o' => exact same b o e o' z
  · cases z : cs.lookup b with
    | none => exact u.slot b o e (by rw [addOut z]; exact n) hb hx
    | some o' => exact ⟨o.slots, same b o e o' z⟩
  · cases z : cs.lookup b with
    | none => rw [rmOut z]; exact u.free b o e (by rw [addOut z]; exact n) hx
    | some o' => exact rmIn z
  · have z := outN hn1 e
    rw [rmOut z]; exact u.tups b xs (by rw [addOut z]; exact e)
  · have z := outN hn1 e
    rw [rmOut z]; exact u.frzs b o v (by rw [addOut z]; exact e)
  · have z := outN hn1 e
    rw [rmOut z]; exact u.tbls b ps (by rw [addOut z]; exact e)
end
/-! ### a def's body that ends by a return; the names are known there -/
abbrev TR := (L2.St → VK) → L2.St → Hp → Prop
def PSr (X : Cx) (st : List Stmt) (t : TR) : Prop :=
  ∀ (s : Shared) (σ : L2.St) (H : Hp) (D : L2.St → VK), Inv X [] σ H s → t D σ H → wpAny (model X.prog X.w) X.A (execs st X.env) (fun fl s' => ∃ u v σ' H', fl = .ret u ∧ Inv X [] σ' H' s' ∧ RelV v u ∧ D σ' v H') X.xe s
section
variable {X : Cx} {st : Stmt} {rest : List Stmt} {t : TS} {u : TR} {e : Expr} {te : TE} {pos : Pos}
theorem psr_cons (h1 : PS X st t) (h2 : PSr X rest u) : PSr X (st :: rest) (fun D σ H => t { nx := u D, rt := fun _ _ => False } σ H) := fun s σ H D I h => by
  refine wpAny_execs_cons (thn (h1.run [] s σ H _ I h) fun f s1 q => ?_)
  cases f with
  | next =>
    obtain ⟨σ', H', I', q⟩ := q
    exact h2 s1 σ' H' D I' q
  | ret v =>
    obtain ⟨_, _, _, _, _, q⟩ := q
    exact False.elim q
  | brk =>
    obtain ⟨_, _, _, q⟩ := q
    exact False.elim q
  | cont =>
    obtain ⟨_, _, _, q⟩ := q
    exact False.elim q
theorem psr_ret (he : PE X e te) : PSr X [.Return (some e) pos] (fun D σ H => te σ H (D σ)) := fun s σ H D I h => by
  refine wpAny_execs_cons (wpAny_Return_some (thn (he.run [] s σ H _ I h) fun v s1 ⟨x, H1, I1, r1, q1⟩ => ?_))
  exact ⟨v, x, σ, H1, rfl, I1, r1, q1⟩
end
/-- a def; behind it the cells of the names fr are told -/
theorem fn_ofR {CX : CXT} {P : Program} {w : World} {K : PySem.W.Frag} {mg : Str → Option Value} {base : Heap} {k : Nat} {f : Addr} {name qual : Str} {params : Arguments} {body : List Stmt} {scope : Scope} {dV kV doc pm cdv ct oc : Value} {an od : Option Addr}
    {osl : Array (Option Value)} {N ps fr : List Str} {sp : Sp} (lk : K.lookup f = some ⟨oc, od, .func (PySem.W.fnOf name qual params body scope dV kV doc pm an cdv ct), osl⟩) (hcd : PySem.W.codeIn K cdv qual = true) (S : FnScope N ps scope)
    (hfr : ∀ y ∈ fr, scope.names.lookup y = some .cell ∨ scope.names.lookup y = some .free)
    (len : ∀ vs H Q E, sp vs H Q E → vs.length = ps.length)
    (hbody : ∀ (A : Around) (outer : List Env) (s : Shared) (H : Hp) (vs : List V) (Q : VK) (E : XK), Room k (A.deeper (envOfC qual scope s.heap.objs.size f cdv)) → sp vs H Q E →
      ∃ t, PSr (cxOf CX P w K mg base N qual scope f cdv A outer s H E) body t ∧ t (fun σ v H' => ∀ cs, CapC (cxOf CX P w K mg base N qual scope f cdv A outer s H E) fr σ H' cs → Q v (addP cs H')) (L2.start N vs) H) :
    FnOk P w K mg base CX (k + 1) f (PySem.W.fnOf name qual params body scope dV kV doc pm an cdv ct) ps sp := by
  refine ⟨len, fun A outer s H args us vs Q E hr e0 hb r hsp => ?_⟩
  have hl := len _ _ _ _ hsp
  have KX : K.In s.heap := e0.mod.kin.keeps fun b o e => (e0.bs b o e).1
  have lim : s.heap.NoLimit := e0.mod.nolimit.keeps fun b o e => (e0.bs b o e).1
  have hkind : ∀ y ∈ ps.zip us, scope.names.lookup y.1 = some .local ∨ (scope.names.lookup y.1 = some .cell ∧ ((cellsFrom (s.heap.objs.size + 1) scope.names []).lookup y.1).isSome = true) := fun ⟨n, v⟩ hy => by
    rcases S.par n (List.of_mem_zip hy).1 with q | q
    · exact .inl q
    · exact .inr ⟨q, PySem.W.cellsFrom_some _ _ _ (.inl q)⟩
  refine codeAny_call_function hr.depth (KX _ _ lk) rfl S.co S.gen rfl (PySem.W.codeRec_of KX hcd) (hb _ _ _ _ ?_)
  refine wpAny_newFunctionEnv_cells S.kind hkind fun env he s1 x => ?_
  subst he
  refine ⟨lim.keeps x.toInCall.keep, codeAny_func ?_⟩
  obtain ⟨t, ht, hq⟩ := hbody A outer s H vs Q E (hr.deeper _) hsp
  have I : Inv (cxOf CX P w K mg base N qual scope f cdv A outer s H E) [] (L2.start N vs) H s1 := inv_start S hr.hd e0 hl r x
  refine wpAny_mono (ht s1 (L2.start N vs) H _ I hq) (fun fl s' hs => ?_) fun e s' hs => hs
  obtain ⟨u, v, σ', H', rfl, J, rv, q⟩ := hs
  have C := CapC.of (fr := fr) J hfr
  have new : ∀ b o, (cellsP (cxOf CX P w K mg base N qual scope f cdv A outer s H E) fr s'.heap).lookup b = some o → (H' b = none ∧ s'.heap.get? b = some o) ∧ s.heap.get? b = none := fun b o z => by
    obtain ⟨y, hy, hc, ho⟩ := cellsP_of z
    exact ⟨⟨J.freeC y b hc, ho⟩, Heap.get?_none_of_le (J.ok.cab y b rfl hc)⟩
  exact ⟨v, addP _ H', J.os, J.bare, unNew J.base fun b o z => ⟨(new b o z).1.1, (new b o z).2⟩, hokAdd J.hok fun b o z => (new b o z).1, rv, q _ C⟩
/-! ### [x for x in iter if ..]: the cells of fr are told in the block -/
section
variable {X : Cx} {tg : Expr}
def tLcT (X : Cx) (fr : List Str) (wi : TI) (g : TG) (tt : TT) (te : TE) (vs : List Nat) : TE := fun σ H Q => wi σ H fun J H1 => ∀ D, H1 D = none → ∀ cs, CapC X fr σ (upd H1 D (.lst [])) cs → ∃ W : Nat → Nat → Hp → Prop, (∃ m, W 0 m (addP cs (upd H1 D (.lst [])))) ∧ ∀ i m H, W i m H →
  (J.stop i H ∧ (∀ b o, cs.lookup b = some o → H b = some (PinO b o)) ∧ Q (.ref D) (rmP cs H)) ∨ (J.go i H ∧ ∃ Nx : Hp → Prop, (∀ H', Nx H' → ∃ m', m' < m ∧ W (i + 1) m' H') ∧ ∀ x H', J.yld i H x H' → g x (wipe σ vs) H' fun σ2 H2 => wipe σ2 vs = wipe σ vs ∧ tt σ2 H2 fun b H3 =>
    if b = true then te σ2 H3 fun y H4 => ∃ acc, H4 D = some (.lst acc) ∧ acc.length < sizeLine ∧ Nx (upd H4 D (.lst (acc ++ [y]))) else Nx H3)
theorem blkT {s : Shared} {H : Hp} {scope : Scope} {ce : Env} {fp : List Addr} {σ' : L2.St} {s' : Shared} {cs : List (Addr × Obj)} (J : Inv (X.blk s H scope ce fp) [] σ' H s') (hn : ∀ b o, cs.lookup b = some o → H b = none ∧ s'.heap.get? b = some o ∧ X.base.get? b = none ∧ b ∉ frs X.stack ∧ b ≠ ce.locals) (hc : ∀ x c, ce.cells.lookup x = some c → cs.lookup c = none) :
    Inv (X.blk s (addP cs H) scope ce fp) [] σ' (addP cs H) s' := by
  have out : ∀ {b : Addr}, (∀ o, cs.lookup b = some o → False) → H b = none → addP cs H b = none := fun {b} h1 h2 => by
    cases z : cs.lookup b with
    | none => rw [addOut z]; exact h2
    | some o => exact (h1 o z).elim
  exact ⟨⟨J.ok.mod, J.ok.kind, J.ok.glob, J.ok.blt, J.ok.above, J.ok.inj, J.ok.has, J.ok.cab, J.ok.hd, J.ok.frames, J.ok.stk, J.ok.exf, fun b o e => ⟨(J.ok.bs b o e).1, out (fun o' z => by rw [(hn b o' z).2.2.1] at e; cases e) (J.ok.bs b o e).2⟩, J.ok.bsz, J.ok.noex, J.ok.exfs, J.ok.funs, fun b hb => out (fun o' z => (hn b o' z).2.2.2.1 hb) (J.ok.frf b hb)⟩,
    J.os, J.bare, unAdd J.base, J.loc, J.cell, out (fun o' z => (hn _ o' z).2.2.2.2 rfl) J.free, fun x c e => out (fun o' z => by rw [hc x c e] at z; cases z) (J.freeC x c e), (fun q hq => absurd (show q ∈ ([] : List (Addr × Obj)) ++ [] from hq) (by simp)), hokAdd J.hok (fun b o z => ⟨(hn b o z).1, (hn b o z).2.1⟩), J.len⟩
theorem pe_lcT {elt iter : Expr} {ifs : List Expr} {scope : Scope} {own : List (Str × Nat)} {pos : Pos} {wi : TI} {g : TG} {tt : TT} {te : TE} {fr : List Str} (hc : X.calm = true) (hN : X.N.Nodup) (hi : PI X tg iter wi) (ok : BlkOk X.N X.env.scope scope own)
    (hfr : ∀ y ∈ fr, X.fn y = true ∧ (X.env.scope.names.lookup y = some .cell ∨ X.env.scope.names.lookup y = some .free)) (hnc : ∀ y ∈ scope.names, y.2 ≠ .cell) (hno : ∀ y ∈ scope.names, y.2 = .free → y.1 ∉ fr)
    (hg : ∀ (s : Shared) (H : Hp) (C : Addr) (cl : List (Str × Addr)) (fp : List Addr), PG (X.blk s H scope (compEnvC scope cl C X.env) fp) tg g) (ht : ∀ (s : Shared) (H : Hp) (C : Addr) (cl : List (Str × Addr)) (fp : List Addr), PTs (X.blk s H scope (compEnvC scope cl C X.env) fp) ifs tt)
    (he : ∀ (s : Shared) (H : Hp) (C : Addr) (cl : List (Str × Addr)) (fp : List Addr), PE (X.blk s H scope (compEnvC scope cl C X.env) fp) elt te) (hs : ∀ x, foldedSetIterable iter X.env x = pure x := by intro _; rfl) :
    PE X (.ListComp elt [⟨tg, iter, ifs, 0⟩] scope pos) (tLcT X fr wi g tt te (own.map (·.2))) := by
  refine ⟨fun pins s σ H Q I h => ?_⟩
  rw [eval_ListComp]
  have clo : ∀ y ∈ scope.names, y.2 = .free → ∃ c, X.env.cells.lookup y.1 = some c := fun y hy e => (ok.free y hy e).elim (fun k => I.ok.has _ (.inl k)) fun k => I.ok.has _ (.inr k)
  refine wpAny_comprehension_free (use := none) rfl hs (closure_ok clo) ok.kind (fun y hy e => by rw [ok.uniq y hy, e]) (thn (hi.run pins s σ H _ I h) fun _ s1 h1 => thn h1 fun itv s2 ⟨it, fp, tn, J, H2, ei, I2, T, st2, f2, q⟩ => ?_)
  subst ei
  refine wpAny_newObj_type (newEnv_comp ?_) (by show 0 ≤ sizeLine; decide)
  have nD : H2 s2.heap.objs.size = none := I2.hok.fresh (Nat.le_refl _)
  have I3 : Inv X pins σ (upd H2 s2.heap.objs.size (.lst [])) { s2 with heap := s2.heap.push { cls := .type "list", data := .seq ([] : List Value).toArray } } :=
    I2.laid (t' := s2.toks) (fun b o e => Heap.get?_push_of_some _ e) (Nat.le_refl _) ⟨Nat.zero_le _, [], 0, .nil, Heap.get?_push_size _ rfl⟩
  have CC := CapC.of (fr := fr) I3 fun y hy => (hfr y hy).2
  obtain ⟨W, ⟨m0, w0⟩, turn⟩ := q s2.heap.objs.size nD _ CC
  have lt2 : ∀ b ∈ fp, b < s2.heap.objs.size := fun b hb => by
    obtain ⟨o, e, _⟩ := T.obj _ _ st2 b hb
    exact Heap.lt_size e
  have f3 : ∀ b ∈ fp, FpOk X pins (upd H2 s2.heap.objs.size (.lst [])) b ∧ b < (s2.heap.push { cls := .type "list", data := .seq ([] : List Value).toArray }).objs.size := fun b hb =>
    ⟨⟨by rw [upd_ne (Nat.ne_of_lt (lt2 b hb))]; exact (f2 b hb).1, (f2 b hb).2⟩, by rw [Heap.size_push]; exact Nat.lt_succ_of_lt (lt2 b hb)⟩
  have st3 : tn 0 (s2.heap.push { cls := .type "list", data := .seq ([] : List Value).toArray }) := T.keep _ _ _ st2 fun b _ o e => Heap.get?_push_of_some _ e
  have I4 := block_start I3 ok hN f3
  have told : ∀ b o, (cellsP X fr (s2.heap.push { cls := .type "list", data := .seq ([] : List Value).toArray })).lookup b = some o → upd H2 s2.heap.objs.size (.lst []) b = none ∧ (s2.heap.push { cls := .type "list", data := .seq ([] : List Value).toArray }).get? b = some o ∧ X.base.get? b = none ∧ b ∉ frs X.stack ∧ ∃ y ∈ fr, X.env.cells.lookup y = some b := fun b o z => by
    obtain ⟨y, hy, hcl, ho⟩ := cellsP_of z
    refine ⟨I3.freeC y b hcl, ho, Heap.get?_none_of_le (Nat.le_trans I3.ok.bsz (I3.ok.cab y b (hfr y hy).1 hcl)), fun hm => ?_, y, hy, hcl⟩
    rcases List.mem_cons.mp (I3.stkSub b hm) with z | z
    · exact I3.cne y b hcl z
    · have h1 := I3.ok.cab y b (hfr y hy).1 hcl
      obtain ⟨_, o2, h2, _⟩ := I3.ok.funs.mem z
      exact absurd (Nat.lt_of_lt_of_le (Heap.lt_size h2) h1) (Nat.lt_irrefl _)
  generalize eD : s2.heap.objs.size = D at *
  generalize e3 : ({ s2 with heap := s2.heap.push { cls := .type "list", data := .seq ([] : List Value).toArray } } : Shared) = s3 at *
  have eh : s2.heap.push { cls := .type "list", data := .seq ([] : List Value).toArray } = s3.heap := by rw [← e3]
  rw [eh] at f3 st3 told
  generalize eH : upd H2 D (.lst []) = H3 at *
  generalize eC : cellsP X fr s3.heap = cs at *
  rw [cells_none _ _ _ hnc] at I4 ⊢
  have pg := hg s3 (addP cs H3) s3.heap.objs.size (cloFrom X.env.cells scope.names []) fp
  have pt := ht s3 (addP cs H3) s3.heap.objs.size (cloFrom X.env.cells scope.names []) fp
  have pe := he s3 (addP cs H3) s3.heap.objs.size (cloFrom X.env.cells scope.names []) fp
  show codeAny _ _ (.compStart _ 0 (.ref it) (.ref D) (compEnvC scope (cloFrom X.env.cells scope.names []) s3.heap.objs.size X.env)) (compPost _ _ _ _ _ _ s3.heap.objs.size) { s3 with heap := pushCells (s3.heap.push { cls := .type "dict", data := .dict #[] }) scope.names }
  have clN : ∀ x c, (compEnvC scope (cloFrom X.env.cells scope.names []) s3.heap.objs.size X.env).cells.lookup x = some c → cs.lookup c = none := fun x c e => by
    have e : (cloFrom X.env.cells scope.names []).lookup x = some c := e
    cases z : cs.lookup c with
    | none => rfl
    | some o =>
      obtain ⟨_, _, _, _, y, hy, hcl⟩ := told c o z
      have hx := clo_cm clo e
      cases I3.ok.inj x y c hx hcl
      rcases cloFrom_mem (PySem.mem_of_lookup e) with q | ⟨q, _⟩
      · cases q
      · exact absurd hy (hno _ q rfl)
  generalize ec : compEnvC scope (cloFrom X.env.cells scope.names []) s3.heap.objs.size X.env = ce at I4 pg pt pe clN ⊢
  have cL : ce.locals = s3.heap.objs.size := by rw [← ec]; rfl
  have kp : ∀ b o, s3.heap.get? b = some o → (pushCells (s3.heap.push { cls := .type "dict", data := .dict #[] }) scope.names).get? b = some o := fun b o e => pushCells_keeps _ _ _ _ (Heap.get?_push_of_some _ e)
  have st4 := T.keep _ _ _ st3 fun b _ o e => kp b o e
  have I5 := blkT (cs := cs) I4 (fun b o z => by
    obtain ⟨a1, a2, a3, a4, _⟩ := told b o z
    exact ⟨a1, kp b o a2, a3, a4, by rw [cL]; exact Nat.ne_of_lt (Heap.lt_size a2)⟩) clN
  have nfp : ∀ b ∈ fp, addP cs H3 b = none := fun b hb => by
    cases z : cs.lookup b with
    | none => rw [addOut z]; exact (f3 b hb).1.1
    | some o =>
      obtain ⟨_, _, _, _, y, hy, hcl⟩ := told b o z
      exact absurd rfl ((f3 b hb).1.2.2.2.2.1 y b hcl)
  generalize e4 : ({ s3 with heap := pushCells (s3.heap.push { cls := .type "dict", data := .dict #[] }) scope.names } : Shared) = s4 at *
  have st4 : tn 0 s4.heap := by rw [← e4]; exact st4
  have stat : ∀ {σ' : L2.St} {H' : Hp} {s' : Shared}, Inv (X.blk s3 (addP cs H3) scope ce fp) [] σ' H' s' → (∀ b ∈ fp, H' b = none) → ∀ b ∈ fp, FpOk (X.blk s3 (addP cs H3) scope ce fp) [] H' b := fun {σ' H' s'} I' hn b hb =>
    ⟨hn b hb, (I'.ok.exf b hb).1, I'.ok.exfs b hb, .inl hb, fun x c e => (I'.ok.exf b hb).2 x c e, fun q hq => absurd (show q ∈ ([] : List (Addr × Obj)) ++ [] from hq) (by simp)⟩
  have loop : codeAny (model X.prog X.w) X.A (.compLoop (.ListComp elt [⟨tg, iter, ifs, 0⟩] scope pos) 0 (.ref it) (.ref D) ce) (compPost (model X.prog X.w) X.A X.xe none (EP X pins σ Q) (.ref D) s3.heap.objs.size) s4 := by
    refine compLoop_any (fun n s' => ∃ i H', Inv (X.blk s3 (addP cs H3) scope ce fp) [] (wipe σ (own.map (·.2))) H' s' ∧ tn i s'.heap ∧ (∀ b ∈ fp, H' b = none) ∧ W i n H') (fun n s5 ⟨i, H5, I5, st5, n5, w5⟩ => ?_) m0 ⟨0, _, I5, st4, nfp, w0⟩
    rcases turn i n H5 w5 with ⟨stop, hp, qq⟩ | ⟨go, Nx, hNx, step⟩
    · refine thnF (T.done (X.blk s3 (addP cs H3) scope ce fp) rfl rfl rfl hc i [] s5 _ H5 (fun _ _ => False) I5 (stat I5 n5) st5 stop) fun r s6 ⟨hr, I6⟩ => ?_
      subst hr
      have I7 : Inv X pins σ (rmP cs H5) s6 := I3.call' (ch := fp) I6.os (unRm I6.base I6.hok (fun b o z => ⟨(told b o z).1, (told b o z).2.1⟩) hp) (hokRm I6.hok hp) I6.bare fun b hb => ⟨(f3 b hb).1.2.2.2.1, (f3 b hb).1.2.1, (f3 b hb).1.2.2.2.2.1, (f3 b hb).1.2.2.2.2.2⟩
      have nC : H5 s3.heap.objs.size = none := by rw [← cL]; exact I6.free
      have nC2 : rmP cs H5 s3.heap.objs.size = none := by
        cases z : cs.lookup s3.heap.objs.size with
        | none => rw [rmOut z]; exact nC
        | some o => exact rmIn z
      obtain ⟨m, hn, _⟩ := I6.loc
      have hn : s6.heap.Ns s3.heap.objs.size m := by rw [← cL]; exact hn
      obtain ⟨g0, g1, g2, g3, g4, g5⟩ : FpOk X pins (rmP cs H5) s3.heap.objs.size := I3.fpOk (Nat.le_refl _) nC2
      exact ⟨m, hn, fun h' sb => ⟨.ref D, _, I7.turned (t' := s6.toks) (fun b o hb e => (sb.2 b hb).trans e) g0 g1 g3 g4 g5, rfl, qq⟩⟩
    · refine thnF (T.item (X.blk s3 (addP cs H3) scope ce fp) rfl rfl rfl hc i [] s5 _ H5 (fun _ _ => False) I5 (stat I5 n5) st5 go) fun r s6 ⟨u, hr, h6⟩ => ?_
      subst hr
      refine thnF h6 fun _ s7 ⟨x, H7, I7, r7, y7, st7, n7⟩ => ?_
      refine thnF (pg.run _ s7 _ H7 x u _ (I7.pinned (stat I7 n7) (T.obj _ _ st7)) r7 (step x H7 y7)) fun _ s8 ⟨σ8, H8, I8, hw8, q8⟩ => ?_
      refine thnF (pt.run _ s8 σ8 H8 _ I8 q8) fun b s9 ⟨H9, I9, q9⟩ => ?_
      have fin : ∀ {s' : Shared} {H' : Hp}, Inv (X.blk s3 (addP cs H3) scope ce fp) ([] ++ pinsAt fp s7.heap) σ8 H' s' → Nx H' → ∃ m, m < n ∧ ∃ i H', Inv (X.blk s3 (addP cs H3) scope ce fp) [] (wipe σ (own.map (·.2))) H' s' ∧ tn i s'.heap ∧ (∀ b ∈ fp, H' b = none) ∧ W i m H' := fun {s' H'} I' nx => by
        obtain ⟨m', hm, w'⟩ := hNx H' nx
        have pin' : ∀ b ∈ fp, ∀ o, s7.heap.get? b = some o → s'.heap.get? b = some o ∧ H' b = none := fun b hb o e => by
          have z := I'.pin (b, o) (List.mem_append_right _ (List.mem_append_right _ (mem_pinsAt hb e)))
          exact ⟨z.1, z.2.1⟩
        refine ⟨m', hm, i + 1, H', (I'.unpinned (pins := [])).weak (by rw [← hw8, wipe_length]) (fun j v e => ?_), T.keep _ _ _ st7 fun b hb o e => (pin' b hb o e).1, fun b hb => ?_, w'⟩
        · rw [← hw8] at e
          exact (wipe_some e).1
        · obtain ⟨o, e, _⟩ := T.obj _ _ st7 b hb
          exact (pin' b hb o e).2
      cases b with
      | false =>
        rw [if_neg Bool.false_ne_true] at q9 ⊢
        exact fin I9 q9
      | true =>
        rw [if_pos rfl] at q9 ⊢
        exact thnF (pe.run _ s9 σ8 H9 _ I9 q9) fun z s10 ⟨yv, H10, I10, r10, acc, hD10, hz10, nx⟩ => app_ok (X := X.blk s3 (addP cs H3) scope ce fp) I10 hD10 hz10 r10 fun s11 I11 => fin I11 nx
  exact codeAny_compStart_list loop (T.self X.A 0 _ _ _ st4 loop)
/-- every test fails: the list stays empty -/
theorem lcT_none {K : PySem.W.Frag} {fr : List Str} {g : TG} {tt : TT} {te : TE} {vs : List Nat} {σ : L2.St} {H1 : Hp} {Q : VK} {a : Addr} {xs : List V} (ha : H1 a = some (.lst xs))
    (h : ∀ (D : Addr) (cs : List (Addr × Obj)) (i : Nat) (x : V) (H' : Hp), H1 D = none → CapC X fr σ (upd H1 D (.lst [])) cs → xs[i]? = some x → Ex (addP cs (upd H1 D (.lst []))) H' → ∃ σ2, (∀ Q : L2.St → Hp → Prop, Q σ2 H' → g x (wipe σ vs) H' Q) ∧ wipe σ2 vs = wipe σ vs ∧ EvT tt σ2 H' false)
    (hQ : ∀ (D : Addr) (H' : Hp), H1 D = none → Ex (upd H1 D (.lst [])) H' → Q (.ref D) H') :
    ∃ a', V.ref a = .ref a' ∧ (∃ xs, SqL K H1 a' xs) ∧ ∀ D, H1 D = none → ∀ cs, CapC X fr σ (upd H1 D (.lst [])) cs → ∃ W : Nat → Nat → Hp → Prop, (∃ m, W 0 m (addP cs (upd H1 D (.lst [])))) ∧ ∀ i m H, W i m H →
      ((Itl K a').stop i H ∧ (∀ b o, cs.lookup b = some o → H b = some (PinO b o)) ∧ Q (.ref D) (rmP cs H)) ∨ ((Itl K a').go i H ∧ ∃ Nx : Hp → Prop, (∀ H', Nx H' → ∃ m', m' < m ∧ W (i + 1) m' H') ∧ ∀ x H', (Itl K a').yld i H x H' → g x (wipe σ vs) H' fun σ2 H2 => wipe σ2 vs = wipe σ vs ∧ tt σ2 H2 fun b H3 =>
        if b = true then te σ2 H3 fun y H4 => ∃ acc, H4 D = some (.lst acc) ∧ acc.length < sizeLine ∧ Nx (upd H4 D (.lst (acc ++ [y]))) else Nx H3) := by
  refine ⟨a, rfl, ⟨xs, SqL.of ha⟩, fun D nD cs CC => ?_⟩
  have nDa : a ≠ D := fun z => by rw [z, nD] at ha; cases ha
  have ha0 : addP cs (upd H1 D (.lst [])) a = some (.lst xs) := by
    have z : upd H1 D (.lst []) a = some (.lst xs) := by rw [upd_ne nDa]; exact ha
    rw [addOut (outN CC.free z)]; exact z
  refine ⟨fun i m H => m = xs.length - i ∧ i ≤ xs.length ∧ Ex (addP cs (upd H1 D (.lst []))) H, ⟨xs.length, rfl, Nat.zero_le _, Ex.refl _⟩, ?_⟩
  rintro i m H ⟨rfl, hi, e⟩
  have q : SqL K H a xs := SqL.of (e a _ ha0)
  by_cases hlt : i < xs.length
  · refine .inr ⟨⟨xs, xs[i], q, by simp [hlt]⟩, fun H' => Ex (addP cs (upd H1 D (.lst []))) H', fun H' e' => ⟨xs.length - (i + 1), by omega, rfl, hlt, e'⟩, fun x H' y => ?_⟩
    obtain ⟨e', y⟩ := y
    subst e'
    obtain ⟨σ2, hg, hw, ht⟩ := h D cs i x _ nD CC (y xs q) e
    refine hg _ ⟨hw, ht _ (Ex.refl _) _ fun H3 e3 => ?_⟩
    rw [if_neg Bool.false_ne_true]
    exact e.trans e3
  · have ei : i = xs.length := by omega
    subst ei
    have z := rmMonoP (cs := cs) e
    rw [rmAdd CC.free] at z
    exact .inl ⟨⟨xs, q, Nat.le_refl _⟩, fun b o z => e b _ (addIn z), hQ D _ nD z⟩
end
end SY

/-! a lambda with one default: made, called without arguments -/
namespace SY
open PySem PySem.Spec PyProof.Rows L2 L2H LamX NdefX Evl
def LamD (f : Addr) (F : NF) (ex : Expr) (T0 : Addr) : HO := .ext fun h => ∃ (od : Option Addr) (sl : Array (Option Value)) (doc pm ctv : Value), h.get? f = some (⟨.type "function", od, .func (PySem.W.kdv_fn F.name F.qual F.params (.expr ex) F.scope F.cl (.ref T0) doc pm (.ref F.c) ctv), sl⟩ : Obj)
theorem lamD_ok {P : Program} {w : World} {H : Hp} {h : Heap} {f T0 : Addr} {F : NF} {ex : Expr} {od : Option Addr} {sl : Array (Option Value)} {doc pm ctv : Value} (e : h.get? f = some (⟨.type "function", od, .func (PySem.W.kdv_fn F.name F.qual F.params (.expr ex) F.scope F.cl (.ref T0) doc pm (.ref F.c) ctv), sl⟩ : Obj)) : ObjOk P w H h f (LamD f F ex T0) :=
  ⟨⟨od, sl, doc, pm, ctv, e⟩, ⟨_, e⟩, fun h1 h2 ⟨a, b, c, d, u, z⟩ st => ⟨a, b, c, d, u, st _ z⟩⟩
theorem lamD_at {P : Program} {w : World} {H : Hp} {h : Heap} {f T0 : Addr} {F : NF} {ex : Expr} (hok : HOk P w H h) (e : H f = some (LamD f F ex T0)) : ∃ (od : Option Addr) (sl : Array (Option Value)) (doc pm ctv : Value), h.get? f = some (⟨.type "function", od, .func (PySem.W.kdv_fn F.name F.qual F.params (.expr ex) F.scope F.cl (.ref T0) doc pm (.ref F.c) ctv), sl⟩ : Obj) := (hok f _ e).1
section
variable {X : Cx} {pins : List (Addr × Obj)} {σ : L2.St} {H : Hp} {s : Shared}
theorem lam_mkD {T : List (Addr × Str)} {c P : Addr} {params : Arguments} {body e0 : Expr} {scope : Scope} {pos : Pos} {v0 : V} {Q : Value → Shared → Prop} (I : Inv X pins σ H s) (TB : TabB X.base X.mg c P) (hcode : X.env.code = .ref c)
    (hm : (P, X.env.qual ++ "<lambda>") ∈ T) (hu : ∀ p ∈ T, p.1 = P → p.2 = X.env.qual ++ "<lambda>") (hT : Tabs T H) (hd : params.defaults = [e0]) (hk0 : params.kw_defaults = []) (he : PE X e0 (tC v0)) (hfree : ∀ y ∈ scope.names, y.2 = .free → ∃ c, X.env.cells.lookup y.1 = some c)
    (h : ∀ (f c' T0 : Addr) (u : Value) (H1 : Hp) (s' : Shared), Inv X pins σ H1 s' → RelV v0 u → ExtN H H1 → Tabs T H1 → H f = none → H1 f = some (LamD f (lamF X params scope c') body T0) → H1 c' = some (CodeO c' (X.env.qual ++ "<lambda>")) → H1 T0 = some (PinO T0 (PySem.W.kdv_tup [u])) → Q (.ref f) s') :
    wpAny (model X.prog X.w) X.A (eval (.Lambda params body scope pos) X.env) Q X.xe s := by
  refine PySem.W.kdv_lam (by rw [hd]; rfl) hk0 ?_
  rw [hd]
  refine PySem.W.kdv_all1 (thn (he.run pins s σ H (fun v H1 => v = v0 ∧ H1 = H) I ⟨rfl, rfl⟩) fun u s1 ⟨v, H1, I1, r1, ev, eH⟩ => PySem.W.kdv_all0 ?_)
  rw [ev] at r1
  rw [eH] at I1
  rw [makeFunction_eq]
  simp only [List.zip_nil_right, List.filterMap_nil, List.isEmpty_nil, List.isEmpty_cons, if_true, pure_bind, Bool.false_eq_true, if_false]
  refine wpAny_bind (wpAny_newTextTuple ?_)
  have nT0 : H s1.heap.objs.size = none := I1.hok.fresh (Nat.le_refl _)
  have I2 : Inv X pins σ (upd H s1.heap.objs.size (PinO s1.heap.objs.size (PySem.W.kdv_tup [u]))) { s1 with heap := s1.heap.push (PySem.W.kdv_tup [u]) } := I1.laid (t' := s1.toks) (fun b o e => Heap.get?_push_of_some _ e) (Nat.le_refl _) (pin_ok (Heap.get?_push_size _ rfl))
  have k1 : ∀ b o, H b = some o → upd H s1.heap.objs.size (PinO s1.heap.objs.size (PySem.W.kdv_tup [u])) b = some o := fun b o e => (upd_ne (ne_of_none e nT0)).trans e
  have hT2 := hT.ext k1
  have p2 : upd H s1.heap.objs.size (PinO s1.heap.objs.size (PySem.W.kdv_tup [u])) s1.heap.objs.size = some (PinO s1.heap.objs.size (PySem.W.kdv_tup [u])) := upd_same
  have eN1 : ExtN H (upd H s1.heap.objs.size (PinO s1.heap.objs.size (PySem.W.kdv_tup [u]))) := fun b o e _ => k1 b o e
  generalize s1.heap.objs.size = T0 at *
  generalize upd H T0 (PinO T0 (PySem.W.kdv_tup [u])) = HT at *
  show wpAny _ _ (makeTail _ _ params (.expr body) scope X.env (.ref T0) .none none pos pos.line) _ _ { s1 with heap := s1.heap.push (PySem.W.kdv_tup [u]) }
  generalize e2 : ({ s1 with heap := s1.heap.push (PySem.W.kdv_tup [u]) } : Shared) = s2 at *
  obtain ⟨ps, hP, ht, ha⟩ := hT2 _ hm
  have hP' : s2.heap.get? P = some { cls := .none, data := .fields ps } := I2.hok P _ hP
  have fin : ∀ {H1 : Hp} {h1 : Heap} {tk : Nat} {c' : Addr} {doc ctv : Value}, Inv X pins σ H1 { s2 with heap := h1, toks := tk } → s2.heap.objs.size ≤ h1.objs.size → ExtN HT H1 → Tabs T H1 → H1 c' = some (CodeO c' (X.env.qual ++ "<lambda>")) →
      Q (.ref h1.objs.size) { s2 with heap := h1.push (PySem.W.kdv_obj "<lambda>" (X.env.qual ++ "<lambda>") params (.expr body) scope (cloFrom X.env.cells scope.names []) (.ref T0) doc ((X.mg "__name__").getD .none) c' ctv), toks := tk } := fun {H1 h1 tk c' doc ctv} J hsz eN T1 hc => by
    have nF : H1 h1.objs.size = none := J.hok.fresh (Nat.le_refl _)
    have J2 : Inv X pins σ (upd H1 h1.objs.size (LamD h1.objs.size (lamF X params scope c') body T0)) { s2 with heap := h1.push (PySem.W.kdv_obj "<lambda>" (X.env.qual ++ "<lambda>") params (.expr body) scope (cloFrom X.env.cells scope.names []) (.ref T0) doc ((X.mg "__name__").getD .none) c' ctv), toks := tk } :=
      J.laid (t' := tk) (a := h1.objs.size) (fun b u e => Heap.get?_push_of_some _ e) (Nat.le_refl _) (lamD_ok (Heap.get?_push_size _ rfl))
    have k : ∀ b o, H1 b = some o → upd H1 h1.objs.size (LamD h1.objs.size (lamF X params scope c') body T0) b = some o := fun b o e => (upd_ne (ne_of_none e nF)).trans e
    have nH : H h1.objs.size = none := by
      cases q : H h1.objs.size with
      | none => rfl
      | some o =>
        have z := I2.hok.fresh hsz
        rw [k1 _ _ q] at z
        cases z
    exact h _ c' T0 u _ _ J2 r1 (fun b o e n => k b o (eN b o (k1 b o e) n)) (T1.ext k) nH upd_same (k _ _ hc) (k _ _ (eN _ _ p2 fun ps z => by cases z))
  cases hc : codeAmong pos ps.toList with
  | none =>
    refine PySem.W.kdv_makeTail (mg := X.mg) (c := c) (P := P) (ps := ps) (closure_ok hfree) I2.ok.glob (I2.mod.glob.keeps I2.bk) hcode (TB.code.keeps I2.bk) hP' ht hc TB.gP (TB.bm.keeps I2.bk) fun c' ctv doc h' tk hx hge hlt hrec htb => ?_
    obtain ⟨c2, oc, vs, t, e2, hoc, hd, hv⟩ := hrec
    cases e2
    have nC : HT c' = none := I2.hok.fresh hge
    obtain ⟨hE, T1⟩ := tabsPut (pos := pos) hT2 hu hP ht ha nC
    exact fin (inv_table (t' := tk) (more := #[rawInt pos.line, rawInt pos.col, .ref c']) (h' := h') I2 hP hx htb hge ⟨oc, vs, t, hoc, hd, hv⟩) (Nat.le_trans hge (Nat.le_of_lt hlt)) hE T1 upd_same
  | some cv =>
    obtain ⟨c', e, hco⟩ := ha pos cv hc
    subst e
    exact PySem.W.kdv_makeTailHit (mg := X.mg) (c := c) (P := P) (ps := ps) (closure_ok hfree) I2.ok.glob (I2.mod.glob.keeps I2.bk) hcode (TB.code.keeps I2.bk) hP' ht hc (TB.bm.keeps I2.bk) fun ctv doc h' tk hx hsz => fin (I2.kept hx) hsz (ExtN.refl HT) hT2 hco
def FreeS (sc scope : Scope) : Prop := ∀ y ∈ scope.names, y.2 = .free → sc.names.lookup y.1 = some .cell ∨ sc.names.lookup y.1 = some .free
theorem FreeS.has {X : Cx} {scope : Scope} (L : FreeS X.env.scope scope) (ok : X.Ok) : ∀ y ∈ scope.names, y.2 = .free → ∃ c, X.env.cells.lookup y.1 = some c := fun y hy e => (L y hy e).elim (fun k => ok.has _ (.inl k)) fun k => ok.has _ (.inr k)
/-- lambda x=e0: body -/
def tLamD (T : List (Addr × Str)) (mk : Addr → NF) (ex : Expr) (v0 : V) : TE := fun σ H Q => Tabs T H ∧ ∀ (f c' T0 : Addr) (u : Value) (H1 : Hp), RelV v0 u → ExtN H H1 → Tabs T H1 → H f = none → H1 f = some (LamD f (mk c') ex T0) → H1 c' = some (CodeO c' (mk c').qual) → H1 T0 = some (PinO T0 (PySem.W.kdv_tup [u])) → Q (.ref f) H1
theorem pe_lamD {T : List (Addr × Str)} {c P : Addr} {params : Arguments} {body e0 : Expr} {scope : Scope} {pos : Pos} {v0 : V} (TB : TabB X.base X.mg c P) (hcode : X.env.code = .ref c) (hm : (P, X.env.qual ++ "<lambda>") ∈ T) (hu : ∀ p ∈ T, p.1 = P → p.2 = X.env.qual ++ "<lambda>")
    (L : FreeS X.env.scope scope) (hd : params.defaults = [e0]) (hk0 : params.kw_defaults = []) (he : PE X e0 (tC v0)) : PE X (.Lambda params body scope pos) (tLamD T (lamF X params scope) body v0) :=
  ⟨fun pins s σ H Q I ⟨hT, q⟩ => lam_mkD I TB hcode hm hu hT hd hk0 he (L.has I.ok) fun f c' T0 u H1 s' I1 r eN T1 f0 f1 c1 t1 => ⟨.ref f, H1, I1, rfl, q f c' T0 u H1 r eN T1 f0 f1 c1 t1⟩⟩
end
theorem lam_runD {P : Program} {w : World} {K : PySem.W.Frag} {mg : Str → Option Value} {base : Heap} {N fr : List Str} {pn : Str} {F : NF} {ex : Expr} {f T0 : Addr} {k : Nat} {A : Around} {outer : List Env} {s : Shared} {H : Hp} {Q : VK} {E : XK} {v : V} {u : Value} {ws : List (Option V)} {cs : List (Addr × Obj)} {tb : TE}
    (S : NScope N [pn] fr F.scope) (hr : Room (k + 1) A) (e0 : Env0 P w K mg base A outer s H) (hf : H f = some (LamD f F ex T0)) (hc : H F.c = some (CodeO F.c F.qual)) (hT : H T0 = some (PinO T0 (PySem.W.kdv_tup [u]))) (hp : ∀ b o, cs.lookup b = some o → H b = some (PinO b o)) (C : CapsO F fr ws cs) (r : RelV v u)
    (hb : ∀ (s : Shared) (doc pm ctv : Value), s.heap.get? T0 = some (PySem.W.kdv_tup [u]) → BindsTo s (PySem.W.kdv_fn F.name F.qual F.params (.expr ex) F.scope F.cl (.ref T0) doc pm (.ref F.c) ctv) ⟨[], []⟩ [(pn, u)])
    (hbody : Room k (A.deeper (envF F f s.heap.objs.size)) → PE (ncx (L2N.CX P w) P w K mg base N F f A outer s (rmP cs H) (fun cls d H' => (∀ b o, cs.lookup b = some o → H' b = none) → E cls d (addP cs H'))) ex tb)
    (h : tb (startF N [v] ws) (rmP cs H) (fun v H' => (∀ b o, cs.lookup b = some o → H' b = none) → Q v (addP cs H'))) :
    codeAny (model P w) A (.call (.ref f) ⟨[], []⟩) (CR (L2N.CX P w) outer P w H s Q E) s := by
  have e1 := envRm e0 hp
  have lim : s.heap.NoLimit := e0.mod.nolimit.keeps fun b o e => (e0.bs b o e).1
  obtain ⟨od, sl, doc, pm, ctv, ho⟩ := lamD_at e0.hok hf
  have rc : codeAny (model P w) A (.call (.ref f) ⟨[], []⟩) (CR (L2N.CX P w) outer P w (rmP cs H) s (fun v H' => (∀ b o, cs.lookup b = some o → H' b = none) → Q v (addP cs H')) (fun cls d H' => (∀ b o, cs.lookup b = some o → H' b = none) → E cls d (addP cs H'))) s := by
    refine PySem.W.kla_callFunE hr.depth ho rfl S.co S.gen rfl (codeO_at e0.hok hc) (hb s doc pm ctv (pin_at e0.hok hT) _ _ _ _ ?_)
    refine (wpAny_newFunctionEnv S.nocell (fun ⟨n, _⟩ hy => S.par n (by rw [List.mem_singleton] at hy; cases hy; exact List.mem_cons_self)) (fun h₁ hns hsb => ⟨lim.fresh _ hsb, ?_⟩) S.kind)
    show codeAny _ _ (.expr ex (envF F f s.heap.objs.size)) _ _
    have kp : ∀ b o, s.heap.get? b = some o → h₁.get? b = some o := fun b o e => hsb.extBut b o (Nat.ne_of_lt (Heap.lt_size e)) (Heap.get?_push_of_some _ e)
    have J : Inv (ncx (L2N.CX P w) P w K mg base N F f A outer s (rmP cs H) (fun cls d H' => (∀ b o, cs.lookup b = some o → H' b = none) → E cls d (addP cs H'))) [] (startF N [v] ws) (rmP cs H) { s with heap := h₁, toks := s.toks + 1 } := inv_startN (vs := [v]) (us := [u]) S hr.hd e1 rfl (.cons r .nil) (C.at e0.hok hp) hns kp
    refine PySem.W.kla_codeExpr (wpAny_mono ((hbody (hr.deeper _)).run [] _ _ _ _ J h) (fun v s' ⟨x, H', J', rv, q⟩ => ?_) fun e s' z => z)
    exact ⟨x, H', J'.os, J'.bare, J'.base, J'.hok, rv, q⟩
  refine codeAny_mono rc fun r s' hq => ?_
  cases r with
  | error e => exact cxAdd e0 hp hq
  | ok fl =>
    cases fl with
    | ret u => exact ceAdd e0 hp hq
    | next => exact False.elim hq
    | brk => exact False.elim hq
    | cont => exact False.elim hq
end SY

/-! lists of lambdas: what is kept of them -/
namespace SY
open PySem PySem.Spec PyProof.Rows L2 L2H LamX NdefX Evl SB
section
variable {K : PySem.W.Frag} {H H' : Hp}
theorem rdN {a : Addr} {u : HO} (hu : ∀ ps, u ≠ .tbl ps) (e : ExtN H H') (h : Rd H a u) : Rd H' a u := by
  rcases h with h | ⟨o, h⟩
  · exact Or.inl (e a _ h hu)
  · exact Or.inr ⟨o, e a _ h fun ps z => by cases z⟩
mutual
theorem dpN (e : ExtN H H') : ∀ (d : PyData) (v : V), Dp K H v d → Dp K H' v d
  | .none, _, h => by cases h; exact .non
  | .bool b, _, h => by cases h; exact .bl b
  | .int i, _, h => by cases h; exact .int i
  | .str x, _, h => by cases h; exact .str x
  | .list ds, _, h => by
    cases h with
    | lst hs ha => exact .lst (hs.imp (rdN (fun ps z => by cases z) e) id) (dpAllN e ds _ ha)
  | .tuple ds, _, h => by
    cases h with
    | tup hs ha => exact .tup (hs.imp (rdN (fun ps z => by cases z) e) id) (dpAllN e ds _ ha)
  | .dict _, _, h => by cases h
theorem dpAllN (e : ExtN H H') : ∀ (ds : List PyData) (vs : List V), DpAll K H vs ds → DpAll K H' vs ds
  | [], _, h => by cases h; exact .nil
  | d :: ds, _, h => by
    cases h with
    | cons h1 h2 => exact .cons (dpN e d _ h1) (dpAllN e ds _ h2)
end
theorem exN (e : Ex H H') : ExtN H H' := fun b o h _ => e b o h
end
/-! ### what holds of a thing of the heap, and stays -/
abbrev Fact := Hp → Addr → Prop
def Stb (φ : Fact) : Prop := ∀ G G' f, ExtN G G' → φ G f → φ G' f
def Lm (X : Cx) (params : Arguments) (scope : Scope) (ex : Expr) : Fact := fun H f => ∃ c', H f = some (LamO f (lamF X params scope c') ex .none) ∧ H c' = some (CodeO c' (X.env.qual ++ "<lambda>"))
def LmD (X : Cx) (params : Arguments) (scope : Scope) (ex : Expr) (v0 : V) : Fact := fun H f => ∃ c' T0 u, RelV v0 u ∧ H f = some (LamD f (lamF X params scope c') ex T0) ∧ H c' = some (CodeO c' (X.env.qual ++ "<lambda>")) ∧ H T0 = some (PinO T0 (PySem.W.kdv_tup [u]))
theorem stbL {X : Cx} {params : Arguments} {scope : Scope} {ex : Expr} : Stb (Lm X params scope ex) := fun G G' f e ⟨c, h1, h2⟩ => ⟨c, e _ _ h1 lamO_ne, e _ _ h2 codeO_ne⟩
theorem stbD {X : Cx} {params : Arguments} {scope : Scope} {ex : Expr} {v0 : V} : Stb (LmD X params scope ex v0) := fun G G' f e ⟨c, T0, u, r, h1, h2, h3⟩ => ⟨c, T0, u, r, e _ _ h1 (fun ps z => by unfold LamD at z; cases z), e _ _ h2 codeO_ne, e _ _ h3 (fun ps z => by unfold PinO at z; cases z)⟩
/-- it is a work there, and stays one -/
def WkM (P : Program) (w : World) (K : PySem.W.Frag) (mg : Str → Option Value) (base : Heap) (k : Nat) (C : Addr) (fs : Option (List (Str × V))) : Fact := fun H f => ∀ H2, ExtN H H2 → Work P w K mg base k H2 f C fs
theorem stbW {P : Program} {w : World} {K : PySem.W.Frag} {mg : Str → Option Value} {base : Heap} {k : Nat} {C : Addr} {fs : Option (List (Str × V))} : Stb (WkM P w K mg base k C fs) := fun G G' f e h H2 e2 => h H2 (e.trans e2)
structure Ls (T : List (Addr × Str)) (H0 H : Hp) (p : Addr) (fs : List Addr) (φs : List Fact) : Prop where
  lst : H p = some (.lst (fs.map V.ref))
  ext : ExtN H0 (rm H p)
  tab : Tabs T H
  stb : ∀ φ ∈ φs, Stb φ
  all : ∀ f ∈ fs, ∃ φ ∈ φs, φ (rm H p) f
section
variable {T : List (Addr × Str)} {H0 H H1 : Hp} {p f : Addr} {fs : List Addr} {φ : Fact} {φs : List Fact}
theorem neB {H : Hp} {a b : Addr} {o u : HO} (h1 : H a = some o) (h2 : H b = some u) (hn : o ≠ u) : a ≠ b := fun z => by
  rw [z, h2] at h1
  exact hn (Option.some.inj h1).symm
theorem tabUpd {xs ys : List V} (hp : H p = some (.lst xs)) (hT : Tabs T H) : Tabs T (upd H p (.lst ys)) := fun q hq => by
  obtain ⟨ps, h1, h2, h3⟩ := hT q hq
  refine ⟨ps, by rw [upd_ne (neB h1 hp (by intro z; cases z))]; exact h1, h2, fun pos cv hc => ?_⟩
  obtain ⟨c, e1, e2⟩ := h3 pos cv hc
  exact ⟨c, e1, by rw [upd_ne (neB e2 hp (by intro z; cases z))]; exact e2⟩
theorem rmN (e : ExtN H H1) : ExtN (rm H p) (rm H1 p) := fun b o h n => by
  by_cases c : b = p
  · rw [c, rmSame] at h; cases h
  · rw [rmNe c] at h ⊢; exact e b o h n
theorem rmInN : ExtN (rm H p) H := exN rmEx
/-- a fact of a heap, the list told apart -/
theorem lmRm {X : Cx} {params : Arguments} {scope : Scope} {ex : Expr} {xs : List V} (hp : H p = some (.lst xs)) (h : Lm X params scope ex H f) : Lm X params scope ex (rm H p) f := by
  obtain ⟨c, h1, h2⟩ := h
  exact ⟨c, by rw [rmNe (neB h1 hp (by intro z; unfold LamO at z; cases z))]; exact h1, by rw [rmNe (neB h2 hp (by intro z; unfold CodeO at z; cases z))]; exact h2⟩
theorem lmdRm {X : Cx} {params : Arguments} {scope : Scope} {ex : Expr} {v0 : V} {xs : List V} (hp : H p = some (.lst xs)) (h : LmD X params scope ex v0 H f) : LmD X params scope ex v0 (rm H p) f := by
  obtain ⟨c, T0, u, r, h1, h2, h3⟩ := h
  exact ⟨c, T0, u, r, by rw [rmNe (neB h1 hp (by intro z; unfold LamD at z; cases z))]; exact h1, by rw [rmNe (neB h2 hp (by intro z; unfold CodeO at z; cases z))]; exact h2, by rw [rmNe (neB h3 hp (by intro z; unfold PinO at z; cases z))]; exact h3⟩
theorem Ls.app (L : Ls T H0 H p fs φs) (e : ExtN H H1) (t : Tabs T H1) (s : Stb φ) (h : φ (rm H1 p) f) : Ls T H0 (upd H1 p (.lst (fs.map V.ref ++ [V.ref f]))) p (fs ++ [f]) (φ :: φs) := by
  have hp1 := e _ _ L.lst (fun ps z => by cases z)
  refine ⟨by rw [upd_same, List.map_append]; rfl, by rw [rmUpd]; exact L.ext.trans (rmN e), tabUpd hp1 t, fun ψ hψ => ?_, fun g hg => ?_⟩
  · rcases List.mem_cons.mp hψ with z | z
    · rw [z]; exact s
    · exact L.stb ψ z
  · rw [rmUpd]
    rcases List.mem_append.mp hg with z | z
    · obtain ⟨ψ, hψ, hh⟩ := L.all g z
      exact ⟨ψ, List.mem_cons_of_mem _ hψ, L.stb ψ hψ _ _ g (rmN e) hh⟩
    · rw [List.mem_singleton.mp z]
      exact ⟨φ, List.mem_cons_self, h⟩
/-- a new list of things of which something holds -/
theorem Ls.new (e : ExtN H0 H) (t : Tabs T H) (hp : H p = none) (s : ∀ φ ∈ φs, Stb φ) (h : ∀ f ∈ fs, ∃ φ ∈ φs, φ H f) : Ls T H0 (upd H p (.lst (fs.map V.ref))) p fs φs := by
  refine ⟨upd_same, by rw [rmUpd, rmFree hp]; exact e, tabExt t hp, s, fun g hg => by rw [rmUpd, rmFree hp]; exact h g hg⟩
where tabExt {T : List (Addr × Str)} {H : Hp} {p : Addr} {o : HO} (t : Tabs T H) (hp : H p = none) : Tabs T (upd H p o) := t.ext (Ex.new hp)
theorem Ls.one (e : ExtN H0 H) (t : Tabs T H) (hp : H p = none) (s : Stb φ) (h : φ H f) : Ls T H0 (upd H p (.lst [.ref f])) p [f] [φ] := Ls.new (fs := [f]) e t hp (fun ψ hψ => by rw [List.mem_singleton.mp hψ]; exact s) fun g hg => ⟨φ, List.mem_cons_self, by rw [List.mem_singleton.mp hg]; exact h⟩
theorem lmOf {X : Cx} {params : Arguments} {scope : Scope} {ex : Expr} {c' : Addr} (h0 : H f = some (LamO f (lamF X params scope c') ex .none)) (hc : H c' = some (CodeO c' (X.env.qual ++ "<lambda>"))) : Lm X params scope ex H f := ⟨c', h0, hc⟩
theorem lmdOf {X : Cx} {params : Arguments} {scope : Scope} {ex : Expr} {v0 : V} {c' T0 : Addr} {u : Value} (r : RelV v0 u) (h0 : H f = some (LamD f (lamF X params scope c') ex T0)) (hc : H c' = some (CodeO c' (X.env.qual ++ "<lambda>"))) (ht : H T0 = some (PinO T0 (PySem.W.kdv_tup [u]))) : LmD X params scope ex v0 H f := ⟨c', T0, u, r, h0, hc, ht⟩
theorem Ls.mix {ψ : Fact} (e : ExtN H0 H) (t : Tabs T H) (hp : H p = none) (sφ : Stb φ) (sψ : Stb ψ) (h1 : ∀ f ∈ fs, φ H f) (h2 : ψ H f) : Ls T H0 (upd H p (.lst (fs.map V.ref ++ [.ref f]))) p (fs ++ [f]) [φ, ψ] := by
  have L := Ls.new (T := T) (H0 := H0) (p := p) (fs := fs ++ [f]) (φs := [φ, ψ]) e t hp (fun χ hχ => (List.mem_cons.mp hχ).elim (fun z => by rw [z]; exact sφ) fun z => by rw [List.mem_singleton.mp z]; exact sψ) fun g hg => by
    rcases List.mem_append.mp hg with z | z
    · exact ⟨φ, List.mem_cons_self, h1 g z⟩
    · exact ⟨ψ, List.mem_cons_of_mem _ List.mem_cons_self, by rw [List.mem_singleton.mp z]; exact h2⟩
  rw [List.map_append] at L
  exact L
theorem Ls.two {ψ : Fact} {g : Addr} (e : ExtN H0 H) (t : Tabs T H) (hp : H p = none) (sφ : Stb φ) (sψ : Stb ψ) (h1 : φ H f) (h2 : ψ H g) : Ls T H0 (upd H p (.lst [.ref f, .ref g])) p [f, g] [φ, ψ] :=
  Ls.mix (fs := [f]) e t hp sφ sψ (fun f' hf => by rw [List.mem_singleton.mp hf]; exact h1) h2
/-- .. as facts of the whole heap -/
theorem Ls.here (L : Ls T H0 H p fs φs) : ∀ f ∈ fs, ∃ φ ∈ φs, φ H f := fun f hf => by
  obtain ⟨φ, hφ, h⟩ := L.all f hf
  exact ⟨φ, hφ, L.stb φ hφ _ _ f rmInN h⟩
theorem Ls.cat2 {ψ : Fact} {g p' : Addr} {H2 : Hp} (L : Ls T H0 H p fs φs) (e : ExtN H H2) (t : Tabs T H2) (hp : H2 p' = none) (sφ : Stb φ) (sψ : Stb ψ) (h1 : φ H2 f) (h2 : ψ H2 g) : Ls T H0 (upd H2 p' (.lst (fs.map V.ref ++ [.ref f, .ref g]))) p' (fs ++ [f, g]) (φ :: ψ :: φs) := by
  have M := Ls.new (T := T) (H0 := H0) (p := p') (fs := fs ++ [f, g]) (φs := φ :: ψ :: φs) ((L.ext.trans rmInN).trans e) t hp (fun χ hχ => by
    rcases List.mem_cons.mp hχ with z | z
    · rw [z]; exact sφ
    · rcases List.mem_cons.mp z with z | z
      · rw [z]; exact sψ
      · exact L.stb χ z) fun a ha => by
    rcases List.mem_append.mp ha with z | z
    · obtain ⟨χ, hχ, hh⟩ := L.here a z
      exact ⟨χ, List.mem_cons_of_mem _ (List.mem_cons_of_mem _ hχ), L.stb χ hχ _ _ a e hh⟩
    · rcases List.mem_cons.mp z with z | z
      · exact ⟨φ, List.mem_cons_self, by rw [z]; exact h1⟩
      · exact ⟨ψ, List.mem_cons_of_mem _ List.mem_cons_self, by rw [List.mem_singleton.mp z]; exact h2⟩
  rw [List.map_append] at M
  exact M
theorem Ls.extN (L : Ls T H0 H p fs φs) : ExtN H0 H := L.ext.trans rmInN
end
/-! ### a lambda is a work -/
theorem CapC.sub {X : Cx} {fr fr' : List Str} {σ : L2.St} {H : Hp} {cs : List (Addr × Obj)} (C : CapC X fr σ H cs) (h : ∀ y ∈ fr', y ∈ fr) : CapC X fr' σ H cs := ⟨C.ok, C.free, fun y hy => C.has y (h y hy), fun j y v hy => C.val j y v (h y hy)⟩
theorem CapC.capsF {X : Cx} {fr : List Str} {σ : L2.St} {H : Hp} {cs : List (Addr × Obj)} {params : Arguments} {scope : Scope} {c' : Addr} {js : List Nat} (C : CapC X fr σ H cs) (L : FreeS X.env.scope scope) (hfr : ∀ y ∈ fr, (y, NameKind.free) ∈ scope.names) (hall : ∀ y ∈ scope.names, y.2 = .free → y.1 ∈ fr) (hjs : js.map (fun j => X.N[j]?) = fr.map some) :
    CapsO (lamF X params scope c') fr (js.map (slotAt σ)) cs := by
  have hf := L.has C.ok
  refine ⟨?_, fun x y c e1 e2 => C.ok.inj x y c (clo_cm hf e1) (clo_cm hf e2), fun y c e => ?_, fun i y e => ?_⟩
  · have q := congrArg List.length hjs
    rw [List.length_map, List.length_map] at q
    rw [List.length_map]
    exact q
  · refine C.has y ?_ c (clo_cm hf e)
    rcases cloFrom_mem (PySem.mem_of_lookup e) with z | ⟨z, _⟩
    · cases z
    · exact hall _ z rfl
  · have hy := List.mem_of_getElem? e
    obtain ⟨c, hc⟩ := hf _ (hfr y hy) rfl
    obtain ⟨o, v, ho, hd⟩ := C.has y hy c hc
    refine ⟨c, o, clo_has hf (hfr y hy) hc, ho, fun v ev => ?_⟩
    have e2 : (js.map fun j => X.N[j]?)[i]? = some (some y) := by
      rw [hjs, List.getElem?_map, e] <;> rfl
    rw [List.getElem?_map] at e2
    cases ej : js[i]? with
    | none => rw [ej] at e2; cases e2
    | some j =>
      rw [ej] at e2
      have hj : X.N[j]? = some y := Option.some.inj (show some (X.N[j]?) = some (some y) from e2)
      rw [List.getElem?_map, ej] at ev
      have ev2 : σ[j]? = some (some v) := slotAt_some (Option.some.inj (show some (slotAt σ j) = some (some v) from ev))
      obtain ⟨c2, o2, u, hc2, ho2, hd2, r⟩ := C.val j y v hy hj ev2
      rw [hc] at hc2
      cases hc2
      rw [ho] at ho2
      cases ho2
      exact ⟨u, r, hd2⟩
section
variable {P : Program} {w : World} {K : PySem.W.Frag} {mg : Str → Option Value} {base : Heap} {k : Nat} {N fr : List Str} {X : Cx} {params : Arguments} {scope : Scope} {ex : Expr} {H Hx G : Hp} {f C : Addr} {fs : Option (List (Str × V))} {cs : List (Addr × Obj)} {js : List Nat} {σ : L2.St}
theorem workE {E : XK} (hp : ∀ b o, cs.lookup b = some o → H b = some (PinO b o)) (hE : ∀ d H', Ex H H' → XOut fs d H' → E (.ref C) d H') :
    ∀ d H', Ex (rmP cs H) H' → XOut fs d H' → (∀ b o, cs.lookup b = some o → H' b = none) → E (.ref C) d (addP cs H') := fun d H' e hx hfree => by
  have z := addMono (cs := cs) e
  rw [addRm hp] at z
  refine hE d _ z ?_
  cases fs with
  | none => exact hx
  | some l =>
    obtain ⟨dd, rfl, h⟩ := hx
    exact ⟨dd, rfl, by rw [addOut (outN hfree h)]; exact h⟩
theorem workL (h : Lm X params scope ex G f) (eG : ExtN G H) (CC : CapC X fr σ Hx cs) (hp : ∀ b o, cs.lookup b = some o → H b = some (PinO b o)) (S : NScope N [] fr scope) (L : LamS X.env.scope scope) (hfr : ∀ y ∈ fr, (y, NameKind.free) ∈ scope.names) (hall : ∀ y ∈ scope.names, y.2 = .free → y.1 ∈ fr) (hjs : js.map (fun j => X.N[j]?) = fr.map some)
    (hb : ∀ (c' : Addr) (pm ctv : Value), bindArgs { PySem.W.kla_fn "<lambda>" (X.env.qual ++ "<lambda>") params ex scope (cloFrom X.env.cells scope.names []) pm (.ref c') ctv with defaults := .none } ⟨[], []⟩ = pure [])
    (body : ∀ (c' : Addr) (A : Around) (outer : List Env) (s : Shared) (E : XK), Room k (A.deeper (envF (lamF X params scope c') f s.heap.objs.size)) → (∀ d H', Ex (rmP cs H) H' → XOut fs d H' → E (.ref C) d H') →
      ∃ tb, PE (ncx (L2N.CX P w) P w K mg base N (lamF X params scope c') f A outer s (rmP cs H) E) ex tb ∧ ∀ Q : VK, tb (startF N [] (js.map (slotAt σ))) (rmP cs H) Q) : Work P w K mg base (k + 1) H f C fs := by
  obtain ⟨c', h1, h2⟩ := h
  have f1 := eG _ _ h1 lamO_ne
  have c1 := eG _ _ h2 codeO_ne
  refine ⟨fun h hok => ?_, fun A outer s Q E hr e0 hE => ?_⟩
  · obtain ⟨od, sl, pm, ctv, e⟩ := lamO_at hok f1
    exact ⟨_, od, _, sl, e⟩
  · have hb' : Room k (A.deeper (envF (lamF X params scope c') f s.heap.objs.size)) := hr.deeper _
    obtain ⟨tb, hpe, hq⟩ := body c' A outer s (fun cls d H' => (∀ b o, cs.lookup b = some o → H' b = none) → E cls d (addP cs H')) hb' (fun d H' e hx => workE hp hE d H' e hx)
    exact lam_run (k := k) (N := N) (ps := []) (fr := fr) (vs := []) (us := []) (cs := cs) S hr e0 f1 c1 hp (CC.caps (js := js) L hfr hall hjs) .nil rfl (hb c') (fun _ => hpe) (hq _)
theorem workD {v0 : V} {pn : Str} (h : LmD X params scope ex v0 G f) (eG : ExtN G H) (CC : CapC X fr σ Hx cs) (hp : ∀ b o, cs.lookup b = some o → H b = some (PinO b o)) (S : NScope N [pn] fr scope) (L : FreeS X.env.scope scope) (hfr : ∀ y ∈ fr, (y, NameKind.free) ∈ scope.names) (hall : ∀ y ∈ scope.names, y.2 = .free → y.1 ∈ fr) (hjs : js.map (fun j => X.N[j]?) = fr.map some)
    (hb : ∀ (c' T0 : Addr) (u : Value) (s : Shared) (doc pm ctv : Value), s.heap.get? T0 = some (PySem.W.kdv_tup [u]) → BindsTo s (PySem.W.kdv_fn "<lambda>" (X.env.qual ++ "<lambda>") params (.expr ex) scope (cloFrom X.env.cells scope.names []) (.ref T0) doc pm (.ref c') ctv) ⟨[], []⟩ [(pn, u)])
    (body : ∀ (c' : Addr) (A : Around) (outer : List Env) (s : Shared) (E : XK), Room k (A.deeper (envF (lamF X params scope c') f s.heap.objs.size)) → (∀ d H', Ex (rmP cs H) H' → XOut fs d H' → E (.ref C) d H') →
      ∃ tb, PE (ncx (L2N.CX P w) P w K mg base N (lamF X params scope c') f A outer s (rmP cs H) E) ex tb ∧ ∀ Q : VK, tb (startF N [v0] (js.map (slotAt σ))) (rmP cs H) Q) : Work P w K mg base (k + 1) H f C fs := by
  obtain ⟨c', T0, u, r, h1, h2, h3⟩ := h
  have f1 := eG _ _ h1 (fun ps z => by unfold LamD at z; cases z)
  have c1 := eG _ _ h2 codeO_ne
  have t1 := eG _ _ h3 (fun ps z => by unfold PinO at z; cases z)
  refine ⟨fun h hok => ?_, fun A outer s Q E hr e0 hE => ?_⟩
  · obtain ⟨od, sl, doc, pm, ctv, e⟩ := lamD_at hok f1
    exact ⟨_, od, _, sl, e⟩
  · have hb' : Room k (A.deeper (envF (lamF X params scope c') f s.heap.objs.size)) := hr.deeper _
    obtain ⟨tb, hpe, hq⟩ := body c' A outer s (fun cls d H' => (∀ b o, cs.lookup b = some o → H' b = none) → E cls d (addP cs H')) hb' (fun d H' e hx => workE hp hE d H' e hx)
    exact lam_runD (k := k) (N := N) (fr := fr) (cs := cs) S hr e0 f1 c1 t1 hp (CC.capsF (js := js) L hfr hall hjs) r (hb c' T0 u) (fun _ => hpe) (hq _)
end
end SY

/-! all(..) of a list of bools in an except suite -/
namespace SY
open PySem PySem.Spec PyProof.Rows L2 L2H HotX
theorem walksH {prog : Program} {w : World} {A : Around} (I ax x1 : Addr) (hne : ax ≠ I) (hx : x1 ≠ I) (items : Array Value) :
    Walks prog w A I [I, ax, x1] [I] items.size (fun i v => items[i]? = some v) (fun i h => h.IsListIter I ax i ∧ h.IsList ax items ∧ HotAt A x1 h) where
  sub := fun b hb => by rw [List.mem_singleton.mp hb]; exact List.mem_cons_self
  frame := fun _ _ _ st hk => ⟨st.1.at fun o e => hk I (by simp) o e, st.2.1.at fun o e => hk ax (by simp) o e, by
    obtain ⟨h1, o, vs, e, d, c⟩ := st.2.2
    exact ⟨h1, o, vs, hk x1 (by simp) o e, d, c⟩⟩
  item := fun i s Q E hi st hQ => by
    refine wpAny_pyNext_list_item st.1 st.2.1 (x := items[i]) (by simp [hi]) fun h' hit' hs' => ?_
    refine hQ _ h' s.toks (by simp [hi]) ⟨hit', st.2.1.extBut hs'.extBut hne, ?_⟩ fun b o hb e => hs'.extBut b o (fun h => hb (by simp [h])) e
    obtain ⟨h1, o, vs, e, d, c⟩ := st.2.2
    exact ⟨h1, o, vs, hs'.extBut x1 o hx e, d, c⟩
  done := fun s Q E st hQ => nextL_hot st.2.2 st.1 st.2.1 (by simp) fun h' he' => hQ h' s.toks fun b o hb e => he' b o (fun h => hb (by simp [h])) e
  self := fun _ _ _ _ st hQ => wpAny_pyIter_listiter st.1 hQ
theorem cr_allH {X : Cx} (hc : HotC X) : CallR X (.builtin "all") (rAll X.K) := by
  intro pins s σ H vs us Q I r h
  obtain ⟨a, bs, rfl, hs, q⟩ := h
  obtain ⟨its, rv, hl, _⟩ := I.list hs
  obtain ⟨x1, hot⟩ := hc.at I
  rw [Vals.ref1 r]
  have hb := rv.bls
  refine call_all_walk (iter_any hl.isList fun s₂ e2 st hne => ?_)
  subst e2
  obtain ⟨hh, o1, vs1, e1, d1, c1⟩ := hot
  refine ⟨_, _, _, _, _, _, _, rfl, walksH (A := X.A.in1) _ a x1 hne (Nat.ne_of_lt (Heap.lt_size e1)) its.toArray, ⟨st.1, st.2, hh, o1, vs1, Heap.get?_push_of_some _ e1, d1, c1⟩, truth_bools hb, fun h' tk hk => ?_⟩
  refine ⟨.bl _, H, I.kept fun b o eo => hk b o (fun hmem => ?_) (Heap.get?_push_of_some _ eo), ?_, q⟩
  · rw [List.mem_singleton.mp hmem] at eo
    exact absurd (Heap.lt_size eo) (Nat.lt_irrefl _)
  · show Value.bool _ = Value.bool _
    rw [← L2.all_range, hb, List.size_toArray, List.length_map]
end SY

/-! the end where several defs make lambdas: their tables are empty -/
namespace SY
open PySem PySem.Spec PyProof.Rows L2 LamX
theorem walk_ofAll {l : PySem.W.OpenLaw} {n k : Nat} {q : Program} {loose : List Str} {XP : (Str → Option Value) → Heap → Prop} {YP : World → Heap → Prop} {d : DefRec} {K : Params → PySem.W.Frag} {CX : World → CXT} {x : Str} (nms : List Str)
    (hn : l.most = some n) (hn2 : n ≤ sizeLine) (hdf : d.params.defaults = []) (hr : Room k callerA) (hrec : ∀ nm ∈ nms, ((recsOf q).any fun e => e.name == nm) = true) (hY : ∀ (w : World) (h : Heap), YP w h → (K w.params).In h)
    (F : ∀ (w : World) (mg : Str → Option Value) (fa : Addr) (h : Heap), YP w h → (K w.params).In h → h.Ns mainGlobals mg → mg d.name = some (.ref fa) → (∀ nm ∈ nms, ∀ fb, mg nm = some (.ref fb) → OwnTab (K w.params) fb h) → LawAtS l w (K w.params) (CX w) k n x mg fa h)
    (hCX : ∀ (w : World) (H : Hp) (s : Shared) (e : Value) (s' : Shared), CX w [] H s (fun _ _ _ => False) e s' → False) :
    PySem.W.WalkO q loose XP YP l.row.toRowW d [] (fun f vs => PySem.call f vs) := by
  refine Att.attach_callB hn hdf fun w s₀ s₁ mg mb fa o pm cd doc a vs ns G Y ho hd hcd hmg hobj hints hlen hbits hg => ?_
  have KX := hY w _ Y
  have own : ∀ nm ∈ nms, ∀ fb, mg nm = some (.ref fb) → OwnTab (K w.params) fb s₁.heap := fun nm hnm fb hfb c P o1 fd1 e dd vs1 sl k1 k2 k3 k4 k5 => by
    obtain ⟨dL, hm, hn1⟩ := List.any_eq_true.mp (hrec nm hnm)
    have hn2 : dL.name = nm := beq_iff_eq.mp hn1
    obtain ⟨a', o', fd', c', P', h1, h2, h3, h4, h5, h6⟩ := G.T.tab dL hm
    rw [hn2, hfb] at h1
    cases h1
    have g1 := KX _ _ k1
    rw [g1] at h2
    cases h2
    rw [k2] at h3
    cases h3
    rw [k3] at h4
    cases h4
    obtain ⟨⟨oc, vc, e1, _, e3, e4⟩, hP⟩ := h6
    have g2 := KX _ _ k4
    rw [g2] at e1
    cases e1
    cases e3
    rw [k5] at e4
    cases e4
    exact hP
  obtain ⟨fd, cs, sp, hT, nT, C, hb, hsp, hF⟩ := F w mg fa _ Y KX G.T.g hmg own
  exact law_callTs KX G.T.g G.T.b G.T.builtins G.T.nolimit hg hT nT C G.T.bmain hobj hints (Nat.le_trans hlen hn2) hr hF hb (fun H hH hS => hsp H a ns hlen hbits hH hS) fun H e s' => hCX w H s₁ e s'
end SY

namespace SG
open PySem PySem.Spec PyProof.Rows L2 Evl SB SM
def topS (i : Nat) : Stmt := PySem.Challenge.pw_signsets_k01_sets_refused.main.body.getD i (.Pass ⟨0, 0, 0, 0⟩)
abbrev sCheckSize : Stmt := topS 9
abbrev nCheckSize : List Str := ["size"]
theorem scCheckSize : FnScope nCheckSize ["size"] (defScope sCheckSize) := ⟨rfl, rfl, rfl, by decide +kernel, rfl, by decide +kernel, by decide +kernel⟩
abbrev sCheckSet : Stmt := topS 10
abbrev nCheckSet : List Str := ["size", "ranges", "number", "at", "first", "last"]
theorem scCheckSet : FnScope nCheckSet ["size", "ranges", "number"] (defScope sCheckSet) := ⟨rfl, rfl, rfl, by decide +kernel, rfl, by decide +kernel, by decide +kernel⟩
abbrev sCheckNumber : Stmt := topS 11
abbrev nCheckNumber : List Str := ["size", "number"]
theorem scCheckNumber : FnScope nCheckNumber ["size", "number"] (defScope sCheckNumber) := ⟨rfl, rfl, rfl, by decide +kernel, rfl, by decide +kernel, by decide +kernel⟩
abbrev sMarksOf : Stmt := topS 12
abbrev nMarksOf : List Str := ["size", "ranges", "marks", "first", "last", "sign"]
theorem scMarksOf : FnScope nMarksOf ["size", "ranges"] (defScope sMarksOf) := ⟨rfl, rfl, rfl, by decide +kernel, rfl, by decide +kernel, by decide +kernel⟩
abbrev sCheckedMarks : Stmt := topS 13
abbrev nCheckedMarks : List Str := ["size", "sets", "number", "ranges"]
theorem scCheckedMarks : FnScope nCheckedMarks ["size", "sets"] (defScope sCheckedMarks) := ⟨rfl, rfl, rfl, by decide +kernel, rfl, by decide +kernel, by decide +kernel⟩
abbrev sRangesOf : Stmt := topS 14
abbrev nRangesOf : List Str := ["marks", "told", "start", "sign", "marked"]
theorem scRangesOf : FnScope nRangesOf ["marks"] (defScope sRangesOf) := ⟨rfl, rfl, rfl, by decide +kernel, rfl, by decide +kernel, by decide +kernel⟩
abbrev sMembers : Stmt := topS 15
abbrev nMembers : List Str := ["size", "ranges", "marks", "sign", "marked"]
theorem scMembers : FnScope nMembers ["size", "ranges"] (defScope sMembers) := ⟨rfl, rfl, rfl, by decide +kernel, rfl, by decide +kernel, by decide +kernel⟩
abbrev sPlain : Stmt := topS 16
abbrev nPlain : List Str := ["size", "ranges"]
theorem scPlain : FnScope nPlain ["size", "ranges"] (defScope sPlain) := ⟨rfl, rfl, rfl, by decide +kernel, rfl, by decide +kernel, by decide +kernel⟩
abbrev sJoined : Stmt := topS 17
abbrev nJoined : List Str := ["size", "one", "other", "left", "right", "a", "b"]
theorem scJoined : FnScope nJoined ["size", "one", "other"] (defScope sJoined) := ⟨rfl, rfl, rfl, by decide +kernel, rfl, by decide +kernel, by decide +kernel⟩
abbrev sCommon : Stmt := topS 18
abbrev nCommon : List Str := ["size", "one", "other", "left", "right", "a", "b"]
theorem scCommon : FnScope nCommon ["size", "one", "other"] (defScope sCommon) := ⟨rfl, rfl, rfl, by decide +kernel, rfl, by decide +kernel, by decide +kernel⟩
abbrev sLess : Stmt := topS 19
abbrev nLess : List Str := ["size", "one", "other", "left", "right", "a", "b"]
theorem scLess : FnScope nLess ["size", "one", "other"] (defScope sLess) := ⟨rfl, rfl, rfl, by decide +kernel, rfl, by decide +kernel, by decide +kernel⟩
abbrev sOthers : Stmt := topS 20
abbrev nOthers : List Str := ["size", "ranges", "marks", "marked"]
theorem scOthers : FnScope nOthers ["size", "ranges"] (defScope sOthers) := ⟨rfl, rfl, rfl, by decide +kernel, rfl, by decide +kernel, by decide +kernel⟩
abbrev sInside : Stmt := topS 21
abbrev nInside : List Str := ["size", "ranges", "number", "left", "looked", "low", "high", "middle", "first", "last"]
theorem scInside : FnScope nInside ["size", "ranges", "number"] (defScope sInside) := ⟨rfl, rfl, rfl, by decide +kernel, rfl, by decide +kernel, by decide +kernel⟩
abbrev sRowOf : Stmt := topS 23
abbrev nRowOf : List Str := ["size", "all_marks", "numbers", "row", "sign", "held", "marks"]
theorem scRowOf : FnScope nRowOf ["size", "all_marks"] (defScope sRowOf) := ⟨rfl, rfl, rfl, by decide +kernel, rfl, by decide +kernel, by decide +kernel⟩
abbrev sClasses : Stmt := topS 24
abbrev nClasses : List Str := ["size", "sets", "row", "mine", "number"]
theorem scClasses : FnScope nClasses ["size", "sets"] (defScope sClasses) := ⟨rfl, rfl, rfl, by decide +kernel, rfl, by decide +kernel, by decide +kernel⟩
abbrev sClassRow : Stmt := topS 25
abbrev nClassRow : List Str := ["size", "sets"]
theorem scClassRow : FnScope nClassRow ["size", "sets"] (defScope sClassRow) := ⟨rfl, rfl, rfl, by decide +kernel, rfl, by decide +kernel, by decide +kernel⟩
abbrev sByClasses : Stmt := topS 26
abbrev nByClasses : List Str := ["size", "sets", "all_marks", "row", "number", "marked", "marks"]
theorem scByClasses : FnScope nByClasses ["size", "sets"] (defScope sByClasses) := ⟨rfl, rfl, rfl, by decide +kernel, rfl, by decide +kernel, by decide +kernel⟩
abbrev sStretchRows : Stmt := topS 28
abbrev nStretchRows : List Str := ["marks", "wide", "text", "marked", "start"]
theorem scStretchRows : FnScope nStretchRows ["marks", "wide"] (defScope sStretchRows) := ⟨rfl, rfl, rfl, by decide +kernel, rfl, by decide +kernel, by decide +kernel⟩
abbrev sTableOf : Stmt := topS 29
abbrev nTableOf : List Str := ["all_marks", "wide", "numbers", "firsts", "marks", "rows", "row"]
theorem scTableOf : FnScope nTableOf ["all_marks", "wide"] (defScope sTableOf) := ⟨rfl, rfl, rfl, by decide +kernel, rfl, by decide +kernel, by decide +kernel⟩
abbrev sCellsOf : Stmt := topS 30
abbrev nCellsOf : List Str := ["told", "firsts", "rows", "numbers", "row"]
theorem scCellsOf : FnScope nCellsOf ["told"] (defScope sCellsOf) := ⟨rfl, rfl, rfl, by decide +kernel, rfl, by decide +kernel, by decide +kernel⟩
abbrev sTable : Stmt := topS 31
abbrev nTable : List Str := ["size", "sets", "wide", "all_marks"]
theorem scTable : FnScope nTable ["size", "sets", "wide"] (defScope sTable) := ⟨rfl, rfl, rfl, by decide +kernel, rfl, by decide +kernel, by decide +kernel⟩
abbrev sLook : Stmt := topS 32
abbrev nLook : List Str := ["size", "told", "which", "number", "firsts", "rows", "stretch", "place"]
theorem scLook : FnScope nLook ["size", "told", "which", "number"] (defScope sLook) := ⟨rfl, rfl, rfl, by decide +kernel, rfl, by decide +kernel, by decide +kernel⟩
abbrev sLeast : Stmt := topS 33
abbrev nLeast : List Str := ["size", "sets", "all_marks", "wide"]
theorem scLeast : FnScope nLeast ["size", "sets"] (defScope sLeast) := ⟨rfl, rfl, rfl, by decide +kernel, rfl, by decide +kernel, by decide +kernel⟩
abbrev sItemRange : Stmt := topS 35
abbrev nItemRange : List Str := ["numbers", "item", "head", "dash", "tail"]
theorem scItemRange : FnScope nItemRange ["numbers", "item"] (defScope sItemRange) := ⟨rfl, rfl, rfl, by decide +kernel, rfl, by decide +kernel, by decide +kernel⟩
abbrev sItemRanges : Stmt := topS 36
abbrev nItemRanges : List Str := ["size", "items", "numbers", "told", "end", "place", "item", "found", "sign"]
theorem scItemRanges : FnScope nItemRanges ["size", "items"] (defScope sItemRanges) := ⟨rfl, rfl, rfl, by decide +kernel, rfl, by decide +kernel, by decide +kernel⟩
abbrev sRead : Stmt := topS 37
abbrev nRead : List Str := ["size", "text", "rest", "items", "marks", "marked"]
theorem scRead : FnScope nRead ["size", "text"] (defScope sRead) := ⟨rfl, rfl, rfl, by decide +kernel, rfl, by decide +kernel, by decide +kernel⟩
abbrev sItemText : Stmt := topS 38
abbrev nItemText : List Str := ["first", "last"]
theorem scItemText : FnScope nItemText ["first", "last"] (defScope sItemText) := ⟨rfl, rfl, rfl, by decide +kernel, rfl, by decide +kernel, by decide +kernel⟩
abbrev sItemsText : Stmt := topS 39
abbrev nItemsText : List Str := ["marks", "first", "last"]
theorem scItemsText : FnScope nItemsText ["marks"] (defScope sItemsText) := ⟨rfl, rfl, rfl, by decide +kernel, rfl, by decide +kernel, by decide +kernel⟩
abbrev sWritten : Stmt := topS 40
abbrev nWritten : List Str := ["size", "ranges", "marks", "straight", "turned", "marked"]
theorem scWritten : FnScope nWritten ["size", "ranges"] (defScope sWritten) := ⟨rfl, rfl, rfl, by decide +kernel, rfl, by decide +kernel, by decide +kernel⟩
abbrev sLawDice : Stmt := topS 42
abbrev nLawDice : List Str := ["_law_script", "_law_k", "_law_found", "_law_cell"]
theorem scLawDice : FnScope nLawDice ["_law_script", "_law_k"] (defScope sLawDice) := ⟨rfl, rfl, rfl, by decide +kernel, rfl, by decide +kernel, by decide +kernel⟩
abbrev sLawOff : Stmt := topS 43
abbrev nLawOff : List Str := ["_law_d", "_law_most", "_law_found"]
theorem scLawOff : FnScope nLawOff ["_law_d", "_law_most"] (defScope sLawOff) := ⟨rfl, rfl, rfl, by decide +kernel, rfl, by decide +kernel, by decide +kernel⟩
abbrev sLawAlike : Stmt := topS 44
abbrev nLawAlike : List Str := ["_law_found", "_law_due", "_law_k"]
theorem scLawAlike : FnScope nLawAlike ["_law_found", "_law_due"] (defScope sLawAlike) := ⟨rfl, rfl, rfl, by decide +kernel, rfl, by decide +kernel, by decide +kernel⟩
abbrev sLawRefused : Stmt := topS 45
abbrev nLawRefused : List Str := ["_law_work", "_law_word", "_law_value", "_law_e", "_law_kinds", "_law_words", "_law_one"]
theorem scLawRefused : FnScope nLawRefused ["_law_work", "_law_word", "_law_value"] (defScope sLawRefused) := ⟨rfl, rfl, rfl, by decide +kernel, rfl, by decide +kernel, by decide +kernel⟩
abbrev sLawSize : Stmt := topS 46
abbrev nLawSize : List Str := ["_law_d"]
theorem scLawSize : FnScope nLawSize ["_law_d"] (defScope sLawSize) := ⟨rfl, rfl, rfl, by decide +kernel, rfl, by decide +kernel, by decide +kernel⟩
abbrev sLawSet : Stmt := topS 47
abbrev nLawSet : List Str := ["_law_d", "_law_size_here", "_law_most", "_law_wide", "_law_found", "_law_turn", "_law_first"]
theorem scLawSet : FnScope nLawSet ["_law_d", "_law_size_here", "_law_most"] (defScope sLawSet) := ⟨rfl, rfl, rfl, by decide +kernel, rfl, by decide +kernel, by decide +kernel⟩
abbrev sLawBad : Stmt := topS 48
abbrev nLawBad : List Str := ["_law_d", "_law_size_here", "_law_ranges", "_law_at", "_law_far", "_law_odd", "_law_bad_here"]
theorem scLawBad : FnScope nLawBad ["_law_d", "_law_size_here", "_law_ranges"] (defScope sLawBad) := ⟨rfl, rfl, rfl, by decide +kernel, rfl, by decide +kernel, by decide +kernel⟩
abbrev sLawSingle : Stmt := topS 49
abbrev nLawSingle : List Str := ["_law_size_here", "_law_ranges", "_law_works"]
theorem scLawSingle : FnScope nLawSingle ["_law_size_here", "_law_ranges"] (defScope sLawSingle) := ⟨rfl, rfl, rfl, by decide +kernel, rfl, by decide +kernel, by decide +kernel⟩
abbrev sLawSeveral : Stmt := topS 50
abbrev nLawSeveral : List Str := ["_law_size_here", "_law_sets", "_law_works"]
theorem scLawSeveral : FnScope nLawSeveral ["_law_size_here", "_law_sets"] (defScope sLawSeveral) := ⟨rfl, rfl, rfl, by decide +kernel, rfl, by decide +kernel, by decide +kernel⟩
abbrev sLaw : Stmt := topS 51
abbrev nLaw : List Str := ["_law_script", "_law_d", "_law_at", "_law_works", "_law_which", "_law_sets", "_law_bad_here", "_law_far", "_law_found", "_law_odd", "_law_ranges", "_law_size_here", "_law_a", "_law_work", "_law_b", "_law_c", "_law_e", "_law_f"]
theorem scLaw : FnScope nLaw ["_law_script"] (defScope sLaw) := ⟨rfl, rfl, rfl, by decide +kernel, rfl, by decide +kernel, by decide +kernel⟩
/-! ### data -/
def rD (r : Nat × Nat) : PyData := .tuple [.int (r.1 : Int), .int (r.2 : Int)]
def sD (rs : List (Nat × Nat)) : PyData := .list (rs.map rD)
def bls (n : Nat) (m : Nat → Bool) : List PyData := (List.range n).map fun i => .bool (m i)
theorem bls_len (n : Nat) (m : Nat → Bool) : (bls n m).length = n := by unfold bls; rw [List.length_map, List.length_range]
theorem getD_bls {n i : Nat} (m : Nat → Bool) (h : i < n) : (bls n m).getD i .none = .bool (m i) := by
  unfold bls
  rw [List.getD_eq_getElem?_getD, List.getElem?_map, List.getElem?_range h]; rfl
theorem getD_map {α : Type} (f : α → PyData) : ∀ {xs : List α} {i : Nat} {x : α}, xs[i]? = some x → (xs.map f).getD i .none = f x := fun {xs i x} h => by
  rw [List.getD_eq_getElem?_getD, List.getElem?_map, h]; rfl
theorem noLs_map {α : Type} {f : α → PyData} (h : ∀ x, noL (f x) = true) : ∀ xs : List α, noLs (xs.map f) = true
  | [] => rfl
  | x :: xs => by
    show (noL (f x) && noLs (xs.map f)) = true
    rw [h x, noLs_map h xs]; rfl
theorem noL_rD (r : Nat × Nat) : noL (rD r) = true := rfl
theorem noL_bls (n : Nat) (m : Nat → Bool) : noLs (bls n m) = true := noLs_map (fun _ => rfl) _
section
variable {P : Program} {w : World} {K : PySem.W.Frag} {mg : Str → Option Value} {base : Heap}
/-! ### check_size -/
def RSize : List PyData → PyData → Prop := fun ds out => ∃ n : Nat, ds = [.int (n : Int)] ∧ 1 ≤ n ∧ n ≤ 64 ∧ out = .none
theorem ok_size {f : Addr} {fd : FuncData} {k : Nat} {t : Tok} (F : Fun K "check_size" "check_size" sCheckSize f fd) (g64 : mg "MOST_SIGNS" = some (.int 64 t)) : FnOk P w K mg base CX0 (k + 1) f fd ["size"] (spV K RSize) := by
  refine F.ok scCheckSize (fun vs H Q E h => ?_) (fun cdv A outer s H vs Q E hr h => ?_)
  · obtain ⟨ds, out, ha, ⟨n, rfl, _⟩, _⟩ := h
    exact allLen ha
  · obtain ⟨ds, out, ha, ⟨n, rfl, h1, h2, rfl⟩, q⟩ := h
    obtain ⟨x, rfl, hx⟩ := all1 ha
    cases dpInt hx
    refine ⟨_, pss_one (ps_if (pt_not (pt_chain op_le op_le pe_int (pv 0) (pe_glob (v := .int 64) rfl g64 ⟨_, rfl⟩))) (pss_one ps_never) pss_nil), ?_⟩
    refine s_if (b := false) (et_is (et_not (et_test (ev_chain2 (f := fun a b => decide (a ≤ b)) (f' := fun a b => decide (a ≤ b)) ev_c (ev_var rfl) ev_c))) ?_) (fun z => nomatch z) (fun _ H1 e => q _ H1 e .non)
    rw [decide_eq_true (show (1 : Int) ≤ (n : Int) by omega), decide_eq_true (show (n : Int) ≤ 64 by omega)]; rfl
/-! ### check_set -/
def RSet : List PyData → PyData → Prop := fun ds out => ∃ (n : Nat) (rs : List (Nat × Nat)) (k : Int), ds = [.int (n : Int), sD rs, .int k] ∧ Good n rs ∧ out = .none
theorem ok_set {f : Addr} {fd : FuncData} {k : Nat} {t : Tok} (F : Fun K "check_set" "check_set" sCheckSet f fd) (g40 : mg "MOST_RANGES" = some (.int 40 t)) (me : mg "enumerate" = none) : FnOk P w K mg base CX0 (k + 1) f fd ["size", "ranges", "number"] (spV K RSet) := by
  refine F.ok scCheckSet (fun vs H Q E h => ?_) (fun cdv A outer s H vs Q E hr h => ?_)
  · obtain ⟨ds, out, ha, ⟨n, rs, k, rfl, _⟩, _⟩ := h
    exact allLen ha
  · obtain ⟨ds, out, ha, ⟨n, rs, kk, rfl, hg, rfl⟩, q⟩ := h
    obtain ⟨x, y, z, rfl, hx, hy, hz⟩ := all3 ha
    cases dpInt hx
    cases dpInt hz
    have nd := scCheckSet.nd
    refine ⟨_, pss_one (ps_for PassesOwn.never rfl (pi_enum (by rfl) me (pa_cons (pv 1) pa_nil))
      (pg_tup rfl (pgs_cons (pg_name (i := 3) nd rfl (.inl rfl)) (pgs_cons (pg_tup rfl (pgs_cons (pg_name (i := 4) nd rfl (.inl rfl)) (pgs_cons (pg_name (i := 5) nd rfl (.inl rfl)) pgs_nil))) pgs_nil)))
      (pss_one (ps_if (PW.pt (pw_or (pt_cmpR op_eq (pv 3) (pe_glob (v := .int 40) rfl g40 ⟨_, rfl⟩) (nomark _)) (pw_or1 (pt_not (pt_chain3 op_le op_le op_lt pe_int (pv 4) (pv 5) (pv 0))))))
        (pss_one ps_never) pss_nil))), ?_⟩
    refine sFor (B := H) (Ex.refl H) (wkEnum (ev_var (v := y) rfl) hy) (fun i σ' H' => Ex H H' ∧ ∃ a b c, σ' = [some (.int (n : Int)), some y, some (.int kk), a, b, c]) (fun H2 e => ⟨e, none, none, none, rfl⟩) (fun i σ' H' _ p => p.1) (fun i x σ' H' H'' hi p e hd => ?_) (fun σ' H' p => q _ H' p.1 .non)
    obtain ⟨e0, a, b, c, rfl⟩ := p
    rw [List.length_map] at hi
    rw [getD_map rD (List.getElem?_eq_getElem hi)] at hd
    obtain ⟨T, xs, rfl, hs, hA⟩ := dpTuple hd
    obtain ⟨u1, u2, rfl, hu1, hu2⟩ := all2 hA
    cases dpInt hu1
    obtain ⟨T2, xs2, rfl, hs2, hA2⟩ := dpTuple hu2
    obtain ⟨v1, v2, rfl, hv1, hv2⟩ := all2 hA2
    cases dpInt hv1
    cases dpInt hv2
    refine ⟨T, _, rfl, hs, rfl, _, _, rfl, _, _, rfl, ⟨T2, _, rfl, hs2, rfl, _, _, rfl, _, _, rfl, rfl, ?_⟩⟩
    refine ⟨rfl, ?_⟩
    have g := hg.ok rs[i] (List.getElem_mem hi)
    have g2 := hg.len
    refine s_if (b := false) (et_is (et_or (et_test (ev_op (ev_var rfl) ev_c (rv_eq rfl))) (fun _ => et_not (et_test (ev_chain3 (f := fun a b => decide (a ≤ b)) (f' := fun a b => decide (a ≤ b)) (f'' := fun a b => decide (a < b)) ev_c (ev_var rfl) (ev_var rfl) (ev_var rfl))))) ?_) (fun z => nomatch z) (fun _ H1 e1 => ⟨(e0.trans e).trans e1, _, _, _, rfl⟩)
    rw [decide_eq_false (show ¬ (V.int (i : Nat) = V.int 40) from fun z => by have := V.int.inj z; omega), decide_eq_true (show (0 : Int) ≤ ((rs[i]).1 : Int) by omega), decide_eq_true (show ((rs[i]).1 : Int) ≤ ((rs[i]).2 : Int) by omega), decide_eq_true (show ((rs[i]).2 : Int) < (n : Int) by omega)]; rfl
end

/-! ### marks_of -/
def mb (n : Nat) (m : Nat → Bool) : List V := (List.range n).map fun i => V.bl (m i)
theorem mb_len (n : Nat) (m : Nat → Bool) : (mb n m).length = n := by unfold mb; rw [List.length_map, List.length_range]
theorem mb_set {n : Nat} {m m' : Nat → Bool} {k : Nat} (h : ∀ i, i < n → m' i = (m i || decide (i = k))) : (mb n m).set k (.bl true) = mb n m' := by
  refine List.ext_getElem? fun i => ?_
  unfold mb
  by_cases hi : i < n
  · rw [List.getElem?_set, List.getElem?_map, List.getElem?_map, List.getElem?_range hi, List.length_map, List.length_range]
    by_cases c : k = i
    · subst c
      rw [if_pos rfl, if_pos hi]
      show _ = some (V.bl (m' k))
      rw [h k hi, decide_eq_true rfl, Bool.or_true]
    · rw [if_neg c]
      show some (V.bl (m i)) = some (V.bl (m' i))
      rw [h i hi, decide_eq_false (Ne.symm c), Bool.or_false]
  · rw [List.getElem?_eq_none (by rw [List.length_set, List.length_map, List.length_range]; omega), List.getElem?_eq_none (by rw [List.length_map, List.length_range]; omega)]
theorem mb_congr {n : Nat} {m m' : Nat → Bool} (h : ∀ i, i < n → m i = m' i) : mb n m = mb n m' := by
  unfold mb
  refine List.map_congr_left fun i hi => ?_
  rw [h i (List.mem_range.mp hi)]
theorem bls_congr {n : Nat} {m m' : Nat → Bool} (h : ∀ i, i < n → m i = m' i) : bls n m = bls n m' := by
  unfold bls
  refine List.map_congr_left fun i hi => ?_
  rw [h i (List.mem_range.mp hi)]
theorem mb_all {K : PySem.W.Frag} {H : Hp} (n : Nat) (m : Nat → Bool) : DpAll K H (mb n m) (bls n m) := by
  have h := allOfBls (K := K) (H := H) ((List.range n).map m)
  rw [List.map_map, List.map_map] at h
  exact h
theorem all_mb {K : PySem.W.Frag} {H : Hp} {n : Nat} {m : Nat → Bool} {vs : List V} (h : DpAll K H vs (bls n m)) : vs = mb n m := by
  have e : bls n m = ((List.range n).map m).map PyData.bool := by rw [List.map_map]; rfl
  rw [e] at h
  rw [blsOfAll h, List.map_map]; rfl
theorem rep_mb : ∀ n : Nat, (List.replicate n [V.bl false]).flatten = mb n fun _ => false
  | 0 => rfl
  | n + 1 => by
    have e : mb (n + 1) (fun _ => false) = [V.bl false] ++ mb n fun _ => false := by
      unfold mb
      rw [List.range_succ_eq_map, List.map_cons, List.map_map]; rfl
    rw [List.replicate_succ, List.flatten_cons, rep_mb n, e]
section
variable {P : Program} {w : World} {K : PySem.W.Frag} {mg : Str → Option Value} {base : Heap}
def RMarks : List PyData → List PyData → Prop := fun ds out => ∃ (n : Nat) (rs : List (Nat × Nat)), ds = [.int (n : Int), sD rs] ∧ n ≤ 64 ∧ (∀ r ∈ rs, r.1 ≤ r.2 ∧ r.2 < n) ∧ out = bls n (memB rs)
theorem ok_marks {f : Addr} {fd : FuncData} {k : Nat} (F : Fun K "marks_of" "marks_of" sMarksOf f fd) (mr : mg "range" = none) : FnOk P w K mg base CX0 (k + 1) f fd ["size", "ranges"] (spN K RMarks) := by
  refine F.ok scMarksOf (fun vs H Q E h => ?_) (fun cdv A outer s H vs Q E hr h => ?_)
  · obtain ⟨ds, out, ha, ⟨n, rs, rfl, _⟩, _⟩ := h
    exact allLen ha
  · obtain ⟨ds, out, ha, ⟨n, rs, rfl, h64, hg, rfl⟩, q⟩ := h
    obtain ⟨x, y, rfl, hx, hy⟩ := all2 ha
    cases dpInt hx
    have nd := scMarksOf.nd
    refine ⟨_, pss_cons (ps_set (i := 2) nd rfl (.inl rfl) (pe_op op_rep (pe_lst (pa_cons pe_bl pa_nil)) (pv 0)))
      (pss_cons (ps_for PassesOwn.never rfl (pi_list (pv 1)) (pg_tup rfl (pgs_cons (pg_name (i := 3) nd rfl (.inl rfl)) (pgs_cons (pg_name (i := 4) nd rfl (.inl rfl)) pgs_nil)))
        (pss_one (ps_for PassesOwn.never rfl (pi_range2 (by rfl) mr (pa_cons (pv 3) (pa_cons (pe_op op_add (pv 4) pe_int) pa_nil))) (pg_name (i := 5) nd rfl (.inl rfl))
          (pss_one (ps_asg pe_bl (pg_sub (pv 2) (pv 5) set_list))))))
      (pss_one (ps_ret (pv 2)))), ?_⟩
    refine ⟨by show 1 ≤ sizeLine; decide, fun l hl => ⟨.int (n : Int), rfl, l, (n : Int), [.bl false], rfl, rfl, upd_same, by omega, by omega, ?_, fun p hp => ?_⟩⟩
    · show 1 * (n : Int).toNat ≤ sizeLine
      exact sz_of (by omega)
    have e1 : Ex H (upd (upd H l (.lst [.bl false])) p (.lst (List.replicate (n : Int).toNat [V.bl false]).flatten)) := (Ex.new hl).trans (Ex.new hp)
    have hp0 : H p = none := fresh_back (Ex.new hl) hp
    have h1 : (upd (upd H l (.lst [.bl false])) p (.lst (List.replicate (n : Int).toNat [V.bl false]).flatten)) p = some (.lst (mb n fun _ => false)) := by
      rw [upd_same, Int.toNat_natCast, rep_mb]
    generalize upd (upd H l (.lst [.bl false])) p (.lst (List.replicate (n : Int).toNat [V.bl false]).flatten) = H1 at e1 h1 ⊢
    refine sFor (B := H) e1 (wkList (ev_var (v := y) rfl) hy) (fun i σ' H' => Ex H H' ∧ H' p = some (.lst (mb n (memB (rs.take i)))) ∧ ∃ a b c, σ' = [some (.int (n : Int)), some y, some (.ref p), a, b, c]) (fun H2 e => ⟨e1.trans e, e p _ h1, none, none, none, rfl⟩) (fun i σ' H' _ p => p.1) (fun i x σ' H' H'' hi pv' e hd => ?_) (fun σ' H' pv' => ?_)
    · obtain ⟨e0, h0, a, b, c, rfl⟩ := pv'
      rw [List.length_map] at hi
      rw [getD_map rD (List.getElem?_eq_getElem hi)] at hd
      have g := hg rs[i] (List.getElem_mem hi)
      generalize hr' : rs[i] = r at hd g
      refine gPair hd fun y1 z1 hy1 hz1 => ?_
      cases dpInt hy1
      cases dpInt hz1
      refine s_forR2 (lo := (r.1 : Int)) (n := (r.2 : Int) + 1) (ea_cons (ev_var rfl) (ea_cons (ev_op (ev_var rfl) ev_c rv_I0) ea_nil)) ⟨by omega, by omega, by omega, by omega⟩
        (fun j σ' H' => Ex H H' ∧ H' p = some (.lst (mb n fun k => memB (rs.take i) k || (decide (r.1 ≤ k) && decide (k < r.1 + j)))) ∧ ∃ c, σ' = [some (.int (n : Int)), some y, some (.ref p), some (.int (r.1 : Int)), some (.int (r.2 : Int)), c]) (fun H2 e2 => ⟨(e0.trans e).trans e2, ?_, c, rfl⟩) (fun j σ' H2 hj p2 => ?_) (fun σ' H2 p2 => ?_)
      · rw [e2 p _ (e p _ h0)]
        refine congrArg (fun z => some (HO.lst z)) (mb_congr fun k _ => ?_)
        rw [show (decide (r.1 ≤ k) && decide (k < r.1 + 0)) = false by
          rw [Bool.and_eq_false_iff]
          by_cases c : r.1 ≤ k
          · right; rw [decide_eq_false]; omega
          · left; rw [decide_eq_false c], Bool.or_false]
      · obtain ⟨e3, h3, c, rfl⟩ := p2
        refine s_setL (j := r.1 + j) h3 ev_c (ev_var rfl) (ev_is (ev_var rfl) (congrArg V.int (by omega))) (by rw [mb_len]; omega) fun H4 e4 => ⟨Ex.mut (e3.trans e4) hp0, ?_, _, rfl⟩
        rw [upd_same, mb_set (m' := fun k => memB (rs.take i) k || (decide (r.1 ≤ k) && decide (k < r.1 + (j + 1))))]
        intro k _
        rw [Bool.or_assoc]
        refine congrArg _ ?_
        rw [Bool.eq_iff_iff]
        simp only [Bool.and_eq_true, Bool.or_eq_true, decide_eq_true_eq]
        omega
      · obtain ⟨e3, h3, c, rfl⟩ := p2
        refine ⟨e3, ?_, _, _, _, rfl⟩
        rw [h3]
        refine congrArg (fun z => some (HO.lst z)) (mb_congr fun k _ => ?_)
        rw [List.take_add_one, List.getElem?_eq_getElem hi, hr']
        show _ = memB (rs.take i ++ [r]) k
        rw [memB_append, memB_one]
        refine congrArg _ ?_
        rw [Bool.eq_iff_iff]
        simp only [Bool.and_eq_true, decide_eq_true_eq]
        omega
    · obtain ⟨e0, h0, a, b, c, rfl⟩ := pv'
      rw [List.length_map, List.take_length] at h0
      exact ⟨.ref p, rfl, q p _ H' hp0 e0 h0 (mb_all n _)⟩
end

/-! ### checked_marks -/
theorem range_getD {α β : Type} (g : α → β) (d : α) : ∀ xs : List α, (List.range xs.length).map (fun i => g (xs.getD i d)) = xs.map g
  | [] => rfl
  | x :: xs => by
    rw [List.length_cons, List.range_succ_eq_map, List.map_cons, List.map_map, List.map_cons, ← range_getD g d xs]
    rfl
theorem outs_all (n : Nat) (out : Nat → PyData) : outs n (fun _ => true) out = (List.range n).map out := by
  unfold outs
  rw [List.filter_eq_self.mpr (fun _ _ => rfl)]
theorem et_yes {σ : L2.St} {H : Hp} : EvT tYes σ H true := fun H1 _ Q q => q H1 (Ex.refl H1)
theorem sDropD {K : PySem.W.Frag} {σ : L2.St} {H : Hp} {te : TE} {D : Ends} {d : PyData} (h : EvD K te σ H d) (k : ∀ H1, Ex H H1 → D.nx σ H1) : tDrop te D σ H := h H (Ex.refl H) _ fun _ H1 e _ => k H1 e
theorem getD_at {α : Type} {xs : List α} {i : Nat} (d : α) (h : i < xs.length) : xs.getD i d = xs[i] := by
  rw [List.getD_eq_getElem?_getD, List.getElem?_eq_getElem h]; rfl
section
variable {P : Program} {w : World} {K : PySem.W.Frag} {mg : Str → Option Value} {base : Heap}
def mD (n : Nat) (rs : List (Nat × Nat)) : PyData := .list (bls n (memB rs))
def RChecked : List PyData → List PyData → Prop := fun ds out => ∃ (n : Nat) (rss : List (List (Nat × Nat))), ds = [.int (n : Int), .list (rss.map sD)] ∧ 1 ≤ n ∧ n ≤ 64 ∧ rss.length ≤ 100 ∧ (∀ rs ∈ rss, Good n rs) ∧ out = rss.map (mD n)
theorem ok_checked {f f1 f2 f3 : Addr} {fd fd1 fd2 fd3 : FuncData} {k : Nat} (F : Fun K "checked_marks" "checked_marks" sCheckedMarks f fd)
    (F1 : FnOk P w K mg base CX0 (k + 1) f1 fd1 ["size"] (spV K RSize)) (g1 : mg "check_size" = some (.ref f1)) (k1 : PySem.W.keepIn K (.ref f1) = true) (b1 : Binds K fd1 ["size"] [])
    (F2 : FnOk P w K mg base CX0 (k + 1) f2 fd2 ["size", "ranges", "number"] (spV K RSet)) (g2 : mg "check_set" = some (.ref f2)) (k2 : PySem.W.keepIn K (.ref f2) = true) (b2 : Binds K fd2 ["size", "ranges", "number"] [])
    (F3 : FnOk P w K mg base CX0 (k + 1) f3 fd3 ["size", "ranges"] (spN K RMarks)) (g3 : mg "marks_of" = some (.ref f3)) (k3 : PySem.W.keepIn K (.ref f3) = true) (b3 : Binds K fd3 ["size", "ranges"] [])
    (me : mg "enumerate" = none) : FnOk P w K mg base CX0 (k + 2) f fd ["size", "sets"] (spN K RChecked) := by
  refine F.ok scCheckedMarks (fun vs H Q E h => ?_) (fun cdv A outer s H vs Q E hr h => ?_)
  · obtain ⟨ds, out, ha, ⟨n, rss, rfl, _⟩, _⟩ := h
    exact allLen ha
  · obtain ⟨ds, out, ha, ⟨n, rss, rfl, hn1, hn64, hl, hg, rfl⟩, q⟩ := h
    obtain ⟨x, y, rfl, hx, hy⟩ := all2 ha
    cases dpInt hx
    have nd := scCheckedMarks.nd
    refine ⟨_, pss_cons (ps_expr (pe_call F1 hr (by rfl) g1 k1 b1 .nil pass0 (pa_cons (pv 0) pa_nil)))
      (pss_cons (ps_for PassesOwn.never rfl (pi_enum (by rfl) me (pa_cons (pv 1) pa_nil)) (pg_tup rfl (pgs_cons (pg_name (i := 2) nd rfl (.inl rfl)) (pgs_cons (pg_name (i := 3) nd rfl (.inl rfl)) pgs_nil)))
        (pss_one (ps_expr (pe_call F2 hr (by rfl) g2 k2 b2 .nil pass0 (pa_cons (pv 0) (pa_cons (pv 3) (pa_cons (pv 2) pa_nil)))))))
      (pss_one (ps_ret (pe_lc (own := [("ranges", 3)]) (g := gName 3) (tt := tYes) rfl nd (pi_list (pv 1)) (blkOk_by (own := [("ranges", 3)]) (N := nCheckedMarks) (sc := defScope sCheckedMarks) (by decide +kernel))
        (fun _ _ _ _ _ => pg_name (i := 3) nd rfl (Or.inl rfl)) (fun _ _ _ _ _ => pts_nil) (fun _ _ _ _ _ => pe_call F3 hr (by rfl) g3 k3 b3 .nil pass0 (pa_cons (pv 0) (pa_cons (pv 3) pa_nil))))))), ?_⟩
    refine sDropD (vCall (K := K) (da1 (dVar rfl (.int (n : Int)))) ⟨n, rfl, hn1, hn64, rfl⟩) fun H1 e1 => ?_
    refine sFor (B := H) e1 (wkEnum (ev_var (v := y) rfl) hy) (fun i σ' H' => Ex H H' ∧ ∃ a b, σ' = [some (.int (n : Int)), some y, a, b]) (fun H2 e => ⟨e1.trans e, none, none, rfl⟩) (fun i σ' H' _ p => p.1) (fun i x σ' H' H'' hi p e hd => ?_) (fun σ' H' p => ?_)
    · obtain ⟨e0, a, b, rfl⟩ := p
      rw [List.length_map] at hi
      rw [getD_map sD (List.getElem?_eq_getElem hi)] at hd
      refine gPair hd fun y1 z1 hy1 hz1 => ?_
      cases dpInt hy1
      exact sDropD (vCall (K := K) (daCons (dVar rfl (.int (n : Int))) (da2 (dVar (v := z1) rfl hz1) (dVar (v := .int (i : Nat)) rfl (.int _)))) ⟨n, rss[i], (i : Nat), rfl, hg _ (List.getElem_mem hi), rfl⟩) fun H2 e2 => ⟨(e0.trans e).trans e2, _, _, rfl⟩
    · obtain ⟨e0, a, b, rfl⟩ := p
      have N := nLc (K := K) (σ := [some (.int (n : Int)), some y, a, b]) (H := H') (wi := iList K (tVar 1)) (g := gName 3) (tt := tYes) (te := tCall (spN K RMarks) [] E0 (tCons (tVar 0) (tCons (tVar 3) tNil))) (vs := [3]) (fun _ => true) (fun i => mD n (rss.getD i [])) (by rw [List.length_map]; omega) (wkList (ev_var (v := y) rfl) (SB.mono e0 hy)).asN (fun Dl i x H3 hi e3 hd => by
        rw [List.length_map] at hi
        rw [getD_map sD (List.getElem?_eq_getElem hi)] at hd
        refine ⟨_, fun Q q => q, rfl, et_yes, fun _ => ?_⟩
        have c := nCall (K := K) (E := E0) (R := RMarks) (σ := [some (.int (n : Int)), some y, a, some x]) (H := H3) (da2 (ta := tVar 0) (tb := tVar 3) (dVar (v := .int (n : Int)) rfl (.int (n : Int))) (dVar (v := x) rfl hd)) ⟨n, rss[i], rfl, hn64, (hg _ (List.getElem_mem hi)).ok, rfl⟩
        have c2 := c.x (D := Dl) (noL_bls n (memB rss[i]))
        rw [getD_at [] hi]
        exact c2)
      rw [outs_all, List.length_map, range_getD (mD n)] at N
      exact sRetN N (q.ex e0)
end

/-! ### ranges_of -/
theorem told_ne {m : Nat → Bool} {i : Nat} (h : st m i < i) : told m i ≠ [] := by
  obtain ⟨pre, e, _⟩ := (kept m i).shape
  rw [e, if_pos h]
  simp
theorem set_last {α : Type} (x : α) : ∀ xs : List α, xs ≠ [] → xs.set (xs.length - 1) x = xs.dropLast ++ [x]
  | [], h => absurd rfl h
  | [a], _ => rfl
  | a :: b :: r, _ => by
    have ih := set_last x (b :: r) (by simp)
    show a :: ((b :: r).set ((b :: r).length - 1) x) = a :: ((b :: r).dropLast ++ [x])
    rw [ih]
theorem ixN_last {n : Nat} (h : 0 < n) : ixN n (-1) = some (n - 1) := by
  unfold ixN
  rw [if_neg (by decide), if_pos (by omega)]
  exact congrArg some (by omega)
theorem sSetLast {σ : L2.St} {H : Hp} {te ta tb : TE} {D : Ends} {l : Addr} {xs ys : List V} (hl : H l = some (.lst xs)) (h : EvU te σ H ys) (ho : Ev ta σ H (.ref l)) (hi : Ev tb σ H (.int (-1))) (hx : 0 < xs.length)
    (k : ∀ p H1, Ex H H1 → H1 p = some (.tup ys) → D.nx σ (upd H1 l (.lst (xs.set (xs.length - 1) (.ref p))))) : tAsg te (gSub ta tb rSetL) D σ H := h H (Ex.refl H) _ fun p H1 _ e1 hp => ho H1 e1 _ fun H2 e2 => hi H2 (e1.trans e2) _ fun H3 e3 =>
  ⟨l, xs, -1, xs.length - 1, rfl, rfl, ((e1.trans e2).trans e3) l _ hl, ixN_last hx, k p H3 ((e1.trans e2).trans e3) ((e2.trans e3) p _ hp)⟩
section
variable {P : Program} {w : World} {K : PySem.W.Frag} {mg : Str → Option Value} {base : Heap}
def RRanges : List PyData → List PyData → Prop := fun ds out => ∃ (n : Nat) (m : Nat → Bool), ds = [.list (bls n m)] ∧ n ≤ 64 ∧ out = (told m n).map rD
theorem ok_ranges {f : Addr} {fd : FuncData} {k : Nat} (F : Fun K "ranges_of" "ranges_of" sRangesOf f fd) (me : mg "enumerate" = none) : FnOk P w K mg base CX0 (k + 1) f fd ["marks"] (spN K RRanges) := by
  refine F.ok scRangesOf (fun vs H Q E h => ?_) (fun cdv A outer s H vs Q E hr h => ?_)
  · obtain ⟨ds, out, ha, ⟨n, m, rfl, _⟩, _⟩ := h
    exact allLen ha
  · obtain ⟨ds, out, ha, ⟨n, m, rfl, h64, rfl⟩, q⟩ := h
    obtain ⟨y, rfl, hy⟩ := all1 ha
    have nd := scRangesOf.nd
    refine ⟨_, pss_cons (ps_set (i := 1) nd rfl (.inl rfl) (pe_lst pa_nil)) (pss_cons (ps_set (i := 2) nd rfl (.inl rfl) pe_int)
      (pss_cons (ps_for PassesOwn.never rfl (pi_enum (by rfl) me (pa_cons (pv 0) pa_nil)) (pg_tup rfl (pgs_cons (pg_name (i := 3) nd rfl (.inl rfl)) (pgs_cons (pg_name (i := 4) nd rfl (.inl rfl)) pgs_nil)))
        (pss_one (ps_if (pt_not (pt_val (pv 4))) (pss_one (ps_set (i := 2) nd rfl (.inl rfl) (pe_op op_add (pv 3) pe_int)))
          (pss_one (ps_if (pt_cmpR op_eq (pv 2) (pv 3) (nomark _))
            (pss_one (ps_expr (pe_bm PySem.F.plainAttrs_list PySem.F.slot_list_append PySem.F.type_list_append mt_append (pv 1) (pa_cons (pe_tup (pa_cons (pv 2) (pa_cons (pv 3) pa_nil))) pa_nil))))
            (pss_one (ps_asg (pe_tup (pa_cons (pv 2) (pa_cons (pv 3) pa_nil))) (pg_sub (pv 1) (pe_un un_neg pe_int) set_list))))))))
      (pss_one (ps_ret (pv 1))))), ?_⟩
    refine ⟨Nat.zero_le _, fun l hl => ?_⟩
    have e1 : Ex H (upd H l (.lst [])) := Ex.new hl
    have h1 : (upd H l (.lst [])) l = some (.lst []) := upd_same
    generalize upd H l (.lst []) = H1 at e1 h1 ⊢
    refine sFor (B := H) e1 (wkEnum (ev_var (v := y) rfl) hy) (fun i σ' H' => Ex H H' ∧ (∃ acc, H' l = some (.lst acc) ∧ DpAll K (rm H' l) acc ((told m i).map rD)) ∧ ∃ a b, σ' = [some y, some (.ref l), some (.int (st m i : Nat)), a, b]) (fun H2 e => ⟨e1.trans e, ⟨[], e l _ h1, .nil⟩, none, none, rfl⟩) (fun i σ' H' _ p => p.1) (fun i x σ' H' H'' hi p e hd => ?_) (fun σ' H' p => ?_)
    · obtain ⟨e0, ⟨acc, h0, hA⟩, a, b, rfl⟩ := p
      rw [bls_len] at hi
      rw [getD_bls m hi] at hd
      have e0'' := e0.trans e
      have h0'' := e l _ h0
      have hA'' := monoA (rmMono (D := l) e) hA
      have hlen : acc.length = (told m i).length := by rw [allLen hA, List.length_map]
      have hshort : acc.length < 100000 := by have := told_len m i; omega
      have hle := st_le m i
      refine gPair hd fun y1 z1 hy1 hz1 => ?_
      cases dpInt hy1
      cases dpBool hz1
      refine s_if (b := !m i) (et_not (et_B (ev_var rfl))) (fun hb H2 e2 => ?_) (fun hb H2 e2 => ?_)
      · have hm : m i = false := by simpa using hb
        refine s_asg (ev_op (z := .int ((i + 1 : Nat) : Int)) (ev_var rfl) ev_c (fun H3 _ _ q => ⟨_, _, rfl, rfl, q H3 (Ex.refl H3)⟩)) fun H3 e3 => ⟨(e0''.trans e2).trans e3, ⟨acc, (e2.trans e3) l _ h0'', ?_⟩, some (.int (i : Nat)), some (.bl (m i)), ?_⟩
        · rw [told, if_neg (by rw [hm]; decide)]
          exact monoA (rmMono (e2.trans e3)) hA''
        · rw [st_no hm]; rfl
      · have hm : m i = true := by simpa using hb
        have es : st m (i + 1) = st m i := st_yes hm
        have tup : ∀ {H3 H4 : Hp} {p : Addr} {xs : List V}, H3 l = some (.lst xs) → H3 p = some (.tup [.int (st m i : Nat), .int (i : Nat)]) → H4 = H3 → Dp K (rm H4 l) (.ref p) (rD (st m i, i)) := fun {H3 H4 p xs} a b c => by
          subst c
          refine .tup (st_of ?_) (.cons (.int _) (.cons (.int _) .nil))
          rw [rmNe (ne_of b a (by intro z; cases z))]
          exact b
        refine s_if (b := decide (V.int (st m i : Nat) = V.int (i : Nat))) (et_test (ev_op (ev_var rfl) (ev_var rfl) (rv_eq rfl))) (fun hb2 H3 e3 => ?_) (fun hb2 H3 e3 => ?_)
        · have hst : st m i = i := by
            have z := V.int.inj (of_decide_eq_true hb2)
            omega
          have e23 := e2.trans e3
          refine s_appU (e23 l _ h0'') (ev_var rfl) (eu_tup (ea_cons (ev_var rfl) (ea_cons (ev_var rfl) ea_nil)) (by show 2 ≤ 100000; decide)) hshort fun p H4 hp e4 h4 => ⟨Ex.mut ((e0''.trans e23).trans e4) hl, ⟨_, upd_same, ?_⟩, some (.int (i : Nat)), some (.bl (m i)), ?_⟩
          · rw [rmUpd, told, if_pos hm, if_pos hst, List.map_append]
            refine allApp (monoA (rmMono (e23.trans e4)) hA'') (.cons ?_ .nil)
            have t := tup (e4 l _ (e23 l _ h0'')) h4 rfl
            rw [hst] at t
            exact t
          · rw [es]; rfl
        · have hst : st m i ≠ i := fun z => by
            rw [z, decide_eq_true rfl] at hb2; cases hb2
          have e23 := e2.trans e3
          have hne := told_ne (m := m) (i := i) (by omega)
          have hpos : 0 < acc.length := by
            rw [hlen]
            exact List.length_pos_iff.mpr hne
          refine sSetLast (e23 l _ h0'') (eu_tup (ea_cons (ev_var rfl) (ea_cons (ev_var rfl) ea_nil)) (by show 2 ≤ 100000; decide)) (ev_var rfl) (ev_un ev_c ru_neg) hpos fun p H4 e4 h4 => ⟨Ex.mut ((e0''.trans e23).trans e4) hl, ⟨_, upd_same, ?_⟩, some (.int (i : Nat)), some (.bl (m i)), ?_⟩
          · have t := allSet (tup (e4 l _ (e23 l _ h0'')) h4 rfl) (acc.length - 1) (monoA (rmMono (e23.trans e4)) hA'')
            rw [rmUpd, told, if_pos hm, if_neg hst]
            rw [hlen] at t ⊢
            rw [← List.map_set, set_last _ _ hne] at t
            exact t
          · rw [es]; rfl
    · obtain ⟨e0, ⟨acc, h0, hA⟩, a, b, rfl⟩ := p
      rw [bls_len] at hA
      exact ⟨.ref l, rfl, q l acc H' hl e0 h0 (monoA rmEx hA)⟩
end
/-! ### lists of tuples stay when a list is changed -/
theorem keepT {K : PySem.W.Frag} {H : Hp} {D : Addr} {ys zs xs : List V} {ds : List PyData} (hD : H D = some (.lst ys)) (hn : noLs ds = true) (h : DpAll K H xs ds) : DpAll K (upd H D (.lst zs)) xs ds := by
  have a := dpAllRm hD ds xs hn h
  rw [← rmUpd (o := .lst zs)] at a
  exact monoA rmEx a
theorem noRs (rs : List (Nat × Nat)) : noLs (rs.map rD) = true := noLs_map noL_rD rs

/-! ### the six functions -/
def iD' (i : Nat) : PyData := .int (i : Int)
theorem sAsgUn2 {K : PySem.W.Frag} {σ : L2.St} {H : Hp} {te : TE} {D : Ends} {i j : Nat} {d e : PyData} (h : EvD K te σ H (.list [d, e])) (k : ∀ x y H1, Ex H H1 → Dp K H1 x d → Dp K H1 y e → D.nx ((σ.set i (some x)).set j (some y)) H1) :
    tAsg te (gUnl K 2 (gCons (gName i) (gCons (gName j) gNil))) D σ H := h H (Ex.refl H) _ fun v H1 e1 hd => by
  obtain ⟨a, xs, rfl, hs, ha⟩ := dpList hd
  obtain ⟨x, y, rfl, h1, h2⟩ := all2 ha
  exact ⟨a, _, rfl, hs, rfl, x, [y], rfl, y, [], rfl, rfl, k x y H1 e1 h1 h2⟩
section
variable {P : Program} {w : World} {K : PySem.W.Frag} {mg : Str → Option Value} {base : Heap}
/-- what plain and the like tell: of a size and a set | two sets -/
def R1 (out : Nat → List (Nat × Nat) → List PyData) : List PyData → List PyData → Prop := fun ds o => ∃ (n : Nat) (rs : List (Nat × Nat)), ds = [.int (n : Int), sD rs] ∧ 1 ≤ n ∧ n ≤ 64 ∧ Good n rs ∧ o = out n rs
def R2' (op : Bool → Bool → Bool) : List PyData → List PyData → Prop := fun ds o => ∃ (n : Nat) (rs ss : List (Nat × Nat)), ds = [.int (n : Int), sD rs, sD ss] ∧ 1 ≤ n ∧ n ≤ 64 ∧ Good n rs ∧ Good n ss ∧ o = (told (fun k => op (memB rs k) (memB ss k)) n).map rD
abbrev RMembers := R1 fun n rs => ((List.range n).filter (memB rs)).map iD'
abbrev RPlain := R1 fun n rs => (told (memB rs) n).map rD
abbrev ROthers := R1 fun n rs => (told (fun k => !memB rs k) n).map rD
theorem marks0 {σ : L2.St} {H : Hp} {n : Nat} {rs : List (Nat × Nat)} {y : V} (h0 : σ[0]? = some (some (.int (n : Int)))) (h1 : σ[1]? = some (some y)) (hy : Dp K H y (sD rs)) (hn : 1 ≤ n ∧ n ≤ 64) (hg : Good n rs) :
    EvD K (tOp (rIxL K) (tCall (spN K RChecked) [] E0 (tCons (tVar 0) (tCons (tLst (tCons (tVar 1) tNil)) tNil))) (tC (.int 0))) σ H (mD n rs) :=
  dIxL (nCall (da2 (dVar h0 (.int (n : Int))) (nLst (da1 (dVar h1 hy)) (by show 1 ≤ 100000; decide)).asD) ⟨n, [rs], rfl, hn.1, hn.2, by show 1 ≤ 100; decide, fun r hr => by rw [List.mem_singleton.mp hr]; exact hg, rfl⟩).asD ev_c rfl
theorem ok_members {f f1 : Addr} {fd fd1 : FuncData} {k : Nat} (F : Fun K "members" "members" sMembers f fd)
    (F1 : FnOk P w K mg base CX0 (k + 2) f1 fd1 ["size", "sets"] (spN K RChecked)) (g1 : mg "checked_marks" = some (.ref f1)) (k1 : PySem.W.keepIn K (.ref f1) = true) (b1 : Binds K fd1 ["size", "sets"] [])
    (me : mg "enumerate" = none) : FnOk P w K mg base CX0 (k + 3) f fd ["size", "ranges"] (spN K RMembers) := by
  refine F.ok scMembers (fun vs H Q E h => ?_) (fun cdv A outer s H vs Q E hr h => ?_)
  · obtain ⟨ds, out, ha, ⟨n, rs, rfl, _⟩, _⟩ := h
    exact allLen ha
  · obtain ⟨ds, out, ha, ⟨n, rs, rfl, hn1, hn64, hg, rfl⟩, q⟩ := h
    obtain ⟨x, y, rfl, hx, hy⟩ := all2 ha
    cases dpInt hx
    have nd := scMembers.nd
    refine ⟨_, pss_cons (ps_set (i := 2) nd rfl (.inl rfl) (pe_ix ix_list (pe_call F1 hr (by rfl) g1 k1 b1 .nil pass0 (pa_cons (pv 0) (pa_cons (pe_lst (pa_cons (pv 1) pa_nil)) pa_nil))) pe_int (fun _ _ => rfl)))
      (pss_one (ps_ret (pe_lc (own := [("sign", 3), ("marked", 4)]) (g := gTup K 2 (gCons (gName 3) (gCons (gName 4) gNil))) (tt := tB (tVar 4)) rfl nd (pi_enum (by rfl) me (pa_cons (pv 2) pa_nil)) (blkOk_by (own := [("sign", 3), ("marked", 4)]) (N := nMembers) (sc := defScope sMembers) (by decide +kernel))
        (fun _ _ _ _ _ => pg_tup rfl (pgs_cons (pg_name (i := 3) nd rfl (Or.inl rfl)) (pgs_cons (pg_name (i := 4) nd rfl (Or.inl rfl)) pgs_nil))) (fun _ _ _ _ _ => pts_one (pt_val (pv 4))) (fun _ _ _ _ _ => pv 3)))), ?_⟩
    refine sAsgD (marks0 rfl rfl hy ⟨hn1, hn64⟩ hg) fun v H1 e1 hv => ?_
    have N := nLc (K := K) (σ := [some (.int (n : Int)), some y, some v, none, none]) (H := H1) (wi := iEnum K (tCons (tVar 2) tNil)) (g := gTup K 2 (gCons (gName 3) (gCons (gName 4) gNil))) (tt := tB (tVar 4)) (te := tVar 3) (vs := [3, 4]) (memB rs) iD' (by rw [bls_len]; omega) (wkEnum (ev_var (v := v) rfl) hv).asN (fun Dl i x H3 hi e3 hd => by
      rw [bls_len] at hi
      rw [getD_bls _ hi] at hd
      refine ⟨[some (.int (n : Int)), some y, some v, some (.int (i : Nat)), some (.bl (memB rs i))], fun Q q => gPair hd fun y1 z1 hy1 hz1 => ?_, rfl, et_B (ev_var rfl), fun _ => (dVar (d := iD' i) rfl (.int _)).x rfl⟩
      cases dpInt hy1
      cases dpBool hz1
      exact q)
    rw [bls_len] at N
    exact sRetN N (q.ex e1)
theorem ok_plain {f f1 f2 : Addr} {fd fd1 fd2 : FuncData} {k : Nat} (F : Fun K "plain" "plain" sPlain f fd)
    (F1 : FnOk P w K mg base CX0 (k + 2) f1 fd1 ["size", "sets"] (spN K RChecked)) (g1 : mg "checked_marks" = some (.ref f1)) (k1 : PySem.W.keepIn K (.ref f1) = true) (b1 : Binds K fd1 ["size", "sets"] [])
    (F2 : FnOk P w K mg base CX0 (k + 2) f2 fd2 ["marks"] (spN K RRanges)) (g2 : mg "ranges_of" = some (.ref f2)) (k2 : PySem.W.keepIn K (.ref f2) = true) (b2 : Binds K fd2 ["marks"] []) : FnOk P w K mg base CX0 (k + 3) f fd ["size", "ranges"] (spN K RPlain) := by
  refine F.ok scPlain (fun vs H Q E h => ?_) (fun cdv A outer s H vs Q E hr h => ?_)
  · obtain ⟨ds, out, ha, ⟨n, rs, rfl, _⟩, _⟩ := h
    exact allLen ha
  · obtain ⟨ds, out, ha, ⟨n, rs, rfl, hn1, hn64, hg, rfl⟩, q⟩ := h
    obtain ⟨x, y, rfl, hx, hy⟩ := all2 ha
    cases dpInt hx
    refine ⟨_, pss_one (ps_ret (pe_call F2 hr (by rfl) g2 k2 b2 .nil pass0 (pa_cons (pe_ix ix_list (pe_call F1 hr (by rfl) g1 k1 b1 .nil pass0 (pa_cons (pv 0) (pa_cons (pe_lst (pa_cons (pv 1) pa_nil)) pa_nil))) pe_int (fun _ _ => rfl)) pa_nil))), ?_⟩
    exact sRetN (nCall (da1 (marks0 rfl rfl hy ⟨hn1, hn64⟩ hg)) ⟨n, memB rs, rfl, hn64, rfl⟩) q
theorem ok_others {f f1 f2 : Addr} {fd fd1 fd2 : FuncData} {k : Nat} (F : Fun K "others" "others" sOthers f fd)
    (F1 : FnOk P w K mg base CX0 (k + 2) f1 fd1 ["size", "sets"] (spN K RChecked)) (g1 : mg "checked_marks" = some (.ref f1)) (k1 : PySem.W.keepIn K (.ref f1) = true) (b1 : Binds K fd1 ["size", "sets"] [])
    (F2 : FnOk P w K mg base CX0 (k + 2) f2 fd2 ["marks"] (spN K RRanges)) (g2 : mg "ranges_of" = some (.ref f2)) (k2 : PySem.W.keepIn K (.ref f2) = true) (b2 : Binds K fd2 ["marks"] []) : FnOk P w K mg base CX0 (k + 3) f fd ["size", "ranges"] (spN K ROthers) := by
  refine F.ok scOthers (fun vs H Q E h => ?_) (fun cdv A outer s H vs Q E hr h => ?_)
  · obtain ⟨ds, out, ha, ⟨n, rs, rfl, _⟩, _⟩ := h
    exact allLen ha
  · obtain ⟨ds, out, ha, ⟨n, rs, rfl, hn1, hn64, hg, rfl⟩, q⟩ := h
    obtain ⟨x, y, rfl, hx, hy⟩ := all2 ha
    cases dpInt hx
    have nd := scOthers.nd
    refine ⟨_, pss_cons (ps_set (i := 2) nd rfl (.inl rfl) (pe_ix ix_list (pe_call F1 hr (by rfl) g1 k1 b1 .nil pass0 (pa_cons (pv 0) (pa_cons (pe_lst (pa_cons (pv 1) pa_nil)) pa_nil))) pe_int (fun _ _ => rfl)))
      (pss_one (ps_ret (pe_call F2 hr (by rfl) g2 k2 b2 .nil pass0 (pa_cons (pe_lc (own := [("marked", 3)]) (g := gName 3) (tt := tYes) rfl nd (pi_list (pv 2)) (blkOk_by (own := [("marked", 3)]) (N := nOthers) (sc := defScope sOthers) (by decide +kernel))
        (fun _ _ _ _ _ => pg_name (i := 3) nd rfl (Or.inl rfl)) (fun _ _ _ _ _ => pts_nil) (fun _ _ _ _ _ => pe_not (pv 3))) pa_nil)))), ?_⟩
    refine sAsgD (marks0 rfl rfl hy ⟨hn1, hn64⟩ hg) fun v H1 e1 hv => ?_
    have N := nLc (K := K) (σ := [some (.int (n : Int)), some y, some v, none]) (H := H1) (wi := iList K (tVar 2)) (g := gName 3) (tt := tYes) (te := tNotV (tVar 3)) (vs := [3]) (fun _ => true) (fun i => .bool (!memB rs i)) (by rw [bls_len]; omega) (wkList (ev_var (v := v) rfl) hv).asN (fun Dl i x H3 hi e3 hd => by
      rw [bls_len] at hi
      rw [getD_bls _ hi] at hd
      cases dpBool hd
      exact ⟨_, fun Q q => q, rfl, et_yes, fun _ => (bD (ev_notV (ev_var rfl))).x rfl⟩)
    rw [bls_len, outs_all] at N
    exact sRetN (nCall (da1 N.asD) ⟨n, fun k => !memB rs k, rfl, hn64, rfl⟩) (q.ex e1)
/-- two sets, taken together by op: the comprehension's element -/
theorem two_sets {op : Bool → Bool → Bool} {te : TE} {D : Ends} {Q : VK} {n : Nat} {rs ss : List (Nat × Nat)} {H : Hp} {y z : V} (hrt : D.rt = Q) (hn1 : 1 ≤ n) (hn64 : n ≤ 64) (hg : Good n rs) (hg' : Good n ss) (hy : Dp K H y (sD rs)) (hz : Dp K H z (sD ss))
    (q : NewL K H Q ((told (fun k => op (memB rs k) (memB ss k)) n).map rD)) (he : ∀ (σ : L2.St) (H : Hp) (a b : Bool), σ[5]? = some (some (.bl a)) → σ[6]? = some (some (.bl b)) → Ev te σ H (.bl (op a b))) :
    tSeq (tAsg (tCall (spN K RChecked) [] E0 (tCons (tVar 0) (tCons (tLst (tCons (tVar 1) (tCons (tVar 2) tNil))) tNil))) (gUnl K 2 (gCons (gName 3) (gCons (gName 4) gNil))))
      (tRet (tCall (spN K RRanges) [] E0 (tCons (tLc (iZip K (tCons (tVar 3) (tCons (tVar 4) tNil))) (gTup K 2 (gCons (gName 5) (gCons (gName 6) gNil))) tYes te [5, 6]) tNil))) D [some (.int (n : Int)), some y, some z, none, none, none, none] H := by
  have gg : ∀ r ∈ [rs, ss], Good n r := fun r hr => by
    rcases List.mem_cons.mp hr with rfl | hr
    · exact hg
    · rw [List.mem_singleton.mp hr]; exact hg'
  refine sAsgUn2 (K := K) (nCall (da2 (dVar rfl (.int (n : Int))) (nLst (da2 (dVar (v := y) rfl hy) (dVar (v := z) rfl hz)) (by show 2 ≤ 100000; decide)).asD) ⟨n, [rs, ss], rfl, hn1, hn64, by show 2 ≤ 100; decide, gg, rfl⟩).asD fun u v H1 e1 hu hv => ?_
  have N := nLc (K := K) (σ := [some (.int (n : Int)), some y, some z, some u, some v, none, none]) (H := H1) (wi := iZip K (tCons (tVar 3) (tCons (tVar 4) tNil))) (g := gTup K 2 (gCons (gName 5) (gCons (gName 6) gNil))) (tt := tYes) (te := te) (vs := [5, 6]) (fun _ => true) (fun i => .bool (op (memB rs i) (memB ss i))) (by rw [bls_len]; omega) (wkZip (ev_var (v := u) rfl) hu (ev_var (v := v) rfl) hv (by rw [bls_len, bls_len])).asN (fun Dl i x H3 hi e3 hd => by
    rw [bls_len] at hi
    rw [getD_bls _ hi, getD_bls _ hi] at hd
    refine ⟨[some (.int (n : Int)), some y, some z, some u, some v, some (.bl (memB rs i)), some (.bl (memB ss i))], fun Q q => gPair hd fun y1 z1 hy1 hz1 => ?_, rfl, et_yes, fun _ => (bD (he _ _ _ _ rfl rfl)).x rfl⟩
    cases dpBool hy1
    cases dpBool hz1
    exact q)
  rw [bls_len, outs_all] at N
  refine sRetN (nCall (da1 N.asD) ⟨n, fun k => op (memB rs k) (memB ss k), rfl, hn64, rfl⟩) ?_
  rw [hrt]
  exact q.ex e1
theorem ok_joined {f f1 f2 : Addr} {fd fd1 fd2 : FuncData} {k : Nat} (F : Fun K "joined" "joined" sJoined f fd)
    (F1 : FnOk P w K mg base CX0 (k + 2) f1 fd1 ["size", "sets"] (spN K RChecked)) (g1 : mg "checked_marks" = some (.ref f1)) (k1 : PySem.W.keepIn K (.ref f1) = true) (b1 : Binds K fd1 ["size", "sets"] [])
    (F2 : FnOk P w K mg base CX0 (k + 2) f2 fd2 ["marks"] (spN K RRanges)) (g2 : mg "ranges_of" = some (.ref f2)) (k2 : PySem.W.keepIn K (.ref f2) = true) (b2 : Binds K fd2 ["marks"] []) (mz : mg "zip" = none) : FnOk P w K mg base CX0 (k + 3) f fd ["size", "one", "other"] (spN K (R2' (fun a b => a || b))) := by
  refine F.ok scJoined (fun vs H Q E h => ?_) (fun cdv A outer s H vs Q E hr h => ?_)
  · obtain ⟨ds, out, ha, ⟨n, rs, ss, rfl, _⟩, _⟩ := h
    exact allLen ha
  · obtain ⟨ds, out, ha, ⟨n, rs, ss, rfl, hn1, hn64, hg, hg', rfl⟩, q⟩ := h
    obtain ⟨x, y, z, rfl, hx, hy, hz⟩ := all3 ha
    cases dpInt hx
    have nd := scJoined.nd
    refine ⟨_, pss_cons (ps_asg (pe_call F1 hr (by rfl) g1 k1 b1 .nil pass0 (pa_cons (pv 0) (pa_cons (pe_lst (pa_cons (pv 1) (pa_cons (pv 2) pa_nil))) pa_nil))) (pg_unl rfl (pgs_cons (pg_name (i := 3) nd rfl (.inl rfl)) (pgs_cons (pg_name (i := 4) nd rfl (.inl rfl)) pgs_nil))))
      (pss_one (ps_ret (pe_call F2 hr (by rfl) g2 k2 b2 .nil pass0 (pa_cons (pe_lc (own := [("a", 5), ("b", 6)]) (g := gTup K 2 (gCons (gName 5) (gCons (gName 6) gNil))) (tt := tYes) rfl nd (pi_zip (by rfl) mz (pa_cons (pv 3) (pa_cons (pv 4) pa_nil))) (blkOk_by (own := [("a", 5), ("b", 6)]) (N := nJoined) (sc := defScope sJoined) (by decide +kernel))
        (fun _ _ _ _ _ => pg_tup rfl (pgs_cons (pg_name (i := 5) nd rfl (Or.inl rfl)) (pgs_cons (pg_name (i := 6) nd rfl (Or.inl rfl)) pgs_nil))) (fun _ _ _ _ _ => pts_nil) (fun _ _ _ _ _ => pe_or (pv 5) (pe_one (pv 6)))) pa_nil)))), ?_⟩
    exact two_sets (K := K) (op := (fun a b => a || b)) rfl hn1 hn64 hg hg' hy hz q fun σ H a b h1 h2 => ev_orV (ev_var h1) fun _ => ev_var h2
theorem ok_common {f f1 f2 : Addr} {fd fd1 fd2 : FuncData} {k : Nat} (F : Fun K "common" "common" sCommon f fd)
    (F1 : FnOk P w K mg base CX0 (k + 2) f1 fd1 ["size", "sets"] (spN K RChecked)) (g1 : mg "checked_marks" = some (.ref f1)) (k1 : PySem.W.keepIn K (.ref f1) = true) (b1 : Binds K fd1 ["size", "sets"] [])
    (F2 : FnOk P w K mg base CX0 (k + 2) f2 fd2 ["marks"] (spN K RRanges)) (g2 : mg "ranges_of" = some (.ref f2)) (k2 : PySem.W.keepIn K (.ref f2) = true) (b2 : Binds K fd2 ["marks"] []) (mz : mg "zip" = none) : FnOk P w K mg base CX0 (k + 3) f fd ["size", "one", "other"] (spN K (R2' (fun a b => a && b))) := by
  refine F.ok scCommon (fun vs H Q E h => ?_) (fun cdv A outer s H vs Q E hr h => ?_)
  · obtain ⟨ds, out, ha, ⟨n, rs, ss, rfl, _⟩, _⟩ := h
    exact allLen ha
  · obtain ⟨ds, out, ha, ⟨n, rs, ss, rfl, hn1, hn64, hg, hg', rfl⟩, q⟩ := h
    obtain ⟨x, y, z, rfl, hx, hy, hz⟩ := all3 ha
    cases dpInt hx
    have nd := scCommon.nd
    refine ⟨_, pss_cons (ps_asg (pe_call F1 hr (by rfl) g1 k1 b1 .nil pass0 (pa_cons (pv 0) (pa_cons (pe_lst (pa_cons (pv 1) (pa_cons (pv 2) pa_nil))) pa_nil))) (pg_unl rfl (pgs_cons (pg_name (i := 3) nd rfl (.inl rfl)) (pgs_cons (pg_name (i := 4) nd rfl (.inl rfl)) pgs_nil))))
      (pss_one (ps_ret (pe_call F2 hr (by rfl) g2 k2 b2 .nil pass0 (pa_cons (pe_lc (own := [("a", 5), ("b", 6)]) (g := gTup K 2 (gCons (gName 5) (gCons (gName 6) gNil))) (tt := tYes) rfl nd (pi_zip (by rfl) mz (pa_cons (pv 3) (pa_cons (pv 4) pa_nil))) (blkOk_by (own := [("a", 5), ("b", 6)]) (N := nCommon) (sc := defScope sCommon) (by decide +kernel))
        (fun _ _ _ _ _ => pg_tup rfl (pgs_cons (pg_name (i := 5) nd rfl (Or.inl rfl)) (pgs_cons (pg_name (i := 6) nd rfl (Or.inl rfl)) pgs_nil))) (fun _ _ _ _ _ => pts_nil) (fun _ _ _ _ _ => pe_and (pv 5) (pe_one (pv 6)))) pa_nil)))), ?_⟩
    exact two_sets (K := K) (op := (fun a b => a && b)) rfl hn1 hn64 hg hg' hy hz q fun σ H a b h1 h2 => ev_andV (ev_var h1) fun _ => ev_var h2
theorem ok_less {f f1 f2 : Addr} {fd fd1 fd2 : FuncData} {k : Nat} (F : Fun K "less" "less" sLess f fd)
    (F1 : FnOk P w K mg base CX0 (k + 2) f1 fd1 ["size", "sets"] (spN K RChecked)) (g1 : mg "checked_marks" = some (.ref f1)) (k1 : PySem.W.keepIn K (.ref f1) = true) (b1 : Binds K fd1 ["size", "sets"] [])
    (F2 : FnOk P w K mg base CX0 (k + 2) f2 fd2 ["marks"] (spN K RRanges)) (g2 : mg "ranges_of" = some (.ref f2)) (k2 : PySem.W.keepIn K (.ref f2) = true) (b2 : Binds K fd2 ["marks"] []) (mz : mg "zip" = none) : FnOk P w K mg base CX0 (k + 3) f fd ["size", "one", "other"] (spN K (R2' (fun a b => a && !b))) := by
  refine F.ok scLess (fun vs H Q E h => ?_) (fun cdv A outer s H vs Q E hr h => ?_)
  · obtain ⟨ds, out, ha, ⟨n, rs, ss, rfl, _⟩, _⟩ := h
    exact allLen ha
  · obtain ⟨ds, out, ha, ⟨n, rs, ss, rfl, hn1, hn64, hg, hg', rfl⟩, q⟩ := h
    obtain ⟨x, y, z, rfl, hx, hy, hz⟩ := all3 ha
    cases dpInt hx
    have nd := scLess.nd
    refine ⟨_, pss_cons (ps_asg (pe_call F1 hr (by rfl) g1 k1 b1 .nil pass0 (pa_cons (pv 0) (pa_cons (pe_lst (pa_cons (pv 1) (pa_cons (pv 2) pa_nil))) pa_nil))) (pg_unl rfl (pgs_cons (pg_name (i := 3) nd rfl (.inl rfl)) (pgs_cons (pg_name (i := 4) nd rfl (.inl rfl)) pgs_nil))))
      (pss_one (ps_ret (pe_call F2 hr (by rfl) g2 k2 b2 .nil pass0 (pa_cons (pe_lc (own := [("a", 5), ("b", 6)]) (g := gTup K 2 (gCons (gName 5) (gCons (gName 6) gNil))) (tt := tYes) rfl nd (pi_zip (by rfl) mz (pa_cons (pv 3) (pa_cons (pv 4) pa_nil))) (blkOk_by (own := [("a", 5), ("b", 6)]) (N := nLess) (sc := defScope sLess) (by decide +kernel))
        (fun _ _ _ _ _ => pg_tup rfl (pgs_cons (pg_name (i := 5) nd rfl (Or.inl rfl)) (pgs_cons (pg_name (i := 6) nd rfl (Or.inl rfl)) pgs_nil))) (fun _ _ _ _ _ => pts_nil) (fun _ _ _ _ _ => pe_and (pv 5) (pe_one (pe_not (pv 6))))) pa_nil)))), ?_⟩
    exact two_sets (K := K) (op := (fun a b => a && !b)) rfl hn1 hn64 hg hg' hy hz q fun σ H a b h1 h2 => ev_andV (ev_var h1) fun _ => ev_notV (ev_var h2)
end

/-! ### check_number, inside -/
theorem sAsgPair {K : PySem.W.Frag} {σ : L2.St} {H : Hp} {te : TE} {D : Ends} {i j : Nat} {d e : PyData} (h : EvD K te σ H (.tuple [d, e])) (k : ∀ x y H1, Ex H H1 → Dp K H1 x d → Dp K H1 y e → D.nx ((σ.set i (some x)).set j (some y)) H1) : tAsg te (gTup K 2 (gCons (gName i) (gCons (gName j) gNil))) D σ H := h H (Ex.refl H) _ fun v H1 e1 hd => gPair hd fun x y hx hy => k x y H1 e1 hx hy
theorem lenL {K : PySem.W.Frag} {σ : L2.St} {H : Hp} {j : Nat} {v : V} {ds : List PyData} {r : List V → Hp → VK → Prop} (h : σ[j]? = some (some v)) (hd : Dp K H v (.list ds)) (hr : r = fun xs H Q => ∃ p ys, xs = [.ref p] ∧ (SqL K H p ys ∨ SqT K H p ys) ∧ Q (.int ys.length) H) : Ev (tCB r (tCons (tVar j) tNil)) σ H (.int (ds.length : Int)) := fun H1 e Q q => by
  subst hr
  obtain ⟨a, xs, rfl, hs, ha⟩ := dpList (SB.mono e hd)
  exact ⟨.ref a, h, a, xs, rfl, .inl hs, by rw [allLen ha]; exact q H1 (Ex.refl H1)⟩
section
variable {P : Program} {w : World} {K : PySem.W.Frag} {mg : Str → Option Value} {base : Heap}
def RNum : List PyData → PyData → Prop := fun ds out => ∃ n x : Nat, ds = [.int (n : Int), .int (x : Int)] ∧ x < n ∧ out = .none
theorem ok_num {f : Addr} {fd : FuncData} {k : Nat} (F : Fun K "check_number" "check_number" sCheckNumber f fd) : FnOk P w K mg base CX0 (k + 1) f fd ["size", "number"] (spV K RNum) := by
  refine F.ok scCheckNumber (fun vs H Q E h => ?_) (fun cdv A outer s H vs Q E hr h => ?_)
  · obtain ⟨ds, out, ha, ⟨n, x, rfl, _⟩, _⟩ := h
    exact allLen ha
  · obtain ⟨ds, out, ha, ⟨n, x, rfl, h1, rfl⟩, q⟩ := h
    obtain ⟨u, v, rfl, hu, hv⟩ := all2 ha
    cases dpInt hu
    cases dpInt hv
    refine ⟨_, pss_one (ps_if (pt_not (pt_chain op_le op_lt pe_int (pv 1) (pv 0))) (pss_one ps_never) pss_nil), ?_⟩
    refine s_if (b := false) (et_is (et_not (et_test (ev_chain2 (f := fun a b => decide (a ≤ b)) (f' := fun a b => decide (a < b)) ev_c (ev_var rfl) (ev_var rfl)))) ?_) (fun z => nomatch z) (fun _ H1 e => q _ H1 e .non)
    rw [decide_eq_true (show (0 : Int) ≤ (x : Int) by omega), decide_eq_true (show (x : Int) < (n : Int) by omega)]; rfl
def looks (n : Nat) (rs : List (Nat × Nat)) (x : Nat) : Bool × List (Nat × Nat) := look (told (memB rs) n) x (told (memB rs) n).length 0 (told (memB rs) n).length
def spInside (K : PySem.W.Frag) : Sp := fun vs H Q _ => ∃ (n : Nat) (rs : List (Nat × Nat)) (x : Nat), DpAll K H vs [.int (n : Int), sD rs, .int (x : Int)] ∧ 1 ≤ n ∧ n ≤ 64 ∧ Good n rs ∧ x < n ∧
  ∀ T g xs H', H T = none → H g = none → Ex H H' → H' T = some (.tup [.bl (looks n rs x).1, .ref g]) → H' g = some (.lst xs) → DpAll K H' xs ((looks n rs x).2.map rD) → Q (.ref T) H'
theorem ok_inside {f f1 f2 : Addr} {fd fd1 fd2 : FuncData} {k : Nat} (F : Fun K "inside" "inside" sInside f fd)
    (F1 : FnOk P w K mg base CX0 (k + 3) f1 fd1 ["size", "ranges"] (spN K RPlain)) (g1 : mg "plain" = some (.ref f1)) (k1 : PySem.W.keepIn K (.ref f1) = true) (b1 : Binds K fd1 ["size", "ranges"] [])
    (F2 : FnOk P w K mg base CX0 (k + 3) f2 fd2 ["size", "number"] (spV K RNum)) (g2 : mg "check_number" = some (.ref f2)) (k2 : PySem.W.keepIn K (.ref f2) = true) (b2 : Binds K fd2 ["size", "number"] [])
    (ml : mg "len" = none) : FnOk P w K mg base CX0 (k + 4) f fd ["size", "ranges", "number"] (spInside K) := by
  refine F.ok scInside (fun vs H Q E h => ?_) (fun cdv A outer s H vs Q E hr h => ?_)
  · obtain ⟨n, rs, x, ha, _⟩ := h
    exact allLen ha
  · obtain ⟨n, rs, x, ha, hn1, hn64, hg, hxn, q⟩ := h
    obtain ⟨u, y, v, rfl, hu, hy, hv⟩ := all3 ha
    cases dpInt hu
    cases dpInt hv
    have nd := scInside.nd
    refine ⟨_, pss_cons (ps_set (i := 3) nd rfl (.inl rfl) (pe_call F1 hr (by rfl) g1 k1 b1 .nil pass0 (pa_cons (pv 0) (pa_cons (pv 1) pa_nil))))
      (pss_cons (ps_expr (pe_call F2 hr (by rfl) g2 k2 b2 .nil pass0 (pa_cons (pv 0) (pa_cons (pv 2) pa_nil))))
      (pss_cons (ps_set (i := 4) nd rfl (.inl rfl) (pe_lst pa_nil))
      (pss_cons (ps_par (i := 5) (j := 6) (by rfl) nd rfl rfl (by decide) rfl rfl (pa_cons pe_int (pa_cons (pe_callB call_len_seq (by rfl) ml PySem.boot_len (pa_cons (pv 3) pa_nil)) pa_nil)) (by rfl))
      (pss_cons (ps_while PassesOwn.never (pt_cmpR op_lt (pv 5) (pv 6) (nomark _))
        (pss_cons (ps_set (i := 7) nd rfl (.inl rfl) (pe_op op_fdiv (pe_op op_add (pv 5) (pv 6)) pe_int))
        (pss_cons (ps_asg (pe_ix ix_list (pv 3) (pv 7) (fun _ _ => rfl)) (pg_tup rfl (pgs_cons (pg_name (i := 8) nd rfl (.inl rfl)) (pgs_cons (pg_name (i := 9) nd rfl (.inl rfl)) pgs_nil))))
        (pss_cons (ps_expr (pe_bm PySem.F.plainAttrs_list PySem.F.slot_list_append PySem.F.type_list_append mt_append (pv 4) (pa_cons (pe_tup (pa_cons (pv 8) (pa_cons (pv 9) pa_nil))) pa_nil)))
        (pss_one (ps_if (pt_cmpR op_lt (pv 2) (pv 8) (nomark _)) (pss_one (ps_set (i := 6) nd rfl (.inl rfl) (pv 7)))
          (pss_one (ps_if (pt_cmpR op_gt (pv 2) (pv 9) (nomark _)) (pss_one (ps_set (i := 5) nd rfl (.inl rfl) (pe_op op_add (pv 7) pe_int)))
            (pss_one (ps_ret (pe_tup (pa_cons pe_bl (pa_cons (pv 4) pa_nil)))))))))))))
      (pss_one (ps_ret (pe_tup (pa_cons pe_bl (pa_cons (pv 4) pa_nil))))))))), ?_⟩
    refine sAsgN (nCall (R := RPlain) (da2 (dVar rfl (.int (n : Int))) (dVar (v := y) rfl hy)) ⟨n, rs, rfl, hn1, hn64, hg, rfl⟩) fun pl xl H1 hpl e1 h1 A1 => ?_
    refine sDropD (vCall (K := K) (R := RNum) (da2 (dVar rfl (.int (n : Int))) (dVar rfl (.int (x : Int)))) ⟨n, x, rfl, hxn, rfl⟩) fun H2 e2 => ?_
    obtain ⟨L, hL⟩ : ∃ L, L = looks n rs x := ⟨_, rfl⟩
    rw [← hL] at q
    unfold looks at hL
    obtain ⟨ts, hts⟩ : ∃ ts, ts = told (memB rs) n := ⟨_, rfl⟩
    have tl : ts.length ≤ 32 := by rw [hts]; have := told_len (memB rs) n; omega
    rw [← hts] at hL
    have dF : Dp K H2 (.ref pl) (sD ts) := by rw [hts]; exact .lst (sq_of (e2 pl _ h1)) (monoA e2 A1)
    have hLl : L.2.length ≤ 7 := by rw [hL]; exact look_len ts x _ 0 _ 7 (by show ts.length - 0 < 128; omega)
    refine ⟨Nat.zero_le _, fun g hg' => ?_⟩
    have hg0 : H g = none := fresh_back (e1.trans e2) hg'
    refine ⟨.ref pl, rfl, ?_⟩
    obtain ⟨a0, x0, ea, hs0, hA0⟩ := dpList (SB.mono (Ex.new (o := .lst []) hg') dF)
    cases ea
    refine ⟨pl, x0, rfl, .inl hs0, .int 0, .int (x0.length : Int), rfl, ?_⟩
    have hx0 : x0.length = ts.length := by rw [allLen hA0, List.length_map]
    rw [hx0]
    have fin : ∀ (b : Bool) (H' : Hp) (fx : List V), Ex H2 H' → H' g = some (.lst fx) → DpAll K H' fx (L.2.map rD) → b = L.1 → ∀ T, H' T = none → Q (.ref T) (upd H' T (.tup [.bl b, .ref g])) := fun b H' fx e h A eb T hT => by
      have e' : Ex H H' := (e1.trans e2).trans e
      refine q T g fx _ (fresh_back e' hT) hg0 (e'.trans (Ex.new hT)) ?_ (by rw [upd_ne (ne_of_none h hT)]; exact h) (monoA (Ex.new hT) A)
      rw [upd_same, eb]
    refine s_while (fun m σ' H' => ∃ (lo hi : Nat) (acc : List (Nat × Nat)) (fx : List V), Ex H2 H' ∧ H' g = some (.lst fx) ∧ DpAll K H' fx (acc.map rD) ∧ hi ≤ ts.length ∧ hi - lo ≤ m ∧ acc ++ (look ts x m lo hi).2 = L.2 ∧ (look ts x m lo hi).1 = L.1 ∧ ∃ b7 b8 b9, σ' = [some (.int (n : Int)), some y, some (.int (x : Int)), some (.ref pl), some (.ref g), some (.int (lo : Int)), some (.int (hi : Int)), b7, b8, b9]) ts.length ⟨0, ts.length, [], [], Ex.new hg', upd_same, .nil, Nat.le_refl _, by omega, by rw [hL]; rfl, by rw [hL], none, none, none, rfl⟩ (fun m σ' H' hW => ?_)
    obtain ⟨lo, hi, acc, fx, e3, h3, A3, w1, w2, w3, w4, b7, b8, b9, rfl⟩ := hW
    refine ⟨decide ((lo : Int) < (hi : Int)), et_test (ev_op (ev_var rfl) (ev_var rfl) rv_I0), fun hb H4 e4 => ?_, fun hb H4 e4 => ?_⟩
    · have hlt : lo < hi := by have := of_decide_eq_true hb; omega
      obtain ⟨m', rfl⟩ : ∃ m', m = m' + 1 := ⟨m - 1, by omega⟩
      have hmid : (lo + hi) / 2 < ts.length := by omega
      have e34 := e3.trans e4
      refine ⟨fun σ2 H5 => ∃ (lo hi : Nat) (acc : List (Nat × Nat)) (fx : List V), Ex H2 H5 ∧ H5 g = some (.lst fx) ∧ DpAll K H5 fx (acc.map rD) ∧ hi ≤ ts.length ∧ hi - lo ≤ m' ∧ acc ++ (look ts x m' lo hi).2 = L.2 ∧ (look ts x m' lo hi).1 = L.1 ∧ ∃ b7 b8 b9, σ2 = [some (.int (n : Int)), some y, some (.int (x : Int)), some (.ref pl), some (.ref g), some (.int (lo : Int)), some (.int (hi : Int)), b7, b8, b9], fun σ2 H5 hN => ⟨m', Nat.lt_succ_self _, hN⟩, ?_⟩
      have hfd : ((lo : Int) + (hi : Int)) / 2 = (((lo + hi) / 2 : Nat) : Int) := by omega
      refine s_asg (v := .int (((lo + hi) / 2 : Nat) : Int)) (ev_is (ev_op (ev_op (x := .int (lo : Int)) (y := .int (hi : Int)) (ev_var rfl) (ev_var rfl) rv_I0) ev_c (rv_I ⟨by decide, by decide⟩)) (congrArg V.int hfd)) fun H5 e5 => ?_
      have gi : ts.getD ((lo + hi) / 2) (0, 0) = ts[(lo + hi) / 2] := getD_at (0, 0) hmid
      generalize hr' : ts[(lo + hi) / 2] = r at gi
      refine sAsgPair (K := K) (dIxL (i := (((lo + hi) / 2 : Nat) : Int)) (d := rD r) (dVar (v := .ref pl) rfl (SB.mono (e34.trans e5) dF)) (ev_var rfl) (atI_nat (by rw [List.getElem?_map, List.getElem?_eq_getElem hmid, hr']; rfl))) fun y1 y2 H6 e6 hy1 hy2 => ?_
      cases dpInt hy1
      cases dpInt hy2
      have e46 := (e4.trans e5).trans e6
      have h6 : H6 g = some (.lst fx) := e46 g _ h3
      have hacc : acc.length ≤ 7 := by
        have := congrArg List.length w3
        rw [List.length_append] at this
        omega
      refine s_appU h6 (ev_var rfl) (eu_tup (ea_cons (ev_var rfl) (ea_cons (ev_var rfl) ea_nil)) (by show 2 ≤ 100000; decide)) (by rw [allLen A3, List.length_map]; omega) fun T H7 hT e7 h7T => ?_
      have e27 : Ex H2 (upd H7 g (.lst (fx ++ [.ref T]))) := Ex.mut ((e3.trans e46).trans e7) hg'
      have h8 : (upd H7 g (.lst (fx ++ [.ref T]))) g = some (.lst (fx ++ [.ref T])) := upd_same
      have A8 : DpAll K (upd H7 g (.lst (fx ++ [.ref T]))) (fx ++ [.ref T]) ((acc ++ [r]).map rD) := by
        rw [List.map_append]
        exact keepT (e7 g _ h6) (by rw [← List.map_append]; exact noRs _) (allApp (monoA (e46.trans e7) A3) (.cons (.tup (st_of h7T) (.cons (.int _) (.cons (.int _) .nil))) .nil))
      generalize upd H7 g (.lst (fx ++ [.ref T])) = H8 at e27 h8 A8
      by_cases c1 : x < r.1
      · refine s_if (b := true) (et_is (et_test (ev_op (x := .int (x : Int)) (y := .int (r.1 : Int)) (ev_var rfl) (ev_var rfl) rv_I0)) (decide_eq_true (by omega))) (fun _ H9 e9 => ?_) (fun z => nomatch z)
        refine s_asg (v := .int (((lo + hi) / 2 : Nat) : Int)) (ev_var rfl) fun H10 e10 => ?_
        rw [look_less hlt gi c1] at w3 w4
        exact ⟨lo, (lo + hi) / 2, acc ++ [r], _, e27.trans (e9.trans e10), (e9.trans e10) g _ h8, monoA (e9.trans e10) A8, by omega, by omega, by rw [List.append_assoc]; exact w3, w4, _, _, _, rfl⟩
      · refine s_if (b := false) (et_is (et_test (ev_op (x := .int (x : Int)) (y := .int (r.1 : Int)) (ev_var rfl) (ev_var rfl) rv_I0)) (decide_eq_false (by omega))) (fun z => nomatch z) (fun _ H9 e9 => ?_)
        by_cases c2 : r.2 < x
        · refine s_if (b := true) (et_is (et_test (ev_op (x := .int (x : Int)) (y := .int (r.2 : Int)) (ev_var rfl) (ev_var rfl) rv_I0)) (decide_eq_true (by omega))) (fun _ H10 e10 => ?_) (fun z => nomatch z)
          refine s_asg (v := .int (((lo + hi) / 2 + 1 : Nat) : Int)) (ev_is (ev_op (x := .int (((lo + hi) / 2 : Nat) : Int)) (ev_var rfl) ev_c rv_I0) (congrArg V.int (by omega))) fun H11 e11 => ?_
          rw [look_more hlt gi c1 c2] at w3 w4
          have e911 := (e9.trans e10).trans e11
          exact ⟨(lo + hi) / 2 + 1, hi, acc ++ [r], _, e27.trans e911, e911 g _ h8, monoA e911 A8, w1, by omega, by rw [List.append_assoc]; exact w3, w4, _, _, _, rfl⟩
        · refine s_if (b := false) (et_is (et_test (ev_op (x := .int (x : Int)) (y := .int (r.2 : Int)) (ev_var rfl) (ev_var rfl) rv_I0)) (decide_eq_false (by omega))) (fun z => nomatch z) (fun _ H10 e10 => ?_)
          rw [look_found hlt gi c1 c2] at w3 w4
          have e910 := e9.trans e10
          refine ⟨.ref g, rfl, by show 2 ≤ sizeLine; decide, fun T' hT' => fin true H10 _ (e27.trans e910) (e910 g _ h8) (by rw [← w3]; exact monoA e910 A8) w4 T' hT'⟩
    · have hnl : ¬ lo < hi := by have := of_decide_eq_false hb; omega
      rw [look_done hnl] at w3 w4
      rw [List.append_nil] at w3
      refine ⟨.ref g, rfl, by show 2 ≤ sizeLine; decide, fun T' hT' => fin false H4 fx (e3.trans e4) (e4 g _ h3) (by rw [← w3]; exact monoA e4 A3) w4 T' hT'⟩
end

/-! ### the law's own draws -/
structure DOk (s : List Int) : Prop where
  ex : ∃ a b r, s = a :: b :: r ∧ 0 ≤ a ∧ 0 ≤ b ∧ ∀ x ∈ r, 0 < x
/-- the draws stand at d -/
def DSt (H : Hp) (d : Addr) : Prop := ∃ s : List Int, H d = some (.lst (s.map V.int)) ∧ DOk s ∧ s.length ≤ 100
/-- what a call that draws may do -/
structure Dk (d : Addr) (H H' : Hp) : Prop where
  st : DSt H' d
  ex : Ex (rm H d) (rm H' d)
theorem Dk.refl {d : Addr} {H : Hp} (h : DSt H d) : Dk d H H := ⟨h, Ex.refl _⟩
theorem Dk.trans {d : Addr} {H H1 H2 : Hp} (a : Dk d H H1) (b : Dk d H1 H2) : Dk d H H2 := ⟨b.st, a.ex.trans b.ex⟩
theorem Dk.of {d : Addr} {H H1 : Hp} (h : DSt H d) (e : Ex H H1) : Dk d H H1 := by
  obtain ⟨s, h1, h2, h3⟩ := h
  exact ⟨⟨s, e d _ h1, h2, h3⟩, rmMono e⟩
theorem Dk.fresh {d : Addr} {H H1 : Hp} (a : Dk d H H1) {p : Addr} (h : H1 p = none) : H p = none := by
  obtain ⟨s, h1, _⟩ := a.st
  have hp : p ≠ d := fun z => by rw [z, h1] at h; cases h
  have q := fresh_back a.ex (p := p) (by rw [rmNe hp]; exact h)
  rw [rmNe hp] at q
  exact q
theorem Dk.keep {d : Addr} {H H1 : Hp} (a : Dk d H H1) {p : Addr} {o : HO} (hp : p ≠ d) (h : H p = some o) : H1 p = some o := by
  have q := a.ex p o (by rw [rmNe hp]; exact h)
  rw [rmNe hp] at q
  exact q
theorem DSt.ne {H : Hp} {d p : Addr} (h : DSt H d) (hp : H p = none) : p ≠ d := fun z => by
  obtain ⟨s, h1, _⟩ := h
  rw [z, h1] at hp; cases hp
theorem DSt.ne' {H : Hp} {d p : Addr} (h : DSt H d) (hp : H p = some (.lst [])) : p ≠ d := fun z => by
  obtain ⟨s, h1, ⟨a, b, r, e, _⟩, _⟩ := h
  rw [z, h1, e] at hp; cases hp
def diceF (k : Int) (ns : List Int) : Int := ns.foldl (fun a c => (a * 31 + (if c < 0 then -c else c)) % 2147483647) k
theorem diceF_nn {k : Int} (hk : 0 ≤ k ∧ k < 2147483647) : ∀ ns : List Int, 0 ≤ diceF k ns ∧ diceF k ns < 2147483647 := by
  intro ns
  induction ns generalizing k with
  | nil => exact hk
  | cons c r ih =>
    refine ih (k := (k * 31 + (if c < 0 then -c else c)) % 2147483647) ⟨?_, ?_⟩
    · exact Int.emod_nonneg _ (by decide)
    · exact Int.emod_lt_of_pos _ (by decide)
def big (ns : List Int) : List Int := ns.filter fun c => decide ((10 : Int) ^ 18 ≤ c)
theorem dice_ok {k : Int} (hk : 0 ≤ k ∧ k < 2147483647) (ns : List Int) : DOk (diceF k ns :: 0 :: big ns) :=
  ⟨_, _, _, rfl, (diceF_nn hk ns).1, Int.le_refl 0, fun x hx => by
    have h := of_decide_eq_true (List.mem_filter.mp hx).2
    have : (0 : Int) < 10 ^ 18 := by decide
    omega⟩
theorem nCat {K : PySem.W.Frag} {σ : L2.St} {H : Hp} {ta tb : TE} {ds es : List PyData} (ha : EvN K ta σ H ds) (hb : EvN K tb σ H es) (hl : ds.length + es.length ≤ 100000) : EvN K (tOp rCat ta tb) σ H (ds ++ es) := fun H1 e Q q =>
  ha H1 e _ fun l xs H2 hl' e2 h2 a2 => hb H2 (e.trans e2) _ fun b zs H3 hb' e3 h3 a3 => ⟨l, b, xs, zs, rfl, rfl, e3 l _ h2, h3, sz_of (by rw [allLen a2, allLen a3]; exact hl), fun p hp =>
    q p _ _ (fresh_back (e2.trans e3) hp) ((e2.trans e3).trans (Ex.new hp)) upd_same (monoA (Ex.new hp) (allApp (monoA e3 a2) a3))⟩
theorem outs_map (f : Int → Bool) : ∀ ns : List Int, outs ns.length (fun i => f (ns.getD i 0)) (fun i => .int (ns.getD i 0)) = (ns.filter f).map PyData.int := by
  intro ns
  have key : ∀ ns : List Int, ((List.range ns.length).filter (fun i => f (ns.getD i 0))).map (fun i => ns.getD i 0) = ns.filter f := by
    intro ns
    induction ns with
    | nil => rfl
    | cons x r ih =>
      rw [List.length_cons, List.range_succ_eq_map, List.filter_cons, List.filter_map]
      have e : (List.filter ((fun i => f ((x :: r).getD i 0)) ∘ Nat.succ) (List.range r.length)) = List.filter (fun i => f (r.getD i 0)) (List.range r.length) := rfl
      rw [e]
      have e2 : ((List.filter (fun i => f (r.getD i 0)) (List.range r.length)).map Nat.succ).map (fun i => (x :: r).getD i 0) = r.filter f := by
        rw [List.map_map, ← ih]; rfl
      by_cases c : f x = true
      · rw [if_pos (show f ((x :: r).getD 0 0) = true from c), List.map_cons, e2, List.filter_cons, if_pos c]; rfl
      · rw [if_neg (show ¬ f ((x :: r).getD 0 0) = true from c), e2, List.filter_cons, if_neg c]
  unfold outs
  rw [← key ns, List.map_map]; rfl
theorem getD_int {ns : List Int} {i : Nat} (h : i < ns.length) : (ns.map PyData.int).getD i .none = .int (ns.getD i 0) := by
  rw [getD_map PyData.int (List.getElem?_eq_getElem h), getD_at 0 h]
section
variable {P : Program} {w : World} {K : PySem.W.Frag} {mg : Str → Option Value} {base : Heap}
def RDice : List PyData → List PyData → Prop := fun ds out => ∃ (ns : List Int) (k : Int), ds = [.list (ns.map PyData.int), .int k] ∧ ns.length ≤ 63 ∧ 0 ≤ k ∧ k < 2147483647 ∧ out = (diceF k ns :: 0 :: big ns).map PyData.int
theorem ok_dice {f : Addr} {fd : FuncData} {k : Nat} (F : Fun K "_law_dice" "_law_dice" sLawDice f fd) (ma : mg "abs" = none) : FnOk P w K mg base CX0 (k + 1) f fd ["_law_script", "_law_k"] (spN K RDice) := by
  refine F.ok scLawDice (fun vs H Q E h => ?_) (fun cdv A outer s H vs Q E hr h => ?_)
  · obtain ⟨ds, out, ha, ⟨n, rs, rfl, _⟩, _⟩ := h
    exact allLen ha
  · obtain ⟨ds, out, ha, ⟨ns, kk, rfl, hl, hk0, hk1, rfl⟩, q⟩ := h
    obtain ⟨y, x, rfl, hy, hx⟩ := all2 ha
    cases dpInt hx
    have nd := scLawDice.nd
    refine ⟨_, pss_cons (ps_set (i := 2) nd rfl (.inl rfl) (pv 1))
      (pss_cons (ps_for PassesOwn.never rfl (pi_list (pv 0)) (pg_name (i := 3) nd rfl (.inl rfl))
        (pss_one (ps_set (i := 2) nd rfl (.inl rfl) (pe_op op_mod (pe_op op_add (pe_op op_mul (pv 2) pe_int) (pe_callB call_abs (by rfl) ma (by decide +kernel) (pa_cons (pv 3) pa_nil))) pe_int))))
      (pss_one (ps_ret (pe_op op_cat (pe_lst (pa_cons (pv 2) (pa_cons pe_int pa_nil))) (pe_lc (own := [("_law_cell", 3)]) (g := gName 3) (tt := tTest (tOp (rI0 fun i j => .bl (decide (j ≤ i))) (tVar 3) (tOp (rI CPow fun i j => .int (i ^ j.toNat)) (tC (.int 10)) (tC (.int 18))))) rfl nd (pi_list (pv 0)) (blkOk_by (own := [("_law_cell", 3)]) (N := nLawDice) (sc := defScope sLawDice) (by decide +kernel))
        (fun _ _ _ _ _ => pg_name (i := 3) nd rfl (Or.inl rfl)) (fun _ _ _ _ _ => pts_one (pt_cmpR op_ge (pv 3) (pe_op op_pow pe_int pe_int) (nomark _))) (fun _ _ _ _ _ => pv 3)))))), ?_⟩
    refine s_asg (ev_var (v := .int kk) rfl) fun H1 e1 => ?_
    refine sFor (B := H) e1 (wkList (ev_var (v := y) rfl) hy) (fun i σ' H' => Ex H H' ∧ ∃ a, σ' = [some y, some (.int kk), some (.int (diceF kk (ns.take i))), a]) (fun H2 e => ⟨e1.trans e, none, rfl⟩) (fun i σ' H' _ p => p.1) (fun i x σ' H' H'' hi p e hd => ?_) (fun σ' H' p => ?_)
    · obtain ⟨e0, a, rfl⟩ := p
      rw [List.length_map] at hi
      rw [getD_int hi] at hd
      cases dpInt hd
      refine s_asg (ev_op (ev_op (x := .int (diceF kk (ns.take i) * 31)) (y := .int (if ns.getD i 0 < 0 then -ns.getD i 0 else ns.getD i 0)) (ev_op (ev_var (v := .int (diceF kk (ns.take i))) rfl) ev_c (rv_I (.inr ⟨by decide, by decide⟩))) (fun H3 _ Q q => ⟨_, rfl, _, rfl, q H3 (Ex.refl H3)⟩) rv_I0) ev_c (rv_I (by decide))) fun H3 e3 => ⟨(e0.trans e).trans e3, some (.int (ns.getD i 0)), ?_⟩
      rw [List.take_add_one, List.getElem?_eq_getElem hi, getD_at 0 hi]
      unfold diceF
      rw [List.foldl_append]; rfl
    · obtain ⟨e0, a, rfl⟩ := p
      have N := nLc (K := K) (σ := [some y, some (.int kk), some (.int (diceF kk ns)), a]) (H := H') (wi := iList K (tVar 0)) (g := gName 3) (tt := tTest (tOp (rI0 fun i j => .bl (decide (j ≤ i))) (tVar 3) (tOp (rI CPow fun i j => .int (i ^ j.toNat)) (tC (.int 10)) (tC (.int 18))))) (te := tVar 3) (vs := [3]) (fun i => decide ((10 : Int) ^ 18 ≤ ns.getD i 0)) (fun i => .int (ns.getD i 0)) (by rw [List.length_map]; omega) (wkList (ev_var (v := y) rfl) (SB.mono e0 hy)).asN (fun Dl i x H3 hi e3 hd => by
        rw [List.length_map] at hi
        rw [getD_int hi] at hd
        cases dpInt hd
        exact ⟨_, fun Q q => q, rfl, et_test (ev_op (ev_var (v := .int (ns.getD i 0)) rfl) (ev_op (z := .int ((10 : Int) ^ 18)) ev_c ev_c (rv_I ⟨by decide, by decide, by decide⟩)) rv_I0), fun _ => (dVar (d := .int (ns.getD i 0)) rfl (.int _)).x rfl⟩)
      rw [List.length_map, outs_map (fun c => decide ((10 : Int) ^ 18 ≤ c))] at N
      rw [List.length_map, List.take_length]
      refine sRetN (nCat (nLst (da2 (dVar (v := .int (diceF kk ns)) rfl (.int _)) dInt) (by show 2 ≤ 100000; decide)) N ?_) (q.ex e0)
      have : (ns.filter (fun c => decide ((10 : Int) ^ 18 ≤ c))).length ≤ ns.length := List.length_filter_le _ _
      rw [List.length_map]
      show 2 + _ ≤ 100000
      omega
end

section
variable {P : Program} {w : World} {K : PySem.W.Frag} {mg : Str → Option Value} {base : Heap}
/-! ### _law_off -/
def spOff : Sp := fun vs H Q _ => ∃ (d : Addr) (m : Int), vs = [.ref d, .int m] ∧ DSt H d ∧ 0 < m ∧ m < 10000000 ∧ ∀ r H', 0 ≤ r → r < m → Dk d H H' → Q (.int r) H'
theorem dk_upd {d : Addr} {H H1 : Hp} {s : List Int} (e : Ex (rm H d) (rm H1 d)) (ok : DOk s) (hl : s.length ≤ 100) : Dk d H (upd H1 d (.lst (s.map V.int))) :=
  ⟨⟨s, upd_same, ok, hl⟩, by rw [rmUpd]; exact e⟩
theorem at0 {a b : Int} {r : List Int} : atI ((a :: b :: r).map V.int) 0 = some (.int a) := atI_nat (j := 0) rfl
theorem at1 {a b : Int} {r : List Int} : atI ((a :: b :: r).map V.int) 1 = some (.int b) := atI_nat (j := 1) rfl
theorem ok_off {f : Addr} {fd : FuncData} {k : Nat} (F : Fun K "_law_off" "_law_off" sLawOff f fd) (ml : mg "len" = none) : FnOk P w K mg base CX0 (k + 1) f fd ["_law_d", "_law_most"] spOff := by
  refine F.ok scLawOff (fun vs H Q E h => ?_) (fun cdv A outer s H vs Q E hr h => ?_)
  · obtain ⟨d, m, rfl, _⟩ := h
    rfl
  · obtain ⟨d, m, rfl, ⟨s0, hd, ok, hl⟩, hm0, hm1, q⟩ := h
    obtain ⟨a, b, r, rfl, ha, hb, hr'⟩ := ok.ex
    have nd := scLawOff.nd
    refine ⟨_, pss_cut (ps_if (PW.pt (pw_and (pt_cmpR op_eq (pe_ix ix_list (pv 0) pe_int (fun _ _ => rfl)) pe_int (nomark _)) (pw_and1 (pt_cmpR op_gt (pe_callB call_len_seq (by rfl) ml PySem.boot_len (pa_cons (pv 0) pa_nil)) pe_int (nomark _)))))
        (pss_one (ps_asg (pe_bm PySem.F.plainAttrs_list PySem.F.slot_list_pop PySem.F.type_list_pop mt_popAt (pv 0) (pa_cons pe_int pa_nil)) (pg_sub (pv 0) pe_int set_list))) pss_nil)
      (pss_cons (ps_if (pt_cmpR op_gt (pe_ix ix_list (pv 0) pe_int (fun _ _ => rfl)) pe_int (nomark _))
        (pss_cons (ps_set (i := 2) nd rfl (.inl rfl) (pe_op op_mod (pe_ix ix_list (pv 0) pe_int (fun _ _ => rfl)) (pv 1)))
        (pss_cons (ps_asg (pe_op op_fdiv (pe_ix ix_list (pv 0) pe_int (fun _ _ => rfl)) (pv 1)) (pg_sub (pv 0) pe_int set_list)) (pss_one (ps_ret (pv 2))))) pss_nil)
      (pss_cons (ps_asg (pe_op op_mod (pe_op op_add (pe_op op_mul (pe_ix ix_list (pv 0) pe_int (fun _ _ => rfl)) pe_int) pe_int) pe_int) (pg_sub (pv 0) pe_int set_list))
      (pss_one (ps_ret (pe_op op_mod (pe_op op_fdiv (pe_ix ix_list (pv 0) pe_int (fun _ _ => rfl)) pe_int) (pv 1)))))), ?_⟩
    refine ⟨fun σ' H' => σ' = [some (.ref d), some (.int m), none] ∧ Dk d H H', ?_, fun σ' H1 hM => ?_⟩
    · -- if d[1] == 0 and len(d) > 2
      have dk0 : Dk d H H := Dk.refl ⟨_, hd, ok, hl⟩
      refine ⟨.ref d, rfl, d, _, 1, .int b, rfl, rfl, SqL.of hd, at1, rfl, _, rfl, ite2 (fun c => ?_) (fun c => ?_)⟩
      · refine ⟨.ref d, rfl, d, _, rfl, .inl (SqL.of hd), _, _, rfl, rfl, _, rfl, ite2 (fun c2 => ?_) (fun c2 => ?_)⟩
        · have hlen : 2 < (a :: b :: r).length := by
            have := of_decide_eq_true c2
            rw [List.length_map] at this
            omega
          obtain ⟨x, r', rfl⟩ : ∃ x r', r = x :: r' := by
            cases r with
            | nil => simp at hlen
            | cons x r' => exact ⟨x, r', rfl⟩
          refine ⟨.ref d, rfl, .inl ⟨rfl, _, SqL.of hd⟩, d, _, 2, 2, .int x, rfl, rfl, hd, by decide, by decide, (ixN_seq (ixN_nat (j := 2) (by rw [List.length_map]; exact hlen))).1, rfl, ?_⟩
          refine ⟨.ref d, rfl, d, _, 1, 1, rfl, rfl, upd_same, ixN_nat (j := 1) (by show 1 < (r'.map V.int).length + 1 + 1; omega), ?_⟩
          refine ⟨rfl, ?_⟩
          rw [upd_upd]
          refine dk_upd (s := a :: x :: r') (Ex.refl _) ⟨a, x, r', rfl, ha, Int.le_of_lt (hr' x List.mem_cons_self), fun z hz => hr' z (List.mem_cons_of_mem _ hz)⟩ (by simp only [List.length_cons] at hl ⊢; omega)
        · exact ⟨rfl, dk0⟩
      · exact iteF ⟨rfl, dk0⟩
    · obtain ⟨rfl, D1⟩ := hM
      obtain ⟨⟨s1, hd1, ok1, hl1⟩, ex1⟩ := D1
      obtain ⟨a, b, r, rfl, ha, hb, hr'⟩ := ok1.ex
      refine ⟨.ref d, rfl, d, _, 1, .int b, rfl, rfl, SqL.of hd1, at1, _, _, rfl, rfl, _, rfl, ite2 (fun c => ?_) (fun c => ?_)⟩
      · have hb0 : 0 < b := of_decide_eq_true c
        refine ⟨.ref d, rfl, d, _, 1, .int b, rfl, rfl, SqL.of hd1, at1, .int m, rfl, b, m, rfl, rfl, hm0, ?_⟩
        refine ⟨.ref d, rfl, d, _, 1, .int b, rfl, rfl, SqL.of hd1, at1, .int m, rfl, b, m, rfl, rfl, ⟨hm0, by omega⟩, ?_⟩
        refine ⟨.ref d, rfl, d, _, 1, 1, rfl, rfl, hd1, ixN_nat (j := 1) (by show 1 < (r.map V.int).length + 1 + 1; omega), ?_⟩
        refine ⟨.int (b % m), rfl, q _ _ (Int.emod_nonneg _ (by omega)) (Int.emod_lt_of_pos _ hm0) ?_⟩
        exact dk_upd (s := a :: (b / m) :: r) ex1 ⟨a, b / m, r, rfl, ha, Int.ediv_nonneg hb (by omega), hr'⟩ hl1
      · refine ⟨.ref d, rfl, d, _, 0, .int a, rfl, rfl, SqL.of hd1, at0, a, 48271, rfl, rfl, .inr ⟨by decide, by decide⟩, a * 48271, 11, rfl, rfl, a * 48271 + 11, 2147483647, rfl, rfl, (show (0 : Int) < 2147483647 by decide), ?_⟩
        refine ⟨.ref d, rfl, d, _, 0, 0, rfl, rfl, hd1, ixN_nat (j := 0) (by show 0 < (r.map V.int).length + 1 + 1; omega), ?_⟩
        refine ⟨.ref d, rfl, d, ((a * 48271 + 11) % 2147483647 :: b :: r).map V.int, 0, .int ((a * 48271 + 11) % 2147483647), rfl, rfl, SqL.of upd_same, at0, (a * 48271 + 11) % 2147483647, 64, rfl, rfl, ⟨by decide, by decide⟩, .int m, rfl, (a * 48271 + 11) % 2147483647 / 64, m, rfl, rfl, hm0, ?_⟩
        refine q _ _ (Int.emod_nonneg _ (by omega)) (Int.emod_lt_of_pos _ hm0) ?_
        exact dk_upd (s := (a * 48271 + 11) % 2147483647 :: b :: r) ex1 ⟨_, b, r, rfl, Int.emod_nonneg _ (by decide), hb, hr'⟩ hl1
end

/-! ### _law_size, _law_set -/
theorem offCall {d : Addr} {m : Int} {j : Nat} {te : TE} {σ : L2.St} {H : Hp} {Q : VK} (h0 : σ[j]? = some (some (.ref d))) (ht : ∀ Q : VK, Q (.int m) H → te σ H Q) (hd : DSt H d) (hm : 0 < m ∧ m < 10000000)
    (k : ∀ r H', 0 ≤ r → r < m → Dk d H H' → Q (.int r) H') : tCall spOff [] E0 (tCons (tVar j) (tCons te tNil)) σ H Q :=
  ⟨.ref d, h0, ht _ ⟨d, m, rfl, hd, hm.1, hm.2, k⟩⟩
theorem small_at {xs : List Int} {r : Int} (h0 : 0 ≤ r) (h1 : r < xs.length) : atI (xs.map V.int) r = some (.int (xs.getD r.toNat 0)) := by
  obtain ⟨j, rfl⟩ : ∃ j : Nat, r = (j : Int) := ⟨r.toNat, by omega⟩
  have hj : j < xs.length := by omega
  rw [Int.toNat_natCast]
  refine atI_nat ?_
  rw [List.getElem?_map, List.getElem?_eq_getElem hj, getD_at 0 hj]; rfl
section
variable {P : Program} {w : World} {K : PySem.W.Frag} {mg : Str → Option Value} {base : Heap}
def spSize : Sp := fun vs H Q _ => ∃ d : Addr, vs = [.ref d] ∧ DSt H d ∧ ∀ (n : Nat) H', 1 ≤ n → n ≤ 64 → Dk d H H' → Q (.int (n : Int)) H'
theorem ok_lsize {f f1 : Addr} {fd fd1 : FuncData} {k : Nat} (F : Fun K "_law_size" "_law_size" sLawSize f fd)
    (F1 : FnOk P w K mg base CX0 (k + 1) f1 fd1 ["_law_d", "_law_most"] spOff) (g1 : mg "_law_off" = some (.ref f1)) (k1 : PySem.W.keepIn K (.ref f1) = true) (b1 : Binds K fd1 ["_law_d", "_law_most"] []) : FnOk P w K mg base CX0 (k + 2) f fd ["_law_d"] spSize := by
  refine F.ok scLawSize (fun vs H Q E h => ?_) (fun cdv A outer s H vs Q E hr h => ?_)
  · obtain ⟨d, rfl, _⟩ := h
    rfl
  · obtain ⟨d, rfl, hd, q⟩ := h
    refine ⟨_, pss_one (ps_ret (pe_ix ix_list (pe_lst (pa_cons pe_int (pa_cons pe_int (pa_cons pe_int (pa_cons (pe_op op_add pe_int (pe_call F1 hr (by rfl) g1 k1 b1 .nil pass0 (pa_cons (pv 0) (pa_cons pe_int pa_nil)))) pa_nil)))))
      (pe_call F1 hr (by rfl) g1 k1 b1 .nil pass0 (pa_cons (pv 0) (pa_cons pe_int pa_nil))) (fun _ _ => rfl))), ?_⟩
    refine offCall (d := d) (m := 64) rfl (fun Q q => q) hd (by decide) fun r H1 hr0 hr1 D1 => ⟨1, r, rfl, rfl, by show 4 ≤ sizeLine; decide, fun p hp => ?_⟩
    have D2 := D1.trans (Dk.of D1.st (Ex.new (o := .lst [.int 8, .int 20, .int 64, .int (1 + r)]) hp))
    refine offCall (d := d) (m := 4) rfl (fun Q q => q) D2.st (by decide) fun r2 H3 hs0 hs1 D3 => ?_
    have hpd : p ≠ d := D1.st.ne hp
    refine ⟨p, ([8, 20, 64, 1 + r] : List Int).map V.int, r2, _, rfl, rfl, SqL.of (D3.keep hpd upd_same), small_at hs0 hs1, ?_⟩
    have D := D2.trans D3
    obtain ⟨j, rfl⟩ : ∃ j : Nat, r2 = (j : Int) := ⟨r2.toNat, by omega⟩
    obtain ⟨i, rfl⟩ : ∃ i : Nat, r = (i : Int) := ⟨r.toNat, by omega⟩
    rw [Int.toNat_natCast]
    have hj : j < 4 := by omega
    match j, hj with
    | 0, _ => exact q 8 H3 (by decide) (by decide) D
    | 1, _ => exact q 20 H3 (by decide) (by decide) D
    | 2, _ => exact q 64 H3 (by decide) (by decide) D
    | 3, _ =>
      have z := q (1 + i) H3 (by omega) (by omega) D
      rw [Int.natCast_add] at z
      exact z
def spLSet (K : PySem.W.Frag) : Sp := fun vs H Q _ => ∃ (d : Addr) (n m : Nat), vs = [.ref d, .int (n : Int), .int (m : Int)] ∧ DSt H d ∧ 1 ≤ n ∧ n ≤ 64 ∧ m ≤ 40 ∧
  ∀ (rs : List (Nat × Nat)) p xs H', rs.length ≤ m → (∀ r ∈ rs, r.1 ≤ r.2 ∧ r.2 < n) → H p = none → Dk d H H' → H' p = some (.lst xs) → DpAll K (rm H' d) xs (rs.map rD) → Q (.ref p) H'
theorem ok_lset {f f1 : Addr} {fd fd1 : FuncData} {k : Nat} (F : Fun K "_law_set" "_law_set" sLawSet f fd)
    (F1 : FnOk P w K mg base CX0 (k + 1) f1 fd1 ["_law_d", "_law_most"] spOff) (g1 : mg "_law_off" = some (.ref f1)) (k1 : PySem.W.keepIn K (.ref f1) = true) (b1 : Binds K fd1 ["_law_d", "_law_most"] [])
    (mr : mg "range" = none) (mm : mg "min" = none) : FnOk P w K mg base CX0 (k + 2) f fd ["_law_d", "_law_size_here", "_law_most"] (spLSet K) := by
  refine F.ok scLawSet (fun vs H Q E h => ?_) (fun cdv A outer s H vs Q E hr h => ?_)
  · obtain ⟨d, n, m, rfl, _⟩ := h
    rfl
  · obtain ⟨d, n, m, rfl, hd, hn1, hn64, hm, q⟩ := h
    have nd := scLawSet.nd
    refine ⟨_, pss_cons (ps_set (i := 3) nd rfl (.inl rfl) (pe_ix ix_list (pe_lst (pa_cons pe_int (pa_cons pe_int (pa_cons (pv 1) pa_nil)))) (pe_call F1 hr (by rfl) g1 k1 b1 .nil pass0 (pa_cons (pv 0) (pa_cons pe_int pa_nil))) (fun _ _ => rfl)))
      (pss_cons (ps_set (i := 4) nd rfl (.inl rfl) (pe_lst pa_nil))
      (pss_cons (ps_for PassesOwn.never rfl (pi_range1 (by rfl) mr (pa_cons (pe_call F1 hr (by rfl) g1 k1 b1 .nil pass0 (pa_cons (pv 0) (pa_cons (pe_op op_add (pv 2) pe_int) pa_nil))) pa_nil)) (pg_name (i := 5) nd rfl (.inl rfl))
        (pss_cons (ps_set (i := 6) nd rfl (.inl rfl) (pe_call F1 hr (by rfl) g1 k1 b1 .nil pass0 (pa_cons (pv 0) (pa_cons (pv 1) pa_nil))))
        (pss_one (ps_expr (pe_bm PySem.F.plainAttrs_list PySem.F.slot_list_append PySem.F.type_list_append mt_append (pv 4) (pa_cons (pe_tup (pa_cons (pv 6) (pa_cons
          (pe_callB (call_min2 rfl) (by rfl) mm (by decide +kernel) (pa_cons (pe_op op_sub (pv 1) pe_int) (pa_cons (pe_op op_add (pv 6) (pe_call F1 hr (by rfl) g1 k1 b1 .nil pass0 (pa_cons (pv 0) (pa_cons (pv 3) pa_nil)))) pa_nil))) pa_nil))) pa_nil))))))
      (pss_one (ps_ret (pv 4))))), ?_⟩
    refine ⟨.int (n : Int), rfl, by show 3 ≤ sizeLine; decide, fun p hp => ?_⟩
    have D1 := Dk.of hd (Ex.new (o := .lst [.int 1, .int 3, .int (n : Int)]) hp)
    refine offCall (d := d) (m := 3) rfl (fun Q q => q) D1.st (by decide) fun r H2 hr0 hr1 D2 => ?_
    refine ⟨p, ([1, 3, (n : Int)] : List Int).map V.int, r, _, rfl, rfl, SqL.of (D2.keep (hd.ne hp) upd_same), small_at hr0 hr1, ?_⟩
    have D := D1.trans D2
    obtain ⟨v, hv, hv1, hv2⟩ : ∃ v : Int, ([1, 3, (n : Int)] : List Int).getD r.toNat 0 = v ∧ 0 < v ∧ v < 10000000 := by
      obtain ⟨j, rfl⟩ : ∃ j : Nat, r = (j : Int) := ⟨r.toNat, by omega⟩
      rw [Int.toNat_natCast]
      have hj : j < 3 := by omega
      match j, hj with
      | 0, _ => exact ⟨1, rfl, by decide, by decide⟩
      | 1, _ => exact ⟨3, rfl, by decide, by decide⟩
      | 2, _ => exact ⟨(n : Int), rfl, by omega, by omega⟩
    rw [hv]
    refine ⟨Nat.zero_le _, fun l hl => ?_⟩
    have hl0 : H l = none := D.fresh hl
    have hld : l ≠ d := hd.ne hl0
    have D3 := D.trans (Dk.of D.st (Ex.new (o := .lst []) hl))
    have h3 : (upd H2 l (.lst [])) l = some (.lst []) := upd_same
    generalize upd H2 l (.lst []) = H3 at D3 h3 ⊢
    refine offCall (d := d) (m := (m : Int) + 1) rfl (fun Q q => ⟨.int (m : Int), rfl, (m : Int), 1, rfl, rfl, q⟩) D3.st ⟨by omega, by omega⟩ fun t H4 ht0 ht1 D4 => ⟨t, rfl, by omega, by omega, ?_⟩
    refine for_range (lo := 0) (n := t.toNat) (fun i σ' H' => Dk d H H' ∧ (∃ (acc : List V) (rs : List (Nat × Nat)), rs.length = i ∧ (∀ r ∈ rs, r.1 ≤ r.2 ∧ r.2 < n) ∧ H' l = some (.lst acc) ∧ DpAll K (rm (rm H' d) l) acc (rs.map rD)) ∧ ∃ a b, σ' = [some (.ref d), some (.int (n : Int)), some (.int (m : Int)), some (.int v), some (.ref l), a, b]) ⟨D3.trans D4, ⟨[], [], rfl, fun _ h => by simp at h, D4.keep hld h3, .nil⟩, none, none, rfl⟩ (fun i σ' H5 hi p => ?_) (fun σ' H5 p => ?_)
    · obtain ⟨D5, ⟨acc, rs, hrl, hrs, h5, hA⟩, a, b, rfl⟩ := p
      refine offCall (d := d) (m := (n : Int)) rfl (fun Q q => ⟨.int (n : Int), rfl, q⟩) D5.st ⟨by omega, by omega⟩ fun x H6 hx0 hx1 D6 => ?_
      refine ⟨.ref l, rfl, .inl ⟨rfl, _, SqL.of (D6.keep hld h5)⟩, .int x, rfl, .int (n : Int), rfl, (n : Int), 1, rfl, rfl, .int x, rfl, ?_⟩
      refine offCall (d := d) (m := v) rfl (fun Q q => ⟨.int v, rfl, q⟩) D6.st ⟨hv1, hv2⟩ fun y H7 hy0 hy1 D7 => ⟨x, y, rfl, rfl, (n : Int) - 1, x + y, rfl, by show 2 ≤ sizeLine; decide, fun T hT => ?_⟩
      have D56 := D6.trans D7
      have h7 : H7 l = some (.lst acc) := D56.keep hld h5
      have hTl : T ≠ l := Ne.symm (ne_of_none h7 hT)
      have hTd : T ≠ d := D7.st.ne hT
      obtain ⟨z, hz, hz1, hz2⟩ : ∃ z : Nat, (if x + y < (n : Int) - 1 then x + y else (n : Int) - 1) = (z : Int) ∧ x ≤ (z : Int) ∧ z < n := by
        by_cases c : x + y < (n : Int) - 1
        · exact ⟨(x + y).toNat, by rw [if_pos c]; omega, by omega, by omega⟩
        · exact ⟨n - 1, by rw [if_neg c]; omega, by omega, by omega⟩
      rw [hz]
      refine ⟨l, acc, _, rfl, rfl, ?_, sz_lt ?_, ?_⟩
      · rw [upd_ne (Ne.symm hTl)]; exact h7
      · rw [allLen hA, List.length_map]; omega
      · have D8 := (D5.trans D56).trans (Dk.of D7.st (Ex.new (o := .tup [.int x, .int (z : Int)]) hT))
        refine ⟨⟨?_, ?_⟩, ⟨acc ++ [.ref T], rs ++ [(x.toNat, z)], ?_, ?_, upd_same, ?_⟩, some (.int (0 + (i : Int))), some (.int x), rfl⟩
        · obtain ⟨s', e1, e2, e3⟩ := D8.st
          exact ⟨s', by rw [upd_ne (Ne.symm hld)]; exact e1, e2, e3⟩
        · rw [rmNew hld]
          exact Ex.mut D8.ex (by rw [rmNe hld]; exact hl0)
        · rw [List.length_append, hrl]; rfl
        · intro r hr2
          rcases List.mem_append.mp hr2 with h | h
          · exact hrs r h
          · rw [List.mem_singleton.mp h]
            exact ⟨by show x.toNat ≤ z; omega, hz2⟩
        · rw [rmNew hld, rmUpd, List.map_append]
          have eN : Ex (rm (rm H5 d) l) (rm (rm (upd H7 T (.tup [.int x, .int (z : Int)])) d) l) := rmMono (D56.ex.trans (rmMono (Ex.new hT)))
          refine allApp (monoA eN hA) (.cons (.tup (st_of (xs := [.int x, .int (z : Int)]) ?_) (.cons ?_ (.cons (.int _) .nil))) .nil)
          · rw [rmNe hTl, rmNe hTd, upd_same]
          · show Dp K _ (.int x) (.int ((x.toNat : Nat) : Int))
            rw [Int.toNat_of_nonneg hx0]
            exact .int x
    · obtain ⟨D5, ⟨acc, rs, hrl, hrs, h5, hA⟩, a, b, rfl⟩ := p
      exact ⟨.ref l, rfl, q rs l acc H5 (by omega) hrs hl0 D5 h5 (monoA rmEx hA)⟩
end

/-! ### sets by what is in them -/
theorem canMap {α : Type} {f : α → PyData} (h : ∀ x, (f x).canLay0 = true) : ∀ xs : List α, PyData.canLayAll0 (xs.map f) = true
  | [] => rfl
  | x :: xs => by
    show ((f x).canLay0 && PyData.canLayAll0 (xs.map f)) = true
    rw [h x, canMap h xs]; rfl
theorem depMap {α : Type} {f : α → PyData} {k : Nat} (h : ∀ x, (f x).depth ≤ k) : ∀ xs : List α, PyData.depthAll (xs.map f) ≤ k
  | [] => Nat.zero_le k
  | x :: xs => by
    show max (f x).depth (PyData.depthAll (xs.map f)) ≤ k
    have a := h x
    have b := depMap h xs
    omega
theorem shList {α : Type} {f : α → PyData} (h1 : ∀ x, (f x).canLay0 = true) (h2 : ∀ x, (f x).depth ≤ 10) (xs : List α) : SeqAt.shaped (.list (xs.map f)) = true := by
  have a : (PyData.list (xs.map f)).canLay0 = true := by
    show PyData.canLayAll0 (xs.map f) = true
    exact canMap h1 xs
  have b : (PyData.list (xs.map f)).depth ≤ 64 := by
    show PyData.depthAll (xs.map f) + 1 ≤ 64
    have := depMap h2 xs
    omega
  show ((PyData.list (xs.map f)).canLay0 && decide ((PyData.list (xs.map f)).depth ≤ 64)) = true
  rw [a, decide_eq_true b]; rfl
theorem sh_sD (rs : List (Nat × Nat)) : SeqAt.shaped (sD rs) = true := shList (fun _ => rfl) (fun _ => (by show (1 : Nat) ≤ 10; decide)) rs
theorem eqvSame {d : PyData} (h : SeqAt.shaped d = true) : PyData.eqv d d = true := SeqAt.eqv_refl d (SeqAt.canLay_of_shaped h)
section
variable {K : PySem.W.Frag} {σ : L2.St} {H : Hp} {ta tb ts : TE} {n : Nat} {f g : Nat → Bool}
/-- a set that can be, told by its signs -/
def SetV (K : PySem.W.Frag) (te : TE) (σ : L2.St) (H : Hp) (n : Nat) (f : Nat → Bool) : Prop := ∃ rs, EvD K te σ H (sD rs) ∧ Good n rs ∧ ∀ k, k < n → memB rs k = f k
/-- the fewest ranges of these signs -/
def TellV (K : PySem.W.Frag) (te : TE) (σ : L2.St) (H : Hp) (n : Nat) (f : Nat → Bool) : Prop := EvD K te σ H (sD (told f n))
theorem TellV.s (h : TellV K ta σ H n f) (hn : n ≤ 64) : SetV K ta σ H n f := ⟨_, h, told_good f hn, fun k hk => told_mem f n k hk⟩
theorem TellV.mono {H' : Hp} (e : Ex H H') (h : TellV K ta σ H n f) : TellV K ta σ H' n f := EvD.mono e h
theorem t2 {op : Bool → Bool → Bool} (hs : Ev ts σ H (.int (n : Int))) (ha : SetV K ta σ H n f) (hb : SetV K tb σ H n g) (hn : 1 ≤ n ∧ n ≤ 64) : TellV K (tCall (spN K (R2' op)) [] E0 (tCons ts (tCons ta (tCons tb tNil)))) σ H n (fun k => op (f k) (g k)) := by
  obtain ⟨rs, h1, g1, m1⟩ := ha
  obtain ⟨ss, h2, g2, m2⟩ := hb
  have e : told (fun k => op (f k) (g k)) n = told (fun k => op (memB rs k) (memB ss k)) n := told_congr n fun k hk => by rw [m1 k hk, m2 k hk]
  unfold TellV
  rw [e]
  exact (nCall (daCons (iD hs) (da2 h1 h2)) ⟨n, rs, ss, rfl, hn.1, hn.2, g1, g2, rfl⟩).asD
theorem tPlain (hs : Ev ts σ H (.int (n : Int))) (ha : SetV K ta σ H n f) (hn : 1 ≤ n ∧ n ≤ 64) : TellV K (tCall (spN K RPlain) [] E0 (tCons ts (tCons ta tNil))) σ H n f := by
  obtain ⟨rs, h1, g1, m1⟩ := ha
  have e : told f n = told (memB rs) n := told_congr n fun k hk => (m1 k hk).symm
  unfold TellV
  rw [e]
  exact (nCall (da2 (iD hs) h1) ⟨n, rs, rfl, hn.1, hn.2, g1, rfl⟩).asD
theorem tOthers (hs : Ev ts σ H (.int (n : Int))) (ha : SetV K ta σ H n f) (hn : 1 ≤ n ∧ n ≤ 64) : TellV K (tCall (spN K ROthers) [] E0 (tCons ts (tCons ta tNil))) σ H n (fun k => !f k) := by
  obtain ⟨rs, h1, g1, m1⟩ := ha
  have e : told (fun k => !f k) n = told (fun k => !memB rs k) n := told_congr n fun k hk => by rw [m1 k hk]
  unfold TellV
  rw [e]
  exact (nCall (da2 (iD hs) h1) ⟨n, rs, rfl, hn.1, hn.2, g1, rfl⟩).asD
theorem neT (ha : TellV K ta σ H n f) (hb : TellV K tb σ H n g) (h : ∀ k, k < n → f k = g k) : EvT (tTest (tOp (rNeD K) ta tb)) σ H false := by
  refine et_is (et_test (neD ha hb (sh_sD _) (sh_sD _))) ?_
  rw [told_congr n h, eqvSame (sh_sD _)]; rfl
theorem eqT (ha : TellV K ta σ H n f) (hb : TellV K tb σ H n g) (h : ∀ k, k < n → f k = g k) : Ev (tOp (rEqD K) ta tb) σ H (.bl true) := by
  refine ev_is (eqD ha hb (sh_sD _) (sh_sD _)) ?_
  rw [told_congr n h, eqvSame (sh_sD _)]
/-- xs[:k], xs[::-1] -/
theorem nCut {ds : List PyData} {k : Nat} (ha : EvD K ta σ H (.list ds)) : EvN K (tSl (rSlL K) ta tNoPart (tPart (tC (.int (k : Int))))) σ H (ds.take k) := fun H1 e Q q => ha H1 e _ fun v H2 e2 hd => by
  obtain ⟨a, xs, rfl, hs, hA⟩ := dpList hd
  refine ⟨(k : Int), rfl, a, xs, rfl, hs, fun p hp => ?_⟩
  have ec : cutV xs none (some (k : Int)) = xs.take k := by
    unfold cutV
    rw [HT.sIx_none, HT.sIx_nat, List.drop_zero, Nat.sub_zero]
    by_cases c : k ≤ xs.length
    · rw [Nat.min_eq_left c]
    · rw [Nat.min_eq_right (by omega), List.take_of_length_le (Nat.le_refl _), List.take_of_length_le (by omega)]
  exact q p _ _ (fresh_back e2 hp) (e2.trans (Ex.new hp)) upd_same (by rw [ec]; exact monoA (Ex.new hp) (allTake k hA))
theorem nRev {ds : List PyData} (ha : EvD K ta σ H (.list ds)) : EvN K (tRevL K ta) σ H ds.reverse := fun H1 e Q q => ha H1 e _ fun v H2 e2 hd => by
  obtain ⟨a, xs, rfl, hs, hA⟩ := dpList hd
  exact ⟨a, xs, rfl, hs, fun p hp => q p _ _ (fresh_back e2 hp) (e2.trans (Ex.new hp)) upd_same (monoA (Ex.new hp) (allRev hA))⟩
end
/-- the draws at the start -/
theorem dst_of {K : PySem.W.Frag} {H : Hp} {p : Addr} {xs : List V} {k : Int} {ns : List Int} (hk : 0 ≤ k ∧ k < 2147483647) (hl : ns.length ≤ 63) (h : H p = some (.lst xs)) (ha : DpAll K H xs ((diceF k ns :: 0 :: big ns).map PyData.int)) : DSt H p := by
  refine ⟨_, ?_, dice_ok hk ns, ?_⟩
  · rw [h, intsOfAll ha]
  · have : (big ns).length ≤ ns.length := List.length_filter_le _ _
    show (big ns).length + 1 + 1 ≤ 100
    omega

/-! ### _law_alike -/
mutual
def wide : PyData → Bool
  | .list ds => decide (ds.length ≤ 1000) && wides ds
  | .tuple ds => decide (ds.length ≤ 1000) && wides ds
  | _ => true
def wides : List PyData → Bool
  | [] => true
  | d :: ds => wide d && wides ds
end
theorem wides_at : ∀ {ds : List PyData} {i : Nat} {d : PyData}, wides ds = true → ds[i]? = some d → wide d = true
  | [], i, _, _, e => by simp at e
  | x :: xs, 0, d, h, e => by
    have h' := Bool.and_eq_true_iff.mp h
    simp at e; subst e; exact h'.1
  | x :: xs, i + 1, d, h, e => by
    have h' := Bool.and_eq_true_iff.mp h
    exact wides_at h'.2 (by simpa using e)
theorem dep_at : ∀ {ds : List PyData} {i : Nat} {d : PyData}, ds[i]? = some d → d.depth ≤ PyData.depthAll ds
  | [], i, _, e => by simp at e
  | x :: xs, 0, d, e => by
    simp at e; subst e
    show x.depth ≤ max x.depth (PyData.depthAll xs)
    omega
  | x :: xs, i + 1, d, e => by
    have h : xs[i]? = some d := by simpa using e
    have ih := dep_at h
    show d.depth ≤ max x.depth (PyData.depthAll xs)
    omega
def tyN : PyData → String
  | .none => "NoneType"
  | .bool _ => "bool"
  | .int _ => "int"
  | .str _ => "str"
  | .list _ => "list"
  | .tuple _ => "tuple"
  | .dict _ => "dict"
theorem kb_bool_bool : kitB "bool" "bool" = some true := by decide +kernel
theorem kb_bool_int : kitB "bool" "int" = some true := by decide +kernel
theorem kb_bool_str : kitB "bool" "str" = some false := by decide +kernel
theorem kb_bool_list : kitB "bool" "list" = some false := by decide +kernel
theorem kb_bool_tuple : kitB "bool" "tuple" = some false := by decide +kernel
theorem kb_int_bool : kitB "int" "bool" = some false := by decide +kernel
theorem kb_int_int : kitB "int" "int" = some true := by decide +kernel
theorem kb_int_str : kitB "int" "str" = some false := by decide +kernel
theorem kb_int_list : kitB "int" "list" = some false := by decide +kernel
theorem kb_int_tuple : kitB "int" "tuple" = some false := by decide +kernel
theorem kb_str_bool : kitB "str" "bool" = some false := by decide +kernel
theorem kb_str_int : kitB "str" "int" = some false := by decide +kernel
theorem kb_str_str : kitB "str" "str" = some true := by decide +kernel
theorem kb_str_list : kitB "str" "list" = some false := by decide +kernel
theorem kb_str_tuple : kitB "str" "tuple" = some false := by decide +kernel
theorem kb_list_bool : kitB "list" "bool" = some false := by decide +kernel
theorem kb_list_int : kitB "list" "int" = some false := by decide +kernel
theorem kb_list_str : kitB "list" "str" = some false := by decide +kernel
theorem kb_list_list : kitB "list" "list" = some true := by decide +kernel
theorem kb_list_tuple : kitB "list" "tuple" = some false := by decide +kernel
theorem kb_tuple_bool : kitB "tuple" "bool" = some false := by decide +kernel
theorem kb_tuple_int : kitB "tuple" "int" = some false := by decide +kernel
theorem kb_tuple_str : kitB "tuple" "str" = some false := by decide +kernel
theorem kb_tuple_list : kitB "tuple" "list" = some false := by decide +kernel
theorem kb_tuple_tuple : kitB "tuple" "tuple" = some true := by decide +kernel
section
variable {K : PySem.W.Frag} {σ : L2.St} {H : Hp}
theorem tyx : ∀ {d : PyData} {v : V}, Dp K H v d → TyX K H v (.type (tyN d))
  | .none, _, h => by cases h; exact .base .non
  | .bool b, _, h => by cases h; exact .base (.bl b)
  | .int i, _, h => by cases h; exact .base (.int i)
  | .str x, _, h => by cases h; exact .base (.str x)
  | .list ds, _, h => by
    obtain ⟨a, xs, rfl, hs, _⟩ := dpList h
    rcases hs with (hs | ⟨o, hs⟩) | ⟨o, its, n, hk, hc, _⟩
    · exact .base (.lst hs)
    · exact .base (.frz hs)
    · exact .kList hk hc
  | .tuple ds, _, h => by
    obtain ⟨a, xs, rfl, hs, _⟩ := dpTuple h
    rcases hs with (hs | ⟨o, hs⟩) | ⟨o, its, n, hk, hc, _⟩
    · exact .base (.tup hs)
    · exact .fTuple hs
    · exact .kTuple hk hc
  | .dict _, _, h => by cases h
abbrev tIsi (K : PySem.W.Frag) (j : Nat) (c : String) : TE := tCB (rIsi K) (tCons (tVar j) (tCons (tC (.ty c)) tNil))
theorem isi {j : Nat} {v : V} {d : PyData} {c : String} {b : Bool} (h : σ[j]? = some (some v)) (hd : Dp K H v d) (hk : kitB (tyN d) c = some b) : Ev (tIsi K j c) σ H (.bl b) := fun H1 e Q q =>
  ⟨v, h, v, .ty c, .type (tyN d), .type c, b, rfl, .ty c, tyx (SB.mono e hd), kit_ty hk, q H1 (Ex.refl H1)⟩
theorem lenD {j : Nat} {v : V} {ds : List PyData} {r : List V → Hp → VK → Prop} (h : σ[j]? = some (some v)) (hd : Dp K H v (.list ds) ∨ Dp K H v (.tuple ds)) (hr : r = fun xs H Q => ∃ p ys, xs = [.ref p] ∧ (SqL K H p ys ∨ SqT K H p ys) ∧ Q (.int ys.length) H) : Ev (tCB r (tCons (tVar j) tNil)) σ H (.int (ds.length : Int)) := fun H1 e Q q => by
  subst hr
  rcases hd with hd | hd
  · obtain ⟨a, xs, rfl, hs, ha⟩ := dpList (SB.mono e hd)
    exact ⟨.ref a, h, a, xs, rfl, .inl hs, by rw [allLen ha]; exact q H1 (Ex.refl H1)⟩
  · obtain ⟨a, xs, rfl, hs, ha⟩ := dpTuple (SB.mono e hd)
    exact ⟨.ref a, h, a, xs, rfl, .inr hs, by rw [allLen ha]; exact q H1 (Ex.refl H1)⟩
theorem ixD {j k : Nat} {v : V} {ds : List PyData} {i : Nat} {d : PyData} (h : σ[j]? = some (some v)) (hk : σ[k]? = some (some (.int (i : Nat)))) (hd : Dp K H v (.list ds) ∨ Dp K H v (.tuple ds)) (hi : ds[i]? = some d) : EvD K (tOp (rIx K) (tVar j) (tVar k)) σ H d := fun H1 e Q q => by
  rcases hd with hd | hd
  · obtain ⟨a, xs, rfl, hs, ha⟩ := dpList (SB.mono e hd)
    obtain ⟨x, hx, hdx⟩ := allGet ha hi
    exact ⟨.ref a, h, .int (i : Nat), hk, .inl ⟨a, xs, (i : Nat), x, rfl, rfl, hs, atI_nat hx, q x H1 (Ex.refl H1) hdx⟩⟩
  · obtain ⟨a, xs, rfl, hs, ha⟩ := dpTuple (SB.mono e hd)
    obtain ⟨x, hx, hdx⟩ := allGet ha hi
    exact ⟨.ref a, h, .int (i : Nat), hk, .inr (.inl ⟨a, xs, (i : Nat), x, rfl, rfl, hs, atI_nat hx, q x H1 (Ex.refl H1) hdx⟩)⟩
end
/-- the same data twice: told True -/
def spAlike (K : PySem.W.Frag) (k : Nat) : Sp := fun vs H Q _ => ∃ d, DpAll K H vs [d, d] ∧ wide d = true ∧ d.depth < k ∧ ∀ H', Ex H H' → Q (.bl true) H'
section
variable {P : Program} {w : World} {K : PySem.W.Frag} {mg : Str → Option Value} {base : Heap}
theorem ok_alike {f : Addr} {fd : FuncData} (F : Fun K "_law_alike" "_law_alike" sLawAlike f fd) (g : mg "_law_alike" = some (.ref f)) (kp : PySem.W.keepIn K (.ref f) = true) (b : Binds K fd ["_law_found", "_law_due"] [])
    (mi : mg "isinstance" = none) (mB : mg "bool" = none) (mI : mg "int" = none) (mS : mg "str" = none) (mT : mg "tuple" = none) (mL : mg "list" = none) (ml : mg "len" = none) (ma : mg "all" = none) (mr : mg "range" = none) : ∀ k : Nat, FnOk P w K mg base CX0 (k + 1) f fd ["_law_found", "_law_due"] (spAlike K k)
  | 0 => by
    refine F.ok scLawAlike (fun vs H Q E h => ?_) (fun cdv A outer s H vs Q E hr h => ?_)
    · obtain ⟨d, _, _, h0, _⟩ := h
      exact absurd h0 (Nat.not_lt_zero _)
    · obtain ⟨d, _, _, h0, _⟩ := h
      exact absurd h0 (Nat.not_lt_zero _)
  | k + 1 => by
    have F1 := ok_alike F g kp b mi mB mI mS mT mL ml ma mr k
    refine F.ok scLawAlike (fun vs H Q E h => ?_) (fun cdv A outer s H vs Q E hr h => ?_)
    · obtain ⟨d, ha, _⟩ := h
      exact allLen ha
    · obtain ⟨d, ha, hw, hdep, q⟩ := h
      obtain ⟨x, y, rfl, hx, hy⟩ := all2 ha
      have nd := scLawAlike.nd
      refine ⟨_, pss_cons (ps_if (pt_cmpR op_isN (pv 1) pe_non (nomark _)) (pss_one (ps_ret (pe_cmpR op_isN (pv 0) pe_non (nomark _)))) pss_nil)
        (pss_cons (ps_if (pt_val (pe_callB call_isi (by rfl) mi (by decide +kernel) (pa_cons (pv 1) (pa_cons (pe_bltn (v := .ty "bool") (by rfl) mB boot_bool rfl) pa_nil))))
          (pss_one (ps_ret (pe_and (pe_callB call_isi (by rfl) mi (by decide +kernel) (pa_cons (pv 0) (pa_cons (pe_bltn (v := .ty "bool") (by rfl) mB boot_bool rfl) pa_nil))) (pe_one (pe_cmpR op_eq (pv 0) (pv 1) (nomark _)))))) pss_nil)
        (pss_cons (ps_if (pt_val (pe_callB call_isi (by rfl) mi (by decide +kernel) (pa_cons (pv 1) (pa_cons (pe_bltn (v := .ty "int") (by rfl) mI boot_int rfl) pa_nil))))
          (pss_one (ps_ret (pe_and (pe_callB call_isi (by rfl) mi (by decide +kernel) (pa_cons (pv 0) (pa_cons (pe_bltn (v := .ty "int") (by rfl) mI boot_int rfl) pa_nil))) (pe_and (pe_not (pe_callB call_isi (by rfl) mi (by decide +kernel) (pa_cons (pv 0) (pa_cons (pe_bltn (v := .ty "bool") (by rfl) mB boot_bool rfl) pa_nil)))) (pe_one (pe_cmpR op_eq (pv 0) (pv 1) (nomark _))))))) pss_nil)
        (pss_cons (ps_if (pt_val (pe_callB call_isi (by rfl) mi (by decide +kernel) (pa_cons (pv 1) (pa_cons (pe_bltn (v := .ty "str") (by rfl) mS boot_str rfl) pa_nil))))
          (pss_one (ps_ret (pe_and (pe_callB call_isi (by rfl) mi (by decide +kernel) (pa_cons (pv 0) (pa_cons (pe_bltn (v := .ty "str") (by rfl) mS boot_str rfl) pa_nil))) (pe_one (pe_cmpR op_eq (pv 0) (pv 1) (nomark _)))))) pss_nil)
        (pss_cons (ps_if (PW.pt (pw_or (pt_cmpR op_ne (pe_callB call_isi (by rfl) mi (by decide +kernel) (pa_cons (pv 1) (pa_cons (pe_bltn (v := .ty "tuple") (by rfl) mT boot_tuple rfl) pa_nil))) (pe_callB call_isi (by rfl) mi (by decide +kernel) (pa_cons (pv 0) (pa_cons (pe_bltn (v := .ty "tuple") (by rfl) mT boot_tuple rfl) pa_nil))) (nomark _))
            (pw_or1 (pt_cmpR op_ne (pe_callB call_isi (by rfl) mi (by decide +kernel) (pa_cons (pv 1) (pa_cons (pe_bltn (v := .ty "list") (by rfl) mL boot_list rfl) pa_nil))) (pe_callB call_isi (by rfl) mi (by decide +kernel) (pa_cons (pv 0) (pa_cons (pe_bltn (v := .ty "list") (by rfl) mL boot_list rfl) pa_nil))) (nomark _)))))
          (pss_one (ps_ret pe_bl)) pss_nil)
        (pss_cons (ps_if (pt_cmpR op_ne (pe_callB call_len_seq (by rfl) ml PySem.boot_len (pa_cons (pv 0) pa_nil)) (pe_callB call_len_seq (by rfl) ml PySem.boot_len (pa_cons (pv 1) pa_nil)) (nomark _)) (pss_one (ps_ret pe_bl)) pss_nil)
        (pss_one (ps_ret (pe_callB (cr_all rfl) (by rfl) ma (by decide +kernel) (pa_cons (pe_lc (own := [("_law_k", 2)]) (g := gName 2) (tt := tYes) (te := tCall (spAlike K k) [] E0 (tCons (tOp (rIx K) (tVar 0) (tVar 2)) (tCons (tOp (rIx K) (tVar 1) (tVar 2)) tNil))) rfl nd (pi_range1 (by rfl) mr (pa_cons (pe_callB call_len_seq (by rfl) ml PySem.boot_len (pa_cons (pv 1) pa_nil)) pa_nil)) (blkOk_by (own := [("_law_k", 2)]) (N := nLawAlike) (sc := defScope sLawAlike) (by decide +kernel))
          (fun _ _ _ _ _ => pg_name (i := 2) nd rfl (Or.inl rfl)) (fun _ _ _ _ _ => pts_nil) (fun _ _ _ _ _ => pe_call F1 hr (by rfl) g kp b .nil pass0 (pa_cons (pe_ix ix_seq (pv 0) (pv 2) (fun _ _ => rfl)) (pa_cons (pe_ix ix_seq (pv 1) (pv 2) (fun _ _ => rfl)) pa_nil)))) pa_nil))))))))), ?_⟩
      have seq : ∀ ds : List PyData, (Dp K H x (.list ds) ∧ Dp K H y (.list ds) ∧ d = .list ds) ∨ (Dp K H x (.tuple ds) ∧ Dp K H y (.tuple ds) ∧ d = .tuple ds) → ds.length ≤ 1000 → wides ds = true → PyData.depthAll ds < k → ∀ {H1 : Hp}, Ex H H1 → Ev (tCB (rAll K) (tCons (tLc (iRng1 (tCons (tCB (fun xs H Q => ∃ p ys, xs = [.ref p] ∧ (SqL K H p ys ∨ SqT K H p ys) ∧ Q (.int ys.length) H) (tCons (tVar 1) tNil)) tNil)) (gName 2) tYes (tCall (spAlike K k) [] E0 (tCons (tOp (rIx K) (tVar 0) (tVar 2)) (tCons (tOp (rIx K) (tVar 1) (tVar 2)) tNil))) [2]) tNil)) [some x, some y, none] H1 (.bl true) := by
        intro ds hc hlen hwd hdp H1 e1
        have hX : Dp K H1 x (.list ds) ∨ Dp K H1 x (.tuple ds) := hc.elim (fun z => .inl (SB.mono e1 z.1)) fun z => .inr (SB.mono e1 z.1)
        have hY : Dp K H1 y (.list ds) ∨ Dp K H1 y (.tuple ds) := hc.elim (fun z => .inl (SB.mono e1 z.2.1)) fun z => .inr (SB.mono e1 z.2.1)
        have N := nLc (K := K) (σ := [some x, some y, none]) (H := H1) (wi := iRng1 (tCons (tCB (fun xs H Q => ∃ p ys, xs = [.ref p] ∧ (SqL K H p ys ∨ SqT K H p ys) ∧ Q (.int ys.length) H) (tCons (tVar 1) tNil)) tNil)) (g := gName 2) (tt := tYes) (te := tCall (spAlike K k) [] E0 (tCons (tOp (rIx K) (tVar 0) (tVar 2)) (tCons (tOp (rIx K) (tVar 1) (tVar 2)) tNil))) (vs := [2]) (n := (ds.length : Int).toNat) (fun _ => true) (fun _ => .bool true) (by omega) (wkRange1 (ea_cons (lenD rfl hY rfl) ea_nil) ⟨by omega, by omega⟩).asN (fun Dl i v H3 hi e3 hd => by
          rw [Int.toNat_natCast] at hi
          cases dpInt hd
          refine ⟨[some x, some y, some (.int (i : Nat))], fun Q q => q, rfl, et_yes, fun _ => EvD.x (fun H4 e4 Q q => ?_) rfl⟩
          have e34 := e3.trans e4
          have hX3 := hX.imp (SB.mono e34) (SB.mono e34)
          have hY3 := hY.imp (SB.mono e34) (SB.mono e34)
          have hi' := List.getElem?_eq_getElem hi
          exact da2 (ixD (σ := [some x, some y, some (.int (i : Nat))]) (i := i) rfl rfl hX3 hi') (ixD (i := i) rfl rfl hY3 hi') H4 (Ex.refl H4) _ fun vs H5 e5 hvs => ⟨ds[i], by rw [List.append_nil]; exact hvs, wides_at hwd hi', by have := dep_at hi'; omega, fun H6 e6 => q _ H6 (e5.trans e6) (.bl true)⟩)
        rw [outs_all, Int.toNat_natCast] at N
        intro H2 e2 Q q
        refine N H2 e2 (fun x H1 => rAll K [x] H1 Q) fun p xs H3 _ e3 h3 hA => ⟨p, (List.range ds.length).map fun _ => true, rfl, ?_, ?_⟩
        · refine sq_of ?_
          rw [h3]
          have z : (List.range ds.length).map (fun _ => PyData.bool true) = ((List.range ds.length).map fun _ => true).map PyData.bool := by rw [List.map_map]; rfl
          rw [z] at hA
          rw [blsOfAll hA]
        · rw [show ((List.range ds.length).map fun _ => true).all id = true by rw [List.all_map]; exact List.all_eq_true.mpr fun _ _ => rfl]
          exact q H3 e3
      have fin := fun (H2 : Hp) (e : Ex H H2) => q H2 e
      cases d with
      | none =>
        cases hx; cases hy
        exact s_if (b := true) (et_test (fun H1 _ Q q => ⟨.non, rfl, rfl, q H1 (Ex.refl H1)⟩)) (fun _ H1 e1 => s_ret (v := .bl true) (fun H2 _ Q q => ⟨.non, rfl, rfl, q H2 (Ex.refl H2)⟩) fun H2 e2 => fin H2 (e1.trans e2)) (fun z => nomatch z)
      | bool bb =>
        cases hx; cases hy
        refine s_if (b := false) (et_test (fun H1 _ Q q => ⟨.bl bb, rfl, rfl, q H1 (Ex.refl H1)⟩)) (fun z => nomatch z) (fun _ H1 e1 => ?_)
        refine s_if (b := true) (et_B (isi (d := .bool bb) rfl (.bl bb) (by first | exact kb_bool_bool | exact kb_bool_int | exact kb_bool_str | exact kb_bool_list | exact kb_bool_tuple))) (fun _ H2 e2 => ?_) (fun z => nomatch z)
        exact s_ret (v := .bl true) (ev_is (ev_andV (a := true) (isi (d := .bool bb) rfl (.bl bb) (by first | exact kb_bool_bool | exact kb_bool_int | exact kb_bool_str | exact kb_bool_list | exact kb_bool_tuple)) fun _ => ev_op (x := .bl bb) (y := .bl bb) (ev_var rfl) (ev_var rfl) (rv_eq rfl)) (by rw [decide_eq_true rfl]; rfl)) fun H3 e3 => fin H3 ((e1.trans e2).trans e3)
      | int i =>
        cases hx; cases hy
        refine s_if (b := false) (et_test (fun H1 _ Q q => ⟨.int i, rfl, rfl, q H1 (Ex.refl H1)⟩)) (fun z => nomatch z) (fun _ H1 e1 => ?_)
        refine s_if (b := false) (et_B (isi (d := .int i) rfl (.int i) (by first | exact kb_int_bool | exact kb_int_int | exact kb_int_str | exact kb_int_list | exact kb_int_tuple))) (fun z => nomatch z) (fun _ H2 e2 => ?_)
        refine s_if (b := true) (et_B (isi (d := .int i) rfl (.int i) (by first | exact kb_int_bool | exact kb_int_int | exact kb_int_str | exact kb_int_list | exact kb_int_tuple))) (fun _ H3 e3 => ?_) (fun z => nomatch z)
        exact s_ret (v := .bl true) (ev_is (ev_andV (a := true) (isi (d := .int i) rfl (.int i) (by first | exact kb_int_bool | exact kb_int_int | exact kb_int_str | exact kb_int_list | exact kb_int_tuple)) fun _ => ev_andV (a := !false) (ev_notV (isi (d := .int i) rfl (.int i) (by first | exact kb_int_bool | exact kb_int_int | exact kb_int_str | exact kb_int_list | exact kb_int_tuple))) fun _ => ev_op (x := .int i) (y := .int i) (ev_var rfl) (ev_var rfl) (rv_eq rfl)) (by rw [decide_eq_true rfl]; rfl)) fun H4 e4 => fin H4 (((e1.trans e2).trans e3).trans e4)
      | str t =>
        cases hx; cases hy
        refine s_if (b := false) (et_test (fun H1 _ Q q => ⟨.str t, rfl, rfl, q H1 (Ex.refl H1)⟩)) (fun z => nomatch z) (fun _ H1 e1 => ?_)
        refine s_if (b := false) (et_B (isi (d := .str t) rfl (.str t) (by first | exact kb_str_bool | exact kb_str_int | exact kb_str_str | exact kb_str_list | exact kb_str_tuple))) (fun z => nomatch z) (fun _ H2 e2 => ?_)
        refine s_if (b := false) (et_B (isi (d := .str t) rfl (.str t) (by first | exact kb_str_bool | exact kb_str_int | exact kb_str_str | exact kb_str_list | exact kb_str_tuple))) (fun z => nomatch z) (fun _ H3 e3 => ?_)
        refine s_if (b := true) (et_B (isi (d := .str t) rfl (.str t) (by first | exact kb_str_bool | exact kb_str_int | exact kb_str_str | exact kb_str_list | exact kb_str_tuple))) (fun _ H4 e4 => ?_) (fun z => nomatch z)
        exact s_ret (v := .bl true) (ev_is (ev_andV (a := true) (isi (d := .str t) rfl (.str t) (by first | exact kb_str_bool | exact kb_str_int | exact kb_str_str | exact kb_str_list | exact kb_str_tuple)) fun _ => ev_op (x := .str t) (y := .str t) (ev_var rfl) (ev_var rfl) (rv_eq rfl)) (by rw [decide_eq_true rfl]; rfl)) fun H5 e5 => fin H5 ((((e1.trans e2).trans e3).trans e4).trans e5)
      | dict _ => cases hx
      | list ds =>
        have hw' := Bool.and_eq_true_iff.mp hw
        have ev0 : ∀ {H1 : Hp}, Ev (tOp (fun x y H Q => y = .non ∧ Q (.bl (decide (x = .non))) H) (tVar 1) (tC .non)) [some x, some y, none] H1 (.bl false) := by
          obtain ⟨a, xs, rfl, _⟩ := dpList hy
          exact fun {H1} H2 _ Q q => ⟨_, rfl, rfl, q H2 (Ex.refl H2)⟩
        refine s_if (b := false) (et_test ev0) (fun z => nomatch z) (fun _ H1 e1 => ?_)
        refine s_if (b := false) (et_B (isi (v := y) (d := .list ds) rfl (SB.mono e1 hy) (by first | exact kb_list_bool | exact kb_list_int | exact kb_list_str | exact kb_list_list | exact kb_list_tuple))) (fun z => nomatch z) (fun _ H2 e2 => ?_)
        replace e2 := e1.trans e2
        refine s_if (b := false) (et_B (isi (v := y) (d := .list ds) rfl (SB.mono e2 hy) (by first | exact kb_list_bool | exact kb_list_int | exact kb_list_str | exact kb_list_list | exact kb_list_tuple))) (fun z => nomatch z) (fun _ H3 e3 => ?_)
        replace e3 := e2.trans e3
        refine s_if (b := false) (et_B (isi (v := y) (d := .list ds) rfl (SB.mono e3 hy) (by first | exact kb_list_bool | exact kb_list_int | exact kb_list_str | exact kb_list_list | exact kb_list_tuple))) (fun z => nomatch z) (fun _ H4 e4 => ?_)
        replace e4 := e3.trans e4
        refine s_if (b := false) (et_is (et_or (et_test (ev_op (isi (v := y) (d := .list ds) (b := false) rfl (SB.mono e4 hy) (by first | exact kb_list_bool | exact kb_list_int | exact kb_list_str | exact kb_list_list | exact kb_list_tuple)) (isi (v := x) (d := .list ds) (b := false) rfl (SB.mono e4 hx) (by first | exact kb_list_bool | exact kb_list_int | exact kb_list_str | exact kb_list_list | exact kb_list_tuple)) (rv_ne rfl))) fun _ => et_test (ev_op (isi (v := y) (d := .list ds) (b := true) rfl (SB.mono e4 hy) (by first | exact kb_list_bool | exact kb_list_int | exact kb_list_str | exact kb_list_list | exact kb_list_tuple)) (isi (v := x) (d := .list ds) (b := true) rfl (SB.mono e4 hx) (by first | exact kb_list_bool | exact kb_list_int | exact kb_list_str | exact kb_list_list | exact kb_list_tuple)) (rv_ne rfl))) (by decide)) (fun z => nomatch z) (fun _ H5 e5 => ?_)
        replace e5 := e4.trans e5
        refine s_if (b := false) (et_is (et_test (ev_op (x := .int (ds.length : Int)) (y := .int (ds.length : Int)) (lenD (v := x) rfl (.inl (SB.mono e5 hx)) rfl) (lenD (v := y) rfl (.inl (SB.mono e5 hy)) rfl) (rv_ne rfl))) (by rw [decide_eq_true rfl]; rfl)) (fun z => nomatch z) (fun _ H6 e6 => ?_)
        exact s_ret (seq ds (.inl ⟨hx, hy, rfl⟩) (of_decide_eq_true hw'.1) hw'.2 (by have : PyData.depthAll ds + 1 < k + 1 := hdep; omega) (e5.trans e6)) fun H7 e7 => fin H7 ((e5.trans e6).trans e7)
      | tuple ds =>
        have hw' := Bool.and_eq_true_iff.mp hw
        have ev0 : ∀ {H1 : Hp}, Ev (tOp (fun x y H Q => y = .non ∧ Q (.bl (decide (x = .non))) H) (tVar 1) (tC .non)) [some x, some y, none] H1 (.bl false) := by
          obtain ⟨a, xs, rfl, _⟩ := dpTuple hy
          exact fun {H1} H2 _ Q q => ⟨_, rfl, rfl, q H2 (Ex.refl H2)⟩
        refine s_if (b := false) (et_test ev0) (fun z => nomatch z) (fun _ H1 e1 => ?_)
        refine s_if (b := false) (et_B (isi (v := y) (d := .tuple ds) rfl (SB.mono e1 hy) (by first | exact kb_tuple_bool | exact kb_tuple_int | exact kb_tuple_str | exact kb_tuple_list | exact kb_tuple_tuple))) (fun z => nomatch z) (fun _ H2 e2 => ?_)
        replace e2 := e1.trans e2
        refine s_if (b := false) (et_B (isi (v := y) (d := .tuple ds) rfl (SB.mono e2 hy) (by first | exact kb_tuple_bool | exact kb_tuple_int | exact kb_tuple_str | exact kb_tuple_list | exact kb_tuple_tuple))) (fun z => nomatch z) (fun _ H3 e3 => ?_)
        replace e3 := e2.trans e3
        refine s_if (b := false) (et_B (isi (v := y) (d := .tuple ds) rfl (SB.mono e3 hy) (by first | exact kb_tuple_bool | exact kb_tuple_int | exact kb_tuple_str | exact kb_tuple_list | exact kb_tuple_tuple))) (fun z => nomatch z) (fun _ H4 e4 => ?_)
        replace e4 := e3.trans e4
        refine s_if (b := false) (et_is (et_or (et_test (ev_op (isi (v := y) (d := .tuple ds) (b := true) rfl (SB.mono e4 hy) (by first | exact kb_tuple_bool | exact kb_tuple_int | exact kb_tuple_str | exact kb_tuple_list | exact kb_tuple_tuple)) (isi (v := x) (d := .tuple ds) (b := true) rfl (SB.mono e4 hx) (by first | exact kb_tuple_bool | exact kb_tuple_int | exact kb_tuple_str | exact kb_tuple_list | exact kb_tuple_tuple)) (rv_ne rfl))) fun _ => et_test (ev_op (isi (v := y) (d := .tuple ds) (b := false) rfl (SB.mono e4 hy) (by first | exact kb_tuple_bool | exact kb_tuple_int | exact kb_tuple_str | exact kb_tuple_list | exact kb_tuple_tuple)) (isi (v := x) (d := .tuple ds) (b := false) rfl (SB.mono e4 hx) (by first | exact kb_tuple_bool | exact kb_tuple_int | exact kb_tuple_str | exact kb_tuple_list | exact kb_tuple_tuple)) (rv_ne rfl))) (by decide)) (fun z => nomatch z) (fun _ H5 e5 => ?_)
        replace e5 := e4.trans e5
        refine s_if (b := false) (et_is (et_test (ev_op (x := .int (ds.length : Int)) (y := .int (ds.length : Int)) (lenD (v := x) rfl (.inr (SB.mono e5 hx)) rfl) (lenD (v := y) rfl (.inr (SB.mono e5 hy)) rfl) (rv_ne rfl))) (by rw [decide_eq_true rfl]; rfl)) (fun z => nomatch z) (fun _ H6 e6 => ?_)
        exact s_ret (seq ds (.inr ⟨hx, hy, rfl⟩) (of_decide_eq_true hw'.1) hw'.2 (by have : PyData.depthAll ds + 1 < k + 1 := hdep; omega) (e5.trans e6)) fun H7 e7 => fin H7 ((e5.trans e6).trans e7)
end

/-! ### _law_members, _law_told, _law_others -/
section
variable {K : PySem.W.Frag} {w : World} {σ : L2.St} {H : Hp}
theorem nSorted {ta : TE} {ns out : List Int} (h : EvD K ta σ H (.list (ns.map PyData.int))) (hb : ns.length < 4000) (ho : out.Pairwise (· < ·)) (hm : ∀ k, k ∈ out ↔ k ∈ ns) : EvN K (tCB (SC.rSortS w) (tCons (tCB (SC.rSetI K w) (tCons ta tNil)) tNil)) σ H (out.map PyData.int) := fun H1 e Q q =>
  h H1 e _ fun v H2 e2 hd => by
    obtain ⟨a, xs, rfl, hs, hA⟩ := dpList hd
    have hx := intsOfAll hA
    subst hx
    refine ⟨a, ns, rfl, hs, by show ns.length + 1 < 4096; omega, fun c p hp => ⟨p, _, c, rfl, upd_same, fun ns' q' hs' hm' _ _ hq => ?_⟩⟩
    have eo : ns' = out := sortedInt hs' ho fun k => by rw [hm' k, hm k, decide_eq_true_eq]
    subst eo
    exact q q' _ _ (fresh_back (e2.trans (Ex.new hp)) hq) ((e2.trans (Ex.new hp)).trans (Ex.new hq)) upd_same (allOfInts _)
/-- xs + ys, both tracked -/
theorem nCat2 {ta tb : TE} {l b : Addr} {xs ys : List V} {ds es : List PyData} (ha : Ev ta σ H (.ref l)) (hl : H l = some (.lst xs)) (hA : DpAll K H xs ds) (hb : Ev tb σ H (.ref b)) (hl' : H b = some (.lst ys)) (hB : DpAll K H ys es) (hz : ds.length + es.length ≤ 100000) : EvN K (tOp rCat ta tb) σ H (ds ++ es) := fun H1 e Q q =>
  ha H1 e _ fun H2 e2 => hb H2 (e.trans e2) _ fun H3 e3 => ⟨l, b, xs, ys, rfl, rfl, ((e.trans e2).trans e3) l _ hl, ((e.trans e2).trans e3) b _ hl', sz_of (by rw [allLen hA, allLen hB]; exact hz), fun p hp =>
    q p _ _ (fresh_back (e2.trans e3) hp) ((e2.trans e3).trans (Ex.new hp)) upd_same (allApp (monoA (((e.trans e2).trans e3).trans (Ex.new hp)) hA) (monoA (((e.trans e2).trans e3).trans (Ex.new hp)) hB))⟩
theorem inInts {ns : List Int} {x : Int} : inV (.int x) (ns.map V.int) = decide (x ∈ ns) := by
  induction ns with
  | nil => rfl
  | cons y r ih =>
    show (eqV (.int y) (.int x) || inV (.int x) (r.map V.int)) = _
    rw [ih]
    show ((y == x) || decide (x ∈ r)) = _
    rw [Bool.eq_iff_iff]
    simp only [Bool.or_eq_true, beq_iff_eq, decide_eq_true_eq, List.mem_cons]
    constructor
    · rintro (h | h)
      · exact .inl h.symm
      · exact .inr h
    · rintro (h | h)
      · exact .inl h.symm
      · exact .inr h
theorem flatInts (ns : List Int) : (ns.map V.int).all flatV = true := by
  rw [List.all_map]
  exact List.all_eq_true.mpr fun _ _ => rfl
/-- x in numbers, x not in numbers -/
theorem inD {neg : Bool} {ta tb : TE} {x : Int} {ns : List Int} {v : V} (ha : Ev ta σ H (.int x)) (hb : Ev tb σ H v) (hd : Dp K H v (.list (ns.map PyData.int))) : Ev (tOp (rIn K neg) ta tb) σ H (.bl (if neg then !decide (x ∈ ns) else decide (x ∈ ns))) := fun H1 e Q q =>
  ha H1 e _ fun H2 e2 => hb H2 (e.trans e2) _ fun H3 e3 => by
    obtain ⟨a, xs, rfl, hs, hA⟩ := dpList (SB.mono ((e.trans e2).trans e3) hd)
    have hx := intsOfAll hA
    subst hx
    refine ⟨a, _, rfl, .inl hs, rfl, flatInts ns, ?_⟩
    rw [inInts]
    exact q H3 (e2.trans e3)
end
def msD (ms : List Nat) : List PyData := ms.map iD'
theorem msD_int (ms : List Nat) : msD ms = (ms.map fun k : Nat => (k : Int)).map PyData.int := by unfold msD; rw [List.map_map]; rfl
theorem mem_ints {ms : List Nat} {x : Int} : x ∈ (ms.map fun k : Nat => (k : Int)) ↔ ∃ k : Nat, k ∈ ms ∧ (k : Int) = x := List.mem_map
theorem outs_filter (ms : List Nat) (f : Nat → Bool) : outs ms.length (fun i => f (ms.getD i 0)) (fun i => iD' (ms.getD i 0)) = msD (ms.filter f) := by
  have h := outs_map (fun c => f c.toNat) (ms.map fun k : Nat => (k : Int))
  have e : ∀ i, (ms.map fun k : Nat => (k : Int)).getD i 0 = ((ms.getD i 0 : Nat) : Int) := fun i => by
    rw [List.getD_eq_getElem?_getD, List.getD_eq_getElem?_getD, List.getElem?_map]
    cases ms[i]? <;> rfl
  rw [List.length_map] at h
  have e1 : (fun i => f ((ms.map fun k : Nat => (k : Int)).getD i 0).toNat) = fun i => f (ms.getD i 0) := funext fun i => by rw [e i, Int.toNat_natCast]
  have e2 : (fun i => PyData.int ((ms.map fun k : Nat => (k : Int)).getD i 0)) = fun i => iD' (ms.getD i 0) := funext fun i => by rw [e i]; rfl
  rw [e1, e2] at h
  rw [h, msD_int, List.filter_map]
  rfl
section
variable {P : Program} {w : World} {K : PySem.W.Frag} {mg : Str → Option Value} {base : Heap}
def RMem : List PyData → List PyData → Prop := fun ds o => ∃ (n : Nat) (rs : List (Nat × Nat)), ds = [.int (n : Int), sD rs] ∧ n ≤ 64 ∧ Good n rs ∧ o = msD ((List.range n).filter (memB rs))
def RTold : List PyData → List PyData → Prop := fun ds o => ∃ (n : Nat) (m : Nat → Bool), ds = [.list (msD ((List.range n).filter m))] ∧ n ≤ 64 ∧ o = (told m n).map rD
theorem filt_filt (n : Nat) (m g : Nat → Bool) : ((List.range n).filter m).filter g = (List.range n).filter fun k => m k && g k := by
  rw [List.filter_filter]
  refine List.filter_congr fun k _ => ?_
  exact Bool.and_comm _ _
def ROth : List PyData → List PyData → Prop := fun ds o => ∃ (n : Nat) (m : Nat → Bool), ds = [.int (n : Int), .list (msD ((List.range n).filter m))] ∧ n ≤ 64 ∧ o = msD ((List.range n).filter fun k => !m k)
end

/-! ### lists of new lists -/
inductive Parts (K : PySem.W.Frag) (H H' : Hp) : List Addr → List (List PyData) → Prop
  | nil : Parts K H H' [] []
  | cons {a : Addr} {xs : List V} {ds : List PyData} {ps : List Addr} {dss : List (List PyData)} : H a = none → H' a = some (.lst xs) → DpAll K H' xs ds → Parts K H H' ps dss → Parts K H H' (a :: ps) (ds :: dss)
section
variable {K : PySem.W.Frag} {σ : L2.St} {H H' H'' : Hp}
theorem Parts.mono {ps : List Addr} {dss : List (List PyData)} (e : Ex H' H'') (h : Parts K H H' ps dss) : Parts K H H'' ps dss := by
  induction h with
  | nil => exact .nil
  | cons h1 h2 h3 _ ih => exact .cons h1 (e _ _ h2) (monoA e h3) ih
theorem Parts.back {H0 : Hp} {ps : List Addr} {dss : List (List PyData)} (e : Ex H0 H) (h : Parts K H H' ps dss) : Parts K H0 H' ps dss := by
  induction h with
  | nil => exact .nil
  | cons h1 h2 h3 _ ih => exact .cons (fresh_back e h1) h2 h3 ih
theorem Parts.app {ps qs : List Addr} {dss ess : List (List PyData)} (h : Parts K H H' ps dss) (h' : Parts K H H' qs ess) : Parts K H H' (ps ++ qs) (dss ++ ess) := by
  induction h with
  | nil => exact h'
  | cons h1 h2 h3 _ ih => exact .cons h1 h2 h3 ih
theorem Parts.dp {ps : List Addr} {dss : List (List PyData)} (h : Parts K H H' ps dss) : DpAll K H' (ps.map V.ref) (dss.map PyData.list) := by
  induction h with
  | nil => exact .nil
  | cons h1 h2 h3 _ ih => exact .cons (.lst (sq_of h2) h3) ih
theorem Parts.fresh {ps : List Addr} {dss : List (List PyData)} (h : Parts K H H' ps dss) : ∀ a ∈ ps, H a = none := by
  induction h with
  | nil => intro a ha; simp at ha
  | cons h1 h2 h3 _ ih =>
    intro b hb
    rcases List.mem_cons.mp hb with e | e
    · rw [e]; exact h1
    · exact ih b e
theorem Parts.lists {ps : List Addr} {dss : List (List PyData)} {k : Nat} (h : Parts K H H' ps dss) (hk : ∀ ds ∈ dss, ds.length ≤ k) : ∀ a ∈ ps, ∃ xs, H' a = some (.lst xs) ∧ xs.length ≤ k := by
  induction h with
  | nil => intro a ha; simp at ha
  | cons h1 h2 h3 _ ih =>
    intro b hb
    rcases List.mem_cons.mp hb with e | e
    · rw [e]; exact ⟨_, h2, by rw [allLen h3]; exact hk _ List.mem_cons_self⟩
    · exact ih (fun ds hds => hk ds (List.mem_cons_of_mem _ hds)) b e
theorem Parts.len {ps : List Addr} {dss : List (List PyData)} (h : Parts K H H' ps dss) : ps.length = dss.length := by
  induction h with
  | nil => rfl
  | cons h1 h2 h3 _ ih => rw [List.length_cons, List.length_cons, ih]
def EvPs (K : PySem.W.Frag) (ta : TA) (σ : L2.St) (H : Hp) (dss : List (List PyData)) : Prop := ∀ H1, Ex H H1 → ∀ Q : List V → Hp → Prop, (∀ ps H2, Ex H1 H2 → Parts K H1 H2 ps dss → Q (ps.map V.ref) H2) → ta σ H1 Q
theorem psNil : EvPs K tNil σ H [] := fun H1 _ Q q => q [] H1 (Ex.refl H1) .nil
theorem psCons {te : TE} {tA : TA} {ds : List PyData} {dss : List (List PyData)} (h : EvN K te σ H ds) (hr : EvPs K tA σ H dss) : EvPs K (tCons te tA) σ H (ds :: dss) := fun H1 e Q q =>
  h H1 e _ fun p xs H2 hp e2 h2 a2 => hr H2 (e.trans e2) _ fun ps H3 e3 pr => q (p :: ps) H3 (e2.trans e3) (.cons hp (e3 p _ h2) (monoA e3 a2) (pr.back e2))
/-- a new list of new lists -/
def NewP (K : PySem.W.Frag) (H : Hp) (Q : VK) (dss : List (List PyData)) : Prop := ∀ p ps H', H p = none → Ex H H' → H' p = some (.lst (ps.map V.ref)) → Parts K H H' ps dss → p ∉ ps → Q (.ref p) H'
theorem Parts.notin {ps : List Addr} {dss : List (List PyData)} {p : Addr} (h : Parts K H H' ps dss) (hp : H' p = none) : p ∉ ps := fun z => by
  have : ∀ {ps : List Addr} {dss : List (List PyData)}, Parts K H H' ps dss → p ∈ ps → False := by
    intro ps dss h
    induction h with
    | nil => intro z; simp at z
    | cons h1 h2 h3 _ ih =>
      intro z
      rcases List.mem_cons.mp z with e | e
      · rw [← e, hp] at h2; cases h2
      · exact ih e
  exact this h z
theorem pLst {tA : TA} {dss : List (List PyData)} {Q : VK} (h : EvPs K tA σ H dss) (hl : dss.length ≤ 100000) (q : NewP K H Q dss) : tLst tA σ H Q :=
  h H (Ex.refl H) _ fun ps H1 e1 pr => ⟨sz_of (by rw [List.length_map, pr.len]; exact hl), fun p hp => q p ps _ (fresh_back e1 hp) (e1.trans (Ex.new hp)) upd_same (pr.mono (Ex.new hp)) (pr.notin hp)⟩
theorem sAsgP {tA : TA} {dss : List (List PyData)} {D : Ends} {i : Nat} (h : EvPs K tA σ H dss) (hl : dss.length ≤ 100000) (k : ∀ p ps H', H p = none → Ex H H' → H' p = some (.lst (ps.map V.ref)) → Parts K H H' ps dss → p ∉ ps → D.nx (σ.set i (some (.ref p))) H') : tAsg (tLst tA) (gName i) D σ H := pLst (Q := fun x H1 => D.nx (σ.set i (some x)) H1) h hl k
theorem nListOf {ta : TE} {r : List V → Hp → VK → Prop} {ds : List PyData} (h : EvD K ta σ H (.list ds)) (hr : r = fun xs H Q => ∃ p ys, xs = [.ref p] ∧ (SqL K H p ys ∨ SqT K H p ys) ∧ ∀ l, H l = none → Q (.ref l) (upd H l (.lst ys))) : EvN K (tCB r (tCons ta tNil)) σ H ds := fun H1 e Q q => by
  subst hr
  refine h H1 e _ fun v H2 e2 hd => ?_
  obtain ⟨a, xs, rfl, hs, hA⟩ := dpList hd
  exact ⟨a, xs, rfl, .inl hs, fun l hl => q l xs _ (fresh_back e2 hl) (e2.trans (Ex.new hl)) upd_same (monoA (Ex.new hl) hA)⟩
/-- u = [..], what is in it told beside it -/
theorem sAsgX {tA : TA} {ds : List PyData} {D : Ends} {i : Nat} (h : EvDA K tA σ H ds) (hl : ds.length ≤ 100000) (k : ∀ u vs H1, H u = none → Ex H H1 → H1 u = some (.lst vs) → DpAll K (rm H1 u) vs ds → D.nx (σ.set i (some (.ref u))) H1) : tAsg (tLst tA) (gName i) D σ H :=
  h H (Ex.refl H) _ fun vs H1 e1 ha => ⟨sz_of (by rw [allLen ha]; exact hl), fun u hu => k u vs _ (fresh_back e1 hu) (e1.trans (Ex.new hu)) upd_same (by rw [rmUpd, rmFree hu]; exact ha)⟩
theorem sAppX {te ta : TE} {u : Addr} {vs : List V} {ds : List PyData} {d : PyData} {D : Ends} (hu : H u = some (.lst vs)) (hA : DpAll K (rm H u) vs ds) (hs : vs.length < 100000) (ht : Ev ta σ H (.ref u)) (h : EvX K te σ H u d)
    (k : ∀ vs' H2, H2 u = some (.lst vs') → DpAll K (rm H2 u) vs' (ds ++ [d]) → (∀ B : Hp, B u = none → Ex B H → Ex B H2) → D.nx σ H2) : tDrop (tBM K "list" rAppend ta (tCons te tNil)) D σ H :=
  ht H (Ex.refl H) _ fun H1 e1 => ⟨.inl ⟨rfl, vs, sq_of (e1 u _ hu)⟩, h H1 e1 ⟨vs, e1 u _ hu⟩ _ fun y H2 e2 hd => ⟨u, vs, y, rfl, rfl, e2 u _ (e1 u _ hu), sz_lt hs, k _ _ upd_same (by
    rw [rmUpd]
    exact allApp (monoA (rmMono (e1.trans e2)) hA) (.cons hd .nil)) fun B hB eB => Ex.mut (eB.trans (e1.trans e2)) hB⟩⟩
theorem sForN {wi : TI} {n : Nat} {o : Nat → PyData} {g : TG} {tb : TS} {D : Ends} (hw : WkN K wi σ H n o) (Pv : Hp → Nat → L2.St → Hp → Prop) (h0 : ∀ B, Ex H B → Pv B 0 σ B) (hG : ∀ B i σ' H', Pv B i σ' H' → Ex B H')
    (hs : ∀ B i x σ' H' H'', Ex H B → i < n → Pv B i σ' H' → Ex H' H'' → Dp K H'' x (o i) → g x σ' H'' fun σ2 H2 => tb { D with nx := Pv B (i + 1), ct := Pv B (i + 1), bk := D.nx } σ2 H2) (hd : ∀ B σ' H', Ex H B → Pv B n σ' H' → D.nx σ' H') : tFor wi g tb D σ H :=
  hw H (Ex.refl H) _ fun J B e w => for_it w (Pv B) (h0 B e) (fun i σ' H' _ p => hG B i σ' H' p) (fun i x σ' H' H'' hi p y => hs B i x σ' H' H'' e hi p y.1 y.2) (fun σ' H' p => hd B σ' H' e p)
theorem gTriple {i j l : Nat} {x : V} {d e f : PyData} {Q : L2.St → Hp → Prop} (h : Dp K H x (.tuple [d, e, f])) (q : ∀ y z u, Dp K H y d → Dp K H z e → Dp K H u f → Q (((σ.set i (some y)).set j (some z)).set l (some u)) H) : gTup K 3 (gCons (gName i) (gCons (gName j) (gCons (gName l) gNil))) x σ H Q := by
  obtain ⟨a, xs, rfl, hs, ha⟩ := dpTuple h
  obtain ⟨y, z, u, rfl, h1, h2, h3⟩ := all3 ha
  exact ⟨a, _, rfl, hs, rfl, y, [z, u], rfl, z, [u], rfl, u, [], rfl, rfl, q y z u h1 h2 h3⟩
end
/-! ### _law_all -/
def allD (n : Nat) (rs ss : List (Nat × Nat)) : List (List PyData) :=
  [msD ((List.range n).filter (memB rs)), (told (memB rs) n).map rD, (told (fun k => !memB rs k) n).map rD, (told (fun k => memB rs k || memB ss k) n).map rD, (told (fun k => memB rs k && memB ss k) n).map rD, (told (fun k => memB rs k && !memB ss k) n).map rD]
def spAll (K : PySem.W.Frag) : Sp := fun vs H Q _ => ∃ (n : Nat) (rs ss : List (Nat × Nat)), DpAll K H vs [.int (n : Int), sD rs, sD ss] ∧ 1 ≤ n ∧ n ≤ 64 ∧ Good n rs ∧ Good n ss ∧ NewP K H Q (allD n rs ss)
/-- a def of the text: its promise, and where it stands -/
structure Def (P : Program) (w : World) (K : PySem.W.Frag) (mg : Str → Option Value) (base : Heap) (k : Nat) (x : Str) (ps : List Str) (sp : Sp) : Prop where
  ex : ∃ f fd, FnOk P w K mg base CX0 k f fd ps sp ∧ mg x = some (.ref f) ∧ PySem.W.keepIn K (.ref f) = true ∧ Binds K fd ps []
section
variable {P : Program} {w : World} {K : PySem.W.Frag} {mg : Str → Option Value} {base : Heap}
end

/-! ### _law_sets -/
theorem outs_gen {α : Type} (f : α → Bool) (h : α → PyData) (d : α) : ∀ xs : List α, outs xs.length (fun i => f (xs.getD i d)) (fun i => h (xs.getD i d)) = (xs.filter f).map h := by
  intro xs
  have key : ∀ xs : List α, ((List.range xs.length).filter (fun i => f (xs.getD i d))).map (fun i => xs.getD i d) = xs.filter f := by
    intro xs
    induction xs with
    | nil => rfl
    | cons x r ih =>
      rw [List.length_cons, List.range_succ_eq_map, List.filter_cons, List.filter_map]
      have e : (List.filter ((fun i => f ((x :: r).getD i d)) ∘ Nat.succ) (List.range r.length)) = List.filter (fun i => f (r.getD i d)) (List.range r.length) := rfl
      rw [e]
      have e2 : ((List.filter (fun i => f (r.getD i d)) (List.range r.length)).map Nat.succ).map (fun i => (x :: r).getD i d) = r.filter f := by
        rw [List.map_map, ← ih]; rfl
      by_cases c : f x = true
      · rw [if_pos (show f ((x :: r).getD 0 d) = true from c), List.map_cons, e2, List.filter_cons, if_pos c]; rfl
      · rw [if_neg (show ¬ f ((x :: r).getD 0 d) = true from c), e2, List.filter_cons, if_neg c]
  unfold outs
  rw [← key xs, List.map_map]; rfl
theorem atLast {α : Type} {xs : List α} {x : α} (h : xs[xs.length - 1]? = some x) (hp : 0 < xs.length) : atI xs (-1) = some x := by
  unfold atI
  rw [ixN_last hp]
  exact h
theorem setCall2 {K : PySem.W.Frag} {d : Addr} {n m i j : Nat} {te : TE} {σ : L2.St} {H : Hp} {Q : VK} (h1 : σ[i]? = some (some (.ref d))) (h2 : σ[j]? = some (some (.int (n : Int)))) (ht : ∀ Q : VK, Q (.int (m : Int)) H → te σ H Q) (hd : DSt H d) (hn : 1 ≤ n ∧ n ≤ 64) (hm : m ≤ 40)
    (k : ∀ (rs : List (Nat × Nat)) p xs H', rs.length ≤ m → Good n rs → H p = none → Dk d H H' → H' p = some (.lst xs) → DpAll K (rm H' d) xs (rs.map rD) → Q (.ref p) H') : tCall (spLSet K) [] E0 (tCons (tVar i) (tCons (tVar j) (tCons te tNil))) σ H Q :=
  ⟨.ref d, h1, .int (n : Int), h2, ht _ ⟨d, n, m, rfl, hd, hn.1, hn.2, hm, fun rs p xs H' hl hg hp D hx ha => k rs p xs H' hl ⟨by omega, hg⟩ hp D hx ha⟩⟩
/-- sets of at most twenty ranges that can be -/
def Sets (n : Nat) (rss : List (List (Nat × Nat))) : Prop := rss.length ≤ 6 ∧ ∀ rs ∈ rss, rs.length ≤ 20 ∧ Good n rs
def ssD (rss : List (List (Nat × Nat))) : PyData := .list (rss.map sD)
theorem can_sD (rs : List (Nat × Nat)) : (sD rs).canLay0 = true := canMap (fun _ => rfl) rs
theorem dep_sD (rs : List (Nat × Nat)) : (sD rs).depth ≤ 2 := by
  have := depMap (f := rD) (k := 1) (fun _ => Nat.le_refl 1) rs
  show PyData.depthAll (rs.map rD) + 1 ≤ 2
  omega
theorem sh_ssD (rss : List (List (Nat × Nat))) : SeqAt.shaped (ssD rss) = true := shList (f := sD) can_sD (fun rs => Nat.le_trans (dep_sD rs) (by decide)) rss
theorem ssD_eqv : ∀ rss : List (List (Nat × Nat)), PyData.eqv (ssD rss) (.list []) = rss.isEmpty
  | [] => eqvSame (d := .list []) rfl
  | rs :: rss => by
    show PyData.eqv (.list (sD rs :: rss.map sD)) (.list []) = false
    simp [PyData.eqv, PyData.eqvAll]
def spSets (K : PySem.W.Frag) : Sp := fun vs H Q _ => ∃ (d : Addr) (n : Nat), vs = [.ref d, .int (n : Int)] ∧ DSt H d ∧ 1 ≤ n ∧ n ≤ 64 ∧
  ∀ (rss : List (List (Nat × Nat))) p xs H', Sets n rss → H p = none → Dk d H H' → H' p = some (.lst xs) → DpAll K (rm H' d) xs (rss.map sD) → Q (.ref p) H'
/-- the same, told beside any other list -/
def spSetsN (K : PySem.W.Frag) : Sp := fun vs H Q _ => ∃ (d : Addr) (n : Nat), vs = [.ref d, .int (n : Int)] ∧ DSt H d ∧ 1 ≤ n ∧ n ≤ 64 ∧
  ∀ (rss : List (List (Nat × Nat))) p xs H', Sets n rss → H p = none → Dk d H H' → H' p = some (.lst xs) → DpAll K (rm H' d) xs (rss.map sD) → (∀ z, z ≠ d → (∃ ys, H z = some (.lst ys)) → DpAll K (rm (rm H' d) z) xs (rss.map sD)) → Q (.ref p) H'
theorem spSets_N {K : PySem.W.Frag} (vs : List V) (H : Hp) (Q : VK) (E : XK) (h : spSets K vs H Q E) : spSetsN K vs H Q E := by
  obtain ⟨d, n, a, b, c, e, q⟩ := h
  exact ⟨d, n, a, b, c, e, fun rss p xs H' h1 h2 h3 h4 h5 _ => q rss p xs H' h1 h2 h3 h4 h5⟩
section
variable {P : Program} {w : World} {K : PySem.W.Frag} {mg : Str → Option Value} {base : Heap}
end

/-! ### texts of bits, tables -/
def bt (b : Bool) : Nat := if b then 49 else 48
def enc (bs : List Bool) : Str := ⟨(bs.map bt).toArray⟩
theorem bt_inj {a b : Bool} (h : bt a = bt b) : a = b := by cases a <;> cases b <;> first | rfl | exact absurd h (by decide)
theorem enc_inj {a b : List Bool} (h : enc a = enc b) : a = b := by
  have h1 : (a.map bt) = (b.map bt) := by
    have := congrArg (fun z : Str => z.cps.toList) h
    simpa [enc] using this
  exact (List.map_inj_right (fun x y z => bt_inj z)).mp h1
theorem enc_len (bs : List Bool) : (enc bs).length = bs.length := by
  show (bs.map bt).toArray.size = bs.length
  rw [List.size_toArray, List.length_map]
def sD' (bs : List Bool) : PyData := .str (enc bs)
theorem enc_app (a b : List Bool) : enc a ++ enc b = enc (a ++ b) := by
  refine congrArg Str.mk ?_
  show (a.map bt).toArray ++ (b.map bt).toArray = _
  rw [List.map_append]; simp
theorem tl_enc (bs : List Bool) : TL.tl (enc bs) = bs.map bt := by
  show (bs.map bt).toArray.toList = _
  simp
theorem str_tl {x y : Str} (h : x.cps.toList = y.cps.toList) : x = y := by
  cases x; cases y
  exact congrArg Str.mk (Array.toList_inj.mp h)
theorem join_enc : ∀ bs : List Bool, Txt.join (enc []) (bs.map fun b => enc [b]) = enc bs := by
  intro bs
  rw [TL.join_eq]
  induction bs with
  | nil => rfl
  | cons b r ih =>
    cases r with
    | nil => rfl
    | cons c r =>
      show enc [b] ++ enc [] ++ Str.join (enc []) ((c :: r).map fun b => enc [b]) = _
      rw [ih, enc_app, enc_app]; rfl
/-- '0' * k -/
def rRepS : R2 := fun x y H Q => ∃ (z : Str) (k : Int), x = .str z ∧ y = .int k ∧ MulOk z k ∧ Q (.str (Txt.mul z k)) H
theorem op_repS {X : Cx} : OpR X (binaryOp .Mult) rRepS := by
  intro pins s σ H x y v u Q I rx ry h
  obtain ⟨z, k, rfl, rfl, hk, q⟩ := h
  obtain ⟨t, rfl⟩ := rx
  obtain ⟨t', rfl⟩ := ry
  exact PySem.SB.mul hk fun t2 kk => ⟨.str (Txt.mul z k), H, I.tok _, ⟨t2, rfl⟩, q⟩
theorem foldl_zeros : ∀ (k : Nat) (acc : Array Nat), (List.replicate k #[48]).foldl (· ++ ·) acc = acc ++ (List.replicate k 48).toArray
  | 0, acc => by simp
  | k + 1, acc => by
    rw [List.replicate_succ, List.foldl_cons, foldl_zeros k, List.replicate_succ]
    refine Array.toList_inj.mp ?_
    simp
theorem mul_zeros {k : Nat} (h : 1 ≤ k) : Txt.mul (enc [false]) (k : Int) = enc (List.replicate k false) := by
  unfold Txt.mul
  rw [if_neg (by omega)]
  by_cases c : k = 1
  · subst c; rfl
  · rw [if_neg (by
      rw [Bool.or_eq_true, beq_iff_eq, beq_iff_eq]
      rintro (z | z)
      · omega
      · exact absurd z (by decide))]
    refine congrArg Str.mk ?_
    show (List.replicate (k : Int).toNat #[48]).foldl (· ++ ·) #[] = _
    rw [foldl_zeros, Int.toNat_natCast, List.map_replicate]
    simp [bt]
theorem mulOk_zeros {k : Nat} (h : k ≤ 64) : MulOk (enc [false]) (k : Int) := by
  refine ⟨?_, fun h1 _ => ?_, fun _ _ => ?_⟩
  · rw [Bool.or_eq_false_iff]
    exact ⟨decide_eq_false (by omega), decide_eq_false (by omega)⟩
  · have : (enc [false]).length = 1 := rfl
    rw [this]
    have hk : 0 < (k : Int) := by omega
    have := Int.le_ediv_of_mul_le hk (show ((1 : Int)) * (k : Int) ≤ 2 ^ 63 - 1 by omega)
    omega
  · have : (enc [false]).length * (k : Int).toNat ≤ 64 := by
      have e : (enc [false]).length = 1 := rfl
      rw [e, Int.toNat_natCast]; omega
    show Builtin.Str.tooLong _ = false
    unfold Builtin.Str.tooLong
    exact decide_eq_false (by show ¬ (sizeLine < _); have : (64 : Nat) ≤ sizeLine := by decide
                              omega)
theorem cut_enc {bs : List Bool} {a w : Nat} (h : a + w ≤ bs.length) : cutS (enc bs) (some (a : Int)) (some ((a + w : Nat) : Int)) = enc ((bs.drop a).take w) := by
  unfold cutS
  rw [HT.sIx_nat, HT.sIx_nat, enc_len, Nat.min_eq_left (by omega), Nat.min_eq_left (by omega)]
  refine congrArg Str.mk ?_
  show (((bs.map bt).toArray.toList.drop a).take (a + w - a)).toArray = _
  rw [show a + w - a = w by omega, List.map_take, List.map_drop]
theorem rgc {n w : Nat} (hn : 1 ≤ n ∧ n ≤ 64) (hw : 1 ≤ w ∧ w ≤ 64) : RgC 0 (n : Int) (w : Int) (SM.cnt n w) := by
  have rs : Builtin.Range.rangeSize 0 (n : Int) (w : Int) = ((SM.cnt n w : Nat) : Int) := by
    unfold Builtin.Range.rangeSize SM.cnt
    rw [if_pos (by omega), if_pos (by omega), show ((n : Int) - 0 - 1) = ((n - 1 : Nat) : Int) by omega]
    omega
  have cl := cnt_le (w := w) hn.1
  refine ⟨by omega, by omega, ?_, rs⟩
  unfold Builtin.Range.small
  rw [rs]
  simp only [Builtin.Range.rangeFitsLong, Bool.and_eq_true, Bool.or_eq_true, decide_eq_true_eq, beq_iff_eq, show ((w : Int) > 0) by omega, if_true]
  omega
theorem wkRange3 {K : PySem.W.Frag} {σ : L2.St} {H : Hp} {tA : TA} {i j c : Int} {n : Nat} (h : EvA tA σ H [.int i, .int j, .int c]) (hb : RgC i j c n) : WkE K (iRng3 tA) σ H n (fun k => .int (i + (k : Nat) * c)) := fun H1 e R q => h H1 e _ fun H2 e2 => by
  refine ⟨i, j, c, n, rfl, hb, q _ H2 e2 (walk_rangeC.mono (fun _ _ => trivial) fun i H3 x H4 _ _ y => ?_)⟩
  obtain ⟨rfl, rfl⟩ := y
  exact ⟨Ex.refl _, .int _⟩

/-! ### _law_table -/
def tabD (n w : Nat) (rss : List (List (Nat × Nat))) : PyData := .tuple [.list ((tab n w (rss.map memB)).1.map fun l => .list (msD l)), .list ((tab n w (rss.map memB)).2.map sD')]
def vS (s : List Bool) : V := .str (enc s)
theorem allStrs {K : PySem.W.Frag} {H : Hp} : ∀ ss : List (List Bool), DpAll K H (ss.map vS) (ss.map sD')
  | [] => .nil
  | s :: ss => .cons (.str _) (allStrs ss)
theorem strsAll {K : PySem.W.Frag} {H : Hp} : ∀ {ss : List (List Bool)} {vs : List V}, DpAll K H vs (ss.map sD') → vs = ss.map vS
  | [], _, h => by cases h; rfl
  | n :: ns, _, h => by
    cases h with
    | cons h1 h2 => rw [dpStr h1, strsAll h2]; rfl
theorem flatStrs (ss : List (List Bool)) : (ss.map vS).all flatV = true := by
  rw [List.all_map]
  exact List.all_eq_true.mpr fun _ _ => rfl
theorem eqStr (a b : List Bool) : eqV (vS a) (vS b) = decide (a = b) := by
  show (enc a == enc b) = decide (a = b)
  rw [Bool.eq_iff_iff, beq_iff_eq, decide_eq_true_eq]
  exact ⟨enc_inj, fun h => by rw [h]⟩
theorem inStrs (s : List Bool) : ∀ rows : List (List Bool), inV (vS s) (rows.map vS) = decide (s ∈ rows)
  | [] => rfl
  | r :: rows => by
    show (eqV (vS r) (vS s) || inV (vS s) (rows.map vS)) = _
    rw [inStrs s rows, eqStr, Bool.eq_iff_iff]
    simp only [Bool.or_eq_true, decide_eq_true_eq, List.mem_cons]
    constructor
    · rintro (h | h)
      · exact .inl h.symm
      · exact .inr h
    · rintro (h | h)
      · exact .inl h.symm
      · exact .inr h
theorem noStrs (ss : List (List Bool)) : noLs (ss.map sD') = true := noLs_map (fun _ => rfl) ss
theorem memB_beyond {n : Nat} {rs : List (Nat × Nat)} (h : Good n rs) : ∀ k, n ≤ k → memB rs k = false := fun k hk => by
  cases hm : memB rs k with
  | false => rfl
  | true => have := memB_lt h.ok hm; omega
theorem tab_succ (n w : Nat) (rss : List (List (Nat × Nat))) (rs : List (Nat × Nat)) : tab n w ((rss ++ [rs]).map memB) = tabF n w (tab n w (rss.map memB)) (memB rs) := by
  unfold tab
  rw [List.map_append, List.foldl_append]; rfl
theorem tab_grow (n w : Nat) : ∀ (ms : List (Nat → Bool)) (t : List (List Nat) × List (List Bool)), (ms.foldl (tabF n w) t).1.length = t.1.length + ms.length ∧ (ms.foldl (tabF n w) t).2.length ≤ t.2.length + ms.length * SM.cnt n w
  | [], t => ⟨rfl, by simp⟩
  | m :: ms, t => by
    have ih := tab_grow n w ms (tabF n w t m)
    have a := puts_len (strc n w m) t.2
    rw [strc_len] at a
    have h1 : (tabF n w t m).1.length = t.1.length + 1 := by
      show (t.1 ++ [_]).length = _
      rw [List.length_append]; rfl
    have h2 : (tabF n w t m).2.length ≤ t.2.length + SM.cnt n w := a
    rw [List.foldl_cons, List.length_cons, Nat.succ_mul]
    exact ⟨by omega, by omega⟩
theorem tab_fits (n w : Nat) (rss : List (List (Nat × Nat))) : (tab n w (rss.map memB)).1.length = rss.length ∧ (tab n w (rss.map memB)).2.length ≤ rss.length * SM.cnt n w := by
  have h := tab_grow n w (rss.map memB) ([], [])
  rw [List.length_map] at h
  exact ⟨by have := h.1; simpa [tab] using this, by have := h.2; simpa [tab] using this⟩
section
variable {P : Program} {w : World} {K : PySem.W.Frag} {mg : Str → Option Value} {base : Heap}
def RTab : List PyData → PyData → Prop := fun ds out => ∃ (n w : Nat) (rss : List (List (Nat × Nat))), ds = [.int (n : Int), ssD rss, .int (w : Int)] ∧ (1 ≤ n ∧ n ≤ 64) ∧ (1 ≤ w ∧ w ≤ 64) ∧ Sets n rss ∧ out = tabD n w rss
end

/-! ### what the functions of tables and classes promise -/
def SetsG (n : Nat) (rss : List (List (Nat × Nat))) : Prop := rss.length ≤ 6 ∧ ∀ rs ∈ rss, Good n rs
theorem Sets.g {n : Nat} {rss : List (List (Nat × Nat))} (h : Sets n rss) : SetsG n rss := ⟨h.1, fun rs hr => (h.2 rs hr).2⟩
def spTab (K : PySem.W.Frag) : Sp := fun vs H Q _ => ∃ (n w : Nat) (rss : List (List (Nat × Nat))), DpAll K H vs [.int (n : Int), ssD rss, .int (w : Int)] ∧ (1 ≤ n ∧ n ≤ 64) ∧ (1 ≤ w ∧ w ≤ n) ∧ SetsG n rss ∧
  ∀ T f r ps H', H T = none → H f = none → H r = none → Ex H H' → H' T = some (.tup [.ref f, .ref r]) → H' f = some (.lst (ps.map V.ref)) → Parts K H H' ps ((tab n w (rss.map memB)).1.map msD) → H' r = some (.lst ((tab n w (rss.map memB)).2.map vS)) → f ∉ ps → r ∉ ps → Q (.ref T) H'
def RLook : List PyData → PyData → Prop := fun ds out => ∃ (n w : Nat) (rss : List (List (Nat × Nat))) (which x : Nat) (rs : List (Nat × Nat)), ds = [.int (n : Int), tabD n w rss, .int (which : Int), .int (x : Int)] ∧ (1 ≤ n ∧ n ≤ 64) ∧ (1 ≤ w ∧ w ≤ n) ∧ SetsG n rss ∧ rss[which]? = some rs ∧ x < n ∧ out = .bool (memB rs x)
section
variable {K : PySem.W.Frag} {σ : L2.St} {H : Hp}
theorem tabData {H' : Hp} {T f r : Addr} {ps : List Addr} {n w : Nat} {rss : List (List (Nat × Nat))} (hT : H' T = some (.tup [.ref f, .ref r])) (hf : H' f = some (.lst (ps.map V.ref))) (hp : Parts K H H' ps ((tab n w (rss.map memB)).1.map msD)) (hr : H' r = some (.lst ((tab n w (rss.map memB)).2.map vS))) : Dp K H' (.ref T) (tabD n w rss) := by
  refine .tup (st_of hT) (.cons (.lst (sq_of hf) ?_) (.cons (.lst (sq_of hr) (allStrs _)) .nil))
  have z := hp.dp
  rw [List.map_map] at z
  exact z
theorem sAsgTab {tA : TA} {n w i : Nat} {rss : List (List (Nat × Nat))} {D : Ends} (h : EvDA K tA σ H [.int (n : Int), ssD rss, .int (w : Int)]) (hn : 1 ≤ n ∧ n ≤ 64) (hw : 1 ≤ w ∧ w ≤ n) (hs : SetsG n rss)
    (k : ∀ T f r ps H', H T = none → H f = none → H r = none → Ex H H' → H' T = some (.tup [.ref f, .ref r]) → H' f = some (.lst (ps.map V.ref)) → Parts K H H' ps ((tab n w (rss.map memB)).1.map msD) → H' r = some (.lst ((tab n w (rss.map memB)).2.map vS)) → f ∉ ps → r ∉ ps → D.nx (σ.set i (some (.ref T))) H') : tAsg (tCall (spTab K) [] E0 tA) (gName i) D σ H :=
  h H (Ex.refl H) _ fun vs H2 e2 ha => ⟨n, w, rss, by rw [List.append_nil]; exact ha, hn, hw, hs, fun T f r ps H3 hT hf hr e3 h3 h4 pr h5 n1 n2 => k T f r ps H3 (fresh_back e2 hT) (fresh_back e2 hf) (fresh_back e2 hr) (e2.trans e3) h3 h4 (pr.back e2) h5 n1 n2⟩
theorem vTab {tA : TA} {n w : Nat} {rss : List (List (Nat × Nat))} (h : EvDA K tA σ H [.int (n : Int), ssD rss, .int (w : Int)]) (hn : 1 ≤ n ∧ n ≤ 64) (hw : 1 ≤ w ∧ w ≤ n) (hs : SetsG n rss) : EvD K (tCall (spTab K) [] E0 tA) σ H (tabD n w rss) := fun H1 e Q q =>
  h H1 e _ fun vs H2 e2 ha => ⟨n, w, rss, by rw [List.append_nil]; exact ha, hn, hw, hs, fun T f r ps H3 hT hf hr e3 h3 h4 pr h5 n1 n2 => q _ H3 (e2.trans e3) (tabData h3 h4 pr h5)⟩
theorem dIxT {ta tb : TE} {ds : List PyData} {d : PyData} {i : Int} (ha : EvD K ta σ H (.tuple ds)) (hb : Ev tb σ H (.int i)) (h : atI ds i = some d) : EvD K (tOp (rIxT K) ta tb) σ H d := fun H1 a Q q =>
  ha H1 a _ fun v H2 e2 hd => hb H2 (a.trans e2) _ fun H3 e3 => by
    obtain ⟨p, xs, rfl, hs, hA⟩ := dpTuple (SB.mono e3 hd)
    have key : ∃ x, atI xs i = some x ∧ Dp K H3 x d := by
      have hl := allLen hA
      unfold atI at h ⊢
      rw [hl]
      cases q : ixN ds.length i with
      | none => rw [q] at h; cases h
      | some j => rw [q] at h; exact allGet hA h
    obtain ⟨x, hx, hdx⟩ := key
    exact ⟨p, xs, i, x, rfl, rfl, hs, hx, q x H3 (e2.trans e3) hdx⟩
theorem evAlike {tA : TA} {d : PyData} {k : Nat} (h : EvDA K tA σ H [d, d]) (hw : wide d = true) (hd : d.depth < k) : Ev (tCall (spAlike K k) [] E0 tA) σ H (.bl true) := fun H1 e Q q =>
  h H1 e _ fun vs H2 e2 ha => ⟨d, by rw [List.append_nil]; exact ha, hw, hd, fun H3 e3 => q H3 (e2.trans e3)⟩
end
theorem msD_len (ms : List Nat) : (msD ms).length = ms.length := List.length_map ..
theorem widesAll {α : Type} {f : α → PyData} : ∀ {xs : List α}, (∀ x ∈ xs, wide (f x) = true) → wides (xs.map f) = true
  | [], _ => rfl
  | x :: xs, h => by
    show (wide (f x) && wides (xs.map f)) = true
    rw [h x List.mem_cons_self, widesAll fun z hz => h z (List.mem_cons_of_mem _ hz)]; rfl
theorem wideAll {α : Type} {f : α → PyData} {xs : List α} (hl : xs.length ≤ 1000) (h : ∀ x ∈ xs, wide (f x) = true) : wide (.list (xs.map f)) = true := by
  show (decide ((xs.map f).length ≤ 1000) && wides (xs.map f)) = true
  rw [List.length_map, decide_eq_true hl, widesAll h]; rfl
theorem tab_inner (n w : Nat) : ∀ (ms : List (Nat → Bool)) (t : List (List Nat) × List (List Bool)), (∀ l ∈ t.1, l.length = SM.cnt n w) → ∀ l ∈ (ms.foldl (tabF n w) t).1, l.length = SM.cnt n w
  | [], _, h => h
  | m :: ms, t, h => tab_inner n w ms (tabF n w t m) fun l hl => by
    rcases List.mem_append.mp hl with e | e
    · exact h l e
    · rw [List.mem_singleton.mp e, List.length_map, strc_len]
theorem tabD_wide {n w : Nat} (hn : 1 ≤ n ∧ n ≤ 64) {rss : List (List (Nat × Nat))} (hs : rss.length ≤ 6) : wide (tabD n w rss) = true := by
  have cl : SM.cnt n w ≤ 64 := Nat.le_trans (cnt_le hn.1) hn.2
  have hf := tab_fits n w rss
  have h1 : (tab n w (rss.map memB)).2.length ≤ 384 := Nat.le_trans hf.2 (Nat.mul_le_mul hs cl)
  have a : wide (.list ((tab n w (rss.map memB)).1.map fun l => .list (msD l))) = true := wideAll (by rw [hf.1]; omega) fun l hl => wideAll (by
    have := tab_inner n w (rss.map memB) ([], []) (fun _ h => by simp at h) l hl
    omega) fun _ _ => rfl
  have b : wide (.list ((tab n w (rss.map memB)).2.map sD')) = true := wideAll (by omega) fun _ _ => rfl
  show (decide (2 ≤ 1000) && (wide _ && (wide _ && true))) = true
  rw [a, b]; rfl
theorem tabD_depth (n w : Nat) (rss : List (List (Nat × Nat))) : (tabD n w rss).depth < 4 := by
  have a := depMap (f := fun l : List Nat => PyData.list (msD l)) (k := 1) (fun l => by
    have := depMap (f := iD') (k := 0) (fun _ => Nat.le_refl 0) l
    show PyData.depthAll (l.map iD') + 1 ≤ 1
    omega) (tab n w (rss.map memB)).1
  have b := depMap (f := sD') (k := 0) (fun _ => Nat.le_refl 0) (tab n w (rss.map memB)).2
  show max (PyData.depthAll _ + 1) (max (PyData.depthAll _ + 1) 0) + 1 < 4
  omega

/-! ### what the functions of classes promise -/
def RRow : List PyData → List PyData → Prop := fun ds o => ∃ (n : Nat) (rss : List (List (Nat × Nat))), ds = [.int (n : Int), ssD rss] ∧ (1 ≤ n ∧ n ≤ 64) ∧ SetsG n rss ∧ o = msD (rowF rss n)
def spP (K : PySem.W.Frag) (f : Nat → List (List (Nat × Nat)) → List (List PyData)) : Sp := fun vs H Q _ => ∃ (n : Nat) (rss : List (List (Nat × Nat))), DpAll K H vs [.int (n : Int), ssD rss] ∧ (1 ≤ n ∧ n ≤ 64) ∧ SetsG n rss ∧ NewP K H Q (f n rss)
def clsD (n : Nat) (rss : List (List (Nat × Nat))) : List (List PyData) := (clsF rss n).map fun l => l.map rD
def evD (n : Nat) (rss : List (List (Nat × Nat))) : List (List PyData) := (evF rss n).map msD
section
variable {K : PySem.W.Frag} {σ : L2.St} {H : Hp}
theorem vP {f : Nat → List (List (Nat × Nat)) → List (List PyData)} {tA : TA} {n : Nat} {rss : List (List (Nat × Nat))} (h : EvDA K tA σ H [.int (n : Int), ssD rss]) (hn : 1 ≤ n ∧ n ≤ 64) (hs : SetsG n rss) : EvD K (tCall (spP K f) [] E0 tA) σ H (.list ((f n rss).map PyData.list)) := fun H1 e Q q =>
  h H1 e _ fun vs H2 e2 ha => ⟨n, rss, by rw [List.append_nil]; exact ha, hn, hs, fun p ps H3 hp e3 h3 pr np => q _ H3 (e2.trans e3) (.lst (sq_of h3) pr.dp)⟩
theorem pCall {f : Nat → List (List (Nat × Nat)) → List (List PyData)} {tA : TA} {n : Nat} {rss : List (List (Nat × Nat))} {Q : VK} (h : EvDA K tA σ H [.int (n : Int), ssD rss]) (hn : 1 ≤ n ∧ n ≤ 64) (hs : SetsG n rss) (q : NewP K H Q (f n rss)) : tCall (spP K f) [] E0 tA σ H Q :=
  h H (Ex.refl H) _ fun vs H2 e2 ha => ⟨n, rss, by rw [List.append_nil]; exact ha, hn, hs, fun p ps H3 hp e3 h3 pr np => q p ps H3 (fresh_back e2 hp) (e2.trans e3) h3 (pr.back e2) np⟩
theorem lenE {te : TE} {ds : List PyData} {r : List V → Hp → VK → Prop} (h : EvD K te σ H (.list ds)) (hr : r = fun xs H Q => ∃ p ys, xs = [.ref p] ∧ (SqL K H p ys ∨ SqT K H p ys) ∧ Q (.int ys.length) H) : Ev (tCB r (tCons te tNil)) σ H (.int (ds.length : Int)) := fun H1 e Q q => by
  subst hr
  refine h H1 e _ fun v H2 e2 hd => ?_
  obtain ⟨a, xs, rfl, hs, ha⟩ := dpList hd
  exact ⟨a, xs, rfl, .inl hs, by rw [allLen ha]; exact q H2 e2⟩
end
theorem sg_len (rss : List (List (Nat × Nat))) (k : Nat) : (sg rss k).length = rss.length := by unfold sg; rw [List.length_map]
theorem UN_at {rss : List (List (Nat × Nat))} {n c : Nat} (h : c < (UN rss n).length) : ((UN rss n).getD c []).length = rss.length := by
  rw [getD_at [] h]
  obtain ⟨k, _, e⟩ := mem_UN.mp (List.getElem_mem h)
  rw [← e, sg_len]
theorem bit_eq (b : Bool) : decide (V.str ⟨#[bt b]⟩ = V.str (PySem.Str.ofString "1")) = b := by
  cases b <;> decide +kernel
/-- the three answers together -/
def ansD (rss : List (List (Nat × Nat))) (n : Nat) : PyData := .list [.list (msD (rowF rss n)), .list ((clsF rss n).map fun l => .list (l.map rD)), .list ((evF rss n).map fun l => .list (msD l))]
theorem ansD_wide {n : Nat} (hn : 1 ≤ n ∧ n ≤ 64) {rss : List (List (Nat × Nat))} (hs : rss.length ≤ 6) : wide (ansD rss n) = true := by
  have ul := UN_len rss n
  have a : wide (.list (msD (rowF rss n))) = true := wideAll (by unfold rowF SG; rw [List.length_map, List.length_map, List.length_range]; omega) fun _ _ => rfl
  have b : wide (.list ((clsF rss n).map fun l => .list (l.map rD))) = true := wideAll (by unfold clsF; rw [List.length_map, List.length_range]; omega) fun l hl => wideAll (by
    unfold clsF at hl
    obtain ⟨c, _, rfl⟩ := List.mem_map.mp hl
    have := told_len (fun k => decide ((rowF rss n).getD k 0 = c)) n
    omega) fun _ _ => rfl
  have c : wide (.list ((evF rss n).map fun l => .list (msD l))) = true := wideAll (by unfold evF; rw [List.length_map, List.length_range]; omega) fun l hl => wideAll (by
    unfold evF at hl
    obtain ⟨c, _, rfl⟩ := List.mem_map.mp hl
    have := List.length_filter_le (fun c' => ((UN rss n).getD c' []).getD c false) (List.range (UN rss n).length)
    rw [List.length_range] at this
    omega) fun _ _ => rfl
  show (decide (3 ≤ 1000) && (wide _ && (wide _ && (wide _ && true)))) = true
  rw [a, b, c]; rfl
theorem ansD_depth (rss : List (List (Nat × Nat))) (n : Nat) : (ansD rss n).depth < 5 := by
  have a := depMap (f := iD') (k := 0) (fun _ => Nat.le_refl 0) (rowF rss n)
  have b := depMap (f := fun l : List (Nat × Nat) => PyData.list (l.map rD)) (k := 2) (fun l => by
    have := depMap (f := rD) (k := 1) (fun _ => Nat.le_refl 1) l
    show PyData.depthAll (l.map rD) + 1 ≤ 2
    omega) (clsF rss n)
  have c := depMap (f := fun l : List Nat => PyData.list (msD l)) (k := 1) (fun l => by
    have := depMap (f := iD') (k := 0) (fun _ => Nat.le_refl 0) l
    show PyData.depthAll (l.map iD') + 1 ≤ 1
    omega) (evF rss n)
  show max (PyData.depthAll ((rowF rss n).map iD') + 1) (max (PyData.depthAll _ + 1) (max (PyData.depthAll _ + 1) 0)) + 1 < 5
  omega

/-! ### _law_cells -/
theorem sum_cast : ∀ ds : List Nat, (ds.map fun k : Nat => (k : Int)).sum = (ds.sum : Nat)
  | [] => rfl
  | d :: ds => by rw [List.map_cons, List.sum_cons, List.sum_cons, sum_cast ds]; omega
section
variable {K : PySem.W.Frag} {σ : L2.St} {H : Hp}
theorem sumN {te : TE} {ds : List Nat} (h : EvN K te σ H (msD ds)) : Ev (tCB (rSum K) (tCons te tNil)) σ H (.int (ds.sum : Nat)) := fun H1 e Q q => h H1 e _ fun p xs H2 _ e2 hp ha => by
  rw [msD_int] at ha
  have z := intsOfAll ha
  subst z
  refine ⟨p, _, rfl, sq_of hp, ?_⟩
  rw [sum_cast]; exact q H2 e2
theorem lenS {j : Nat} {z : Str} (h : σ[j]? = some (some (.str z))) (hz : z.length ≤ sizeLine) : Ev (tCB (fun xs H Q => ∃ z : Str, xs = [.str z] ∧ z.length ≤ sizeLine ∧ Q (.int z.length) H) (tCons (tVar j) tNil)) σ H (.int (z.length : Int)) := fun H1 e Q q =>
  ⟨.str z, h, z, rfl, hz, q H1 (Ex.refl H1)⟩
end
section
variable {P : Program} {w : World} {K : PySem.W.Frag} {mg : Str → Option Value} {base : Heap}
def RCells : List PyData → PyData → Prop := fun ds out => ∃ (n w : Nat) (rss : List (List (Nat × Nat))), ds = [tabD n w rss] ∧ (1 ≤ n ∧ n ≤ 64) ∧ w ≤ 64 ∧ rss.length ≤ 6 ∧ out = .int (CE n (rss.map memB) w : Nat)
end

/-! ### what least promises; readings for k09 -/
def leaF (n : Nat) (rss : List (List (Nat × Nat))) : Nat × Nat := lea (CE n (rss.map memB)) (n - 1)
def RLeast : List PyData → PyData → Prop := fun ds out => ∃ (n : Nat) (rss : List (List (Nat × Nat))), ds = [.int (n : Int), ssD rss] ∧ (1 ≤ n ∧ n ≤ 64) ∧ SetsG n rss ∧ out = SD.pD (leaF n rss)
section
variable {K : PySem.W.Frag} {σ : L2.St} {H : Hp}
theorem sAsgNums {te : TE} {i j a b : Nat} {D : Ends} (h : EvD K te σ H (SD.pD (a, b))) (k : ∀ H1, Ex H H1 → D.nx ((σ.set i (some (.int (a : Int)))).set j (some (.int (b : Int)))) H1) : tAsg te (gTup K 2 (gCons (gName i) (gCons (gName j) gNil))) D σ H :=
  h H (Ex.refl H) _ fun v H1 e hd => by
    obtain ⟨p, xs, rfl, hs, hA⟩ := dpTuple hd
    obtain ⟨x, y, rfl, hx, hy⟩ := all2 hA
    cases dpInt hx
    cases dpInt hy
    exact ⟨p, _, rfl, hs, rfl, _, _, rfl, _, _, rfl, rfl, k H1 e⟩
theorem minE {j : Nat} {v : V} {d : PyData} {ds : List PyData} (h : σ[j]? = some (some v)) (hd : Dp K H v (.list (d :: ds))) (ha : PySem.W.AlikeAll (d :: ds)) (hz : PyData.depthAll (d :: ds) < 63) : EvD K (tCB (SD.rMinL K) (tCons (tVar j) tNil)) σ H (PySem.W.minD d ds) := fun H1 e Q q => by
  obtain ⟨a, xs, rfl, hs, hA⟩ := dpList (SB.mono e hd)
  exact ⟨.ref a, h, a, xs, d, ds, rfl, hs, hA, ha, hz, fun v _ hv => q v H1 (Ex.refl H1) hv⟩
theorem nDrop {ta : TE} {ds : List PyData} {k : Nat} (ha : EvD K ta σ H (.list ds)) : EvN K (tSl (rSlL K) ta (tPart (tC (.int (k : Int)))) tNoPart) σ H (ds.drop k) := fun H1 e Q q => ha H1 e _ fun v H2 e2 hd => by
  obtain ⟨a, xs, rfl, hs, hA⟩ := dpList hd
  refine ⟨(k : Int), rfl, a, xs, rfl, hs, fun p hp => ?_⟩
  have ec : cutV xs (some (k : Int)) none = xs.drop k := by
    unfold cutV
    rw [HT.sIx_none, HT.sIx_nat]
    by_cases c : k ≤ xs.length
    · rw [Nat.min_eq_left c, List.take_of_length_le (by rw [List.length_drop]; omega)]
    · rw [Nat.min_eq_right (by omega), List.drop_of_length_le (Nat.le_refl _), List.drop_of_length_le (by omega), List.take_nil]
  have aD : ∀ {ds : List PyData} {vs : List V} (n : Nat), DpAll K H2 vs ds → DpAll K H2 (vs.drop n) (ds.drop n) := fun {ds vs} n h => by
    induction n generalizing ds vs with
    | zero => exact h
    | succ n ih =>
      cases h with
      | nil => exact .nil
      | cons _ h2 => exact ih h2
  exact q p _ _ (fresh_back e2 hp) (e2.trans (Ex.new hp)) upd_same (by rw [ec]; exact monoA (Ex.new hp) (aD k hA))
end
theorem leaF_at (n : Nat) (rss : List (List (Nat × Nat))) (hn : 1 ≤ n) : (leaF n rss).1 = CE n (rss.map memB) (leaF n rss).2 ∧ 1 ≤ (leaF n rss).2 ∧ (leaF n rss).2 ≤ n := by
  have := lea_at (CE n (rss.map memB)) (n - 1)
  exact ⟨this.1, this.2.1, by unfold leaF; omega⟩
theorem leaF_more {n : Nat} {rss rss' : List (List (Nat × Nat))} (hl : rss'.length ≤ rss.length + 1) (h : ∀ r ∈ rss', r ∈ rss) : (leaF n rss').1 ≤ (leaF n rss).1 + SM.cnt n (leaF n rss).2 :=
  lea_more (c := fun w => SM.cnt n w) fun w _ _ => CE_more (by rw [List.length_map, List.length_map]; exact hl) fun m hm => by
    obtain ⟨r, hr, rfl⟩ := List.mem_map.mp hm
    exact List.mem_map.mpr ⟨r, h r hr, rfl⟩
theorem leaF_less {n : Nat} {rss rss' : List (List (Nat × Nat))} (hl : rss'.length ≤ rss.length) (h : ∀ r ∈ rss', r ∈ rss) : (leaF n rss').1 ≤ (leaF n rss).1 :=
  lea_mono (c := 0) fun w _ _ => CE_sub (by rw [List.length_map, List.length_map]; exact hl) fun m hm => by
    obtain ⟨r, hr, rfl⟩ := List.mem_map.mp hm
    exact List.mem_map.mpr ⟨r, h r hr, rfl⟩
section
variable {K : PySem.W.Frag} {σ : L2.St} {H : Hp}
theorem evInt {te : TE} {i : Int} (h : EvD K te σ H (.int i)) : Ev te σ H (.int i) := fun H1 e Q q => h H1 e _ fun v H2 e2 hd => by
  cases dpInt hd
  exact q H2 e2
theorem nCatR {ta tb : TE} {l : Addr} {xs : List V} {ds es : List PyData} (ha : Ev ta σ H (.ref l)) (hl : H l = some (.lst xs)) (hA : DpAll K H xs ds) (hb : EvN K tb σ H es) (hz : ds.length + es.length ≤ 100000) : EvN K (tOp rCat ta tb) σ H (ds ++ es) := fun H1 e Q q =>
  ha H1 e _ fun H2 e2 => hb H2 (e.trans e2) _ fun b ys H3 _ e3 h3 a3 => ⟨l, b, xs, ys, rfl, rfl, ((e.trans e2).trans e3) l _ hl, h3, sz_of (by rw [allLen hA, allLen a3]; exact hz), fun p hp =>
    q p _ _ (fresh_back (e2.trans e3) hp) ((e2.trans e3).trans (Ex.new hp)) upd_same (allApp (monoA (((e.trans e2).trans e3).trans (Ex.new hp)) hA) (monoA (Ex.new hp) a3))⟩
end

/-! ### stretch_rows -/
theorem cut_encM {bs : List Bool} {a w : Nat} (h : a ≤ bs.length) : cutS (enc bs) (some (a : Int)) (some ((a + w : Nat) : Int)) = enc ((bs.drop a).take w) := by
  unfold cutS
  rw [HT.sIx_nat, HT.sIx_nat, enc_len, Nat.min_eq_left h]
  refine congrArg Str.mk ?_
  show (((bs.map bt).toArray.toList.drop a).take (min (a + w) bs.length - a)).toArray = (((bs.drop a).take w).map bt).toArray
  rw [List.map_take, List.map_drop]
  refine congrArg List.toArray ?_
  show ((bs.map bt).drop a).take _ = _
  by_cases c : a + w ≤ bs.length
  · rw [Nat.min_eq_left c, show a + w - a = w by omega]
  · rw [Nat.min_eq_right (by omega), List.take_of_length_le (by rw [List.length_drop, List.length_map]; omega), List.take_of_length_le (by rw [List.length_drop, List.length_map]; omega)]
theorem fill_enc (bs : List Bool) (w : Nat) : Txt.ljustF (enc bs) (w : Int) 48 = enc (bs ++ List.replicate (w - bs.length) false) := by
  refine str_tl ?_
  rw [PyProof.Rows.ljustF_list, enc_len, Int.toNat_natCast]
  show (bs.map bt).toArray.toList ++ _ = ((bs ++ List.replicate (w - bs.length) false).map bt).toArray.toList
  rw [List.map_append, List.map_replicate]; rfl
theorem padOk_small {w : Nat} (h : w ≤ 64) : PadOk (w : Int) = true := by
  unfold PadOk
  rw [Bool.and_eq_true]
  constructor
  · show (!(decide ((w : Int) < -(2 ^ 63 : Int)) || decide ((w : Int) ≥ 2 ^ 63))) = true
    rw [decide_eq_false (by omega), decide_eq_false (by omega)]; rfl
  · rw [Int.toNat_natCast]
    unfold Builtin.Str.tooLong
    rw [decide_eq_false (by show ¬ (sizeLine < w); have : (64 : Nat) ≤ sizeLine := by decide
                            omega)]; rfl
def rJustF : V → List V → Hp → VK → Prop := fun x xs H Q => ∃ (a f : Str) (i : Int), x = .str a ∧ xs = [.int i, .str f] ∧ PadOk i = true ∧ f.length = 1 ∧ Q (.str (Txt.ljustF a i (f.cps.getD 0 0))) H
theorem mt_justF {X : Cx} : MtR X "str.ljust" rJustF := by
  intro pins s σ H x xs v us Q I rx rs h
  obtain ⟨a, f, i, rfl, rfl, hp, hf, h⟩ := h
  obtain ⟨t, rfl⟩ := rx
  cases rs with
  | cons r1 rs =>
    cases rs with
    | cons r2 rs =>
      cases rs
      obtain ⟨u, rfl⟩ := r1
      obtain ⟨z, rfl⟩ := r2
      exact PyProof.Rows.ljust_fill hp hf fun t' k => ⟨.str (Txt.ljustF a i (f.cps.getD 0 0)), H, I.tok k, ⟨t', rfl⟩, h⟩
theorem sum_ones : ∀ bs : List Bool, ((bs.map fun b => enc [b]).map (·.length)).sum = bs.length
  | [] => rfl
  | b :: r => by
    have ih := sum_ones r
    show 1 + ((r.map fun b => enc [b]).map (·.length)).sum = r.length + 1
    omega
theorem joinBits {K : PySem.W.Frag} {σ : L2.St} {H : Hp} {te : TE} {r : V → List V → Hp → VK → Prop} {bs : List Bool} (h : EvN K te σ H (bs.map fun b => sD' [b])) (hl : bs.length ≤ 1000)
    (hr : r = fun x xs H Q => ∃ a p, ∃ ys : List Str, x = .str a ∧ xs = [.ref p] ∧ (SqL K H p (ys.map V.str) ∨ SqT K H p (ys.map V.str)) ∧ (ys.map (·.length)).sum + ys.length * a.length ≤ 16777216 ∧ Q (.str (Txt.join a ys)) H) :
    Ev (tM1 r (tC (.str (PySem.Str.ofString ""))) te) σ H (vS bs) := fun H1 e1 Q q => by
  subst hr
  refine ⟨⟨_, rfl⟩, h H1 e1 _ fun p xs H2 _ e2 h2 A2 => ?_⟩
  have hxs : xs = (bs.map fun b => enc [b]).map V.str := by
    have z : bs.map (fun b => sD' [b]) = (bs.map fun b => [b]).map sD' := by rw [List.map_map]; rfl
    rw [z] at A2
    rw [strsAll A2, List.map_map, List.map_map]; rfl
  subst hxs
  refine ⟨_, p, _, rfl, rfl, .inl (sq_of h2), ?_, ?_⟩
  · rw [show PySem.Str.ofString "" = enc [] by decide +kernel, sum_ones]
    show bs.length + _ * 0 ≤ 16777216
    omega
  · rw [show PySem.Str.ofString "" = enc [] by decide +kernel, join_enc]
    exact q H2 e2
def beyond (n : Nat) (m : Nat → Bool) : Prop := ∀ k, n ≤ k → m k = false
section
variable {P : Program} {w : World} {K : PySem.W.Frag} {mg : Str → Option Value} {base : Heap}
def RStretch : List PyData → List PyData → Prop := fun ds out => ∃ (n w : Nat) (m : Nat → Bool), ds = [.list (bls n m), .int (w : Int)] ∧ (1 ≤ n ∧ n ≤ 64) ∧ (1 ≤ w ∧ w ≤ 64) ∧ beyond n m ∧ out = (strc n w m).map sD'
theorem ok_stretch {f : Addr} {fd : FuncData} {k : Nat} (F : Fun K "stretch_rows" "stretch_rows" sStretchRows f fd) (mr : mg "range" = none) (ml : mg "len" = none) : FnOk P w K mg base CX0 (k + 1) f fd ["marks", "wide"] (spN K RStretch) := by
  refine F.ok scStretchRows (fun vs H Q E h => ?_) (fun cdv A outer s H vs Q E hr h => ?_)
  · obtain ⟨ds, out, ha, ⟨n, w', m, rfl, _⟩, _⟩ := h
    exact allLen ha
  · obtain ⟨ds, out, ha, ⟨n, w', m, rfl, hn, hw, hm, rfl⟩, q⟩ := h
    obtain ⟨x, y, rfl, hx, hy⟩ := all2 ha
    cases dpInt hy
    have nd := scStretchRows.nd
    refine ⟨_, pss_cons (ps_set (i := 2) nd rfl (.inr rfl) (pe_join pe_str (pe_lc (own := [("marked", 3)]) (g := gName 3) (tt := tYes) (te := tIf (tB (tVar 3)) (tC (.str (PySem.Str.ofString "1"))) (tC (.str (PySem.Str.ofString "0")))) rfl nd (pi_list (pv 0)) (blkOk_by (own := [("marked", 3)]) (N := nStretchRows) (sc := defScope sStretchRows) (by decide +kernel))
          (fun _ _ _ _ _ => pg_name (i := 3) nd rfl (Or.inl rfl)) (fun _ _ _ _ _ => pts_nil) (fun _ _ _ _ _ => pe_ifExp (pt_val (pv 3)) pe_str pe_str))))
      (pss_one (ps_ret (pe_lc (own := [("start", 4)]) (g := gName 4) (tt := tYes) (te := tBM K "str" rJustF (tSl rSlS (tVar 2) (tPart (tVar 4)) (tPart (tOp (rI0 fun i j => .int (i + j)) (tVar 4) (tVar 1)))) (tCons (tVar 1) (tCons (tC (.str (PySem.Str.ofString "0"))) tNil))) rfl nd (pi_range3 (by rfl) mr (pa_cons pe_int (pa_cons (pe_callB call_len_str (by rfl) ml PySem.boot_len (pa_cons (pv 2) pa_nil)) (pa_cons (pv 1) pa_nil)))) (blkOk_by (own := [("start", 4)]) (N := nStretchRows) (sc := defScope sStretchRows) (by decide +kernel))
          (fun _ _ _ _ _ => pg_name (i := 4) nd rfl (Or.inl rfl)) (fun _ _ _ _ _ => pts_nil) (fun _ _ _ _ _ => pe_bm PySem.F.plainAttrs_str PySem.F.slot_str_ljust PySem.F.type_str_ljust mt_justF (pe_slice sl_str (pv 2) (po_some (pv 4)) (po_some (pe_op op_add (pv 4) (pv 1)))) (pa_cons (pv 1) (pa_cons pe_str pa_nil)))))), ?_⟩
    have N1 := nLc (K := K) (σ := [some x, some (.int (w' : Int)), none, none, none]) (H := H) (wi := iList K (tVar 0)) (g := gName 3) (tt := tYes) (te := tIf (tB (tVar 3)) (tC (.str (PySem.Str.ofString "1"))) (tC (.str (PySem.Str.ofString "0")))) (vs := [3]) (fun _ => true) (fun k => sD' [m k]) (by rw [bls_len]; omega) (wkList (ev_var (v := x) rfl) hx).asN (fun Dl k v H5 hk e5 hd' => by
      rw [bls_len] at hk
      rw [getD_bls m hk] at hd'
      cases dpBool hd'
      refine ⟨[some x, some (.int (w' : Int)), none, some (.bl (m k)), none], fun Q q => q, rfl, et_yes, fun _ => EvD.x (EvD.of (v := .str (enc [m k])) (ev_if (b := m k) (et_B (ev_var rfl)) (fun hb => ?_) (fun hb => ?_)) (.str _)) rfl⟩
      · rw [hb]; exact ev_is ev_c (by rw [show PySem.Str.ofString "1" = enc [true] by decide +kernel])
      · rw [hb]; exact ev_is ev_c (by rw [show PySem.Str.ofString "0" = enc [false] by decide +kernel]))
    rw [outs_all, bls_len, show (List.range n).map (fun k => sD' [m k]) = ((List.range n).map m).map (fun b => sD' [b]) by rw [List.map_map]; rfl] at N1
    have hLb : ((List.range n).map m).length = n := by rw [List.length_map, List.length_range]
    refine s_asg (joinBits N1 (by rw [hLb]; omega) rfl) fun H1 e1 => ?_
    have N2 := nLc (K := K) (σ := [some x, some (.int (w' : Int)), some (vS ((List.range n).map m)), none, none]) (H := H1) (wi := iRng3 (tCons (tC (.int 0)) (tCons (tCB (fun xs H Q => ∃ z, xs = [.str z] ∧ z.length ≤ sizeLine ∧ Q (.int z.length) H) (tCons (tVar 2) tNil)) (tCons (tVar 1) tNil)))) (g := gName 4) (tt := tYes) (te := tBM K "str" rJustF (tSl rSlS (tVar 2) (tPart (tVar 4)) (tPart (tOp (rI0 fun i j => .int (i + j)) (tVar 4) (tVar 1)))) (tCons (tVar 1) (tCons (tC (.str (PySem.Str.ofString "0"))) tNil))) (vs := [4]) (n := SM.cnt n w') (fun _ => true) (fun j => sD' (strt m w' j)) (by have := cnt_le (w := w') hn.1; omega)
      (wkRange3 (i := 0) (j := (n : Int)) (c := (w' : Int)) (ea_cons ev_c (ea_cons (fun H2 e2 Q q => ⟨_, rfl, _, rfl, sz_of (by rw [enc_len, hLb]; omega), by rw [enc_len, hLb]; exact q H2 (Ex.refl H2)⟩) (ea_cons (ev_var rfl) ea_nil))) (rgc hn hw)).asN (fun Dl j v H5 hj e5 hd' => by
      cases dpInt hd'
      have hjn := cnt_lt hn.1 hw.1 hj
      refine ⟨[some x, some (.int (w' : Int)), some (vS ((List.range n).map m)), none, some (.int (0 + (j : Nat) * (w' : Int)))], fun Q q => q, rfl, et_yes, fun _ => EvD.x (EvD.of (v := vS (strt m w' j)) (fun H6 e6 Q q => ?_) (.str _)) rfl⟩
      refine ⟨_, rfl, _, rfl, _, rfl, _, rfl, _, rfl, _, _, rfl, rfl, _, rfl, _, rfl, sz_of (by rw [enc_len, hLb]; omega), rfl, _, rfl, _, _, _, rfl, rfl, padOk_small hw.2, by decide +kernel, ?_⟩
      have e1' : (0 + (j : Nat) * (w' : Int)) = ((j * w' : Nat) : Int) := by rw [Int.zero_add]; exact (Int.natCast_mul j w').symm
      have e2' : ((j * w' : Nat) : Int) + (w' : Int) = ((j * w' + w' : Nat) : Int) := by omega
      rw [e1', e2', cut_encM (by rw [hLb]; omega), show (PySem.Str.ofString "0").cps.getD 0 0 = 48 by decide +kernel, fill_enc, short_cut hm hjn]
      exact q H6 (Ex.refl H6))
    rw [outs_all, show (List.range (SM.cnt n w')).map (fun j => sD' (strt m w' j)) = (strc n w' m).map sD' by unfold strc; rw [List.map_map]; rfl] at N2
    exact sRetN N2 (q.ex e1)
end

/-! ### table_of -/
def kvF : List (List Bool) → Nat → List (Key × V)
  | [], _ => []
  | s :: r, i => (Sum.inr (enc s), .int (i : Int)) :: kvF r (i + 1)
theorem kvF_len : ∀ (rows : List (List Bool)) (i : Nat), (kvF rows i).length = rows.length
  | [], _ => rfl
  | _ :: r, i => by
    show (kvF r (i + 1)).length + 1 = r.length + 1
    rw [kvF_len r]
theorem kvF_app (s : List Bool) : ∀ (rows : List (List Bool)) (i : Nat), kvF (rows ++ [s]) i = kvF rows i ++ [(Sum.inr (enc s), .int ((i + rows.length : Nat) : Int))]
  | [], i => rfl
  | r :: rows, i => by
    show (_, _) :: kvF (rows ++ [s]) (i + 1) = (_, _) :: (kvF rows (i + 1) ++ _)
    rw [kvF_app s rows (i + 1), show i + 1 + rows.length = i + (r :: rows).length by rw [List.length_cons]; omega]
theorem kvF_keys : ∀ (rows : List (List Bool)) (i : Nat), (kvF rows i).map (fun kv => kV kv.1) = rows.map vS
  | [], _ => rfl
  | r :: rows, i => by
    show vS r :: (kvF rows (i + 1)).map _ = vS r :: rows.map vS
    rw [kvF_keys rows]
theorem kvF_none {s : List Bool} : ∀ {rows : List (List Bool)} {i : Nat}, s ∉ rows → valV (kvF rows i) (Sum.inr (enc s)) = none
  | [], _, _ => rfl
  | r :: rows, i, h => by
    have h1 : ¬ (Sum.inr (enc r) : Key) = Sum.inr (enc s) := fun z => h (by rw [enc_inj (Sum.inr.inj z)]; exact List.mem_cons_self)
    show valV ((Sum.inr (enc r), V.int (i : Int)) :: kvF rows (i + 1)) _ = none
    rw [valV_neg h1]
    exact kvF_none fun z => h (List.mem_cons_of_mem _ z)
theorem kvF_some {s : List Bool} : ∀ {rows : List (List Bool)} {i : Nat}, s ∈ rows → valV (kvF rows i) (Sum.inr (enc s)) = some (.int ((i + rows.idxOf s : Nat) : Int))
  | [], _, h => by simp at h
  | r :: rows, i, h => by
    show valV ((Sum.inr (enc r), V.int (i : Int)) :: kvF rows (i + 1)) _ = _
    by_cases c : r = s
    · subst c
      rw [valV_pos rfl, List.idxOf_cons_self]; rfl
    · have h1 : ¬ (Sum.inr (enc r) : Key) = Sum.inr (enc s) := fun z => c (enc_inj (Sum.inr.inj z))
      rcases List.mem_cons.mp h with e | e
      · exact absurd e.symm c
      · rw [valV_neg h1, kvF_some e, List.idxOf_cons, show (r == s) = false from beq_eq_false_iff_ne.mpr c]
        refine congrArg (fun z : Nat => some (V.int (z : Int))) ?_
        show i + 1 + rows.idxOf s = i + (rows.idxOf s + 1)
        omega
/-- new lists of whole numbers -/
inductive IP (H H' : Hp) : List Addr → List (List Nat) → Prop
  | nil : IP H H' [] []
  | cons {a : Addr} {L : List Nat} {ps : List Addr} {Ls : List (List Nat)} : H a = none → H' a = some (.lst (L.map fun k : Nat => V.int (k : Int))) → IP H H' ps Ls → IP H H' (a :: ps) (L :: Ls)
section
variable {H H' H'' : Hp}
theorem IP.step {ps : List Addr} {Ls : List (List Nat)} (h : IP H H' ps Ls) (k : ∀ a xs, a ∈ ps → H' a = some (.lst xs) → H'' a = some (.lst xs)) : IP H H'' ps Ls := by
  induction h with
  | nil => exact .nil
  | cons h1 h2 _ ih => exact .cons h1 (k _ _ List.mem_cons_self h2) (ih fun a xs ha => k a xs (List.mem_cons_of_mem _ ha))
theorem IP.mono {ps : List Addr} {Ls : List (List Nat)} (h : IP H H' ps Ls) (e : Ex H' H'') : IP H H'' ps Ls := h.step fun a _ _ ha => e a _ ha
theorem IP.app {ps : List Addr} {Ls : List (List Nat)} {a : Addr} {L : List Nat} (h : IP H H' ps Ls) (h1 : H a = none) (h2 : H' a = some (.lst (L.map fun k : Nat => V.int (k : Int)))) : IP H H' (ps ++ [a]) (Ls ++ [L]) := by
  induction h with
  | nil => exact .cons h1 h2 .nil
  | cons a b _ ih => exact .cons a b ih
theorem IP.len {ps : List Addr} {Ls : List (List Nat)} (h : IP H H' ps Ls) : ps.length = Ls.length := by
  induction h with
  | nil => rfl
  | cons _ _ _ ih => rw [List.length_cons, List.length_cons, ih]
theorem IP.parts {K : PySem.W.Frag} {ps : List Addr} {Ls : List (List Nat)} (h : IP H H' ps Ls) : Parts K H H' ps (Ls.map msD) := by
  induction h with
  | nil => exact .nil
  | @cons a L ps Ls h1 h2 _ ih =>
    refine .cons h1 h2 ?_ ih
    have z := allOfInts (K := K) (H := H') (L.map fun k : Nat => (k : Int))
    rw [← msD_int, List.map_map] at z
    exact z
theorem IP.notin {ps : List Addr} {Ls : List (List Nat)} {p : Addr} (h : IP H H' ps Ls) (hp : ∀ xs, H' p ≠ some (.lst xs)) : p ∉ ps := by
  induction h with
  | nil => intro z; simp at z
  | cons h1 h2 _ ih =>
    intro z
    rcases List.mem_cons.mp z with e | e
    · rw [← e] at h2; exact hp _ h2
    · exact ih e
end
def spTabOf (K : PySem.W.Frag) : Sp := fun vs H Q _ => ∃ (n w : Nat) (rss : List (List (Nat × Nat))), DpAll K H vs [.list (rss.map (mD n)), .int (w : Int)] ∧ (1 ≤ n ∧ n ≤ 64) ∧ (1 ≤ w ∧ w ≤ n) ∧ SetsG n rss ∧
  ∀ T f r ps H', H T = none → H f = none → H r = none → Ex H H' → H' T = some (.tup [.ref f, .ref r]) → H' f = some (.lst (ps.map V.ref)) → Parts K H H' ps ((tab n w (rss.map memB)).1.map msD) → H' r = some (.lst ((tab n w (rss.map memB)).2.map vS)) → f ∉ ps → r ∉ ps → ps.Nodup → f ≠ r → Q (.ref T) H'
section
variable {P : Program} {w : World} {K : PySem.W.Frag} {mg : Str → Option Value} {base : Heap}
theorem ok_tabOf {f f1 : Addr} {fd fd1 : FuncData} {k : Nat} (F : Fun K "table_of" "table_of" sTableOf f fd)
    (F1 : FnOk P w K mg base CX0 (k + 1) f1 fd1 ["marks", "wide"] (spN K RStretch)) (g1 : mg "stretch_rows" = some (.ref f1)) (k1 : PySem.W.keepIn K (.ref f1) = true) (b1 : Binds K fd1 ["marks", "wide"] [])
    (ml : mg "len" = none) (mL : mg "list" = none) : FnOk P w K mg base CX0 (k + 2) f fd ["all_marks", "wide"] (spTabOf K) := by
  refine F.ok scTableOf (fun vs H Q E h => ?_) (fun cdv A outer s H vs Q E hr h => ?_)
  · obtain ⟨n, w', rss, ha, _⟩ := h
    exact allLen ha
  · obtain ⟨n, w', rss, ha, hn, hw, hss, q⟩ := h
    obtain ⟨y, z, rfl, hy, hz⟩ := all2 ha
    cases dpInt hz
    have nd := scTableOf.nd
    have hu := hu_of hr
    refine ⟨_, pss_cons (ps_set (i := 2) nd rfl (.inr rfl) pe_dnewK) (pss_cons (ps_set (i := 3) nd rfl (.inl rfl) (pe_lst pa_nil))
      (pss_cons (ps_for PassesOwn.never rfl (pi_list (pv 0)) (pg_name (i := 4) nd rfl (.inl rfl))
        (pss_cons (ps_set (i := 5) nd rfl (.inl rfl) (pe_call F1 hr (by rfl) g1 k1 b1 .nil pass0 (pa_cons (pv 4) (pa_cons (pv 1) pa_nil))))
        (pss_cons (ps_for PassesOwn.never rfl (pi_list (pv 5)) (pg_name (i := 6) nd rfl (.inl rfl))
          (pss_one (ps_expr (pe_dsetd (pv 2) (pv 6) (pe_callB call_lenD (by rfl) ml PySem.boot_len (pa_cons (pv 2) pa_nil)) ⟨rfl, rfl, rfl, rfl⟩))))
        (pss_one (ps_expr (pe_bm PySem.F.plainAttrs_list PySem.F.slot_list_append PySem.F.type_list_append mt_append (pv 3) (pa_cons (pe_lc (own := [("row", 6)]) (g := gName 6) (tt := tYes) (te := tDGet (tVar 2) (tVar 6)) rfl nd (pi_list (pv 5)) (blkOk_by (own := [("row", 6)]) (N := nTableOf) (sc := defScope sTableOf) (by decide +kernel))
          (fun _ _ _ _ _ => pg_name (i := 6) nd rfl (Or.inl rfl)) (fun _ _ _ _ _ => pts_nil) (fun _ _ _ _ _ => pe_dget hu (pv 2) (pv 6) (fun _ _ => rfl))) pa_nil)))))))
      (pss_one (ps_ret (pe_tup (pa_cons (pv 3) (pa_cons (pe_callTy (call_list_dK rfl) (by rfl) mL (by decide +kernel) (pa_cons (pv 2) pa_nil)) pa_nil))))))), ?_⟩
    intro d0 hd0
    refine ⟨Nat.zero_le _, fun f0 hf0 => ?_⟩
    have hf0' : H f0 = none := fresh_back (Ex.new hd0) hf0
    have hfd : f0 ≠ d0 := fun z => by rw [z, upd_same] at hf0; cases hf0
    have E2 : Ex H (upd (upd H d0 (.dK [])) f0 (.lst [])) := (Ex.new hd0).trans (Ex.new hf0)
    have h2d : (upd (upd H d0 (.dK [])) f0 (.lst [])) d0 = some (.dK []) := by rw [upd_ne (Ne.symm hfd), upd_same]
    have h2f : (upd (upd H d0 (.dK [])) f0 (.lst [])) f0 = some (.lst []) := upd_same
    generalize upd (upd H d0 (.dK [])) f0 (.lst []) = H2 at E2 h2d h2f ⊢
    refine sFor (B := H) E2 (wkList (ev_var (v := y) rfl) hy) (fun i σ' H' => Ex H H' ∧ H' d0 = some (.dK (kvF (tab n w' ((rss.take i).map memB)).2 0)) ∧ (∃ ps, H' f0 = some (.lst (ps.map V.ref)) ∧ IP H H' ps (tab n w' ((rss.take i).map memB)).1 ∧ f0 ∉ ps ∧ ps.Nodup) ∧ ∃ b4 b5 b6, σ' = [some y, some (.int (w' : Int)), some (.ref d0), some (.ref f0), b4, b5, b6]) (fun H3 e => ⟨E2.trans e, e d0 _ h2d, ⟨[], e f0 _ h2f, .nil, by simp, List.nodup_nil⟩, none, none, none, rfl⟩) (fun i σ' H' _ p => p.1) (fun i x σ' H' H3 hi p e hd => ?_) (fun σ' H' p => ?_)
    · obtain ⟨e0, kd, ⟨ps, kf, kP, kn, knd⟩, b4, b5, b6, rfl⟩ := p
      rw [List.length_map] at hi
      rw [getD_map (mD n) (List.getElem?_eq_getElem hi)] at hd
      have gi := hss.2 rss[i] (List.getElem_mem hi)
      have hi6 : i < 6 := by have := hss.1; omega
      have hstep := tab_succ n w' (rss.take i) rss[i]
      have htk : rss.take (i + 1) = rss.take i ++ [rss[i]] := by rw [List.take_add_one, List.getElem?_eq_getElem hi]; rfl
      have hfit := tab_fits n w' (rss.take i)
      have hlt : (rss.take i).length ≤ 6 := by rw [List.length_take]; omega
      generalize rss[i] = rs at hd gi hstep htk
      obtain ⟨T, hT⟩ : ∃ T, T = tab n w' ((rss.take i).map memB) := ⟨_, rfl⟩
      rw [← hT] at kd kP hstep hfit
      have cl : SM.cnt n w' ≤ 64 := Nat.le_trans (cnt_le hn.1) hn.2
      have rl : T.2.length ≤ 6 * 64 := Nat.le_trans hfit.2 (Nat.mul_le_mul hlt cl)
      have e0' := e0.trans e
      refine sAsgN (nCall (R := RStretch) (da2 (dVar (v := x) rfl hd) (dVar (v := .int (w' : Int)) rfl (.int (w' : Int)))) ⟨n, w', memB rs, rfl, hn, ⟨hw.1, by omega⟩, memB_beyond gi, rfl⟩) fun pr xr H4 hpr e4 h4 A4 => ?_
      obtain ⟨SS, hSS⟩ : ∃ SS, SS = strc n w' (memB rs) := ⟨_, rfl⟩
      rw [← hSS] at A4
      have hSl : SS.length ≤ 64 := by rw [hSS, strc_len]; exact cl
      have hxr := strsAll A4
      subst hxr
      have k4d : H4 d0 = some (.dK (kvF T.2 0)) := (e.trans e4) d0 _ kd
      have k4f : H4 f0 = some (.lst (ps.map V.ref)) := (e.trans e4) f0 _ kf
      have hdd : d0 ≠ pr := ne_of k4d h4 (by intro z; cases z)
      refine s_forLn (K := K) (a := pr) (xs := SS.map vS) (ev_var rfl) (sq_of h4) (fun j σ' H' => Ex H H' ∧ H' pr = some (.lst (SS.map vS)) ∧ H' d0 = some (.dK (kvF (puts T.2 (SS.take j)) 0)) ∧ H' f0 = some (.lst (ps.map V.ref)) ∧ IP H H' ps T.1 ∧ ∃ b6, σ' = [some y, some (.int (w' : Int)), some (.ref d0), some (.ref f0), some x, some (.ref pr), b6])
        (fun H5 e5 => ⟨(e0'.trans e4).trans e5, e5 pr _ h4, e5 d0 _ k4d, e5 f0 _ k4f, kP.mono ((e.trans e4).trans e5), b6, rfl⟩) (fun j σ' H' _ p => sq_of p.2.1) (fun j v σ' H' hj p => ?_) (fun σ' H5 p => ?_)
      · obtain ⟨k1, k2, k3, k4, k5, b6, rfl⟩ := p
        rw [List.getElem?_map] at hj
        obtain ⟨s1, hs1, rfl⟩ := Option.map_eq_some_iff.mp hj
        have hjl := (List.getElem?_eq_some_iff.mp hs1).1
        have htj : SS.take (j + 1) = SS.take j ++ [s1] := by rw [List.take_add_one, hs1]; rfl
        have hpl : (puts T.2 (SS.take j)).length ≤ 6 * 64 + 64 := by
          have := puts_len (SS.take j) T.2
          have h2 : (SS.take j).length ≤ 64 := by rw [List.length_take]; omega
          omega
        have hput : puts T.2 (SS.take (j + 1)) = put (puts T.2 (SS.take j)) s1 := by rw [htj, puts_app]; rfl
        obtain ⟨R, hR⟩ : ∃ R, R = puts T.2 (SS.take j) := ⟨_, rfl⟩
        rw [← hR] at k3 hpl hput
        have hkl : (kvF R 0).length < sizeLine := sz_lt (by rw [kvF_len]; omega)
        refine ⟨.ref d0, rfl, d0, rfl, .inl ⟨_, .inl k3⟩, vS s1, rfl, .ref d0, rfl, d0, _, rfl, k3, kvF R 0, Sum.inr (enc s1), k3, rfl, hkl, fun v hv => ?_, fun hv => ?_⟩
        · refine ⟨k1, k2, ?_, k4, k5, _, rfl⟩
          rw [hput]
          unfold put
          by_cases c : s1 ∈ R
          · rw [if_pos (decide_eq_true c)]; exact k3
          · rw [kvF_none c] at hv; cases hv
        · have c : s1 ∉ R := fun c => by rw [kvF_some c] at hv; cases hv
          refine ⟨Ex.mut k1 hd0, by rw [upd_ne (Ne.symm hdd)]; exact k2, ?_, by rw [upd_ne hfd]; exact k4, k5.step fun a xs _ ha => by rw [upd_ne (ne_of ha k3 (by intro z; cases z))]; exact ha, _, rfl⟩
          rw [upd_same, putK_new _ hv, hput]
          unfold put
          rw [if_neg (by rw [decide_eq_false c]; decide), kvF_app, kvF_len, Nat.zero_add]
      · obtain ⟨k1, k2, k3, k4, k5, b6, rfl⟩ := p
        rw [List.length_map, List.take_of_length_le (Nat.le_refl _)] at k3
        obtain ⟨R, hR⟩ : ∃ R, R = puts T.2 SS := ⟨_, rfl⟩
        rw [← hR] at k3
        have dS : Dp K H5 (.ref pr) (.list (SS.map sD')) := .lst (sq_of k2) (allStrs SS)
        have inR : ∀ s ∈ SS, s ∈ R := fun s hs => by rw [hR]; exact puts_mem hs
        have N3 := nLc (K := K) (σ := [some y, some (.int (w' : Int)), some (.ref d0), some (.ref f0), some x, some (.ref pr), b6]) (H := H5) (wi := iList K (tVar 5)) (g := gName 6) (tt := tYes) (te := tDGet (tVar 2) (tVar 6)) (vs := [6]) (fun _ => true) (fun j => iD' (R.idxOf (SS.getD j []))) (by rw [List.length_map]; omega) (wkList (ev_var (v := .ref pr) rfl) dS).asN (fun Dl j v H8 hj e8 hd' => by
          rw [List.length_map] at hj
          rw [getD_map sD' (List.getElem?_eq_getElem hj)] at hd'
          cases dpStr hd'
          rw [getD_at [] hj]
          have hm := inR SS[j] (List.getElem_mem hj)
          generalize SS[j] = s1 at hm
          refine ⟨[some y, some (.int (w' : Int)), some (.ref d0), some (.ref f0), some x, some (.ref pr), some (vS s1)], fun Q q => q, rfl, et_yes, fun _ => EvD.x (EvD.of (v := .int (R.idxOf s1 : Nat)) (fun H9 e9 Q q => ?_) (.int _)) rfl⟩
          have k39 := (e8.trans e9) d0 _ k3
          have g := DGet.k (k := Sum.inr (enc s1)) k39
          rw [kvF_some hm, Nat.zero_add] at g
          exact ⟨_, rfl, _, rfl, d0, _, rfl, g, q H9 (Ex.refl H9)⟩)
        rw [outs_all, List.length_map, range_getD (fun s => iD' (R.idxOf s)) [] SS] at N3
        obtain ⟨L, hLd⟩ : ∃ L : List Nat, L = SS.map fun s => R.idxOf s := ⟨_, rfl⟩
        rw [show SS.map (fun s => iD' (R.idxOf s)) = msD L by rw [hLd]; unfold msD; rw [List.map_map]; rfl] at N3
        refine ⟨.ref f0, rfl, .inl ⟨rfl, _, sq_of k4⟩, N3 H5 (Ex.refl H5) _ fun p xp H8 hp e8 h8 A8 => ?_⟩
        have pf : p ≠ f0 := Ne.symm (ne_of_none k4 hp)
        have hpsl : ps.length = T.1.length := kP.len
        refine ⟨f0, _, .ref p, rfl, rfl, e8 f0 _ k4, sz_lt (by rw [List.length_map, hpsl, hfit.1]; omega), ?_⟩
        have hN : tab n w' ((rss.take (i + 1)).map memB) = (T.1 ++ [L], R) := by
          rw [htk, hstep, hLd, hR, hSS]; rfl
        rw [hN]
        have z : xp = L.map fun k : Nat => V.int (k : Int) := by
          rw [msD_int] at A8
          rw [intsOfAll A8, List.map_map]; rfl
        subst z
        refine ⟨Ex.mut (k1.trans e8) hf0', by rw [upd_ne (Ne.symm hfd)]; exact e8 d0 _ k3, ⟨ps ++ [p], by rw [upd_same, List.map_append]; rfl, ?_, ?_, ?_⟩, _, _, _, rfl⟩
        · refine IP.app (k5.step fun a xs ha hx => ?_) (fresh_back k1 hp) (by rw [upd_ne pf]; exact h8)
          rw [upd_ne (fun z => kn (by rw [← z]; exact ha))]
          exact e8 a _ hx
        · intro z
          rcases List.mem_append.mp z with c | c
          · exact kn c
          · exact pf (List.mem_singleton.mp c).symm
        · refine List.nodup_append.mpr ⟨knd, by simp, fun a ha b hb => ?_⟩
          rw [List.mem_singleton.mp hb]
          intro z
          exact (k5.notin (p := p) fun xs z2 => by rw [hp] at z2; cases z2) (by rw [← z]; exact ha)
    · obtain ⟨e0, kd, ⟨ps, kf, kP, kn, knd⟩, b4, b5, b6, rfl⟩ := p
      rw [List.length_map, List.take_length] at kd kP
      refine ⟨.ref f0, rfl, .ref d0, rfl, d0, _, rfl, kd, fun r hr' => ⟨by show 2 ≤ sizeLine; decide, fun T hT => ?_⟩⟩
      have hT' : H' T = none := fresh_back (Ex.new hr') hT
      have eN := (Ex.new (o := .lst ((kvF (tab n w' (rss.map memB)).2 0).map fun kv => kV kv.1)) hr').trans (Ex.new (o := .tup [.ref f0, .ref r]) hT)
      have hrT : r ≠ T := fun z => by rw [← z, upd_same] at hT; cases hT
      refine q T f0 r ps _ (fresh_back e0 hT') hf0' (fresh_back e0 hr') (e0.trans eN) upd_same (eN f0 _ kf) ((kP.mono eN).parts) (by rw [upd_ne hrT, upd_same, kvF_keys]) kn (fun z => ?_) knd (ne_of_none kf hr')
      have : ∀ {ps : List Addr} {Ls : List (List Nat)}, IP H H' ps Ls → r ∈ ps → False := by
        intro ps Ls h
        induction h with
        | nil => intro z; simp at z
        | cons h1 h2 _ ih =>
          intro z
          rcases List.mem_cons.mp z with e | e
          · rw [← e, hr'] at h2; cases h2
          · exact ih e
      exact this kP z
end

/-! ### table, look -/
theorem evStr {K : PySem.W.Frag} {σ : L2.St} {H : Hp} {te : TE} {x : Str} (h : EvD K te σ H (.str x)) : Ev te σ H (.str x) := fun H1 e Q q => h H1 e _ fun v H2 e2 hd => by
  cases dpStr hd
  exact q H2 e2
theorem evInt' {K : PySem.W.Frag} {σ : L2.St} {H : Hp} {te : TE} {i : Int} (h : EvD K te σ H (.int i)) : Ev te σ H (.int i) := fun H1 e Q q => h H1 e _ fun v H2 e2 hd => by
  cases dpInt hd
  exact q H2 e2
def spTabN (K : PySem.W.Frag) : Sp := fun vs H Q _ => ∃ (n w : Nat) (rss : List (List (Nat × Nat))), DpAll K H vs [.int (n : Int), ssD rss, .int (w : Int)] ∧ (1 ≤ n ∧ n ≤ 64) ∧ (1 ≤ w ∧ w ≤ n) ∧ SetsG n rss ∧
  ∀ T f r ps H', H T = none → H f = none → H r = none → Ex H H' → H' T = some (.tup [.ref f, .ref r]) → H' f = some (.lst (ps.map V.ref)) → Parts K H H' ps ((tab n w (rss.map memB)).1.map msD) → H' r = some (.lst ((tab n w (rss.map memB)).2.map vS)) → f ∉ ps → r ∉ ps → ps.Nodup → f ≠ r → Q (.ref T) H'
theorem spTab_N {K : PySem.W.Frag} (vs : List V) (H : Hp) (Q : VK) (E : XK) (h : spTab K vs H Q E) : spTabN K vs H Q E := by
  obtain ⟨n, w, rss, a, b, c, d, q⟩ := h
  exact ⟨n, w, rss, a, b, c, d, fun T f r ps H' h1 h2 h3 h4 h5 h6 h7 h8 h9 h10 _ _ => q T f r ps H' h1 h2 h3 h4 h5 h6 h7 h8 h9 h10⟩
section
variable {P : Program} {w : World} {K : PySem.W.Frag} {mg : Str → Option Value} {base : Heap}
theorem ok_tableN {f f1 f2 : Addr} {fd fd1 fd2 : FuncData} {k : Nat} (F : Fun K "table" "table" sTable f fd)
    (F1 : FnOk P w K mg base CX0 (k + 2) f1 fd1 ["size", "sets"] (spN K RChecked)) (g1 : mg "checked_marks" = some (.ref f1)) (k1 : PySem.W.keepIn K (.ref f1) = true) (b1 : Binds K fd1 ["size", "sets"] [])
    (F2 : FnOk P w K mg base CX0 (k + 2) f2 fd2 ["all_marks", "wide"] (spTabOf K)) (g2 : mg "table_of" = some (.ref f2)) (k2 : PySem.W.keepIn K (.ref f2) = true) (b2 : Binds K fd2 ["all_marks", "wide"] []) :
    FnOk P w K mg base CX0 (k + 3) f fd ["size", "sets", "wide"] (spTabN K) := by
  refine F.ok scTable (fun vs H Q E h => ?_) (fun cdv A outer s H vs Q E hr h => ?_)
  · obtain ⟨n, w', rss, ha, _⟩ := h
    exact allLen ha
  · obtain ⟨n, w', rss, ha, hn, hw, hs, q⟩ := h
    obtain ⟨x, y, z, rfl, hx, hy, hz⟩ := all3 ha
    cases dpInt hx
    cases dpInt hz
    have nd := scTable.nd
    refine ⟨_, pss_cons (ps_set (i := 3) nd rfl (.inl rfl) (pe_call F1 hr (by rfl) g1 k1 b1 .nil pass0 (pa_cons (pv 0) (pa_cons (pv 1) pa_nil))))
      (pss_cons (ps_if (pt_not (pt_chain op_le op_le pe_int (pv 2) (pv 0))) (pss_one ps_never) pss_nil)
      (pss_one (ps_ret (pe_call F2 hr (by rfl) g2 k2 b2 .nil pass0 (pa_cons (pv 3) (pa_cons (pv 2) pa_nil)))))), ?_⟩
    refine sAsgN (nCall (R := RChecked) (da2 (dVar rfl (.int (n : Int))) (dVar (v := y) rfl hy)) ⟨n, rss, rfl, hn.1, hn.2, by have := hs.1; omega, hs.2, rfl⟩) fun p xs H1 hp e1 h1 A1 => ?_
    refine s_if (b := false) (et_is (et_not (et_test (ev_chain2 (f := fun a b => decide (a ≤ b)) (f' := fun a b => decide (a ≤ b)) ev_c (ev_var rfl) (ev_var rfl)))) ?_) (fun z => nomatch z) (fun _ H2 e2 => ?_)
    · rw [decide_eq_true (show (1 : Int) ≤ (w' : Int) by omega), decide_eq_true (show (w' : Int) ≤ (n : Int) by omega)]; rfl
    · have dA : Dp K H2 (.ref p) (.list (rss.map (mD n))) := SB.mono e2 (.lst (sq_of h1) A1)
      show tCons (tVar 3) (tCons (tVar 2) tNil) [some (.int (n : Int)), some y, some (.int (w' : Int)), some (.ref p)] H2 fun vs H3 => spTabOf K (vs ++ []) H3 Q _
      refine (da2 (σ := [some (.int (n : Int)), some y, some (.int (w' : Int)), some (.ref p)]) (dVar (i := 3) (v := .ref p) rfl dA) (dVar (i := 2) (v := .int (w' : Int)) rfl (.int (w' : Int)))) H2 (Ex.refl H2) _ fun vs H3 e3 ha => ?_
      have E3 := (e1.trans e2).trans e3
      exact ⟨n, w', rss, by rw [List.append_nil]; exact ha, hn, hw, hs, fun T f r ps H4 hT hf hr e4 h4 h5 pr h6 n1 n2 n3 n4 => q T f r ps H4 (fresh_back E3 hT) (fresh_back E3 hf) (fresh_back E3 hr) (E3.trans e4) h4 h5 (pr.back E3) h6 n1 n2 n3 n4⟩
theorem ok_look {f f1 f2 : Addr} {fd fd1 fd2 : FuncData} {k : Nat} (F : Fun K "look" "look" sLook f fd)
    (F1 : FnOk P w K mg base CX0 (k + 1) f1 fd1 ["size"] (spV K RSize)) (g1 : mg "check_size" = some (.ref f1)) (k1 : PySem.W.keepIn K (.ref f1) = true) (b1 : Binds K fd1 ["size"] [])
    (F2 : FnOk P w K mg base CX0 (k + 1) f2 fd2 ["size", "number"] (spV K RNum)) (g2 : mg "check_number" = some (.ref f2)) (k2 : PySem.W.keepIn K (.ref f2) = true) (b2 : Binds K fd2 ["size", "number"] [])
    (ml : mg "len" = none) (md : mg "divmod" = none) : FnOk P w K mg base CX0 (k + 2) f fd ["size", "told", "which", "number"] (spV K RLook) := by
  refine F.ok scLook (fun vs H Q E h => ?_) (fun cdv A outer s H vs Q E hr h => ?_)
  · obtain ⟨ds, out, ha, ⟨n, w', rss, i, x, rs, rfl, _⟩, _⟩ := h
    exact allLen ha
  · obtain ⟨ds, out, ha, ⟨n, w', rss, i, x, rs, rfl, hn, hw, hs, hi, hx, rfl⟩, q⟩ := h
    obtain ⟨u1, us, rfl, hu1, ha2⟩ := allCons ha
    obtain ⟨u2, u3, u4, rfl, hu2, hu3, hu4⟩ := all3 ha2
    cases dpInt hu1
    cases dpInt hu3
    cases dpInt hu4
    have nd := scLook.nd
    refine ⟨_, pss_cons (ps_expr (pe_call F1 hr (by rfl) g1 k1 b1 .nil pass0 (pa_cons (pv 0) pa_nil)))
      (pss_cons (ps_asg (pv 1) (pg_tup rfl (pgs_cons (pg_name (i := 4) nd rfl (.inl rfl)) (pgs_cons (pg_name (i := 5) nd rfl (.inl rfl)) pgs_nil))))
      (pss_cons (ps_if (pt_not (pt_chain op_le op_lt pe_int (pv 2) (pe_callB call_len_seq (by rfl) ml PySem.boot_len (pa_cons (pv 4) pa_nil)))) (pss_one ps_never) pss_nil)
      (pss_cons (ps_expr (pe_call F2 hr (by rfl) g2 k2 b2 .nil pass0 (pa_cons (pv 0) (pa_cons (pv 3) pa_nil))))
      (pss_cons (ps_asg (pe_callB call_divmod (by rfl) md (by decide +kernel) (pa_cons (pv 3) (pa_cons (pe_callB call_len_str (by rfl) ml PySem.boot_len (pa_cons (pe_ix ix_list (pv 5) pe_int (fun _ _ => rfl)) pa_nil)) pa_nil))) (pg_tup rfl (pgs_cons (pg_name (i := 6) nd rfl (.inl rfl)) (pgs_cons (pg_name (i := 7) nd rfl (.inl rfl)) pgs_nil))))
      (pss_one (ps_ret (pe_cmpR op_eq (pe_ix ix_str (pe_ix ix_list (pv 5) (pe_ix ix_list (pe_ix ix_list (pv 4) (pv 2) (fun _ _ => rfl)) (pv 6) (fun _ _ => rfl)) (fun _ _ => rfl)) (pv 7) (fun _ _ => rfl)) pe_str (nomark _)))))))), ?_⟩
    have hms : (rss.map memB)[i]? = some (memB rs) := by rw [List.getElem?_map, hi]; rfl
    have hne : rss.map memB ≠ [] := fun z => by rw [z] at hms; simp at hms
    obtain ⟨r0, hr0, hr0w⟩ := tab_zero (n := n) (w := w') hne
    obtain ⟨L, kk, hL, hk, hrow⟩ := tab_at (n := n) (w := w') hms (cnt_div hw.1 hx)
    have hil : i < rss.length := (List.getElem?_eq_some_iff.mp hi).1
    have hfit := tab_fits n w' rss
    refine sDropD (vCall (K := K) (da1 (dVar rfl (.int (n : Int)))) ⟨n, rfl, hn.1, hn.2, rfl⟩) fun H1 e1 => ?_
    refine sAsgPair (dVar (v := u2) rfl (SB.mono e1 hu2)) fun fv rv H2 e2 dF dR => ?_
    refine s_if (b := false) (et_is (et_not (et_test (ev_chain2 (f := fun a b => decide (a ≤ b)) (f' := fun a b => decide (a < b)) ev_c (ev_var rfl) (lenL (v := fv) rfl dF rfl)))) ?_) (fun z => nomatch z) (fun _ H3 e3 => ?_)
    · rw [List.length_map, hfit.1, decide_eq_true (show (0 : Int) ≤ (i : Int) by omega), decide_eq_true (show (i : Int) < (rss.length : Int) by omega)]; rfl
    · refine sDropD (vCall (K := K) (R := RNum) (da2 (dVar rfl (.int (n : Int))) (dVar rfl (.int (x : Int)))) ⟨n, x, rfl, hx, rfl⟩) fun H4 e4 => ?_
      have dF4 := SB.mono (e3.trans e4) dF
      have dR4 := SB.mono (e3.trans e4) dR
      refine ⟨.int (x : Int), rfl, ?_⟩
      refine dIxL (K := K) (i := 0) (d := sD' r0) (dVar (σ := [some (.int (n : Int)), some u2, some (.int (i : Int)), some (.int (x : Int)), some fv, some rv, none, none]) (i := 5) (v := rv) rfl dR4) ev_c (atI_nat (j := 0) (by rw [List.getElem?_map, hr0]; rfl)) H4 (Ex.refl H4) _ fun v H5 e5 hv => ?_
      cases dpStr hv
      refine ⟨_, rfl, sz_of (by rw [enc_len, hr0w]; omega), (x : Int), (w' : Int), ?_, ⟨by omega, by omega⟩, fun p hp => ?_⟩
      · rw [enc_len, hr0w]
      · refine ⟨p, _, rfl, st_of upd_same, rfl, _, _, rfl, _, _, rfl, rfl, ?_⟩
        have e6 := e5.trans (Ex.new (o := .tup [.int ((x : Int) / (w' : Int)), .int ((x : Int) % (w' : Int))]) hp)
        generalize upd H5 p (.tup [.int ((x : Int) / (w' : Int)), .int ((x : Int) % (w' : Int))]) = H6 at e6 ⊢
        have dF6 := SB.mono e6 dF4
        have dR6 := SB.mono e6 dR4
        have i1 := dIxL (K := K) (σ := [some (.int (n : Int)), some u2, some (.int (i : Int)), some (.int (x : Int)), some fv, some rv, some (.int ((x : Int) / (w' : Int))), some (.int ((x : Int) % (w' : Int)))]) (i := (i : Int)) (d := .list (msD L)) (dVar (i := 4) (v := fv) rfl dF6) (ev_var (i := 2) rfl) (atI_nat (by rw [List.getElem?_map, hL]; rfl))
        have i2 := dIxL (i := ((x / w' : Nat) : Int)) (d := .int (kk : Int)) i1 (ev_is (ev_var (i := 6) rfl) rfl) (atI_nat (by unfold msD; rw [List.getElem?_map, hk]; rfl))
        have i3 := dIxL (i := (kk : Int)) (d := sD' (strt (memB rs) w' (x / w'))) (dVar (i := 5) (v := rv) rfl dR6) (evInt' i2) (atI_nat (by rw [List.getElem?_map, hrow]; rfl))
        have i4 : Ev _ _ H6 (.str ⟨#[bt (memB rs x)]⟩) := ev_op (evStr i3) (ev_is (w := .int ((x % w' : Nat) : Int)) (ev_var (i := 7) rfl) rfl) (rv_ixS (c := bt (memB rs x)) (by rw [enc_len, strt_len]; omega) (atI_nat (by
          show ((strt (memB rs) w' (x / w')).map bt).toArray.toList[x % w']? = _
          rw [List.toList_toArray, List.getElem?_map, strt_at hw.1]; rfl)))
        refine sRetD (d := .bool (memB rs x)) (bD (ev_is (ev_op i4 ev_c (rv_eq rfl)) (congrArg V.bl (bit_eq (memB rs x))))) fun v H7 e7 hd => q v H7 ((((((e1.trans e2).trans e3).trans e4).trans e6).trans e7)) hd
end

/-! ### cells_of, least -/
section
variable {P : Program} {w : World} {K : PySem.W.Frag} {mg : Str → Option Value} {base : Heap}
theorem vTabOf {σ : L2.St} {H : Hp} {tA : TA} {n w : Nat} {rss : List (List (Nat × Nat))} (h : EvDA K tA σ H [.list (rss.map (mD n)), .int (w : Int)]) (hn : 1 ≤ n ∧ n ≤ 64) (hw : 1 ≤ w ∧ w ≤ n) (hs : SetsG n rss) : EvD K (tCall (spTabOf K) [] E0 tA) σ H (tabD n w rss) := fun H1 e Q q =>
  h H1 e _ fun vs H2 e2 ha => ⟨n, w, rss, by rw [List.append_nil]; exact ha, hn, hw, hs, fun T f r ps H3 hT hf hr e3 h3 h4 pr h5 n1 n2 _ _ => q _ H3 (e2.trans e3) (tabData h3 h4 pr h5)⟩
theorem minN {σ : L2.St} {H : Hp} {te : TE} {d : PyData} {ds : List PyData} (h : EvN K te σ H (d :: ds)) (ha : PySem.W.AlikeAll (d :: ds)) (hz : PyData.depthAll (d :: ds) < 63) : EvD K (tCB (SD.rMinL K) (tCons te tNil)) σ H (PySem.W.minD d ds) := fun H1 e Q q =>
  h H1 e _ fun p xs H2 _ e2 hp hA => ⟨p, xs, d, ds, rfl, sq_of hp, hA, ha, hz, fun v _ hv => q v H2 e2 hv⟩
theorem ok_pcells {f : Addr} {fd : FuncData} {k : Nat} (F : Fun K "cells_of" "cells_of" sCellsOf f fd) (ml : mg "len" = none) (ms : mg "sum" = none) : FnOk P w K mg base CX0 (k + 1) f fd ["told"] (spV K RCells) := by
  refine F.ok scCellsOf (fun vs H Q E h => ?_) (fun cdv A outer s H vs Q E hr h => ?_)
  · obtain ⟨ds, out, ha, ⟨n, w', rss, rfl, _⟩, _⟩ := h
    exact allLen ha
  · obtain ⟨ds, out, ha, ⟨n, w', rss, rfl, hn, hw, hl, rfl⟩, q⟩ := h
    obtain ⟨y, rfl, hy⟩ := all1 ha
    have nd := scCellsOf.nd
    refine ⟨_, pss_cons (ps_asg (pv 0) (pg_tup rfl (pgs_cons (pg_name (i := 1) nd rfl (.inl rfl)) (pgs_cons (pg_name (i := 2) nd rfl (.inl rfl)) pgs_nil))))
      (pss_one (ps_ret (pe_op op_add (pe_callB (cr_sum rfl) (by rfl) ms (by decide +kernel) (pa_cons
      (pe_lc (own := [("numbers", 3)]) (g := gName 3) (tt := tYes) (te := tCB (fun xs H Q => ∃ p ys, xs = [.ref p] ∧ (SqL K H p ys ∨ SqT K H p ys) ∧ Q (.int ys.length) H) (tCons (tVar 3) tNil)) rfl nd (pi_list (pv 1)) (blkOk_by (own := [("numbers", 3)]) (N := nCellsOf) (sc := defScope sCellsOf) (by decide +kernel))
        (fun _ _ _ _ _ => pg_name (i := 3) nd rfl (Or.inl rfl)) (fun _ _ _ _ _ => pts_nil) (fun _ _ _ _ _ => pe_callB call_len_seq (by rfl) ml PySem.boot_len (pa_cons (pv 3) pa_nil))) pa_nil))
      (pe_callB (cr_sum rfl) (by rfl) ms (by decide +kernel) (pa_cons (pe_lc (own := [("row", 4)]) (g := gName 4) (tt := tYes) (te := tCB (fun xs H Q => ∃ z : Str, xs = [.str z] ∧ z.length ≤ sizeLine ∧ Q (.int z.length) H) (tCons (tVar 4) tNil)) rfl nd (pi_list (pv 2)) (blkOk_by (own := [("row", 4)]) (N := nCellsOf) (sc := defScope sCellsOf) (by decide +kernel))
        (fun _ _ _ _ _ => pg_name (i := 4) nd rfl (Or.inl rfl)) (fun _ _ _ _ _ => pts_nil) (fun _ _ _ _ _ => pe_callB call_len_str (by rfl) ml PySem.boot_len (pa_cons (pv 4) pa_nil))) pa_nil))))), ?_⟩
    have hf := tab_fits n w' rss
    have cl : SM.cnt n w' ≤ 64 := Nat.le_trans (cnt_le hn.1) hn.2
    have h1 : (tab n w' (rss.map memB)).2.length ≤ 384 := Nat.le_trans hf.2 (Nat.mul_le_mul hl cl)
    have rowl : ∀ l ∈ (tab n w' (rss.map memB)).2, l.length = w' := by rw [tab_rows]; exact rows_len n w' _
    refine sAsgPair (dVar (v := y) rfl hy) fun fv rv H2 e2 dF dR => ?_
    have N1 := nLc (K := K) (σ := [some y, some fv, some rv, none, none]) (H := H2) (wi := iList K (tVar 1)) (g := gName 3) (tt := tYes) (te := tCB (fun xs H Q => ∃ p ys, xs = [.ref p] ∧ (SqL K H p ys ∨ SqT K H p ys) ∧ Q (.int ys.length) H) (tCons (tVar 3) tNil)) (vs := [3]) (fun _ => true) (fun j => iD' ((tab n w' (rss.map memB)).1.getD j []).length) (by rw [List.length_map, hf.1]; omega) (wkList (ev_var (v := fv) rfl) dF).asN (fun Dl j x Hz hj ez hd => by
      rw [List.length_map] at hj
      rw [getD_map (fun l => PyData.list (msD l)) (List.getElem?_eq_getElem hj)] at hd
      rw [getD_at [] hj]
      exact ⟨[some y, some fv, some rv, some x, none], fun Q q => q, rfl, et_yes, fun _ => EvD.x (EvD.of (ev_is (lenL (v := x) rfl hd rfl) (by rw [msD_len])) (.int _)) rfl⟩)
    rw [outs_all, List.length_map, range_getD (fun l : List Nat => iD' l.length) [] (tab n w' (rss.map memB)).1, show (tab n w' (rss.map memB)).1.map (fun l : List Nat => iD' l.length) = msD ((tab n w' (rss.map memB)).1.map List.length) by unfold msD; rw [List.map_map]; rfl] at N1
    have N2 := nLc (K := K) (σ := [some y, some fv, some rv, none, none]) (H := H2) (wi := iList K (tVar 2)) (g := gName 4) (tt := tYes) (te := tCB (fun xs H Q => ∃ z : Str, xs = [.str z] ∧ z.length ≤ sizeLine ∧ Q (.int z.length) H) (tCons (tVar 4) tNil)) (vs := [4]) (fun _ => true) (fun j => iD' ((tab n w' (rss.map memB)).2.getD j []).length) (by rw [List.length_map]; omega) (wkList (ev_var (v := rv) rfl) dR).asN (fun Dl j x Hz hj ez hd => by
      rw [List.length_map] at hj
      rw [getD_map sD' (List.getElem?_eq_getElem hj)] at hd
      have hlen := rowl _ (List.getElem_mem hj)
      rw [getD_at [] hj]
      cases dpStr hd
      exact ⟨[some y, some fv, some rv, none, some (.str (enc _))], fun Q q => q, rfl, et_yes, fun _ => EvD.x (EvD.of (ev_is (lenS rfl (by rw [enc_len, hlen, sizeLine_eq]; omega)) (by rw [enc_len])) (.int _)) rfl⟩)
    rw [outs_all, List.length_map, range_getD (fun l : List Bool => iD' l.length) [] (tab n w' (rss.map memB)).2, show (tab n w' (rss.map memB)).2.map (fun l : List Bool => iD' l.length) = msD ((tab n w' (rss.map memB)).2.map List.length) by unfold msD; rw [List.map_map]; rfl] at N2
    refine s_ret (ev_op (sumN N1) (sumN N2) rv_I0) fun H3 e3 => ?_
    have hc := tab_cells n w' (rss.map memB)
    rw [List.sum_append] at hc
    have eS : (((tab n w' (rss.map memB)).1.map List.length).sum : Int) + (((tab n w' (rss.map memB)).2.map List.length).sum : Int) = ((CE n (rss.map memB) w' : Nat) : Int) := by omega
    refine q _ H3 (e2.trans e3) ?_
    rw [← eS]
    exact .int _
theorem ok_least {f f1 f2 f3 : Addr} {fd fd1 fd2 fd3 : FuncData} {k : Nat} (F : Fun K "least" "least" sLeast f fd)
    (F1 : FnOk P w K mg base CX0 (k + 2) f1 fd1 ["size", "sets"] (spN K RChecked)) (g1 : mg "checked_marks" = some (.ref f1)) (k1 : PySem.W.keepIn K (.ref f1) = true) (b1 : Binds K fd1 ["size", "sets"] [])
    (F2 : FnOk P w K mg base CX0 (k + 2) f2 fd2 ["all_marks", "wide"] (spTabOf K)) (g2 : mg "table_of" = some (.ref f2)) (k2 : PySem.W.keepIn K (.ref f2) = true) (b2 : Binds K fd2 ["all_marks", "wide"] [])
    (F3 : FnOk P w K mg base CX0 (k + 2) f3 fd3 ["told"] (spV K RCells)) (g3 : mg "cells_of" = some (.ref f3)) (k3 : PySem.W.keepIn K (.ref f3) = true) (b3 : Binds K fd3 ["told"] [])
    (mr : mg "range" = none) (mM : mg "min" = none) : FnOk P w K mg base CX0 (k + 3) f fd ["size", "sets"] (spV K RLeast) := by
  refine F.ok scLeast (fun vs H Q E h => ?_) (fun cdv A outer s H vs Q E hr h => ?_)
  · obtain ⟨ds, out, ha, ⟨n, rss, rfl, _⟩, _⟩ := h
    exact allLen ha
  · obtain ⟨ds, out, ha, ⟨n, rss, rfl, hn, hs, rfl⟩, q⟩ := h
    obtain ⟨x, y, rfl, hx, hy⟩ := all2 ha
    cases dpInt hx
    have nd := scLeast.nd
    refine ⟨_, pss_cons (ps_set (i := 2) nd rfl (.inr rfl) (pe_call F1 hr (by rfl) g1 k1 b1 .nil pass0 (pa_cons (pv 0) (pa_cons (pv 1) pa_nil))))
      (pss_one (ps_ret (pe_callB (SD.cr_minL rfl hr.units) (by rfl) mM (by decide +kernel) (pa_cons (pe_lc (own := [("wide", 3)]) (g := gName 3) (tt := tYes) (te := tTup (tCons (tCall (spV K RCells) [] E0 (tCons (tCall (spTabOf K) [] E0 (tCons (tVar 2) (tCons (tVar 3) tNil))) tNil)) (tCons (tVar 3) tNil))) rfl nd (pi_range2 (by rfl) mr (pa_cons pe_int (pa_cons (pe_op op_add (pv 0) pe_int) pa_nil))) (blkOk_by (own := [("wide", 3)]) (N := nLeast) (sc := defScope sLeast) (by decide +kernel))
        (fun _ _ _ _ _ => pg_name (i := 3) nd rfl (Or.inl rfl)) (fun _ _ _ _ _ => pts_nil) (fun _ _ _ _ _ => pe_tup (pa_cons (pe_call F3 hr (by rfl) g3 k3 b3 .nil pass0 (pa_cons (pe_call F2 hr (by rfl) g2 k2 b2 .nil pass0 (pa_cons (pv 2) (pa_cons (pv 3) pa_nil))) pa_nil)) (pa_cons (pv 3) pa_nil)))) pa_nil)))), ?_⟩
    refine sAsgN (nCall (R := RChecked) (da2 (dVar rfl (.int (n : Int))) (dVar (v := y) rfl hy)) ⟨n, rss, rfl, hn.1, hn.2, by have := hs.1; omega, hs.2, rfl⟩) fun p xs H5 hp e5 h5 A5 => ?_
    have d5 : Dp K H5 (.ref p) (.list (rss.map (mD n))) := .lst (sq_of h5) A5
    have num : ∀ {σ : L2.St} {Hx : Hp} {i : Nat} {k : Nat}, σ[i]? = some (some (.int (k : Int))) → EvD K (tVar i) σ Hx (.int (k : Int)) := fun h => dVar h (.int _)
    have N1 := nLc (K := K) (σ := [some (.int (n : Int)), some y, some (.ref p), none]) (H := H5) (wi := iRng2 (tCons (tC (.int 1)) (tCons (tOp (rI0 fun i j => .int (i + j)) (tVar 0) (tC (.int 1))) tNil))) (g := gName 3) (tt := tYes) (te := tTup (tCons (tCall (spV K RCells) [] E0 (tCons (tCall (spTabOf K) [] E0 (tCons (tVar 2) (tCons (tVar 3) tNil))) tNil)) (tCons (tVar 3) tNil))) (vs := [3]) (fun _ => true) (fun j => SD.pD (CE n (rss.map memB) (j + 1), j + 1)) (by omega) (wkRange2 (i := 1) (j := (n : Int) + 1) (ea_cons ev_c (ea_cons (ev_op (x := .int (n : Int)) (ev_var rfl) ev_c rv_I0) ea_nil)) ⟨by omega, by omega, by omega, by omega⟩).asN (fun Dl j x Hz hj ez hd => by
      cases dpInt hd
      have hj' : j < n := by omega
      have e1 : (1 : Int) + (j : Nat) = ((j + 1 : Nat) : Int) := by omega
      rw [e1]
      exact ⟨[some (.int (n : Int)), some y, some (.ref p), some (.int ((j + 1 : Nat) : Int))], fun Q q => q, rfl, et_yes, fun _ => EvD.x (dTup (da2 (vCall (R := RCells) (da1 (vTabOf (n := n) (w := j + 1) (rss := rss) (da2 (dVar (v := .ref p) rfl (SB.mono ez d5)) (num rfl)) hn ⟨by omega, by omega⟩ hs)) ⟨n, j + 1, rss, rfl, hn, by omega, hs.1, rfl⟩) (num rfl)) (by show 2 ≤ 100000; decide)) rfl⟩)
    rw [outs_all, show ((n : Int) + 1 - 1).toNat = n by omega, show (List.range n).map (fun j => SD.pD (CE n (rss.map memB) (j + 1), j + 1)) = SD.pD (CE n (rss.map memB) 1, 1) :: (List.range (n - 1)).map (fun i => SD.pD (CE n (rss.map memB) (i + 2), i + 2)) by
      obtain ⟨m, rfl⟩ : ∃ m, n = m + 1 := ⟨n - 1, by omega⟩
      rw [List.range_succ_eq_map, List.map_cons, List.map_map]; rfl] at N1
    have aR : PySem.W.AlikeAll (SD.pD (CE n (rss.map memB) 1, 1) :: (List.range (n - 1)).map (fun i => SD.pD (CE n (rss.map memB) (i + 2), i + 2))) := by
      have z := SD.alikePairs ((CE n (rss.map memB) 1, 1) :: (List.range (n - 1)).map fun i => (CE n (rss.map memB) (i + 2), i + 2))
      rw [List.map_cons, List.map_map] at z
      exact z
    have zR : PyData.depthAll (SD.pD (CE n (rss.map memB) 1, 1) :: (List.range (n - 1)).map (fun i => SD.pD (CE n (rss.map memB) (i + 2), i + 2))) < 63 := by
      have z := SD.depPairs ((CE n (rss.map memB) 1, 1) :: (List.range (n - 1)).map fun i => (CE n (rss.map memB) (i + 2), i + 2))
      rw [List.map_cons, List.map_map] at z
      exact Nat.lt_of_le_of_lt z (by decide)
    have M := minN N1 aR zR
    rw [SD.minPairs] at M
    exact sRetD M fun v H6 e6 hd => q v H6 (e5.trans e6) hd
end

/-! ### row_of, class_row -/
def EsR : List SE.En → List (List Bool) → Nat → Prop
  | [], [], _ => True
  | e :: es, r :: rs, i => e.1 = r ∧ e.2.2 = (i : Int) ∧ EsR es rs (i + 1)
  | _, _, _ => False
theorem EsR.len : ∀ {es : List SE.En} {rs : List (List Bool)} {i : Nat}, EsR es rs i → es.length = rs.length
  | [], [], _, _ => rfl
  | e :: es, r :: rs, i, h => by rw [List.length_cons, List.length_cons, EsR.len h.2.2]
  | [], _ :: _, _, h => h.elim
  | _ :: _, [], _, h => h.elim
theorem EsR.no {s : List Bool} : ∀ {es : List SE.En} {rs : List (List Bool)} {i : Nat}, EsR es rs i → s ∉ rs → SE.lookB es s = none
  | [], [], _, _, _ => rfl
  | e :: es, r :: rs, i, h, hs => by
    have c : ¬ e.1 = s := fun z => hs (by rw [← z, h.1]; exact List.mem_cons_self)
    have ih := EsR.no h.2.2 (fun z => hs (List.mem_cons_of_mem _ z))
    unfold SE.lookB at ih ⊢
    rw [List.find?_cons, decide_eq_false c]; exact ih
  | [], _ :: _, _, h, _ => h.elim
  | _ :: _, [], _, h, _ => h.elim
theorem EsR.yes {s : List Bool} : ∀ {es : List SE.En} {rs : List (List Bool)} {i : Nat}, EsR es rs i → s ∈ rs → SE.lookB es s = some ((i + rs.idxOf s : Nat) : Int)
  | [], [], _, _, h => by simp at h
  | e :: es, r :: rs, i, h, hs => by
    by_cases c : r = s
    · have c' : e.1 = s := h.1.trans c
      unfold SE.lookB
      rw [List.find?_cons, decide_eq_true c', List.idxOf_cons, show (r == s) = true from beq_iff_eq.mpr c]
      show some e.2.2 = some ((i + 0 : Nat) : Int)
      rw [h.2.1]; rfl
    · have c' : ¬ e.1 = s := fun z => c (h.1.symm.trans z)
      rcases List.mem_cons.mp hs with z | z
      · exact absurd z.symm c
      · have ih := EsR.yes h.2.2 z
        unfold SE.lookB at ih ⊢
        rw [List.find?_cons, decide_eq_false c', List.idxOf_cons, show (r == s) = false from beq_eq_false_iff_ne.mpr c]
        show (es.find? _).map _ = some ((i + (rs.idxOf s + 1) : Nat) : Int)
        rw [ih, show i + 1 + rs.idxOf s = i + (rs.idxOf s + 1) by omega]
  | [], _ :: _, _, h, _ => h.elim
  | _ :: _, [], _, h, _ => h.elim
theorem EsR.app {s : List Bool} {b : Addr} : ∀ {es : List SE.En} {rs : List (List Bool)} {i : Nat}, EsR es rs i → EsR (es ++ [(s, b, ((i + rs.length : Nat) : Int))]) (rs ++ [s]) i
  | [], [], _, _ => ⟨rfl, rfl, trivial⟩
  | e :: es, r :: rs, i, h => by
    have ih := EsR.app (s := s) (b := b) h.2.2
    refine ⟨h.1, h.2.1, ?_⟩
    rw [show i + (r :: rs).length = i + 1 + rs.length by rw [List.length_cons]; omega]
    exact ih
  | [], _ :: _, _, h => h.elim
  | _ :: _, [], _, h => h.elim
theorem Keys.mono {H H' : Hp} {es : List SE.En} (e : Ex H H') (h : SE.Keys H es) : SE.Keys H' es := fun x hx => e _ _ (h x hx)
theorem Keys.upd {H : Hp} {es : List SE.En} {a : Addr} {o o' : HO} (h : SE.Keys H es) (ha : H a = some o) (hn : ∀ xs, HO.tup xs ≠ o) : SE.Keys (upd H a o') es := fun x hx => by
  rw [upd_ne (ne_of (h x hx) ha (hn _))]
  exact h x hx
theorem uTuple {K : PySem.W.Frag} {σ : L2.St} {H : Hp} {te : TE} {r : List V → Hp → VK → Prop} {bs : List Bool} (h : EvN K te σ H (bs.map PyData.bool)) (hr : r = fun xs H Q => ∃ p ys, xs = [.ref p] ∧ ((SqL K H p ys ∧ ∀ l, H l = none → Q (.ref l) (upd H l (.tup ys))) ∨ (SqT K H p ys ∧ Q (.ref p) H))) : EvU (tCB r (tCons te tNil)) σ H (bs.map V.bl) := fun H1 e1 Q q => by
  subst hr
  refine h H1 e1 _ fun p xs H2 _ e2 h2 A2 => ?_
  have hx := blsOfAll A2
  subst hx
  exact ⟨p, _, rfl, .inl ⟨sq_of h2, fun b hb => q b _ (fresh_back e2 hb) (e2.trans (Ex.new hb)) upd_same⟩⟩
section
variable {P : Program} {w : World} {K : PySem.W.Frag} {mg : Str → Option Value} {base : Heap}
def RRowOf : List PyData → List PyData → Prop := fun ds o => ∃ (n : Nat) (rss : List (List (Nat × Nat))), ds = [.int (n : Int), .list (rss.map (mD n))] ∧ (1 ≤ n ∧ n ≤ 64) ∧ rss.length ≤ 100 ∧ o = msD (rowF rss n)
theorem ok_rowOf {f : Addr} {fd : FuncData} {k : Nat} (F : Fun K "row_of" "row_of" sRowOf f fd) (mr : mg "range" = none) (ml : mg "len" = none) (mT : mg "tuple" = none) : FnOk P w K mg base CX0 (k + 1) f fd ["size", "all_marks"] (spN K RRowOf) := by
  refine F.ok scRowOf (fun vs H Q E h => ?_) (fun cdv A outer s H vs Q E hr h => ?_)
  · obtain ⟨ds, out, ha, ⟨n, rss, rfl, _⟩, _⟩ := h
    exact allLen ha
  · obtain ⟨ds, out, ha, ⟨n, rss, rfl, hn, hs, rfl⟩, q⟩ := h
    obtain ⟨x, y, rfl, hx, hy⟩ := all2 ha
    cases dpInt hx
    have nd := scRowOf.nd
    have hu := hu_of hr
    refine ⟨_, pss_cons (ps_set (i := 2) nd rfl (.inl rfl) SE.pe_newB) (pss_cons (ps_set (i := 3) nd rfl (.inl rfl) (pe_lst pa_nil))
      (pss_cons (ps_for PassesOwn.never rfl (pi_range1 (by rfl) mr (pa_cons (pv 0) pa_nil)) (pg_name (i := 4) nd rfl (.inr rfl))
        (pss_cons (ps_set (i := 5) nd rfl (.inl rfl) (pe_callTy call_tuple_of (by rfl) mT (by decide +kernel) (pa_cons (pe_lc (own := [("marks", 6)]) (g := gName 6) (tt := tYes) (te := tOp (rIxL K) (tVar 6) (tVar 4)) rfl nd (pi_list (pv 1)) (blkOk_by (own := [("marks", 6)]) (N := nRowOf) (sc := defScope sRowOf) (by decide +kernel))
          (fun _ _ _ _ _ => pg_name (i := 6) nd rfl (Or.inl rfl)) (fun _ _ _ _ _ => pts_nil) (fun _ _ _ _ _ => pe_ix ix_list (pv 6) (pv 4) (fun _ _ => rfl))) pa_nil)))
        (pss_one (ps_expr (pe_bm PySem.F.plainAttrs_list PySem.F.slot_list_append PySem.F.type_list_append mt_append (pv 3) (pa_cons (SE.pe_setB hu (pv 2) (pv 5) (pe_callB SE.cr_lenB (by rfl) ml PySem.boot_len (pa_cons (pv 2) pa_nil)) ⟨rfl, rfl, rfl, rfl⟩) pa_nil))))))
      (pss_one (ps_ret (pv 3))))), ?_⟩
    intro d0 hd0
    refine ⟨Nat.zero_le _, fun l0 hl0 => ?_⟩
    have hl0' : H l0 = none := fresh_back (Ex.new hd0) hl0
    have hld : l0 ≠ d0 := fun z => by rw [z, upd_same] at hl0; cases hl0
    have E2 : Ex H (upd (upd H d0 (SE.DBO P w d0 [])) l0 (.lst [])) := (Ex.new hd0).trans (Ex.new hl0)
    have h2d : (upd (upd H d0 (SE.DBO P w d0 [])) l0 (.lst [])) d0 = some (SE.DBO P w d0 []) := by rw [upd_ne (Ne.symm hld), upd_same]
    have h2l : (upd (upd H d0 (SE.DBO P w d0 [])) l0 (.lst [])) l0 = some (.lst []) := upd_same
    show tFor (iRng1 (tCons (tVar 0) tNil)) (gName 4) _ _ [some (.int (n : Int)), some y, some (.ref d0), some (.ref l0), none, none, none] (upd (upd H d0 (SE.DBO P w d0 [])) l0 (.lst []))
    generalize upd (upd H d0 (SE.DBO P w d0 [])) l0 (.lst []) = H2 at E2 h2d h2l ⊢
    refine s_forR1 (n := (n : Int)) (ea_cons (ev_var rfl) ea_nil) ⟨by omega, by omega⟩ (fun i σ' H' => Ex H H' ∧ (∃ es, H' d0 = some (SE.DBO P w d0 es) ∧ SE.Keys H' es ∧ EsR es (UN rss i) 0) ∧ H' l0 = some (.lst ((List.range i).map fun k => V.int ((UN rss n).idxOf (sg rss k) : Nat))) ∧ ∃ b4 b5, σ' = [some (.int (n : Int)), some y, some (.ref d0), some (.ref l0), b4, b5, none])
      (fun H3 e => ⟨E2.trans e, ⟨[], e d0 _ h2d, fun _ h => by simp at h, trivial⟩, e l0 _ h2l, none, none, rfl⟩) (fun i σ' H' hi p => ?_) (fun σ' H' p => ?_)
    · obtain ⟨e0, ⟨es, kd, kk, kE⟩, kl, b4, b5, rfl⟩ := p
      have hi' : i < n := by omega
      have N1 := nLc (K := K) (σ := [some (.int (n : Int)), some y, some (.ref d0), some (.ref l0), some (.int (i : Int)), b5, none]) (H := H') (wi := iList K (tVar 1)) (g := gName 6) (tt := tYes) (te := tOp (rIxL K) (tVar 6) (tVar 4)) (vs := [6]) (fun _ => true) (fun j => .bool (memB (rss.getD j []) i)) (by rw [List.length_map]; omega) (wkList (ev_var (v := y) rfl) (SB.mono e0 hy)).asN (fun Dl j v Hz hj ez hd => by
        rw [List.length_map] at hj
        rw [getD_map (mD n) (List.getElem?_eq_getElem hj)] at hd
        rw [getD_at [] hj]
        refine ⟨[some (.int (n : Int)), some y, some (.ref d0), some (.ref l0), some (.int (i : Int)), b5, some v], fun Q q => q, rfl, et_yes, fun _ => EvD.x (dIxL (i := (i : Int)) (dVar (v := v) rfl hd) (ev_var rfl) (atI_nat ?_)) rfl⟩
        show (bls n (memB rss[j]))[i]? = _
        unfold bls
        rw [List.getElem?_map, List.getElem?_range hi']; rfl)
      rw [outs_all, List.length_map, range_getD (fun rs => PyData.bool (memB rs i)) [] rss, show rss.map (fun rs => PyData.bool (memB rs i)) = (sg rss i).map PyData.bool by unfold sg; rw [List.map_map]; rfl] at N1
      refine q_asgU (uTuple N1 rfl) fun b H4 hb e4 h4b => ?_
      have hb0 : H b = none := fresh_back e0 hb
      have k4d := e4 d0 _ kd
      have k4l := e4 l0 _ kl
      have k4k := Keys.mono e4 kk
      have hbd : b ≠ d0 := ne_of h4b k4d (by intro z; cases z)
      have esl : es.length ≤ 1000 := by
        rw [kE.len]
        have := UN_len rss i
        omega
      have pre := UN_pre rss (show i + 1 ≤ n by omega)
      have us := UN_succ rss i
      refine ⟨.ref l0, rfl, .inl ⟨rfl, _, sq_of k4l⟩, .ref d0, rfl, d0, es, rfl, k4d, k4k, .ref b, rfl, .ref d0, rfl, d0, es, rfl, k4d, k4k, esl, sg rss i, b, (es.length : Int), rfl, rfl, h4b, k4d, k4k, esl, fun j hj => ?_, fun hn' => ?_⟩
      · have hm : sg rss i ∈ UN rss i := Classical.byContradiction fun z => by rw [kE.no z] at hj; cases hj
        rw [kE.yes hm, Nat.zero_add] at hj
        have ej : j = ((UN rss n).idxOf (sg rss i) : Nat) := by rw [idx_pre (UN_pre rss (show i ≤ n by omega)) hm]; exact (Option.some.inj hj).symm
        subst ej
        refine ⟨l0, _, _, rfl, rfl, k4l, sz_lt (by rw [List.length_map, List.length_range]; omega), Ex.mut (e0.trans e4) hl0', ⟨es, by rw [upd_ne (Ne.symm hld)]; exact k4d, Keys.upd k4k k4l (fun _ z => by cases z), ?_⟩, ?_, _, _, rfl⟩
        · rw [us]; unfold put
          rw [if_pos (decide_eq_true hm)]; exact kE
        · rw [upd_same, List.range_succ, List.map_append]; rfl
      · have hm : sg rss i ∉ UN rss i := fun z => by rw [kE.yes z] at hn'; cases hn'
        have hp' : put (UN rss i) (sg rss i) = UN rss i ++ [sg rss i] := by unfold put; rw [if_neg (by rw [decide_eq_false hm]; decide)]
        have ej : (es.length : Int) = ((UN rss n).idxOf (sg rss i) : Nat) := by
          rw [idx_pre pre (by rw [us, hp']; exact List.mem_append_right _ (List.mem_singleton.mpr rfl)), us, hp', idx_new hm, kE.len]
        refine ⟨l0, _, _, rfl, rfl, by rw [upd_ne hld]; exact k4l, sz_lt (by rw [List.length_map, List.length_range]; omega), Ex.mut (Ex.mut (e0.trans e4) hd0) hl0', ⟨es ++ [(sg rss i, b, (es.length : Int))], by rw [upd_ne (Ne.symm hld), upd_same]; rfl, ?_, ?_⟩, ?_, _, _, rfl⟩
        · refine Keys.upd (a := l0) (o := .lst ((List.range i).map fun k => V.int ((UN rss n).idxOf (sg rss k) : Nat))) ?_ (by rw [upd_ne hld]; exact k4l) (fun _ z => by cases z)
          intro e he
          rcases List.mem_append.mp he with z | z
          · exact Keys.upd k4k k4d (fun _ z => by cases z) e z
          · rw [List.mem_singleton.mp z, upd_ne hbd]; exact h4b
        · rw [us, hp', kE.len]
          have z := EsR.app (s := sg rss i) (b := b) kE
          rw [Nat.zero_add] at z
          exact z
        · rw [upd_same, List.range_succ, List.map_append, ej]; rfl
    · obtain ⟨e0, _, kl, b4, b5, rfl⟩ := p
      rw [Int.toNat_natCast] at kl
      refine ⟨.ref l0, rfl, q l0 _ H' hl0' e0 kl ?_⟩
      have z := allOfInts (K := K) (H := H') ((rowF rss n).map fun k : Nat => (k : Int))
      rw [← msD_int, List.map_map, rowF_get, List.map_map] at z
      rw [rowF_get]
      exact z
theorem ok_row {f f1 f2 : Addr} {fd fd1 fd2 : FuncData} {k : Nat} (F : Fun K "class_row" "class_row" sClassRow f fd)
    (F1 : FnOk P w K mg base CX0 (k + 2) f1 fd1 ["size", "sets"] (spN K RChecked)) (g1 : mg "checked_marks" = some (.ref f1)) (k1 : PySem.W.keepIn K (.ref f1) = true) (b1 : Binds K fd1 ["size", "sets"] [])
    (F2 : FnOk P w K mg base CX0 (k + 2) f2 fd2 ["size", "all_marks"] (spN K RRowOf)) (g2 : mg "row_of" = some (.ref f2)) (k2 : PySem.W.keepIn K (.ref f2) = true) (b2 : Binds K fd2 ["size", "all_marks"] []) :
    FnOk P w K mg base CX0 (k + 3) f fd ["size", "sets"] (spN K RRow) := by
  refine F.ok scClassRow (fun vs H Q E h => ?_) (fun cdv A outer s H vs Q E hr h => ?_)
  · obtain ⟨ds, out, ha, ⟨n, rss, rfl, _⟩, _⟩ := h
    exact allLen ha
  · obtain ⟨ds, out, ha, ⟨n, rss, rfl, hn, hs, rfl⟩, q⟩ := h
    obtain ⟨x, y, rfl, hx, hy⟩ := all2 ha
    cases dpInt hx
    refine ⟨_, pss_one (ps_ret (pe_call F2 hr (by rfl) g2 k2 b2 .nil pass0 (pa_cons (pv 0) (pa_cons (pe_call F1 hr (by rfl) g1 k1 b1 .nil pass0 (pa_cons (pv 0) (pa_cons (pv 1) pa_nil))) pa_nil)))), ?_⟩
    have hs6 := hs.1
    exact sRetN (nCall (R := RRowOf) (da2 (dVar rfl (.int (n : Int))) (nCall (R := RChecked) (da2 (dVar rfl (.int (n : Int))) (dVar (v := y) rfl hy)) ⟨n, rss, rfl, hn.1, hn.2, by omega, hs.2, rfl⟩).asD) ⟨n, rss, rfl, hn, by omega, rfl⟩) q
end

/-! ### classes, by_classes -/
def outCls : Scope := { kind := .function, names := [(".0", .local), ("number", .cell), ("ranges_of", .globalImplicit), ("row", .cell)], isGenerator := false, isCoroutine := false }
section
variable {K : PySem.W.Frag} {σ : L2.St} {H : Hp}
/-- a new list of new lists, all unlike -/
def NewPN (K : PySem.W.Frag) (H : Hp) (Q : VK) (dss : List (List PyData)) : Prop := ∀ p ps H', H p = none → Ex H H' → H' p = some (.lst (ps.map V.ref)) → Parts K H H' ps dss → p ∉ ps → ps.Nodup → Q (.ref p) H'
theorem NewP.n {Q : VK} {dss : List (List PyData)} (q : NewP K H Q dss) : NewPN K H Q dss := fun p ps H' a b c d e _ => q p ps H' a b c d e
def spPN (K : PySem.W.Frag) (f : Nat → List (List (Nat × Nat)) → List (List PyData)) : Sp := fun vs H Q _ => ∃ (n : Nat) (rss : List (List (Nat × Nat))), DpAll K H vs [.int (n : Int), ssD rss] ∧ (1 ≤ n ∧ n ≤ 64) ∧ SetsG n rss ∧ NewPN K H Q (f n rss)
/-- a list of new lists by a comprehension -/
theorem pLcN {wi : TI} {g : TG} {te : TE} {n : Nat} {o : Nat → PyData} {vs : List Nat} {Q : VK} (dss : Nat → List PyData) (hn : n ≤ 50000) (hw : WkN K wi σ H n o) (hl : ∀ i, noLs (dss i) = true)
    (ht : ∀ i x H', i < n → Ex H H' → Dp K H' x (o i) → ∃ σ2, (∀ Q : L2.St → Hp → Prop, Q σ2 H' → g x (wipe σ vs) H' Q) ∧ wipe σ2 vs = wipe σ vs ∧ EvN K te σ2 H' (dss i)) (q : NewPN K H Q ((List.range n).map dss)) : tLc wi g tYes te vs σ H Q :=
  hw H (Ex.refl H) _ fun J H2 e2 w => fun Dl hD => by
  refine lc_it w (fun i H' => Ex H2 H' ∧ ∃ ps : List Addr, H' Dl = some (.lst (ps.map V.ref)) ∧ Parts K H (rm H' Dl) ps ((List.range i).map dss) ∧ ps.Nodup) ⟨Ex.new hD, [], upd_same, .nil, List.nodup_nil⟩ (fun i H' _ p => p.1) (fun i x H' H'' hi p y => ?_) (fun H' p => ?_)
  · obtain ⟨eP, ps, hacc, hall, hnd⟩ := p
    obtain ⟨eY, dY⟩ := y
    obtain ⟨σ2, hg, hwi, hE⟩ := ht i x H'' hi ((e2.trans eP).trans eY) dY
    refine hg _ ⟨hwi, et_yes H'' (Ex.refl _) _ fun H3 e3 => ?_⟩
    have e13 := eY.trans e3
    show te σ2 H3 _
    refine hE H3 e3 _ fun p xs H4 hp e4 h4 A4 => ⟨ps.map V.ref, e4 Dl _ (e13 Dl _ hacc), sz_lt ?_, Ex.mut ((eP.trans e13).trans e4) hD, ps ++ [p], ?_, ?_, ?_⟩
    · rw [List.length_map, hall.len, List.length_map, List.length_range]; omega
    · rw [upd_same, List.map_append]; rfl
    · have hD4 := e4 Dl _ (e13 Dl _ hacc)
      have pD : p ≠ Dl := Ne.symm (ne_of_none (e13 Dl _ hacc) hp)
      rw [rmUpd, List.range_succ, List.map_append]
      exact (hall.mono (rmMono (e13.trans e4))).app (.cons (fresh_back ((e2.trans eP).trans e13) hp) (by rw [rmNe pD]; exact h4) (dpAllRm hD4 _ _ (hl i) A4) .nil)
    · refine List.nodup_append.mpr ⟨hnd, by simp, fun a ha b hb => ?_⟩
      rw [List.mem_singleton.mp hb]
      intro z
      have : (rm H3 Dl) p = none := by
        unfold rm
        by_cases c : p = Dl
        · rw [if_pos c]
        · rw [if_neg c]; exact hp
      exact ((hall.mono (rmMono e13)).notin this) (by rw [← z]; exact ha)
  · obtain ⟨eP, ps, hacc, hall, hnd⟩ := p
    exact q Dl ps H' (fresh_back e2 hD) (e2.trans eP) hacc (hall.mono rmEx) (hall.notin rmSame) hnd
theorem sRetP {te : TE} {D : Ends} {dss : List (List PyData)} (h : ∀ Q : VK, NewP K H Q dss → te σ H Q) (k : NewP K H D.rt dss) : tRet te D σ H := h _ k
theorem NewPN.ex {Q : VK} {H1 : Hp} {dss : List (List PyData)} (e : Ex H H1) (q : NewPN K H Q dss) : NewPN K H1 Q dss := fun p ps H' hp e1 h1 pr np nn => q p ps H' (fresh_back e hp) (e.trans e1) h1 (pr.back e) np nn
theorem NewP.ex {Q : VK} {H1 : Hp} {dss : List (List PyData)} (e : Ex H H1) (q : NewP K H Q dss) : NewP K H1 Q dss := fun p ps H' hp e1 h1 pr np => q p ps H' (fresh_back e hp) (e.trans e1) h1 (pr.back e) np
theorem maxN {j : Nat} {v : V} {ns : List Int} {m : Int} (h : σ[j]? = some (some v)) (hd : Dp K H v (.list (ns.map PyData.int))) (hm : m ∈ ns) (hl : ∀ y ∈ ns, y ≤ m) : Ev (tCB (rMax K) (tCons (tVar j) tNil)) σ H (.int m) := fun H1 e Q q => by
  obtain ⟨a, xs, rfl, hs, hA⟩ := dpList (SB.mono e hd)
  have hx := intsOfAll hA
  subst hx
  refine ⟨.ref a, h, a, ns, rfl, hs, List.length_pos_of_mem hm, fun m' h1 h2 => ?_⟩
  have : m' = m := Int.le_antisymm (hl m' h1) (h2 m hm)
  subst this
  exact q H1 (Ex.refl H1)
end
section
variable {P : Program} {w : World} {K : PySem.W.Frag} {mg : Str → Option Value} {base : Heap}
theorem ok_classesN {f f1 f2 : Addr} {fd fd1 fd2 : FuncData} {k : Nat} (F : Fun K "classes" "classes" sClasses f fd)
    (F1 : FnOk P w K mg base CX0 (k + 3) f1 fd1 ["size", "sets"] (spN K RRow)) (g1 : mg "class_row" = some (.ref f1)) (k1 : PySem.W.keepIn K (.ref f1) = true) (b1 : Binds K fd1 ["size", "sets"] [])
    (F2 : FnOk P w K mg base CX0 (k + 3) f2 fd2 ["marks"] (spN K RRanges)) (g2 : mg "ranges_of" = some (.ref f2)) (k2 : PySem.W.keepIn K (.ref f2) = true) (b2 : Binds K fd2 ["marks"] [])
    (mr : mg "range" = none) (mM : mg "max" = none) : FnOk P w K mg base CX0 (k + 4) f fd ["size", "sets"] (spPN K clsD) := by
  refine F.ok scClasses (fun vs H Q E h => ?_) (fun cdv A outer s H vs Q E hr h => ?_)
  · obtain ⟨n, rss, ha, _⟩ := h
    exact allLen ha
  · obtain ⟨n, rss, ha, hn, hs, q⟩ := h
    obtain ⟨x, y, rfl, hx, hy⟩ := all2 ha
    cases dpInt hx
    have nd := scClasses.nd
    refine ⟨_, pss_cons (ps_set (i := 2) nd rfl (.inr rfl) (pe_call F1 hr (by rfl) g1 k1 b1 .nil pass0 (pa_cons (pv 0) (pa_cons (pv 1) pa_nil))))
      (pss_one (ps_ret (pe_lc (own := [("number", 4)]) (g := gName 4) (tt := tYes) (te := tCall (spN K RRanges) [] E0 (tCons (tLc (iList K (tVar 2)) (gName 3) tYes (tOp rEq (tVar 3) (tVar 4)) [3]) tNil)) rfl nd (pi_range1 (by rfl) mr (pa_cons (pe_op op_add (pe_callB (cr_max rfl) (by rfl) mM (by decide +kernel) (pa_cons (pv 2) pa_nil)) pe_int) pa_nil)) (blkOk_by (own := [("number", 4)]) (N := nClasses) (sc := defScope sClasses) (by decide +kernel))
        (fun _ _ _ _ _ => pg_name (i := 4) nd rfl (Or.inr rfl)) (fun _ _ _ _ _ => pts_nil) (fun _ _ _ _ _ => pe_call F2 hr (by rfl) g2 k2 b2 .nil pass0 (pa_cons (pe_lc (own := [("mine", 3)]) (g := gName 3) (tt := tYes) (te := tOp rEq (tVar 3) (tVar 4)) rfl nd (pi_list (pv 2)) (blkOk_by (own := [("mine", 3)]) (N := nClasses) (sc := outCls) (by decide +kernel))
          (fun _ _ _ _ _ => pg_name (i := 3) nd rfl (Or.inl rfl)) (fun _ _ _ _ _ => pts_nil) (fun _ _ _ _ _ => pe_cmpR op_eq (pv 3) (pv 4) (nomark _))) pa_nil))))), ?_⟩
    refine sAsgN (nCall (R := RRow) (da2 (dVar rfl (.int (n : Int))) (dVar (v := y) rfl hy)) ⟨n, rss, rfl, hn, hs, rfl⟩) fun p xs H1 hp e1 h1 A1 => ?_
    have d1 : Dp K H1 (.ref p) (.list (msD (rowF rss n))) := .lst (sq_of h1) A1
    have up := UN_pos (rss := rss) hn.1
    have ul := UN_len rss n
    have rl := rowF_len rss n
    have M := maxN (K := K) (σ := [some (.int (n : Int)), some y, some (.ref p), none, none]) (H := H1) (j := 2) (v := .ref p) (ns := (rowF rss n).map fun k : Nat => (k : Int)) (m := (((UN rss n).length - 1 : Nat) : Int)) rfl (by rw [← msD_int]; exact d1) (List.mem_map.mpr ⟨_, rowF_has (by omega), rfl⟩) (fun y hy => by
      obtain ⟨z, hz, rfl⟩ := List.mem_map.mp hy
      have := rowF_lt z hz
      omega)
    have q' := NewPN.ex e1 q
    show tLc (iRng1 (tCons (tOp (rI0 fun i j => .int (i + j)) (tCB (rMax K) (tCons (tVar 2) tNil)) (tC (.int 1))) tNil)) (gName 4) tYes (tCall (spN K RRanges) [] E0 (tCons (tLc (iList K (tVar 2)) (gName 3) tYes (tOp rEq (tVar 3) (tVar 4)) [3]) tNil)) [4] [some (.int (n : Int)), some y, some (.ref p), none, none] H1 Q
    have eD : clsD n rss = (List.range (UN rss n).length).map fun c => (told (fun k => decide ((rowF rss n).getD k 0 = c)) n).map rD := by
      unfold clsD clsF
      rw [List.map_map]; rfl
    have tn : ((((UN rss n).length - 1 : Nat) : Int) + 1).toNat = (UN rss n).length := by omega
    refine pLcN (K := K) (n := ((((UN rss n).length - 1 : Nat) : Int) + 1).toNat) (o := fun i => .int (i : Nat)) (fun c => (told (fun k => decide ((rowF rss n).getD k 0 = c)) n).map rD) (by omega) (wkRange1 (j := (((UN rss n).length - 1 : Nat) : Int) + 1) (ea_cons (ev_op M ev_c rv_I0) ea_nil) ⟨by omega, by omega⟩).asN (fun c => noRs _) (fun c v H3 hc e3 hd => ?_) (by rw [tn, ← eD]; exact q')
    cases dpInt hd
    refine ⟨[some (.int (n : Int)), some y, some (.ref p), none, some (.int (c : Nat))], fun Q q => q, rfl, ?_⟩
    have N1 := nLc (K := K) (σ := [some (.int (n : Int)), some y, some (.ref p), none, some (.int (c : Nat))]) (H := H3) (wi := iList K (tVar 2)) (g := gName 3) (tt := tYes) (te := tOp rEq (tVar 3) (tVar 4)) (vs := [3]) (fun _ => true) (fun k => .bool (decide ((rowF rss n).getD k 0 = c))) (by unfold msD; rw [List.length_map]; omega) (wkList (ev_var (v := .ref p) rfl) (SB.mono e3 d1)).asN (fun Dl k v H4 hk e4 hd => by
      unfold msD at hk hd
      rw [List.length_map] at hk
      rw [getD_map iD' (List.getElem?_eq_getElem hk)] at hd
      cases dpInt hd
      refine ⟨[some (.int (n : Int)), some y, some (.ref p), some (.int ((rowF rss n)[k] : Nat)), some (.int (c : Nat))], fun Q q => q, rfl, et_yes, fun _ => EvD.x (EvD.of (ev_is (ev_op (ev_var rfl) (ev_var rfl) (rv_eq rfl)) ?_) (.bl _)) rfl⟩
      rw [getD_at 0 hk]
      refine congrArg V.bl ?_
      rw [Bool.eq_iff_iff, decide_eq_true_eq, decide_eq_true_eq]
      constructor
      · intro z; have := V.int.inj z; omega
      · intro z; rw [z])
    rw [outs_all, show (msD (rowF rss n)).length = n by unfold msD; rw [List.length_map, rl]] at N1
    exact nCall (R := RRanges) (da1 N1.asD) ⟨n, _, rfl, hn.2, rfl⟩
theorem spP_N {f : Nat → List (List (Nat × Nat)) → List (List PyData)} (vs : List V) (H : Hp) (Q : VK) (E : XK) (h : spP K f vs H Q E) : spPN K f vs H Q E := by
  obtain ⟨n, rss, a, b, c, d⟩ := h
  exact ⟨n, rss, a, b, c, NewP.n d⟩
end

/-! ### by_classes -/
def outBy : Scope := { kind := .function, names := [(".0", .local), ("marks", .local), ("sorted", .globalImplicit), ("zip", .globalImplicit), ("row", .cell)], isGenerator := false, isCoroutine := false }
/-- a new set of whole numbers -/
def EvS (w : World) (te : TE) (σ : L2.St) (H : Hp) (L : List Int) : Prop := ∀ H1, Ex H H1 → ∀ Q : VK, (∀ p S c H2, H1 p = none → Ex H1 H2 → H2 p = some (SetO w p S c) → (∀ j, S j = decide (j ∈ L)) → Q (.ref p) H2) → te σ H1 Q
section
variable {K : PySem.W.Frag} {w : World} {σ : L2.St} {H : Hp}
theorem sLc {wi : TI} {g : TG} {tt : TT} {te : TE} {n : Nat} {o : Nat → PyData} {vs : List Nat} (f : Nat → Bool) (out : Nat → Int) (hn : n ≤ 4000) (hw : WkN K wi σ H n o)
    (ht : ∀ i x H', i < n → Ex H H' → Dp K H' x (o i) → ∃ σ2, (∀ Q : L2.St → Hp → Prop, Q σ2 H' → g x (wipe σ vs) H' Q) ∧ wipe σ2 vs = wipe σ vs ∧ EvT tt σ2 H' (f i) ∧ (f i = true → Ev te σ2 H' (.int (out i)))) :
    EvS w (SF.tSi w wi g tt te vs) σ H (((List.range n).filter f).map out) := fun H1 e1 Q q => hw H1 e1 _ fun J H2 e2 wk => fun D hD => by
  refine ⟨fun i m G => m = n - i ∧ i ≤ n ∧ Ex H2 G ∧ ∃ S c, G D = some (SetO w D S c) ∧ c ≤ i ∧ ∀ j, S j = decide (j ∈ ((List.range i).filter f).map out), ⟨n, by simp, Nat.zero_le _, Ex.new hD, _, 0, upd_same, Nat.le_refl _, fun j => rfl⟩, ?_⟩
  rintro i m G ⟨rfl, hi, eG, S, c, hS, hc, hm⟩
  by_cases hlt : i < n
  · refine .inr ⟨wk.goes i G hlt eG, fun G' => Ex H2 G' ∧ ∃ S c, G' D = some (SetO w D S c) ∧ c ≤ i + 1 ∧ ∀ j, S j = decide (j ∈ ((List.range (i + 1)).filter f).map out), fun G2 p => ⟨n - (i + 1), by omega, rfl, hlt, p⟩, fun x G2 y => ?_⟩
    obtain ⟨eY, dY⟩ := wk.yields i G x G2 hlt eG y
    obtain ⟨σ2, hg, hwi, hT, hE⟩ := ht i x G2 hlt (((e1.trans e2).trans eG).trans eY) dY
    refine hg _ ⟨hwi, hT G2 (Ex.refl _) _ fun G3 e3 => ?_⟩
    have e13 := eY.trans e3
    cases hf : f i with
    | true =>
      show te σ2 G3 _
      refine hE hf G3 e3 _ fun G4 e4 => ⟨out i, S, c, rfl, (e13.trans e4) D _ hS, by show c + 1 < 4096; omega, Ex.mut ((eG.trans e13).trans e4) hD, _, _, upd_same, ?_, fun j => ?_⟩
      · by_cases z : S (out i) = true
        · rw [if_pos z]; omega
        · rw [if_neg z]; omega
      · show (S j || decide (j = out i)) = _
        rw [hm j, List.range_succ, List.filter_append, List.map_append, List.filter_cons, if_pos hf, Bool.eq_iff_iff]
        simp only [Bool.or_eq_true, decide_eq_true_eq, List.mem_append, List.filter_nil, List.map_cons, List.map_nil, List.mem_singleton]
    | false =>
      show Ex H2 G3 ∧ _
      refine ⟨eG.trans e13, S, c, e13 D _ hS, by omega, fun j => ?_⟩
      rw [hm j, List.range_succ, List.filter_append, List.filter_cons, if_neg (by rw [hf]; decide), List.filter_nil, List.append_nil]
  · have e : i = n := by omega
    subst e
    exact .inl ⟨wk.stops G eG, q D S c G (fresh_back e2 hD) (e2.trans eG) hS hm⟩
theorem nSortS {te : TE} {L out : List Int} (h : EvS w te σ H L) (ho : out.Pairwise (· < ·)) (hm : ∀ k, k ∈ out ↔ k ∈ L) : EvN K (tCB (SC.rSortS w) (tCons te tNil)) σ H (out.map PyData.int) := fun H1 e Q q =>
  h H1 e _ fun p S c H2 hp e2 h2 hS => ⟨p, S, c, rfl, h2, fun ns' q' hs' hm' _ _ hq => by
    have eo : ns' = out := sortedInt hs' ho fun k => by rw [hm' k, hm k, hS k, decide_eq_true_eq]
    subst eo
    exact q q' _ _ (fresh_back e2 hq) (e2.trans (Ex.new hq)) upd_same (allOfInts _)⟩
end
section
variable {P : Program} {w : World} {K : PySem.W.Frag} {mg : Str → Option Value} {base : Heap}
theorem ok_byClsN {f f1 f2 : Addr} {fd fd1 fd2 : FuncData} {k : Nat} (F : Fun K "by_classes" "by_classes" sByClasses f fd)
    (F1 : FnOk P w K mg base CX0 (k + 2) f1 fd1 ["size", "sets"] (spN K RChecked)) (g1 : mg "checked_marks" = some (.ref f1)) (k1 : PySem.W.keepIn K (.ref f1) = true) (b1 : Binds K fd1 ["size", "sets"] [])
    (F2 : FnOk P w K mg base CX0 (k + 2) f2 fd2 ["size", "all_marks"] (spN K RRowOf)) (g2 : mg "row_of" = some (.ref f2)) (k2 : PySem.W.keepIn K (.ref f2) = true) (b2 : Binds K fd2 ["size", "all_marks"] [])
    (mz : mg "zip" = none) (mS : mg "sorted" = none) : FnOk P w K mg base CX0 (k + 3) f fd ["size", "sets"] (spPN K evD) := by
  refine F.ok scByClasses (fun vs H Q E h => ?_) (fun cdv A outer s H vs Q E hr h => ?_)
  · obtain ⟨n, rss, ha, _⟩ := h
    exact allLen ha
  · obtain ⟨n, rss, ha, hn, hs, q⟩ := h
    obtain ⟨x, y, rfl, hx, hy⟩ := all2 ha
    cases dpInt hx
    have nd := scByClasses.nd
    refine ⟨_, pss_cons (ps_set (i := 2) nd rfl (.inl rfl) (pe_call F1 hr (by rfl) g1 k1 b1 .nil pass0 (pa_cons (pv 0) (pa_cons (pv 1) pa_nil))))
      (pss_cons (ps_set (i := 3) nd rfl (.inr rfl) (pe_call F2 hr (by rfl) g2 k2 b2 .nil pass0 (pa_cons (pv 0) (pa_cons (pv 2) pa_nil))))
      (pss_one (ps_ret (pe_lc (own := [("marks", 6)]) (g := gName 6) (tt := tYes) (te := tCB (SC.rSortS w) (tCons (SF.tSi w (iZip K (tCons (tVar 3) (tCons (tVar 6) tNil))) (gTup K 2 (gCons (gName 4) (gCons (gName 5) gNil))) (tB (tVar 5)) (tVar 4) [4, 5]) tNil)) rfl nd (pi_list (pv 2)) (blkOk_by (own := [("marks", 6)]) (N := nByClasses) (sc := defScope sByClasses) (by decide +kernel))
        (fun _ _ _ _ _ => pg_name (i := 6) nd rfl (Or.inl rfl)) (fun _ _ _ _ _ => pts_nil) (fun _ _ _ _ _ => pe_callB (SC.crSortS rfl) (by rfl) mS (by decide +kernel) (pa_cons (SF.pe_si (own := [("number", 4), ("marked", 5)]) (g := gTup K 2 (gCons (gName 4) (gCons (gName 5) gNil))) (tt := tB (tVar 5)) (te := tVar 4) rfl nd (pi_zip (by rfl) mz (pa_cons (pv 3) (pa_cons (pv 6) pa_nil))) (blkOk_by (own := [("number", 4), ("marked", 5)]) (N := nByClasses) (sc := outBy) (by decide +kernel))
          (fun _ _ _ _ _ => pg_tup rfl (pgs_cons (pg_name (i := 4) nd rfl (Or.inl rfl)) (pgs_cons (pg_name (i := 5) nd rfl (Or.inl rfl)) pgs_nil))) (fun _ _ _ _ _ => pts_one (pt_val (pv 5))) (fun _ _ _ _ _ => pv 4)) pa_nil)))))), ?_⟩
    refine sAsgN (nCall (R := RChecked) (da2 (dVar rfl (.int (n : Int))) (dVar (v := y) rfl hy)) ⟨n, rss, rfl, hn.1, hn.2, by have := hs.1; omega, hs.2, rfl⟩) fun pm xm H1 hpm e1 h1 A1 => ?_
    have d1 : Dp K H1 (.ref pm) (.list (rss.map (mD n))) := .lst (sq_of h1) A1
    refine sAsgN (nCall (R := RRowOf) (da2 (dVar rfl (.int (n : Int))) (dVar (v := .ref pm) rfl d1)) ⟨n, rss, rfl, hn, by have := hs.1; omega, rfl⟩) fun p xs H2 hp e2 h2 A2 => ?_
    have d2 : Dp K H2 (.ref p) (.list (msD (rowF rss n))) := .lst (sq_of h2) A2
    have d1' := SB.mono e2 d1
    have rl := rowF_len rss n
    have ml' : (msD (rowF rss n)).length = n := by unfold msD; rw [List.length_map, rl]
    have q' := NewPN.ex (e1.trans e2) q
    have eD : evD n rss = (List.range rss.length).map fun a => msD ((List.range (UN rss n).length).filter fun c => ((UN rss n).getD c []).getD a false) := by
      unfold evD evF
      rw [List.map_map]; rfl
    show tLc (iList K (tVar 2)) (gName 6) tYes (tCB (SC.rSortS w) (tCons (SF.tSi w (iZip K (tCons (tVar 3) (tCons (tVar 6) tNil))) (gTup K 2 (gCons (gName 4) (gCons (gName 5) gNil))) (tB (tVar 5)) (tVar 4) [4, 5]) tNil)) [6] [some (.int (n : Int)), some y, some (.ref pm), some (.ref p), none, none, none] H2 Q
    refine pLcN (K := K) (fun a => msD ((List.range (UN rss n).length).filter fun c => ((UN rss n).getD c []).getD a false)) (by rw [List.length_map]; have := hs.1; omega) (wkList (ev_var (v := .ref pm) rfl) d1').asN (fun a => noLs_map (fun _ => rfl) _) (fun a v H3 ha e3 hd => ?_) (by rw [List.length_map, ← eD]; exact q')
    rw [List.length_map] at ha
    rw [getD_map (mD n) (List.getElem?_eq_getElem ha)] at hd
    refine ⟨[some (.int (n : Int)), some y, some (.ref pm), some (.ref p), none, none, some v], fun Q q => q, rfl, ?_⟩
    have hat : rss[a]? = some rss[a] := List.getElem?_eq_getElem ha
    generalize rss[a] = rs at hd hat
    have S := sLc (K := K) (w := w) (σ := [some (.int (n : Int)), some y, some (.ref pm), some (.ref p), none, none, some v]) (H := H3) (wi := iZip K (tCons (tVar 3) (tCons (tVar 6) tNil))) (g := gTup K 2 (gCons (gName 4) (gCons (gName 5) gNil))) (tt := tB (tVar 5)) (te := tVar 4) (vs := [4, 5]) (n := (msD (rowF rss n)).length) (memB rs) (fun k => ((UN rss n).idxOf (sg rss k) : Nat)) (by rw [ml']; omega) (wkZip (ev_var (v := .ref p) rfl) (SB.mono e3 d2) (ev_var (v := v) rfl) hd (by rw [ml', bls_len])).asN (fun i u H4 hi e4 hd4 => by
      rw [ml'] at hi
      have g1 : (msD (rowF rss n)).getD i .none = iD' ((UN rss n).idxOf (sg rss i)) := by unfold msD; exact getD_map iD' (rowF_at hi)
      rw [g1, getD_bls (memB rs) hi] at hd4
      refine ⟨[some (.int (n : Int)), some y, some (.ref pm), some (.ref p), some (.int ((UN rss n).idxOf (sg rss i) : Nat)), some (.bl (memB rs i)), some v], fun Q q => gPair hd4 fun y1 y2 hy1 hy2 => ?_, rfl, et_B (ev_var rfl), fun _ => ev_var rfl⟩
      cases dpInt hy1
      cases dpBool hy2
      exact q)
    rw [ml'] at S
    rw [msD_int]
    refine nSortS S (int_lt (filt_lt _ _)) fun k => ?_
    rw [mem_ints, List.mem_map]
    constructor
    · rintro ⟨c, hc, rfl⟩
      obtain ⟨k, hk, hm, e⟩ := (ev_mem hat c).mp hc
      exact ⟨k, List.mem_filter.mpr ⟨List.mem_range.mpr hk, hm⟩, by rw [e]⟩
    · rintro ⟨k, hk, rfl⟩
      obtain ⟨k1, k2⟩ := List.mem_filter.mp hk
      exact ⟨_, (ev_mem hat _).mpr ⟨k, List.mem_range.mp k1, k2, rfl⟩, rfl⟩
end

/-! ### item_text, items_text, written -/
def tD (l : List Nat) : PyData := .str (ST.mk l)
theorem strsAllT {K : PySem.W.Frag} {H : Hp} : ∀ {ss : List (List Nat)} {vs : List V}, DpAll K H vs (ss.map tD) → vs = (ss.map ST.mk).map V.str
  | [], _, h => by cases h; rfl
  | n :: ns, _, h => by
    cases h with
    | cons h1 h2 => rw [dpStr h1, strsAllT h2]; rfl
theorem joinTs {K : PySem.W.Frag} {σ : L2.St} {H : Hp} {te : TE} {r : V → List V → Hp → VK → Prop} {S : List Nat} {s : Str} {ps : List (List Nat)} (hs : s = ST.mk S) (h : EvN K te σ H (ps.map tD)) (hl : (ps.map (·.length)).sum + ps.length * S.length ≤ 100000)
    (hr : r = fun x xs H Q => ∃ a p, ∃ ys : List Str, x = .str a ∧ xs = [.ref p] ∧ (SqL K H p (ys.map V.str) ∨ SqT K H p (ys.map V.str)) ∧ (ys.map (·.length)).sum + ys.length * a.length ≤ 16777216 ∧ Q (.str (Txt.join a ys)) H) :
    Ev (tM1 r (tC (.str s)) te) σ H (.str (ST.mk (TL.joinL S ps))) := fun H1 e1 Q q => by
  subst hr hs
  refine ⟨⟨_, rfl⟩, h H1 e1 _ fun p xs H2 _ e2 h2 A2 => ?_⟩
  have hx := strsAllT A2
  subst hx
  refine ⟨_, p, ps.map ST.mk, rfl, rfl, .inl (sq_of h2), ?_, ?_⟩
  · rw [List.map_map, List.length_map, ST.mk_len]
    have : ((fun x : Str => x.length) ∘ ST.mk) = fun l : List Nat => l.length := funext fun l => ST.mk_len l
    rw [this]
    exact Nat.le_trans hl (by decide)
  · rw [ST.join_mk]; exact q H2 e2
theorem log_small {k : Nat} (h : k < 100) : ((k : Nat) : Int).natAbs.log2 < 1920 := by
  rw [Int.natAbs_natCast]
  exact Nat.lt_of_le_of_lt (Nat.log2_le_self k) (by omega)
theorem catS {σ : L2.St} {H : Hp} {ta tb : TE} {r : R2} {a b : List Nat} (ha : Ev ta σ H (.str (ST.mk a))) (hb : Ev tb σ H (.str (ST.mk b))) (hl : a.length + b.length ≤ 100000) (hr : r = fun x y H Q => ∃ i j, x = V.str i ∧ y = V.str j ∧ i.length + j.length ≤ sizeLine ∧ Q (V.str (i ++ j)) H) : Ev (tOp r ta tb) σ H (.str (ST.mk (a ++ b))) := fun H1 e Q q => by
  subst hr
  exact ha H1 e _ fun H2 e2 => hb H2 (e.trans e2) _ fun H3 e3 => ⟨_, _, rfl, rfl, by rw [ST.mk_len, ST.mk_len]; exact sz_of hl, by rw [ST.mk_app]; exact q H3 (e2.trans e3)⟩
section
variable {P : Program} {w : World} {K : PySem.W.Frag} {mg : Str → Option Value} {base : Heap}
theorem fmtI {σ : L2.St} {H : Hp} {te : TE} {k : Nat} (h : Ev te σ H (.int (k : Int))) (hk : k < 100) : Ev (tFmt te) σ H (.str (ST.mk (ST.num k))) := fun H1 e Q q => h H1 e _ fun H2 e2 => .inr ⟨(k : Int), rfl, log_small hk, by rw [ST.toStr hk]; exact q H2 e2⟩
theorem strI {σ : L2.St} {H : Hp} {te : TE} {k : Nat} {r : List V → Hp → VK → Prop} (h : Ev te σ H (.int (k : Int))) (hk : k < 100) (hr : r = fun xs H Q => ∃ i : Int, xs = [.int i] ∧ i.natAbs.log2 < 1920 ∧ Q (.str (toString i)) H) : Ev (tCB r (tCons te tNil)) σ H (.str (ST.mk (ST.num k))) := fun H1 e Q q => by
  subst hr
  exact h H1 e _ fun H2 e2 => ⟨(k : Int), rfl, log_small hk, by rw [ST.toStr hk]; exact q H2 e2⟩
theorem js3 {σ : L2.St} {H : Hp} {ta tb tc : TE} {a b c : List Nat} (ha : Ev ta σ H (.str (ST.mk a))) (hb : Ev tb σ H (.str (ST.mk b))) (hc : Ev tc σ H (.str (ST.mk c))) (hl : a.length + b.length + c.length ≤ 1000) :
    Ev (fun σ H Q => tJs [ta, tb, tc] Str.empty σ H fun out H1 => Q (.str out) H1) σ H (.str (ST.mk (a ++ b ++ c))) := fun H1 e Q q => by
  have e0 : Str.empty ++ ST.mk a = ST.mk a := ST.mk_app [] a
  refine ha H1 e _ fun H2 e2 => ⟨_, rfl, ?_, hb H2 (e.trans e2) _ fun H3 e3 => ⟨_, rfl, ?_, hc H3 ((e.trans e2).trans e3) _ fun H4 e4 => ⟨_, rfl, ?_, ?_⟩⟩⟩
  · rw [e0, ST.mk_len]; exact sz_of (by omega)
  · rw [e0, ST.mk_app, ST.mk_len, List.length_append]; exact sz_of (by omega)
  · rw [e0, ST.mk_app, ST.mk_app, ST.mk_len, List.length_append, List.length_append]; exact sz_of (by omega)
  · show Q (.str (Str.empty ++ ST.mk a ++ ST.mk b ++ ST.mk c)) H4
    rw [e0, ST.mk_app, ST.mk_app]
    exact q H4 ((e2.trans e3).trans e4)
def RItemT : List PyData → PyData → Prop := fun ds out => ∃ a b : Nat, ds = [.int (a : Int), .int (b : Int)] ∧ a ≤ b ∧ b < 100 ∧ out = tD (ST.itemT (a, b))
theorem ok_itemT {f : Addr} {fd : FuncData} {k : Nat} (F : Fun K "item_text" "item_text" sItemText f fd) (mS : mg "str" = none) : FnOk P w K mg base CX0 (k + 1) f fd ["first", "last"] (spV K RItemT) := by
  refine F.ok scItemText (fun vs H Q E h => ?_) (fun cdv A outer s H vs Q E hr h => ?_)
  · obtain ⟨ds, out, ha, ⟨a, b, rfl, _⟩, _⟩ := h
    exact allLen ha
  · obtain ⟨ds, out, ha, ⟨a, b, rfl, hab, hb, rfl⟩, q⟩ := h
    obtain ⟨x, y, rfl, hx, hy⟩ := all2 ha
    cases dpInt hx
    cases dpInt hy
    refine ⟨_, pss_cons (ps_if (pt_cmpR op_eq (pv 0) (pv 1) (nomark _)) (pss_one (ps_ret (pe_callTy call_str_int (by rfl) mS (by decide +kernel) (pa_cons (pv 0) pa_nil)))) pss_nil)
      (pss_cons (ps_if (pt_cmpR op_eq (pe_op op_add (pv 0) pe_int) (pv 1) (nomark _)) (pss_one (ps_ret (pe_joined (.cons (pe_fmt (pv 0)) (.cons pe_str (.cons (pe_fmt (pv 1)) .nil)))))) pss_nil)
      (pss_one (ps_ret (pe_joined (.cons (pe_fmt (pv 0)) (.cons pe_str (.cons (pe_fmt (pv 1)) .nil))))))), ?_⟩
    have la := ST.num_len a
    have lb := ST.num_len b
    refine s_if (b := decide (V.int (a : Int) = V.int (b : Int))) (et_test (ev_op (ev_var rfl) (ev_var rfl) (rv_eq rfl))) (fun hb1 H1 e1 => ?_) (fun hb1 H1 e1 => ?_)
    · have e : a = b := by have := V.int.inj (of_decide_eq_true hb1); omega
      refine s_ret (strI (k := a) (ev_var rfl) (by omega) rfl) fun H2 e2 => q _ H2 (e1.trans e2) ?_
      unfold tD ST.itemT
      rw [if_pos e]; exact .str _
    · have e : a ≠ b := fun z => by rw [z, decide_eq_true rfl] at hb1; cases hb1
      refine s_if (b := decide (V.int ((a : Int) + 1) = V.int (b : Int))) (et_test (ev_op (ev_op (ev_var rfl) ev_c rv_I0) (ev_var rfl) (rv_eq rfl))) (fun hb2 H2 e2 => ?_) (fun hb2 H2 e2 => ?_)
      · have e' : a + 1 = b := by have := V.int.inj (of_decide_eq_true hb2); omega
        refine s_ret (js3 (a := ST.num a) (b := [44]) (c := ST.num b) (fmtI (ev_var rfl) (by omega)) (ev_is ev_c (by rw [show PySem.Str.ofString "," = ST.mk [44] by decide +kernel])) (fmtI (ev_var rfl) hb) (by show _ + 1 + _ ≤ 1000; omega)) fun H3 e3 => q _ H3 ((e1.trans e2).trans e3) ?_
        unfold tD ST.itemT
        rw [if_neg e, if_pos e', List.append_assoc]; exact .str _
      · have e' : ¬ a + 1 = b := fun z => by
          rw [← z] at hb2
          exact absurd hb2 (by rw [decide_eq_true (show V.int ((a : Int) + 1) = V.int ((a + 1 : Nat) : Int) by rw [show ((a + 1 : Nat) : Int) = (a : Int) + 1 by omega])]; decide)
        refine s_ret (js3 (a := ST.num a) (b := [45]) (c := ST.num b) (fmtI (ev_var rfl) (by omega)) (ev_is ev_c (by rw [show PySem.Str.ofString "-" = ST.mk [45] by decide +kernel])) (fmtI (ev_var rfl) hb) (by show _ + 1 + _ ≤ 1000; omega)) fun H3 e3 => q _ H3 ((e1.trans e2).trans e3) ?_
        unfold tD ST.itemT
        rw [if_neg e, if_neg e', List.append_assoc]; exact .str _
def RItemsT : List PyData → PyData → Prop := fun ds out => ∃ (n : Nat) (m : Nat → Bool), ds = [.list (bls n m)] ∧ n ≤ 64 ∧ out = tD (ST.itemsT (told m n))
theorem told_in {m : Nat → Bool} {n : Nat} {r : Nat × Nat} (h : r ∈ told m n) : r.1 ≤ r.2 ∧ r.2 < n := by
  exact ⟨(told_sep m n).1 r h, told_below m n r h⟩
theorem ok_itemsT {f f1 f2 : Addr} {fd fd1 fd2 : FuncData} {k : Nat} (F : Fun K "items_text" "items_text" sItemsText f fd)
    (F1 : FnOk P w K mg base CX0 (k + 1) f1 fd1 ["marks"] (spN K RRanges)) (g1 : mg "ranges_of" = some (.ref f1)) (k1 : PySem.W.keepIn K (.ref f1) = true) (b1 : Binds K fd1 ["marks"] [])
    (F2 : FnOk P w K mg base CX0 (k + 1) f2 fd2 ["first", "last"] (spV K RItemT)) (g2 : mg "item_text" = some (.ref f2)) (k2 : PySem.W.keepIn K (.ref f2) = true) (b2 : Binds K fd2 ["first", "last"] []) :
    FnOk P w K mg base CX0 (k + 2) f fd ["marks"] (spV K RItemsT) := by
  refine F.ok scItemsText (fun vs H Q E h => ?_) (fun cdv A outer s H vs Q E hr h => ?_)
  · obtain ⟨ds, out, ha, ⟨n, m, rfl, _⟩, _⟩ := h
    exact allLen ha
  · obtain ⟨ds, out, ha, ⟨n, m, rfl, hn, rfl⟩, q⟩ := h
    obtain ⟨y, rfl, hy⟩ := all1 ha
    have nd := scItemsText.nd
    refine ⟨_, pss_one (ps_ret (pe_join pe_str (pe_lc (own := [("first", 1), ("last", 2)]) (g := gTup K 2 (gCons (gName 1) (gCons (gName 2) gNil))) (tt := tYes) (te := tCall (spV K RItemT) [] E0 (tCons (tVar 1) (tCons (tVar 2) tNil))) rfl nd (pi_list (pe_call F1 hr (by rfl) g1 k1 b1 .nil pass0 (pa_cons (pv 0) pa_nil))) (blkOk_by (own := [("first", 1), ("last", 2)]) (N := nItemsText) (sc := defScope sItemsText) (by decide +kernel))
      (fun _ _ _ _ _ => pg_tup rfl (pgs_cons (pg_name (i := 1) nd rfl (Or.inl rfl)) (pgs_cons (pg_name (i := 2) nd rfl (Or.inl rfl)) pgs_nil))) (fun _ _ _ _ _ => pts_nil) (fun _ _ _ _ _ => pe_call F2 hr (by rfl) g2 k2 b2 .nil pass0 (pa_cons (pv 1) (pa_cons (pv 2) pa_nil)))))), ?_⟩
    have tl := told_len m n
    have N := nLc (K := K) (σ := [some y, none, none]) (H := H) (wi := iList K (tCall (spN K RRanges) [] E0 (tCons (tVar 0) tNil))) (g := gTup K 2 (gCons (gName 1) (gCons (gName 2) gNil))) (tt := tYes) (te := tCall (spV K RItemT) [] E0 (tCons (tVar 1) (tCons (tVar 2) tNil))) (vs := [1, 2]) (fun _ => true) (fun i => tD (ST.itemT ((told m n).getD i (0, 0)))) (by rw [List.length_map]; omega) (wkNew (nCall (R := RRanges) (da1 (dVar (v := y) rfl hy)) ⟨n, m, rfl, hn, rfl⟩).asD) (fun Dl i x H3 hi e3 hd => by
      rw [List.length_map] at hi
      rw [getD_map rD (List.getElem?_eq_getElem hi)] at hd
      have hin := told_in (List.getElem_mem hi)
      rw [getD_at (0, 0) hi]
      generalize (told m n)[i] = r at hd hin
      refine ⟨[some y, some (.int (r.1 : Int)), some (.int (r.2 : Int))], fun Q q => gPair hd fun y1 y2 h1 h2 => ?_, rfl, et_yes, fun _ => EvD.x (vCall (R := RItemT) (da2 (dVar rfl (.int _)) (dVar rfl (.int _))) ⟨r.1, r.2, rfl, hin.1, by omega, rfl⟩) rfl⟩
      cases dpInt h1
      cases dpInt h2
      exact q)
    rw [outs_all, List.length_map, range_getD (fun r => tD (ST.itemT r)) (0, 0) (told m n), show (told m n).map (fun r => tD (ST.itemT r)) = ((told m n).map ST.itemT).map tD by rw [List.map_map]; rfl] at N
    refine s_ret (joinTs (S := [44]) (by decide +kernel) N ?_ rfl) fun H1 e1 => q _ H1 e1 (.str _)
    have hs : ∀ rs : List (Nat × Nat), ((rs.map ST.itemT).map (·.length)).sum ≤ rs.length * 5 := by
      intro rs
      induction rs with
      | nil => exact Nat.le_refl _
      | cons r rs ih =>
        have := ST.itemT_len r
        rw [List.map_cons, List.map_cons, List.sum_cons, List.length_cons, Nat.succ_mul]
        omega
    have := hs (told m n)
    rw [List.length_map]
    show _ + _ * 1 ≤ 100000
    omega
def RWritten : List PyData → PyData → Prop := fun ds o => ∃ (n : Nat) (rs : List (Nat × Nat)), ds = [.int (n : Int), sD rs] ∧ (1 ≤ n ∧ n ≤ 64) ∧ Good n rs ∧ o = tD (ST.wrt n (memB rs))
theorem ok_written {f f1 f2 : Addr} {fd fd1 fd2 : FuncData} {k : Nat} (F : Fun K "written" "written" sWritten f fd)
    (F1 : FnOk P w K mg base CX0 (k + 2) f1 fd1 ["size", "sets"] (spN K RChecked)) (g1 : mg "checked_marks" = some (.ref f1)) (k1 : PySem.W.keepIn K (.ref f1) = true) (b1 : Binds K fd1 ["size", "sets"] [])
    (F2 : FnOk P w K mg base CX0 (k + 2) f2 fd2 ["marks"] (spV K RItemsT)) (g2 : mg "items_text" = some (.ref f2)) (k2 : PySem.W.keepIn K (.ref f2) = true) (b2 : Binds K fd2 ["marks"] []) (ml : mg "len" = none) :
    FnOk P w K mg base CX0 (k + 3) f fd ["size", "ranges"] (spV K RWritten) := by
  refine F.ok scWritten (fun vs H Q E h => ?_) (fun cdv A outer s H vs Q E hr h => ?_)
  · obtain ⟨ds, out, ha, ⟨n, rs, rfl, _⟩, _⟩ := h
    exact allLen ha
  · obtain ⟨ds, out, ha, ⟨n, rs, rfl, hn, hg, rfl⟩, q⟩ := h
    obtain ⟨x, y, rfl, hx, hy⟩ := all2 ha
    cases dpInt hx
    have nd := scWritten.nd
    refine ⟨_, pss_cons (ps_set (i := 2) nd rfl (.inl rfl) (pe_ix ix_list (pe_call F1 hr (by rfl) g1 k1 b1 .nil pass0 (pa_cons (pv 0) (pa_cons (pe_lst (pa_cons (pv 1) pa_nil)) pa_nil))) pe_int (fun _ _ => rfl)))
      (pss_cons (ps_set (i := 3) nd rfl (.inl rfl) (pe_call F2 hr (by rfl) g2 k2 b2 .nil pass0 (pa_cons (pv 2) pa_nil)))
      (pss_cons (ps_set (i := 4) nd rfl (.inl rfl) (pe_op op_add_str pe_str (pe_call F2 hr (by rfl) g2 k2 b2 .nil pass0 (pa_cons (pe_lc (own := [("marked", 5)]) (g := gName 5) (tt := tYes) (te := tNotV (tVar 5)) rfl nd (pi_list (pv 2)) (blkOk_by (own := [("marked", 5)]) (N := nWritten) (sc := defScope sWritten) (by decide +kernel))
        (fun _ _ _ _ _ => pg_name (i := 5) nd rfl (Or.inl rfl)) (fun _ _ _ _ _ => pts_nil) (fun _ _ _ _ _ => pe_not (pv 5))) pa_nil))))
      (pss_one (ps_ret (pe_ifExp (pt_cmpR op_lt (pe_callB call_len_str (by rfl) ml PySem.boot_len (pa_cons (pv 4) pa_nil)) (pe_callB call_len_str (by rfl) ml PySem.boot_len (pa_cons (pv 3) pa_nil)) (nomark _)) (pv 4) (pv 3)))))), ?_⟩
    refine sAsgD (marks0 rfl rfl hy hn hg) fun v H1 e1 hv => ?_
    refine s_asg (evStr (vCall (R := RItemsT) (da1 (dVar (v := v) rfl hv)) ⟨n, memB rs, rfl, hn.2, rfl⟩)) fun H2 e2 => ?_
    have N := nLc (K := K) (σ := [some (.int (n : Int)), some y, some v, some (.str (ST.mk (ST.itemsT (told (memB rs) n)))), none, none]) (H := H2) (wi := iList K (tVar 2)) (g := gName 5) (tt := tYes) (te := tNotV (tVar 5)) (vs := [5]) (fun _ => true) (fun i => .bool (!memB rs i)) (by rw [bls_len]; omega) (wkList (ev_var (v := v) rfl) (SB.mono e2 hv)).asN (fun Dl i x H3 hi e3 hd => by
      rw [bls_len] at hi
      rw [getD_bls _ hi] at hd
      cases dpBool hd
      exact ⟨[some (.int (n : Int)), some y, some v, some (.str (ST.mk (ST.itemsT (told (memB rs) n)))), none, some (.bl (memB rs i))], fun Q q => q, rfl, et_yes, fun _ => (bD (ev_notV (ev_var rfl))).x rfl⟩)
    rw [outs_all, bls_len] at N
    have l1 : (ST.itemsT (told (memB rs) n)).length ≤ 384 := ST.itemsT_len (by have := told_len (memB rs) n; omega)
    have l2 : (ST.itemsT (told (fun k => !memB rs k) n)).length ≤ 384 := ST.itemsT_len (by have := told_len (fun k => !memB rs k) n; omega)
    refine s_asg (v := .str (ST.mk (94 :: ST.itemsT (told (fun k => !memB rs k) n)))) (catS (a := [94]) (b := ST.itemsT (told (fun k => !memB rs k) n)) (ev_is ev_c (by rw [show PySem.Str.ofString "^" = ST.mk [94] by decide +kernel])) (evStr (vCall (R := RItemsT) (da1 N.asD) ⟨n, fun k => !memB rs k, rfl, hn.2, rfl⟩)) (by show 1 + _ ≤ 100000; omega) rfl) fun H3 e3 => ?_
    have lenT : ∀ {σ : L2.St} {H : Hp} {j : Nat} {l : List Nat}, σ[j]? = some (some (.str (ST.mk l))) → l.length ≤ 1000 → Ev (tCB (fun xs H Q => ∃ z : Str, xs = [.str z] ∧ z.length ≤ sizeLine ∧ Q (.int z.length) H) (tCons (tVar j) tNil)) σ H (.int (l.length : Int)) := fun {σ H j l} h hl H1 e Q q => ⟨_, h, _, rfl, by rw [ST.mk_len]; exact sz_of (by omega), by rw [ST.mk_len]; exact q H1 (Ex.refl H1)⟩
    refine s_ret (v := .str (ST.mk (ST.wrt n (memB rs)))) (ev_if (b := decide (((94 :: ST.itemsT (told (fun k => !memB rs k) n)).length : Int) < ((ST.itemsT (told (memB rs) n)).length : Int))) (et_test (ev_op (lenT rfl (by rw [List.length_cons]; omega)) (lenT rfl (by omega)) rv_I0)) (fun hb => ?_) (fun hb => ?_)) fun H4 e4 => q _ H4 (((e1.trans e2).trans e3).trans e4) (.str _)
    · refine ev_is (ev_var rfl) ?_
      unfold ST.wrt
      rw [if_pos (by have := of_decide_eq_true hb; omega)]
    · refine ev_is (ev_var rfl) ?_
      unfold ST.wrt
      rw [if_neg (by have := of_decide_eq_false hb; omega)]
end

/-! ### item_range, item_ranges, read -/
def kvN (n : Nat) : List (Key × V) := (List.range n).map fun k => (Sum.inr (ST.mk (ST.num k)), V.int (k : Int))
theorem kvN_val {n : Nat} (hn : n ≤ 100) (w : List Nat) : valV (kvN n) (Sum.inr (ST.mk w)) = (ST.val n w).map fun k => V.int ((k : Nat) : Int) := by
  unfold kvN valV ST.val
  have gen : ∀ l : List Nat, ((l.map fun k => ((Sum.inr (ST.mk (ST.num k)) : Key), V.int (k : Int))).find? fun kv => decide (kv.1 = Sum.inr (ST.mk w))).map (·.2) = (l.find? fun k => ST.num k == w).map fun k => V.int ((k : Nat) : Int) := by
    intro l
    induction l with
    | nil => rfl
    | cons k l ih =>
      rw [List.map_cons, List.find?_cons, List.find?_cons]
      by_cases c : ST.num k = w
      · rw [decide_eq_true (show (Sum.inr (ST.mk (ST.num k)) : Key) = Sum.inr (ST.mk w) by rw [c]), show (ST.num k == w) = true from beq_iff_eq.mpr c]; rfl
      · rw [decide_eq_false (show ¬ (Sum.inr (ST.mk (ST.num k)) : Key) = Sum.inr (ST.mk w) from fun z => c (ST.mk_inj (Sum.inr.inj z))), show (ST.num k == w) = false from beq_eq_false_iff_ne.mpr c]
        exact ih
  exact gen _
section
variable {K : PySem.W.Frag} {σ : L2.St} {H : Hp}
theorem dNot {ty td : TE} {w : List Nat} {n : Nat} {d : Addr} (hy : Ev ty σ H (.str (ST.mk w))) (hd : Ev td σ H (.ref d)) (h : H d = some (.dK (kvN n))) (hn : n ≤ 100) : Ev (tDNotIn ty td) σ H (.bl (!(ST.val n w).isSome)) := fun H1 e Q q =>
  hy H1 e _ fun H2 e2 => hd H2 (e.trans e2) _ fun H3 e3 => by
    have g := DGet.k (k := Sum.inr (ST.mk w)) (((e.trans e2).trans e3) d _ h)
    rw [kvN_val hn] at g
    refine ⟨d, _, rfl, g, ?_⟩
    rw [Option.isSome_map]
    exact q H3 (e2.trans e3)
theorem dGetN {ty td : TE} {w : List Nat} {n k : Nat} {d : Addr} (hd : Ev td σ H (.ref d)) (hy : Ev ty σ H (.str (ST.mk w))) (h : H d = some (.dK (kvN n))) (hn : n ≤ 100) (hk : ST.val n w = some k) : Ev (tDGet td ty) σ H (.int (k : Int)) := fun H1 e Q q =>
  hd H1 e _ fun H2 e2 => hy H2 (e.trans e2) _ fun H3 e3 => by
    have g := DGet.k (k := Sum.inr (ST.mk w)) (((e.trans e2).trans e3) d _ h)
    rw [kvN_val hn, hk] at g
    exact ⟨d, _, rfl, g, q H3 (e2.trans e3)⟩
theorem truS {te : TE} {l : List Nat} {tt : TT} (h : Ev te σ H (.str (ST.mk l))) (hl : l.length ≤ 100000) (ht : tt = fun σ H Q => te σ H fun x H' => ∃ k, TruV K x H' k ∧ Q k H') : EvT tt σ H (!l.isEmpty) := fun H1 e Q q => by
  subst ht
  refine h H1 e _ fun H2 e2 => ⟨!l.isEmpty, ⟨by rw [ST.mk_len]; exact sz_of hl, ?_⟩, q H2 e2⟩
  rw [ST.mk_len]
  cases l with
  | nil => rfl
  | cons a l =>
    show true = _
    symm
    rw [bne_iff_ne]
    intro z
    rw [List.length_cons] at z
    omega
/-- {str(k): k for k in range(n)} -/
theorem dcN {wi : TI} {g : TG} {tk tv : TE} {n : Nat} {vs : List Nat} {D : Ends} {i : Nat} (hn : n ≤ 100) (hw : WkN K wi σ H n fun k => .int (k : Nat))
    (ht : ∀ k x H', k < n → Ex H H' → Dp K H' x (.int ((k : Nat) : Int)) → ∃ σ2, (∀ Q : L2.St → Hp → Prop, Q σ2 H' → g x (wipe σ vs) H' Q) ∧ wipe σ2 vs = wipe σ vs ∧ Ev tk σ2 H' (.str (ST.mk (ST.num k))) ∧ Ev tv σ2 H' (.int ((k : Nat) : Int)))
    (q : ∀ p H', H p = none → Ex H H' → H' p = some (.dK (kvN n)) → D.nx (σ.set i (some (.ref p))) H') : tAsg (tDc wi g tYes tk tv vs) (gName i) D σ H :=
  hw H (Ex.refl H) _ fun J H2 e2 w => fun Dl hD => by
  refine ⟨fun i m G => m = n - i ∧ i ≤ n ∧ Ex H2 G ∧ G Dl = some (.dK (kvN i)), ⟨n, by simp, Nat.zero_le _, Ex.new hD, upd_same⟩, ?_⟩
  rintro i m G ⟨rfl, hi, eG, hG⟩
  by_cases hlt : i < n
  · refine .inr ⟨w.goes i G hlt eG, fun G' => Ex H2 G' ∧ G' Dl = some (.dK (kvN (i + 1))), fun G2 p => ⟨n - (i + 1), by omega, rfl, hlt, p⟩, fun x G2 y => ?_⟩
    obtain ⟨eY, dY⟩ := w.yields i G x G2 hlt eG y
    obtain ⟨σ2, hg, hwi, hk, hv⟩ := ht i x G2 hlt ((e2.trans eG).trans eY) dY
    refine hg _ ⟨hwi, et_yes G2 (Ex.refl _) _ fun G3 e3 => ?_⟩
    show tk σ2 G3 _
    refine hk G3 e3 _ fun G4 e4 => hv G4 (e3.trans e4) _ fun G5 e5 => ?_
    have e15 := ((eY.trans e3).trans e4).trans e5
    refine ⟨kvN i, Sum.inr (ST.mk (ST.num i)), rfl, e15 Dl _ hG, sz_lt (by unfold kvN; rw [List.length_map, List.length_range]; omega), Ex.mut (eG.trans e15) hD, ?_⟩
    rw [upd_same, putK_new]
    · unfold kvN
      rw [List.range_succ, List.map_append]; rfl
    · rw [kvN_val (by omega)]
      cases c : ST.val i (ST.num i) with
      | none => rfl
      | some j =>
        obtain ⟨c1, c2⟩ := ST.val_some c
        have := ST.num_eq (by omega) (by omega) c2
        omega
  · have e : i = n := by omega
    subst e
    exact .inl ⟨w.stops G eG, q Dl G (fresh_back e2 hD) (e2.trans eG) hG⟩
end
theorem par_str (w : List Nat) : Txt.partition (ST.mk w) (ST.mk [45]) = (match TL.par [45] [] w with | some (a, b) => (ST.mk a, ST.mk [45], ST.mk b) | none => (ST.mk w, ST.mk [], ST.mk [])) := TL.partition_par (ST.mk w) (ST.mk [45]) (by show ([45] : List Nat) ≠ []; simp)
def spItemR (K : PySem.W.Frag) : Sp := fun vs H Q _ => ∃ (d : Addr) (n : Nat) (w : List Nat), vs = [.ref d, .str (ST.mk w)] ∧ H d = some (.dK (kvN n)) ∧ n ≤ 64 ∧ w.length ≤ 100000 ∧
  (ST.rdI n w = none → ∀ H', Ex H H' → Q .non H') ∧ (∀ r, ST.rdI n w = some r → ∀ T H', H T = none → Ex H H' → H' T = some (.tup [.int (r.1 : Int), .int (r.2 : Int)]) → Q (.ref T) H')
theorem par_len : ∀ {w acc a b : List Nat}, TL.par [45] acc w = some (a, b) → a.length + b.length ≤ acc.length + w.length
  | [], acc, a, b, h => by cases h
  | c :: r, acc, a, b, h => by
    unfold TL.par at h
    by_cases e : TL.pre [45] (c :: r) = true
    · rw [if_pos e] at h
      cases h
      rw [List.length_drop, List.length_cons]
      omega
    · rw [if_neg e] at h
      have := par_len h
      rw [List.length_append, List.length_cons, List.length_nil] at this
      rw [List.length_cons]
      omega
section
variable {P : Program} {w : World} {K : PySem.W.Frag} {mg : Str → Option Value} {base : Heap}
theorem ok_itemR {f : Addr} {fd : FuncData} {k : Nat} (F : Fun K "item_range" "item_range" sItemRange f fd) : FnOk P w K mg base CX0 (k + 1) f fd ["numbers", "item"] (spItemR K) := by
  refine F.ok scItemRange (fun vs H Q E h => ?_) (fun cdv A outer s H vs Q E hr h => ?_)
  · obtain ⟨d, n, w', rfl, _⟩ := h
    rfl
  · obtain ⟨d, n, w', rfl, hd, hn, hw, q1, q2⟩ := h
    have nd := scItemRange.nd
    have hu := hu_of hr
    refine ⟨_, pss_cons (ps_asg (pe_partition (pv 1) pe_str) (pg_tup rfl (pgs_cons (pg_name (i := 2) nd rfl (.inl rfl)) (pgs_cons (pg_name (i := 3) nd rfl (.inl rfl)) (pgs_cons (pg_name (i := 4) nd rfl (.inl rfl)) pgs_nil)))))
      (pss_cons (ps_if (pt_cmp (pc_dnotin hu (pv 2) (pv 0))) (pss_one (ps_ret pe_non)) pss_nil)
      (pss_cons (ps_if (pt_not (pt_truth (pv 3) (by intro _; rfl))) (pss_one (ps_ret (pe_tup (pa_cons (pe_dget hu (pv 0) (pv 2) (fun _ _ => rfl)) (pa_cons (pe_dget hu (pv 0) (pv 2) (fun _ _ => rfl)) pa_nil))))) pss_nil)
      (pss_cons (ps_if (PW.pt (pw_or (pt_cmp (pc_dnotin hu (pv 4) (pv 0))) (pw_or1 (pt_cmpR op_ge (pe_dget hu (pv 0) (pv 2) (fun _ _ => rfl)) (pe_dget hu (pv 0) (pv 4) (fun _ _ => rfl)) (nomark _))))) (pss_one (ps_ret pe_non)) pss_nil)
      (pss_one (ps_ret (pe_tup (pa_cons (pe_dget hu (pv 0) (pv 2) (fun _ _ => rfl)) (pa_cons (pe_dget hu (pv 0) (pv 4) (fun _ _ => rfl)) pa_nil)))))))), ?_⟩
    obtain ⟨a, c, b, hpar, hcl, hr1⟩ : ∃ a c b : List Nat, Txt.partition (ST.mk w') (ST.mk [45]) = (ST.mk a, ST.mk c, ST.mk b) ∧ (a.length ≤ 100000 ∧ c.length ≤ 1 ∧ b.length ≤ 100000) ∧
        ST.rdI n w' = (if c = [] then (ST.val n a).map fun x => (x, x) else match ST.val n a, ST.val n b with | some x, some y => if x < y then some (x, y) else none | _, _ => none) := by
      rw [par_str]
      unfold ST.rdI
      cases e : TL.par [45] [] w' with
      | none => exact ⟨w', [], [], rfl, ⟨hw, Nat.zero_le _, Nat.zero_le _⟩, by rw [if_pos rfl]⟩
      | some p =>
        obtain ⟨a, b⟩ := p
        have := par_len e
        rw [List.length_nil, Nat.zero_add] at this
        exact ⟨a, [45], b, rfl, ⟨by omega, Nat.le_refl _, by omega⟩, by first | (rw [if_neg (by simp)]; done) | (rw [if_neg (by simp)]; generalize hA : ST.val n a = A; generalize hB : ST.val n b = B; dsimp only; rw [hA, hB]; cases A <;> cases B <;> rfl)⟩
    refine ⟨.str (ST.mk w'), rfl, ⟨_, rfl⟩, ST.mk w', ST.mk [45], rfl, ?_, by decide +kernel, by rw [ST.mk_len]; exact sz_of hw, fun p hp => ?_⟩
    · rw [show PySem.Str.ofString "-" = ST.mk [45] by decide +kernel]
    rw [hpar]
    refine ⟨p, _, rfl, st_of upd_same, rfl, _, _, rfl, _, _, rfl, _, _, rfl, rfl, ?_⟩
    have e1 : Ex H (upd H p (.tup [.str (ST.mk a), .str (ST.mk c), .str (ST.mk b)])) := Ex.new hp
    show tSeq _ _ _ [some (.ref d), some (.str (ST.mk w')), some (.str (ST.mk a)), some (.str (ST.mk c)), some (.str (ST.mk b))] (upd H p (.tup [.str (ST.mk a), .str (ST.mk c), .str (ST.mk b)]))
    generalize upd H p (.tup [.str (ST.mk a), .str (ST.mk c), .str (ST.mk b)]) = H1 at e1 ⊢
    have hd1 := e1 d _ hd
    refine q_when (b := !(ST.val n a).isSome) (et_B (dNot (ev_var rfl) (ev_var rfl) hd1 (by omega))) (fun hb H2 e2 => ?_) (fun hb H2 e2 => ?_)
    · have z : ST.val n a = none := by simpa using hb
      refine s_ret ev_c fun H3 e3 => q1 ?_ H3 ((e1.trans e2).trans e3)
      rw [hr1, z]
      split <;> rfl
    · obtain ⟨x, hx⟩ : ∃ x, ST.val n a = some x := Option.isSome_iff_exists.mp (by simpa using hb)
      have hd2 := e2 d _ hd1
      have tup : ∀ {ta tb : TE} {σ : L2.St} {G : Hp} {i j : Int} {Q' : VK}, Ex H G → Ev ta σ G (.int i) → Ev tb σ G (.int j) → (∀ T H', H T = none → Ex H H' → H' T = some (.tup [.int i, .int j]) → Q' (.ref T) H') → tTup (tCons ta (tCons tb tNil)) σ G Q' := fun {ta tb σ G i j Q'} eG ha hb k =>
        (eu_tup (ea_cons ha (ea_cons hb ea_nil)) (by show 2 ≤ 100000; decide)) G (Ex.refl G) _ fun T G2 hT e2 h2 => k T G2 (fresh_back eG hT) (eG.trans e2) h2
      refine q_when (b := c.isEmpty) (et_is (et_not (truS (l := c) (ev_var rfl) (by omega) rfl)) (by rw [Bool.not_not])) (fun hc H3 e3 => ?_) (fun hc H3 e3 => ?_)
      · have hd3 := e3 d _ hd2
        have z : c = [] := List.isEmpty_iff.mp hc
        have hr2 : ST.rdI n w' = some (x, x) := by rw [hr1, if_pos z, hx]; rfl
        exact tup ((e1.trans e2).trans e3) (dGetN (ev_var rfl) (ev_var rfl) hd3 (by omega) hx) (dGetN (ev_var rfl) (ev_var rfl) hd3 (by omega) hx) (q2 _ hr2)
      · have hd3 := e3 d _ hd2
        have z : ¬ c = [] := fun z => by rw [z] at hc; cases hc
        rw [if_neg z, hx] at hr1
        cases hy : ST.val n b with
        | none =>
          rw [hy] at hr1
          refine q_when (b := true) (et_is (et_or (b := false) (et_B (dNot (ev_var rfl) (ev_var rfl) hd3 (by omega))) (fun hf => by rw [hy] at hf; cases hf)) (by rw [hy]; rfl)) (fun _ H4 e4 => s_ret ev_c fun H5 e5 => q1 hr1 H5 ((((e1.trans e2).trans e3).trans e4).trans e5)) (fun h => by cases h)
        | some y =>
          rw [hy] at hr1
          simp only at hr1
          refine q_when (b := decide ((x : Int) ≥ (y : Int))) (et_is (et_or (b := decide ((x : Int) ≥ (y : Int))) (et_B (dNot (ev_var rfl) (ev_var rfl) hd3 (by omega))) (fun _ => et_test (ev_op (dGetN (ev_var rfl) (ev_var rfl) hd3 (by omega) hx) (dGetN (ev_var rfl) (ev_var rfl) hd3 (by omega) hy) rv_I0))) (by rw [hy]; rfl)) (fun hb2 H4 e4 => ?_) (fun hb2 H4 e4 => ?_)
          · rw [if_neg (by have := of_decide_eq_true hb2; omega)] at hr1
            exact s_ret ev_c fun H5 e5 => q1 hr1 H5 ((((e1.trans e2).trans e3).trans e4).trans e5)
          · rw [if_pos (by have := of_decide_eq_false hb2; omega)] at hr1
            have hd4 := e4 d _ hd3
            exact tup (((e1.trans e2).trans e3).trans e4) (dGetN (ev_var rfl) (ev_var rfl) hd4 (by omega) hx) (dGetN (ev_var rfl) (ev_var rfl) hd4 (by omega) hy) (q2 _ hr1)
end

/-! ### item_ranges, read -/
def comb (rs : List (Nat × Nat)) : Nat ⊕ List (Nat × Nat) → Nat ⊕ List (Nat × Nat)
  | .inl q => .inl q
  | .inr rs' => .inr (rs ++ rs')
theorem comb_step {n i lo : Nat} {w : List Nat} {ws : List (List Nat)} {r : Nat × Nat} (rs : List (Nat × Nat)) (h1 : ST.rdI n w = some r) (h2 : ¬ r.1 < lo) : comb rs (ST.rdG n i lo (w :: ws)) = comb (rs ++ [r]) (ST.rdG n (i + 1) (r.2 + 1) ws) := by
  have e : ST.rdG n i lo (w :: ws) = (match ST.rdG n (i + 1) (r.2 + 1) ws with | .inl q => Sum.inl q | .inr rs => .inr (r :: rs)) := by
    show (match ST.rdI n w with | none => Sum.inl i | some r => if r.1 < lo then .inl i else match ST.rdG n (i + 1) (r.2 + 1) ws with | .inl q => .inl q | .inr rs => .inr (r :: rs)) = _
    rw [h1]
    dsimp only
    rw [if_neg h2]
  rw [e]
  cases ST.rdG n (i + 1) (r.2 + 1) ws with
  | inl q => rfl
  | inr rs' =>
    show Sum.inr (rs ++ (r :: rs')) = Sum.inr (rs ++ [r] ++ rs')
    rw [List.append_assoc]; rfl
theorem comb_bad {n i lo : Nat} {w : List Nat} {ws : List (List Nat)} (rs : List (Nat × Nat)) (h : ∀ r, ST.rdI n w = some r → r.1 < lo) : comb rs (ST.rdG n i lo (w :: ws)) = .inl i := by
  have e : ST.rdG n i lo (w :: ws) = .inl i := by
    show (match ST.rdI n w with | none => Sum.inl i | some r => if r.1 < lo then .inl i else match ST.rdG n (i + 1) (r.2 + 1) ws with | .inl q => .inl q | .inr rs => .inr (r :: rs)) = _
    cases c : ST.rdI n w with
    | none => rfl
    | some r =>
      dsimp only
      rw [if_pos (h r c)]
  rw [e]; rfl
theorem isNone {σ : L2.St} {H : Hp} {te : TE} {v : V} (h : Ev te σ H v) : Ev (tOp (fun x y H Q => y = V.non ∧ Q (.bl (decide (x = V.non))) H) te (tC .non)) σ H (.bl (decide (v = V.non))) := fun H1 e Q q => h H1 e _ fun H2 e2 => ⟨rfl, q H2 e2⟩
section
variable {P : Program} {w : World} {K : PySem.W.Frag} {mg : Str → Option Value} {base : Heap}
def RItemRs : List PyData → List PyData → Prop := fun ds out => ∃ (n : Nat) (ws : List (List Nat)) (rs : List (Nat × Nat)), ds = [.int (n : Int), .list (ws.map tD)] ∧ n ≤ 64 ∧ (∀ w ∈ ws, w.length ≤ 100000) ∧ ST.rdG n 0 0 ws = .inr rs ∧ out = rs.map rD
theorem ok_itemRs {f f1 : Addr} {fd fd1 : FuncData} {k : Nat} (F : Fun K "item_ranges" "item_ranges" sItemRanges f fd)
    (F1 : FnOk P w K mg base CX0 (k + 1) f1 fd1 ["numbers", "item"] (spItemR K)) (g1 : mg "item_range" = some (.ref f1)) (k1 : PySem.W.keepIn K (.ref f1) = true) (b1 : Binds K fd1 ["numbers", "item"] [])
    (mS : mg "str" = none) (mr : mg "range" = none) (me : mg "enumerate" = none) : FnOk P w K mg base CX0 (k + 2) f fd ["size", "items"] (spN K RItemRs) := by
  refine F.ok scItemRanges (fun vs H Q E h => ?_) (fun cdv A outer s H vs Q E hr h => ?_)
  · obtain ⟨ds, out, ha, ⟨n, ws, rs, rfl, _⟩, _⟩ := h
    exact allLen ha
  · obtain ⟨ds, out, ha, ⟨n, ws, RS, rfl, hn, hws, hrd, rfl⟩, q⟩ := h
    obtain ⟨x, y, rfl, hx, hy⟩ := all2 ha
    cases dpInt hx
    have nd := scItemRanges.nd
    refine ⟨_, pss_cons (SH.ps_setDc (i := 2) (own := [("sign", 8)]) (g := gName 8) (tt := tYes) (tk := tCB (fun xs H Q => ∃ i : Int, xs = [.int i] ∧ i.natAbs.log2 < 1920 ∧ Q (.str (toString i)) H) (tCons (tVar 8) tNil)) (tv := tVar 8) rfl nd rfl rfl (SH.swapD rfl rfl rfl (by decide +kernel)) (pi_range1 (by rfl) mr (pa_cons (pv 0) pa_nil)) (blkOk_by (own := [("sign", 8)]) (N := nItemRanges) (sc := defScope sItemRanges) (by decide +kernel))
        (fun _ _ _ _ _ => pg_name (i := 8) nd rfl (Or.inl rfl)) (fun _ _ _ _ _ => pts_nil) (fun _ _ _ _ _ => pe_callTy call_str_int (by rfl) mS (by decide +kernel) (pa_cons (pv 8) pa_nil)) (fun _ _ _ _ _ => pv 8))
      (pss_cons (ps_set (i := 3) nd rfl (.inl rfl) (pe_lst pa_nil))
      (pss_cons (ps_set (i := 4) nd rfl (.inl rfl) (pe_un un_neg pe_int))
      (pss_cons (ps_for PassesOwn.never rfl (pi_enum (by rfl) me (pa_cons (pv 1) pa_nil)) (pg_tup rfl (pgs_cons (pg_name (i := 5) nd rfl (.inl rfl)) (pgs_cons (pg_name (i := 6) nd rfl (.inl rfl)) pgs_nil)))
        (pss_cons (ps_set (i := 7) nd rfl (.inl rfl) (pe_call F1 hr (by rfl) g1 k1 b1 .nil pass0 (pa_cons (pv 2) (pa_cons (pv 6) pa_nil))))
        (pss_cons (ps_if (PW.pt (pw_or (pt_cmpR op_isN (pv 7) pe_non (nomark _)) (pw_or1 (pt_cmpR op_le (pe_ix ix_tup (pv 7) pe_int (fun _ _ => rfl)) (pv 4) (nomark _))))) (pss_one ps_never) pss_nil)
        (pss_cons (ps_expr (pe_bm PySem.F.plainAttrs_list PySem.F.slot_list_append PySem.F.type_list_append mt_append (pv 3) (pa_cons (pv 7) pa_nil)))
        (pss_one (ps_set (i := 4) nd rfl (.inl rfl) (pe_ix ix_tup (pv 7) pe_int (fun _ _ => rfl))))))))
      (pss_one (ps_ret (pv 3)))))), ?_⟩
    have hok := ST.rdG_ok hrd
    refine dcN (K := K) (n := n) (by omega) (wkRange1 (j := (n : Int)) (ea_cons (ev_var rfl) ea_nil) ⟨by omega, by omega⟩).asN (fun k v H' hk e hd => ?_) fun d0 H1 hd0 e1 h1 => ?_
    · cases dpInt hd
      exact ⟨[some (.int (n : Int)), some y, none, none, none, none, none, none, some (.int (k : Nat))], fun Q q => q, rfl, strI (ev_var rfl) (by omega) rfl, ev_var rfl⟩
    refine ⟨Nat.zero_le _, fun l hl => ⟨1, rfl, ?_⟩⟩
    have hl0 : H l = none := fresh_back e1 hl
    have e2 := e1.trans (Ex.new (o := .lst []) hl)
    have h2l : (upd H1 l (.lst [])) l = some (.lst []) := upd_same
    have h2d : (upd H1 l (.lst [])) d0 = some (.dK (kvN n)) := (Ex.new hl) d0 _ h1
    generalize upd H1 l (.lst []) = H2 at e2 h2l h2d ⊢
    refine sFor (B := H) e2 (wkEnum (ev_var (v := y) rfl) hy) (fun i σ' H' => Ex H H' ∧ H' d0 = some (.dK (kvN n)) ∧ (∃ (rs : List (Nat × Nat)) (lo : Nat) (acc : List V) (b5 b6 b7 : Option V), H' l = some (.lst acc) ∧ DpAll K (rm H' l) acc (rs.map rD) ∧ rs.length = i ∧ comb rs (ST.rdG n i lo (ws.drop i)) = .inr RS ∧ σ' = [some (.int (n : Int)), some y, some (.ref d0), some (.ref l), some (.int ((lo : Int) - 1)), b5, b6, b7, none])) (fun H3 e => ⟨e2.trans e, e d0 _ h2d, [], 0, [], none, none, none, e l _ h2l, .nil, rfl, by rw [List.drop_zero, hrd]; rfl, rfl⟩) (fun i σ' H' _ p => p.1) (fun i x σ' H' H3 hi p e hd => ?_) (fun σ' H' p => ?_)
    · obtain ⟨e0, kd, rs, lo, acc, b5, b6, b7, kl, kA, krl, kc, rfl⟩ := p
      rw [List.length_map] at hi
      rw [getD_map tD (List.getElem?_eq_getElem hi)] at hd
      rw [List.drop_eq_getElem_cons hi] at kc
      have hwl := hws ws[i] (List.getElem_mem hi)
      generalize ws[i] = w1 at hd kc hwl
      refine gPair hd fun y1 y2 hy1 hy2 => ?_
      cases dpInt hy1
      cases dpStr hy2
      obtain ⟨r, hr1, hr2⟩ : ∃ r, ST.rdI n w1 = some r ∧ ¬ r.1 < lo := Classical.byContradiction fun z => by
        rw [comb_bad rs fun r hr => Classical.byContradiction fun z2 => z ⟨r, hr, z2⟩] at kc
        cases kc
      rw [comb_step rs hr1 hr2] at kc
      refine ⟨.ref d0, rfl, .str (ST.mk w1), rfl, d0, n, w1, rfl, e d0 _ kd, hn, hwl, fun z => (by rw [hr1] at z; cases z), fun r' hr' T H4 hT e4 h4 => ?_⟩
      rw [hr1] at hr'
      cases hr'
      have e34 := e.trans e4
      have dT : Dp K H4 (.ref T) (rD r) := .tup (st_of h4) (.cons (.int _) (.cons (.int _) .nil))
      have ix : ∀ {σ : L2.St} {G : Hp} (j : Nat), σ[7]? = some (some (.ref T)) → Ex H4 G → ∀ v : Int, [PyData.int (r.1 : Int), PyData.int (r.2 : Int)][j]? = some (.int v) → Ev (tOp (rIxT K) (tVar 7) (tC (.int (j : Int)))) σ G (.int v) := fun {σ G} j hs eG v hv => evInt' (dIxT (i := (j : Int)) (dVar (v := .ref T) hs (SB.mono eG dT)) ev_c (atI_nat hv))
      refine q_when (b := false) (et_is (et_or (b := false) (et_test (isNone (ev_var (v := .ref T) rfl))) (fun _ => et_is (et_test (ev_op (ix 0 rfl (Ex.refl _) _ rfl) (ev_var rfl) rv_I0)) (decide_eq_false (by omega)))) rfl) (fun h => by cases h) (fun _ H5 e5 => ?_)
      have kl5 := (e34.trans e5) l _ kl
      refine ⟨.ref l, rfl, .inl ⟨rfl, _, sq_of kl5⟩, .ref T, rfl, l, acc, .ref T, rfl, rfl, kl5, sz_lt (by rw [allLen kA, List.length_map]; omega), ?_⟩
      have hTl : T ≠ l := Ne.symm (ne_of_none (e l _ kl) hT)
      have h5T : H5 T = some (.tup [.int (r.1 : Int), .int (r.2 : Int)]) := e5 T _ h4
      have h6T : (upd H5 l (.lst (acc ++ [.ref T]))) T = some (.tup [.int (r.1 : Int), .int (r.2 : Int)]) := by rw [upd_ne hTl]; exact h5T
      have dT6 : Dp K (upd H5 l (.lst (acc ++ [.ref T]))) (.ref T) (rD r) := .tup (st_of h6T) (.cons (.int _) (.cons (.int _) .nil))
      refine s_asg (v := .int (r.2 : Int)) (evInt' (dIxT (i := 1) (dVar (v := .ref T) rfl dT6) ev_c rfl)) fun H6 e6 => ?_
      have hld : d0 ≠ l := ne_of kd kl (by intro z; cases z)
      refine ⟨?_, ?_, rs ++ [r], r.2 + 1, acc ++ [.ref T], some (.int (i : Nat)), some (.str (ST.mk w1)), some (.ref T), e6 l _ upd_same, ?_, by rw [List.length_append, krl]; rfl, kc, ?_⟩
      · exact (Ex.mut ((e0.trans e34).trans e5) hl0).trans e6
      · exact e6 d0 _ (by rw [upd_ne hld]; exact (e34.trans e5) d0 _ kd)
      · rw [List.map_append]
        have z : DpAll K (rm (upd H5 l (.lst (acc ++ [.ref T]))) l) (acc ++ [.ref T]) (rs.map rD ++ [rD r]) := by
          rw [rmUpd]
          exact allApp (monoA (rmMono (e34.trans e5)) kA) (.cons (.tup (st_of (by rw [rmNe hTl]; exact h5T)) (.cons (.int _) (.cons (.int _) .nil))) .nil)
        exact monoA (rmMono e6) z
      · show _ = [some (.int (n : Int)), some y, some (.ref d0), some (.ref l), some (.int (((r.2 + 1 : Nat) : Int) - 1)), some (.int (i : Nat)), some (.str (ST.mk w1)), some (.ref T), none]
        rw [show ((r.2 + 1 : Nat) : Int) - 1 = (r.2 : Int) by omega]; rfl
    · obtain ⟨e0, kd, rs, lo, acc, b5, b6, b7, kl, kA, krl, kc, rfl⟩ := p
      rw [List.length_map, List.drop_length] at kc
      have z : rs = RS := by
        have := Sum.inr.inj (show (Sum.inr (rs ++ []) : Nat ⊕ List (Nat × Nat)) = Sum.inr RS from kc)
        rw [List.append_nil] at this
        exact this
      subst z
      exact ⟨.ref l, rfl, q l acc H' hl0 e0 kl (monoA rmEx kA)⟩
end

/-! ### read -/
theorem split_mk (r : List Nat) : Txt.split (ST.mk r) (ST.mk [44]) = (TL.spl [44] 0 [] r).map ST.mk := by
  refine TL.map_tl_inj ?_
  rw [TL.split_spl _ _ (by show ([44] : List Nat) ≠ []; simp) (TL.kind_ok (by decide +kernel)), List.map_map]
  show TL.spl [44] 0 [] r = _
  rw [show (TL.tl ∘ ST.mk) = id from rfl, List.map_id]
theorem spl_len1 (S : List Nat) : ∀ (l acc : List Nat) (k : Nat), ∀ p ∈ TL.spl S k acc l, p.length ≤ acc.length + l.length
  | [], acc, k, p, h => by
    rw [TL.spl_nil] at h
    rw [List.mem_singleton.mp h]; omega
  | c :: r, acc, 0, p, h => by
    unfold TL.spl at h
    by_cases e : TL.pre S (c :: r) = true
    · rw [if_pos e] at h
      rcases List.mem_cons.mp h with z | z
      · rw [z]; omega
      · have := spl_len1 S r [] _ p z
        rw [List.length_nil] at this
        rw [List.length_cons]; omega
    · rw [if_neg e] at h
      have := spl_len1 S r (acc ++ [c]) 0 p h
      rw [List.length_append, List.length_cons, List.length_nil] at this
      rw [List.length_cons]; omega
  | c :: r, acc, k + 1, p, h => by
    unfold TL.spl at h
    have := spl_len1 S r acc k p h
    rw [List.length_cons]; omega
theorem spl_cnt (S : List Nat) : ∀ (l acc : List Nat) (k : Nat), (TL.spl S k acc l).length ≤ l.length + 1
  | [], acc, k => by rw [TL.spl_nil]; exact Nat.le_refl _
  | c :: r, acc, 0 => by
    unfold TL.spl
    by_cases e : TL.pre S (c :: r) = true
    · rw [if_pos e, List.length_cons, List.length_cons]
      have := spl_cnt S r [] (S.length - 1)
      omega
    · rw [if_neg e, List.length_cons]
      have := spl_cnt S r (acc ++ [c]) 0
      omega
  | c :: r, acc, k + 1 => by
    unfold TL.spl
    have := spl_cnt S r acc k
    rw [List.length_cons]; omega
theorem sub94 (t : List Nat) : Builtin.Str.subAt (ST.mk t) (ST.mk [94]) 0 = ST.isN t := by
  rw [PySem.StrLaws.subAt_eq]
  show ((t.drop 0).take 1 == [94]) = _
  cases t with
  | nil => rfl
  | cons c r =>
    show ([c] == [94]) = _
    by_cases h : c = 94
    · subst h; rfl
    · rw [show ([c] == [94]) = false from beq_eq_false_iff_ne.mpr (fun z => h (List.cons.inj z).1)]
      unfold ST.isN
      split
      · rename_i hz
        exact absurd (List.cons.inj hz).1 h
      · rfl
theorem isN_len {t : List Nat} (h : ST.isN t = true) : 1 ≤ t.length := by
  cases t with
  | nil => cases h
  | cons c r => rw [List.length_cons]; omega
theorem starts_mk (t : List Nat) : Txt.startswith (ST.mk t) (ST.mk [94]) = ST.isN t := by
  unfold Txt.startswith
  rw [sub94, ST.mk_len, ST.mk_len]
  cases h : ST.isN t with
  | false => rw [Bool.and_false]
  | true => rw [Bool.and_true]; exact decide_eq_true (by show 0 + 1 ≤ _; have := isN_len h; omega)
theorem pref_mk (t : List Nat) : Txt.removeprefix (ST.mk t) (ST.mk [94]) = ST.mk (ST.rest t) := by
  rw [PySem.StrLaws.removeprefix_eq, sub94, ST.mk_len, ST.mk_len]
  unfold ST.rest
  cases h : ST.isN t with
  | false =>
    rw [Bool.and_false, if_neg (by decide), if_neg (by decide)]
  | true =>
    have := isN_len h
    rw [Bool.and_true, if_pos (decide_eq_true (by show 0 + 1 ≤ _; omega)), if_pos rfl]
    show ST.mk ((t.drop 1).take (t.length - 1)) = _
    rw [List.take_of_length_le (by rw [List.length_drop]; omega), List.drop_one]
theorem rest_len (t : List Nat) : (ST.rest t).length ≤ t.length := by
  unfold ST.rest
  split
  · rw [List.length_tail]; omega
  · omega
theorem allTs {K : PySem.W.Frag} {H : Hp} : ∀ ws : List (List Nat), DpAll K H ((ws.map ST.mk).map V.str) (ws.map tD)
  | [] => .nil
  | w :: ws => .cons (.str _) (allTs ws)
section
variable {K : PySem.W.Frag} {σ : L2.St} {H : Hp}
theorem nSplit {te : TE} {r : List Nat} {rr : V → List V → Hp → VK → Prop} (h : Ev te σ H (.str (ST.mk r))) (hl : r.length ≤ 90000) (hr : rr = fun x xs H Q => ∃ a b, x = .str a ∧ xs = [.str b] ∧ (b.length == 0) = false ∧ a.length + 2 ≤ sizeLine ∧ rNewStrs (Txt.split a b) H Q) :
    EvN K (tM1 rr te (tC (.str (PySem.Str.ofString ",")))) σ H ((TL.spl [44] 0 [] r).map tD) := fun H1 e Q q => by
  subst hr
  refine h H1 e _ fun H2 e2 => ⟨⟨_, rfl⟩, _, _, rfl, rfl, by decide +kernel, sz_of (by rw [ST.mk_len]; omega), fun p hp => ?_⟩
  rw [show PySem.Str.ofString "," = ST.mk [44] by decide +kernel, split_mk]
  exact q p _ _ (fresh_back e2 hp) (e2.trans (Ex.new hp)) upd_same (allTs _)
theorem nIf {t : TT} {ta tb : TE} {b : Bool} {ds : List PyData} (h : EvT t σ H b) (h1 : b = true → EvN K ta σ H ds) (h2 : b = false → EvN K tb σ H ds) : EvN K (tIf t ta tb) σ H ds := fun H1 e Q q => h H1 e _ fun H2 e2 => by
  cases b with
  | true =>
    show ta σ H2 Q
    exact h1 rfl H2 (e.trans e2) Q (q.ex e2)
  | false =>
    show tb σ H2 Q
    exact h2 rfl H2 (e.trans e2) Q (q.ex e2)
end
section
variable {P : Program} {w : World} {K : PySem.W.Frag} {mg : Str → Option Value} {base : Heap}
def rdM (t : List Nat) (rs : List (Nat × Nat)) : Nat → Bool := fun k => if ST.isN t = true then !memB rs k else memB rs k
def RRead : List PyData → List PyData → Prop := fun ds out => ∃ (n : Nat) (t : List Nat) (rs : List (Nat × Nat)), ds = [.int (n : Int), tD t] ∧ (1 ≤ n ∧ n ≤ 64) ∧ t.length ≤ 90000 ∧ ST.rdT n t = .inr rs ∧ out = (told (rdM t rs) n).map rD
theorem ok_read {f f1 f2 f3 f4 : Addr} {fd fd1 fd2 fd3 fd4 : FuncData} {k : Nat} (F : Fun K "read" "read" sRead f fd)
    (F1 : FnOk P w K mg base CX0 (k + 2) f1 fd1 ["size"] (spV K RSize)) (g1 : mg "check_size" = some (.ref f1)) (k1 : PySem.W.keepIn K (.ref f1) = true) (b1 : Binds K fd1 ["size"] [])
    (F2 : FnOk P w K mg base CX0 (k + 2) f2 fd2 ["size", "items"] (spN K RItemRs)) (g2 : mg "item_ranges" = some (.ref f2)) (k2 : PySem.W.keepIn K (.ref f2) = true) (b2 : Binds K fd2 ["size", "items"] [])
    (F3 : FnOk P w K mg base CX0 (k + 2) f3 fd3 ["size", "ranges"] (spN K RMarks)) (g3 : mg "marks_of" = some (.ref f3)) (k3 : PySem.W.keepIn K (.ref f3) = true) (b3 : Binds K fd3 ["size", "ranges"] [])
    (F4 : FnOk P w K mg base CX0 (k + 2) f4 fd4 ["marks"] (spN K RRanges)) (g4 : mg "ranges_of" = some (.ref f4)) (k4 : PySem.W.keepIn K (.ref f4) = true) (b4 : Binds K fd4 ["marks"] []) :
    FnOk P w K mg base CX0 (k + 3) f fd ["size", "text"] (spN K RRead) := by
  refine F.ok scRead (fun vs H Q E h => ?_) (fun cdv A outer s H vs Q E hr h => ?_)
  · obtain ⟨ds, out, ha, ⟨n, t, rs, rfl, _⟩, _⟩ := h
    exact allLen ha
  · obtain ⟨ds, out, ha, ⟨n, t, rs, rfl, hn, hl, hrd, rfl⟩, q⟩ := h
    obtain ⟨x, y, rfl, hx, hy⟩ := all2 ha
    cases dpInt hx
    cases dpStr hy
    have nd := scRead.nd
    refine ⟨_, pss_cons (ps_expr (pe_call F1 hr (by rfl) g1 k1 b1 .nil pass0 (pa_cons (pv 0) pa_nil)))
      (pss_cons (ps_set (i := 2) nd rfl (.inl rfl) (pe_bm PySem.F.plainAttrs_str PySem.F.slot_str_removeprefix PySem.F.type_str_removeprefix mt_removeprefix (pv 1) (pa_cons pe_str pa_nil)))
      (pss_cons (ps_set (i := 3) nd rfl (.inl rfl) (pe_ifExp (pt_truth (pv 2) (by intro _; rfl)) (pe_split (pv 2) pe_str) (pe_lst pa_nil)))
      (pss_cons (ps_set (i := 4) nd rfl (.inl rfl) (pe_call F3 hr (by rfl) g3 k3 b3 .nil pass0 (pa_cons (pv 0) (pa_cons (pe_call F2 hr (by rfl) g2 k2 b2 .nil pass0 (pa_cons (pv 0) (pa_cons (pv 3) pa_nil))) pa_nil))))
      (pss_cons (ps_if (pt_val (pe_m1 PySem.F.slot_str_startswith PySem.F.type_str_startswith mt_startswith (pv 1) pe_str)) (pss_one (ps_setLc (i := 4) (own := [("marked", 5)]) (g := gName 5) (tt := tYes) (te := tNotV (tVar 5)) rfl nd rfl rfl (sw_true rfl rfl rfl (by decide +kernel)) (pi_list (pv 4)) (blkOk_by (own := [("marked", 5)]) (N := nRead) (sc := defScope sRead) (by decide +kernel))
        (fun _ _ _ _ _ => pg_name (i := 5) nd rfl (Or.inl rfl)) (fun _ _ _ _ _ => pts_nil) (fun _ _ _ _ _ => pe_not (pv 5)))) pss_nil)
      (pss_one (ps_ret (pe_call F4 hr (by rfl) g4 k4 b4 .nil pass0 (pa_cons (pv 4) pa_nil)))))))), ?_⟩
    have rl := rest_len t
    have hok := ST.rdG_ok hrd
    have hc94 : PySem.Str.ofString "^" = ST.mk [94] := by decide +kernel
    refine sDropD (vCall (K := K) (da1 (dVar rfl (.int (n : Int)))) ⟨n, rfl, hn.1, hn.2, rfl⟩) fun H1 e1 => ?_
    refine ⟨.str (ST.mk t), rfl, rfl, _, _, rfl, rfl, by rw [ST.mk_len]; exact sz_of (by omega), ?_⟩
    rw [hc94, pref_mk]
    have itemsE : EvN K (tIf (fun σ H Q => tVar 2 σ H fun x H' => ∃ k, TruV K x H' k ∧ Q k H') (tM1 (fun x xs H Q => ∃ a b, x = .str a ∧ xs = [.str b] ∧ (b.length == 0) = false ∧ a.length + 2 ≤ sizeLine ∧ rNewStrs (Txt.split a b) H Q) (tVar 2) (tC (.str (PySem.Str.ofString ",")))) (tLst tNil)) [some (.int (n : Int)), some (.str (ST.mk t)), some (.str (ST.mk (ST.rest t))), none, none, none] H1 ((ST.itm t).map tD) := by
      refine nIf (truS (l := ST.rest t) (ev_var rfl) (by omega) rfl) (fun hb => ?_) (fun hb => ?_)
      · have z : ¬ ST.rest t = [] := fun z => by rw [z] at hb; cases hb
        unfold ST.itm
        rw [if_neg z]
        exact nSplit (ev_var rfl) (by omega) rfl
      · have z : ST.rest t = [] := List.isEmpty_iff.mp (by simpa using hb)
        unfold ST.itm
        rw [if_pos z]
        exact nLst daNil (Nat.zero_le _)
    refine sAsgN itemsE fun pi xi H2 hpi e2 h2 A2 => ?_
    have hws : ∀ w ∈ ST.itm t, w.length ≤ 100000 := fun w hw => by
      unfold ST.itm at hw
      by_cases z : ST.rest t = []
      · rw [if_pos z] at hw; simp at hw
      · rw [if_neg z] at hw
        have := spl_len1 [44] (ST.rest t) [] 0 w hw
        rw [List.length_nil] at this
        omega
    refine sAsgN (nCall (R := RMarks) (da2 (dVar rfl (.int (n : Int))) (nCall (R := RItemRs) (da2 (dVar rfl (.int (n : Int))) (dVar (v := .ref pi) rfl (.lst (sq_of h2) A2))) ⟨n, ST.itm t, rs, rfl, hn.2, hws, hrd, rfl⟩).asD) ⟨n, rs, rfl, hn.2, fun r hr => ⟨(hok.1 r hr).1, (hok.1 r hr).2.1⟩, rfl⟩) fun pm xm H3 hpm e3 h3 A3 => ?_
    have d3 : Dp K H3 (.ref pm) (.list (bls n (memB rs))) := .lst (sq_of h3) A3
    have E3 := (e1.trans e2).trans e3
    have SW : Ev (tM1 (fun x xs H Q => ∃ a b, x = V.str a ∧ xs = [V.str b] ∧ Q (V.bl (Txt.startswith a b)) H) (tVar 1) (tC (V.str (ST.mk [94])))) [some (.int (n : Int)), some (.str (ST.mk t)), some (.str (ST.mk (ST.rest t))), some (.ref pi), some (.ref pm), none] H3 (.bl (ST.isN t)) := fun G eG Q' q' => ⟨.str (ST.mk t), rfl, ⟨_, rfl⟩, _, _, rfl, rfl, by rw [starts_mk]; exact q' G (Ex.refl G)⟩
    refine q_when (b := ST.isN t) (et_B SW) (fun hb H4 e4 => ?_) (fun hb H4 e4 => ?_)
    · have N := nLc (K := K) (σ := [some (.int (n : Int)), some (.str (ST.mk t)), some (.str (ST.mk (ST.rest t))), some (.ref pi), some (.ref pm), none]) (H := H4) (wi := iList K (tVar 4)) (g := gName 5) (tt := tYes) (te := tNotV (tVar 5)) (vs := [5]) (fun _ => true) (fun i => .bool (!memB rs i)) (by rw [bls_len]; omega) (wkList (ev_var (v := .ref pm) rfl) (SB.mono e4 d3)).asN (fun Dl i x H5 hi e5 hd => by
        rw [bls_len] at hi
        rw [getD_bls _ hi] at hd
        cases dpBool hd
        exact ⟨[some (.int (n : Int)), some (.str (ST.mk t)), some (.str (ST.mk (ST.rest t))), some (.ref pi), some (.ref pm), some (.bl (memB rs i))], fun Q q => q, rfl, et_yes, fun _ => (bD (ev_notV (ev_var rfl))).x rfl⟩)
      rw [outs_all, bls_len] at N
      refine sAsgN N fun p2 x2 H5 hp2 e5 h5 A5 => ?_
      refine sRetN (nCall (R := RRanges) (da1 (dVar (v := .ref p2) rfl (.lst (sq_of h5) A5))) ⟨n, fun k => !memB rs k, rfl, hn.2, ?_⟩) (q.ex ((E3.trans e4).trans e5))
      refine congrArg (List.map rD) (told_congr n fun k _ => ?_)
      unfold rdM
      rw [if_pos hb]
    · refine sRetN (nCall (R := RRanges) (da1 (dVar (v := .ref pm) rfl (SB.mono e4 d3))) ⟨n, memB rs, rfl, hn.2, ?_⟩) (q.ex (E3.trans e4))
      refine congrArg (List.map rD) (told_congr n fun k _ => ?_)
      unfold rdM
      rw [if_neg (by rw [hb]; decide)]
end

/-! ### refusals of k01: what is raised -/
abbrev Ref := Addr × Option (List (Str × V))
section
variable {P : Program} {w : World} {K : PySem.W.Frag} {mg : Str → Option Value} {base : Heap}
/-- a value, or a refusal -/
def spVX (K : PySem.W.Frag) (R : List PyData → Ref ⊕ PyData → Prop) : Sp := fun vs H Q E => ∃ ds r, DpAll K H vs ds ∧ R ds r ∧ (∀ out, r = .inr out → ∀ v H', Ex H H' → Dp K H' v out → Q v H') ∧ (∀ c : Ref, r = .inl c → ∀ d H', Ex H H' → SY.XOut c.2 d H' → E (.ref c.1) d H')
/-- a new list, or a refusal -/
def spNX (K : PySem.W.Frag) (R : List PyData → Ref ⊕ List PyData → Prop) : Sp := fun vs H Q E => ∃ ds r, DpAll K H vs ds ∧ R ds r ∧ (∀ out, r = .inr out → NewL K H Q out) ∧ (∀ c : Ref, r = .inl c → ∀ d H', Ex H H' → SY.XOut c.2 d H' → E (.ref c.1) d H')
/-- a refusal -/
def spEX (K : PySem.W.Frag) (R : List PyData → Ref → Prop) : Sp := fun vs H Q E => ∃ (ds : List PyData) (c : Ref), DpAll K H vs ds ∧ R ds c ∧ ∀ d H', Ex H H' → SY.XOut c.2 d H' → E (.ref c.1) d H'
/-- a class without an own __init__ -/
structure OwnX (K : PySem.W.Frag) (mg : Str → Option Value) (x : Str) (C : Addr) : Prop where
  xP : PySem.W.excIn K C [.type "ValueError", .type "Exception", .type "BaseException", .type "object"] "ValueError.__new__" = true
  gP : mg x = some (.ref C)
  kP : PySem.W.keepIn K (.ref C) = true
  bP : PySem.W.subIn K (.ref C) (.type "BaseException") = some true
  tP : PySem.W.typeIn K (.ref C) = some (.type "type")
/-! ### check_size -/
def RSizeX (CZ : Addr) : List PyData → Ref ⊕ PyData → Prop := fun ds r => ∃ z : Int, ds = [.int z] ∧ ((1 ≤ z ∧ z ≤ 64 ∧ r = .inr .none) ∨ (¬ (1 ≤ z ∧ z ≤ 64) ∧ r = .inl (CZ, none)))
theorem ok_sizeX {f CZ : Addr} {fd : FuncData} {k : Nat} {t : Tok} (F : Fun K "check_size" "check_size" sCheckSize f fd) (g64 : mg "MOST_SIGNS" = some (.int 64 t)) (Z : OwnX K mg "BadSize" CZ) : FnOk P w K mg base (L2N.CX P w) (k + 1) f fd ["size"] (spVX K (RSizeX CZ)) := by
  refine SY.okN F scCheckSize (fun vs H Q E h => ?_) (fun cdv A outer s H vs Q E hr h => ?_)
  · obtain ⟨ds, r, ha, ⟨z, rfl, _⟩, _⟩ := h
    exact allLen ha
  · obtain ⟨ds, r, ha, ⟨z, rfl, hz⟩, q, qx⟩ := h
    obtain ⟨x, rfl, hx⟩ := all1 ha
    cases dpInt hx
    refine ⟨_, pss_one (ps_if (pt_not (pt_chain op_le op_le pe_int (pv 0) (pe_glob (v := .int 64) rfl g64 ⟨_, rfl⟩))) (pss_one (L2N.ps_raise rfl (L2N.takes_of rfl rfl rfl rfl) (L2N.pmk_own PySem.F.excBase_ValueError Z.xP Z.gP Z.kP (raises_own Z.bP Z.tP) rfl))) pss_nil), ?_⟩
    have T : EvT (tNot (tTest (tChain (rI0 fun a b => .bl (decide (a ≤ b))) (rI0 fun a b => .bl (decide (a ≤ b))) (tC (.int 1)) (tVar 0) (tC (.int 64))))) [some (.int z)] H (!(decide (1 ≤ z) && decide (z ≤ 64))) := et_not (et_test (ev_chain2 (f := fun a b => decide (a ≤ b)) (f' := fun a b => decide (a ≤ b)) ev_c (ev_var rfl) ev_c))
    rcases hz with ⟨h1, h2, rfl⟩ | ⟨h1, rfl⟩
    · refine s_if (b := false) (et_is T ?_) (fun z => nomatch z) (fun _ H1 e => q _ rfl _ H1 e .non)
      rw [decide_eq_true h1, decide_eq_true h2]; rfl
    · refine s_if (b := true) (et_is T ?_) (fun _ H1 e => qx _ rfl none H1 e rfl) (fun z => nomatch z)
      by_cases c : (1 : Int) ≤ z
      · rw [decide_eq_true c, decide_eq_false (fun c2 => h1 ⟨c, c2⟩)]; rfl
      · rw [decide_eq_false c]; rfl
/-! ### check_number -/
def RNumX (CN : Addr) : List PyData → Ref → Prop := fun ds c => ∃ (n z : Int), ds = [.int n, .int z] ∧ ¬ (0 ≤ z ∧ z < n) ∧ c = (CN, none)
theorem ok_numX {f CN : Addr} {fd : FuncData} {k : Nat} (F : Fun K "check_number" "check_number" sCheckNumber f fd) (Z : OwnX K mg "BadNumber" CN) : FnOk P w K mg base (L2N.CX P w) (k + 1) f fd ["size", "number"] (spEX K (RNumX CN)) := by
  refine SY.okN F scCheckNumber (fun vs H Q E h => ?_) (fun cdv A outer s H vs Q E hr h => ?_)
  · obtain ⟨ds, c, ha, ⟨n, z, rfl, _⟩, _⟩ := h
    exact allLen ha
  · obtain ⟨ds, c, ha, ⟨n, z, rfl, hz, rfl⟩, qx⟩ := h
    obtain ⟨x, y, rfl, hx, hy⟩ := all2 ha
    cases dpInt hx
    cases dpInt hy
    refine ⟨_, pss_one (ps_if (pt_not (pt_chain op_le op_lt pe_int (pv 1) (pv 0))) (pss_one (L2N.ps_raise rfl (L2N.takes_of rfl rfl rfl rfl) (L2N.pmk_own PySem.F.excBase_ValueError Z.xP Z.gP Z.kP (raises_own Z.bP Z.tP) rfl))) pss_nil), ?_⟩
    refine s_if (b := true) (et_is (et_not (et_test (ev_chain2 (f := fun a b => decide (a ≤ b)) (f' := fun a b => decide (a < b)) ev_c (ev_var rfl) (ev_var rfl)))) ?_) (fun _ H1 e => qx none H1 e rfl) (fun z => nomatch z)
    by_cases c : (0 : Int) ≤ z
    · rw [decide_eq_true c, decide_eq_false (fun c2 => hz ⟨c, c2⟩)]; rfl
    · rw [decide_eq_false c]; rfl
end
/-! ### BadSet's __init__ -/
def clsM (c : Stmt) : Stmt := match c with
  | .ClassDef _ _ _ (b :: _) _ _ _ _ _ _ _ => b
  | _ => .Pass ⟨0, 0, 0, 0⟩
abbrev mBadSet : Stmt := clsM (topS 3)
abbrev nBadSet : List Str := ["self", "number", "at", "__class__"]
theorem nsBadSet : NdefX.NScope nBadSet ["self", "number", "at"] ["__class__"] (defScope mBadSet) := ⟨rfl, rfl, rfl, by decide +kernel, rfl, by decide +kernel, by decide +kernel, by decide +kernel, by decide +kernel⟩
section
variable {P : Program} {w : World} {K : PySem.W.Frag} {mg : Str → Option Value} {base : Heap} {CX : CXT}
def fsBS (i j : Nat) : List (Str × V) := [("at", .int (j : Int)), ("number", .int (i : Int))]
def spBS (C : Addr) : Sp := fun vs H Q _ => ∃ (a : Addr) (i j : Nat), vs = [.ref a, .int (i : Int), .int (j : Int)] ∧ i < 100 ∧ j < 100 ∧ H a = some (exo a C none) ∧
  ∀ dx, H dx = none → dx ≠ a → Q .non (upd (upd (upd H dx (exd dx [("number", .int (i : Int))])) a (exo a C (some dx))) dx (exd dx (fsBS i j)))
theorem ok_bset {k : Nat} {f C cc cda : Addr} {kV doc pm ct oc : Value} {an od : Option Addr} {osl : Array (Option Value)} {ccl : Value} {cdd : Option Addr} {ccs : Array (Option Value)} {vs0 : Array Value} {file : Str} {tf : Tok}
    (lk : K.lookup f = some ⟨oc, od, .func (PySem.W.ksFn "__init__" "BadSet.__init__" (defArgs mBadSet) (defBody mBadSet) (defScope mBadSet) .none kV doc pm an (.ref cda) ct cc), osl⟩) (hcd : PySem.W.codeIn K (.ref cda) "BadSet.__init__" = true)
    (Z : SW.SupC K C cc) (hcode : K.lookup cda = some ⟨ccl, cdd, .fields vs0, ccs⟩) (hvs : vs0[2]? = some (.str file tf)) (hfile : ((P.main.file : Str) == file) = true)
    (hsup : mg "super" = none) (htop : (P.main.scope.names.lookup ("super" : Str)).isSome = false) (hn1 : PySem.W.findIn K (.ref C) "number" = some none) (hn2 : PySem.W.findIn K (.ref C) "at" = some none) :
    FnOk P w K mg base CX (k + 1) f (PySem.W.ksFn "__init__" "BadSet.__init__" (defArgs mBadSet) (defBody mBadSet) (defScope mBadSet) .none kV doc pm an (.ref cda) ct cc) ["self", "number", "at"] (spBS C) := by
  refine SW.fn_super (N := nBadSet) lk hcd nsBadSet Z hcode hvs hfile hsup htop (by decide +kernel) rfl rfl (fun vs H Q E h => ?_) (fun A outer s H vs Q E h => ?_)
  · obtain ⟨a, i, j, rfl, _⟩ := h
    rfl
  · obtain ⟨a, i, j, rfl, hi, hj, ha, q⟩ := h
    have nd := nsBadSet.nd
    refine ⟨a, _, _, rfl, ha, pe_joined (.cons pe_str (.cons (pe_fmt (pe_var (i := 1) rfl (.inl rfl))) (.cons pe_str (.cons (pe_fmt (pe_var (i := 2) rfl (.inl rfl))) (.cons pe_str .nil))))), pss_cons (ps_ost (pe_var (i := 0) rfl (.inl rfl)) (pe_var (i := 1) rfl (.inl rfl))) (pss_one (ps_ost (pe_var (i := 0) rfl (.inl rfl)) (pe_var (i := 2) rfl (.inl rfl)))), ?_⟩
    have n1 : (PySem.Str.ofString (toString (i : Int))).length ≤ 2 := by rw [ST.toStr hi, ST.mk_len]; exact (ST.num_len i).1
    have n2 : (PySem.Str.ofString (toString (j : Int))).length ≤ 2 := by rw [ST.toStr hj, ST.mk_len]; exact (ST.num_len j).1
    have l1 : (Str.empty ++ PySem.Str.ofString "set ").length ≤ 10 := by decide +kernel
    have l2 : (Str.empty ++ PySem.Str.ofString "set " ++ PySem.Str.ofString (toString (i : Int))).length ≤ 12 := by rw [PySem.Str.length_append]; omega
    have l3 : (PySem.Str.ofString " cannot be, from its range ").length ≤ 50 := by decide +kernel
    have l4 : (Str.empty ++ PySem.Str.ofString "set " ++ PySem.Str.ofString (toString (i : Int)) ++ PySem.Str.ofString " cannot be, from its range ").length ≤ 62 := by rw [PySem.Str.length_append]; omega
    have l5 : (Str.empty ++ PySem.Str.ofString "set " ++ PySem.Str.ofString (toString (i : Int)) ++ PySem.Str.ofString " cannot be, from its range " ++ PySem.Str.ofString (toString (j : Int))).length ≤ 64 := by rw [PySem.Str.length_append]; omega
    have l6 : (PySem.Str.ofString " on").length ≤ 10 := by decide +kernel
    refine ⟨_, rfl, sz_of (by omega), .int (i : Int), rfl, .inr ⟨(i : Int), rfl, log_small hi, _, rfl, sz_of (by omega), _, rfl, sz_of (by omega), .int (j : Int), rfl, .inr ⟨(j : Int), rfl, log_small hj, _, rfl, sz_of (by omega), _, rfl, sz_of (by rw [PySem.Str.length_append]; omega), ha, .int (i : Int), rfl, .ref a, rfl, a, C, rfl, Z.T, hn1, .inl ⟨ha, fun dx h1 h2 => ?_⟩⟩⟩⟩
    exact ⟨.int (j : Int), rfl, .ref a, rfl, a, C, rfl, Z.T, hn2, .inr ⟨dx, [("number", .int (i : Int))], upd_same, by rw [upd_ne h2, upd_same], by show 1 ≤ 900; decide, q dx h1 h2⟩⟩
end

/-! ### sets that may be bad -/
def rI (r : Int × Int) : PyData := .tuple [.int r.1, .int r.2]
def sI (rs : List (Int × Int)) : PyData := .list (rs.map rI)
def toI (r : Nat × Nat) : Int × Int := ((r.1 : Int), (r.2 : Int))
theorem sI_sD (rs : List (Nat × Nat)) : sI (rs.map toI) = sD rs := by
  unfold sI sD
  rw [List.map_map]; rfl
def okR (n : Int) (i : Nat) (r : Int × Int) : Bool := !decide (V.int (i : Int) = V.int 40) && (decide (0 ≤ r.1) && decide (r.1 ≤ r.2) && decide (r.2 < n))
/-- the first range that cannot be -/
def badA (n : Int) : Nat → List (Int × Int) → Option Nat
  | _, [] => none
  | i, r :: rs => if okR n i r = true then badA n (i + 1) rs else some i
/-- the first set that cannot be, its first bad range -/
def badS (n : Int) : Nat → List (List (Int × Int)) → Option (Nat × Nat)
  | _, [] => none
  | j, s :: ss => match badA n 0 s with
    | some a => some (j, a)
    | none => badS n (j + 1) ss
theorem badS_no {n : Int} {j : Nat} {s : List (Int × Int)} {ss : List (List (Int × Int))} (h : badA n 0 s = none) : badS n j (s :: ss) = badS n (j + 1) ss := by
  show (match badA n 0 s with | some a => some (j, a) | none => badS n (j + 1) ss) = _
  rw [h]
theorem badS_yes {n : Int} {j a : Nat} {s : List (Int × Int)} {ss : List (List (Int × Int))} (h : badA n 0 s = some a) : badS n j (s :: ss) = some (j, a) := by
  show (match badA n 0 s with | some a => some (j, a) | none => badS n (j + 1) ss) = _
  rw [h]
theorem badA_good {n : Nat} : ∀ {rs : List (Nat × Nat)} (i : Nat), (∀ r ∈ rs, r.1 ≤ r.2 ∧ r.2 < n) → i + rs.length ≤ 40 → badA (n : Int) i (rs.map toI) = none
  | [], _, _, _ => rfl
  | r :: rs, i, h, hl => by
    have g := h r List.mem_cons_self
    rw [List.length_cons] at hl
    show (if okR (n : Int) i (toI r) = true then badA (n : Int) (i + 1) (rs.map toI) else some i) = none
    rw [if_pos]
    · exact badA_good (i + 1) (fun q hq => h q (List.mem_cons_of_mem _ hq)) (by omega)
    · unfold okR toI
      rw [decide_eq_false (fun z => by have := V.int.inj z; omega), decide_eq_true (show (0 : Int) ≤ (r.1 : Int) by omega), decide_eq_true (show (r.1 : Int) ≤ (r.2 : Int) by omega), decide_eq_true (show (r.2 : Int) < (n : Int) by omega)]; rfl
theorem badS_good {n : Nat} : ∀ {rss : List (List (Nat × Nat))} (j : Nat), (∀ rs ∈ rss, Good n rs) → badS (n : Int) j (rss.map (·.map toI)) = none
  | [], _, _ => rfl
  | rs :: rss, j, h => by
    have g := h rs List.mem_cons_self
    rw [List.map_cons]
    unfold badS
    rw [badA_good 0 g.ok (by have := g.len; omega)]
    exact badS_good (j + 1) fun q hq => h q (List.mem_cons_of_mem _ hq)
section
variable {P : Program} {w : World} {K : PySem.W.Frag} {mg : Str → Option Value} {base : Heap}
def RSetX (CB : Addr) : List PyData → Ref ⊕ PyData → Prop := fun ds r => ∃ (n : Int) (bs : List (Int × Int)) (num : Nat), ds = [.int n, sI bs, .int (num : Int)] ∧ bs.length ≤ 90 ∧ num < 100 ∧ r = (match badA n 0 bs with | none => .inr .none | some a => .inl (CB, some (fsBS num a)))
theorem ok_setX {f fI CB : Addr} {fd fdI : FuncData} {k : Nat} {t : Tok} (F : Fun K "check_set" "check_set" sCheckSet f fd) (g40 : mg "MOST_RANGES" = some (.int 40 t)) (me : mg "enumerate" = none)
    (FI : FnOk P w K mg base CX0 k fI fdI ["self", "number", "at"] (spBS CB)) (bI : Binds K fdI ["self", "number", "at"] []) (T : OexC K CB) (iC : PySem.W.findIn K (.ref CB) "__init__" = some (some (.ref fI))) (tI : PySem.W.typeIn K (.ref fI) = some (.type "function")) (gC : mg "BadSet" = some (.ref CB)) :
    FnOk P w K mg base (L2N.CX P w) (k + 2) f fd ["size", "ranges", "number"] (spVX K (RSetX CB)) := by
  refine SY.okN F scCheckSet (fun vs H Q E h => ?_) (fun cdv A outer s H vs Q E hr h => ?_)
  · obtain ⟨ds, r, ha, ⟨n, bs, num, rfl, _⟩, _⟩ := h
    exact allLen ha
  · obtain ⟨ds, r, ha, ⟨n, bs, num, rfl, hbl, hnum, rfl⟩, q, qx⟩ := h
    obtain ⟨x, y, z, rfl, hx, hy, hz⟩ := all3 ha
    cases dpInt hx
    cases dpInt hz
    have nd := scCheckSet.nd
    refine ⟨_, pss_one (ps_for (passes_of rfl) rfl (pi_enum (by rfl) me (pa_cons (pv 1) pa_nil))
      (pg_tup rfl (pgs_cons (pg_name (i := 3) nd rfl (.inl rfl)) (pgs_cons (pg_tup rfl (pgs_cons (pg_name (i := 4) nd rfl (.inl rfl)) (pgs_cons (pg_name (i := 5) nd rfl (.inl rfl)) pgs_nil))) pgs_nil)))
      (pss_one (ps_if (PW.pt (pw_or (pt_cmpR op_eq (pv 3) (pe_glob (v := .int 40) rfl g40 ⟨_, rfl⟩) (nomark _)) (pw_or1 (pt_not (pt_chain3 op_le op_le op_lt pe_int (pv 4) (pv 5) (pv 0))))))
        (pss_one (L2N.ps_raise rfl (L2N.takes_of rfl rfl rfl rfl) (SY.pmkN_oex T iC tI FI hr bI pass0 rfl gC (pa_cons (pv 2) (pa_cons (pv 3) pa_nil))))) pss_nil))), ?_⟩
    refine sFor (B := H) (Ex.refl H) (wkEnum (ev_var (v := y) rfl) hy) (fun i σ' H' => Ex H H' ∧ badA n i (bs.drop i) = badA n 0 bs ∧ ∃ a b c, σ' = [some (.int n), some y, some (.int (num : Int)), a, b, c]) (fun H2 e => ⟨e, rfl, none, none, none, rfl⟩) (fun i σ' H' _ p => p.1) (fun i x σ' H' H'' hi p e hd => ?_) (fun σ' H' p => ?_)
    · obtain ⟨e0, hb, a, b, c, rfl⟩ := p
      rw [List.length_map] at hi
      rw [getD_map rI (List.getElem?_eq_getElem hi)] at hd
      rw [List.drop_eq_getElem_cons hi] at hb
      generalize bs[i] = r at hd hb
      obtain ⟨T1, xs, rfl, hs, hA⟩ := dpTuple hd
      obtain ⟨u1, u2, rfl, hu1, hu2⟩ := all2 hA
      cases dpInt hu1
      obtain ⟨T2, xs2, rfl, hs2, hA2⟩ := dpTuple hu2
      obtain ⟨v1, v2, rfl, hv1, hv2⟩ := all2 hA2
      cases dpInt hv1
      cases dpInt hv2
      refine ⟨T1, _, rfl, hs, rfl, _, _, rfl, _, _, rfl, ⟨T2, _, rfl, hs2, rfl, _, _, rfl, _, _, rfl, rfl, ?_⟩⟩
      refine ⟨rfl, ?_⟩
      have hb' : (if okR n i r = true then badA n (i + 1) (bs.drop (i + 1)) else some i) = badA n 0 bs := hb
      have TS := et_or (et_test (ev_op (σ := [some (.int n), some y, some (.int (num : Int)), some (.int (i : Nat)), some (.int r.1), some (.int r.2)]) (H := H'') (ev_var (v := .int (i : Nat)) (i := 3) rfl) (ev_c (v := .int 40)) (rv_eq rfl))) (fun _ => et_not (et_test (ev_chain3 (σ := [some (.int n), some y, some (.int (num : Int)), some (.int (i : Nat)), some (.int r.1), some (.int r.2)]) (H := H'') (f := fun a b => decide (a ≤ b)) (f' := fun a b => decide (a ≤ b)) (f'' := fun a b => decide (a < b)) (ev_c (v := .int 0)) (ev_var (v := .int r.1) (i := 4) rfl) (ev_var (v := .int r.2) (i := 5) rfl) (ev_var (v := .int n) (i := 0) rfl))))
      cases ho : okR n i r with
      | true =>
        rw [if_pos ho] at hb'
        refine s_if (b := false) (et_is TS ?_) (fun z => nomatch z) (fun _ H1 e1 => ⟨(e0.trans e).trans e1, hb', _, _, _, rfl⟩)
        unfold okR at ho
        obtain ⟨o1, o2⟩ := Bool.and_eq_true_iff.mp ho
        rw [o2]
        rw [Bool.not_eq_true'] at o1
        rw [o1]; rfl
      | false =>
        rw [if_neg (by rw [ho]; decide)] at hb'
        refine s_if (b := true) (et_is TS ?_) (fun _ G g => ?_) (fun z => nomatch z)
        · unfold okR at ho
          rw [Bool.and_eq_false_iff] at ho
          rcases ho with ho | ho
          · rw [Bool.not_eq_false'] at ho
            rw [ho]; rfl
          · rw [ho, Bool.not_false, Bool.or_true]
        · refine ⟨.int (num : Int), rfl, .int (i : Int), rfl, by show 2 ≤ 1000; decide, fun a hna => ⟨a, num, i, rfl, hnum, by omega, upd_same, fun dx h1 h2 => ⟨rfl, dx, fsBS num i, ?_, upd_same, ?_, ?_⟩⟩⟩
          · rw [upd_ne (Ne.symm h2), upd_same]
          · rw [upd_ne h2] at h1; exact h1
          · have h1' : G dx = none := by rw [upd_ne h2] at h1; exact h1
            have eGX : Ex H G := (e0.trans e).trans g
            refine qx (CB, some (fsBS num i)) (by rw [← hb']) (some dx) _ (fun b o hb2 => ?_) ⟨dx, rfl, upd_same⟩
            have hbG := eGX b o hb2
            have n1 : b ≠ dx := ne_of_none hbG h1'
            have n2 : b ≠ a := ne_of_none hbG hna
            rw [upd_ne n1, del_ne n2, upd_ne n1, upd_ne n2, upd_ne n1, upd_ne n2]
            exact hbG
    · obtain ⟨e0, hb, a, b, c, rfl⟩ := p
      rw [List.length_map, List.drop_length] at hb
      exact q _ (by rw [← hb]; rfl) _ H' e0 .non
/-! ### checked_marks, refusals too -/
def refS (CZ CB : Addr) (z : Int) (sets : List (List (Int × Int))) (c : Ref) : Prop := (¬ (1 ≤ z ∧ z ≤ 64) ∧ c = (CZ, none)) ∨ (1 ≤ z ∧ z ≤ 64 ∧ ∃ j a, badS z 0 sets = some (j, a) ∧ c = (CB, some (fsBS j a)))
def RChkX (CZ CB : Addr) : List PyData → Ref ⊕ List PyData → Prop := fun ds r => ∃ (z : Int) (sets : List (List (Int × Int))), ds = [.int z, .list (sets.map sI)] ∧ sets.length ≤ 20 ∧ (∀ s ∈ sets, s.length ≤ 90) ∧
  ((∃ c, refS CZ CB z sets c ∧ r = .inl c) ∨ ∃ (n : Nat) (rss : List (List (Nat × Nat))), z = (n : Int) ∧ 1 ≤ n ∧ n ≤ 64 ∧ sets = rss.map (·.map toI) ∧ (∀ rs ∈ rss, Good n rs) ∧ r = .inr (rss.map (mD n)))
theorem sI_map (rss : List (List (Nat × Nat))) : (rss.map (·.map toI)).map sI = rss.map sD := by
  rw [List.map_map]
  exact List.map_congr_left fun rs _ => sI_sD rs
theorem ok_checkedX {f f1 f2 f3 CZ CB : Addr} {fd fd1 fd2 fd3 : FuncData} {k : Nat} (F : Fun K "checked_marks" "checked_marks" sCheckedMarks f fd)
    (F1 : FnOk P w K mg base (L2N.CX P w) (k + 2) f1 fd1 ["size"] (spVX K (RSizeX CZ))) (g1 : mg "check_size" = some (.ref f1)) (k1 : PySem.W.keepIn K (.ref f1) = true) (b1 : Binds K fd1 ["size"] [])
    (F2 : FnOk P w K mg base (L2N.CX P w) (k + 2) f2 fd2 ["size", "ranges", "number"] (spVX K (RSetX CB))) (g2 : mg "check_set" = some (.ref f2)) (k2 : PySem.W.keepIn K (.ref f2) = true) (b2 : Binds K fd2 ["size", "ranges", "number"] [])
    (F3 : FnOk P w K mg base CX0 (k + 2) f3 fd3 ["size", "ranges"] (spN K RMarks)) (g3 : mg "marks_of" = some (.ref f3)) (k3 : PySem.W.keepIn K (.ref f3) = true) (b3 : Binds K fd3 ["size", "ranges"] [])
    (me : mg "enumerate" = none) : FnOk P w K mg base (L2N.CX P w) (k + 3) f fd ["size", "sets"] (spNX K (RChkX CZ CB)) := by
  refine SY.okN F scCheckedMarks (fun vs H Q E h => ?_) (fun cdv A outer s H vs Q E hr h => ?_)
  · obtain ⟨ds, r, ha, ⟨z, sets, rfl, _⟩, _⟩ := h
    exact allLen ha
  · obtain ⟨ds, r, ha, ⟨z, sets, rfl, hsl, hss, hr0⟩, q, qx⟩ := h
    obtain ⟨x, y, rfl, hx, hy⟩ := all2 ha
    cases dpInt hx
    have nd := scCheckedMarks.nd
    refine ⟨_, pss_cons (ps_expr (pe_call F1 hr (by rfl) g1 k1 b1 .nil (L2N.passes_call (E := E) (L2N.takes_of rfl rfl rfl rfl) (fun _ _ _ _ h => h)) (pa_cons (pv 0) pa_nil)))
      (pss_cons (ps_for (passes_of rfl) rfl (pi_enum (by rfl) me (pa_cons (pv 1) pa_nil)) (pg_tup rfl (pgs_cons (pg_name (i := 2) nd rfl (.inl rfl)) (pgs_cons (pg_name (i := 3) nd rfl (.inl rfl)) pgs_nil)))
        (pss_one (ps_expr (pe_call F2 hr (by rfl) g2 k2 b2 .nil (L2N.passes_call (E := E) (L2N.takes_of rfl rfl rfl rfl) (fun _ _ _ _ h => h)) (pa_cons (pv 0) (pa_cons (pv 3) (pa_cons (pv 2) pa_nil)))))))
      (pss_one (ps_ret (pe_lc (own := [("ranges", 3)]) (g := gName 3) (tt := tYes) rfl nd (pi_list (pv 1)) (blkOk_by (own := [("ranges", 3)]) (N := nCheckedMarks) (sc := defScope sCheckedMarks) (by decide +kernel))
        (fun _ _ _ _ _ => pg_name (i := 3) nd rfl (Or.inl rfl)) (fun _ _ _ _ _ => pts_nil) (fun _ _ _ _ _ => pe_call F3 hr (by rfl) g3 k3 b3 .nil pass0 (pa_cons (pv 0) (pa_cons (pv 3) pa_nil))))))), ?_⟩
    by_cases hz : 1 ≤ z ∧ z ≤ 64
    · refine ⟨.int z, rfl, [.int z], .inr .none, .cons (.int z) .nil, ⟨z, rfl, .inl ⟨hz.1, hz.2, rfl⟩⟩, fun out ho v H1 e1 hv => ?_, fun c hc => by cases hc⟩
      cases ho
      refine sFor (B := H) e1 (wkEnum (ev_var (v := y) rfl) hy) (fun i σ' H' => Ex H H' ∧ badS z i (sets.drop i) = badS z 0 sets ∧ ∃ a b, σ' = [some (.int z), some y, a, b]) (fun H2 e => ⟨e1.trans e, rfl, none, none, rfl⟩) (fun i σ' H' _ p => p.1) (fun i x σ' H' H'' hi p e hd => ?_) (fun σ' H' p => ?_)
      · obtain ⟨e0, hb, a, b, rfl⟩ := p
        rw [List.length_map] at hi
        rw [getD_map sI (List.getElem?_eq_getElem hi)] at hd
        rw [List.drop_eq_getElem_cons hi] at hb
        have hsi := hss _ (List.getElem_mem hi)
        generalize sets[i] = sx at hd hb hsi
        refine gPair hd fun y1 z1 hy1 hz1 => ?_
        cases dpInt hy1
        refine ⟨.int z, rfl, z1, rfl, .int (i : Nat), rfl, [.int z, sI sx, .int (i : Int)], _, .cons (.int z) (.cons hz1 (.cons (.int _) .nil)), ⟨z, sx, i, rfl, hsi, by omega, rfl⟩, fun out ho v2 H2 e2 _ => ?_, fun c hc d H2 e2 hx2 => ?_⟩
        · refine ⟨(e0.trans e).trans e2, ?_, _, _, rfl⟩
          cases ha' : badA z 0 sx with
          | none => rw [badS_no ha'] at hb; exact hb
          | some a' => rw [ha'] at ho; cases ho
        · cases ha' : badA z 0 sx with
          | none => rw [ha'] at hc; cases hc
          | some a' =>
            rw [ha'] at hc
            cases hc
            rw [badS_yes ha'] at hb
            rcases hr0 with ⟨c, hc, rfl⟩ | ⟨n, rss, rfl, _, _, rfl, hg, _⟩
            · rcases hc with ⟨hc, _⟩ | ⟨_, _, j, a2, hba, rfl⟩
              · exact absurd hz hc
              · rw [hba] at hb
                cases hb
                exact qx _ rfl d H2 ((e0.trans e).trans e2) hx2
            · rw [badS_good 0 hg] at hb; cases hb
      · obtain ⟨e0, hb, a, b, rfl⟩ := p
        rw [List.length_map, List.drop_length] at hb
        have hb : none = badS z 0 sets := hb
        rcases hr0 with ⟨c, hc, rfl⟩ | ⟨n, rss, rfl, hn1, hn64, rfl, hg, rfl⟩
        · rcases hc with ⟨hc, _⟩ | ⟨_, _, j, a2, hba, rfl⟩
          · exact absurd hz hc
          · rw [hba] at hb; cases hb
        · rw [sI_map] at hy
          rw [List.length_map] at hsl
          have N := nLc (K := K) (σ := [some (.int (n : Int)), some y, a, b]) (H := H') (wi := iList K (tVar 1)) (g := gName 3) (tt := tYes) (te := tCall (spN K RMarks) [] E0 (tCons (tVar 0) (tCons (tVar 3) tNil))) (vs := [3]) (fun _ => true) (fun i => mD n (rss.getD i [])) (by rw [List.length_map]; omega) (wkList (ev_var (v := y) rfl) (SB.mono e0 hy)).asN (fun Dl i x H3 hi e3 hd => by
            rw [List.length_map] at hi
            rw [getD_map sD (List.getElem?_eq_getElem hi)] at hd
            refine ⟨_, fun Q q => q, rfl, et_yes, fun _ => ?_⟩
            have c := nCall (K := K) (E := E0) (R := RMarks) (σ := [some (.int (n : Int)), some y, a, some x]) (H := H3) (da2 (ta := tVar 0) (tb := tVar 3) (dVar (v := .int (n : Int)) rfl (.int (n : Int))) (dVar (v := x) rfl hd)) ⟨n, rss[i], rfl, hn64, (hg _ (List.getElem_mem hi)).ok, rfl⟩
            have c2 := c.x (D := Dl) (noL_bls n (memB rss[i]))
            rw [getD_at [] hi]
            exact c2)
          rw [outs_all, List.length_map, range_getD (mD n)] at N
          exact sRetN N ((q _ rfl).ex e0)
    · rcases hr0 with ⟨c, hc, rfl⟩ | ⟨n, rss, rfl, hn1, hn64, _⟩
      · rcases hc with ⟨_, rfl⟩ | ⟨h1, h2, _⟩
        · exact ⟨.int z, rfl, [.int z], .inl (CZ, none), .cons (.int z) .nil, ⟨z, rfl, .inr ⟨hz, rfl⟩⟩, (fun out ho => by cases ho), fun c hc d H1 e1 hx1 => by
            cases hc
            exact qx _ rfl d H1 e1 hx1⟩
        · exact absurd ⟨h1, h2⟩ hz
      · exact absurd ⟨by omega, by omega⟩ hz
end

/-! ### the program's functions, where they refuse -/
section
variable {P : Program} {w : World} {K : PySem.W.Frag} {mg : Str → Option Value} {base : Heap}
theorem xCallN {σ : L2.St} {H : Hp} {ta : TA} {ds : List PyData} {c : Ref} {E : XK} {Q : VK} {R : List PyData → Ref ⊕ List PyData → Prop} (ha : EvDA K ta σ H ds) (hR : R ds (.inl c)) (hE : ∀ d H', Ex H H' → SY.XOut c.2 d H' → E (.ref c.1) d H') : tCall (spNX K R) [] E ta σ H Q :=
  ha H (Ex.refl H) _ fun vs H2 e2 hd => ⟨ds, .inl c, by rw [List.append_nil]; exact hd, hR, (fun out h => by cases h), fun c' h d H' e hx => by
    cases h
    exact hE d H' (e2.trans e) hx⟩
theorem xCallE {σ : L2.St} {H : Hp} {ta : TA} {ds : List PyData} {c : Ref} {E : XK} {Q : VK} {R : List PyData → Ref → Prop} (ha : EvDA K ta σ H ds) (hR : R ds c) (hE : ∀ d H', Ex H H' → SY.XOut c.2 d H' → E (.ref c.1) d H') : tCall (spEX K R) [] E ta σ H Q :=
  ha H (Ex.refl H) _ fun vs H2 e2 hd => ⟨ds, c, by rw [List.append_nil]; exact hd, hR, fun d H' e hx => hE d H' (e2.trans e) hx⟩
theorem xCallV {σ : L2.St} {H : Hp} {ta : TA} {ds : List PyData} {c : Ref} {E : XK} {Q : VK} {R : List PyData → Ref ⊕ PyData → Prop} (ha : EvDA K ta σ H ds) (hR : R ds (.inl c)) (hE : ∀ d H', Ex H H' → SY.XOut c.2 d H' → E (.ref c.1) d H') : tCall (spVX K R) [] E ta σ H Q :=
  ha H (Ex.refl H) _ fun vs H2 e2 hd => ⟨ds, .inl c, by rw [List.append_nil]; exact hd, hR, (fun out h => by cases h), fun c' h d H' e hx => by
    cases h
    exact hE d H' (e2.trans e) hx⟩
theorem nCallNX {σ : L2.St} {H : Hp} {ta : TA} {ds out : List PyData} {E : XK} {R : List PyData → Ref ⊕ List PyData → Prop} (ha : EvDA K ta σ H ds) (hR : R ds (.inr out)) : EvN K (tCall (spNX K R) [] E ta) σ H out := fun H1 e Q q => ha H1 e _ fun vs H2 e2 hd => by
  refine ⟨ds, .inr out, by rw [List.append_nil]; exact hd, hR, fun out' h => ?_, fun c h => by cases h⟩
  cases h
  exact q.ex e2
theorem vCallVX {σ : L2.St} {H : Hp} {ta : TA} {ds : List PyData} {d : PyData} {E : XK} {R : List PyData → Ref ⊕ PyData → Prop} (ha : EvDA K ta σ H ds) (hR : R ds (.inr d)) : EvD K (tCall (spVX K R) [] E ta) σ H d := fun H1 e Q q => ha H1 e _ fun vs H2 e2 hd => by
  refine ⟨ds, .inr d, by rw [List.append_nil]; exact hd, hR, fun out' h v H3 e3 hv => ?_, fun c h => by cases h⟩
  cases h
  exact q v H3 (e2.trans e3) hv
def RE1 (CZ CB : Addr) : List PyData → Ref → Prop := fun ds c => ∃ (z : Int) (bs : List (Int × Int)), ds = [.int z, sI bs] ∧ bs.length ≤ 90 ∧ refS CZ CB z [bs] c
def RE2 (CZ CB : Addr) : List PyData → Ref → Prop := fun ds c => ∃ (z : Int) (b1 b2 : List (Int × Int)), ds = [.int z, sI b1, sI b2] ∧ b1.length ≤ 90 ∧ b2.length ≤ 90 ∧ refS CZ CB z [b1, b2] c
def REs (CZ CB : Addr) : List PyData → Ref → Prop := fun ds c => ∃ (z : Int) (sets : List (List (Int × Int))), ds = [.int z, .list (sets.map sI)] ∧ sets.length ≤ 20 ∧ (∀ s ∈ sets, s.length ≤ 90) ∧ refS CZ CB z sets c
theorem chk1 {CZ CB : Addr} {z : Int} {bs : List (Int × Int)} {c : Ref} (h : bs.length ≤ 90) (r : refS CZ CB z [bs] c) : RChkX CZ CB [.int z, .list [sI bs]] (.inl c) := ⟨z, [bs], rfl, by show 1 ≤ 20; decide, fun s hs => by rw [List.mem_singleton.mp hs]; exact h, .inl ⟨c, r, rfl⟩⟩
theorem chk2 {CZ CB : Addr} {z : Int} {b1 b2 : List (Int × Int)} {c : Ref} (h1 : b1.length ≤ 90) (h2 : b2.length ≤ 90) (r : refS CZ CB z [b1, b2] c) : RChkX CZ CB [.int z, .list [sI b1, sI b2]] (.inl c) := ⟨z, [b1, b2], rfl, by show 2 ≤ 20; decide, fun s hs => by
  rcases List.mem_cons.mp hs with e | e
  · rw [e]; exact h1
  · rw [List.mem_singleton.mp e]; exact h2, .inl ⟨c, r, rfl⟩⟩

theorem ok_membersE {f f1 CZ CB : Addr} {fd fd1 : FuncData} {k : Nat} (F : Fun K "members" "members" sMembers f fd) (F1 : FnOk P w K mg base (L2N.CX P w) (k + 3) f1 fd1 ["size", "sets"] (spNX K (RChkX CZ CB))) (g1 : mg "checked_marks" = some (.ref f1)) (k1 : PySem.W.keepIn K (.ref f1) = true) (b1 : Binds K fd1 ["size", "sets"] []) :
    FnOk P w K mg base (L2N.CX P w) (k + 4) f fd ["size", "ranges"] (spEX K (RE1 CZ CB)) := by
  refine SY.okN F scMembers (fun vs H Q E h => ?_) (fun cdv A outer s H vs Q E hr h => ?_)
  · obtain ⟨ds, c, ha, ⟨z, bs, rfl, _⟩, _⟩ := h
    exact allLen ha
  · obtain ⟨ds, c, ha, ⟨z, bs, rfl, hb, hc⟩, qx⟩ := h
    obtain ⟨x, y, rfl, hx, hy⟩ := all2 ha
    cases dpInt hx
    have nd := scMembers.nd
    refine ⟨_, pss_cons (ps_set (i := 2) nd rfl (.inl rfl) (pe_ix ix_list (pe_call F1 hr (by rfl) g1 k1 b1 .nil (L2N.passes_call (E := E) (L2N.takes_of rfl rfl rfl rfl) (fun _ _ _ _ h => h)) (pa_cons (pv 0) (pa_cons (pe_lst (pa_cons (pv 1) pa_nil)) pa_nil))) pe_int (fun _ _ => rfl))) pss_never, ?_⟩
    exact xCallN (K := K) (R := RChkX CZ CB) (daCons (dVar rfl (.int z)) (da1 (nLst (da1 (dVar (v := y) rfl hy)) (by show 1 ≤ 100000; decide)).asD)) (chk1 hb hc) qx
theorem ok_othersE {f f1 CZ CB : Addr} {fd fd1 : FuncData} {k : Nat} (F : Fun K "others" "others" sOthers f fd) (F1 : FnOk P w K mg base (L2N.CX P w) (k + 3) f1 fd1 ["size", "sets"] (spNX K (RChkX CZ CB))) (g1 : mg "checked_marks" = some (.ref f1)) (k1 : PySem.W.keepIn K (.ref f1) = true) (b1 : Binds K fd1 ["size", "sets"] []) :
    FnOk P w K mg base (L2N.CX P w) (k + 4) f fd ["size", "ranges"] (spEX K (RE1 CZ CB)) := by
  refine SY.okN F scOthers (fun vs H Q E h => ?_) (fun cdv A outer s H vs Q E hr h => ?_)
  · obtain ⟨ds, c, ha, ⟨z, bs, rfl, _⟩, _⟩ := h
    exact allLen ha
  · obtain ⟨ds, c, ha, ⟨z, bs, rfl, hb, hc⟩, qx⟩ := h
    obtain ⟨x, y, rfl, hx, hy⟩ := all2 ha
    cases dpInt hx
    have nd := scOthers.nd
    refine ⟨_, pss_cons (ps_set (i := 2) nd rfl (.inl rfl) (pe_ix ix_list (pe_call F1 hr (by rfl) g1 k1 b1 .nil (L2N.passes_call (E := E) (L2N.takes_of rfl rfl rfl rfl) (fun _ _ _ _ h => h)) (pa_cons (pv 0) (pa_cons (pe_lst (pa_cons (pv 1) pa_nil)) pa_nil))) pe_int (fun _ _ => rfl))) pss_never, ?_⟩
    exact xCallN (K := K) (R := RChkX CZ CB) (daCons (dVar rfl (.int z)) (da1 (nLst (da1 (dVar (v := y) rfl hy)) (by show 1 ≤ 100000; decide)).asD)) (chk1 hb hc) qx
theorem ok_writtenE {f f1 CZ CB : Addr} {fd fd1 : FuncData} {k : Nat} (F : Fun K "written" "written" sWritten f fd) (F1 : FnOk P w K mg base (L2N.CX P w) (k + 3) f1 fd1 ["size", "sets"] (spNX K (RChkX CZ CB))) (g1 : mg "checked_marks" = some (.ref f1)) (k1 : PySem.W.keepIn K (.ref f1) = true) (b1 : Binds K fd1 ["size", "sets"] []) :
    FnOk P w K mg base (L2N.CX P w) (k + 4) f fd ["size", "ranges"] (spEX K (RE1 CZ CB)) := by
  refine SY.okN F scWritten (fun vs H Q E h => ?_) (fun cdv A outer s H vs Q E hr h => ?_)
  · obtain ⟨ds, c, ha, ⟨z, bs, rfl, _⟩, _⟩ := h
    exact allLen ha
  · obtain ⟨ds, c, ha, ⟨z, bs, rfl, hb, hc⟩, qx⟩ := h
    obtain ⟨x, y, rfl, hx, hy⟩ := all2 ha
    cases dpInt hx
    have nd := scWritten.nd
    refine ⟨_, pss_cons (ps_set (i := 2) nd rfl (.inl rfl) (pe_ix ix_list (pe_call F1 hr (by rfl) g1 k1 b1 .nil (L2N.passes_call (E := E) (L2N.takes_of rfl rfl rfl rfl) (fun _ _ _ _ h => h)) (pa_cons (pv 0) (pa_cons (pe_lst (pa_cons (pv 1) pa_nil)) pa_nil))) pe_int (fun _ _ => rfl))) pss_never, ?_⟩
    exact xCallN (K := K) (R := RChkX CZ CB) (daCons (dVar rfl (.int z)) (da1 (nLst (da1 (dVar (v := y) rfl hy)) (by show 1 ≤ 100000; decide)).asD)) (chk1 hb hc) qx
theorem ok_joinedE {f f1 CZ CB : Addr} {fd fd1 : FuncData} {k : Nat} (F : Fun K "joined" "joined" sJoined f fd) (F1 : FnOk P w K mg base (L2N.CX P w) (k + 3) f1 fd1 ["size", "sets"] (spNX K (RChkX CZ CB))) (g1 : mg "checked_marks" = some (.ref f1)) (k1 : PySem.W.keepIn K (.ref f1) = true) (b1 : Binds K fd1 ["size", "sets"] []) :
    FnOk P w K mg base (L2N.CX P w) (k + 4) f fd ["size", "one", "other"] (spEX K (RE2 CZ CB)) := by
  refine SY.okN F scJoined (fun vs H Q E h => ?_) (fun cdv A outer s H vs Q E hr h => ?_)
  · obtain ⟨ds, c, ha, ⟨z, b1s, b2s, rfl, _⟩, _⟩ := h
    exact allLen ha
  · obtain ⟨ds, c, ha, ⟨z, b1s, b2s, rfl, hb1, hb2, hc⟩, qx⟩ := h
    obtain ⟨x, y, y2, rfl, hx, hy, hy2⟩ := all3 ha
    cases dpInt hx
    have nd := scJoined.nd
    refine ⟨_, pss_cons (ps_asg (pe_call F1 hr (by rfl) g1 k1 b1 .nil (L2N.passes_call (E := E) (L2N.takes_of rfl rfl rfl rfl) (fun _ _ _ _ h => h)) (pa_cons (pv 0) (pa_cons (pe_lst (pa_cons (pv 1) (pa_cons (pv 2) pa_nil))) pa_nil))) (pg_unl rfl (pgs_cons (pg_name (i := 3) nd rfl (.inl rfl)) (pgs_cons (pg_name (i := 4) nd rfl (.inl rfl)) pgs_nil)))) pss_never, ?_⟩
    exact xCallN (K := K) (R := RChkX CZ CB) (daCons (dVar rfl (.int z)) (da1 (nLst (da2 (dVar (v := y) rfl hy) (dVar (v := y2) rfl hy2)) (by show 2 ≤ 100000; decide)).asD)) (chk2 hb1 hb2 hc) qx
theorem ok_commonE {f f1 CZ CB : Addr} {fd fd1 : FuncData} {k : Nat} (F : Fun K "common" "common" sCommon f fd) (F1 : FnOk P w K mg base (L2N.CX P w) (k + 3) f1 fd1 ["size", "sets"] (spNX K (RChkX CZ CB))) (g1 : mg "checked_marks" = some (.ref f1)) (k1 : PySem.W.keepIn K (.ref f1) = true) (b1 : Binds K fd1 ["size", "sets"] []) :
    FnOk P w K mg base (L2N.CX P w) (k + 4) f fd ["size", "one", "other"] (spEX K (RE2 CZ CB)) := by
  refine SY.okN F scCommon (fun vs H Q E h => ?_) (fun cdv A outer s H vs Q E hr h => ?_)
  · obtain ⟨ds, c, ha, ⟨z, b1s, b2s, rfl, _⟩, _⟩ := h
    exact allLen ha
  · obtain ⟨ds, c, ha, ⟨z, b1s, b2s, rfl, hb1, hb2, hc⟩, qx⟩ := h
    obtain ⟨x, y, y2, rfl, hx, hy, hy2⟩ := all3 ha
    cases dpInt hx
    have nd := scCommon.nd
    refine ⟨_, pss_cons (ps_asg (pe_call F1 hr (by rfl) g1 k1 b1 .nil (L2N.passes_call (E := E) (L2N.takes_of rfl rfl rfl rfl) (fun _ _ _ _ h => h)) (pa_cons (pv 0) (pa_cons (pe_lst (pa_cons (pv 1) (pa_cons (pv 2) pa_nil))) pa_nil))) (pg_unl rfl (pgs_cons (pg_name (i := 3) nd rfl (.inl rfl)) (pgs_cons (pg_name (i := 4) nd rfl (.inl rfl)) pgs_nil)))) pss_never, ?_⟩
    exact xCallN (K := K) (R := RChkX CZ CB) (daCons (dVar rfl (.int z)) (da1 (nLst (da2 (dVar (v := y) rfl hy) (dVar (v := y2) rfl hy2)) (by show 2 ≤ 100000; decide)).asD)) (chk2 hb1 hb2 hc) qx
theorem ok_lessE {f f1 CZ CB : Addr} {fd fd1 : FuncData} {k : Nat} (F : Fun K "less" "less" sLess f fd) (F1 : FnOk P w K mg base (L2N.CX P w) (k + 3) f1 fd1 ["size", "sets"] (spNX K (RChkX CZ CB))) (g1 : mg "checked_marks" = some (.ref f1)) (k1 : PySem.W.keepIn K (.ref f1) = true) (b1 : Binds K fd1 ["size", "sets"] []) :
    FnOk P w K mg base (L2N.CX P w) (k + 4) f fd ["size", "one", "other"] (spEX K (RE2 CZ CB)) := by
  refine SY.okN F scLess (fun vs H Q E h => ?_) (fun cdv A outer s H vs Q E hr h => ?_)
  · obtain ⟨ds, c, ha, ⟨z, b1s, b2s, rfl, _⟩, _⟩ := h
    exact allLen ha
  · obtain ⟨ds, c, ha, ⟨z, b1s, b2s, rfl, hb1, hb2, hc⟩, qx⟩ := h
    obtain ⟨x, y, y2, rfl, hx, hy, hy2⟩ := all3 ha
    cases dpInt hx
    have nd := scLess.nd
    refine ⟨_, pss_cons (ps_asg (pe_call F1 hr (by rfl) g1 k1 b1 .nil (L2N.passes_call (E := E) (L2N.takes_of rfl rfl rfl rfl) (fun _ _ _ _ h => h)) (pa_cons (pv 0) (pa_cons (pe_lst (pa_cons (pv 1) (pa_cons (pv 2) pa_nil))) pa_nil))) (pg_unl rfl (pgs_cons (pg_name (i := 3) nd rfl (.inl rfl)) (pgs_cons (pg_name (i := 4) nd rfl (.inl rfl)) pgs_nil)))) pss_never, ?_⟩
    exact xCallN (K := K) (R := RChkX CZ CB) (daCons (dVar rfl (.int z)) (da1 (nLst (da2 (dVar (v := y) rfl hy) (dVar (v := y2) rfl hy2)) (by show 2 ≤ 100000; decide)).asD)) (chk2 hb1 hb2 hc) qx
theorem ok_by_classesE {f f1 CZ CB : Addr} {fd fd1 : FuncData} {k : Nat} (F : Fun K "by_classes" "by_classes" sByClasses f fd) (F1 : FnOk P w K mg base (L2N.CX P w) (k + 3) f1 fd1 ["size", "sets"] (spNX K (RChkX CZ CB))) (g1 : mg "checked_marks" = some (.ref f1)) (k1 : PySem.W.keepIn K (.ref f1) = true) (b1 : Binds K fd1 ["size", "sets"] []) :
    FnOk P w K mg base (L2N.CX P w) (k + 4) f fd ["size", "sets"] (spEX K (REs CZ CB)) := by
  refine SY.okN F scByClasses (fun vs H Q E h => ?_) (fun cdv A outer s H vs Q E hr h => ?_)
  · obtain ⟨ds, c, ha, ⟨z, sets, rfl, _⟩, _⟩ := h
    exact allLen ha
  · obtain ⟨ds, c, ha, ⟨z, sets, rfl, hl, hs, hc⟩, qx⟩ := h
    obtain ⟨x, y, rfl, hx, hy⟩ := all2 ha
    cases dpInt hx
    have nd := scByClasses.nd
    refine ⟨_, pss_cons (ps_set (i := 2) nd rfl (.inl rfl) (pe_call F1 hr (by rfl) g1 k1 b1 .nil (L2N.passes_call (E := E) (L2N.takes_of rfl rfl rfl rfl) (fun _ _ _ _ h => h)) (pa_cons (pv 0) (pa_cons (pv 1) pa_nil)))) pss_never, ?_⟩
    exact xCallN (K := K) (R := RChkX CZ CB) (da2 (dVar rfl (.int z)) (dVar (v := y) rfl hy)) ⟨z, sets, rfl, hl, hs, .inl ⟨c, hc, rfl⟩⟩ qx
theorem ok_leastE {f f1 CZ CB : Addr} {fd fd1 : FuncData} {k : Nat} (F : Fun K "least" "least" sLeast f fd) (F1 : FnOk P w K mg base (L2N.CX P w) (k + 3) f1 fd1 ["size", "sets"] (spNX K (RChkX CZ CB))) (g1 : mg "checked_marks" = some (.ref f1)) (k1 : PySem.W.keepIn K (.ref f1) = true) (b1 : Binds K fd1 ["size", "sets"] []) :
    FnOk P w K mg base (L2N.CX P w) (k + 4) f fd ["size", "sets"] (spEX K (REs CZ CB)) := by
  refine SY.okN F scLeast (fun vs H Q E h => ?_) (fun cdv A outer s H vs Q E hr h => ?_)
  · obtain ⟨ds, c, ha, ⟨z, sets, rfl, _⟩, _⟩ := h
    exact allLen ha
  · obtain ⟨ds, c, ha, ⟨z, sets, rfl, hl, hs, hc⟩, qx⟩ := h
    obtain ⟨x, y, rfl, hx, hy⟩ := all2 ha
    cases dpInt hx
    have nd := scLeast.nd
    refine ⟨_, pss_cons (ps_set (i := 2) nd rfl (.inr rfl) (pe_call F1 hr (by rfl) g1 k1 b1 .nil (L2N.passes_call (E := E) (L2N.takes_of rfl rfl rfl rfl) (fun _ _ _ _ h => h)) (pa_cons (pv 0) (pa_cons (pv 1) pa_nil)))) pss_never, ?_⟩
    exact xCallN (K := K) (R := RChkX CZ CB) (da2 (dVar rfl (.int z)) (dVar (v := y) rfl hy)) ⟨z, sets, rfl, hl, hs, .inl ⟨c, hc, rfl⟩⟩ qx
theorem ok_class_rowE {f f1 f2 CZ CB : Addr} {fd fd1 fd2 : FuncData} {k : Nat} (F : Fun K "class_row" "class_row" sClassRow f fd) (F1 : FnOk P w K mg base (L2N.CX P w) (k + 3) f1 fd1 ["size", "sets"] (spNX K (RChkX CZ CB))) (g1 : mg "checked_marks" = some (.ref f1)) (k1 : PySem.W.keepIn K (.ref f1) = true) (b1 : Binds K fd1 ["size", "sets"] [])
    (F2 : FnOk P w K mg base CX0 (k + 3) f2 fd2 ["size", "all_marks"] (spN K RRowOf)) (g2 : mg "row_of" = some (.ref f2)) (k2 : PySem.W.keepIn K (.ref f2) = true) (b2 : Binds K fd2 ["size", "all_marks"] []) :
    FnOk P w K mg base (L2N.CX P w) (k + 4) f fd ["size", "sets"] (spEX K (REs CZ CB)) := by
  refine SY.okN F scClassRow (fun vs H Q E h => ?_) (fun cdv A outer s H vs Q E hr h => ?_)
  · obtain ⟨ds, c, ha, ⟨z, sets, rfl, _⟩, _⟩ := h
    exact allLen ha
  · obtain ⟨ds, c, ha, ⟨z, sets, rfl, hl, hs, hc⟩, qx⟩ := h
    obtain ⟨x, y, rfl, hx, hy⟩ := all2 ha
    cases dpInt hx
    refine ⟨_, pss_one (ps_ret (pe_call F2 hr (by rfl) g2 k2 b2 .nil pass0 (pa_cons (pv 0) (pa_cons (pe_call F1 hr (by rfl) g1 k1 b1 .nil (L2N.passes_call (E := E) (L2N.takes_of rfl rfl rfl rfl) (fun _ _ _ _ h => h)) (pa_cons (pv 0) (pa_cons (pv 1) pa_nil))) pa_nil)))), ?_⟩
    exact ⟨.int z, rfl, xCallN (K := K) (R := RChkX CZ CB) (da2 (dVar rfl (.int z)) (dVar (v := y) rfl hy)) ⟨z, sets, rfl, hl, hs, .inl ⟨c, hc, rfl⟩⟩ qx⟩
theorem ok_classesE {f f1 CZ CB : Addr} {fd fd1 : FuncData} {k : Nat} (F : Fun K "classes" "classes" sClasses f fd) (F1 : FnOk P w K mg base (L2N.CX P w) (k + 4) f1 fd1 ["size", "sets"] (spEX K (REs CZ CB))) (g1 : mg "class_row" = some (.ref f1)) (k1 : PySem.W.keepIn K (.ref f1) = true) (b1 : Binds K fd1 ["size", "sets"] []) :
    FnOk P w K mg base (L2N.CX P w) (k + 5) f fd ["size", "sets"] (spEX K (REs CZ CB)) := by
  refine SY.okN F scClasses (fun vs H Q E h => ?_) (fun cdv A outer s H vs Q E hr h => ?_)
  · obtain ⟨ds, c, ha, ⟨z, sets, rfl, _⟩, _⟩ := h
    exact allLen ha
  · obtain ⟨ds, c, ha, ⟨z, sets, rfl, hl, hs, hc⟩, qx⟩ := h
    obtain ⟨x, y, rfl, hx, hy⟩ := all2 ha
    cases dpInt hx
    have nd := scClasses.nd
    refine ⟨_, pss_cons (ps_set (i := 2) nd rfl (.inr rfl) (pe_call F1 hr (by rfl) g1 k1 b1 .nil (L2N.passes_call (E := E) (L2N.takes_of rfl rfl rfl rfl) (fun _ _ _ _ h => h)) (pa_cons (pv 0) (pa_cons (pv 1) pa_nil)))) pss_never, ?_⟩
    exact xCallE (K := K) (R := REs CZ CB) (da2 (dVar rfl (.int z)) (dVar (v := y) rfl hy)) ⟨z, sets, rfl, hl, hs, hc⟩ qx
def RPlainX (CZ CB : Addr) : List PyData → Ref ⊕ List PyData → Prop := fun ds r => ∃ (z : Int) (bs : List (Int × Int)), ds = [.int z, sI bs] ∧ bs.length ≤ 90 ∧ ((∃ c, refS CZ CB z [bs] c ∧ r = .inl c) ∨ ∃ (n : Nat) (rs : List (Nat × Nat)), z = (n : Int) ∧ 1 ≤ n ∧ n ≤ 64 ∧ bs = rs.map toI ∧ Good n rs ∧ r = .inr ((told (memB rs) n).map rD))
theorem ok_plainX {f f1 f2 CZ CB : Addr} {fd fd1 fd2 : FuncData} {k : Nat} (F : Fun K "plain" "plain" sPlain f fd) (F1 : FnOk P w K mg base (L2N.CX P w) (k + 3) f1 fd1 ["size", "sets"] (spNX K (RChkX CZ CB))) (g1 : mg "checked_marks" = some (.ref f1)) (k1 : PySem.W.keepIn K (.ref f1) = true) (b1 : Binds K fd1 ["size", "sets"] [])
    (F2 : FnOk P w K mg base CX0 (k + 3) f2 fd2 ["marks"] (spN K RRanges)) (g2 : mg "ranges_of" = some (.ref f2)) (k2 : PySem.W.keepIn K (.ref f2) = true) (b2 : Binds K fd2 ["marks"] []) :
    FnOk P w K mg base (L2N.CX P w) (k + 4) f fd ["size", "ranges"] (spNX K (RPlainX CZ CB)) := by
  refine SY.okN F scPlain (fun vs H Q E h => ?_) (fun cdv A outer s H vs Q E hr h => ?_)
  · obtain ⟨ds, r, ha, ⟨z, bs, rfl, _⟩, _⟩ := h
    exact allLen ha
  · obtain ⟨ds, r, ha, ⟨z, bs, rfl, hb, hr0⟩, q, qx⟩ := h
    obtain ⟨x, y, rfl, hx, hy⟩ := all2 ha
    cases dpInt hx
    have nd := scPlain.nd
    refine ⟨_, pss_one (ps_ret (pe_call F2 hr (by rfl) g2 k2 b2 .nil pass0 (pa_cons (pe_ix ix_list (pe_call F1 hr (by rfl) g1 k1 b1 .nil (L2N.passes_call (E := E) (L2N.takes_of rfl rfl rfl rfl) (fun _ _ _ _ h => h)) (pa_cons (pv 0) (pa_cons (pe_lst (pa_cons (pv 1) pa_nil)) pa_nil))) pe_int (fun _ _ => rfl)) pa_nil))), ?_⟩
    rcases hr0 with ⟨c, hc, rfl⟩ | ⟨n, rs, rfl, hn1, hn64, rfl, hg, rfl⟩
    · exact xCallN (K := K) (R := RChkX CZ CB) (daCons (dVar rfl (.int z)) (da1 (nLst (da1 (dVar (v := y) rfl hy)) (by show 1 ≤ 100000; decide)).asD)) (chk1 hb hc) (fun d H' e hx => qx c rfl d H' e hx)
    · have N : EvN K (tCall (spNX K (RChkX CZ CB)) [] E (tCons (tVar 0) (tCons (tLst (tCons (tVar 1) tNil)) tNil))) [some (.int (n : Int)), some y] H [mD n rs] := nCallNX (R := RChkX CZ CB) (daCons (dVar rfl (.int (n : Int))) (da1 (nLst (da1 (dVar (v := y) rfl hy)) (by show 1 ≤ 100000; decide)).asD)) ⟨(n : Int), [rs.map toI], rfl, by show 1 ≤ 20; decide, fun s hs => by rw [List.mem_singleton.mp hs]; exact hb, .inr ⟨n, [rs], rfl, hn1, hn64, rfl, fun q hq => by rw [List.mem_singleton.mp hq]; exact hg, rfl⟩⟩
      exact sRetN (nCall (R := RRanges) (da1 (dIxL (i := 0) N.asD ev_c rfl)) ⟨n, memB rs, rfl, hn64, rfl⟩) (q _ rfl)
def REi (CZ CB CN : Addr) : List PyData → Ref → Prop := fun ds c => ∃ (z : Int) (bs : List (Int × Int)) (m : Int), ds = [.int z, sI bs, .int m] ∧ bs.length ≤ 90 ∧ (refS CZ CB z [bs] c ∨ ∃ (n : Nat) (rs : List (Nat × Nat)), z = (n : Int) ∧ 1 ≤ n ∧ n ≤ 64 ∧ bs = rs.map toI ∧ Good n rs ∧ ¬ (0 ≤ m ∧ m < (n : Int)) ∧ c = (CN, none))
theorem ok_insideE {f f1 f2 CZ CB CN : Addr} {fd fd1 fd2 : FuncData} {k : Nat} (F : Fun K "inside" "inside" sInside f fd)
    (F1 : FnOk P w K mg base (L2N.CX P w) (k + 4) f1 fd1 ["size", "ranges"] (spNX K (RPlainX CZ CB))) (g1 : mg "plain" = some (.ref f1)) (k1 : PySem.W.keepIn K (.ref f1) = true) (b1 : Binds K fd1 ["size", "ranges"] [])
    (F2 : FnOk P w K mg base (L2N.CX P w) (k + 4) f2 fd2 ["size", "number"] (spEX K (RNumX CN))) (g2 : mg "check_number" = some (.ref f2)) (k2 : PySem.W.keepIn K (.ref f2) = true) (b2 : Binds K fd2 ["size", "number"] []) :
    FnOk P w K mg base (L2N.CX P w) (k + 5) f fd ["size", "ranges", "number"] (spEX K (REi CZ CB CN)) := by
  refine SY.okN F scInside (fun vs H Q E h => ?_) (fun cdv A outer s H vs Q E hr h => ?_)
  · obtain ⟨ds, c, ha, ⟨z, bs, m, rfl, _⟩, _⟩ := h
    exact allLen ha
  · obtain ⟨ds, c, ha, ⟨z, bs, m, rfl, hb, hc⟩, qx⟩ := h
    obtain ⟨x, y, u, rfl, hx, hy, hu⟩ := all3 ha
    cases dpInt hx
    cases dpInt hu
    have nd := scInside.nd
    refine ⟨_, pss_cons (ps_set (i := 3) nd rfl (.inl rfl) (pe_call F1 hr (by rfl) g1 k1 b1 .nil (L2N.passes_call (E := E) (L2N.takes_of rfl rfl rfl rfl) (fun _ _ _ _ h => h)) (pa_cons (pv 0) (pa_cons (pv 1) pa_nil))))
      (pss_cons (ps_expr (pe_call F2 hr (by rfl) g2 k2 b2 .nil (L2N.passes_call (E := E) (L2N.takes_of rfl rfl rfl rfl) (fun _ _ _ _ h => h)) (pa_cons (pv 0) (pa_cons (pv 2) pa_nil)))) pss_never), ?_⟩
    rcases hc with hc | ⟨n, rs, rfl, hn1, hn64, rfl, hg, hm, rfl⟩
    · exact xCallN (K := K) (R := RPlainX CZ CB) (da2 (dVar rfl (.int z)) (dVar (v := y) rfl hy)) ⟨z, bs, rfl, hb, .inl ⟨c, hc, rfl⟩⟩ qx
    · refine sAsgN (nCallNX (R := RPlainX CZ CB) (E := E) (da2 (dVar rfl (.int (n : Int))) (dVar (v := y) rfl hy)) ⟨(n : Int), _, rfl, hb, .inr ⟨n, rs, rfl, hn1, hn64, rfl, hg, rfl⟩⟩) fun p xs H1 hp e1 h1 A1 => ?_
      exact xCallE (K := K) (R := RNumX CN) (da2 (dVar (v := .int (n : Int)) rfl (.int _)) (dVar (v := .int m) rfl (.int m))) ⟨(n : Int), m, rfl, hm, rfl⟩ fun d H' e hx => qx d H' (e1.trans e) hx
def REt (CZ CB CN : Addr) : List PyData → Ref → Prop := fun ds c => ∃ (z : Int) (sets : List (List (Int × Int))) (m : Int), ds = [.int z, .list (sets.map sI), .int m] ∧ sets.length ≤ 20 ∧ (∀ s ∈ sets, s.length ≤ 90) ∧ (refS CZ CB z sets c ∨ ∃ (n : Nat) (rss : List (List (Nat × Nat))), z = (n : Int) ∧ 1 ≤ n ∧ n ≤ 64 ∧ sets = rss.map (·.map toI) ∧ (∀ rs ∈ rss, Good n rs) ∧ ¬ (1 ≤ m ∧ m ≤ (n : Int)) ∧ c = (CN, none))
theorem ok_tableE {f f1 CZ CB CN : Addr} {fd fd1 : FuncData} {k : Nat} (F : Fun K "table" "table" sTable f fd) (F1 : FnOk P w K mg base (L2N.CX P w) (k + 3) f1 fd1 ["size", "sets"] (spNX K (RChkX CZ CB))) (g1 : mg "checked_marks" = some (.ref f1)) (k1 : PySem.W.keepIn K (.ref f1) = true) (b1 : Binds K fd1 ["size", "sets"] []) (Z : OwnX K mg "BadNumber" CN) :
    FnOk P w K mg base (L2N.CX P w) (k + 4) f fd ["size", "sets", "wide"] (spEX K (REt CZ CB CN)) := by
  refine SY.okN F scTable (fun vs H Q E h => ?_) (fun cdv A outer s H vs Q E hr h => ?_)
  · obtain ⟨ds, c, ha, ⟨z, sets, m, rfl, _⟩, _⟩ := h
    exact allLen ha
  · obtain ⟨ds, c, ha, ⟨z, sets, m, rfl, hl, hs, hc⟩, qx⟩ := h
    obtain ⟨x, y, u, rfl, hx, hy, hu⟩ := all3 ha
    cases dpInt hx
    cases dpInt hu
    have nd := scTable.nd
    refine ⟨_, pss_cons (ps_set (i := 3) nd rfl (.inl rfl) (pe_call F1 hr (by rfl) g1 k1 b1 .nil (L2N.passes_call (E := E) (L2N.takes_of rfl rfl rfl rfl) (fun _ _ _ _ h => h)) (pa_cons (pv 0) (pa_cons (pv 1) pa_nil))))
      (pss_cons (ps_if (pt_not (pt_chain op_le op_le pe_int (pv 2) (pv 0))) (pss_one (L2N.ps_raise rfl (L2N.takes_of rfl rfl rfl rfl) (L2N.pmk_own PySem.F.excBase_ValueError Z.xP Z.gP Z.kP (raises_own Z.bP Z.tP) rfl))) pss_nil) pss_never), ?_⟩
    rcases hc with hc | ⟨n, rss, rfl, hn1, hn64, rfl, hg, hm, rfl⟩
    · exact xCallN (K := K) (R := RChkX CZ CB) (da2 (dVar rfl (.int z)) (dVar (v := y) rfl hy)) ⟨z, sets, rfl, hl, hs, .inl ⟨c, hc, rfl⟩⟩ qx
    · refine sAsgN (nCallNX (R := RChkX CZ CB) (E := E) (da2 (dVar rfl (.int (n : Int))) (dVar (v := y) rfl hy)) ⟨(n : Int), _, rfl, hl, hs, .inr ⟨n, rss, rfl, hn1, hn64, rfl, hg, rfl⟩⟩) fun p xs H1 hp e1 h1 A1 => ?_
      have T := fun σ (a1 : σ[2]? = some (some (V.int m))) (a2 : σ[0]? = some (some (V.int (n : Int)))) => et_not (et_test (H := H1) (ev_chain2 (f := fun a b => decide (a ≤ b)) (f' := fun a b => decide (a ≤ b)) (ev_c (v := .int 1)) (ev_var (σ := σ) (i := 2) (v := .int m) a1) (ev_var (i := 0) (v := .int (n : Int)) a2)))
      dsimp only
      refine q_when (b := true) (et_is (T _ rfl rfl) ?_) ?_ (fun z => nomatch z)
      rotate_left
      · exact fun _ H2 e2 => qx none H2 (e1.trans e2) rfl
      by_cases c : (1 : Int) ≤ m
      · rw [decide_eq_true c, decide_eq_false (fun c2 => hm ⟨c, c2⟩)]; rfl
      · rw [decide_eq_false c]; rfl
def REl (CZ CN : Addr) : List PyData → Ref → Prop := fun ds c => ∃ (z : Int) (fs rs : List PyData) (i m : Int), ds = [.int z, .tuple [.list fs, .list rs], .int i, .int m] ∧ ((¬ (1 ≤ z ∧ z ≤ 64) ∧ c = (CZ, none)) ∨ (1 ≤ z ∧ z ≤ 64 ∧ ¬ (0 ≤ i ∧ i < (fs.length : Int)) ∧ c = (CN, none)) ∨ (1 ≤ z ∧ z ≤ 64 ∧ 0 ≤ i ∧ i < (fs.length : Int) ∧ ¬ (0 ≤ m ∧ m < z) ∧ c = (CN, none)))
theorem ok_lookE {f f1 f2 CZ CN : Addr} {fd fd1 fd2 : FuncData} {k : Nat} (F : Fun K "look" "look" sLook f fd)
    (F1 : FnOk P w K mg base (L2N.CX P w) (k + 1) f1 fd1 ["size"] (spVX K (RSizeX CZ))) (g1 : mg "check_size" = some (.ref f1)) (k1 : PySem.W.keepIn K (.ref f1) = true) (b1 : Binds K fd1 ["size"] [])
    (F2 : FnOk P w K mg base (L2N.CX P w) (k + 1) f2 fd2 ["size", "number"] (spEX K (RNumX CN))) (g2 : mg "check_number" = some (.ref f2)) (k2 : PySem.W.keepIn K (.ref f2) = true) (b2 : Binds K fd2 ["size", "number"] [])
    (ml : mg "len" = none) (Z : OwnX K mg "BadNumber" CN) : FnOk P w K mg base (L2N.CX P w) (k + 2) f fd ["size", "told", "which", "number"] (spEX K (REl CZ CN)) := by
  refine SY.okN F scLook (fun vs H Q E h => ?_) (fun cdv A outer s H vs Q E hr h => ?_)
  · obtain ⟨ds, c, ha, ⟨z, fs, rs, i, m, rfl, _⟩, _⟩ := h
    exact allLen ha
  · obtain ⟨ds, c, ha, ⟨z, fs, rs, i, m, rfl, hc⟩, qx⟩ := h
    obtain ⟨u1, us, rfl, hu1, ha2⟩ := allCons ha
    obtain ⟨u2, u3, u4, rfl, hu2, hu3, hu4⟩ := all3 ha2
    cases dpInt hu1
    cases dpInt hu3
    cases dpInt hu4
    have nd := scLook.nd
    refine ⟨_, pss_cons (ps_expr (pe_call F1 hr (by rfl) g1 k1 b1 .nil (L2N.passes_call (E := E) (L2N.takes_of rfl rfl rfl rfl) (fun _ _ _ _ h => h)) (pa_cons (pv 0) pa_nil)))
      (pss_cons (ps_asg (pv 1) (pg_tup rfl (pgs_cons (pg_name (i := 4) nd rfl (.inl rfl)) (pgs_cons (pg_name (i := 5) nd rfl (.inl rfl)) pgs_nil))))
      (pss_cons (ps_if (pt_not (pt_chain op_le op_lt pe_int (pv 2) (pe_callB call_len_seq (by rfl) ml PySem.boot_len (pa_cons (pv 4) pa_nil)))) (pss_one (L2N.ps_raise rfl (L2N.takes_of rfl rfl rfl rfl) (L2N.pmk_own PySem.F.excBase_ValueError Z.xP Z.gP Z.kP (raises_own Z.bP Z.tP) rfl))) pss_nil)
      (pss_cons (ps_expr (pe_call F2 hr (by rfl) g2 k2 b2 .nil (L2N.passes_call (E := E) (L2N.takes_of rfl rfl rfl rfl) (fun _ _ _ _ h => h)) (pa_cons (pv 0) (pa_cons (pv 3) pa_nil)))) pss_never))), ?_⟩
    rcases hc with ⟨hz, rfl⟩ | hc
    · exact xCallV (K := K) (R := RSizeX CZ) (da1 (dVar rfl (.int z))) ⟨z, rfl, .inr ⟨hz, rfl⟩⟩ qx
    · have hz : 1 ≤ z ∧ z ≤ 64 := hc.elim (fun h => ⟨h.1, h.2.1⟩) fun h => ⟨h.1, h.2.1⟩
      refine sDropD (vCallVX (K := K) (R := RSizeX CZ) (E := E) (da1 (dVar rfl (.int z))) ⟨z, rfl, .inl ⟨hz.1, hz.2, rfl⟩⟩) fun H1 e1 => ?_
      refine ⟨u2, rfl, gPair (SB.mono e1 hu2) fun y1 y2 hy1 hy2 => ?_⟩
      have L : Ev (tCB (fun xs H Q => ∃ p ys, xs = [.ref p] ∧ (SqL K H p ys ∨ SqT K H p ys) ∧ Q (.int ys.length) H) (tCons (tVar 4) tNil)) [some (.int z), some u2, some (.int i), some (.int m), some y1, some y2, none, none] H1 (.int (fs.length : Int)) := lenD (v := y1) rfl (.inl hy1) rfl
      have T : EvT (tNot (tTest (tChain (rI0 fun a b => .bl (decide (a ≤ b))) (rI0 fun a b => .bl (decide (a < b))) (tC (.int 0)) (tVar 2) (tCB (fun xs H Q => ∃ p ys, xs = [.ref p] ∧ (SqL K H p ys ∨ SqT K H p ys) ∧ Q (.int ys.length) H) (tCons (tVar 4) tNil))))) [some (.int z), some u2, some (.int i), some (.int m), some y1, some y2, none, none] H1 (!(decide (0 ≤ i) && decide (i < (fs.length : Int)))) := et_not (et_test (ev_chain2 (f := fun a b => decide (a ≤ b)) (f' := fun a b => decide (a < b)) ev_c (ev_var rfl) L))
      rcases hc with ⟨_, _, hi, rfl⟩ | ⟨_, _, hi1, hi2, hm, rfl⟩
      · dsimp only
        refine q_when (b := true) (et_is T ?_) ?_ (fun z => nomatch z)
        rotate_left
        · exact fun _ H2 e2 => qx none H2 (e1.trans e2) rfl
        by_cases c : (0 : Int) ≤ i
        · rw [decide_eq_true c, decide_eq_false (fun c2 => hi ⟨c, c2⟩)]; rfl
        · rw [decide_eq_false c]; rfl
      · dsimp only
        refine q_when (b := false) (et_is T (by rw [decide_eq_true hi1, decide_eq_true hi2]; rfl)) (fun z => nomatch z) (fun _ H2 e2 => ?_)
        exact xCallE (K := K) (R := RNumX CN) (da2 (dVar (v := .int z) rfl (.int z)) (dVar (v := .int m) rfl (.int m))) ⟨z, m, rfl, hm, rfl⟩ fun d H' e hx => qx d H' ((e1.trans e2).trans e) hx
def REr (CZ : Addr) : List PyData → Ref → Prop := fun ds c => ∃ (z : Int) (t : Str), ds = [.int z, .str t] ∧ ¬ (1 ≤ z ∧ z ≤ 64) ∧ c = (CZ, none)
theorem ok_readE {f f1 CZ : Addr} {fd fd1 : FuncData} {k : Nat} (F : Fun K "read" "read" sRead f fd)
    (F1 : FnOk P w K mg base (L2N.CX P w) (k + 1) f1 fd1 ["size"] (spVX K (RSizeX CZ))) (g1 : mg "check_size" = some (.ref f1)) (k1 : PySem.W.keepIn K (.ref f1) = true) (b1 : Binds K fd1 ["size"] []) : FnOk P w K mg base (L2N.CX P w) (k + 2) f fd ["size", "text"] (spEX K (REr CZ)) := by
  refine SY.okN F scRead (fun vs H Q E h => ?_) (fun cdv A outer s H vs Q E hr h => ?_)
  · obtain ⟨ds, c, ha, ⟨z, t, rfl, _⟩, _⟩ := h
    exact allLen ha
  · obtain ⟨ds, c, ha, ⟨z, t, rfl, hz, rfl⟩, qx⟩ := h
    obtain ⟨x, y, rfl, hx, hy⟩ := all2 ha
    cases dpInt hx
    refine ⟨_, pss_cons (ps_expr (pe_call F1 hr (by rfl) g1 k1 b1 .nil (L2N.passes_call (E := E) (L2N.takes_of rfl rfl rfl rfl) (fun _ _ _ _ h => h)) (pa_cons (pv 0) pa_nil))) pss_never, ?_⟩
    exact xCallV (K := K) (R := RSizeX CZ) (da1 (dVar rfl (.int z))) ⟨z, rfl, .inr ⟨hz, rfl⟩⟩ qx
end

/-! ### _law_alike of two ints, called in an except suite -/
section
variable {P : Program} {w : World} {K : PySem.W.Frag} {mg : Str → Option Value} {base : Heap}
def spAlikeI : Sp := fun vs H Q _ => ∃ i : Int, vs = [.int i, .int i] ∧ ∀ H', Ex H H' → Q (.bl true) H'
theorem ok_alikeI {f : Addr} {fd : FuncData} {k : Nat} (F : Fun K "_law_alike" "_law_alike" sLawAlike f fd) (mi : mg "isinstance" = none) (mB : mg "bool" = none) (mI : mg "int" = none) : L2H.FnH P w K mg base CX0 (k + 1) f fd ["_law_found", "_law_due"] spAlikeI := by
  refine SY.okH F scLawAlike (fun vs H Q E h => ?_) (fun cdv A outer s H vs Q E p hot hr h => ?_)
  · obtain ⟨i, rfl, _⟩ := h
    rfl
  · obtain ⟨i, rfl, q⟩ := h
    have nd := scLawAlike.nd
    refine ⟨_, pss_cons (ps_if (pt_cmpR op_isN (pv 1) pe_non (nomark _)) (pss_one (ps_ret (pe_cmpR op_isN (pv 0) pe_non (nomark _)))) pss_nil)
      (pss_cons (ps_if (pt_val (pe_callB call_isi (by rfl) mi (by decide +kernel) (pa_cons (pv 1) (pa_cons (pe_bltn (v := .ty "bool") (by rfl) mB boot_bool rfl) pa_nil)))) pss_never pss_nil)
      (pss_cons (ps_if (pt_val (pe_callB call_isi (by rfl) mi (by decide +kernel) (pa_cons (pv 1) (pa_cons (pe_bltn (v := .ty "int") (by rfl) mI boot_int rfl) pa_nil))))
        (pss_one (ps_ret (pe_and (pe_callB call_isi (by rfl) mi (by decide +kernel) (pa_cons (pv 0) (pa_cons (pe_bltn (v := .ty "int") (by rfl) mI boot_int rfl) pa_nil))) (pe_and (pe_not (pe_callB call_isi (by rfl) mi (by decide +kernel) (pa_cons (pv 0) (pa_cons (pe_bltn (v := .ty "bool") (by rfl) mB boot_bool rfl) pa_nil)))) (pe_one (pe_cmpR op_eq (pv 0) (pv 1) (nomark _))))))) pss_nil)
      pss_never)), ?_⟩
    refine s_if (b := false) (et_test (fun H1 _ Q q => ⟨.int i, rfl, rfl, q H1 (Ex.refl H1)⟩)) (fun z => nomatch z) (fun _ H1 e1 => ?_)
    refine s_if (b := false) (et_B (isi (d := .int i) rfl (.int i) kb_int_bool)) (fun z => nomatch z) (fun _ H2 e2 => ?_)
    refine s_if (b := true) (et_B (isi (d := .int i) rfl (.int i) kb_int_int)) (fun _ H3 e3 => ?_) (fun z => nomatch z)
    exact s_ret (v := .bl true) (ev_is (ev_andV (a := true) (isi (d := .int i) rfl (.int i) kb_int_int) fun _ => ev_andV (a := !false) (ev_notV (isi (d := .int i) rfl (.int i) kb_int_bool)) fun _ => ev_op (x := .int i) (y := .int i) (ev_var rfl) (ev_var rfl) (rv_eq rfl)) (by rw [decide_eq_true rfl]; rfl)) fun H4 e4 => q H4 (((e1.trans e2).trans e3).trans e4)
end

/-! ### _law_alike of two pairs of ints, called in an except suite -/
section
variable {P : Program} {w : World} {K : PySem.W.Frag} {mg : Str → Option Value} {base : Heap}
def spAlikeP (K : PySem.W.Frag) : Sp := fun vs H Q _ => ∃ i j : Int, DpAll K H vs [.tuple [.int i, .int j], .tuple [.int i, .int j]] ∧ ∀ H', Ex H H' → Q (.bl true) H'
theorem ok_alikeP {f : Addr} {fd : FuncData} {k : Nat} (F : Fun K "_law_alike" "_law_alike" sLawAlike f fd) (g : mg "_law_alike" = some (.ref f)) (kp : PySem.W.keepIn K (.ref f) = true) (b : Binds K fd ["_law_found", "_law_due"] [])
    (mi : mg "isinstance" = none) (mB : mg "bool" = none) (mI : mg "int" = none) (mS : mg "str" = none) (mT : mg "tuple" = none) (mL : mg "list" = none) (ml : mg "len" = none) (ma : mg "all" = none) (mr : mg "range" = none) : L2H.FnH P w K mg base CX0 (k + 2) f fd ["_law_found", "_law_due"] (spAlikeP K) := by
  have F1 : L2H.FnH P w K mg base CX0 (k + 1) f fd ["_law_found", "_law_due"] spAlikeI := ok_alikeI F mi mB mI
  refine SY.okH F scLawAlike (fun vs H Q E h => ?_) (fun cdv A outer s H vs Q E p hot hr h => ?_)
  · obtain ⟨i, j, ha, _⟩ := h
    exact allLen ha
  · obtain ⟨i, j, ha, q⟩ := h
    obtain ⟨x, y, rfl, hx, hy⟩ := all2 ha
    have nd := scLawAlike.nd
    refine ⟨_, pss_cons (ps_if (pt_cmpR op_isN (pv 1) pe_non (nomark _)) (pss_one (ps_ret (pe_cmpR op_isN (pv 0) pe_non (nomark _)))) pss_nil)
      (pss_cons (ps_if (pt_val (pe_callB call_isi (by rfl) mi (by decide +kernel) (pa_cons (pv 1) (pa_cons (pe_bltn (v := .ty "bool") (by rfl) mB boot_bool rfl) pa_nil)))) pss_never pss_nil)
      (pss_cons (ps_if (pt_val (pe_callB call_isi (by rfl) mi (by decide +kernel) (pa_cons (pv 1) (pa_cons (pe_bltn (v := .ty "int") (by rfl) mI boot_int rfl) pa_nil)))) pss_never pss_nil)
      (pss_cons (ps_if (pt_val (pe_callB call_isi (by rfl) mi (by decide +kernel) (pa_cons (pv 1) (pa_cons (pe_bltn (v := .ty "str") (by rfl) mS boot_str rfl) pa_nil)))) pss_never pss_nil)
      (pss_cons (ps_if (PW.pt (pw_or (pt_cmpR op_ne (pe_callB call_isi (by rfl) mi (by decide +kernel) (pa_cons (pv 1) (pa_cons (pe_bltn (v := .ty "tuple") (by rfl) mT boot_tuple rfl) pa_nil))) (pe_callB call_isi (by rfl) mi (by decide +kernel) (pa_cons (pv 0) (pa_cons (pe_bltn (v := .ty "tuple") (by rfl) mT boot_tuple rfl) pa_nil))) (nomark _))
          (pw_or1 (pt_cmpR op_ne (pe_callB call_isi (by rfl) mi (by decide +kernel) (pa_cons (pv 1) (pa_cons (pe_bltn (v := .ty "list") (by rfl) mL boot_list rfl) pa_nil))) (pe_callB call_isi (by rfl) mi (by decide +kernel) (pa_cons (pv 0) (pa_cons (pe_bltn (v := .ty "list") (by rfl) mL boot_list rfl) pa_nil))) (nomark _)))))
        pss_never pss_nil)
      (pss_cons (ps_if (pt_cmpR op_ne (pe_callB call_len_seq (by rfl) ml PySem.boot_len (pa_cons (pv 0) pa_nil)) (pe_callB call_len_seq (by rfl) ml PySem.boot_len (pa_cons (pv 1) pa_nil)) (nomark _)) pss_never pss_nil)
      (pss_one (ps_ret (pe_callB (SY.cr_allH ⟨p, hot, List.mem_cons_self⟩) (by rfl) ma (by decide +kernel) (pa_cons (SY.pe_lcH (wi := iRng1 (tCons (tCB (fun xs H Q => ∃ p ys, xs = [.ref p] ∧ (SqL K H p ys ∨ SqT K H p ys) ∧ Q (.int ys.length) H) (tCons (tVar 1) tNil)) tNil)) (own := [("_law_k", 2)]) (g := gName 2) (tt := tYes) (te := L2.tCallS spAlikeI (fun _ => E0) (tCons (tOp (rIx K) (tVar 0) (tVar 2)) (tCons (tOp (rIx K) (tVar 1) (tVar 2)) tNil))) (p := p) hot (by exact List.mem_cons_self) nd (L2H.pi_range1H (by rfl) mr (pa_cons (pe_callB call_len_seq (by rfl) ml PySem.boot_len (pa_cons (pv 1) pa_nil)) pa_nil)) (blkOk_by (own := [("_law_k", 2)]) (N := nLawAlike) (sc := defScope sLawAlike) (by decide +kernel))
        (fun _ _ _ _ _ => pg_name (i := 2) nd rfl (Or.inl rfl)) (fun _ _ _ _ _ => pts_nil) (fun _ _ _ _ _ => L2H.pe_callH (E := fun _ => E0) F1 hr ⟨p, hot, List.mem_cons_self⟩ (by rfl) g kp b (fun _ => fun _ _ _ _ _ _ z => False.elim z) (pa_cons (pe_ix ix_seq (pv 0) (pv 2) (fun _ _ => rfl)) (pa_cons (pe_ix ix_seq (pv 1) (pv 2) (fun _ _ => rfl)) pa_nil)))) pa_nil))))))))), ?_⟩
    have seq : ∀ {H1 : Hp}, Ex H H1 → Ev (tCB (rAll K) (tCons (tLc (iRng1 (tCons (tCB (fun xs H Q => ∃ p ys, xs = [.ref p] ∧ (SqL K H p ys ∨ SqT K H p ys) ∧ Q (.int ys.length) H) (tCons (tVar 1) tNil)) tNil)) (gName 2) tYes (L2.tCallS spAlikeI (fun _ => E0) (tCons (tOp (rIx K) (tVar 0) (tVar 2)) (tCons (tOp (rIx K) (tVar 1) (tVar 2)) tNil))) [2]) tNil)) [some x, some y, none] H1 (.bl true) := by
      intro H1 e1
      have hX : Dp K H1 x (.list [.int i, .int j]) ∨ Dp K H1 x (.tuple [.int i, .int j]) := .inr (SB.mono e1 hx)
      have hY : Dp K H1 y (.list [.int i, .int j]) ∨ Dp K H1 y (.tuple [.int i, .int j]) := .inr (SB.mono e1 hy)
      have N := nLc (K := K) (σ := [some x, some y, none]) (H := H1) (wi := iRng1 (tCons (tCB (fun xs H Q => ∃ p ys, xs = [.ref p] ∧ (SqL K H p ys ∨ SqT K H p ys) ∧ Q (.int ys.length) H) (tCons (tVar 1) tNil)) tNil)) (g := gName 2) (tt := tYes) (te := L2.tCallS spAlikeI (fun _ => E0) (tCons (tOp (rIx K) (tVar 0) (tVar 2)) (tCons (tOp (rIx K) (tVar 1) (tVar 2)) tNil))) (vs := [2]) (n := (([PyData.int i, .int j].length : Nat) : Int).toNat) (fun _ => true) (fun _ => .bool true) (by show 2 ≤ 50000; decide) (wkRange1 (ea_cons (lenD rfl hY rfl) ea_nil) ⟨by show (-2 ^ 62 : Int) ≤ 2; decide, by show (2 : Int) < 2 ^ 62; decide⟩).asN (fun Dl k v H3 hk e3 hd => by
        have hk : k < 2 := hk
        cases dpInt hd
        refine ⟨[some x, some y, some (.int (k : Nat))], fun Q q => q, rfl, et_yes, fun _ => EvD.x (fun H4 e4 Q q => ?_) rfl⟩
        have e34 := e3.trans e4
        have hX3 := hX.imp (SB.mono e34) (SB.mono e34)
        have hY3 := hY.imp (SB.mono e34) (SB.mono e34)
        obtain ⟨c, hc⟩ : ∃ c : Int, [PyData.int i, .int j][k]? = some (.int c) := by
          match k, hk with
          | 0, _ => exact ⟨i, rfl⟩
          | 1, _ => exact ⟨j, rfl⟩
        refine da2 (ixD (σ := [some x, some y, some (.int (k : Nat))]) (i := k) rfl rfl hX3 hc) (ixD (i := k) rfl rfl hY3 hc) H4 (Ex.refl H4) _ fun vs H5 e5 hvs => ?_
        obtain ⟨u1, u2, rfl, h1, h2⟩ := all2 hvs
        cases dpInt h1
        cases dpInt h2
        exact ⟨c, rfl, fun H6 e6 => q _ H6 (e5.trans e6) (.bl true)⟩)
      rw [outs_all] at N
      intro H2 e2 Q q
      refine N H2 e2 (fun x H1 => rAll K [x] H1 Q) fun p xs H3 _ e3 h3 hA => ⟨p, [true, true], rfl, ?_, q H3 e3⟩
      have hA : DpAll K H3 xs ([true, true].map PyData.bool) := hA
      refine sq_of ?_
      rw [h3, blsOfAll hA]
    have ev0 : ∀ {H1 : Hp}, Ev (tOp (fun x y H Q => y = .non ∧ Q (.bl (decide (x = .non))) H) (tVar 1) (tC .non)) [some x, some y, none] H1 (.bl false) := by
      obtain ⟨a, xs, rfl, _⟩ := dpTuple hy
      exact fun {H1} H2 _ Q q => ⟨_, rfl, rfl, q H2 (Ex.refl H2)⟩
    refine s_if (b := false) (et_test ev0) (fun z => nomatch z) (fun _ H1 e1 => ?_)
    refine s_if (b := false) (et_B (isi (v := y) (d := .tuple [.int i, .int j]) rfl (SB.mono e1 hy) kb_tuple_bool)) (fun z => nomatch z) (fun _ H2 e2 => ?_)
    replace e2 := e1.trans e2
    refine s_if (b := false) (et_B (isi (v := y) (d := .tuple [.int i, .int j]) rfl (SB.mono e2 hy) kb_tuple_int)) (fun z => nomatch z) (fun _ H3 e3 => ?_)
    replace e3 := e2.trans e3
    refine s_if (b := false) (et_B (isi (v := y) (d := .tuple [.int i, .int j]) rfl (SB.mono e3 hy) kb_tuple_str)) (fun z => nomatch z) (fun _ H4 e4 => ?_)
    replace e4 := e3.trans e4
    refine s_if (b := false) (et_is (et_or (et_test (ev_op (isi (v := y) (d := .tuple [.int i, .int j]) (b := true) rfl (SB.mono e4 hy) kb_tuple_tuple) (isi (v := x) (d := .tuple [.int i, .int j]) (b := true) rfl (SB.mono e4 hx) kb_tuple_tuple) (rv_ne rfl))) fun _ => et_test (ev_op (isi (v := y) (d := .tuple [.int i, .int j]) (b := false) rfl (SB.mono e4 hy) kb_tuple_list) (isi (v := x) (d := .tuple [.int i, .int j]) (b := false) rfl (SB.mono e4 hx) kb_tuple_list) (rv_ne rfl))) (by decide)) (fun z => nomatch z) (fun _ H5 e5 => ?_)
    replace e5 := e4.trans e5
    refine s_if (b := false) (et_is (et_test (ev_op (x := .int ([PyData.int i, .int j].length : Int)) (y := .int ([PyData.int i, .int j].length : Int)) (lenD (v := x) rfl (.inr (SB.mono e5 hx)) rfl) (lenD (v := y) rfl (.inr (SB.mono e5 hy)) rfl) (rv_ne rfl))) (by rw [decide_eq_true rfl]; rfl)) (fun z => nomatch z) (fun _ H6 e6 => ?_)
    exact s_ret (seq (e5.trans e6)) fun H7 e7 => q H7 ((e5.trans e6).trans e7)
end

/-! ### _law_refused -/
theorem takesN0 {X : Cx} : L2N.Takes X (fun _ _ _ _ => False) := fun _ _ x => by
  obtain ⟨_, _, _, _, _, _, _, _, _, _, _, _, _, _, _, _, z⟩ := x
  exact z.elim
theorem hotS {X : Cx} {a : Addr} {oe : Obj} {cls : Value} {d : Option Addr} {pn : List (Addr × Obj)} (hz : L2N.Zn cls d oe) (hf : ∃ vs, oe.data = .fields vs) : L2H.Hot1 (X.suite a ((a, oe) :: pn)).A (a, oe) := by
  obtain ⟨vs, hv⟩ := hf
  exact ⟨rfl, vs, hv, hz.2.2 vs hv⟩
def tNone : TE := fun _ _ _ => False
theorem pe_never {X : Cx} {e : Expr} : PE X e tNone := ⟨fun _ _ _ _ _ _ h => h.elim⟩
def rIsN (K : PySem.W.Frag) (cls : Value) (d : Option Addr) (a : Addr) : List V → Hp → VK → Prop := fun xs H Q => ∃ D, cls = .ref D ∧ d = none ∧ ExcC K D ∧ rIsE K D a xs H Q
theorem call_isN {X : Cx} {a : Addr} {oe : Obj} {cls : Value} {d : Option Addr} {pn : List (Addr × Obj)} (hz : Zc cls d oe) (hf : ∃ vs, oe.data = .fields vs) : CallR (X.suite a ((a, oe) :: pn)) (.builtin "isinstance") (rIsN X.K cls d a) := by
  intro pins s σ H xs us Q I r h
  obtain ⟨D, rfl, rfl, C, h⟩ := h
  exact call_isE C hz hf pins s σ H xs us Q I r h
section
variable {P : Program} {w : World} {K : PySem.W.Frag} {mg : Str → Option Value} {base : Heap}
theorem isD {σ : L2.St} {H : Hp} {C dd a : Addr} {fs : List (Str × V)} {c : V} {cv : Value} {b : Bool} {j : Nat} (X : ExcC K C) (hd : H dd = some (.xd fs)) (hj : σ[j]? = some (some (.ref a))) (hc : ∀ u, RelV c u → u = cv) (hk : PySem.W.kitOne K (.ref C) cv = some b) : Ev (tCB (SW.rIsD K (.ref C) (some dd) a) (tCons (tVar j) (tCons (tC c) tNil))) σ H (.bl b) := fun H1 e Q q =>
  ⟨.ref a, hj, C, dd, fs, c, cv, b, rfl, X, rfl, e dd _ hd, rfl, hc, hk, q H1 (Ex.refl H1)⟩
theorem isN {σ : L2.St} {H : Hp} {C a : Addr} {c : V} {cv : Value} {b : Bool} {j : Nat} (X : ExcC K C) (hj : σ[j]? = some (some (.ref a))) (hc : ∀ u, RelV c u → u = cv) (hk : PySem.W.kitOne K (.ref C) cv = some b) : Ev (tCB (rIsN K (.ref C) none a) (tCons (tVar j) (tCons (tC c) tNil))) σ H (.bl b) := fun H1 e Q q =>
  ⟨.ref a, hj, C, rfl, rfl, X, c, cv, b, rfl, hc, hk, q H1 (Ex.refl H1)⟩
theorem kitSelf {C : Addr} : PySem.W.kitOne K (.ref C) (.ref C) = some true := by
  unfold PySem.W.kitOne
  rw [if_pos (beq_self_eq_true _)]
/-- the work refuses with the class C, which has no fields -/
def spRefE (P : Program) (w : World) (K : PySem.W.Frag) (mg : Str → Option Value) (base : Heap) (k : Nat) (word : Str) (C : Addr) : Sp := fun vs H Q _ => ∃ (f : Addr) (v : V), vs = [.ref f, .str word, v] ∧ SY.Work P w K mg base k H f C none ∧ ∀ H', Ex H H' → Q (.bl true) H'
/-- .. with BadSet -/
def spRefS (P : Program) (w : World) (K : PySem.W.Frag) (mg : Str → Option Value) (base : Heap) (k : Nat) (C : Addr) : Sp := fun vs H Q _ => ∃ (f : Addr) (v : V) (i j : Nat), vs = [.ref f, .str "set", v] ∧ Dp K H v (.tuple [.int (i : Int), .int (j : Int)]) ∧ SY.Work P w K mg base k H f C (some (fsBS i j)) ∧ ∀ H', Ex H H' → Q (.bl true) H'
theorem ok_refZ {f fA CS CZ CB CN CT : Addr} {fd fdA : FuncData} {k : Nat} (F : Fun K "_law_refused" "_law_refused" sLawRefused f fd) 
    (mi : mg "isinstance" = none) (mV : mg "ValueError" = none) (gS : mg "SetError" = some (.ref CS)) (g0 : mg "BadSize" = some (.ref CZ)) (g1 : mg "BadSet" = some (.ref CB)) (g2 : mg "BadNumber" = some (.ref CN)) (g3 : mg "BadText" = some (.ref CT))
    (eS : PySem.W.exmOne K (.ref CZ) (.ref CS) = some true) (X : ExcC K CZ) (k1 : PySem.W.kitOne K (.ref CZ) (.ref CB) = some false) (k2 : PySem.W.kitOne K (.ref CZ) (.ref CN) = some false) (k3 : PySem.W.kitOne K (.ref CZ) (.ref CT) = some false) (kV : PySem.W.kitOne K (.ref CZ) (.type "ValueError") = some true) :
    FnOk P w K mg base CX0 (k + 1) f fd ["_law_work", "_law_word", "_law_value"] (spRefE P w K mg base k "size" CZ) := by
  refine F.ok scLawRefused (fun vs H Q E h => ?_) (fun cdv A outer s H vs Q E hr h => ?_)
  · obtain ⟨f, v, rfl, _⟩ := h
    rfl
  · obtain ⟨f, v, rfl, wk, q⟩ := h
    have nd := scLawRefused.nd
    refine ⟨_, pss_cons (L2N.ps_try_as (i := 3) rfl rfl nd rfl rfl ⟨rfl, by decide, .inl gS⟩ takesN0 (fun W pn xe tk _ => pss_one (ps_expr (SY.pe_work (P := P) (w := w) (K := K) (mg := mg) (base := base) (i := 0) tk hr rfl (.inl rfl))))
      (fun a oe cls d pn hz hf => pss_cons (ps_set (i := 4) nd rfl (.inl rfl) (pe_lst (pa_cons (pe_callB (call_isN hz.zc hf) (by rfl) mi (by decide +kernel) (pa_cons (pv 3) (pa_cons (pe_glob (v := .ref CZ) (by rfl) g0 rfl) pa_nil)))
          (pa_cons (pe_callB (call_isN hz.zc hf) (by rfl) mi (by decide +kernel) (pa_cons (pv 3) (pa_cons (pe_glob (v := .ref CB) (by rfl) g1 rfl) pa_nil)))
          (pa_cons (pe_callB (call_isN hz.zc hf) (by rfl) mi (by decide +kernel) (pa_cons (pv 3) (pa_cons (pe_glob (v := .ref CN) (by rfl) g2 rfl) pa_nil)))
          (pa_cons (pe_callB (call_isN hz.zc hf) (by rfl) mi (by decide +kernel) (pa_cons (pv 3) (pa_cons (pe_glob (v := .ref CT) (by rfl) g3 rfl) pa_nil)))
          pa_nil))))))
        (pss_cons (ps_set (i := 5) nd rfl (.inl rfl) (pe_lst (pa_cons pe_str (pa_cons pe_str (pa_cons pe_str (pa_cons pe_str pa_nil))))))
        (pss_cons (ps_if (PW.pt (pw_or (pt_not (pt_val (pe_callB (call_isN hz.zc hf) (by rfl) mi (by decide +kernel) (pa_cons (pv 3) (pa_cons (pe_bltn (v := .ty "ValueError") (by rfl) mV PyProof.Rows.Boot.«ValueError» rfl) pa_nil)))))
            (pw_or1 (pt_cmpR (r := rNeD K) (op_neD (by exact hr.units)) (pv 4) (SY.pe_lcH (wi := iList K (tVar 5)) (own := [("_law_one", 6)]) (g := gName 6) (tt := tYes) (te := tOp rEq (tVar 1) (tVar 6)) (p := (a, oe)) (by exact hotS hz hf) (by exact List.mem_cons_self) nd (by exact SY.pi_listH (pv 5)) (blkOk_by (own := [("_law_one", 6)]) (N := nLawRefused) (sc := defScope sLawRefused) (by decide +kernel))
              (fun _ _ _ _ _ => pg_name (i := 6) nd rfl (Or.inl rfl)) (fun _ _ _ _ _ => pts_nil) (fun _ _ _ _ _ => pe_cmpR op_eq (pv 1) (pv 6) (nomark _))) (nomark _)))))
            (pss_one (ps_ret pe_bl)) pss_nil)
        (pss_cons (ps_if (pt_cmpR op_eq (pv 1) pe_str (nomark _)) pss_never pss_nil) (pss_one (ps_ret (pe_or (pe_cmpR op_ne (pv 1) pe_str (nomark _)) (pe_one pe_never))))))))) (pss_one (ps_ret pe_bl)), ?_⟩
    refine ⟨f, CZ, none, rfl, wk, fun d H1 e1 hd => ?_⟩
    cases hd
    refine ⟨true, eS, fun _ a ha => ?_, fun z => nomatch z⟩
    have rel : ∀ (C' : Addr) (u : Value), RelV (.ref C') u → u = Value.ref C' := fun _ _ h => h
    refine sAsgN (K := K) (nLst (daCons (bD (isN X rfl (rel _) kitSelf)) (daCons (bD (isN X rfl (rel _) k1)) (daCons (bD (isN X rfl (rel _) k2)) (daCons (bD (isN X rfl (rel _) k3)) daNil)))) (by decide)) fun p1 x1 H2 hp1 e2 h2 A2 => ?_
    refine sAsgN (K := K) (nLst (daCons (EvD.of ev_c (.str "size")) (daCons (EvD.of ev_c (.str "set")) (daCons (EvD.of ev_c (.str "number")) (daCons (EvD.of ev_c (.str "text")) daNil)))) (by decide)) fun p2 x2 H3 hp2 e3 h3 A3 => ?_
    have e23 := e2.trans e3
    have W3 : Dp K H3 (.ref p2) (.list [.str "size", .str "set", .str "number", .str "text"]) := .lst (sq_of h3) A3
    have N := nLc (K := K) (σ := [some (.ref f), some (.str "size"), some v, some (.ref a), some (.ref p1), some (.ref p2), none]) (H := H3) (wi := iList K (tVar 5)) (g := gName 6) (tt := tYes) (te := tOp rEq (tVar 1) (tVar 6)) (vs := [6]) (fun _ => true) (fun i => .bool (i == 0)) (by decide) (wkList (ev_var (v := .ref p2) rfl) W3).asN (fun Dl i v' H4 hi e4 hv' => by
      have go : ∀ (z : Str) (b : Bool), v' = .str z → decide (V.str "size" = V.str z) = b → (i == 0) = b → ∃ σ2, (∀ Q : L2.St → Hp → Prop, Q σ2 H4 → gName 6 v' (wipe [some (.ref f), some (.str "size"), some v, some (.ref a), some (.ref p1), some (.ref p2), none] [6]) H4 Q) ∧ wipe σ2 [6] = wipe [some (.ref f), some (.str "size"), some v, some (.ref a), some (.ref p1), some (.ref p2), none] [6] ∧ EvT tYes σ2 H4 true ∧ (true = true → EvX K (tOp rEq (tVar 1) (tVar 6)) σ2 H4 Dl (.bool (i == 0))) := fun z b ev e1 e2 => by
        subst ev
        refine ⟨[some (.ref f), some (.str "size"), some v, some (.ref a), some (.ref p1), some (.ref p2), some (.str z)], fun Q q => q, rfl, et_yes, fun _ => (bD (ev_is (ev_op (x := .str "size") (y := .str z) (ev_var rfl) (ev_var rfl) (rv_eq rfl)) ?_)).x rfl⟩
        rw [e1, e2]
      match i, hi with
      | 0, _ => exact go "size" true (dpStr hv') (by decide) rfl
      | 1, _ => exact go "set" false (dpStr hv') (by decide) rfl
      | 2, _ => exact go "number" false (dpStr hv') (by decide) rfl
      | 3, _ => exact go "text" false (dpStr hv') (by decide) rfl)
    refine s_if (b := false) (et_is (et_or (a := !true) (b := false) (et_not (et_B (isN (c := .ty "ValueError") X rfl (fun _ h => h) kV))) (fun _ => et_is (et_test (neD (dVar (v := .ref p1) rfl (SB.mono e3 (.lst (sq_of h2) A2))) N.asD rfl rfl)) (by decide))) rfl) (fun z => nomatch z) (fun _ H4 e4 => ?_)
    refine s_if (b := false) (et_is (et_test (ev_op (x := .str "size") (y := .str "set") (ev_var rfl) ev_c (rv_eq rfl))) (by decide)) (fun z => nomatch z) (fun _ H5 e5 => ?_)
    refine s_ret (v := .bl true) (ev_is (ev_orV (a := true) (b := true) (ev_is (ev_op (x := .str "size") (y := .str "text") (ev_var rfl) ev_c (rv_ne rfl)) (by decide)) (fun z => nomatch z)) rfl) fun H6 e6 => q H6 (((((e1.trans e2).trans e3).trans e4).trans e5).trans e6)
theorem ok_refN {f fA CS CZ CB CN CT : Addr} {fd fdA : FuncData} {k : Nat} (F : Fun K "_law_refused" "_law_refused" sLawRefused f fd) 
    (mi : mg "isinstance" = none) (mV : mg "ValueError" = none) (gS : mg "SetError" = some (.ref CS)) (g0 : mg "BadSize" = some (.ref CZ)) (g1 : mg "BadSet" = some (.ref CB)) (g2 : mg "BadNumber" = some (.ref CN)) (g3 : mg "BadText" = some (.ref CT))
    (eS : PySem.W.exmOne K (.ref CN) (.ref CS) = some true) (X : ExcC K CN) (k0 : PySem.W.kitOne K (.ref CN) (.ref CZ) = some false) (k1 : PySem.W.kitOne K (.ref CN) (.ref CB) = some false) (k3 : PySem.W.kitOne K (.ref CN) (.ref CT) = some false) (kV : PySem.W.kitOne K (.ref CN) (.type "ValueError") = some true) :
    FnOk P w K mg base CX0 (k + 1) f fd ["_law_work", "_law_word", "_law_value"] (spRefE P w K mg base k "number" CN) := by
  refine F.ok scLawRefused (fun vs H Q E h => ?_) (fun cdv A outer s H vs Q E hr h => ?_)
  · obtain ⟨f, v, rfl, _⟩ := h
    rfl
  · obtain ⟨f, v, rfl, wk, q⟩ := h
    have nd := scLawRefused.nd
    refine ⟨_, pss_cons (L2N.ps_try_as (i := 3) rfl rfl nd rfl rfl ⟨rfl, by decide, .inl gS⟩ takesN0 (fun W pn xe tk _ => pss_one (ps_expr (SY.pe_work (P := P) (w := w) (K := K) (mg := mg) (base := base) (i := 0) tk hr rfl (.inl rfl))))
      (fun a oe cls d pn hz hf => pss_cons (ps_set (i := 4) nd rfl (.inl rfl) (pe_lst (pa_cons (pe_callB (call_isN hz.zc hf) (by rfl) mi (by decide +kernel) (pa_cons (pv 3) (pa_cons (pe_glob (v := .ref CZ) (by rfl) g0 rfl) pa_nil)))
          (pa_cons (pe_callB (call_isN hz.zc hf) (by rfl) mi (by decide +kernel) (pa_cons (pv 3) (pa_cons (pe_glob (v := .ref CB) (by rfl) g1 rfl) pa_nil)))
          (pa_cons (pe_callB (call_isN hz.zc hf) (by rfl) mi (by decide +kernel) (pa_cons (pv 3) (pa_cons (pe_glob (v := .ref CN) (by rfl) g2 rfl) pa_nil)))
          (pa_cons (pe_callB (call_isN hz.zc hf) (by rfl) mi (by decide +kernel) (pa_cons (pv 3) (pa_cons (pe_glob (v := .ref CT) (by rfl) g3 rfl) pa_nil)))
          pa_nil))))))
        (pss_cons (ps_set (i := 5) nd rfl (.inl rfl) (pe_lst (pa_cons pe_str (pa_cons pe_str (pa_cons pe_str (pa_cons pe_str pa_nil))))))
        (pss_cons (ps_if (PW.pt (pw_or (pt_not (pt_val (pe_callB (call_isN hz.zc hf) (by rfl) mi (by decide +kernel) (pa_cons (pv 3) (pa_cons (pe_bltn (v := .ty "ValueError") (by rfl) mV PyProof.Rows.Boot.«ValueError» rfl) pa_nil)))))
            (pw_or1 (pt_cmpR (r := rNeD K) (op_neD (by exact hr.units)) (pv 4) (SY.pe_lcH (wi := iList K (tVar 5)) (own := [("_law_one", 6)]) (g := gName 6) (tt := tYes) (te := tOp rEq (tVar 1) (tVar 6)) (p := (a, oe)) (by exact hotS hz hf) (by exact List.mem_cons_self) nd (by exact SY.pi_listH (pv 5)) (blkOk_by (own := [("_law_one", 6)]) (N := nLawRefused) (sc := defScope sLawRefused) (by decide +kernel))
              (fun _ _ _ _ _ => pg_name (i := 6) nd rfl (Or.inl rfl)) (fun _ _ _ _ _ => pts_nil) (fun _ _ _ _ _ => pe_cmpR op_eq (pv 1) (pv 6) (nomark _))) (nomark _)))))
            (pss_one (ps_ret pe_bl)) pss_nil)
        (pss_cons (ps_if (pt_cmpR op_eq (pv 1) pe_str (nomark _)) pss_never pss_nil) (pss_one (ps_ret (pe_or (pe_cmpR op_ne (pv 1) pe_str (nomark _)) (pe_one pe_never))))))))) (pss_one (ps_ret pe_bl)), ?_⟩
    refine ⟨f, CN, none, rfl, wk, fun d H1 e1 hd => ?_⟩
    cases hd
    refine ⟨true, eS, fun _ a ha => ?_, fun z => nomatch z⟩
    have rel : ∀ (C' : Addr) (u : Value), RelV (.ref C') u → u = Value.ref C' := fun _ _ h => h
    refine sAsgN (K := K) (nLst (daCons (bD (isN X rfl (rel _) k0)) (daCons (bD (isN X rfl (rel _) k1)) (daCons (bD (isN X rfl (rel _) kitSelf)) (daCons (bD (isN X rfl (rel _) k3)) daNil)))) (by decide)) fun p1 x1 H2 hp1 e2 h2 A2 => ?_
    refine sAsgN (K := K) (nLst (daCons (EvD.of ev_c (.str "size")) (daCons (EvD.of ev_c (.str "set")) (daCons (EvD.of ev_c (.str "number")) (daCons (EvD.of ev_c (.str "text")) daNil)))) (by decide)) fun p2 x2 H3 hp2 e3 h3 A3 => ?_
    have e23 := e2.trans e3
    have W3 : Dp K H3 (.ref p2) (.list [.str "size", .str "set", .str "number", .str "text"]) := .lst (sq_of h3) A3
    have N := nLc (K := K) (σ := [some (.ref f), some (.str "number"), some v, some (.ref a), some (.ref p1), some (.ref p2), none]) (H := H3) (wi := iList K (tVar 5)) (g := gName 6) (tt := tYes) (te := tOp rEq (tVar 1) (tVar 6)) (vs := [6]) (fun _ => true) (fun i => .bool (i == 2)) (by decide) (wkList (ev_var (v := .ref p2) rfl) W3).asN (fun Dl i v' H4 hi e4 hv' => by
      have go : ∀ (z : Str) (b : Bool), v' = .str z → decide (V.str "number" = V.str z) = b → (i == 2) = b → ∃ σ2, (∀ Q : L2.St → Hp → Prop, Q σ2 H4 → gName 6 v' (wipe [some (.ref f), some (.str "number"), some v, some (.ref a), some (.ref p1), some (.ref p2), none] [6]) H4 Q) ∧ wipe σ2 [6] = wipe [some (.ref f), some (.str "number"), some v, some (.ref a), some (.ref p1), some (.ref p2), none] [6] ∧ EvT tYes σ2 H4 true ∧ (true = true → EvX K (tOp rEq (tVar 1) (tVar 6)) σ2 H4 Dl (.bool (i == 2))) := fun z b ev e1 e2 => by
        subst ev
        refine ⟨[some (.ref f), some (.str "number"), some v, some (.ref a), some (.ref p1), some (.ref p2), some (.str z)], fun Q q => q, rfl, et_yes, fun _ => (bD (ev_is (ev_op (x := .str "number") (y := .str z) (ev_var rfl) (ev_var rfl) (rv_eq rfl)) ?_)).x rfl⟩
        rw [e1, e2]
      match i, hi with
      | 0, _ => exact go "size" false (dpStr hv') (by decide) rfl
      | 1, _ => exact go "set" false (dpStr hv') (by decide) rfl
      | 2, _ => exact go "number" true (dpStr hv') (by decide) rfl
      | 3, _ => exact go "text" false (dpStr hv') (by decide) rfl)
    refine s_if (b := false) (et_is (et_or (a := !true) (b := false) (et_not (et_B (isN (c := .ty "ValueError") X rfl (fun _ h => h) kV))) (fun _ => et_is (et_test (neD (dVar (v := .ref p1) rfl (SB.mono e3 (.lst (sq_of h2) A2))) N.asD rfl rfl)) (by decide))) rfl) (fun z => nomatch z) (fun _ H4 e4 => ?_)
    refine s_if (b := false) (et_is (et_test (ev_op (x := .str "number") (y := .str "set") (ev_var rfl) ev_c (rv_eq rfl))) (by decide)) (fun z => nomatch z) (fun _ H5 e5 => ?_)
    refine s_ret (v := .bl true) (ev_is (ev_orV (a := true) (b := true) (ev_is (ev_op (x := .str "number") (y := .str "text") (ev_var rfl) ev_c (rv_ne rfl)) (by decide)) (fun z => nomatch z)) rfl) fun H6 e6 => q H6 (((((e1.trans e2).trans e3).trans e4).trans e5).trans e6)
theorem ok_refS {f fA CS CZ CB CN CT : Addr} {fd fdA : FuncData} {k : Nat} (F : Fun K "_law_refused" "_law_refused" sLawRefused f fd) (FA : L2H.FnH P w K mg base CX0 k fA fdA ["_law_found", "_law_due"] (spAlikeP K)) (gA : mg "_law_alike" = some (.ref fA)) (kA : PySem.W.keepIn K (.ref fA) = true) (bA : Binds K fdA ["_law_found", "_law_due"] []) (T : XfC K CB) (hn1 : PySem.W.findIn K (.ref CB) "number" = some none) (hn2 : PySem.W.findIn K (.ref CB) "at" = some none)
    (mi : mg "isinstance" = none) (mV : mg "ValueError" = none) (gS : mg "SetError" = some (.ref CS)) (g0 : mg "BadSize" = some (.ref CZ)) (g1 : mg "BadSet" = some (.ref CB)) (g2 : mg "BadNumber" = some (.ref CN)) (g3 : mg "BadText" = some (.ref CT))
    (eS : PySem.W.exmOne K (.ref CB) (.ref CS) = some true) (X : ExcC K CB) (k0 : PySem.W.kitOne K (.ref CB) (.ref CZ) = some false) (k2 : PySem.W.kitOne K (.ref CB) (.ref CN) = some false) (k3 : PySem.W.kitOne K (.ref CB) (.ref CT) = some false) (kV : PySem.W.kitOne K (.ref CB) (.type "ValueError") = some true) :
    FnOk P w K mg base CX0 (k + 1) f fd ["_law_work", "_law_word", "_law_value"] (spRefS P w K mg base k CB) := by
  refine F.ok scLawRefused (fun vs H Q E h => ?_) (fun cdv A outer s H vs Q E hr h => ?_)
  · obtain ⟨f, v, i, j, rfl, _⟩ := h
    rfl
  · obtain ⟨f, v, i, j, rfl, hv, wk, q⟩ := h
    have nd := scLawRefused.nd
    refine ⟨_, pss_cons (L2N.ps_try_as (i := 3) rfl rfl nd rfl rfl ⟨rfl, by decide, .inl gS⟩ takesN0 (fun W pn xe tk _ => pss_one (ps_expr (SY.pe_work (P := P) (w := w) (K := K) (mg := mg) (base := base) (i := 0) tk hr rfl (.inl rfl))))
      (fun a oe cls d pn hz hf => pss_cons (ps_set (i := 4) nd rfl (.inl rfl) (pe_lst (pa_cons (pe_callB (SW.call_isD hz.zc hf) (by rfl) mi (by decide +kernel) (pa_cons (pv 3) (pa_cons (pe_glob (v := .ref CZ) (by rfl) g0 rfl) pa_nil)))
          (pa_cons (pe_callB (SW.call_isD hz.zc hf) (by rfl) mi (by decide +kernel) (pa_cons (pv 3) (pa_cons (pe_glob (v := .ref CB) (by rfl) g1 rfl) pa_nil)))
          (pa_cons (pe_callB (SW.call_isD hz.zc hf) (by rfl) mi (by decide +kernel) (pa_cons (pv 3) (pa_cons (pe_glob (v := .ref CN) (by rfl) g2 rfl) pa_nil)))
          (pa_cons (pe_callB (SW.call_isD hz.zc hf) (by rfl) mi (by decide +kernel) (pa_cons (pv 3) (pa_cons (pe_glob (v := .ref CT) (by rfl) g3 rfl) pa_nil)))
          pa_nil))))))
        (pss_cons (ps_set (i := 5) nd rfl (.inl rfl) (pe_lst (pa_cons pe_str (pa_cons pe_str (pa_cons pe_str (pa_cons pe_str pa_nil))))))
        (pss_cons (ps_if (PW.pt (pw_or (pt_not (pt_val (pe_callB (SW.call_isD hz.zc hf) (by rfl) mi (by decide +kernel) (pa_cons (pv 3) (pa_cons (pe_bltn (v := .ty "ValueError") (by rfl) mV PyProof.Rows.Boot.«ValueError» rfl) pa_nil)))))
            (pw_or1 (pt_cmpR (r := rNeD K) (op_neD (by exact hr.units)) (pv 4) (SY.pe_lcH (wi := iList K (tVar 5)) (own := [("_law_one", 6)]) (g := gName 6) (tt := tYes) (te := tOp rEq (tVar 1) (tVar 6)) (p := (a, oe)) (by exact hotS hz hf) (by exact List.mem_cons_self) nd (by exact SY.pi_listH (pv 5)) (blkOk_by (own := [("_law_one", 6)]) (N := nLawRefused) (sc := defScope sLawRefused) (by decide +kernel))
              (fun _ _ _ _ _ => pg_name (i := 6) nd rfl (Or.inl rfl)) (fun _ _ _ _ _ => pts_nil) (fun _ _ _ _ _ => pe_cmpR op_eq (pv 1) (pv 6) (nomark _))) (nomark _)))))
            (pss_one (ps_ret pe_bl)) pss_nil)
        (pss_cons (ps_if (pt_cmpR op_eq (pv 1) pe_str (nomark _)) (pss_one (ps_ret (L2H.pe_callH (E := fun _ => E0) FA (L2H.roomH_mark hr _) (by exact ⟨(a, oe), hotS hz hf, List.mem_cons_self⟩) (by rfl) gA kA bA (fun _ => fun _ _ _ _ _ _ z => False.elim z) (pa_cons (pe_tup (pa_cons (pe_xf T hn1 hz.zc hf (pv 3)) (pa_cons (pe_xf T hn2 hz.zc hf (pv 3)) pa_nil))) (pa_cons (pv 2) pa_nil))))) pss_nil) pss_never))))) (pss_one (ps_ret pe_bl)), ?_⟩
    refine ⟨f, CB, some (fsBS i j), rfl, wk, fun d H1 e1 hd => ?_⟩
    obtain ⟨dd, rfl, hdd⟩ := hd
    refine ⟨true, eS, fun _ a ha => ?_, fun z => nomatch z⟩
    have rel : ∀ (C' : Addr) (u : Value), RelV (.ref C') u → u = Value.ref C' := fun _ _ h => h
    refine sAsgN (K := K) (nLst (daCons (bD (isD X hdd rfl (rel _) k0)) (daCons (bD (isD X hdd rfl (rel _) kitSelf)) (daCons (bD (isD X hdd rfl (rel _) k2)) (daCons (bD (isD X hdd rfl (rel _) k3)) daNil)))) (by decide)) fun p1 x1 H2 hp1 e2 h2 A2 => ?_
    refine sAsgN (K := K) (nLst (daCons (EvD.of ev_c (.str "size")) (daCons (EvD.of ev_c (.str "set")) (daCons (EvD.of ev_c (.str "number")) (daCons (EvD.of ev_c (.str "text")) daNil)))) (by decide)) fun p2 x2 H3 hp2 e3 h3 A3 => ?_
    have d3 := (e2.trans e3) dd _ hdd
    have W3 : Dp K H3 (.ref p2) (.list [.str "size", .str "set", .str "number", .str "text"]) := .lst (sq_of h3) A3
    have N := nLc (K := K) (σ := [some (.ref f), some (.str "set"), some v, some (.ref a), some (.ref p1), some (.ref p2), none]) (H := H3) (wi := iList K (tVar 5)) (g := gName 6) (tt := tYes) (te := tOp rEq (tVar 1) (tVar 6)) (vs := [6]) (fun _ => true) (fun i => .bool (i == 1)) (by decide) (wkList (ev_var (v := .ref p2) rfl) W3).asN (fun Dl i v' H4 hi e4 hv' => by
      have go : ∀ (z : Str) (b : Bool), v' = .str z → decide (V.str "set" = V.str z) = b → (i == 1) = b → ∃ σ2, (∀ Q : L2.St → Hp → Prop, Q σ2 H4 → gName 6 v' (wipe [some (.ref f), some (.str "set"), some v, some (.ref a), some (.ref p1), some (.ref p2), none] [6]) H4 Q) ∧ wipe σ2 [6] = wipe [some (.ref f), some (.str "set"), some v, some (.ref a), some (.ref p1), some (.ref p2), none] [6] ∧ EvT tYes σ2 H4 true ∧ (true = true → EvX K (tOp rEq (tVar 1) (tVar 6)) σ2 H4 Dl (.bool (i == 1))) := fun z b ev e1 e2 => by
        subst ev
        refine ⟨[some (.ref f), some (.str "set"), some v, some (.ref a), some (.ref p1), some (.ref p2), some (.str z)], fun Q q => q, rfl, et_yes, fun _ => (bD (ev_is (ev_op (x := .str "set") (y := .str z) (ev_var rfl) (ev_var rfl) (rv_eq rfl)) ?_)).x rfl⟩
        rw [e1, e2]
      match i, hi with
      | 0, _ => exact go "size" false (dpStr hv') (by decide) rfl
      | 1, _ => exact go "set" true (dpStr hv') (by decide) rfl
      | 2, _ => exact go "number" false (dpStr hv') (by decide) rfl
      | 3, _ => exact go "text" false (dpStr hv') (by decide) rfl)
    refine s_if (b := false) (et_is (et_or (a := !true) (b := false) (et_not (et_B (isD (c := .ty "ValueError") X d3 rfl (fun _ h => h) kV))) (fun _ => et_is (et_test (neD (dVar (v := .ref p1) rfl (SB.mono e3 (.lst (sq_of h2) A2))) N.asD rfl rfl)) (by decide))) rfl) (fun z => nomatch z) (fun _ H4 e4 => ?_)
    refine s_if (b := true) (et_is (et_test (ev_op (x := .str "set") (y := .str "set") (ev_var rfl) ev_c (rv_eq rfl))) (by decide)) (fun _ H5 e5 => ?_) (fun z => nomatch z)
    have d5 := (e4.trans e5) dd _ d3
    have e15 := (((e1.trans e2).trans e3).trans e4).trans e5
    refine s_ret (v := .bl true) (fun H6 e6 Q q => ?_) fun H6 e6 => q H6 (e15.trans e6)
    have d6 := e6 dd _ d5
    refine ⟨.ref a, rfl, rfl, rfl, dd, _, .int (i : Int), rfl, d6, rfl, .ref a, rfl, rfl, rfl, dd, _, .int (j : Int), rfl, d6, rfl, by show 2 ≤ sizeLine; decide, fun pt hpt => ⟨v, rfl, (i : Int), (j : Int), .cons (.tup (xs := [.int (i : Int), .int (j : Int)]) (SqT.of upd_same) (.cons (.int _) (.cons (.int _) .nil))) (.cons (SB.mono ((e15.trans e6).trans (Ex.new hpt)) hv) .nil), fun H7 e7 => q H7 ((Ex.new hpt).trans e7)⟩⟩
end

/-! ### _law_bad -/
theorem noLs_rI (bs : List (Int × Int)) : noLs (bs.map rI) = true := by
  induction bs with
  | nil => rfl
  | cons r bs ih =>
    rw [List.map_cons]
    show (noL (rI r) && noLs (bs.map rI)) = true
    rw [ih, Bool.and_true]; rfl
theorem toRm {K : PySem.W.Frag} {H : Hp} {d p : Addr} {xs : List V} {bs : List (Int × Int)} (hd : DSt H d) (hp : H p = some (.lst xs)) (hn : p ≠ d) (hA : DpAll K H xs (bs.map rI)) : Dp K (rm H d) (.ref p) (sI bs) := by
  obtain ⟨s, hs, _⟩ := hd
  exact .lst (sq_of (by rw [rmNe hn]; exact hp)) (dpAllRm hs _ _ (noLs_rI bs) hA)
theorem badA_pre {n : Nat} : ∀ {rs : List (Nat × Nat)} (i : Nat) (bs : List (Int × Int)), (∀ r ∈ rs, r.1 ≤ r.2 ∧ r.2 < n) → i + rs.length ≤ 40 → badA (n : Int) i (rs.map toI ++ bs) = badA (n : Int) (i + rs.length) bs
  | [], _, _, _, _ => rfl
  | r :: rs, i, bs, h, hl => by
    have g := h r List.mem_cons_self
    rw [List.length_cons] at hl
    show (if okR (n : Int) i (toI r) = true then badA (n : Int) (i + 1) (rs.map toI ++ bs) else some i) = _
    rw [if_pos, badA_pre (i + 1) bs (fun q hq => h q (List.mem_cons_of_mem _ hq)) (by omega), List.length_cons, show i + 1 + rs.length = i + (rs.length + 1) by omega]
    unfold okR toI
    rw [decide_eq_false (fun z => by have := V.int.inj z; omega), decide_eq_true (show (0 : Int) ≤ (r.1 : Int) by omega), decide_eq_true (show (r.1 : Int) ≤ (r.2 : Int) by omega), decide_eq_true (show (r.2 : Int) < (n : Int) by omega)]; rfl
theorem badA_odd {n : Int} {i : Nat} {o : Int × Int} {bs : List (Int × Int)} (h : ¬ (0 ≤ o.1 ∧ o.1 ≤ o.2 ∧ o.2 < n)) : badA n i (o :: bs) = some i := by
  show (if okR n i o = true then _ else some i) = some i
  rw [if_neg]
  intro z
  unfold okR at z
  rw [Bool.and_eq_true, Bool.and_eq_true, Bool.and_eq_true] at z
  exact h ⟨of_decide_eq_true z.2.1.1, of_decide_eq_true z.2.1.2, of_decide_eq_true z.2.2⟩
theorem badA_many {n : Int} (hn : 1 ≤ n) : ∀ (m i : Nat), i ≤ 40 → 40 < i + m → badA n i (List.replicate m (0, 0)) = some 40
  | 0, i, h1, h2 => by omega
  | m + 1, i, h1, h2 => by
    rw [List.replicate_succ]
    show (if okR n i (0, 0) = true then badA n (i + 1) (List.replicate m (0, 0)) else some i) = some 40
    by_cases c : i = 40
    · rw [if_neg, c]
      intro z
      unfold okR at z
      rw [c, Bool.and_eq_true] at z
      exact absurd z.1 (by decide)
    · rw [if_pos, badA_many hn m (i + 1) (by omega) (by omega)]
      unfold okR
      rw [decide_eq_false (fun z => by have := V.int.inj z; omega), decide_eq_true (show (0 : Int) ≤ 0 by omega), decide_eq_true (show (0 : Int) < n by omega)]; rfl
section
variable {P : Program} {w : World} {K : PySem.W.Frag} {mg : Str → Option Value} {base : Heap}
theorem allDrop {H : Hp} : ∀ {ds : List PyData} {vs : List V} (n : Nat), DpAll K H vs ds → DpAll K H (vs.drop n) (ds.drop n)
  | _, _, 0, h => h
  | [], _, n + 1, h => by cases h; exact .nil
  | d :: ds, _, n + 1, h => by
    cases h with
    | cons h1 h2 => exact allDrop n h2
theorem nCutTo {σ : L2.St} {H : Hp} {ta tb : TE} {ds : List PyData} {k : Nat} (ha : EvD K ta σ H (.list ds)) (hb : Ev tb σ H (.int (k : Int))) : EvN K (tSl (rSlL K) ta tNoPart (tPart tb)) σ H (ds.take k) := fun H1 e Q q => ha H1 e _ fun v H2 e2 hd => hb H2 (e.trans e2) _ fun H3 e3 => by
  obtain ⟨a, xs, rfl, hs, hA⟩ := dpList (SB.mono e3 hd)
  refine ⟨(k : Int), rfl, a, xs, rfl, hs, fun p hp => ?_⟩
  have ec : cutV xs none (some (k : Int)) = xs.take k := by
    unfold cutV
    rw [HT.sIx_none, HT.sIx_nat, List.drop_zero, Nat.sub_zero]
    by_cases c : k ≤ xs.length
    · rw [Nat.min_eq_left c]
    · rw [Nat.min_eq_right (by omega), List.take_of_length_le (Nat.le_refl _), List.take_of_length_le (by omega)]
  exact q p _ _ (fresh_back (e2.trans e3) hp) ((e2.trans e3).trans (Ex.new hp)) upd_same (by rw [ec]; exact monoA (Ex.new hp) (allTake k hA))
theorem nCutFr {σ : L2.St} {H : Hp} {ta tb : TE} {ds : List PyData} {k : Nat} (ha : EvD K ta σ H (.list ds)) (hb : Ev tb σ H (.int (k : Int))) : EvN K (tSl (rSlL K) ta (tPart tb) tNoPart) σ H (ds.drop k) := fun H1 e Q q => ha H1 e _ fun v H2 e2 hd => hb H2 (e.trans e2) _ fun H3 e3 => by
  obtain ⟨a, xs, rfl, hs, hA⟩ := dpList (SB.mono e3 hd)
  refine ⟨(k : Int), rfl, a, xs, rfl, hs, fun p hp => ?_⟩
  have ec : cutV xs (some (k : Int)) none = xs.drop k := by
    unfold cutV
    rw [HT.sIx_none, HT.sIx_nat]
    by_cases c : k ≤ xs.length
    · rw [Nat.min_eq_left c, List.take_of_length_le (by rw [List.length_drop]; exact Nat.le_refl _)]
    · rw [Nat.min_eq_right (by omega), List.drop_of_length_le (Nat.le_refl _), List.drop_of_length_le (by omega), List.take_nil]
  exact q p _ _ (fresh_back (e2.trans e3) hp) ((e2.trans e3).trans (Ex.new hp)) upd_same (by rw [ec]; exact monoA (Ex.new hp) (allDrop k hA))
theorem dpRep {H : Hp} {v : V} {d : PyData} (h : Dp K H v d) : ∀ m : Nat, DpAll K H (List.replicate m [v]).flatten (List.replicate m d)
  | 0 => .nil
  | m + 1 => by
    rw [List.replicate_succ, List.replicate_succ, List.flatten_cons]
    exact .cons h (dpRep h m)
theorem evNeg {σ : L2.St} {H : Hp} (k : Int) : Ev (tUn (rU fun i => .int (-i)) (tC (.int k))) σ H (.int (-k)) := fun H1 e Q q => ⟨k, rfl, q H1 (Ex.refl H1)⟩
theorem evSub {σ : L2.St} {H : Hp} {ta tb : TE} {a b : Int} (ha : Ev ta σ H (.int a)) (hb : Ev tb σ H (.int b)) : Ev (tOp (rI0 fun i j => .int (i - j)) ta tb) σ H (.int (a - b)) := ev_op ha hb rv_I0
theorem evAdd {σ : L2.St} {H : Hp} {ta tb : TE} {a b : Int} (ha : Ev ta σ H (.int a)) (hb : Ev tb σ H (.int b)) : Ev (tOp (rI0 fun i j => .int (i + j)) ta tb) σ H (.int (a + b)) := ev_op ha hb rv_I0
theorem sAsgOp {σ : L2.St} {H : Hp} {te tc : TE} {r : R2} {i : Nat} {D : Ends} {ds : List PyData} (N : EvN K te σ H ds) (k : ∀ p xs H1, H p = none → Ex H H1 → H1 p = some (.lst xs) → DpAll K H1 xs ds → tc σ H1 fun y H2 => r (.ref p) y H2 fun v H3 => D.nx (σ.set i (some v)) H3) : tAsg (tOp r te tc) (gName i) D σ H := N H (Ex.refl H) _ k
def spBad (K : PySem.W.Frag) : Sp := fun vs H Q _ => ∃ (d : Addr) (n : Nat) (v : V) (rs : List (Nat × Nat)), vs = [.ref d, .int (n : Int), v] ∧ DSt H d ∧ 1 ≤ n ∧ n ≤ 64 ∧ Dp K (rm H d) v (sD rs) ∧ rs.length ≤ 39 ∧ Good n rs ∧
  ∀ (bs : List (Int × Int)) (a : Nat) (pT pB : Addr) (H' : Hp), bs.length ≤ 90 → a ≤ 40 → badA (n : Int) 0 bs = some a → Dk d H H' → H' pT = some (.tup [.ref pB, .int (a : Int)]) → Dp K (rm H' d) (.ref pB) (sI bs) → Q (.ref pT) H'
theorem ok_bad {f f1 : Addr} {fd fd1 : FuncData} {k : Nat} (F : Fun K "_law_bad" "_law_bad" sLawBad f fd)
    (F1 : FnOk P w K mg base CX0 (k + 1) f1 fd1 ["_law_d", "_law_most"] spOff) (g1 : mg "_law_off" = some (.ref f1)) (k1 : PySem.W.keepIn K (.ref f1) = true) (b1 : Binds K fd1 ["_law_d", "_law_most"] [])
    (ml : mg "len" = none) (mm : mg "max" = none) : FnOk P w K mg base CX0 (k + 2) f fd ["_law_d", "_law_size_here", "_law_ranges"] (spBad K) := by
  refine F.ok scLawBad (fun vs H Q E h => ?_) (fun cdv A outer s H vs Q E hr h => ?_)
  · obtain ⟨d, n, v, rs, rfl, _⟩ := h
    rfl
  · obtain ⟨d, n, v, rs, rfl, hd, hn1, hn64, hv, hl, hg, q⟩ := h
    have nd := scLawBad.nd
    refine ⟨_, pss_cons (ps_set (i := 3) nd rfl (.inl rfl) (pe_call F1 hr (by rfl) g1 k1 b1 .nil pass0 (pa_cons (pv 0) (pa_cons (pe_op op_add (pe_callB call_len_seq (by rfl) ml PySem.boot_len (pa_cons (pv 2) pa_nil)) pe_int) pa_nil))))
      (pss_cons (ps_set (i := 4) nd rfl (.inl rfl) (pe_callB (call_max2 rfl) (by rfl) mm (by decide +kernel) (pa_cons pe_int (pa_cons (pe_op op_sub (pe_call F1 hr (by rfl) g1 k1 b1 .nil pass0 (pa_cons (pv 0) (pa_cons (pe_op op_pow pe_int pe_int) pa_nil))) pe_int) pa_nil))))
      (pss_cons (ps_set (i := 5) nd rfl (.inl rfl) (pe_ix ix_list (pe_lst (pa_cons (pe_tup (pa_cons (pe_un un_neg pe_int) (pa_cons pe_int pa_nil)))
        (pa_cons (pe_tup (pa_cons pe_int (pa_cons (pv 1) pa_nil)))
        (pa_cons (pe_tup (pa_cons (pv 1) (pa_cons (pv 1) pa_nil)))
        (pa_cons (pe_tup (pa_cons (pe_op op_sub (pv 1) pe_int) (pa_cons (pe_op op_sub (pe_op op_sub (pv 1) pe_int) (pv 4)) pa_nil)))
        (pa_cons (pe_tup (pa_cons (pe_op op_sub (pe_un un_neg pe_int) (pv 4)) (pa_cons pe_int pa_nil)))
        (pa_cons (pe_tup (pa_cons pe_int (pa_cons (pe_op op_add (pv 1) (pv 4)) pa_nil))) pa_nil))))))) (pe_call F1 hr (by rfl) g1 k1 b1 .nil pass0 (pa_cons (pv 0) (pa_cons pe_int pa_nil))) (fun _ _ => rfl)))
      (pss_cons (ps_set (i := 6) nd rfl (.inl rfl) (pe_op op_cat (pe_op op_cat (pe_op op_cat (pe_slice sl_list (pv 2) po_none (po_some (pv 3))) (pe_lst (pa_cons (pv 5) pa_nil))) (pe_slice sl_list (pv 2) (po_some (pv 3)) po_none))
        (pe_op op_rep (pe_lst (pa_cons (pe_tup (pa_cons pe_int (pa_cons pe_int pa_nil))) pa_nil)) (pe_call F1 hr (by rfl) g1 k1 b1 .nil pass0 (pa_cons (pv 0) (pa_cons pe_int pa_nil))))))
      (pss_cons (ps_if (pt_cmpR op_eq (pe_call F1 hr (by rfl) g1 k1 b1 .nil pass0 (pa_cons (pv 0) (pa_cons pe_int pa_nil))) pe_int (nomark _))
        (pss_one (ps_ret (pe_tup (pa_cons (pe_op op_rep (pe_lst (pa_cons (pe_tup (pa_cons pe_int (pa_cons pe_int pa_nil))) pa_nil)) (pe_op op_add pe_int (pe_call F1 hr (by rfl) g1 k1 b1 .nil pass0 (pa_cons (pv 0) (pa_cons pe_int pa_nil))))) (pa_cons pe_int pa_nil))))) pss_nil)
      (pss_one (ps_ret (pe_tup (pa_cons (pv 6) (pa_cons (pv 3) pa_nil))))))))), ?_⟩
    have hv' : Dp K H v (sD rs) := SB.mono rmEx hv
    obtain ⟨pr, xr, rfl, hsr, hAr⟩ := dpList hv'
    have hrl : xr.length = rs.length := by rw [allLen hAr, List.length_map]
    -- at
    refine offCall (d := d) (m := (xr.length : Int) + 1) rfl (fun Q q => ⟨.ref pr, rfl, pr, xr, rfl, .inl hsr, (xr.length : Int), 1, rfl, rfl, q⟩) hd ⟨by omega, by omega⟩ fun at' H1 ha0 ha1 D1 => ?_
    obtain ⟨at0, rfl⟩ : ∃ a : Nat, at' = (a : Int) := ⟨at'.toNat, by omega⟩
    have hat : at0 ≤ rs.length := by omega
    -- far
    refine offCall (d := d) (m := 1000000) rfl (fun Q q => ⟨10, 6, rfl, rfl, ⟨by decide, by decide, by decide⟩, q⟩) D1.st (by decide) fun fr H2 hf0 hf1 D2 => ?_
    refine ⟨fr, 500000, rfl, rfl, 0, fr - 500000, rfl, ?_⟩
    generalize hfar : (if fr - 500000 > (0 : Int) then fr - 500000 else 0) = far
    have hfar0 : 0 ≤ far := by rw [← hfar]; split <;> omega
    have D12 := D1.trans D2
    have v2 : Dp K H2 (.ref pr) (sD rs) := SB.mono rmEx (SB.mono D12.ex hv)
    -- odd
    have N6 := nLst (K := K) (σ := [some (.ref d), some (.int (n : Int)), some (.ref pr), some (.int (at0 : Int)), some (.int far), none, none]) (H := H2) (ds := [((-1 : Int), (0 : Int)), (0, (n : Int)), ((n : Int), (n : Int)), ((n : Int) - 1, (n : Int) - 2 - far), (-1 - far, 0), (0, (n : Int) + far)].map rI)
      (daCons (dTup (da2 (iD (evNeg 1)) dInt) (by show 2 ≤ 100000; decide))
        (daCons (dTup (da2 dInt (dVar (i := 1) rfl (.int (n : Int)))) (by show 2 ≤ 100000; decide))
        (daCons (dTup (da2 (dVar (i := 1) rfl (.int (n : Int))) (dVar (i := 1) rfl (.int (n : Int)))) (by show 2 ≤ 100000; decide))
        (daCons (dTup (da2 (iD (evSub (ev_var (i := 1) rfl) (ev_c (v := .int 1)))) (iD (evSub (evSub (ev_var (i := 1) rfl) (ev_c (v := .int 2))) (ev_var (i := 4) rfl)))) (by show 2 ≤ 100000; decide))
        (daCons (dTup (da2 (iD (evSub (evNeg 1) (ev_var (i := 4) rfl))) dInt) (by show 2 ≤ 100000; decide))
        (daCons (dTup (da2 dInt (iD (evAdd (ev_var (i := 1) rfl) (ev_var (i := 4) rfl)))) (by show 2 ≤ 100000; decide)) daNil)))))) (by show 6 ≤ 100000; decide)
    refine sAsgOp N6 fun p6 x6 H3 hp6 e3 h3 A3 => ?_
    have D3 := Dk.of D2.st e3
    have R6 := toRm D3.st h3 (D2.st.ne hp6) A3
    refine offCall (d := d) (m := 6) rfl (fun Q q => q) D3.st (by decide) fun r6 H4 hr0 hr1 D4 => ?_
    obtain ⟨j6, rfl⟩ : ∃ a : Nat, r6 = (a : Int) := ⟨r6.toNat, by omega⟩
    have hj6 : j6 < 6 := by omega
    obtain ⟨a6, y6, e6, hs6, hA6⟩ := dpList (SB.mono D4.ex R6)
    cases e6
    obtain ⟨od, hod, hbad⟩ : ∃ od : Int × Int, [((-1 : Int), (0 : Int)), (0, (n : Int)), ((n : Int), (n : Int)), ((n : Int) - 1, (n : Int) - 2 - far), (-1 - far, 0), (0, (n : Int) + far)][j6]? = some od ∧ ¬ (0 ≤ od.1 ∧ od.1 ≤ od.2 ∧ od.2 < (n : Int)) := by
      match j6, hj6 with
      | 0, _ => exact ⟨_, rfl, by show ¬ ((0 : Int) ≤ -1 ∧ _); omega⟩
      | 1, _ => exact ⟨_, rfl, by show ¬ ((0 : Int) ≤ 0 ∧ (0 : Int) ≤ n ∧ (n : Int) < n); omega⟩
      | 2, _ => exact ⟨_, rfl, by show ¬ ((0 : Int) ≤ n ∧ (n : Int) ≤ n ∧ (n : Int) < n); omega⟩
      | 3, _ => exact ⟨_, rfl, by show ¬ ((0 : Int) ≤ (n : Int) - 1 ∧ (n : Int) - 1 ≤ (n : Int) - 2 - far ∧ _); omega⟩
      | 4, _ => exact ⟨_, rfl, by show ¬ ((0 : Int) ≤ -1 - far ∧ _); omega⟩
      | 5, _ => exact ⟨_, rfl, by show ¬ ((0 : Int) ≤ 0 ∧ (0 : Int) ≤ (n : Int) + far ∧ (n : Int) + far < n); omega⟩
    obtain ⟨vo, hvo, hdo⟩ := allGet hA6 (i := j6) (d := rI od) (by rw [List.getElem?_map, hod]; rfl)
    refine ⟨p6, y6, (j6 : Int), vo, rfl, rfl, ex_l rmEx hs6, atI_nat hvo, ?_⟩
    have D24 := D3.trans D4
    have D14 := D12.trans D24
    have v4 : Dp K H4 (.ref pr) (sD rs) := SB.mono rmEx (SB.mono D14.ex hv)
    have l39 : rs.length ≤ 39 := hl
    -- bad_here
    have N7 := nCat (nCat (nCutTo (dVar (K := K) (H := H4) (σ := [some (.ref d), some (.int (n : Int)), some (.ref pr), some (.int (at0 : Int)), some (.int far), some vo, none]) (i := 2) rfl v4) (ev_var (i := 3) rfl)) (nLst (da1 (dVar (i := 5) rfl (SB.mono rmEx hdo))) (by show 1 ≤ 100000; decide)) (by show (List.take at0 (rs.map rD)).length + 1 ≤ 100000; rw [List.length_take, List.length_map]; omega)) (nCutFr (dVar (i := 2) rfl v4) (ev_var (i := 3) rfl)) (by rw [List.length_append, List.length_take, List.length_drop, List.length_map]; show _ + 1 + _ ≤ _; omega)
    have eds : List.take at0 (rs.map rD) ++ [rI od] ++ List.drop at0 (rs.map rD) = ((rs.take at0).map toI ++ od :: (rs.drop at0).map toI).map rI := by
      rw [List.map_append, List.map_cons, List.map_map, List.map_map, List.map_take, List.map_drop, List.append_assoc]; rfl
    rw [eds] at N7
    refine sAsgOp N7 fun p7 x7 H5 hp7 e5 h5 A5 => ?_
    have D5 := Dk.of D24.st e5
    refine ⟨by show 2 ≤ sizeLine; decide, fun pt hpt => ⟨by show 1 ≤ sizeLine; decide, fun pl hpl => ?_⟩⟩
    have eP := (Ex.new (o := .tup [.int 0, .int 99]) hpt).trans (Ex.new (o := .lst [.ref pt]) hpl)
    have hL : upd (upd H5 pt (.tup [.int 0, .int 99])) pl (.lst [.ref pt]) pl = some (.lst [.ref pt]) := upd_same
    have tD : Dp K (upd (upd H5 pt (.tup [.int 0, .int 99])) pl (.lst [.ref pt])) (.ref pt) (rI (0, 99)) := SB.mono (Ex.new hpl) (.tup (xs := [.int 0, .int 99]) (st_of upd_same) (.cons (.int 0) (.cons (.int 99) .nil)))
    have nLd : pl ≠ d := (Dk.of D5.st (Ex.new (o := .tup [.int 0, .int 99]) hpt)).st.ne hpl
    generalize upd (upd H5 pt (.tup [.int 0, .int 99])) pl (.lst [.ref pt]) = H6 at eP hL tD ⊢
    have D6 := Dk.of D5.st eP
    have R7 := toRm D6.st (eP p7 _ h5) (D24.st.ne hp7) (monoA eP A5)
    have RL := toRm (bs := [(0, 99)]) D6.st hL nLd (.cons tD .nil)
    refine offCall (d := d) (m := 2) rfl (fun Q q => q) D6.st (by decide) fun k2 H7 hk0 hk1 D7 => ?_
    obtain ⟨c2, rfl⟩ : ∃ a : Nat, k2 = (a : Int) := ⟨k2.toNat, by omega⟩
    have hL7 := D7.keep nLd hL
    have h7 := D7.keep (D24.st.ne hp7) (eP p7 _ h5)
    obtain ⟨sd6, hsd6, _⟩ := D6.st
    have A7 : DpAll K H7 x7 _ := monoA rmEx (monoA D7.ex (dpAllRm hsd6 _ _ (noLs_rI _) (monoA eP A5)))
    have tD7 : Dp K H7 (.ref pt) (rI (0, 99)) := SB.mono rmEx (SB.mono D7.ex (dpRm hsd6 _ _ rfl tD))
    refine ⟨pl, (c2 : Int), [.ref pt], rfl, rfl, hL7, by omega, by omega, sz_of (by show 1 * _ ≤ _; rw [Int.toNat_natCast]; omega), fun p8 hp8 => ?_⟩
    rw [Int.toNat_natCast]
    have hx7 : x7.length ≤ 40 := by
      rw [allLen A5, List.length_map, List.length_append, List.length_cons, List.length_map, List.length_map, List.length_take, List.length_drop]; omega
    have e8 := Ex.new (o := .lst (List.replicate c2 [V.ref pt]).flatten) hp8
    have h88 : upd H7 p8 (.lst (List.replicate c2 [V.ref pt]).flatten) p8 = some (.lst (List.replicate c2 [V.ref pt]).flatten) := upd_same
    have h87 := e8 p7 _ h7
    generalize upd H7 p8 (.lst (List.replicate c2 [V.ref pt]).flatten) = H8 at e8 h88 h87 ⊢
    have hfl : (List.replicate c2 [V.ref pt]).flatten.length ≤ 1 := by rw [allLen (dpRep tD7 c2), List.length_replicate]; omega
    refine ⟨p7, p8, x7, _, rfl, rfl, h87, h88, sz_of (by omega), fun p9 hp9 => ?_⟩
    have e9 := e8.trans (Ex.new (o := .lst (x7 ++ (List.replicate c2 [V.ref pt]).flatten)) hp9)
    have h99 : upd H8 p9 (.lst (x7 ++ (List.replicate c2 [V.ref pt]).flatten)) p9 = some (.lst (x7 ++ (List.replicate c2 [V.ref pt]).flatten)) := upd_same
    have n9d : p9 ≠ d := (Dk.of D7.st e8).st.ne hp9
    generalize upd H8 p9 (.lst (x7 ++ (List.replicate c2 [V.ref pt]).flatten)) = H9 at e9 h99 ⊢
    have D9 := Dk.of D7.st e9
    have A9 : DpAll K H9 (x7 ++ (List.replicate c2 [V.ref pt]).flatten) (((rs.take at0).map toI ++ od :: (rs.drop at0).map toI ++ List.replicate c2 ((0 : Int), (99 : Int))).map rI) := by
      rw [List.map_append, List.map_replicate]
      exact allApp (monoA e9 A7) (monoA e9 (dpRep tD7 c2))
    have R9 := toRm D9.st h99 n9d A9
    have hbl : ((rs.take at0).map toI ++ od :: (rs.drop at0).map toI ++ List.replicate c2 ((0 : Int), (99 : Int))).length ≤ 90 := by
      rw [List.length_append, List.length_append, List.length_cons, List.length_map, List.length_map, List.length_take, List.length_drop, List.length_replicate]; omega
    have hba : badA (n : Int) 0 ((rs.take at0).map toI ++ od :: (rs.drop at0).map toI ++ List.replicate c2 ((0 : Int), (99 : Int))) = some at0 := by
      rw [List.append_assoc, badA_pre 0 _ (fun r hr => hg.ok r (List.mem_of_mem_take hr)) (by rw [List.length_take]; omega), List.cons_append, badA_odd hbad, List.length_take, Nat.min_eq_left hat, Nat.zero_add]
    have D19 := (((D14.trans D5).trans D6).trans D7).trans D9
    generalize (rs.take at0).map toI ++ od :: (rs.drop at0).map toI ++ List.replicate c2 ((0 : Int), (99 : Int)) = bs at R9 hbl hba
    -- if _law_off(d, 4) == 0
    refine offCall (d := d) (m := 4) rfl (fun Q q => q) D9.st (by decide) fun r4 H10 hr40 hr41 D10 => ⟨rfl, _, rfl, ite2 (fun c => ?_) (fun c => ?_)⟩
    · refine ⟨by show 2 ≤ sizeLine; decide, fun pu hpu => ⟨by show 1 ≤ sizeLine; decide, fun pm hpm => ?_⟩⟩
      have eP := (Ex.new (o := .tup [.int 0, .int 0]) hpu).trans (Ex.new (o := .lst [.ref pu]) hpm)
      have hL : upd (upd H10 pu (.tup [.int 0, .int 0])) pm (.lst [.ref pu]) pm = some (.lst [.ref pu]) := upd_same
      have tD : Dp K (upd (upd H10 pu (.tup [.int 0, .int 0])) pm (.lst [.ref pu])) (.ref pu) (rI (0, 0)) := SB.mono (Ex.new hpm) (.tup (xs := [.int 0, .int 0]) (st_of upd_same) (.cons (.int 0) (.cons (.int 0) .nil)))
      have nLd : pm ≠ d := (Dk.of D10.st (Ex.new (o := .tup [.int 0, .int 0]) hpu)).st.ne hpm
      generalize upd (upd H10 pu (.tup [.int 0, .int 0])) pm (.lst [.ref pu]) = H11 at eP hL tD ⊢
      have D11 := Dk.of D10.st eP
      refine offCall (d := d) (m := 3) rfl (fun Q q => q) D11.st (by decide) fun k3 H12 hk0 hk1 D12' => ?_
      obtain ⟨c3, rfl⟩ : ∃ a : Nat, k3 = (a : Int) := ⟨k3.toNat, by omega⟩
      obtain ⟨sd, hsd, _⟩ := D11.st
      have tD12 : Dp K H12 (.ref pu) (rI (0, 0)) := SB.mono rmEx (SB.mono D12'.ex (dpRm hsd _ _ rfl tD))
      refine ⟨41, (c3 : Int), rfl, rfl, pm, 41 + (c3 : Int), [.ref pu], rfl, rfl, D12'.keep nLd hL, by omega, by omega, sz_of (by show 1 * (41 + (c3 : Int)).toNat ≤ _; omega), fun p13 hp13 => ?_⟩
      rw [show (41 + (c3 : Int)).toNat = 41 + c3 by omega]
      refine ⟨by show 2 ≤ sizeLine; decide, fun pT hpT => ?_⟩
      have e13 := Ex.new (o := .lst (List.replicate (41 + c3) [V.ref pu]).flatten) hp13
      have eT := Ex.new (o := .tup [.ref p13, .int 40]) hpT
      have D13 := Dk.of D12'.st (e13.trans eT)
      refine q (List.replicate (41 + c3) (0, 0)) 40 pT p13 _ (by rw [List.length_replicate]; omega) (by decide) (badA_many (by omega) _ 0 (by decide) (by omega)) ((((D19.trans D10).trans D11).trans D12').trans D13) upd_same (toRm D13.st (eT p13 _ upd_same) (D12'.st.ne hp13) ?_)
      rw [List.map_replicate]
      exact monoA (e13.trans eT) (dpRep tD12 _)
    · refine ⟨.ref p9, rfl, .int (at0 : Int), rfl, by show 2 ≤ sizeLine; decide, fun pT hpT => ?_⟩
      have D11 := Dk.of D10.st (Ex.new (o := .tup [.ref p9, .int (at0 : Int)]) hpT)
      exact q bs at0 pT p9 _ hbl (by omega) hba ((D19.trans D10).trans D11) upd_same (SB.mono (D10.trans D11).ex R9)
end

/-! ### lists of lambdas -/
/-- a def that may refuse, its contexts told -/
structure DefX (P : Program) (w : World) (K : PySem.W.Frag) (mg : Str → Option Value) (base : Heap) (k : Nat) (x : Str) (ps : List Str) (sp : Sp) : Prop where
  ex : ∃ f fd, FnOk P w K mg base (L2N.CX P w) k f fd ps sp ∧ mg x = some (.ref f) ∧ PySem.W.keepIn K (.ref f) = true ∧ Binds K fd ps []
theorem badS_pre {n : Int} {j a : Nat} {ss ts : List (List (Int × Int))} : ∀ i, badS n i ss = some (j, a) → badS n i (ss ++ ts) = some (j, a) := by
  induction ss with
  | nil => intro i h; cases h
  | cons s ss ih =>
    intro i h
    rw [List.cons_append]
    cases hb : badA n 0 s with
    | some b =>
      rw [badS_yes hb] at h ⊢
      exact h
    | none =>
      rw [badS_no hb] at h ⊢
      exact ih (i + 1) h
theorem refS_more {CZ CB : Addr} {z : Int} {ss ts : List (List (Int × Int))} {c : Ref} (h : refS CZ CB z ss c) : refS CZ CB z (ss ++ ts) c := by
  rcases h with h | ⟨h1, h2, j, a, h3, h4⟩
  · exact .inl h
  · exact .inr ⟨h1, h2, j, a, badS_pre 0 h3, h4⟩
section
variable {P : Program} {w : World} {K : PySem.W.Frag} {mg : Str → Option Value} {base : Heap}
abbrev scSing0 : Scope := { kind := .function, names := [("_law_ranges", .free), ("_law_size_here", .free), ("members", .globalImplicit)], isGenerator := false, isCoroutine := false }
theorem nsSing0 : NdefX.NScope ["_law_size_here", "_law_ranges"] [] ["_law_size_here", "_law_ranges"] scSing0 := NdefX.nscope_by (by decide +kernel)
theorem lsSing0 : LamX.LamS (defScope sLawSingle) scSing0 := LamX.lamS_by (by decide +kernel)
abbrev scSing1 : Scope := { kind := .function, names := [("_law_ranges", .free), ("_law_size_here", .free), ("plain", .globalImplicit)], isGenerator := false, isCoroutine := false }
theorem nsSing1 : NdefX.NScope ["_law_size_here", "_law_ranges"] [] ["_law_size_here", "_law_ranges"] scSing1 := NdefX.nscope_by (by decide +kernel)
theorem lsSing1 : LamX.LamS (defScope sLawSingle) scSing1 := LamX.lamS_by (by decide +kernel)
abbrev scSing2 : Scope := { kind := .function, names := [("_law_ranges", .free), ("_law_size_here", .free), ("others", .globalImplicit)], isGenerator := false, isCoroutine := false }
theorem nsSing2 : NdefX.NScope ["_law_size_here", "_law_ranges"] [] ["_law_size_here", "_law_ranges"] scSing2 := NdefX.nscope_by (by decide +kernel)
theorem lsSing2 : LamX.LamS (defScope sLawSingle) scSing2 := LamX.lamS_by (by decide +kernel)
abbrev scSing3 : Scope := { kind := .function, names := [("_law_ranges", .free), ("_law_size_here", .free), ("inside", .globalImplicit)], isGenerator := false, isCoroutine := false }
theorem nsSing3 : NdefX.NScope ["_law_size_here", "_law_ranges"] [] ["_law_size_here", "_law_ranges"] scSing3 := NdefX.nscope_by (by decide +kernel)
theorem lsSing3 : LamX.LamS (defScope sLawSingle) scSing3 := LamX.lamS_by (by decide +kernel)
abbrev scSing4 : Scope := { kind := .function, names := [("_law_ranges", .free), ("_law_size_here", .free), ("written", .globalImplicit)], isGenerator := false, isCoroutine := false }
theorem nsSing4 : NdefX.NScope ["_law_size_here", "_law_ranges"] [] ["_law_size_here", "_law_ranges"] scSing4 := NdefX.nscope_by (by decide +kernel)
theorem lsSing4 : LamX.LamS (defScope sLawSingle) scSing4 := LamX.lamS_by (by decide +kernel)
abbrev scSing5 : Scope := { kind := .function, names := [("_law_ranges", .free), ("_law_size_here", .free), ("joined", .globalImplicit)], isGenerator := false, isCoroutine := false }
theorem nsSing5 : NdefX.NScope ["_law_size_here", "_law_ranges"] [] ["_law_size_here", "_law_ranges"] scSing5 := NdefX.nscope_by (by decide +kernel)
theorem lsSing5 : LamX.LamS (defScope sLawSingle) scSing5 := LamX.lamS_by (by decide +kernel)
abbrev scSing6 : Scope := { kind := .function, names := [("_law_ranges", .free), ("_law_size_here", .free), ("common", .globalImplicit)], isGenerator := false, isCoroutine := false }
theorem nsSing6 : NdefX.NScope ["_law_size_here", "_law_ranges"] [] ["_law_size_here", "_law_ranges"] scSing6 := NdefX.nscope_by (by decide +kernel)
theorem lsSing6 : LamX.LamS (defScope sLawSingle) scSing6 := LamX.lamS_by (by decide +kernel)
abbrev scSing7 : Scope := { kind := .function, names := [("_law_ranges", .free), ("_law_size_here", .free), ("less", .globalImplicit)], isGenerator := false, isCoroutine := false }
theorem nsSing7 : NdefX.NScope ["_law_size_here", "_law_ranges"] [] ["_law_size_here", "_law_ranges"] scSing7 := NdefX.nscope_by (by decide +kernel)
theorem lsSing7 : LamX.LamS (defScope sLawSingle) scSing7 := LamX.lamS_by (by decide +kernel)
/-- eight refuse as c says, or five -/
def spSing (P : Program) (w : World) (K : PySem.W.Frag) (mg : Str → Option Value) (base : Heap) (T : List (Addr × Str)) (CZ CB : Addr) : Sp := fun vs H Q _ => ∃ (z : Int) (v : V) (bs : List (Int × Int)) (c : Ref), vs = [.int z, v] ∧ Dp K H v (sI bs) ∧ bs.length ≤ 90 ∧ refS CZ CB z [bs] c ∧ LamX.Tabs T H ∧
  ∀ (p : Addr) (fs : List Addr) (H' : Hp), fs.length ≤ 8 → LamX.ExtN H H' → LamX.Tabs T H' → H' p = some (.lst (fs.map V.ref)) → (∀ f ∈ fs, SY.WkM P w K mg base 9 c.1 c.2 H' f) → Q (.ref p) H'
theorem ok_Sing {fL c Pt CZ CB CN : Addr} {kV doc pm ct oc : Value} {an od : Option Addr} {osl : Array (Option Value)} {T : List (Addr × Str)}
    (lk : K.lookup fL = some ⟨oc, od, .func (PySem.W.fnOf "_law_single" "_law_single" (defArgs sLawSingle) (defBody sLawSingle) (defScope sLawSingle) .none kV doc pm an (.ref c) ct), osl⟩) (hcd : PySem.W.codeIn K (.ref c) "_law_single" = true) (TB : LamX.TabB base mg c Pt)
    (hm : (Pt, (("_law_single" : Str) ++ ".<locals>.") ++ "<lambda>") ∈ T) (hu : ∀ p ∈ T, p.1 = Pt → p.2 = (("_law_single" : Str) ++ ".<locals>.") ++ "<lambda>")
    (d0 : DefX P w K mg base 8 "members" ["size", "ranges"] (spEX K (RE1 CZ CB)))
    (d1 : DefX P w K mg base 8 "plain" ["size", "ranges"] (spNX K (RPlainX CZ CB)))
    (d2 : DefX P w K mg base 8 "others" ["size", "ranges"] (spEX K (RE1 CZ CB)))
    (d3 : DefX P w K mg base 8 "inside" ["size", "ranges", "number"] (spEX K (REi CZ CB CN)))
    (d4 : DefX P w K mg base 8 "written" ["size", "ranges"] (spEX K (RE1 CZ CB)))
    (d5 : DefX P w K mg base 8 "joined" ["size", "one", "other"] (spEX K (RE2 CZ CB)))
    (d6 : DefX P w K mg base 8 "common" ["size", "one", "other"] (spEX K (RE2 CZ CB)))
    (d7 : DefX P w K mg base 8 "less" ["size", "one", "other"] (spEX K (RE2 CZ CB))) :
    FnOk P w K mg base CX0 11 fL (PySem.W.fnOf "_law_single" "_law_single" (defArgs sLawSingle) (defBody sLawSingle) (defScope sLawSingle) .none kV doc pm an (.ref c) ct) ["_law_size_here", "_law_ranges"] (spSing P w K mg base T CZ CB) := by
  obtain ⟨f0, fd0, F0, g0, k0, b0⟩ := d0.ex
  obtain ⟨f1, fd1, F1, g1, k1, b1⟩ := d1.ex
  obtain ⟨f2, fd2, F2, g2, k2, b2⟩ := d2.ex
  obtain ⟨f3, fd3, F3, g3, k3, b3⟩ := d3.ex
  obtain ⟨f4, fd4, F4, g4, k4, b4⟩ := d4.ex
  obtain ⟨f5, fd5, F5, g5, k5, b5⟩ := d5.ex
  obtain ⟨f6, fd6, F6, g6, k6, b6⟩ := d6.ex
  obtain ⟨f7, fd7, F7, g7, k7, b7⟩ := d7.ex
  refine SY.fn_ofR (fr := ["_law_size_here", "_law_ranges"]) lk hcd scLawSingle (by decide +kernel) (fun vs H Q E h => ?_) (fun A outer s H vs Q E hr h => ?_)
  · obtain ⟨z, v, _, c, rfl, _⟩ := h
    rfl
  · obtain ⟨z, v, bs, cc, rfl, hv, hl, hc, hT, q⟩ := h
    have nd := scLawSingle.nd
    refine ⟨_, SY.psr_cons (ps_set (i := 2) nd rfl (.inl rfl) (pe_lst (pa_cons (SY.pe_lamN (T := T) (scope := scSing0) TB rfl hm hu lsSing0 rfl) pa_nil)))
      (SY.psr_cons (ps_expr (pe_bm PySem.F.plainAttrs_list PySem.F.slot_list_append PySem.F.type_list_append mt_append (pv 2) (pa_cons (SY.pe_lamN (T := T) (scope := scSing1) TB rfl hm hu lsSing1 rfl) pa_nil)))
      (SY.psr_cons (ps_expr (pe_bm PySem.F.plainAttrs_list PySem.F.slot_list_append PySem.F.type_list_append mt_append (pv 2) (pa_cons (SY.pe_lamN (T := T) (scope := scSing2) TB rfl hm hu lsSing2 rfl) pa_nil)))
      (SY.psr_cons (ps_expr (pe_bm PySem.F.plainAttrs_list PySem.F.slot_list_append PySem.F.type_list_append mt_append (pv 2) (pa_cons (SY.pe_lamN (T := T) (scope := scSing3) TB rfl hm hu lsSing3 rfl) pa_nil)))
      (SY.psr_cons (ps_expr (pe_bm PySem.F.plainAttrs_list PySem.F.slot_list_append PySem.F.type_list_append mt_append (pv 2) (pa_cons (SY.pe_lamN (T := T) (scope := scSing4) TB rfl hm hu lsSing4 rfl) pa_nil)))
      (SY.psr_cons (ps_expr (pe_bm PySem.F.plainAttrs_list PySem.F.slot_list_append PySem.F.type_list_append mt_append (pv 2) (pa_cons (SY.pe_lamN (T := T) (scope := scSing5) TB rfl hm hu lsSing5 rfl) pa_nil)))
      (SY.psr_cons (ps_expr (pe_bm PySem.F.plainAttrs_list PySem.F.slot_list_append PySem.F.type_list_append mt_append (pv 2) (pa_cons (SY.pe_lamN (T := T) (scope := scSing6) TB rfl hm hu lsSing6 rfl) pa_nil)))
      (SY.psr_cons (ps_expr (pe_bm PySem.F.plainAttrs_list PySem.F.slot_list_append PySem.F.type_list_append mt_append (pv 2) (pa_cons (SY.pe_lamN (T := T) (scope := scSing7) TB rfl hm hu lsSing7 rfl) pa_nil)))
      (SY.psr_ret (pv 2))))))))), ?_⟩
    refine ⟨hT, fun a0 c0 H1 eN0 T0 _ h0 hc0 => ⟨by show 1 ≤ sizeLine; decide, fun p hp => ?_⟩⟩
    have L0 := SY.Ls.one eN0 T0 hp SY.stbL (SY.lmOf h0 hc0)
    have l0 : ([a0] : List Addr).length ≤ 1 := Nat.le_refl 1
    generalize upd H1 p (.lst [.ref a0]) = Ha at L0 ⊢
    generalize [a0] = fs0 at L0 l0
    refine ⟨.ref p, rfl, .inl ⟨rfl, _, sq_of L0.lst⟩, L0.tab, fun a1 c1 H11 eN1 T1 _ h1 hc1 => ⟨p, _, .ref a1, rfl, rfl, eN1 p _ L0.lst (fun ps z => by cases z), sz_lt (by rw [List.length_map]; omega), ?_⟩⟩
    have L1 := L0.app eN1 T1 SY.stbL (SY.lmRm (eN1 p _ L0.lst (fun ps z => by cases z)) (SY.lmOf h1 hc1))
    have l1 : (fs0 ++ [a1]).length ≤ 2 := by rw [List.length_append]; show _ + 1 ≤ _; omega
    generalize upd H11 p (.lst (fs0.map V.ref ++ [.ref a1])) = H12 at L1 ⊢
    generalize fs0 ++ [a1] = fs1 at L1 l1
    refine ⟨.ref p, rfl, .inl ⟨rfl, _, sq_of L1.lst⟩, L1.tab, fun a2 c2 H21 eN2 T2 _ h2 hc2 => ⟨p, _, .ref a2, rfl, rfl, eN2 p _ L1.lst (fun ps z => by cases z), sz_lt (by rw [List.length_map]; omega), ?_⟩⟩
    have L2 := L1.app eN2 T2 SY.stbL (SY.lmRm (eN2 p _ L1.lst (fun ps z => by cases z)) (SY.lmOf h2 hc2))
    have l2 : (fs1 ++ [a2]).length ≤ 3 := by rw [List.length_append]; show _ + 1 ≤ _; omega
    generalize upd H21 p (.lst (fs1.map V.ref ++ [.ref a2])) = H22 at L2 ⊢
    generalize fs1 ++ [a2] = fs2 at L2 l2
    refine ⟨.ref p, rfl, .inl ⟨rfl, _, sq_of L2.lst⟩, L2.tab, fun a3 c3 H31 eN3 T3 _ h3 hc3 => ⟨p, _, .ref a3, rfl, rfl, eN3 p _ L2.lst (fun ps z => by cases z), sz_lt (by rw [List.length_map]; omega), ?_⟩⟩
    have L3 := L2.app eN3 T3 SY.stbL (SY.lmRm (eN3 p _ L2.lst (fun ps z => by cases z)) (SY.lmOf h3 hc3))
    have l3 : (fs2 ++ [a3]).length ≤ 4 := by rw [List.length_append]; show _ + 1 ≤ _; omega
    generalize upd H31 p (.lst (fs2.map V.ref ++ [.ref a3])) = H32 at L3 ⊢
    generalize fs2 ++ [a3] = fs3 at L3 l3
    refine ⟨.ref p, rfl, .inl ⟨rfl, _, sq_of L3.lst⟩, L3.tab, fun a4 c4 H41 eN4 T4 _ h4 hc4 => ⟨p, _, .ref a4, rfl, rfl, eN4 p _ L3.lst (fun ps z => by cases z), sz_lt (by rw [List.length_map]; omega), ?_⟩⟩
    have L4 := L3.app eN4 T4 SY.stbL (SY.lmRm (eN4 p _ L3.lst (fun ps z => by cases z)) (SY.lmOf h4 hc4))
    have l4 : (fs3 ++ [a4]).length ≤ 5 := by rw [List.length_append]; show _ + 1 ≤ _; omega
    generalize upd H41 p (.lst (fs3.map V.ref ++ [.ref a4])) = H42 at L4 ⊢
    generalize fs3 ++ [a4] = fs4 at L4 l4
    refine ⟨.ref p, rfl, .inl ⟨rfl, _, sq_of L4.lst⟩, L4.tab, fun a5 c5 H51 eN5 T5 _ h5 hc5 => ⟨p, _, .ref a5, rfl, rfl, eN5 p _ L4.lst (fun ps z => by cases z), sz_lt (by rw [List.length_map]; omega), ?_⟩⟩
    have L5 := L4.app eN5 T5 SY.stbL (SY.lmRm (eN5 p _ L4.lst (fun ps z => by cases z)) (SY.lmOf h5 hc5))
    have l5 : (fs4 ++ [a5]).length ≤ 6 := by rw [List.length_append]; show _ + 1 ≤ _; omega
    generalize upd H51 p (.lst (fs4.map V.ref ++ [.ref a5])) = H52 at L5 ⊢
    generalize fs4 ++ [a5] = fs5 at L5 l5
    refine ⟨.ref p, rfl, .inl ⟨rfl, _, sq_of L5.lst⟩, L5.tab, fun a6 c6 H61 eN6 T6 _ h6 hc6 => ⟨p, _, .ref a6, rfl, rfl, eN6 p _ L5.lst (fun ps z => by cases z), sz_lt (by rw [List.length_map]; omega), ?_⟩⟩
    have L6 := L5.app eN6 T6 SY.stbL (SY.lmRm (eN6 p _ L5.lst (fun ps z => by cases z)) (SY.lmOf h6 hc6))
    have l6 : (fs5 ++ [a6]).length ≤ 7 := by rw [List.length_append]; show _ + 1 ≤ _; omega
    generalize upd H61 p (.lst (fs5.map V.ref ++ [.ref a6])) = H62 at L6 ⊢
    generalize fs5 ++ [a6] = fs6 at L6 l6
    refine ⟨.ref p, rfl, .inl ⟨rfl, _, sq_of L6.lst⟩, L6.tab, fun a7 c7 H71 eN7 T7 _ h7 hc7 => ⟨p, _, .ref a7, rfl, rfl, eN7 p _ L6.lst (fun ps z => by cases z), sz_lt (by rw [List.length_map]; omega), ?_⟩⟩
    have L7 := L6.app eN7 T7 SY.stbL (SY.lmRm (eN7 p _ L6.lst (fun ps z => by cases z)) (SY.lmOf h7 hc7))
    have l7 : (fs6 ++ [a7]).length ≤ 8 := by rw [List.length_append]; show _ + 1 ≤ _; omega
    generalize upd H71 p (.lst (fs6.map V.ref ++ [.ref a7])) = H72 at L7 ⊢
    generalize fs6 ++ [a7] = fs7 at L7 l7
    refine ⟨.ref p, rfl, fun cs CC => ?_⟩
    have eA := SY.addEx CC.free
    refine q p fs7 _ (by omega) (L7.extN.trans (SY.exN eA)) (L7.tab.ext eA) (eA _ _ L7.lst) fun f hf H2 e2 => ?_
    have e02 := (SY.exN eA).trans e2
    have hpin : ∀ b o, cs.lookup b = some o → H2 b = some (SY.PinO b o) := fun b o z => e2 b _ (SY.addIn z) (fun ps y => by unfold SY.PinO at y; cases y)
    have eR : LamX.ExtN H (SY.rmP cs H2) := fun b o z y => by
      have z8 := L7.extN b o z y
      rw [SY.rmOut (SY.outN CC.free z8)]
      exact e02 b o z8 y
    have hv2 : Dp K (SY.rmP cs H2) v _ := SY.dpN eR _ _ hv
    obtain ⟨φ, hφ, hh⟩ := L7.here f hf
    rcases List.mem_cons.mp hφ with rfl | hφ
    · exact SY.workL (N := ["_law_size_here", "_law_ranges"]) (js := [0, 1]) hh e02 CC hpin nsSing7 lsSing7 (by decide +kernel) (by decide +kernel) rfl (fun c' pm ctv => rfl) fun c' A' outer' s' E' hr' hE => ⟨_, pe_call F7 hr' (by rfl) g7 k7 b7 .nil (L2N.passes_call (L2N.takes_of rfl rfl rfl rfl) (fun _ _ _ _ h => h)) (pa_cons (pv 0) (pa_cons (pv 1) (pa_cons (pe_lst (pa_cons (pe_tup (pa_cons pe_int (pa_cons pe_int pa_nil))) pa_nil)) pa_nil))), fun Q => xCallE (K := K) (R := RE2 CZ CB) (c := cc) (daCons (dVar rfl (.int z)) (da2 (dVar (v := v) rfl hv2) (nLst (da1 (dTup (da2 dInt dInt) (by show 2 ≤ 100000; decide))) (by show 1 ≤ 100000; decide)).asD)) ⟨z, bs, [(9, 0)], rfl, hl, by decide, refS_more (ts := [[(9, 0)]]) hc⟩ hE⟩
    rcases List.mem_cons.mp hφ with rfl | hφ
    · exact SY.workL (N := ["_law_size_here", "_law_ranges"]) (js := [0, 1]) hh e02 CC hpin nsSing6 lsSing6 (by decide +kernel) (by decide +kernel) rfl (fun c' pm ctv => rfl) fun c' A' outer' s' E' hr' hE => ⟨_, pe_call F6 hr' (by rfl) g6 k6 b6 .nil (L2N.passes_call (L2N.takes_of rfl rfl rfl rfl) (fun _ _ _ _ h => h)) (pa_cons (pv 0) (pa_cons (pv 1) (pa_cons (pe_lst (pa_cons (pe_tup (pa_cons pe_int (pa_cons pe_int pa_nil))) pa_nil)) pa_nil))), fun Q => xCallE (K := K) (R := RE2 CZ CB) (c := cc) (daCons (dVar rfl (.int z)) (da2 (dVar (v := v) rfl hv2) (nLst (da1 (dTup (da2 dInt dInt) (by show 2 ≤ 100000; decide))) (by show 1 ≤ 100000; decide)).asD)) ⟨z, bs, [(9, 0)], rfl, hl, by decide, refS_more (ts := [[(9, 0)]]) hc⟩ hE⟩
    rcases List.mem_cons.mp hφ with rfl | hφ
    · exact SY.workL (N := ["_law_size_here", "_law_ranges"]) (js := [0, 1]) hh e02 CC hpin nsSing5 lsSing5 (by decide +kernel) (by decide +kernel) rfl (fun c' pm ctv => rfl) fun c' A' outer' s' E' hr' hE => ⟨_, pe_call F5 hr' (by rfl) g5 k5 b5 .nil (L2N.passes_call (L2N.takes_of rfl rfl rfl rfl) (fun _ _ _ _ h => h)) (pa_cons (pv 0) (pa_cons (pv 1) (pa_cons (pe_lst (pa_cons (pe_tup (pa_cons pe_int (pa_cons pe_int pa_nil))) pa_nil)) pa_nil))), fun Q => xCallE (K := K) (R := RE2 CZ CB) (c := cc) (daCons (dVar rfl (.int z)) (da2 (dVar (v := v) rfl hv2) (nLst (da1 (dTup (da2 dInt dInt) (by show 2 ≤ 100000; decide))) (by show 1 ≤ 100000; decide)).asD)) ⟨z, bs, [(9, 0)], rfl, hl, by decide, refS_more (ts := [[(9, 0)]]) hc⟩ hE⟩
    rcases List.mem_cons.mp hφ with rfl | hφ
    · exact SY.workL (N := ["_law_size_here", "_law_ranges"]) (js := [0, 1]) hh e02 CC hpin nsSing4 lsSing4 (by decide +kernel) (by decide +kernel) rfl (fun c' pm ctv => rfl) fun c' A' outer' s' E' hr' hE => ⟨_, pe_call F4 hr' (by rfl) g4 k4 b4 .nil (L2N.passes_call (L2N.takes_of rfl rfl rfl rfl) (fun _ _ _ _ h => h)) (pa_cons (pv 0) (pa_cons (pv 1) pa_nil)), fun Q => xCallE (K := K) (R := RE1 CZ CB) (c := cc) (da2 (dVar rfl (.int z)) (dVar (v := v) rfl hv2)) ⟨z, bs, rfl, hl, hc⟩ hE⟩
    rcases List.mem_cons.mp hφ with rfl | hφ
    · exact SY.workL (N := ["_law_size_here", "_law_ranges"]) (js := [0, 1]) hh e02 CC hpin nsSing3 lsSing3 (by decide +kernel) (by decide +kernel) rfl (fun c' pm ctv => rfl) fun c' A' outer' s' E' hr' hE => ⟨_, pe_call F3 hr' (by rfl) g3 k3 b3 .nil (L2N.passes_call (L2N.takes_of rfl rfl rfl rfl) (fun _ _ _ _ h => h)) (pa_cons (pv 0) (pa_cons (pv 1) (pa_cons pe_int pa_nil))), fun Q => xCallE (K := K) (R := REi CZ CB CN) (c := cc) (daCons (dVar rfl (.int z)) (da2 (dVar (v := v) rfl hv2) dInt)) ⟨z, bs, 99, rfl, hl, .inl hc⟩ hE⟩
    rcases List.mem_cons.mp hφ with rfl | hφ
    · exact SY.workL (N := ["_law_size_here", "_law_ranges"]) (js := [0, 1]) hh e02 CC hpin nsSing2 lsSing2 (by decide +kernel) (by decide +kernel) rfl (fun c' pm ctv => rfl) fun c' A' outer' s' E' hr' hE => ⟨_, pe_call F2 hr' (by rfl) g2 k2 b2 .nil (L2N.passes_call (L2N.takes_of rfl rfl rfl rfl) (fun _ _ _ _ h => h)) (pa_cons (pv 0) (pa_cons (pv 1) pa_nil)), fun Q => xCallE (K := K) (R := RE1 CZ CB) (c := cc) (da2 (dVar rfl (.int z)) (dVar (v := v) rfl hv2)) ⟨z, bs, rfl, hl, hc⟩ hE⟩
    rcases List.mem_cons.mp hφ with rfl | hφ
    · exact SY.workL (N := ["_law_size_here", "_law_ranges"]) (js := [0, 1]) hh e02 CC hpin nsSing1 lsSing1 (by decide +kernel) (by decide +kernel) rfl (fun c' pm ctv => rfl) fun c' A' outer' s' E' hr' hE => ⟨_, pe_call F1 hr' (by rfl) g1 k1 b1 .nil (L2N.passes_call (L2N.takes_of rfl rfl rfl rfl) (fun _ _ _ _ h => h)) (pa_cons (pv 0) (pa_cons (pv 1) pa_nil)), fun Q => xCallN (K := K) (R := RPlainX CZ CB) (c := cc) (da2 (dVar rfl (.int z)) (dVar (v := v) rfl hv2)) ⟨z, bs, rfl, hl, .inl ⟨_, hc, rfl⟩⟩ hE⟩
    cases List.mem_singleton.mp hφ
    exact SY.workL (N := ["_law_size_here", "_law_ranges"]) (js := [0, 1]) hh e02 CC hpin nsSing0 lsSing0 (by decide +kernel) (by decide +kernel) rfl (fun c' pm ctv => rfl) fun c' A' outer' s' E' hr' hE => ⟨_, pe_call F0 hr' (by rfl) g0 k0 b0 .nil (L2N.passes_call (L2N.takes_of rfl rfl rfl rfl) (fun _ _ _ _ h => h)) (pa_cons (pv 0) (pa_cons (pv 1) pa_nil)), fun Q => xCallE (K := K) (R := RE1 CZ CB) (c := cc) (da2 (dVar rfl (.int z)) (dVar (v := v) rfl hv2)) ⟨z, bs, rfl, hl, hc⟩ hE⟩
abbrev scSev0 : Scope := { kind := .function, names := [("_law_sets", .free), ("_law_size_here", .free), ("classes", .globalImplicit)], isGenerator := false, isCoroutine := false }
theorem nsSev0 : NdefX.NScope ["_law_size_here", "_law_sets"] [] ["_law_size_here", "_law_sets"] scSev0 := NdefX.nscope_by (by decide +kernel)
theorem lsSev0 : LamX.LamS (defScope sLawSeveral) scSev0 := LamX.lamS_by (by decide +kernel)
abbrev scSev1 : Scope := { kind := .function, names := [("_law_sets", .free), ("_law_size_here", .free), ("class_row", .globalImplicit)], isGenerator := false, isCoroutine := false }
theorem nsSev1 : NdefX.NScope ["_law_size_here", "_law_sets"] [] ["_law_size_here", "_law_sets"] scSev1 := NdefX.nscope_by (by decide +kernel)
theorem lsSev1 : LamX.LamS (defScope sLawSeveral) scSev1 := LamX.lamS_by (by decide +kernel)
abbrev scSev2 : Scope := { kind := .function, names := [("_law_sets", .free), ("_law_size_here", .free), ("by_classes", .globalImplicit)], isGenerator := false, isCoroutine := false }
theorem nsSev2 : NdefX.NScope ["_law_size_here", "_law_sets"] [] ["_law_size_here", "_law_sets"] scSev2 := NdefX.nscope_by (by decide +kernel)
theorem lsSev2 : LamX.LamS (defScope sLawSeveral) scSev2 := LamX.lamS_by (by decide +kernel)
abbrev scSev3 : Scope := { kind := .function, names := [("_law_sets", .free), ("_law_size_here", .free), ("table", .globalImplicit)], isGenerator := false, isCoroutine := false }
theorem nsSev3 : NdefX.NScope ["_law_size_here", "_law_sets"] [] ["_law_size_here", "_law_sets"] scSev3 := NdefX.nscope_by (by decide +kernel)
theorem lsSev3 : LamX.LamS (defScope sLawSeveral) scSev3 := LamX.lamS_by (by decide +kernel)
abbrev scSev4 : Scope := { kind := .function, names := [("_law_sets", .free), ("_law_size_here", .free), ("least", .globalImplicit)], isGenerator := false, isCoroutine := false }
theorem nsSev4 : NdefX.NScope ["_law_size_here", "_law_sets"] [] ["_law_size_here", "_law_sets"] scSev4 := NdefX.nscope_by (by decide +kernel)
theorem lsSev4 : LamX.LamS (defScope sLawSeveral) scSev4 := LamX.lamS_by (by decide +kernel)
/-- eight refuse as c says, or five -/
def spSev (P : Program) (w : World) (K : PySem.W.Frag) (mg : Str → Option Value) (base : Heap) (T : List (Addr × Str)) (CZ CB : Addr) : Sp := fun vs H Q _ => ∃ (z : Int) (v : V) (sets : List (List (Int × Int))) (c : Ref), vs = [.int z, v] ∧ Dp K H v (.list (sets.map sI)) ∧ sets.length ≤ 20 ∧ (∀ s ∈ sets, s.length ≤ 90) ∧ refS CZ CB z sets c ∧ LamX.Tabs T H ∧
  ∀ (p : Addr) (fs : List Addr) (H' : Hp), fs.length ≤ 8 → LamX.ExtN H H' → LamX.Tabs T H' → H' p = some (.lst (fs.map V.ref)) → (∀ f ∈ fs, SY.WkM P w K mg base 9 c.1 c.2 H' f) → Q (.ref p) H'
theorem ok_Sev {fL c Pt CZ CB CN : Addr} {kV doc pm ct oc : Value} {an od : Option Addr} {osl : Array (Option Value)} {T : List (Addr × Str)}
    (lk : K.lookup fL = some ⟨oc, od, .func (PySem.W.fnOf "_law_several" "_law_several" (defArgs sLawSeveral) (defBody sLawSeveral) (defScope sLawSeveral) .none kV doc pm an (.ref c) ct), osl⟩) (hcd : PySem.W.codeIn K (.ref c) "_law_several" = true) (TB : LamX.TabB base mg c Pt)
    (hm : (Pt, (("_law_several" : Str) ++ ".<locals>.") ++ "<lambda>") ∈ T) (hu : ∀ p ∈ T, p.1 = Pt → p.2 = (("_law_several" : Str) ++ ".<locals>.") ++ "<lambda>")
    (d0 : DefX P w K mg base 8 "classes" ["size", "sets"] (spEX K (REs CZ CB)))
    (d1 : DefX P w K mg base 8 "class_row" ["size", "sets"] (spEX K (REs CZ CB)))
    (d2 : DefX P w K mg base 8 "by_classes" ["size", "sets"] (spEX K (REs CZ CB)))
    (d3 : DefX P w K mg base 8 "table" ["size", "sets", "wide"] (spEX K (REt CZ CB CN)))
    (d4 : DefX P w K mg base 8 "least" ["size", "sets"] (spEX K (REs CZ CB))) :
    FnOk P w K mg base CX0 11 fL (PySem.W.fnOf "_law_several" "_law_several" (defArgs sLawSeveral) (defBody sLawSeveral) (defScope sLawSeveral) .none kV doc pm an (.ref c) ct) ["_law_size_here", "_law_sets"] (spSev P w K mg base T CZ CB) := by
  obtain ⟨f0, fd0, F0, g0, k0, b0⟩ := d0.ex
  obtain ⟨f1, fd1, F1, g1, k1, b1⟩ := d1.ex
  obtain ⟨f2, fd2, F2, g2, k2, b2⟩ := d2.ex
  obtain ⟨f3, fd3, F3, g3, k3, b3⟩ := d3.ex
  obtain ⟨f4, fd4, F4, g4, k4, b4⟩ := d4.ex
  refine SY.fn_ofR (fr := ["_law_size_here", "_law_sets"]) lk hcd scLawSeveral (by decide +kernel) (fun vs H Q E h => ?_) (fun A outer s H vs Q E hr h => ?_)
  · obtain ⟨z, v, _, c, rfl, _⟩ := h
    rfl
  · obtain ⟨z, v, sets, cc, rfl, hv, hl, hs, hc, hT, q⟩ := h
    have nd := scLawSeveral.nd
    refine ⟨_, SY.psr_cons (ps_set (i := 2) nd rfl (.inl rfl) (pe_lst (pa_cons (SY.pe_lamN (T := T) (scope := scSev0) TB rfl hm hu lsSev0 rfl) pa_nil)))
      (SY.psr_cons (ps_expr (pe_bm PySem.F.plainAttrs_list PySem.F.slot_list_append PySem.F.type_list_append mt_append (pv 2) (pa_cons (SY.pe_lamN (T := T) (scope := scSev1) TB rfl hm hu lsSev1 rfl) pa_nil)))
      (SY.psr_cons (ps_expr (pe_bm PySem.F.plainAttrs_list PySem.F.slot_list_append PySem.F.type_list_append mt_append (pv 2) (pa_cons (SY.pe_lamN (T := T) (scope := scSev2) TB rfl hm hu lsSev2 rfl) pa_nil)))
      (SY.psr_cons (ps_expr (pe_bm PySem.F.plainAttrs_list PySem.F.slot_list_append PySem.F.type_list_append mt_append (pv 2) (pa_cons (SY.pe_lamN (T := T) (scope := scSev3) TB rfl hm hu lsSev3 rfl) pa_nil)))
      (SY.psr_cons (ps_expr (pe_bm PySem.F.plainAttrs_list PySem.F.slot_list_append PySem.F.type_list_append mt_append (pv 2) (pa_cons (SY.pe_lamN (T := T) (scope := scSev4) TB rfl hm hu lsSev4 rfl) pa_nil)))
      (SY.psr_ret (pv 2)))))), ?_⟩
    refine ⟨hT, fun a0 c0 H1 eN0 T0 _ h0 hc0 => ⟨by show 1 ≤ sizeLine; decide, fun p hp => ?_⟩⟩
    have L0 := SY.Ls.one eN0 T0 hp SY.stbL (SY.lmOf h0 hc0)
    have l0 : ([a0] : List Addr).length ≤ 1 := Nat.le_refl 1
    generalize upd H1 p (.lst [.ref a0]) = Ha at L0 ⊢
    generalize [a0] = fs0 at L0 l0
    refine ⟨.ref p, rfl, .inl ⟨rfl, _, sq_of L0.lst⟩, L0.tab, fun a1 c1 H11 eN1 T1 _ h1 hc1 => ⟨p, _, .ref a1, rfl, rfl, eN1 p _ L0.lst (fun ps z => by cases z), sz_lt (by rw [List.length_map]; omega), ?_⟩⟩
    have L1 := L0.app eN1 T1 SY.stbL (SY.lmRm (eN1 p _ L0.lst (fun ps z => by cases z)) (SY.lmOf h1 hc1))
    have l1 : (fs0 ++ [a1]).length ≤ 2 := by rw [List.length_append]; show _ + 1 ≤ _; omega
    generalize upd H11 p (.lst (fs0.map V.ref ++ [.ref a1])) = H12 at L1 ⊢
    generalize fs0 ++ [a1] = fs1 at L1 l1
    refine ⟨.ref p, rfl, .inl ⟨rfl, _, sq_of L1.lst⟩, L1.tab, fun a2 c2 H21 eN2 T2 _ h2 hc2 => ⟨p, _, .ref a2, rfl, rfl, eN2 p _ L1.lst (fun ps z => by cases z), sz_lt (by rw [List.length_map]; omega), ?_⟩⟩
    have L2 := L1.app eN2 T2 SY.stbL (SY.lmRm (eN2 p _ L1.lst (fun ps z => by cases z)) (SY.lmOf h2 hc2))
    have l2 : (fs1 ++ [a2]).length ≤ 3 := by rw [List.length_append]; show _ + 1 ≤ _; omega
    generalize upd H21 p (.lst (fs1.map V.ref ++ [.ref a2])) = H22 at L2 ⊢
    generalize fs1 ++ [a2] = fs2 at L2 l2
    refine ⟨.ref p, rfl, .inl ⟨rfl, _, sq_of L2.lst⟩, L2.tab, fun a3 c3 H31 eN3 T3 _ h3 hc3 => ⟨p, _, .ref a3, rfl, rfl, eN3 p _ L2.lst (fun ps z => by cases z), sz_lt (by rw [List.length_map]; omega), ?_⟩⟩
    have L3 := L2.app eN3 T3 SY.stbL (SY.lmRm (eN3 p _ L2.lst (fun ps z => by cases z)) (SY.lmOf h3 hc3))
    have l3 : (fs2 ++ [a3]).length ≤ 4 := by rw [List.length_append]; show _ + 1 ≤ _; omega
    generalize upd H31 p (.lst (fs2.map V.ref ++ [.ref a3])) = H32 at L3 ⊢
    generalize fs2 ++ [a3] = fs3 at L3 l3
    refine ⟨.ref p, rfl, .inl ⟨rfl, _, sq_of L3.lst⟩, L3.tab, fun a4 c4 H41 eN4 T4 _ h4 hc4 => ⟨p, _, .ref a4, rfl, rfl, eN4 p _ L3.lst (fun ps z => by cases z), sz_lt (by rw [List.length_map]; omega), ?_⟩⟩
    have L4 := L3.app eN4 T4 SY.stbL (SY.lmRm (eN4 p _ L3.lst (fun ps z => by cases z)) (SY.lmOf h4 hc4))
    have l4 : (fs3 ++ [a4]).length ≤ 5 := by rw [List.length_append]; show _ + 1 ≤ _; omega
    generalize upd H41 p (.lst (fs3.map V.ref ++ [.ref a4])) = H42 at L4 ⊢
    generalize fs3 ++ [a4] = fs4 at L4 l4
    refine ⟨.ref p, rfl, fun cs CC => ?_⟩
    have eA := SY.addEx CC.free
    refine q p fs4 _ (by omega) (L4.extN.trans (SY.exN eA)) (L4.tab.ext eA) (eA _ _ L4.lst) fun f hf H2 e2 => ?_
    have e02 := (SY.exN eA).trans e2
    have hpin : ∀ b o, cs.lookup b = some o → H2 b = some (SY.PinO b o) := fun b o z => e2 b _ (SY.addIn z) (fun ps y => by unfold SY.PinO at y; cases y)
    have eR : LamX.ExtN H (SY.rmP cs H2) := fun b o z y => by
      have z8 := L4.extN b o z y
      rw [SY.rmOut (SY.outN CC.free z8)]
      exact e02 b o z8 y
    have hv2 : Dp K (SY.rmP cs H2) v _ := SY.dpN eR _ _ hv
    obtain ⟨φ, hφ, hh⟩ := L4.here f hf
    rcases List.mem_cons.mp hφ with rfl | hφ
    · exact SY.workL (N := ["_law_size_here", "_law_sets"]) (js := [0, 1]) hh e02 CC hpin nsSev4 lsSev4 (by decide +kernel) (by decide +kernel) rfl (fun c' pm ctv => rfl) fun c' A' outer' s' E' hr' hE => ⟨_, pe_call F4 hr' (by rfl) g4 k4 b4 .nil (L2N.passes_call (L2N.takes_of rfl rfl rfl rfl) (fun _ _ _ _ h => h)) (pa_cons (pv 0) (pa_cons (pv 1) pa_nil)), fun Q => xCallE (K := K) (R := REs CZ CB) (c := cc) (da2 (dVar rfl (.int z)) (dVar (v := v) rfl hv2)) ⟨z, sets, rfl, hl, hs, hc⟩ hE⟩
    rcases List.mem_cons.mp hφ with rfl | hφ
    · exact SY.workL (N := ["_law_size_here", "_law_sets"]) (js := [0, 1]) hh e02 CC hpin nsSev3 lsSev3 (by decide +kernel) (by decide +kernel) rfl (fun c' pm ctv => rfl) fun c' A' outer' s' E' hr' hE => ⟨_, pe_call F3 hr' (by rfl) g3 k3 b3 .nil (L2N.passes_call (L2N.takes_of rfl rfl rfl rfl) (fun _ _ _ _ h => h)) (pa_cons (pv 0) (pa_cons (pv 1) (pa_cons pe_int pa_nil))), fun Q => xCallE (K := K) (R := REt CZ CB CN) (c := cc) (daCons (dVar rfl (.int z)) (da2 (dVar (v := v) rfl hv2) dInt)) ⟨z, sets, 0, rfl, hl, hs, .inl hc⟩ hE⟩
    rcases List.mem_cons.mp hφ with rfl | hφ
    · exact SY.workL (N := ["_law_size_here", "_law_sets"]) (js := [0, 1]) hh e02 CC hpin nsSev2 lsSev2 (by decide +kernel) (by decide +kernel) rfl (fun c' pm ctv => rfl) fun c' A' outer' s' E' hr' hE => ⟨_, pe_call F2 hr' (by rfl) g2 k2 b2 .nil (L2N.passes_call (L2N.takes_of rfl rfl rfl rfl) (fun _ _ _ _ h => h)) (pa_cons (pv 0) (pa_cons (pv 1) pa_nil)), fun Q => xCallE (K := K) (R := REs CZ CB) (c := cc) (da2 (dVar rfl (.int z)) (dVar (v := v) rfl hv2)) ⟨z, sets, rfl, hl, hs, hc⟩ hE⟩
    rcases List.mem_cons.mp hφ with rfl | hφ
    · exact SY.workL (N := ["_law_size_here", "_law_sets"]) (js := [0, 1]) hh e02 CC hpin nsSev1 lsSev1 (by decide +kernel) (by decide +kernel) rfl (fun c' pm ctv => rfl) fun c' A' outer' s' E' hr' hE => ⟨_, pe_call F1 hr' (by rfl) g1 k1 b1 .nil (L2N.passes_call (L2N.takes_of rfl rfl rfl rfl) (fun _ _ _ _ h => h)) (pa_cons (pv 0) (pa_cons (pv 1) pa_nil)), fun Q => xCallE (K := K) (R := REs CZ CB) (c := cc) (da2 (dVar rfl (.int z)) (dVar (v := v) rfl hv2)) ⟨z, sets, rfl, hl, hs, hc⟩ hE⟩
    cases List.mem_singleton.mp hφ
    exact SY.workL (N := ["_law_size_here", "_law_sets"]) (js := [0, 1]) hh e02 CC hpin nsSev0 lsSev0 (by decide +kernel) (by decide +kernel) rfl (fun c' pm ctv => rfl) fun c' A' outer' s' E' hr' hE => ⟨_, pe_call F0 hr' (by rfl) g0 k0 b0 .nil (L2N.passes_call (L2N.takes_of rfl rfl rfl rfl) (fun _ _ _ _ h => h)) (pa_cons (pv 0) (pa_cons (pv 1) pa_nil)), fun Q => xCallE (K := K) (R := REs CZ CB) (c := cc) (da2 (dVar rfl (.int z)) (dVar (v := v) rfl hv2)) ⟨z, sets, rfl, hl, hs, hc⟩ hE⟩
end

/-! ### the law of k01 -/
abbrev lamQ : Str := (("law" : Str) ++ ".<locals>.") ++ "<lambda>"
abbrev lsc0 : Scope := { kind := .function, names := [("_law_odd", .free), ("read", .globalImplicit)], isGenerator := false, isCoroutine := false }
theorem lns0 : NdefX.NScope ["_law_odd"] [] ["_law_odd"] lsc0 := NdefX.nscope_by (by decide +kernel)
theorem lls0 : LamX.LamS (defScope sLaw) lsc0 := LamX.lamS_by (by decide +kernel)
abbrev lsc1 : Scope := { kind := .function, names := [("_law_a", .local), ("_law_odd", .free), ("look", .globalImplicit)], isGenerator := false, isCoroutine := false }
theorem lns1 : NdefX.NScope ["_law_a", "_law_odd"] ["_law_a"] ["_law_odd"] lsc1 := NdefX.nscope_by (by decide +kernel)
theorem lls1 : SY.FreeS (defScope sLaw) lsc1 := by unfold SY.FreeS; decide +kernel
abbrev lsc2 : Scope := { kind := .function, names := [("_law_bad_here", .free), ("_law_ranges", .free), ("_law_size_here", .free), ("joined", .globalImplicit)], isGenerator := false, isCoroutine := false }
theorem lns2 : NdefX.NScope ["_law_size_here", "_law_ranges", "_law_bad_here"] [] ["_law_size_here", "_law_ranges", "_law_bad_here"] lsc2 := NdefX.nscope_by (by decide +kernel)
theorem lls2 : LamX.LamS (defScope sLaw) lsc2 := LamX.lamS_by (by decide +kernel)
abbrev lsc3 : Scope := { kind := .function, names := [("_law_a", .local), ("_law_bad_here", .free), ("_law_ranges", .free), ("_law_size_here", .free), ("common", .globalImplicit)], isGenerator := false, isCoroutine := false }
theorem lns3 : NdefX.NScope ["_law_a", "_law_size_here", "_law_ranges", "_law_bad_here"] ["_law_a"] ["_law_size_here", "_law_ranges", "_law_bad_here"] lsc3 := NdefX.nscope_by (by decide +kernel)
theorem lls3 : SY.FreeS (defScope sLaw) lsc3 := by unfold SY.FreeS; decide +kernel
abbrev lsc4 : Scope := { kind := .function, names := [("_law_b", .local), ("_law_bad_here", .free), ("_law_ranges", .free), ("_law_size_here", .free), ("less", .globalImplicit)], isGenerator := false, isCoroutine := false }
theorem lns4 : NdefX.NScope ["_law_b", "_law_size_here", "_law_ranges", "_law_bad_here"] ["_law_b"] ["_law_size_here", "_law_ranges", "_law_bad_here"] lsc4 := NdefX.nscope_by (by decide +kernel)
theorem lls4 : SY.FreeS (defScope sLaw) lsc4 := by unfold SY.FreeS; decide +kernel
abbrev lsc5 : Scope := { kind := .function, names := [("_law_far", .free), ("_law_ranges", .free), ("_law_size_here", .free), ("inside", .globalImplicit)], isGenerator := false, isCoroutine := false }
theorem lns5 : NdefX.NScope ["_law_size_here", "_law_ranges", "_law_far"] [] ["_law_size_here", "_law_ranges", "_law_far"] lsc5 := NdefX.nscope_by (by decide +kernel)
theorem lls5 : LamX.LamS (defScope sLaw) lsc5 := LamX.lamS_by (by decide +kernel)
abbrev lsc6 : Scope := { kind := .function, names := [("_law_a", .local), ("_law_far", .free), ("_law_found", .free), ("_law_size_here", .free), ("look", .globalImplicit)], isGenerator := false, isCoroutine := false }
theorem lns6 : NdefX.NScope ["_law_a", "_law_size_here", "_law_found", "_law_far"] ["_law_a"] ["_law_size_here", "_law_found", "_law_far"] lsc6 := NdefX.nscope_by (by decide +kernel)
theorem lls6 : SY.FreeS (defScope sLaw) lsc6 := by unfold SY.FreeS; decide +kernel
abbrev lsc7 : Scope := { kind := .function, names := [("_law_b", .local), ("_law_found", .free), ("_law_size_here", .free), ("look", .globalImplicit)], isGenerator := false, isCoroutine := false }
theorem lns7 : NdefX.NScope ["_law_b", "_law_size_here", "_law_found"] ["_law_b"] ["_law_size_here", "_law_found"] lsc7 := NdefX.nscope_by (by decide +kernel)
theorem lls7 : SY.FreeS (defScope sLaw) lsc7 := by unfold SY.FreeS; decide +kernel
abbrev lsc8 : Scope := { kind := .function, names := [("_law_c", .local), ("_law_found", .free), ("_law_size_here", .free), ("look", .globalImplicit)], isGenerator := false, isCoroutine := false }
theorem lns8 : NdefX.NScope ["_law_c", "_law_size_here", "_law_found"] ["_law_c"] ["_law_size_here", "_law_found"] lsc8 := NdefX.nscope_by (by decide +kernel)
theorem lls8 : SY.FreeS (defScope sLaw) lsc8 := by unfold SY.FreeS; decide +kernel
abbrev lsc9 : Scope := { kind := .function, names := [("_law_e", .local), ("_law_ranges", .free), ("_law_size_here", .free), ("table", .globalImplicit)], isGenerator := false, isCoroutine := false }
theorem lns9 : NdefX.NScope ["_law_e", "_law_size_here", "_law_ranges"] ["_law_e"] ["_law_size_here", "_law_ranges"] lsc9 := NdefX.nscope_by (by decide +kernel)
theorem lls9 : SY.FreeS (defScope sLaw) lsc9 := by unfold SY.FreeS; decide +kernel
abbrev lsc10 : Scope := { kind := .function, names := [("_law_f", .local), ("_law_size_here", .free), ("table", .globalImplicit)], isGenerator := false, isCoroutine := false }
theorem lns10 : NdefX.NScope ["_law_f", "_law_size_here"] ["_law_f"] ["_law_size_here"] lsc10 := NdefX.nscope_by (by decide +kernel)
theorem lls10 : SY.FreeS (defScope sLaw) lsc10 := by unfold SY.FreeS; decide +kernel
theorem cls_none : ∀ n : Nat, 1 ≤ n → n ≤ 64 → clsF [] n = [[(0, n - 1)]] := by
  have h : ∀ n, n < 65 → n = 0 ∨ clsF [] n = [[(0, n - 1)]] := by decide +kernel
  intro n h1 h2
  rcases h n (by omega) with z | z
  · omega
  · exact z
theorem told_none : ∀ n : Nat, n ≤ 64 → told (memB []) n = [] := by
  have h : ∀ n, n < 65 → told (memB []) n = [] := by decide +kernel
  intro n h2
  exact h n (by omega)
section
variable {P : Program} {w : World} {K : PySem.W.Frag} {mg : Str → Option Value} {base : Heap}
def spLawR (K : PySem.W.Frag) (T : List (Addr × Str)) : Sp := fun vs H Q _ => ∃ (a : Addr) (ns : List Int), vs = [.ref a] ∧ SqL K H a (ns.map V.int) ∧ ns.length ≤ 63 ∧ (∀ p ∈ T, H p.1 = some (.tbl #[])) ∧ ∀ H', Q (.bl true) H'
theorem neNil {D E : Addr} {H : Hp} {Q : VK} (hD : H D = some (.lst [])) (hE : H E = some (.lst [])) (k : Q (.bl false) H) : rNeD K (.ref D) (.ref E) H Q := ⟨.list [], .list [], .lst (sq_of hD) .nil, .lst (sq_of hE) .nil, rfl, rfl, k⟩
theorem tabDk {T : List (Addr × Str)} {H H' : Hp} {d : Addr} (D : Dk d H H') (hd : DSt H d) (hT : LamX.Tabs T H) : LamX.Tabs T H' := fun p hp => by
  obtain ⟨ps, h1, h2, h3⟩ := hT p hp
  obtain ⟨s, hs, _⟩ := hd
  have n1 : p.1 ≠ d := ne_of h1 hs (by intro z; cases z)
  refine ⟨ps, D.keep n1 h1, h2, fun pos cv hc => ?_⟩
  obtain ⟨c, e1, e2⟩ := h3 pos cv hc
  exact ⟨c, e1, D.keep (ne_of e2 hs (by intro z; cases z)) e2⟩
theorem dstEx {H H' : Hp} {d : Addr} (e : Ex H H') (h : DSt H d) : DSt H' d := (Dk.of h e).st
theorem dstN {H H' : Hp} {d : Addr} (e : LamX.ExtN H H') (h : DSt H d) : DSt H' d := by
  obtain ⟨s, h1, h2⟩ := h
  exact ⟨s, e _ _ h1 (fun ps z => by cases z), h2⟩

theorem badS_rep {n : Nat} {rs : List (Nat × Nat)} {bs : List (Int × Int)} {ts : List (List (Int × Int))} {ba : Nat} (hr : ∀ r ∈ rs, r.1 ≤ r.2 ∧ r.2 < n) (hl : rs.length ≤ 40) (hb : badA (n : Int) 0 bs = some ba) : ∀ (k j : Nat), badS (n : Int) j (List.replicate k (rs.map toI) ++ bs :: ts) = some (j + k, ba)
  | 0, j => by
    show badS (n : Int) j (bs :: ts) = some (j + 0, ba)
    rw [badS_yes hb]; rfl
  | k + 1, j => by
    rw [List.replicate_succ, List.cons_append, badS_no (badA_good 0 hr (by omega)), badS_rep hr hl hb k (j + 1), show j + 1 + k = j + (k + 1) by omega]

theorem q_comp {X : Cx} {fr : List Str} {tl : TE} {g : TG} {tt : TT} {te : TE} {vs : List Nat} {σ : L2.St} {H : Hp} {D : Ends} {tu tz : TS} (Φ : Addr → List V → Hp → Prop) (hl : ∀ R : VK, (∀ p xs H1, Φ p xs H1 → R (.ref p) H1) → tl σ H R) (hlst : ∀ p xs H1, Φ p xs H1 → H1 p = some (.lst xs))
    (hw : ∀ (p : Addr) (xs : List V) (H1 : Hp) (D : Addr) (cs : List (Addr × Obj)) (i : Nat) (x : V) (H' : Hp), Φ p xs H1 → H1 D = none → SY.CapC X fr σ (upd H1 D (.lst [])) cs → xs[i]? = some x → Ex (SY.addP cs (upd H1 D (.lst []))) H' → ∃ σ2, (∀ Q : L2.St → Hp → Prop, Q σ2 H' → g x (wipe σ vs) H' Q) ∧ wipe σ2 vs = wipe σ vs ∧ EvT tt σ2 H' false)
    (hn : ∀ p xs H1 G, Φ p xs H1 → Ex H1 G → tz D σ G) : tSeq (tIfS (tTest (tOp (rNeD K) (SY.tLcT X fr (iList K tl) g tt te vs) (tLst tNil))) tu tNext) tz D σ H := by
  have z : ∀ (p : Addr) (xs : List V) (H1 : Hp), Φ p xs H1 → ∀ (E : Addr) (H' : Hp), H1 E = none → Ex (upd H1 E (.lst [])) H' → tLst tNil σ H' fun y H2 => rNeD K (.ref E) y H2 fun v H3 => ∃ b, v = .bl b ∧ if b = true then tu { D with nx := tz D } σ H3 else tz D σ H3 := fun p xs H1 hΦ E H' nE eE =>
    ⟨by show 0 ≤ sizeLine; decide, fun pE hpE => neNil ((Ex.new hpE) E _ (eE E _ upd_same)) upd_same ⟨false, rfl, by rw [if_neg Bool.false_ne_true]; exact hn p xs H1 _ hΦ (((Ex.new nE).trans eE).trans (Ex.new hpE))⟩⟩
  exact hl _ fun p xs H1 hΦ => SY.lcT_none (X := X) (K := K) (fr := fr) (g := g) (tt := tt) (te := te) (vs := vs) (σ := σ) (Q := fun x H1 => tLst tNil σ H1 fun y H2 => rNeD K x y H2 fun v H3 => ∃ b, v = .bl b ∧ if b = true then tu { D with nx := tz D } σ H3 else tz D σ H3) (hlst p xs H1 hΦ) (fun D cs i x H' nD CC hx eH => hw p xs H1 D cs i x H' hΦ nD CC hx eH) (z p xs H1 hΦ)

theorem sizeOr {d : Addr} {σ : L2.St} {H : Hp} {D : Ends} {i : Nat} (hd : DSt H d) (h0 : σ[1]? = some (some (.ref d))) (k : ∀ (n : Nat) H', 1 ≤ n → n ≤ 64 → Dk d H H' → D.nx (σ.set i (some (.int (n : Int)))) H') :
    tAsg (tIf (tTest (tOp (rI0 fun i j => .bl (decide (j < i))) (tCall spOff [] E0 (tCons (tVar 1) (tCons (tC (.int 5)) tNil))) (tC (.int 0)))) (tCall spSize [] E0 (tCons (tVar 1) tNil)) (tOp (rI0 fun i j => .int (i + j)) (tC (.int 1)) (tCall spOff [] E0 (tCons (tVar 1) (tCons (tC (.int 2)) tNil))))) (gName i) D σ H := by
  refine offCall (d := d) (m := 5) h0 (fun Q q => q) hd (by decide) fun r H2 hr0 hr1 D2 => ⟨r, 0, rfl, rfl, _, rfl, ite2 (fun c => ?_) (fun c => ?_)⟩
  · exact ⟨.ref d, h0, d, rfl, D2.st, fun n H3 h1 h2 D3 => k n H3 h1 h2 (D2.trans D3)⟩
  · refine offCall (d := d) (m := 2) h0 (fun Q q => q) D2.st (by decide) fun r2 H3 hr20 hr21 D3 => ⟨1, r2, rfl, rfl, ?_⟩
    obtain ⟨n, hn⟩ : ∃ n : Nat, 1 + r2 = (n : Int) := ⟨(1 + r2).toNat, by omega⟩
    show gName i (.int (1 + r2)) σ H3 D.nx
    rw [hn]
    exact k n H3 (by omega) (by omega) (D2.trans D3)

theorem law_C {fL c Pt CZ CB CN : Addr} {T : List (Addr × Str)} {A : Around} {outer : List Env} {s : Shared} {H : Hp} {E : XK} (hr : Room 11 (A.deeper (envOfC "law" (defScope sLaw) s.heap.objs.size fL (.ref c))))
    (TB : LamX.TabB base mg c Pt) (hm : (Pt, lamQ) ∈ T) (hu : ∀ p ∈ T, p.1 = Pt → p.2 = lamQ)
    (dD : Def P w K mg base 11 "_law_dice" ["_law_script", "_law_k"] (spN K RDice)) (dOF : Def P w K mg base 11 "_law_off" ["_law_d", "_law_most"] spOff) (dZ : Def P w K mg base 11 "_law_size" ["_law_d"] spSize) (dS : Def P w K mg base 11 "_law_set" ["_law_d", "_law_size_here", "_law_most"] (spLSet K)) (dBD : Def P w K mg base 11 "_law_bad" ["_law_d", "_law_size_here", "_law_ranges"] (spBad K)) (dSG : Def P w K mg base 11 "_law_single" ["_law_size_here", "_law_ranges"] (spSing P w K mg base T CZ CB)) (dSV : Def P w K mg base 11 "_law_several" ["_law_size_here", "_law_sets"] (spSev P w K mg base T CZ CB)) (dRZ : Def P w K mg base 11 "_law_refused" ["_law_work", "_law_word", "_law_value"] (spRefE P w K mg base 9 "size" CZ)) (dRN : Def P w K mg base 11 "_law_refused" ["_law_work", "_law_word", "_law_value"] (spRefE P w K mg base 9 "number" CN)) (dRS : Def P w K mg base 11 "_law_refused" ["_law_work", "_law_word", "_law_value"] (spRefS P w K mg base 9 CB)) (dTB : Def P w K mg base 11 "table" ["size", "sets", "wide"] (spTabN K)) (dPL : Def P w K mg base 11 "plain" ["size", "ranges"] (spN K RPlain)) (dCL : Def P w K mg base 11 "classes" ["size", "sets"] (spPN K clsD))
    (xJ : DefX P w K mg base 8 "joined" ["size", "one", "other"] (spEX K (RE2 CZ CB))) (xC : DefX P w K mg base 8 "common" ["size", "one", "other"] (spEX K (RE2 CZ CB))) (xL : DefX P w K mg base 8 "less" ["size", "one", "other"] (spEX K (RE2 CZ CB))) (xI : DefX P w K mg base 8 "inside" ["size", "ranges", "number"] (spEX K (REi CZ CB CN))) (xK : DefX P w K mg base 8 "look" ["size", "told", "which", "number"] (spEX K (REl CZ CN))) (xT : DefX P w K mg base 8 "table" ["size", "sets", "wide"] (spEX K (REt CZ CB CN))) (xR : DefX P w K mg base 8 "read" ["size", "text"] (spEX K (REr CZ))) :
    ∃ t, PSs (cxOf CX0 P w K mg base nLaw "law" (defScope sLaw) fL (.ref c) A outer s H E).nox ((defBody sLaw).drop 15) t ∧ ∀ (G : Hp) (D : Ends) (a d pB pS : Addr) (n ba : Nat) (rs : List (Nat × Nat)) (b3 b4 b5 b9 : Option V), 1 ≤ n → n ≤ 64 → rs.length ≤ 39 → Good n rs → DSt G d → LamX.Tabs T G → Dp K (rm G d) (.ref pS) (sD rs) → (∀ H', D.rt (.bl true) H') → t D [some (.ref a), some (.ref d), some (.int (ba : Int)), b3, b4, b5, some (.ref pB), none, none, b9, some (.ref pS), some (.int (n : Int)), none, none, none, none, none, none] G := by
  obtain ⟨fDd, fdDd, FDd, gDd, kDd, bDd⟩ := dD.ex
  obtain ⟨fOFd, fdOFd, FOFd, gOFd, kOFd, bOFd⟩ := dOF.ex
  obtain ⟨fZd, fdZd, FZd, gZd, kZd, bZd⟩ := dZ.ex
  obtain ⟨fSd, fdSd, FSd, gSd, kSd, bSd⟩ := dS.ex
  obtain ⟨fBDd, fdBDd, FBDd, gBDd, kBDd, bBDd⟩ := dBD.ex
  obtain ⟨fSGd, fdSGd, FSGd, gSGd, kSGd, bSGd⟩ := dSG.ex
  obtain ⟨fSVd, fdSVd, FSVd, gSVd, kSVd, bSVd⟩ := dSV.ex
  obtain ⟨fRZd, fdRZd, FRZd, gRZd, kRZd, bRZd⟩ := dRZ.ex
  obtain ⟨fRNd, fdRNd, FRNd, gRNd, kRNd, bRNd⟩ := dRN.ex
  obtain ⟨fRSd, fdRSd, FRSd, gRSd, kRSd, bRSd⟩ := dRS.ex
  obtain ⟨fTBd, fdTBd, FTBd, gTBd, kTBd, bTBd⟩ := dTB.ex
  obtain ⟨fPLd, fdPLd, FPLd, gPLd, kPLd, bPLd⟩ := dPL.ex
  obtain ⟨fCLd, fdCLd, FCLd, gCLd, kCLd, bCLd⟩ := dCL.ex
  obtain ⟨fJx, fdJx, FJx, gJx, kJx, bJx⟩ := xJ.ex
  obtain ⟨fCx, fdCx, FCx, gCx, kCx, bCx⟩ := xC.ex
  obtain ⟨fLx, fdLx, FLx, gLx, kLx, bLx⟩ := xL.ex
  obtain ⟨fIx, fdIx, FIx, gIx, kIx, bIx⟩ := xI.ex
  obtain ⟨fKx, fdKx, FKx, gKx, kKx, bKx⟩ := xK.ex
  obtain ⟨fTx, fdTx, FTx, gTx, kTx, bTx⟩ := xT.ex
  obtain ⟨fRx, fdRx, FRx, gRx, kRx, bRx⟩ := xR.ex
  have hfr : ∀ y ∈ (["_law_odd", "_law_ranges", "_law_size_here", "_law_bad_here", "_law_far", "_law_found"] : List Str), true = true ∧ ((defScope sLaw).names.lookup y = some .cell ∨ (defScope sLaw).names.lookup y = some .free) := by decide +kernel
  have nd := scLaw.nd
  refine ⟨_, (pss_cons (ps_set (i := 7) nd rfl (.inr rfl) (pe_ix ix_list (pe_lst (pa_cons (pe_un un_neg pe_int) (pa_cons (pv 11) (pa_cons (pe_op op_add (pv 11) (pe_op op_pow pe_int pe_int)) pa_nil)))) (pe_call FOFd hr (by rfl) gOFd kOFd bOFd .nil pass0 (pa_cons (pv 1) (pa_cons pe_int pa_nil))) (fun _ _ => rfl)))
        (pss_cons (ps_set (i := 8) nd rfl (.inr rfl) (pe_call FTBd hr (by rfl) gTBd kTBd bTBd .nil pass0 (pa_cons (pv 11) (pa_cons (pe_lst (pa_cons (pv 10) pa_nil)) (pa_cons pe_int pa_nil)))))
        (pss_cons (ps_set (i := 3) nd rfl (.inl rfl) (pe_lst (pa_cons (SY.pe_lamN (T := T) (scope := lsc5) TB rfl hm hu lls5 rfl) (pa_cons (SY.pe_lamD (T := T) (scope := lsc6) (v0 := .int 0) TB rfl hm hu lls6 rfl rfl pe_int) pa_nil))))
        (pss_cons (ps_expr (pe_bm PySem.F.plainAttrs_list PySem.F.slot_list_append PySem.F.type_list_append mt_append (pv 3) (pa_cons (SY.pe_lamD (T := T) (scope := lsc7) (v0 := .int 0) TB rfl hm hu lls7 rfl rfl pe_int) pa_nil)))
        (pss_cons (ps_set (i := 3) nd rfl (.inl rfl) (pe_op op_cat (pv 3) (pe_lst (pa_cons (SY.pe_lamD (T := T) (scope := lsc8) (v0 := .int 0) TB rfl hm hu lls8 rfl rfl pe_int) (pa_cons (SY.pe_lamD (T := T) (scope := lsc9) (v0 := .int 0) TB rfl hm hu lls9 rfl rfl pe_int) pa_nil)))))
        (pss_cons (ps_expr (pe_bm PySem.F.plainAttrs_list PySem.F.slot_list_append PySem.F.type_list_append mt_append (pv 3) (pa_cons (SY.pe_lamD (T := T) (scope := lsc10) (v0 := .int 0) TB rfl hm hu lls10 rfl rfl pe_int) pa_nil)))
        (pss_cons (ps_if (pt_cmpR (r := rNeD K) (op_neD hr.units) (SY.pe_lcT (wi := iList K (tVar 3)) (fr := ["_law_odd", "_law_ranges", "_law_size_here", "_law_bad_here", "_law_far", "_law_found"]) (own := [("_law_work", 13)]) (g := gName 13) (tt := tNot (tB (tCall (spRefE P w K mg base 9 "number" CN) [] E0 (tCons (tVar 13) (tCons (tC (.str "number")) (tCons (tC (.int 0)) tNil)))))) (te := tVar 13) rfl nd (by exact pi_list (pv 3)) (blkOk_by (own := [("_law_work", 13)]) (N := nLaw) (sc := defScope sLaw) (by decide +kernel)) hfr (by decide +kernel) (by decide +kernel)
          (fun _ _ _ _ _ => pg_name (i := 13) nd rfl (Or.inl rfl)) (fun _ _ _ _ _ => pts_one (pt_not (pt_val (pe_call FRNd hr (by rfl) gRNd kRNd bRNd .nil pass0 (pa_cons (pv 13) (pa_cons pe_str (pa_cons pe_int pa_nil))))))) (fun _ _ _ _ _ => pv 13)) (pe_lst pa_nil) (nomark _)) (pss_one (ps_ret pe_bl)) pss_nil)
        (pss_one (ps_ret (pe_and (pe_cmpR (op_eqD hr.units) (pe_call FPLd hr (by rfl) gPLd kPLd bPLd .nil pass0 (pa_cons (pv 11) (pa_cons (pe_lst pa_nil) pa_nil))) (pe_lst pa_nil) (nomark _)) (pe_one (pe_cmpR (op_eqD hr.units) (pe_call FCLd hr (by rfl) gCLd kCLd bCLd .nil pass0 (pa_cons (pv 11) (pa_cons (pe_lst pa_nil) pa_nil))) (pe_lst (pa_cons (pe_lst (pa_cons (pe_tup (pa_cons pe_int (pa_cons (pe_op op_sub (pv 11) pe_int) pa_nil))) pa_nil)) pa_nil)) (nomark _))))))))))))), ?_⟩
  intro G4 D a d pB pS n ba rs b3 b4 b5 b9 hn1 hn64 hrl gR dG4 TG4 rR4 q
  have hn : 1 ≤ n ∧ n ≤ 64 := ⟨hn1, hn64⟩
  -- far
  have hM : (10 : Int) ^ (6 : Int).toNat = 1000000 := by decide
  refine ⟨1, rfl, .int (n : Int), rfl, .int (n : Int), rfl, 10, 6, rfl, rfl, ⟨by decide, by decide, by decide⟩, (n : Int), _, rfl, rfl, by show 3 ≤ sizeLine; decide, fun pq hpq => ?_⟩
  dsimp only
  rw [hM]
  have D4q := Dk.of dG4 (Ex.new (o := .lst [.int (-1), .int (n : Int), .int ((n : Int) + 1000000)]) hpq)
  have nqd : pq ≠ d := dG4.ne hpq
  refine offCall (d := d) (m := 3) rfl (fun Q q => q) D4q.st (by decide) fun j5 H10 hj0 hj1 D10 => ?_
  obtain ⟨far, hfa, hfar⟩ : ∃ far : Int, atI [V.int (-1), .int (n : Int), .int ((n : Int) + 1000000)] j5 = some (.int far) ∧ ¬ (0 ≤ far ∧ far < (n : Int)) := by
    obtain ⟨j, rfl⟩ : ∃ j : Nat, j5 = (j : Int) := ⟨j5.toNat, by omega⟩
    have hj : j < 3 := by omega
    match j, hj with
    | 0, _ => exact ⟨-1, atI_nat rfl, by omega⟩
    | 1, _ => exact ⟨(n : Int), atI_nat rfl, by omega⟩
    | 2, _ => exact ⟨(n : Int) + 1000000, atI_nat rfl, by omega⟩
  refine ⟨pq, _, j5, .int far, rfl, rfl, SqL.of (D10.keep nqd upd_same), hfa, ?_⟩
  have D4x := D4q.trans D10
  have T10 := tabDk D4x dG4 TG4
  have uR10 : Dp K H10 (.ref pS) (sD rs) := SB.mono rmEx (SB.mono D4x.ex rR4)
  -- found
  refine ⟨.int (n : Int), rfl, .ref pS, rfl, by show 1 ≤ sizeLine; decide, fun pl hpl => ⟨n, 1, [rs], .cons (.int _) (.cons (.lst (sq_of upd_same) (.cons (SB.mono (Ex.new hpl) uR10) .nil)) (.cons (.int _) .nil)), hn, ⟨by decide, hn1⟩, ⟨by show 1 ≤ 6; decide, fun r hr => by rw [List.mem_singleton.mp hr]; exact gR⟩, fun Tt tf tr ps H11 _ _ _ e11 hT1 hT2 hT3 hT4 _ _ _ _ => ?_⟩⟩
  have uF : Dp K H11 (.ref Tt) (tabD n 1 [rs]) := tabData hT1 hT2 hT3 hT4
  have e011 := (Ex.new (o := .lst [.ref pS]) hpl).trans e11
  have uR11 := SB.mono e011 uR10
  have T11 := LamX.Tabs.ext T10 e011
  obtain ⟨fD, rwD, efr, hfl⟩ : ∃ fD rwD, tabD n 1 [rs] = .tuple [.list fD, .list rwD] ∧ fD.length = 1 := ⟨_, _, rfl, by rw [List.length_map]; exact (tab_fits n 1 [rs]).1⟩
  rw [efr] at uF
  clear hT1 hT2 hT3 hT4 e11 efr
  -- numbers
  refine ⟨T11, fun fa ca Ha eNa Ta _ ha hca => ⟨Ta, fun fb cb tb2 ub Hb rb eNb Tb _ hb1 hcb htb => ⟨by show 2 ≤ sizeLine; decide, fun p3 hp3 => ?_⟩⟩⟩
  have L5 := SY.Ls.two (T := T) (H0 := H11) (eNa.trans eNb) Tb hp3 SY.stbL SY.stbD (SY.stbL _ _ _ eNb (SY.lmOf ha hca)) (SY.lmdOf rb hb1 hcb htb)
  generalize upd Hb p3 (.lst [.ref fa, .ref fb]) = Hc at L5 ⊢
  have ll5 : [fa, fb].length ≤ 2 := Nat.le_refl 2
  generalize [fa, fb] = fsE at L5 ll5
  refine ⟨.ref p3, rfl, .inl ⟨rfl, _, sq_of L5.lst⟩, L5.tab, fun fc cc' tc uc Hd rc eNd Td _ hc1 hcc htc => ⟨p3, _, .ref fc, rfl, rfl, eNd p3 _ L5.lst (fun ps z => by cases z), sz_lt (by rw [List.length_map]; omega), ?_⟩⟩
  have L6 := L5.app eNd Td SY.stbD (SY.lmdRm (eNd p3 _ L5.lst (fun ps z => by cases z)) (SY.lmdOf rc hc1 hcc htc))
  have ll6 : (fsE ++ [fc]).length ≤ 3 := by rw [List.length_append]; show _ + 1 ≤ _; omega
  generalize upd Hd p3 (.lst (fsE.map V.ref ++ [.ref fc])) = He at L6 ⊢
  generalize fsE ++ [fc] = fsF at L6 ll6
  refine ⟨.ref p3, rfl, L6.tab, fun fd' cd' td ud Hf rd eNf Tf _ hd1 hcd' htd => ⟨Tf, fun fe ce te' ue Hg re eNg Tg _ he1 hce hte => ⟨by show 2 ≤ sizeLine; decide, fun p4 hp4 => ?_⟩⟩⟩
  have eFG := eNf.trans eNg
  have hg3 := eFG p3 _ L6.lst (fun ps z => by cases z)
  refine ⟨p3, p4, _, _, rfl, rfl, (Ex.new hp4) _ _ hg3, upd_same, sz_of (by rw [List.length_map]; show _ + 2 ≤ _; omega), fun p5 hp5 => ?_⟩
  have e4' := SY.exN (Ex.new (o := .lst [.ref fd', .ref fe]) hp4)
  have L7 := L6.cat2 (eFG.trans e4') (LamX.Tabs.ext Tg (Ex.new hp4)) hp5 SY.stbD SY.stbD (SY.stbD _ _ _ (eNg.trans e4') (SY.lmdOf rd hd1 hcd' htd)) (SY.stbD _ _ _ e4' (SY.lmdOf re he1 hce hte))
  have ll7 : (fsF ++ [fd', fe]).length ≤ 5 := by rw [List.length_append]; show _ + 2 ≤ _; omega
  generalize upd (upd Hg p4 (.lst [.ref fd', .ref fe])) p5 (.lst (fsF.map V.ref ++ [.ref fd', .ref fe])) = Hh at L7 ⊢
  generalize fsF ++ [fd', fe] = fsG at L7 ll7
  refine ⟨.ref p5, rfl, .inl ⟨rfl, _, sq_of L7.lst⟩, L7.tab, fun fx cx tx ux Hi rx eNi Ti _ hx1 hcx htx => ⟨p5, _, .ref fx, rfl, rfl, eNi p5 _ L7.lst (fun ps z => by cases z), sz_lt (by rw [List.length_map]; omega), ?_⟩⟩
  have L8 := L7.app eNi Ti SY.stbD (SY.lmdRm (eNi p5 _ L7.lst (fun ps z => by cases z)) (SY.lmdOf rx hx1 hcx htx))
  generalize upd Hi p5 (.lst (fsG.map V.ref ++ [.ref fx])) = Hj at L8 ⊢
  generalize fsG ++ [fx] = fsH at L8
  try dsimp only
  refine q_comp (fun p xs H1 => p = p5 ∧ H1 = Hj ∧ xs = fsH.map V.ref) (fun R hR => ⟨.ref p5, rfl, hR p5 _ Hj ⟨rfl, rfl, rfl⟩⟩) (fun p xs H1 ⟨z1, z2, z3⟩ => by rw [z1, z2, z3]; exact L8.lst) (fun p xs H1 D cs i x H' ⟨z1, z2, z3⟩ nD CC hx eH => ?_) (fun p xs H1 G5 ⟨z1, z2, z3⟩ eG => ?_)
  · subst z1 z2 z3
    obtain ⟨f, hf, rfl⟩ := List.mem_map.mp (List.mem_of_getElem? hx)
    have eX : Ex H1 H' := ((Ex.new nD).trans (SY.addEx CC.free)).trans eH
    have hwk : ∀ H2, Ex H' H2 → SY.Work P w K mg base 9 H2 f CN none := fun H2 e2 => by
      have e02 := SY.exN (eX.trans e2)
      have hpin : ∀ b o, cs.lookup b = some o → H2 b = some (SY.PinO b o) := fun b o z => e2 _ _ (eH _ _ (SY.addIn z))
      have eRm : LamX.ExtN H11 (SY.rmP cs H2) := fun b o z y => by
        have z8 := (Ex.new (o := .lst []) nD) b o (L8.extN b o z y)
        rw [SY.rmOut (SY.outN CC.free z8)]
        exact (e2 _ _ (eH _ _ ((SY.addEx CC.free) _ _ z8)))
      have dRh : Dp K (SY.rmP cs H2) (.ref pS) (sD rs) := SY.dpN eRm _ _ uR11
      have uFh : Dp K (SY.rmP cs H2) (.ref Tt) (.tuple [.list fD, .list rwD]) := SY.dpN eRm _ _ uF
      obtain ⟨φ, hφ, hh⟩ := L8.here f hf
      rcases List.mem_cons.mp hφ with rfl | hφ
      · exact SY.workD (N := ["_law_f", "_law_size_here"]) (js := [11]) hh e02 (CC.sub (fr' := ["_law_size_here"]) (by decide +kernel)) hpin lns10 lls10 (by decide +kernel) (by decide +kernel) rfl (fun c' T0 u s doc pm ctv h => PySem.BindsTo.of_defaults rfl h rfl rfl rfl) fun c' A' outer' s' E' hr' hE => ⟨_, pe_call FTx hr' (by rfl) gTx kTx bTx .nil (L2N.passes_call (L2N.takes_of rfl rfl rfl rfl) (fun _ _ _ _ h => h)) (pa_cons (pv 1) (pa_cons (pe_lst pa_nil) (pa_cons pe_int pa_nil))), fun Q => xCallE (K := K) (R := REt CZ CB CN) (c := (CN, none)) (daCons (dVar (i := 1) rfl (.int (n : Int))) (da2 (nLst daNil (Nat.zero_le _)).asD dInt)) ⟨(n : Int), [], 0, rfl, Nat.zero_le _, (fun s hs => by cases hs), .inr ⟨n, [], rfl, by omega, by omega, rfl, (fun r hr => by cases hr), by omega, rfl⟩⟩ hE⟩
      rcases List.mem_cons.mp hφ with rfl | hφ
      · exact SY.workD (N := ["_law_c", "_law_size_here", "_law_found"]) (js := [11, 8]) hh e02 (CC.sub (fr' := ["_law_size_here", "_law_found"]) (by decide +kernel)) hpin lns8 lls8 (by decide +kernel) (by decide +kernel) rfl (fun c' T0 u s doc pm ctv h => PySem.BindsTo.of_defaults rfl h rfl rfl rfl) fun c' A' outer' s' E' hr' hE => ⟨_, pe_call FKx hr' (by rfl) gKx kKx bKx .nil (L2N.passes_call (L2N.takes_of rfl rfl rfl rfl) (fun _ _ _ _ h => h)) (pa_cons (pv 1) (pa_cons (pv 2) (pa_cons (pe_un un_neg pe_int) (pa_cons pe_int pa_nil)))), fun Q => xCallE (K := K) (R := REl CZ CN) (c := (CN, none)) (daCons (dVar (i := 1) rfl (.int (n : Int))) (daCons (dVar (i := 2) rfl uFh) (da2 (iD (evNeg 1)) dInt))) ⟨(n : Int), fD, rwD, -1, 0, rfl, .inr (.inl ⟨by omega, by omega, by omega, rfl⟩)⟩ hE⟩
      rcases List.mem_cons.mp hφ with rfl | hφ
      · exact SY.workD (N := ["_law_e", "_law_size_here", "_law_ranges"]) (js := [11, 10]) hh e02 (CC.sub (fr' := ["_law_size_here", "_law_ranges"]) (by decide +kernel)) hpin lns9 lls9 (by decide +kernel) (by decide +kernel) rfl (fun c' T0 u s doc pm ctv h => PySem.BindsTo.of_defaults rfl h rfl rfl rfl) fun c' A' outer' s' E' hr' hE => ⟨_, pe_call FTx hr' (by rfl) gTx kTx bTx .nil (L2N.passes_call (L2N.takes_of rfl rfl rfl rfl) (fun _ _ _ _ h => h)) (pa_cons (pv 1) (pa_cons (pe_lst (pa_cons (pv 2) pa_nil)) (pa_cons (pe_op op_add (pv 1) pe_int) pa_nil))), fun Q => xCallE (K := K) (R := REt CZ CB CN) (c := (CN, none)) (daCons (dVar (i := 1) rfl (.int (n : Int))) (da2 (nLst (da1 (dVar (i := 2) rfl dRh)) (by show 1 ≤ 100000; decide)).asD (iD (evAdd (ev_var (i := 1) (v := .int (n : Int)) rfl) (ev_c (v := .int 1)))))) ⟨(n : Int), [rs.map toI], (n : Int) + 1, by rw [← sI_sD]; rfl, by show 1 ≤ 20; decide, fun s hs => by rw [List.mem_singleton.mp hs, List.length_map]; omega, .inr ⟨n, [rs], rfl, by omega, by omega, rfl, fun r hr => by rw [List.mem_singleton.mp hr]; exact gR, by omega, rfl⟩⟩ hE⟩
      rcases List.mem_cons.mp hφ with rfl | hφ
      · exact SY.workD (N := ["_law_b", "_law_size_here", "_law_found"]) (js := [11, 8]) hh e02 (CC.sub (fr' := ["_law_size_here", "_law_found"]) (by decide +kernel)) hpin lns7 lls7 (by decide +kernel) (by decide +kernel) rfl (fun c' T0 u s doc pm ctv h => PySem.BindsTo.of_defaults rfl h rfl rfl rfl) fun c' A' outer' s' E' hr' hE => ⟨_, pe_call FKx hr' (by rfl) gKx kKx bKx .nil (L2N.passes_call (L2N.takes_of rfl rfl rfl rfl) (fun _ _ _ _ h => h)) (pa_cons (pv 1) (pa_cons (pv 2) (pa_cons pe_int (pa_cons pe_int pa_nil)))), fun Q => xCallE (K := K) (R := REl CZ CN) (c := (CN, none)) (daCons (dVar (i := 1) rfl (.int (n : Int))) (daCons (dVar (i := 2) rfl uFh) (da2 dInt dInt))) ⟨(n : Int), fD, rwD, 1, 0, rfl, .inr (.inl ⟨by omega, by omega, by rw [hfl]; omega, rfl⟩)⟩ hE⟩
      rcases List.mem_cons.mp hφ with rfl | hφ
      · exact SY.workL (N := ["_law_size_here", "_law_ranges", "_law_far"]) (js := [11, 10, 7]) hh e02 (CC.sub (fr' := ["_law_size_here", "_law_ranges", "_law_far"]) (by decide +kernel)) hpin lns5 lls5 (by decide +kernel) (by decide +kernel) rfl (fun c' pm ctv => rfl) fun c' A' outer' s' E' hr' hE => ⟨_, pe_call FIx hr' (by rfl) gIx kIx bIx .nil (L2N.passes_call (L2N.takes_of rfl rfl rfl rfl) (fun _ _ _ _ h => h)) (pa_cons (pv 0) (pa_cons (pv 1) (pa_cons (pv 2) pa_nil))), fun Q => xCallE (K := K) (R := REi CZ CB CN) (c := (CN, none)) (daCons (dVar (i := 0) rfl (.int (n : Int))) (da2 (dVar (i := 1) rfl dRh) (dVar (i := 2) rfl (.int far)))) ⟨(n : Int), rs.map toI, far, by rw [sI_sD], by rw [List.length_map]; omega, .inr ⟨n, rs, rfl, by omega, by omega, rfl, gR, hfar, rfl⟩⟩ hE⟩
      cases List.mem_singleton.mp hφ
      exact SY.workD (N := ["_law_a", "_law_size_here", "_law_found", "_law_far"]) (js := [11, 8, 7]) hh e02 (CC.sub (fr' := ["_law_size_here", "_law_found", "_law_far"]) (by decide +kernel)) hpin lns6 lls6 (by decide +kernel) (by decide +kernel) rfl (fun c' T0 u s doc pm ctv h => PySem.BindsTo.of_defaults rfl h rfl rfl rfl) fun c' A' outer' s' E' hr' hE => ⟨_, pe_call FKx hr' (by rfl) gKx kKx bKx .nil (L2N.passes_call (L2N.takes_of rfl rfl rfl rfl) (fun _ _ _ _ h => h)) (pa_cons (pv 1) (pa_cons (pv 2) (pa_cons pe_int (pa_cons (pv 3) pa_nil)))), fun Q => xCallE (K := K) (R := REl CZ CN) (c := (CN, none)) (daCons (dVar (i := 1) rfl (.int (n : Int))) (daCons (dVar (i := 2) rfl uFh) (da2 dInt (dVar (i := 3) rfl (.int far))))) ⟨(n : Int), fD, rwD, 0, far, rfl, .inr (.inr ⟨by omega, by omega, by omega, by rw [hfl]; omega, hfar, rfl⟩)⟩ hE⟩
    exact ⟨_, fun Q q => q, rfl, et_is (et_not (et_B (fun H2 e2 Q q => ⟨.ref f, rfl, f, .int 0, rfl, hwk H2 e2, fun H3 e3 => q H3 e3⟩))) rfl⟩
  subst z1 z2 z3
  have g0 : Good n [] := ⟨Nat.zero_le _, fun r hr => by cases hr⟩
  have E1 := eqD (K := K) (nCall (K := K) (E := E0) (R := RPlain) (σ := [some (.ref a), some (.ref d), some (.int (ba : Int)), some (.ref p), b4, b5, some (.ref pB), some (.int far), some (.ref Tt), b9, some (.ref pS), some (.int (n : Int)), none, none, none, none, none, none]) (H := G5) (da2 (dVar (i := 11) rfl (.int (n : Int))) (nLst daNil (Nat.zero_le _)).asD) (show RPlain _ [] from ⟨n, [], rfl, hn1, hn64, g0, by show ([] : List PyData) = (told (memB []) n).map rD; rw [told_none n hn64]; rfl⟩)).asD (nLst daNil (Nat.zero_le _)).asD rfl rfl
  have C1 : EvD K (tCall (spPN K clsD) [] E0 (tCons (tVar 11) (tCons (tLst tNil) tNil))) [some (.ref a), some (.ref d), some (.int (ba : Int)), some (.ref p), b4, b5, some (.ref pB), some (.int far), some (.ref Tt), b9, some (.ref pS), some (.int (n : Int)), none, none, none, none, none, none] G5 (ssD [[(0, n - 1)]]) := fun H1 e Q q => da2 (dVar (K := K) (i := 11) rfl (.int (n : Int))) (nLst daNil (Nat.zero_le _)).asD H1 e _ fun vs H2 e2 ha => ⟨n, [], by rw [List.append_nil]; exact ha, hn, ⟨Nat.zero_le _, fun r hr => by cases hr⟩, fun p ps H3 hp e3 h3 pr np nn => q _ H3 (e2.trans e3) (by
    have z := pr.dp
    unfold clsD at z
    rw [cls_none n hn1 hn64] at z
    exact .lst (sq_of h3) z)⟩
  have E2 := eqD (K := K) C1 (nLst (da1 (nLst (da1 (dTup (da2 dInt (iD (i := ((n - 1 : Nat) : Int)) (ev_is (evSub (ev_var (i := 11) (v := .int (n : Int)) rfl) (ev_c (v := .int 1))) (congrArg V.int (by omega))))) (by show 2 ≤ 100000; decide))) (by show 1 ≤ 100000; decide)).asD) (by show 1 ≤ 100000; decide)).asD (sh_ssD _) (sh_ssD [[(0, n - 1)]])
  exact s_ret (v := .bl true) (ev_is (ev_andV (a := true) (b := true) (ev_is E1 (congrArg V.bl (eqvSame (d := .list []) rfl))) (fun _ => ev_is E2 (congrArg V.bl (eqvSame (sh_ssD [[(0, n - 1)]]))))) rfl) fun H' _ => q H'
theorem law_B {fL c Pt CZ CB CN : Addr} {T : List (Addr × Str)} {A : Around} {outer : List Env} {s : Shared} {H : Hp} {E : XK} (hr : Room 11 (A.deeper (envOfC "law" (defScope sLaw) s.heap.objs.size fL (.ref c))))
    (TB : LamX.TabB base mg c Pt) (hm : (Pt, lamQ) ∈ T) (hu : ∀ p ∈ T, p.1 = Pt → p.2 = lamQ)
    (dD : Def P w K mg base 11 "_law_dice" ["_law_script", "_law_k"] (spN K RDice)) (dOF : Def P w K mg base 11 "_law_off" ["_law_d", "_law_most"] spOff) (dZ : Def P w K mg base 11 "_law_size" ["_law_d"] spSize) (dS : Def P w K mg base 11 "_law_set" ["_law_d", "_law_size_here", "_law_most"] (spLSet K)) (dBD : Def P w K mg base 11 "_law_bad" ["_law_d", "_law_size_here", "_law_ranges"] (spBad K)) (dSG : Def P w K mg base 11 "_law_single" ["_law_size_here", "_law_ranges"] (spSing P w K mg base T CZ CB)) (dSV : Def P w K mg base 11 "_law_several" ["_law_size_here", "_law_sets"] (spSev P w K mg base T CZ CB)) (dRZ : Def P w K mg base 11 "_law_refused" ["_law_work", "_law_word", "_law_value"] (spRefE P w K mg base 9 "size" CZ)) (dRN : Def P w K mg base 11 "_law_refused" ["_law_work", "_law_word", "_law_value"] (spRefE P w K mg base 9 "number" CN)) (dRS : Def P w K mg base 11 "_law_refused" ["_law_work", "_law_word", "_law_value"] (spRefS P w K mg base 9 CB)) (dTB : Def P w K mg base 11 "table" ["size", "sets", "wide"] (spTabN K)) (dPL : Def P w K mg base 11 "plain" ["size", "ranges"] (spN K RPlain)) (dCL : Def P w K mg base 11 "classes" ["size", "sets"] (spPN K clsD))
    (xJ : DefX P w K mg base 8 "joined" ["size", "one", "other"] (spEX K (RE2 CZ CB))) (xC : DefX P w K mg base 8 "common" ["size", "one", "other"] (spEX K (RE2 CZ CB))) (xL : DefX P w K mg base 8 "less" ["size", "one", "other"] (spEX K (RE2 CZ CB))) (xI : DefX P w K mg base 8 "inside" ["size", "ranges", "number"] (spEX K (REi CZ CB CN))) (xK : DefX P w K mg base 8 "look" ["size", "told", "which", "number"] (spEX K (REl CZ CN))) (xT : DefX P w K mg base 8 "table" ["size", "sets", "wide"] (spEX K (REt CZ CB CN))) (xR : DefX P w K mg base 8 "read" ["size", "text"] (spEX K (REr CZ))) :
    ∃ t, PSs (cxOf CX0 P w K mg base nLaw "law" (defScope sLaw) fL (.ref c) A outer s H E).nox ((defBody sLaw).drop 9) t ∧ ∀ (G : Hp) (D : Ends) (a d pB pS : Addr) (n ba : Nat) (rs : List (Nat × Nat)) (bs : List (Int × Int)) (b3 b9 : Option V), 1 ≤ n → n ≤ 64 → rs.length ≤ 39 → Good n rs → bs.length ≤ 90 → badA (n : Int) 0 bs = some ba → DSt G d → LamX.Tabs T G → Dp K (rm G d) (.ref pS) (sD rs) → Dp K (rm G d) (.ref pB) (sI bs) → (∀ H', D.rt (.bl true) H') → t D [some (.ref a), some (.ref d), some (.int (ba : Int)), b3, none, none, some (.ref pB), none, none, b9, some (.ref pS), some (.int (n : Int)), none, none, none, none, none, none] G := by
  obtain ⟨fDd, fdDd, FDd, gDd, kDd, bDd⟩ := dD.ex
  obtain ⟨fOFd, fdOFd, FOFd, gOFd, kOFd, bOFd⟩ := dOF.ex
  obtain ⟨fZd, fdZd, FZd, gZd, kZd, bZd⟩ := dZ.ex
  obtain ⟨fSd, fdSd, FSd, gSd, kSd, bSd⟩ := dS.ex
  obtain ⟨fBDd, fdBDd, FBDd, gBDd, kBDd, bBDd⟩ := dBD.ex
  obtain ⟨fSGd, fdSGd, FSGd, gSGd, kSGd, bSGd⟩ := dSG.ex
  obtain ⟨fSVd, fdSVd, FSVd, gSVd, kSVd, bSVd⟩ := dSV.ex
  obtain ⟨fRZd, fdRZd, FRZd, gRZd, kRZd, bRZd⟩ := dRZ.ex
  obtain ⟨fRNd, fdRNd, FRNd, gRNd, kRNd, bRNd⟩ := dRN.ex
  obtain ⟨fRSd, fdRSd, FRSd, gRSd, kRSd, bRSd⟩ := dRS.ex
  obtain ⟨fTBd, fdTBd, FTBd, gTBd, kTBd, bTBd⟩ := dTB.ex
  obtain ⟨fPLd, fdPLd, FPLd, gPLd, kPLd, bPLd⟩ := dPL.ex
  obtain ⟨fCLd, fdCLd, FCLd, gCLd, kCLd, bCLd⟩ := dCL.ex
  obtain ⟨fJx, fdJx, FJx, gJx, kJx, bJx⟩ := xJ.ex
  obtain ⟨fCx, fdCx, FCx, gCx, kCx, bCx⟩ := xC.ex
  obtain ⟨fLx, fdLx, FLx, gLx, kLx, bLx⟩ := xL.ex
  obtain ⟨fIx, fdIx, FIx, gIx, kIx, bIx⟩ := xI.ex
  obtain ⟨fKx, fdKx, FKx, gKx, kKx, bKx⟩ := xK.ex
  obtain ⟨fTx, fdTx, FTx, gTx, kTx, bTx⟩ := xT.ex
  obtain ⟨fRx, fdRx, FRx, gRx, kRx, bRx⟩ := xR.ex
  have hfr : ∀ y ∈ (["_law_odd", "_law_ranges", "_law_size_here", "_law_bad_here", "_law_far", "_law_found"] : List Str), true = true ∧ ((defScope sLaw).names.lookup y = some .cell ∨ (defScope sLaw).names.lookup y = some .free) := by decide +kernel
  have nd := scLaw.nd
  obtain ⟨tLC, hC, qC⟩ := law_C (A := A) (outer := outer) (s := s) (H := H) (E := E) hr TB hm hu dD dOF dZ dS dBD dSG dSV dRZ dRN dRS dTB dPL dCL xJ xC xL xI xK xT xR
  refine ⟨_, (pss_cons (ps_set (i := 3) nd rfl (.inl rfl) (pe_lst (pa_cons (SY.pe_lamN (T := T) (scope := lsc2) TB rfl hm hu lls2 rfl) (pa_cons (SY.pe_lamD (T := T) (scope := lsc3) (v0 := .int 0) TB rfl hm hu lls3 rfl rfl pe_int) pa_nil))))
        (pss_cons (ps_expr (pe_bm PySem.F.plainAttrs_list PySem.F.slot_list_append PySem.F.type_list_append mt_append (pv 3) (pa_cons (SY.pe_lamD (T := T) (scope := lsc4) (v0 := .int 0) TB rfl hm hu lls4 rfl rfl pe_int) pa_nil)))
        (pss_cons (ps_if (pt_cmpR (r := rNeD K) (op_neD hr.units) (SY.pe_lcT (wi := iList K (tVar 3)) (fr := ["_law_odd", "_law_ranges", "_law_size_here", "_law_bad_here", "_law_far", "_law_found"]) (own := [("_law_work", 13)]) (g := gName 13) (tt := tNot (tB (tCall (spRefS P w K mg base 9 CB) [] E0 (tCons (tVar 13) (tCons (tC (.str "set")) (tCons (tTup (tCons (tC (.int 1)) (tCons (tVar 2) tNil))) tNil)))))) (te := tVar 13) rfl nd (by exact pi_list (pv 3)) (blkOk_by (own := [("_law_work", 13)]) (N := nLaw) (sc := defScope sLaw) (by decide +kernel)) hfr (by decide +kernel) (by decide +kernel)
          (fun _ _ _ _ _ => pg_name (i := 13) nd rfl (Or.inl rfl)) (fun _ _ _ _ _ => pts_one (pt_not (pt_val (pe_call FRSd hr (by rfl) gRSd kRSd bRSd .nil pass0 (pa_cons (pv 13) (pa_cons pe_str (pa_cons (pe_tup (pa_cons pe_int (pa_cons (pv 2) pa_nil))) pa_nil))))))) (fun _ _ _ _ _ => pv 13)) (pe_lst pa_nil) (nomark _)) (pss_one (ps_ret pe_bl)) pss_nil)
        (pss_cons (ps_set (i := 4) nd rfl (.inr rfl) (pe_call FOFd hr (by rfl) gOFd kOFd bOFd .nil pass0 (pa_cons (pv 1) (pa_cons pe_int pa_nil))))
        (pss_cons (ps_set (i := 5) nd rfl (.inl rfl) (pe_op op_cat (pe_op op_cat (pe_op op_rep (pe_lst (pa_cons (pv 10) pa_nil)) (pv 4)) (pe_lst (pa_cons (pv 6) pa_nil))) (pe_op op_rep (pe_lst (pa_cons (pe_lst (pa_cons (pe_tup (pa_cons pe_int (pa_cons pe_int pa_nil))) pa_nil)) pa_nil)) (pe_call FOFd hr (by rfl) gOFd kOFd bOFd .nil pass0 (pa_cons (pv 1) (pa_cons pe_int pa_nil))))))
        (pss_cons (ps_if (pt_cmpR (r := rNeD K) (op_neD hr.units) (SY.pe_lcT (wi := iList K (tCall (spSev P w K mg base T CZ CB) [] E0 (tCons (tVar 11) (tCons (tVar 5) tNil)))) (fr := ["_law_odd", "_law_ranges", "_law_size_here", "_law_bad_here", "_law_far", "_law_found"]) (own := [("_law_work", 13)]) (g := gName 13) (tt := tNot (tB (tCall (spRefS P w K mg base 9 CB) [] E0 (tCons (tVar 13) (tCons (tC (.str "set")) (tCons (tTup (tCons (tVar 4) (tCons (tVar 2) tNil))) tNil)))))) (te := tVar 13) rfl nd (by exact pi_list (pe_call FSVd hr (by rfl) gSVd kSVd bSVd .nil pass0 (pa_cons (pv 11) (pa_cons (pv 5) pa_nil)))) (blkOk_by (own := [("_law_work", 13)]) (N := nLaw) (sc := defScope sLaw) (by decide +kernel)) hfr (by decide +kernel) (by decide +kernel)
          (fun _ _ _ _ _ => pg_name (i := 13) nd rfl (Or.inl rfl)) (fun _ _ _ _ _ => pts_one (pt_not (pt_val (pe_call FRSd hr (by rfl) gRSd kRSd bRSd .nil pass0 (pa_cons (pv 13) (pa_cons pe_str (pa_cons (pe_tup (pa_cons (pv 4) (pa_cons (pv 2) pa_nil))) pa_nil))))))) (fun _ _ _ _ _ => pv 13)) (pe_lst pa_nil) (nomark _)) (pss_one (ps_ret pe_bl)) pss_nil)
        hC)))))), ?_⟩
  intro G2 D a d pB pS n ba rs bs b3 b9 hn1 hn64 hrl gR hbl hbad dG2 TG2 rR2 rB2 q
  have hrs := gR.ok
  have uR2 : Dp K G2 (.ref pS) (sD rs) := SB.mono rmEx rR2
  have uB2 : Dp K G2 (.ref pB) (sI bs) := SB.mono rmEx rB2
  -- two sets
  refine ⟨TG2, fun fa ca H7 eN7 T7 _ ha hca => ⟨T7, fun fb cb tb2 ub H8 rb eN8 T8 _ hb1 hcb htb => ⟨by show 2 ≤ sizeLine; decide, fun p3 hp3 => ?_⟩⟩⟩
  have L2 := SY.Ls.two (T := T) (H0 := G2) (eN7.trans eN8) T8 hp3 SY.stbL SY.stbD (SY.stbL _ _ _ eN8 (SY.lmOf ha hca)) (SY.lmdOf rb hb1 hcb htb)
  generalize upd H8 p3 (.lst [.ref fa, .ref fb]) = H9 at L2 ⊢
  have ll2 : [fa, fb].length ≤ 2 := Nat.le_refl 2
  generalize [fa, fb] = fsC at L2 ll2
  refine ⟨.ref p3, rfl, .inl ⟨rfl, _, sq_of L2.lst⟩, L2.tab, fun fc cc' tc uc H11 rc eN11 T11 _ hc1 hcc htc => ⟨p3, _, .ref fc, rfl, rfl, eN11 p3 _ L2.lst (fun ps z => by cases z), sz_lt (by rw [List.length_map]; omega), ?_⟩⟩
  have L3 := L2.app eN11 T11 SY.stbD (SY.lmdRm (eN11 p3 _ L2.lst (fun ps z => by cases z)) (SY.lmdOf rc hc1 hcc htc))
  generalize upd H11 p3 (.lst (fsC.map V.ref ++ [.ref fc])) = H12' at L3 ⊢
  generalize fsC ++ [fc] = fsD at L3
  have hbad2 : badS (n : Int) 0 [rs.map toI, bs] = some (1, ba) := by rw [badS_no (badA_good 0 hrs (by omega)), badS_yes hbad]
  try dsimp only
  refine q_comp (fun p xs H1 => p = p3 ∧ H1 = H12' ∧ xs = fsD.map V.ref) (fun R hR => ⟨.ref p3, rfl, hR p3 _ H12' ⟨rfl, rfl, rfl⟩⟩) (fun p xs H1 ⟨z1, z2, z3⟩ => by rw [z1, z2, z3]; exact L3.lst) (fun p xs H1 D cs i x H' ⟨z1, z2, z3⟩ nD CC hx eH => ?_) (fun p xs H1 G3 ⟨z1, z2, z3⟩ eG => ?_)
  · subst z1 z2 z3
    obtain ⟨f, hf, rfl⟩ := List.mem_map.mp (List.mem_of_getElem? hx)
    have eX : Ex H1 H' := ((Ex.new nD).trans (SY.addEx CC.free)).trans eH
    have hwk : ∀ H2, Ex H' H2 → SY.Work P w K mg base 9 H2 f CB (some (fsBS 1 ba)) := fun H2 e2 => by
      have e02 := SY.exN (eX.trans e2)
      have hpin : ∀ b o, cs.lookup b = some o → H2 b = some (SY.PinO b o) := fun b o z => e2 _ _ (eH _ _ (SY.addIn z))
      have eRm : LamX.ExtN G2 (SY.rmP cs H2) := fun b o z y => by
        have z8 := (Ex.new (o := .lst []) nD) b o (L3.extN b o z y)
        rw [SY.rmOut (SY.outN CC.free z8)]
        exact (e2 _ _ (eH _ _ ((SY.addEx CC.free) _ _ z8)))
      have dRh : Dp K (SY.rmP cs H2) (.ref pS) (sD rs) := SY.dpN eRm _ _ uR2
      have uBh : Dp K (SY.rmP cs H2) (.ref pB) (sI bs) := SY.dpN eRm _ _ uB2
      obtain ⟨φ, hφ, hh⟩ := L3.here f hf
      rcases List.mem_cons.mp hφ with rfl | hφ
      · exact SY.workD (N := ["_law_b", "_law_size_here", "_law_ranges", "_law_bad_here"]) (js := [11, 10, 6]) hh e02 (CC.sub (fr' := ["_law_size_here", "_law_ranges", "_law_bad_here"]) (by decide +kernel)) hpin lns4 lls4 (by decide +kernel) (by decide +kernel) rfl (fun c' T0 u s doc pm ctv h => PySem.BindsTo.of_defaults rfl h rfl rfl rfl) fun c' A' outer' s' E' hr' hE => ⟨_, pe_call FLx hr' (by rfl) gLx kLx bLx .nil (L2N.passes_call (L2N.takes_of rfl rfl rfl rfl) (fun _ _ _ _ h => h)) (pa_cons (pv 1) (pa_cons (pv 2) (pa_cons (pv 3) pa_nil))), fun Q => xCallE (K := K) (R := RE2 CZ CB) (c := (CB, some (fsBS 1 ba))) (daCons (dVar (i := 1) rfl (.int (n : Int))) (da2 (dVar (i := 2) rfl dRh) (dVar (i := 3) rfl uBh))) ⟨(n : Int), rs.map toI, bs, by rw [sI_sD], by rw [List.length_map]; omega, hbl, .inr ⟨by omega, by omega, 1, ba, hbad2, rfl⟩⟩ hE⟩
      rcases List.mem_cons.mp hφ with rfl | hφ
      · exact SY.workL (N := ["_law_size_here", "_law_ranges", "_law_bad_here"]) (js := [11, 10, 6]) hh e02 (CC.sub (fr' := ["_law_size_here", "_law_ranges", "_law_bad_here"]) (by decide +kernel)) hpin lns2 lls2 (by decide +kernel) (by decide +kernel) rfl (fun c' pm ctv => rfl) fun c' A' outer' s' E' hr' hE => ⟨_, pe_call FJx hr' (by rfl) gJx kJx bJx .nil (L2N.passes_call (L2N.takes_of rfl rfl rfl rfl) (fun _ _ _ _ h => h)) (pa_cons (pv 0) (pa_cons (pv 1) (pa_cons (pv 2) pa_nil))), fun Q => xCallE (K := K) (R := RE2 CZ CB) (c := (CB, some (fsBS 1 ba))) (daCons (dVar (i := 0) rfl (.int (n : Int))) (da2 (dVar (i := 1) rfl dRh) (dVar (i := 2) rfl uBh))) ⟨(n : Int), rs.map toI, bs, by rw [sI_sD], by rw [List.length_map]; omega, hbl, .inr ⟨by omega, by omega, 1, ba, hbad2, rfl⟩⟩ hE⟩
      cases List.mem_singleton.mp hφ
      exact SY.workD (N := ["_law_a", "_law_size_here", "_law_ranges", "_law_bad_here"]) (js := [11, 10, 6]) hh e02 (CC.sub (fr' := ["_law_size_here", "_law_ranges", "_law_bad_here"]) (by decide +kernel)) hpin lns3 lls3 (by decide +kernel) (by decide +kernel) rfl (fun c' T0 u s doc pm ctv h => PySem.BindsTo.of_defaults rfl h rfl rfl rfl) fun c' A' outer' s' E' hr' hE => ⟨_, pe_call FCx hr' (by rfl) gCx kCx bCx .nil (L2N.passes_call (L2N.takes_of rfl rfl rfl rfl) (fun _ _ _ _ h => h)) (pa_cons (pv 1) (pa_cons (pv 2) (pa_cons (pv 3) pa_nil))), fun Q => xCallE (K := K) (R := RE2 CZ CB) (c := (CB, some (fsBS 1 ba))) (daCons (dVar (i := 1) rfl (.int (n : Int))) (da2 (dVar (i := 2) rfl dRh) (dVar (i := 3) rfl uBh))) ⟨(n : Int), rs.map toI, bs, by rw [sI_sD], by rw [List.length_map]; omega, hbl, .inr ⟨by omega, by omega, 1, ba, hbad2, rfl⟩⟩ hE⟩
    exact ⟨_, fun Q q => q, rfl, et_is (et_not (et_B (fun H2 e2 Q q => ⟨.ref f, rfl, .int (ba : Int), rfl, by show 2 ≤ sizeLine; decide, fun pt hpt => ⟨f, .ref pt, 1, ba, rfl, .tup (xs := [.int ((1 : Nat) : Int), .int (ba : Int)]) (st_of upd_same) (.cons (.int _) (.cons (.int _) .nil)), hwk _ (e2.trans (Ex.new hpt)), fun H3 e3 => q H3 ((Ex.new hpt).trans e3)⟩⟩))) rfl⟩
  subst z1 z2 z3
  have e13 : LamX.ExtN G2 G3 := L3.extN.trans (SY.exN eG)
  have TG3 := LamX.Tabs.ext L3.tab eG
  clear L3 L2
  have dG3 : DSt G3 d := dstN e13 dG2
  have rR3 := SY.dpN (SY.rmN (p := d) e13) _ _ rR2
  have rB3 := SY.dpN (SY.rmN (p := d) e13) _ _ rB2
  clear uB2 uR2 rR2 rB2 dG2 eN7 T7 ha hca eN8 T8 hb1 hcb htb eN11 T11 hc1 hcc htc
  -- which
  refine offCall (d := d) (m := 5) rfl (fun Q q => q) dG3 (by decide) fun wh' H4 hw0 hw1 D7 => ?_
  obtain ⟨wh, rfl⟩ : ∃ j : Nat, wh' = (j : Int) := ⟨wh'.toNat, by omega⟩
  have T7 := tabDk D7 dG3 TG3
  have rR7 := SB.mono D7.ex rR3
  have rB7 := SB.mono D7.ex rB3
  have uR7 : Dp K H4 (.ref pS) (sI (rs.map toI)) := by rw [sI_sD]; exact SB.mono rmEx rR7
  have uB7 : Dp K H4 (.ref pB) (sI bs) := SB.mono rmEx rB7
  have fl1 : (List.replicate wh [V.ref pS]).flatten.length = wh := by rw [allLen (dpRep uR7 wh), List.length_replicate]
  -- sets
  refine ⟨.ref pS, rfl, by show 1 ≤ sizeLine; decide, fun q1 hq1 => ⟨.int (wh : Int), rfl, q1, (wh : Int), [.ref pS], rfl, rfl, upd_same, by omega, by omega, sz_of (by show 1 * _ ≤ _; rw [Int.toNat_natCast]; omega), fun q2 hq2 => ?_⟩⟩
  rw [Int.toNat_natCast]
  have e72 := (Ex.new (o := .lst [.ref pS]) hq1).trans (Ex.new (o := .lst (List.replicate wh [V.ref pS]).flatten) hq2)
  have h22 : upd (upd H4 q1 (.lst [.ref pS])) q2 (.lst (List.replicate wh [V.ref pS]).flatten) q2 = some (.lst (List.replicate wh [V.ref pS]).flatten) := upd_same
  generalize upd (upd H4 q1 (.lst [.ref pS])) q2 (.lst (List.replicate wh [V.ref pS]).flatten) = Ha at e72 h22 ⊢
  refine ⟨.ref pB, rfl, by show 1 ≤ sizeLine; decide, fun q3 hq3 => ⟨q2, q3, _, _, rfl, rfl, (Ex.new hq3) _ _ h22, upd_same, sz_of (by rw [fl1]; show _ + 1 ≤ _; omega), fun q4 hq4 => ?_⟩⟩
  have e74 := (e72.trans (Ex.new (o := .lst [.ref pB]) hq3)).trans (Ex.new (o := .lst ((List.replicate wh [V.ref pS]).flatten ++ [V.ref pB])) hq4)
  have h44 : upd (upd Ha q3 (.lst [.ref pB])) q4 (.lst ((List.replicate wh [V.ref pS]).flatten ++ [V.ref pB])) q4 = some (.lst ((List.replicate wh [V.ref pS]).flatten ++ [V.ref pB])) := upd_same
  have n4d : q4 ≠ d := (dstEx (e72.trans (Ex.new (o := .lst [.ref pB]) hq3)) D7.st).ne hq4
  generalize upd (upd Ha q3 (.lst [.ref pB])) q4 (.lst ((List.replicate wh [V.ref pS]).flatten ++ [V.ref pB])) = Hb at e74 h44 ⊢
  refine ⟨by show 2 ≤ sizeLine; decide, fun q5 hq5 => ⟨by show 1 ≤ sizeLine; decide, fun q6 hq6 => ⟨by show 1 ≤ sizeLine; decide, fun q7 hq7 => ?_⟩⟩⟩
  have e5 := Ex.new (o := .tup [.int 9, .int 0]) hq5
  have e6 := Ex.new (o := .lst [.ref q5]) hq6
  have e7 := Ex.new (o := .lst [.ref q6]) hq7
  have n6d : q6 ≠ d := (dstEx (e74.trans e5) D7.st).ne hq6
  have n7d : q7 ≠ d := (dstEx ((e74.trans e5).trans e6) D7.st).ne hq7
  have h66 : upd (upd (upd Hb q5 (.tup [.int 9, .int 0])) q6 (.lst [.ref q5])) q7 (.lst [.ref q6]) q6 = some (.lst [.ref q5]) := e7 _ _ upd_same
  have t55 : Dp K (upd (upd (upd Hb q5 (.tup [.int 9, .int 0])) q6 (.lst [.ref q5])) q7 (.lst [.ref q6])) (.ref q5) (rI (9, 0)) := SB.mono (e6.trans e7) (.tup (xs := [.int 9, .int 0]) (st_of upd_same) (.cons (.int 9) (.cons (.int 0) .nil)))
  have h77 : upd (upd (upd Hb q5 (.tup [.int 9, .int 0])) q6 (.lst [.ref q5])) q7 (.lst [.ref q6]) q7 = some (.lst [.ref q6]) := upd_same
  have e57 := (e5.trans e6).trans e7
  generalize upd (upd (upd Hb q5 (.tup [.int 9, .int 0])) q6 (.lst [.ref q5])) q7 (.lst [.ref q6]) = Hc at e57 h66 t55 h77 ⊢
  have e7c := e74.trans e57
  have D7c := Dk.of D7.st e7c
  have r66 := toRm (bs := [(9, 0)]) D7c.st h66 n6d (.cons t55 .nil)
  refine offCall (d := d) (m := 2) rfl (fun Q q => q) D7c.st (by decide) fun c2' H8 hc0 hc1 D8 => ?_
  obtain ⟨c2, rfl⟩ : ∃ j : Nat, c2' = (j : Int) := ⟨c2'.toNat, by omega⟩
  have u66 : Dp K H8 (.ref q6) (sI [(9, 0)]) := SB.mono rmEx (SB.mono D8.ex r66)
  have fl2 : (List.replicate c2 [V.ref q6]).flatten.length = c2 := by rw [allLen (dpRep u66 c2), List.length_replicate]
  refine ⟨q7, (c2 : Int), [.ref q6], rfl, rfl, D8.keep n7d h77, by omega, by omega, sz_of (by show 1 * _ ≤ _; rw [Int.toNat_natCast]; omega), fun q8 hq8 => ?_⟩
  rw [Int.toNat_natCast]
  have h84 := D8.keep n4d (e57 _ _ h44)
  refine ⟨q4, q8, _, _, rfl, rfl, (Ex.new hq8) _ _ h84, upd_same, sz_of (by rw [List.length_append, fl1, fl2]; show _ + 1 + _ ≤ _; omega), fun q9 hq9 => ?_⟩
  have e89 := (Ex.new (o := .lst (List.replicate c2 [V.ref q6]).flatten) hq8).trans (Ex.new (o := .lst ((List.replicate wh [V.ref pS]).flatten ++ [V.ref pB] ++ (List.replicate c2 [V.ref q6]).flatten)) hq9)
  have h99 : upd (upd H8 q8 (.lst (List.replicate c2 [V.ref q6]).flatten)) q9 (.lst ((List.replicate wh [V.ref pS]).flatten ++ [V.ref pB] ++ (List.replicate c2 [V.ref q6]).flatten)) q9 = some (.lst ((List.replicate wh [V.ref pS]).flatten ++ [V.ref pB] ++ (List.replicate c2 [V.ref q6]).flatten)) := upd_same
  generalize upd (upd H8 q8 (.lst (List.replicate c2 [V.ref q6]).flatten)) q9 (.lst ((List.replicate wh [V.ref pS]).flatten ++ [V.ref pB] ++ (List.replicate c2 [V.ref q6]).flatten)) = H9 at e89 h99 ⊢
  have D79 := (D7c.trans D8).trans (Dk.of D8.st e89)
  have T9 := tabDk D79 D7.st T7
  have rR9 := SB.mono D79.ex rR7
  have rB9 := SB.mono D79.ex rB7
  have d9 : DSt H9 d := D79.st
  have uR9 : Dp K H9 (.ref pS) (sI (rs.map toI)) := by rw [sI_sD]; exact SB.mono rmEx rR9
  have dSets : Dp K H9 (.ref q9) (.list ((List.replicate wh (rs.map toI) ++ bs :: List.replicate c2 [((9 : Int), (0 : Int))]).map sI)) := by
    rw [List.map_append, List.map_cons, List.map_replicate, List.map_replicate, show List.replicate wh (sI (rs.map toI)) ++ sI bs :: List.replicate c2 (sI [(9, 0)]) = List.replicate wh (sI (rs.map toI)) ++ [sI bs] ++ List.replicate c2 (sI [(9, 0)]) by rw [List.append_assoc]; rfl]
    exact .lst (sq_of h99) (allApp (allApp (dpRep uR9 wh) (.cons (SB.mono rmEx rB9) .nil)) (dpRep (SB.mono e89 u66) c2))
  have hsl : (List.replicate wh (rs.map toI) ++ bs :: List.replicate c2 [((9 : Int), (0 : Int))]).length ≤ 20 := by
    rw [List.length_append, List.length_cons, List.length_replicate, List.length_replicate]; omega
  have hsa : ∀ s ∈ (List.replicate wh (rs.map toI) ++ bs :: List.replicate c2 [((9 : Int), (0 : Int))]), s.length ≤ 90 := fun s hs => by
    rcases List.mem_append.mp hs with z | z
    · rw [List.eq_of_mem_replicate z, List.length_map]; omega
    · rcases List.mem_cons.mp z with z | z
      · rw [z]; exact hbl
      · rw [List.eq_of_mem_replicate z]; decide
  have hbad3 := badS_rep (ts := List.replicate c2 [((9 : Int), (0 : Int))]) hrs (show rs.length ≤ 40 by omega) hbad wh 0
  rw [Nat.zero_add] at hbad3
  generalize List.replicate wh (rs.map toI) ++ bs :: List.replicate c2 [((9 : Int), (0 : Int))] = sets at dSets hsl hsa hbad3
  clear h99 e89 h84 u66 r66 e7c D7c e57 h77 t55 h66 e5 e6 e7 e74 h44 e72 h22
  try dsimp only
  refine q_comp (fun p xs H1 => ∃ fs, xs = fs.map V.ref ∧ H1 p = some (.lst (fs.map V.ref)) ∧ LamX.ExtN H9 H1 ∧ LamX.Tabs T H1 ∧ ∀ f ∈ fs, SY.WkM P w K mg base 9 CB (some (fsBS wh ba)) H1 f) (fun R hR => ⟨.int (n : Int), rfl, .ref q9, rfl, (n : Int), .ref q9, sets, (CB, some (fsBS wh ba)), rfl, dSets, hsl, hsa, .inr ⟨by omega, by omega, wh, ba, hbad3, rfl⟩, T9, fun p fs H' _ eN T' hl hw => hR p _ H' ⟨fs, rfl, hl, eN, T', hw⟩⟩) (fun p xs H1 ⟨fs, z1, z2, _⟩ => by rw [z1]; exact z2) (fun p xs H1 D cs i x H' ⟨fs, z1, z2, z3, z4, z5⟩ nD CC hx eH => ?_) (fun p xs H1 G4 ⟨fs, z1, z2, z3, z4, z5⟩ eG => ?_)
  · subst z1
    obtain ⟨f, hf, rfl⟩ := List.mem_map.mp (List.mem_of_getElem? hx)
    have eX : Ex H1 H' := ((Ex.new nD).trans (SY.addEx CC.free)).trans eH
    have hwk : ∀ H2, Ex H' H2 → SY.Work P w K mg base 9 H2 f CB (some (fsBS wh ba)) := fun H2 e2 => z5 f hf H2 (SY.exN (eX.trans e2))
    exact ⟨_, fun Q q => q, rfl, et_is (et_not (et_B (fun H2 e2 Q q => ⟨.ref f, rfl, .int (wh : Int), rfl, .int (ba : Int), rfl, by show 2 ≤ sizeLine; decide, fun pt hpt => ⟨f, .ref pt, wh, ba, rfl, .tup (xs := [.int ((wh : Nat) : Int), .int (ba : Int)]) (st_of upd_same) (.cons (.int _) (.cons (.int _) .nil)), hwk _ (e2.trans (Ex.new hpt)), fun H3 e3 => q H3 ((Ex.new hpt).trans e3)⟩⟩))) rfl⟩
  have e94 : LamX.ExtN H9 G4 := z3.trans (SY.exN eG)
  have TG4 := LamX.Tabs.ext z4 eG
  clear z1 z2 z3 z4 z5
  exact qC G4 _ a d pB pS n ba rs _ _ _ _ hn1 hn64 hrl gR (dstN e94 d9) TG4 (SY.dpN (SY.rmN (p := d) e94) _ _ rR9) q
theorem ok_law {fL c Pt CZ CB CN : Addr} {kV doc pm ct oc : Value} {an od : Option Addr} {osl : Array (Option Value)} {T : List (Addr × Str)}
    (lk : K.lookup fL = some ⟨oc, od, .func (PySem.W.fnOf "law" "law" (defArgs sLaw) (defBody sLaw) (defScope sLaw) .none kV doc pm an (.ref c) ct), osl⟩) (hcd : PySem.W.codeIn K (.ref c) "law" = true)
    (TB : LamX.TabB base mg c Pt) (hm : (Pt, lamQ) ∈ T) (hu : ∀ p ∈ T, p.1 = Pt → p.2 = lamQ)
    (dD : Def P w K mg base 11 "_law_dice" ["_law_script", "_law_k"] (spN K RDice)) (dOF : Def P w K mg base 11 "_law_off" ["_law_d", "_law_most"] spOff) (dZ : Def P w K mg base 11 "_law_size" ["_law_d"] spSize) (dS : Def P w K mg base 11 "_law_set" ["_law_d", "_law_size_here", "_law_most"] (spLSet K)) (dBD : Def P w K mg base 11 "_law_bad" ["_law_d", "_law_size_here", "_law_ranges"] (spBad K)) (dSG : Def P w K mg base 11 "_law_single" ["_law_size_here", "_law_ranges"] (spSing P w K mg base T CZ CB)) (dSV : Def P w K mg base 11 "_law_several" ["_law_size_here", "_law_sets"] (spSev P w K mg base T CZ CB)) (dRZ : Def P w K mg base 11 "_law_refused" ["_law_work", "_law_word", "_law_value"] (spRefE P w K mg base 9 "size" CZ)) (dRN : Def P w K mg base 11 "_law_refused" ["_law_work", "_law_word", "_law_value"] (spRefE P w K mg base 9 "number" CN)) (dRS : Def P w K mg base 11 "_law_refused" ["_law_work", "_law_word", "_law_value"] (spRefS P w K mg base 9 CB)) (dTB : Def P w K mg base 11 "table" ["size", "sets", "wide"] (spTabN K)) (dPL : Def P w K mg base 11 "plain" ["size", "ranges"] (spN K RPlain)) (dCL : Def P w K mg base 11 "classes" ["size", "sets"] (spPN K clsD))
    (xJ : DefX P w K mg base 8 "joined" ["size", "one", "other"] (spEX K (RE2 CZ CB))) (xC : DefX P w K mg base 8 "common" ["size", "one", "other"] (spEX K (RE2 CZ CB))) (xL : DefX P w K mg base 8 "less" ["size", "one", "other"] (spEX K (RE2 CZ CB))) (xI : DefX P w K mg base 8 "inside" ["size", "ranges", "number"] (spEX K (REi CZ CB CN))) (xK : DefX P w K mg base 8 "look" ["size", "told", "which", "number"] (spEX K (REl CZ CN))) (xT : DefX P w K mg base 8 "table" ["size", "sets", "wide"] (spEX K (REt CZ CB CN))) (xR : DefX P w K mg base 8 "read" ["size", "text"] (spEX K (REr CZ))) :
    FnOk P w K mg base CX0 12 fL (PySem.W.fnOf "law" "law" (defArgs sLaw) (defBody sLaw) (defScope sLaw) .none kV doc pm an (.ref c) ct) ["_law_script"] (spLawR K T) := by
  refine fn_of lk hcd scLaw (fun vs H Q E h => ?_) (fun A outer s H vs Q E hr h => ?_)
  · obtain ⟨a, ns, rfl, _⟩ := h
    rfl
  · obtain ⟨a, ns, rfl, hS, hl, hPt, q⟩ := h
    obtain ⟨tLB, hB, qB⟩ := law_B (A := A) (outer := outer) (s := s) (H := H) (E := E) hr TB hm hu dD dOF dZ dS dBD dSG dSV dRZ dRN dRS dTB dPL dCL xJ xC xL xI xK xT xR
    obtain ⟨fDd, fdDd, FDd, gDd, kDd, bDd⟩ := dD.ex
    obtain ⟨fOFd, fdOFd, FOFd, gOFd, kOFd, bOFd⟩ := dOF.ex
    obtain ⟨fZd, fdZd, FZd, gZd, kZd, bZd⟩ := dZ.ex
    obtain ⟨fSd, fdSd, FSd, gSd, kSd, bSd⟩ := dS.ex
    obtain ⟨fBDd, fdBDd, FBDd, gBDd, kBDd, bBDd⟩ := dBD.ex
    obtain ⟨fSGd, fdSGd, FSGd, gSGd, kSGd, bSGd⟩ := dSG.ex
    obtain ⟨fSVd, fdSVd, FSVd, gSVd, kSVd, bSVd⟩ := dSV.ex
    obtain ⟨fRZd, fdRZd, FRZd, gRZd, kRZd, bRZd⟩ := dRZ.ex
    obtain ⟨fRNd, fdRNd, FRNd, gRNd, kRNd, bRNd⟩ := dRN.ex
    obtain ⟨fRSd, fdRSd, FRSd, gRSd, kRSd, bRSd⟩ := dRS.ex
    obtain ⟨fTBd, fdTBd, FTBd, gTBd, kTBd, bTBd⟩ := dTB.ex
    obtain ⟨fPLd, fdPLd, FPLd, gPLd, kPLd, bPLd⟩ := dPL.ex
    obtain ⟨fCLd, fdCLd, FCLd, gCLd, kCLd, bCLd⟩ := dCL.ex
    obtain ⟨fJx, fdJx, FJx, gJx, kJx, bJx⟩ := xJ.ex
    obtain ⟨fCx, fdCx, FCx, gCx, kCx, bCx⟩ := xC.ex
    obtain ⟨fLx, fdLx, FLx, gLx, kLx, bLx⟩ := xL.ex
    obtain ⟨fIx, fdIx, FIx, gIx, kIx, bIx⟩ := xI.ex
    obtain ⟨fKx, fdKx, FKx, gKx, kKx, bKx⟩ := xK.ex
    obtain ⟨fTx, fdTx, FTx, gTx, kTx, bTx⟩ := xT.ex
    obtain ⟨fRx, fdRx, FRx, gRx, kRx, bRx⟩ := xR.ex
    have nd := scLaw.nd
    have key : ∃ t, PSs (cxOf CX0 P w K mg base nLaw "law" (defScope sLaw) fL (.ref c) A outer s H E).nox (defBody sLaw) t ∧ t { nx := fun _ H' => Q .non H', rt := Q } (L2.start nLaw [.ref a]) H := by
      have hfr : ∀ y ∈ (["_law_odd", "_law_ranges", "_law_size_here", "_law_bad_here", "_law_far", "_law_found"] : List Str), true = true ∧ ((defScope sLaw).names.lookup y = some .cell ∨ (defScope sLaw).names.lookup y = some .free) := by decide +kernel
      refine ⟨_, (pss_cons (ps_set (i := 1) nd rfl (.inl rfl) (pe_call FDd hr (by rfl) gDd kDd bDd .nil pass0 (pa_cons (pv 0) (pa_cons pe_int pa_nil))))
        (pss_cons (ps_set (i := 11) nd rfl (.inr rfl) (pe_ifExp (pt_cmpR op_gt (pe_call FOFd hr (by rfl) gOFd kOFd bOFd .nil pass0 (pa_cons (pv 1) (pa_cons pe_int pa_nil))) pe_int (nomark _)) (pe_call FZd hr (by rfl) gZd kZd bZd .nil pass0 (pa_cons (pv 1) pa_nil)) (pe_op op_add pe_int (pe_call FOFd hr (by rfl) gOFd kOFd bOFd .nil pass0 (pa_cons (pv 1) (pa_cons pe_int pa_nil))))))
        (pss_cons (ps_set (i := 10) nd rfl (.inr rfl) (pe_call FSd hr (by rfl) gSd kSd bSd .nil pass0 (pa_cons (pv 1) (pa_cons (pv 11) (pa_cons pe_int pa_nil)))))
        (pss_cons (ps_asg (pe_call FBDd hr (by rfl) gBDd kBDd bBDd .nil pass0 (pa_cons (pv 1) (pa_cons (pv 11) (pa_cons (pv 10) pa_nil)))) (pg_tup rfl (pgs_cons (pg_name (i := 6) nd rfl (.inr rfl)) (pgs_cons (pg_name (i := 2) nd rfl (.inr rfl)) pgs_nil))))
        (pss_cons (ps_set (i := 9) nd rfl (.inr rfl) (pe_ix ix_list (pe_lst (pa_cons pe_int (pa_cons pe_int (pa_cons (pe_un un_neg pe_int) (pa_cons (pe_op op_add pe_int (pe_call FOFd hr (by rfl) gOFd kOFd bOFd .nil pass0 (pa_cons (pv 1) (pa_cons (pe_op op_pow pe_int pe_int) pa_nil)))) pa_nil))))) (pe_call FOFd hr (by rfl) gOFd kOFd bOFd .nil pass0 (pa_cons (pv 1) (pa_cons pe_int pa_nil))) (fun _ _ => rfl)))
        (pss_cons (ps_set (i := 3) nd rfl (.inl rfl) (pe_op op_cat (pe_op op_cat (pe_call FSGd hr (by rfl) gSGd kSGd bSGd .nil pass0 (pa_cons (pv 9) (pa_cons (pv 6) pa_nil))) (pe_call FSVd hr (by rfl) gSVd kSVd bSVd .nil pass0 (pa_cons (pv 9) (pa_cons (pe_lst (pa_cons (pv 6) pa_nil)) pa_nil)))) (pe_lst (pa_cons (SY.pe_lamN (T := T) (scope := lsc0) TB rfl hm hu lls0 rfl) pa_nil))))
        (pss_cons (ps_expr (pe_bm PySem.F.plainAttrs_list PySem.F.slot_list_append PySem.F.type_list_append mt_append (pv 3) (pa_cons (SY.pe_lamD (T := T) (scope := lsc1) (v0 := .int 0) TB rfl hm hu lls1 rfl rfl pe_int) pa_nil)))
        (pss_cons (ps_if (pt_cmpR (r := rNeD K) (op_neD hr.units) (SY.pe_lcT (wi := iList K (tVar 3)) (fr := ["_law_odd", "_law_ranges", "_law_size_here", "_law_bad_here", "_law_far", "_law_found"]) (own := [("_law_work", 13)]) (g := gName 13) (tt := tNot (tB (tCall (spRefE P w K mg base 9 "size" CZ) [] E0 (tCons (tVar 13) (tCons (tC (.str "size")) (tCons (tC (.int 0)) tNil)))))) (te := tVar 13) rfl nd (by exact pi_list (pv 3)) (blkOk_by (own := [("_law_work", 13)]) (N := nLaw) (sc := defScope sLaw) (by decide +kernel)) hfr (by decide +kernel) (by decide +kernel)
          (fun _ _ _ _ _ => pg_name (i := 13) nd rfl (Or.inl rfl)) (fun _ _ _ _ _ => pts_one (pt_not (pt_val (pe_call FRZd hr (by rfl) gRZd kRZd bRZd .nil pass0 (pa_cons (pv 13) (pa_cons pe_str (pa_cons pe_int pa_nil))))))) (fun _ _ _ _ _ => pv 13)) (pe_lst pa_nil) (nomark _)) (pss_one (ps_ret pe_bl)) pss_nil)
        (pss_cons (ps_if (pt_cmpR (r := rNeD K) (op_neD hr.units) (SY.pe_lcT (wi := iList K (tCall (spSing P w K mg base T CZ CB) [] E0 (tCons (tVar 11) (tCons (tVar 6) tNil)))) (fr := ["_law_odd", "_law_ranges", "_law_size_here", "_law_bad_here", "_law_far", "_law_found"]) (own := [("_law_work", 13)]) (g := gName 13) (tt := tNot (tB (tCall (spRefS P w K mg base 9 CB) [] E0 (tCons (tVar 13) (tCons (tC (.str "set")) (tCons (tTup (tCons (tC (.int 0)) (tCons (tVar 2) tNil))) tNil)))))) (te := tVar 13) rfl nd (by exact pi_list (pe_call FSGd hr (by rfl) gSGd kSGd bSGd .nil pass0 (pa_cons (pv 11) (pa_cons (pv 6) pa_nil)))) (blkOk_by (own := [("_law_work", 13)]) (N := nLaw) (sc := defScope sLaw) (by decide +kernel)) hfr (by decide +kernel) (by decide +kernel)
          (fun _ _ _ _ _ => pg_name (i := 13) nd rfl (Or.inl rfl)) (fun _ _ _ _ _ => pts_one (pt_not (pt_val (pe_call FRSd hr (by rfl) gRSd kRSd bRSd .nil pass0 (pa_cons (pv 13) (pa_cons pe_str (pa_cons (pe_tup (pa_cons pe_int (pa_cons (pv 2) pa_nil))) pa_nil))))))) (fun _ _ _ _ _ => pv 13)) (pe_lst pa_nil) (nomark _)) (pss_one (ps_ret pe_bl)) pss_nil)
        hB))))))))), ?_⟩
      have hScr : Dp K H (.ref a) (.list (ns.map PyData.int)) := .lst hS (allOfInts ns)
      refine sAsgN (nCall (da2 (dVar rfl hScr) dInt) ⟨ns, 0, rfl, hl, by decide, by decide, rfl⟩) fun d xs H1 hd e1 h1 a1 => ?_
      have d1 : DSt H1 d := dst_of (by decide) hl h1 a1
      have T1 : LamX.Tabs T H1 := LamX.Tabs.ext (fun p hp => LamX.TabS.nil (hPt p hp)) e1
      refine sizeOr (d := d) d1 rfl fun n H2 hn1 hn64 D2 => ?_
      have hn : 1 ≤ n ∧ n ≤ 64 := ⟨hn1, hn64⟩
      refine ⟨.ref d, rfl, .int (n : Int), rfl, d, n, 39, rfl, D2.st, hn1, hn64, by decide, fun rs pS xS H3 hrl hrs hpS D3 h3 A3 => ?_⟩
      have gR : Good n rs := ⟨by omega, hrs⟩
      have nSd : pS ≠ d := D2.st.ne hpS
      have dR3 : Dp K (rm H3 d) (.ref pS) (sD rs) := .lst (sq_of (by rw [rmNe nSd]; exact h3)) A3
      refine ⟨.ref d, rfl, .int (n : Int), rfl, .ref pS, rfl, d, n, .ref pS, rs, rfl, D3.st, hn1, hn64, dR3, hrl, gR, fun bs ba pT pB H4 hbl hba hbad D4 hT4 dB4 => ?_⟩
      refine ⟨pT, _, rfl, st_of hT4, rfl, .ref pB, [.int (ba : Int)], rfl, .int (ba : Int), [], rfl, rfl, ?_⟩
      have T4 : LamX.Tabs T H4 := tabDk ((D2.trans D3).trans D4) d1 T1
      have dR4 := SB.mono D4.ex dR3
      -- odd
      refine ⟨1, rfl, ?_⟩
      refine offCall (d := d) (m := 1000000) rfl (fun Q q => ⟨10, 6, rfl, rfl, ⟨by decide, by decide, by decide⟩, q⟩) D4.st (by decide) fun r5 H5 hr50 hr51 D5 => ⟨65, r5, rfl, rfl, by show 4 ≤ sizeLine; decide, fun pq hpq => ?_⟩
      have D5q := Dk.of D5.st (Ex.new (o := .lst [.int 0, .int 65, .int (-1), .int (65 + r5)]) hpq)
      have nqd : pq ≠ d := D5.st.ne hpq
      refine offCall (d := d) (m := 4) rfl (fun Q q => q) D5q.st (by decide) fun j5 H6 hj0 hj1 D6 => ?_
      obtain ⟨odd, hodd, hodd2⟩ : ∃ odd : Int, atI [V.int 0, .int 65, .int (-1), .int (65 + r5)] j5 = some (.int odd) ∧ ¬ (1 ≤ odd ∧ odd ≤ 64) := by
        obtain ⟨j, rfl⟩ : ∃ j : Nat, j5 = (j : Int) := ⟨j5.toNat, by omega⟩
        have hj : j < 4 := by omega
        match j, hj with
        | 0, _ => exact ⟨0, atI_nat rfl, by omega⟩
        | 1, _ => exact ⟨65, atI_nat rfl, by omega⟩
        | 2, _ => exact ⟨-1, atI_nat rfl, by omega⟩
        | 3, _ => exact ⟨65 + r5, atI_nat rfl, by omega⟩
      refine ⟨pq, _, j5, .int odd, rfl, rfl, SqL.of (D6.keep nqd upd_same), hodd, ?_⟩
      have D46 := (D5.trans D5q).trans D6
      have T6 : LamX.Tabs T H6 := tabDk D46 D4.st T4
      have dR6 := SB.mono D46.ex dR4
      have dB6 := SB.mono D46.ex dB4
      have d6 : DSt H6 d := D46.st
      clear dR3 dR4 dB4 D5q hT4 h3 A3 hScr
      have uB6 : Dp K H6 (.ref pB) (sI bs) := SB.mono rmEx dB6
      -- works
      refine ⟨.int odd, rfl, .ref pB, rfl, odd, .ref pB, bs, (CZ, none), rfl, uB6, hbl, .inl ⟨hodd2, rfl⟩, T6, fun p1 fs1 H7 l1 eN7 T7 h71 w7 => ?_⟩
      refine ⟨.int odd, rfl, .ref pB, rfl, by show 1 ≤ sizeLine; decide, fun pl hpl => ⟨odd, .ref pl, [bs], (CZ, none), rfl, .lst (sq_of upd_same) (.cons (SB.mono (Ex.new hpl) (SY.dpN eN7 _ _ uB6)) .nil), by show 1 ≤ 20; decide, fun s hs => by rw [List.mem_singleton.mp hs]; exact hbl, .inl ⟨hodd2, rfl⟩, LamX.Tabs.ext T7 (Ex.new hpl), fun p2 fs2 H8 l2 eN8 T8 h82 w8 => ?_⟩⟩
      have e78 : LamX.ExtN H7 H8 := (SY.exN (Ex.new hpl)).trans eN8
      have h81 := e78 p1 _ h71 (fun ps z => by cases z)
      refine ⟨p1, p2, _, _, rfl, rfl, h81, h82, sz_of (by rw [List.length_map, List.length_map]; omega), fun p3 hp3 => ?_⟩
      refine ⟨LamX.Tabs.ext T8 (Ex.new hp3), fun fa ca H9 eN9 T9 _ ha hca => ⟨by show 1 ≤ sizeLine; decide, fun p4 hp4 => ?_⟩⟩
      have h93 := eN9 p3 _ upd_same (fun ps z => by cases z)
      refine ⟨p3, p4, _, _, rfl, rfl, (Ex.new hp4) p3 _ h93, upd_same, sz_of (by rw [List.length_append, List.length_map, List.length_map]; show _ + 1 ≤ _; omega), fun p5 hp5 => ?_⟩
      have e89 : LamX.ExtN H8 (upd H9 p4 (.lst [.ref fa])) := ((SY.exN (Ex.new hp3)).trans eN9).trans (SY.exN (Ex.new hp4))
      rw [← List.map_append]
      have L0 := SY.Ls.mix (T := T) (H0 := H6) (p := p5) (fs := fs1 ++ fs2) (φ := SY.WkM P w K mg base 9 CZ none) ((eN7.trans e78).trans e89) (LamX.Tabs.ext T9 (Ex.new hp4)) hp5 SY.stbW SY.stbL (fun f hf => (List.mem_append.mp hf).elim (fun z => SY.stbW _ _ _ (e78.trans e89) (w7 f z)) fun z => SY.stbW _ _ _ e89 (w8 f z)) (SY.stbL _ _ _ (SY.exN (Ex.new hp4)) (SY.lmOf ha hca))
      have ll0 : (fs1 ++ fs2 ++ [fa]).length ≤ 17 := by rw [List.length_append, List.length_append]; show _ + 1 ≤ _; omega
      generalize upd (upd H9 p4 (.lst [.ref fa])) p5 (.lst ((fs1 ++ fs2).map V.ref ++ [V.ref fa])) = H10 at L0 ⊢
      generalize fs1 ++ fs2 ++ [fa] = fsA at L0 ll0
      -- the lambda with a default
      refine ⟨.ref p5, rfl, .inl ⟨rfl, _, sq_of L0.lst⟩, L0.tab, fun fb cb tb ub H11 rb eN11 T11 _ hb1 hcb htb => ⟨p5, _, .ref fb, rfl, rfl, eN11 p5 _ L0.lst (fun ps z => by cases z), sz_lt (by rw [List.length_map]; omega), ?_⟩⟩
      have L1 := L0.app eN11 T11 SY.stbD (SY.lmdRm (eN11 p5 _ L0.lst (fun ps z => by cases z)) (SY.lmdOf rb hb1 hcb htb))
      generalize upd H11 p5 (.lst (fsA.map V.ref ++ [.ref fb])) = H12 at L1 ⊢
      generalize fsA ++ [fb] = fsB at L1
      -- they refuse the size
      try dsimp only
      refine q_comp (fun p xs H1 => p = p5 ∧ H1 = H12 ∧ xs = fsB.map V.ref) (fun R hR => ⟨.ref p5, rfl, hR p5 _ H12 ⟨rfl, rfl, rfl⟩⟩) (fun p xs H1 ⟨z1, z2, z3⟩ => by rw [z1, z2, z3]; exact L1.lst) (fun p xs H1 D cs i x H' ⟨z1, z2, z3⟩ nD CC hx eH => ?_) (fun p xs H1 G1 ⟨z1, z2, z3⟩ eG => ?_)
      · subst z1 z2 z3
        obtain ⟨f, hf, rfl⟩ := List.mem_map.mp (List.mem_of_getElem? hx)
        have eX : Ex H1 H' := ((Ex.new nD).trans (SY.addEx CC.free)).trans eH
        have hwk : ∀ H2, Ex H' H2 → SY.Work P w K mg base 9 H2 f CZ none := fun H2 e2 => by
          have e02 := SY.exN (eX.trans e2)
          have hpin : ∀ b o, cs.lookup b = some o → H2 b = some (SY.PinO b o) := fun b o z => e2 _ _ (eH _ _ (SY.addIn z))
          obtain ⟨φ, hφ, hh⟩ := L1.here f hf
          rcases List.mem_cons.mp hφ with rfl | hφ
          · exact SY.workD (N := ["_law_a", "_law_odd"]) (js := [9]) hh e02 (CC.sub (fr' := ["_law_odd"]) (by decide +kernel)) hpin lns1 lls1 (by decide +kernel) (by decide +kernel) rfl (fun c' T0 u s doc pm ctv h => PySem.BindsTo.of_defaults rfl h rfl rfl rfl) fun c' A' outer' s' E' hr' hE => ⟨_, pe_call FKx hr' (by rfl) gKx kKx bKx .nil (L2N.passes_call (L2N.takes_of rfl rfl rfl rfl) (fun _ _ _ _ h => h)) (pa_cons (pv 1) (pa_cons (pe_tup (pa_cons (pe_lst pa_nil) (pa_cons (pe_lst pa_nil) pa_nil))) (pa_cons pe_int (pa_cons pe_int pa_nil)))), fun Q => xCallE (K := K) (R := REl CZ CN) (c := (CZ, none)) (daCons (dVar rfl (.int odd)) (daCons (dTup (da2 (nLst daNil (Nat.zero_le _)).asD (nLst daNil (Nat.zero_le _)).asD) (by show 2 ≤ 100000; decide)) (da2 dInt dInt))) ⟨odd, [], [], 0, 0, rfl, .inl ⟨hodd2, rfl⟩⟩ hE⟩
          rcases List.mem_cons.mp hφ with rfl | hφ
          · exact hh H2 e02
          cases List.mem_singleton.mp hφ
          exact SY.workL (N := ["_law_odd"]) (js := [9]) hh e02 (CC.sub (fr' := ["_law_odd"]) (by decide +kernel)) hpin lns0 lls0 (by decide +kernel) (by decide +kernel) rfl (fun c' pm ctv => rfl) fun c' A' outer' s' E' hr' hE => ⟨_, pe_call FRx hr' (by rfl) gRx kRx bRx .nil (L2N.passes_call (L2N.takes_of rfl rfl rfl rfl) (fun _ _ _ _ h => h)) (pa_cons (pv 0) (pa_cons pe_str pa_nil)), fun Q => xCallE (K := K) (R := REr CZ) (c := (CZ, none)) (da2 (dVar rfl (.int odd)) (EvD.of ev_c (.str _))) ⟨odd, _, rfl, hodd2, rfl⟩ hE⟩
        exact ⟨_, fun Q q => q, rfl, et_is (et_not (et_B (fun H2 e2 Q q => ⟨.ref f, rfl, f, .int 0, rfl, hwk H2 e2, fun H3 e3 => q H3 e3⟩))) rfl⟩
      subst z1 z2 z3
      have e6E : LamX.ExtN H6 G1 := L1.extN.trans (SY.exN eG)
      have TG1 := LamX.Tabs.ext L1.tab eG
      clear L1 L0
      have dG1 : DSt G1 d := dstN e6E d6
      have rR1 := SY.dpN (SY.rmN (p := d) e6E) _ _ dR6
      have rB1 := SY.dpN (SY.rmN (p := d) e6E) _ _ dB6
      have uB1 : Dp K G1 (.ref pB) (sI bs) := SB.mono rmEx rB1
      have uR1 : Dp K G1 (.ref pS) (sD rs) := SB.mono rmEx rR1
      clear eN7 T7 h71 w7 eN8 T8 h82 w8 e78 h81 eN9 T9 h93 e89 ha hca hcb hb1 htb eN11 T11
      -- they refuse the set
      try dsimp only
      refine q_comp (fun p xs H1 => ∃ fs, xs = fs.map V.ref ∧ H1 p = some (.lst (fs.map V.ref)) ∧ LamX.ExtN G1 H1 ∧ LamX.Tabs T H1 ∧ ∀ f ∈ fs, SY.WkM P w K mg base 9 CB (some (fsBS 0 ba)) H1 f) (fun R hR => ⟨.int (n : Int), rfl, .ref pB, rfl, (n : Int), .ref pB, bs, (CB, some (fsBS 0 ba)), rfl, uB1, hbl, .inr ⟨by omega, by omega, 0, ba, badS_yes hbad, rfl⟩, TG1, fun p fs H' _ eN T' hl hw => hR p _ H' ⟨fs, rfl, hl, eN, T', hw⟩⟩) (fun p xs H1 ⟨fs, z1, z2, _⟩ => by rw [z1]; exact z2) (fun p xs H1 D cs i x H' ⟨fs, z1, z2, z3, z4, z5⟩ nD CC hx eH => ?_) (fun p xs H1 G2 ⟨fs, z1, z2, z3, z4, z5⟩ eG => ?_)
      · subst z1
        obtain ⟨f, hf, rfl⟩ := List.mem_map.mp (List.mem_of_getElem? hx)
        have eX : Ex H1 H' := ((Ex.new nD).trans (SY.addEx CC.free)).trans eH
        have hwk : ∀ H2, Ex H' H2 → SY.Work P w K mg base 9 H2 f CB (some (fsBS 0 ba)) := fun H2 e2 => z5 f hf H2 (SY.exN (eX.trans e2))
        exact ⟨_, fun Q q => q, rfl, et_is (et_not (et_B (fun H2 e2 Q q => ⟨.ref f, rfl, .int (ba : Int), rfl, by show 2 ≤ sizeLine; decide, fun pt hpt => ⟨f, .ref pt, 0, ba, rfl, .tup (xs := [.int ((0 : Nat) : Int), .int (ba : Int)]) (st_of upd_same) (.cons (.int _) (.cons (.int _) .nil)), hwk _ (e2.trans (Ex.new hpt)), fun H3 e3 => q H3 ((Ex.new hpt).trans e3)⟩⟩))) rfl⟩
      have e12 : LamX.ExtN G1 G2 := z3.trans (SY.exN eG)
      have TG2 := LamX.Tabs.ext z4 eG
      exact qB G2 _ a d pB pS n ba rs bs _ _ hn1 hn64 hrl gR hbl hbad (dstN e12 dG1) TG2 (SY.dpN (SY.rmN (p := d) e12) _ _ rR1) (SY.dpN (SY.rmN (p := d) e12) _ _ rB1) q
    obtain ⟨t, h1, h2⟩ := key
    exact ⟨t, h1.nox, h2⟩
end

section
theorem hu1 {P1 P2 P3 : Addr} {q1 q2 q3 : Str} (h2 : P1 ≠ P2) (h3 : P1 ≠ P3) : ∀ p ∈ [(P1, q1), (P2, q2), (P3, q3)], p.1 = P1 → p.2 = q1 := fun p hp z => by
  rcases List.mem_cons.mp hp with y | y
  · subst y; rfl
  · rcases List.mem_cons.mp y with y | y
    · subst y; exact absurd z.symm h2
    · have y := List.mem_singleton.mp y
      subst y; exact absurd z.symm h3
theorem hu2 {P1 P2 P3 : Addr} {q1 q2 q3 : Str} (h1 : P1 ≠ P2) (h3 : P2 ≠ P3) : ∀ p ∈ [(P1, q1), (P2, q2), (P3, q3)], p.1 = P2 → p.2 = q2 := fun p hp z => by
  rcases List.mem_cons.mp hp with y | y
  · subst y; exact absurd z h1
  · rcases List.mem_cons.mp y with y | y
    · subst y; rfl
    · have y := List.mem_singleton.mp y
      subst y; exact absurd z.symm h3
theorem hu3 {P1 P2 P3 : Addr} {q1 q2 q3 : Str} (h1 : P1 ≠ P3) (h2 : P2 ≠ P3) : ∀ p ∈ [(P1, q1), (P2, q2), (P3, q3)], p.1 = P3 → p.2 = q3 := fun p hp z => by
  rcases List.mem_cons.mp hp with y | y
  · subst y; exact absurd z h1
  · rcases List.mem_cons.mp y with y | y
    · subst y; exact absurd z h2
    · have y := List.mem_singleton.mp y
      subst y; rfl
theorem tb3 {P1 P2 P3 : Addr} {q1 q2 q3 : Str} {c1 c2 c3 : Addr} {H : Hp} (hH : ∀ p ∈ [(c1, P1), (c2, P2), (c3, P3)], H p.2 = some (.tbl #[])) : ∀ p ∈ [(P1, q1), (P2, q2), (P3, q3)], H p.1 = some (.tbl #[]) := fun p hp => by
  rcases List.mem_cons.mp hp with y | y
  · subst y; exact hH _ List.mem_cons_self
  · rcases List.mem_cons.mp y with y | y
    · subst y; exact hH _ (List.mem_cons_of_mem _ List.mem_cons_self)
    · have y := List.mem_singleton.mp y
      subst y; exact hH _ (List.mem_cons_of_mem _ (List.mem_cons_of_mem _ List.mem_cons_self))
theorem all_mk {l : PySem.W.OpenLaw} {w : World} {K : PySem.W.Frag} {h : Heap} {mg : Str → Option Value} {fa : Addr} (X : K.In h) (G : h.Ns mainGlobals mg) (hfa : mg "law" = some (.ref fa)) (own : ∀ nm ∈ (["law", "_law_single", "_law_several"] : List Str), ∀ fb, mg nm = some (.ref fb) → LamX.OwnTab K fb h)
    {f0 : Addr} {od0 an0 : Option Addr} {sl0 : Array (Option Value)} {oc0 kV0 dc0 pm0 cd0 ct0 : Value}
    (a0 : PySem.W.nsIn K mainGlobals "check_size" = some (some (.ref f0)))
    (l0 : K.lookup f0 = some ⟨oc0, od0, .func (PySem.W.fnOf "check_size" "check_size" (defArgs sCheckSize) (defBody sCheckSize) (defScope sCheckSize) .none kV0 dc0 pm0 an0 cd0 ct0), sl0⟩)
    (c0 : PySem.W.codeIn K cd0 "check_size" = true)
    (k0 : PySem.W.keepIn K (.ref f0) = true)
    {f1 : Addr} {od1 an1 : Option Addr} {sl1 : Array (Option Value)} {oc1 kV1 dc1 pm1 cd1 ct1 : Value}
    (a1 : PySem.W.nsIn K mainGlobals "check_set" = some (some (.ref f1)))
    (l1 : K.lookup f1 = some ⟨oc1, od1, .func (PySem.W.fnOf "check_set" "check_set" (defArgs sCheckSet) (defBody sCheckSet) (defScope sCheckSet) .none kV1 dc1 pm1 an1 cd1 ct1), sl1⟩)
    (c1 : PySem.W.codeIn K cd1 "check_set" = true)
    (k1 : PySem.W.keepIn K (.ref f1) = true)
    {f2 : Addr} {od2 an2 : Option Addr} {sl2 : Array (Option Value)} {oc2 kV2 dc2 pm2 cd2 ct2 : Value}
    (a2 : PySem.W.nsIn K mainGlobals "marks_of" = some (some (.ref f2)))
    (l2 : K.lookup f2 = some ⟨oc2, od2, .func (PySem.W.fnOf "marks_of" "marks_of" (defArgs sMarksOf) (defBody sMarksOf) (defScope sMarksOf) .none kV2 dc2 pm2 an2 cd2 ct2), sl2⟩)
    (c2 : PySem.W.codeIn K cd2 "marks_of" = true)
    (k2 : PySem.W.keepIn K (.ref f2) = true)
    {f3 : Addr} {od3 an3 : Option Addr} {sl3 : Array (Option Value)} {oc3 kV3 dc3 pm3 cd3 ct3 : Value}
    (a3 : PySem.W.nsIn K mainGlobals "checked_marks" = some (some (.ref f3)))
    (l3 : K.lookup f3 = some ⟨oc3, od3, .func (PySem.W.fnOf "checked_marks" "checked_marks" (defArgs sCheckedMarks) (defBody sCheckedMarks) (defScope sCheckedMarks) .none kV3 dc3 pm3 an3 cd3 ct3), sl3⟩)
    (c3 : PySem.W.codeIn K cd3 "checked_marks" = true)
    (k3 : PySem.W.keepIn K (.ref f3) = true)
    {f4 : Addr} {od4 an4 : Option Addr} {sl4 : Array (Option Value)} {oc4 kV4 dc4 pm4 cd4 ct4 : Value}
    (a4 : PySem.W.nsIn K mainGlobals "ranges_of" = some (some (.ref f4)))
    (l4 : K.lookup f4 = some ⟨oc4, od4, .func (PySem.W.fnOf "ranges_of" "ranges_of" (defArgs sRangesOf) (defBody sRangesOf) (defScope sRangesOf) .none kV4 dc4 pm4 an4 cd4 ct4), sl4⟩)
    (c4 : PySem.W.codeIn K cd4 "ranges_of" = true)
    (k4 : PySem.W.keepIn K (.ref f4) = true)
    {f5 : Addr} {od5 an5 : Option Addr} {sl5 : Array (Option Value)} {oc5 kV5 dc5 pm5 cd5 ct5 : Value}
    (a5 : PySem.W.nsIn K mainGlobals "plain" = some (some (.ref f5)))
    (l5 : K.lookup f5 = some ⟨oc5, od5, .func (PySem.W.fnOf "plain" "plain" (defArgs sPlain) (defBody sPlain) (defScope sPlain) .none kV5 dc5 pm5 an5 cd5 ct5), sl5⟩)
    (c5 : PySem.W.codeIn K cd5 "plain" = true)
    (k5 : PySem.W.keepIn K (.ref f5) = true)
    {f6 : Addr} {od6 an6 : Option Addr} {sl6 : Array (Option Value)} {oc6 kV6 dc6 pm6 cd6 ct6 : Value}
    (a6 : PySem.W.nsIn K mainGlobals "stretch_rows" = some (some (.ref f6)))
    (l6 : K.lookup f6 = some ⟨oc6, od6, .func (PySem.W.fnOf "stretch_rows" "stretch_rows" (defArgs sStretchRows) (defBody sStretchRows) (defScope sStretchRows) .none kV6 dc6 pm6 an6 cd6 ct6), sl6⟩)
    (c6 : PySem.W.codeIn K cd6 "stretch_rows" = true)
    (k6 : PySem.W.keepIn K (.ref f6) = true)
    {f7 : Addr} {od7 an7 : Option Addr} {sl7 : Array (Option Value)} {oc7 kV7 dc7 pm7 cd7 ct7 : Value}
    (a7 : PySem.W.nsIn K mainGlobals "table_of" = some (some (.ref f7)))
    (l7 : K.lookup f7 = some ⟨oc7, od7, .func (PySem.W.fnOf "table_of" "table_of" (defArgs sTableOf) (defBody sTableOf) (defScope sTableOf) .none kV7 dc7 pm7 an7 cd7 ct7), sl7⟩)
    (c7 : PySem.W.codeIn K cd7 "table_of" = true)
    (k7 : PySem.W.keepIn K (.ref f7) = true)
    {f8 : Addr} {od8 an8 : Option Addr} {sl8 : Array (Option Value)} {oc8 kV8 dc8 pm8 cd8 ct8 : Value}
    (a8 : PySem.W.nsIn K mainGlobals "table" = some (some (.ref f8)))
    (l8 : K.lookup f8 = some ⟨oc8, od8, .func (PySem.W.fnOf "table" "table" (defArgs sTable) (defBody sTable) (defScope sTable) .none kV8 dc8 pm8 an8 cd8 ct8), sl8⟩)
    (c8 : PySem.W.codeIn K cd8 "table" = true)
    (k8 : PySem.W.keepIn K (.ref f8) = true)
    {f9 : Addr} {od9 an9 : Option Addr} {sl9 : Array (Option Value)} {oc9 kV9 dc9 pm9 cd9 ct9 : Value}
    (a9 : PySem.W.nsIn K mainGlobals "row_of" = some (some (.ref f9)))
    (l9 : K.lookup f9 = some ⟨oc9, od9, .func (PySem.W.fnOf "row_of" "row_of" (defArgs sRowOf) (defBody sRowOf) (defScope sRowOf) .none kV9 dc9 pm9 an9 cd9 ct9), sl9⟩)
    (c9 : PySem.W.codeIn K cd9 "row_of" = true)
    (k9 : PySem.W.keepIn K (.ref f9) = true)
    {f10 : Addr} {od10 an10 : Option Addr} {sl10 : Array (Option Value)} {oc10 kV10 dc10 pm10 cd10 ct10 : Value}
    (a10 : PySem.W.nsIn K mainGlobals "class_row" = some (some (.ref f10)))
    (l10 : K.lookup f10 = some ⟨oc10, od10, .func (PySem.W.fnOf "class_row" "class_row" (defArgs sClassRow) (defBody sClassRow) (defScope sClassRow) .none kV10 dc10 pm10 an10 cd10 ct10), sl10⟩)
    (c10 : PySem.W.codeIn K cd10 "class_row" = true)
    (k10 : PySem.W.keepIn K (.ref f10) = true)
    {f11 : Addr} {od11 an11 : Option Addr} {sl11 : Array (Option Value)} {oc11 kV11 dc11 pm11 cd11 ct11 : Value}
    (a11 : PySem.W.nsIn K mainGlobals "classes" = some (some (.ref f11)))
    (l11 : K.lookup f11 = some ⟨oc11, od11, .func (PySem.W.fnOf "classes" "classes" (defArgs sClasses) (defBody sClasses) (defScope sClasses) .none kV11 dc11 pm11 an11 cd11 ct11), sl11⟩)
    (c11 : PySem.W.codeIn K cd11 "classes" = true)
    (k11 : PySem.W.keepIn K (.ref f11) = true)
    {f12 : Addr} {od12 an12 : Option Addr} {sl12 : Array (Option Value)} {oc12 kV12 dc12 pm12 cd12 ct12 : Value}
    (a12 : PySem.W.nsIn K mainGlobals "_law_dice" = some (some (.ref f12)))
    (l12 : K.lookup f12 = some ⟨oc12, od12, .func (PySem.W.fnOf "_law_dice" "_law_dice" (defArgs sLawDice) (defBody sLawDice) (defScope sLawDice) .none kV12 dc12 pm12 an12 cd12 ct12), sl12⟩)
    (c12 : PySem.W.codeIn K cd12 "_law_dice" = true)
    (k12 : PySem.W.keepIn K (.ref f12) = true)
    {f13 : Addr} {od13 an13 : Option Addr} {sl13 : Array (Option Value)} {oc13 kV13 dc13 pm13 cd13 ct13 : Value}
    (a13 : PySem.W.nsIn K mainGlobals "_law_off" = some (some (.ref f13)))
    (l13 : K.lookup f13 = some ⟨oc13, od13, .func (PySem.W.fnOf "_law_off" "_law_off" (defArgs sLawOff) (defBody sLawOff) (defScope sLawOff) .none kV13 dc13 pm13 an13 cd13 ct13), sl13⟩)
    (c13 : PySem.W.codeIn K cd13 "_law_off" = true)
    (k13 : PySem.W.keepIn K (.ref f13) = true)
    {f14 : Addr} {od14 an14 : Option Addr} {sl14 : Array (Option Value)} {oc14 kV14 dc14 pm14 cd14 ct14 : Value}
    (a14 : PySem.W.nsIn K mainGlobals "_law_size" = some (some (.ref f14)))
    (l14 : K.lookup f14 = some ⟨oc14, od14, .func (PySem.W.fnOf "_law_size" "_law_size" (defArgs sLawSize) (defBody sLawSize) (defScope sLawSize) .none kV14 dc14 pm14 an14 cd14 ct14), sl14⟩)
    (c14 : PySem.W.codeIn K cd14 "_law_size" = true)
    (k14 : PySem.W.keepIn K (.ref f14) = true)
    {f15 : Addr} {od15 an15 : Option Addr} {sl15 : Array (Option Value)} {oc15 kV15 dc15 pm15 cd15 ct15 : Value}
    (a15 : PySem.W.nsIn K mainGlobals "_law_set" = some (some (.ref f15)))
    (l15 : K.lookup f15 = some ⟨oc15, od15, .func (PySem.W.fnOf "_law_set" "_law_set" (defArgs sLawSet) (defBody sLawSet) (defScope sLawSet) .none kV15 dc15 pm15 an15 cd15 ct15), sl15⟩)
    (c15 : PySem.W.codeIn K cd15 "_law_set" = true)
    (k15 : PySem.W.keepIn K (.ref f15) = true)
    {f16 : Addr} {od16 an16 : Option Addr} {sl16 : Array (Option Value)} {oc16 kV16 dc16 pm16 cd16 ct16 : Value}
    (a16 : PySem.W.nsIn K mainGlobals "_law_bad" = some (some (.ref f16)))
    (l16 : K.lookup f16 = some ⟨oc16, od16, .func (PySem.W.fnOf "_law_bad" "_law_bad" (defArgs sLawBad) (defBody sLawBad) (defScope sLawBad) .none kV16 dc16 pm16 an16 cd16 ct16), sl16⟩)
    (c16 : PySem.W.codeIn K cd16 "_law_bad" = true)
    (k16 : PySem.W.keepIn K (.ref f16) = true)
    {f17 : Addr} {od17 an17 : Option Addr} {sl17 : Array (Option Value)} {oc17 kV17 dc17 pm17 cd17 ct17 : Value}
    (a17 : PySem.W.nsIn K mainGlobals "check_number" = some (some (.ref f17)))
    (l17 : K.lookup f17 = some ⟨oc17, od17, .func (PySem.W.fnOf "check_number" "check_number" (defArgs sCheckNumber) (defBody sCheckNumber) (defScope sCheckNumber) .none kV17 dc17 pm17 an17 cd17 ct17), sl17⟩)
    (c17 : PySem.W.codeIn K cd17 "check_number" = true)
    (k17 : PySem.W.keepIn K (.ref f17) = true)
    {f18 : Addr} {od18 an18 : Option Addr} {sl18 : Array (Option Value)} {oc18 kV18 dc18 pm18 cd18 ct18 : Value}
    (a18 : PySem.W.nsIn K mainGlobals "members" = some (some (.ref f18)))
    (l18 : K.lookup f18 = some ⟨oc18, od18, .func (PySem.W.fnOf "members" "members" (defArgs sMembers) (defBody sMembers) (defScope sMembers) .none kV18 dc18 pm18 an18 cd18 ct18), sl18⟩)
    (c18 : PySem.W.codeIn K cd18 "members" = true)
    (k18 : PySem.W.keepIn K (.ref f18) = true)
    {f19 : Addr} {od19 an19 : Option Addr} {sl19 : Array (Option Value)} {oc19 kV19 dc19 pm19 cd19 ct19 : Value}
    (a19 : PySem.W.nsIn K mainGlobals "others" = some (some (.ref f19)))
    (l19 : K.lookup f19 = some ⟨oc19, od19, .func (PySem.W.fnOf "others" "others" (defArgs sOthers) (defBody sOthers) (defScope sOthers) .none kV19 dc19 pm19 an19 cd19 ct19), sl19⟩)
    (c19 : PySem.W.codeIn K cd19 "others" = true)
    (k19 : PySem.W.keepIn K (.ref f19) = true)
    {f20 : Addr} {od20 an20 : Option Addr} {sl20 : Array (Option Value)} {oc20 kV20 dc20 pm20 cd20 ct20 : Value}
    (a20 : PySem.W.nsIn K mainGlobals "written" = some (some (.ref f20)))
    (l20 : K.lookup f20 = some ⟨oc20, od20, .func (PySem.W.fnOf "written" "written" (defArgs sWritten) (defBody sWritten) (defScope sWritten) .none kV20 dc20 pm20 an20 cd20 ct20), sl20⟩)
    (c20 : PySem.W.codeIn K cd20 "written" = true)
    (k20 : PySem.W.keepIn K (.ref f20) = true)
    {f21 : Addr} {od21 an21 : Option Addr} {sl21 : Array (Option Value)} {oc21 kV21 dc21 pm21 cd21 ct21 : Value}
    (a21 : PySem.W.nsIn K mainGlobals "joined" = some (some (.ref f21)))
    (l21 : K.lookup f21 = some ⟨oc21, od21, .func (PySem.W.fnOf "joined" "joined" (defArgs sJoined) (defBody sJoined) (defScope sJoined) .none kV21 dc21 pm21 an21 cd21 ct21), sl21⟩)
    (c21 : PySem.W.codeIn K cd21 "joined" = true)
    (k21 : PySem.W.keepIn K (.ref f21) = true)
    {f22 : Addr} {od22 an22 : Option Addr} {sl22 : Array (Option Value)} {oc22 kV22 dc22 pm22 cd22 ct22 : Value}
    (a22 : PySem.W.nsIn K mainGlobals "common" = some (some (.ref f22)))
    (l22 : K.lookup f22 = some ⟨oc22, od22, .func (PySem.W.fnOf "common" "common" (defArgs sCommon) (defBody sCommon) (defScope sCommon) .none kV22 dc22 pm22 an22 cd22 ct22), sl22⟩)
    (c22 : PySem.W.codeIn K cd22 "common" = true)
    (k22 : PySem.W.keepIn K (.ref f22) = true)
    {f23 : Addr} {od23 an23 : Option Addr} {sl23 : Array (Option Value)} {oc23 kV23 dc23 pm23 cd23 ct23 : Value}
    (a23 : PySem.W.nsIn K mainGlobals "less" = some (some (.ref f23)))
    (l23 : K.lookup f23 = some ⟨oc23, od23, .func (PySem.W.fnOf "less" "less" (defArgs sLess) (defBody sLess) (defScope sLess) .none kV23 dc23 pm23 an23 cd23 ct23), sl23⟩)
    (c23 : PySem.W.codeIn K cd23 "less" = true)
    (k23 : PySem.W.keepIn K (.ref f23) = true)
    {f24 : Addr} {od24 an24 : Option Addr} {sl24 : Array (Option Value)} {oc24 kV24 dc24 pm24 cd24 ct24 : Value}
    (a24 : PySem.W.nsIn K mainGlobals "by_classes" = some (some (.ref f24)))
    (l24 : K.lookup f24 = some ⟨oc24, od24, .func (PySem.W.fnOf "by_classes" "by_classes" (defArgs sByClasses) (defBody sByClasses) (defScope sByClasses) .none kV24 dc24 pm24 an24 cd24 ct24), sl24⟩)
    (c24 : PySem.W.codeIn K cd24 "by_classes" = true)
    (k24 : PySem.W.keepIn K (.ref f24) = true)
    {f25 : Addr} {od25 an25 : Option Addr} {sl25 : Array (Option Value)} {oc25 kV25 dc25 pm25 cd25 ct25 : Value}
    (a25 : PySem.W.nsIn K mainGlobals "least" = some (some (.ref f25)))
    (l25 : K.lookup f25 = some ⟨oc25, od25, .func (PySem.W.fnOf "least" "least" (defArgs sLeast) (defBody sLeast) (defScope sLeast) .none kV25 dc25 pm25 an25 cd25 ct25), sl25⟩)
    (c25 : PySem.W.codeIn K cd25 "least" = true)
    (k25 : PySem.W.keepIn K (.ref f25) = true)
    {f26 : Addr} {od26 an26 : Option Addr} {sl26 : Array (Option Value)} {oc26 kV26 dc26 pm26 cd26 ct26 : Value}
    (a26 : PySem.W.nsIn K mainGlobals "inside" = some (some (.ref f26)))
    (l26 : K.lookup f26 = some ⟨oc26, od26, .func (PySem.W.fnOf "inside" "inside" (defArgs sInside) (defBody sInside) (defScope sInside) .none kV26 dc26 pm26 an26 cd26 ct26), sl26⟩)
    (c26 : PySem.W.codeIn K cd26 "inside" = true)
    (k26 : PySem.W.keepIn K (.ref f26) = true)
    {f27 : Addr} {od27 an27 : Option Addr} {sl27 : Array (Option Value)} {oc27 kV27 dc27 pm27 cd27 ct27 : Value}
    (a27 : PySem.W.nsIn K mainGlobals "look" = some (some (.ref f27)))
    (l27 : K.lookup f27 = some ⟨oc27, od27, .func (PySem.W.fnOf "look" "look" (defArgs sLook) (defBody sLook) (defScope sLook) .none kV27 dc27 pm27 an27 cd27 ct27), sl27⟩)
    (c27 : PySem.W.codeIn K cd27 "look" = true)
    (k27 : PySem.W.keepIn K (.ref f27) = true)
    {f28 : Addr} {od28 an28 : Option Addr} {sl28 : Array (Option Value)} {oc28 kV28 dc28 pm28 cd28 ct28 : Value}
    (a28 : PySem.W.nsIn K mainGlobals "read" = some (some (.ref f28)))
    (l28 : K.lookup f28 = some ⟨oc28, od28, .func (PySem.W.fnOf "read" "read" (defArgs sRead) (defBody sRead) (defScope sRead) .none kV28 dc28 pm28 an28 cd28 ct28), sl28⟩)
    (c28 : PySem.W.codeIn K cd28 "read" = true)
    (k28 : PySem.W.keepIn K (.ref f28) = true)
    {f29 : Addr} {od29 an29 : Option Addr} {sl29 : Array (Option Value)} {oc29 kV29 dc29 pm29 cd29 ct29 : Value}
    (a29 : PySem.W.nsIn K mainGlobals "_law_alike" = some (some (.ref f29)))
    (l29 : K.lookup f29 = some ⟨oc29, od29, .func (PySem.W.fnOf "_law_alike" "_law_alike" (defArgs sLawAlike) (defBody sLawAlike) (defScope sLawAlike) .none kV29 dc29 pm29 an29 cd29 ct29), sl29⟩)
    (c29 : PySem.W.codeIn K cd29 "_law_alike" = true)
    (k29 : PySem.W.keepIn K (.ref f29) = true)
    {f30 : Addr} {od30 an30 : Option Addr} {sl30 : Array (Option Value)} {oc30 kV30 dc30 pm30 cd30 ct30 : Value}
    (a30 : PySem.W.nsIn K mainGlobals "_law_refused" = some (some (.ref f30)))
    (l30 : K.lookup f30 = some ⟨oc30, od30, .func (PySem.W.fnOf "_law_refused" "_law_refused" (defArgs sLawRefused) (defBody sLawRefused) (defScope sLawRefused) .none kV30 dc30 pm30 an30 cd30 ct30), sl30⟩)
    (c30 : PySem.W.codeIn K cd30 "_law_refused" = true)
    (k30 : PySem.W.keepIn K (.ref f30) = true)
    {f31 : Addr} {od31 an31 : Option Addr} {sl31 : Array (Option Value)} {oc31 kV31 dc31 pm31 ct31 : Value} {cS : Addr}
    (a31 : PySem.W.nsIn K mainGlobals "_law_single" = some (some (.ref f31)))
    (l31 : K.lookup f31 = some ⟨oc31, od31, .func (PySem.W.fnOf "_law_single" "_law_single" (defArgs sLawSingle) (defBody sLawSingle) (defScope sLawSingle) .none kV31 dc31 pm31 an31 (.ref cS) ct31), sl31⟩)
    (c31 : PySem.W.codeIn K (.ref cS) "_law_single" = true)
    (k31 : PySem.W.keepIn K (.ref f31) = true)
    {f32 : Addr} {od32 an32 : Option Addr} {sl32 : Array (Option Value)} {oc32 kV32 dc32 pm32 ct32 : Value} {cV : Addr}
    (a32 : PySem.W.nsIn K mainGlobals "_law_several" = some (some (.ref f32)))
    (l32 : K.lookup f32 = some ⟨oc32, od32, .func (PySem.W.fnOf "_law_several" "_law_several" (defArgs sLawSeveral) (defBody sLawSeveral) (defScope sLawSeveral) .none kV32 dc32 pm32 an32 (.ref cV) ct32), sl32⟩)
    (c32 : PySem.W.codeIn K (.ref cV) "_law_several" = true)
    (k32 : PySem.W.keepIn K (.ref f32) = true)
    {f33 : Addr} {od33 an33 : Option Addr} {sl33 : Array (Option Value)} {oc33 kV33 dc33 pm33 ct33 : Value} {cL : Addr}
    (a33 : PySem.W.nsIn K mainGlobals "law" = some (some (.ref f33)))
    (l33 : K.lookup f33 = some ⟨oc33, od33, .func (PySem.W.fnOf "law" "law" (defArgs sLaw) (defBody sLaw) (defScope sLaw) .none kV33 dc33 pm33 an33 (.ref cL) ct33), sl33⟩)
    (c33 : PySem.W.codeIn K (.ref cL) "law" = true)
    (k33 : PySem.W.keepIn K (.ref f33) = true)
    (z0 : PySem.W.nsIn K mainGlobals "enumerate" = some none)
    (z1 : PySem.W.nsIn K mainGlobals "range" = some none)
    (z2 : PySem.W.nsIn K mainGlobals "abs" = some none)
    (z3 : PySem.W.nsIn K mainGlobals "len" = some none)
    (z4 : PySem.W.nsIn K mainGlobals "min" = some none)
    (z5 : PySem.W.nsIn K mainGlobals "list" = some none)
    (z6 : PySem.W.nsIn K mainGlobals "isinstance" = some none)
    (z7 : PySem.W.nsIn K mainGlobals "bool" = some none)
    (z8 : PySem.W.nsIn K mainGlobals "int" = some none)
    (z9 : PySem.W.nsIn K mainGlobals "str" = some none)
    (z10 : PySem.W.nsIn K mainGlobals "tuple" = some none)
    (z11 : PySem.W.nsIn K mainGlobals "all" = some none)
    (z12 : PySem.W.nsIn K mainGlobals "zip" = some none)
    (z13 : PySem.W.nsIn K mainGlobals "max" = some none)
    (z14 : PySem.W.nsIn K mainGlobals "ValueError" = some none)
    (z15 : PySem.W.nsIn K mainGlobals "super" = some none)
    {t0 : Tok}
    (y0 : PySem.W.nsIn K mainGlobals "MOST_SIGNS" = some (some (.int 64 t0)))
    {t1 : Tok}
    (y1 : PySem.W.nsIn K mainGlobals "MOST_RANGES" = some (some (.int 40 t1)))
    {CS CZ CB CN CT : Addr}
    (nCS : PySem.W.nsIn K mainGlobals "SetError" = some (some (.ref CS)))
    (nCZ : PySem.W.nsIn K mainGlobals "BadSize" = some (some (.ref CZ)))
    (nCB : PySem.W.nsIn K mainGlobals "BadSet" = some (some (.ref CB)))
    (nCN : PySem.W.nsIn K mainGlobals "BadNumber" = some (some (.ref CN)))
    (nCT : PySem.W.nsIn K mainGlobals "BadText" = some (some (.ref CT)))
    (gaCZ : PySem.W.findIn K (.ref CZ) "__getattribute__" = some (some (.builtin "BaseException.__getattribute__")))
    (ggCZ : PySem.W.findIn K (.ref CZ) "__getattr__" = some none)
    (clCZ : PySem.W.findIn K (.ref CZ) "__class__" = some (some (.builtin "object.__class__")))
    (moCZ : PySem.W.mroIn K CZ (.type "object") = some true)
    (eCZ : PySem.W.subIn K (.ref CZ) (.type "BaseException") = some true)
    (tCZ : PySem.W.typeIn K (.ref CZ) = some (.type "type"))
    (kCZ : PySem.W.keepIn K (.ref CZ) = true)
    (dCZ : PySem.W.hasDictIn K CZ = true)
    (ssCZ : PySem.W.subIn K (.ref CZ) (.ref CS) = some true)
    (kitCZCB : PySem.W.kitOne K (.ref CZ) (.ref CB) = some false)
    (kitCZCN : PySem.W.kitOne K (.ref CZ) (.ref CN) = some false)
    (kitCZCT : PySem.W.kitOne K (.ref CZ) (.ref CT) = some false)
    (kVCZ : PySem.W.kitOne K (.ref CZ) (.type "ValueError") = some true)
    (gaCB : PySem.W.findIn K (.ref CB) "__getattribute__" = some (some (.builtin "BaseException.__getattribute__")))
    (ggCB : PySem.W.findIn K (.ref CB) "__getattr__" = some none)
    (clCB : PySem.W.findIn K (.ref CB) "__class__" = some (some (.builtin "object.__class__")))
    (moCB : PySem.W.mroIn K CB (.type "object") = some true)
    (eCB : PySem.W.subIn K (.ref CB) (.type "BaseException") = some true)
    (tCB : PySem.W.typeIn K (.ref CB) = some (.type "type"))
    (kCB : PySem.W.keepIn K (.ref CB) = true)
    (dCB : PySem.W.hasDictIn K CB = true)
    (ssCB : PySem.W.subIn K (.ref CB) (.ref CS) = some true)
    (kitCBCZ : PySem.W.kitOne K (.ref CB) (.ref CZ) = some false)
    (kitCBCN : PySem.W.kitOne K (.ref CB) (.ref CN) = some false)
    (kitCBCT : PySem.W.kitOne K (.ref CB) (.ref CT) = some false)
    (kVCB : PySem.W.kitOne K (.ref CB) (.type "ValueError") = some true)
    (gaCN : PySem.W.findIn K (.ref CN) "__getattribute__" = some (some (.builtin "BaseException.__getattribute__")))
    (ggCN : PySem.W.findIn K (.ref CN) "__getattr__" = some none)
    (clCN : PySem.W.findIn K (.ref CN) "__class__" = some (some (.builtin "object.__class__")))
    (moCN : PySem.W.mroIn K CN (.type "object") = some true)
    (eCN : PySem.W.subIn K (.ref CN) (.type "BaseException") = some true)
    (tCN : PySem.W.typeIn K (.ref CN) = some (.type "type"))
    (kCN : PySem.W.keepIn K (.ref CN) = true)
    (dCN : PySem.W.hasDictIn K CN = true)
    (ssCN : PySem.W.subIn K (.ref CN) (.ref CS) = some true)
    (kitCNCZ : PySem.W.kitOne K (.ref CN) (.ref CZ) = some false)
    (kitCNCB : PySem.W.kitOne K (.ref CN) (.ref CB) = some false)
    (kitCNCT : PySem.W.kitOne K (.ref CN) (.ref CT) = some false)
    (kVCN : PySem.W.kitOne K (.ref CN) (.type "ValueError") = some true)
    (xCZ : PySem.W.excIn K CZ [.type "ValueError", .type "Exception", .type "BaseException", .type "object"] "ValueError.__new__" = true)
    (xCN : PySem.W.excIn K CN [.type "ValueError", .type "Exception", .type "BaseException", .type "object"] "ValueError.__new__" = true)
    (spC : PySem.W.specialIn K (.builtin "object.__class__") "__get__" = some (some (.builtin "getset_descriptor.__get__")))
    (tkC : PySem.W.takesIn K (.builtin "object.__class__") = some true)
    {nm qn : Str} {NN : Addr} {bs bm : List Value} {sn : List Str} {sub : List Value} {ab : Bool} {col : Option Bool} {dd : Option Addr} {x0 x1 x2 x3 x5 : Option Value}
    (xC : K.lookup CB = some (excClassObj nm qn CB NN bs bm true sn sub ab col dd x0 x1 x2 x3 x5 "ValueError.__new__"))
    (rC : PySem.HandSPX.refsVE bm = true)
    (sC : PySem.W.findIn K (.ref CB) "__setattr__" = some (some (.builtin "object.__setattr__")))
    (hn1 : PySem.W.findIn K (.ref CB) "number" = some none)
    (hn2 : PySem.W.findIn K (.ref CB) "at" = some none)
    (vC : PySem.W.subIn K (.ref CB) (.type "ValueError") = some true)
    (oC : PySem.W.mroIn K CB (.ref CB) = some true)
    (suC : PySem.W.ks_superIn K CB CB "__init__" = some (some (.builtin "ValueError.__init__")))
    (opq : PySem.W.nsIn K cStatics "thirdparty.any" = some none)
    {fI cc cda : Addr} {kVI dcI pmI ctI ocI : Value} {anI odI : Option Addr} {slI : Array (Option Value)}
    (iC : PySem.W.findIn K (.ref CB) "__init__" = some (some (.ref fI)))
    (tI : PySem.W.typeIn K (.ref fI) = some (.type "function"))
    (lI : K.lookup fI = some ⟨ocI, odI, .func (PySem.W.ksFn "__init__" "BadSet.__init__" (defArgs mBadSet) (defBody mBadSet) (defScope mBadSet) .none kVI dcI pmI anI (.ref cda) ctI cc), slI⟩)
    (cI : PySem.W.codeIn K (.ref cda) "BadSet.__init__" = true)
    {cl0 : Value} {cl1 : Option Addr} {cl2 : Array (Option Value)}
    (ceI : K.lookup cc = some ⟨cl0, cl1, .cell (some (.ref CB)), cl2⟩)
    {cc0 : Value} {cc1 : Option Addr} {vs0 : Array Value} {cc2 : Array (Option Value)} {file : Str} {tf : Tok}
    (coI : K.lookup cda = some ⟨cc0, cc1, .fields vs0, cc2⟩)
    (vsI : vs0[2]? = some (.str file tf))
    (hfile : ((l.prog.main.file : Str) == file) = true)
    (htop : (l.prog.main.scope.names.lookup ("super" : Str)).isSome = false)
    (s1 : PySem.W.subIn K (.ref CS) (.type "BaseException") = some true)
    (s2 : PySem.W.hasDictIn K CS = true)
    (s3 : PySem.W.typeIn K (.ref CS) = some (.type "type"))
    {PS : Addr} {e0S : Value} {e1S : Option Addr} {vsS : Array Value} {e2S : Array (Option Value)}
    (coS : K.lookup cS = some ⟨e0S, e1S, .fields vsS, e2S⟩)
    (ptS : vsS[11]? = some (.ref PS))
    (hdS : PySem.W.codeHdIn K cS PS = true)
    (noS : K.lookup PS = none)
    {PV : Addr} {e0V : Value} {e1V : Option Addr} {vsV : Array Value} {e2V : Array (Option Value)}
    (coV : K.lookup cV = some ⟨e0V, e1V, .fields vsV, e2V⟩)
    (ptV : vsV[11]? = some (.ref PV))
    (hdV : PySem.W.codeHdIn K cV PV = true)
    (noV : K.lookup PV = none)
    {PL : Addr} {e0L : Value} {e1L : Option Addr} {vsL : Array Value} {e2L : Array (Option Value)}
    (coL : K.lookup cL = some ⟨e0L, e1L, .fields vsL, e2L⟩)
    (ptL : vsL[11]? = some (.ref PL))
    (hdL : PySem.W.codeHdIn K cL PL = true)
    (noL : K.lookup PL = none)
    (neLS : PL ≠ PS)
    (neLV : PL ≠ PV)
    (neSV : PS ≠ PV) :
    LamX.LawAtS l w K CX0 12 63 "_law_script" mg fa h := by
  have eL := hfa.symm.trans (PySem.W.mg_of X G a33)
  cases eL
  have FCheckSize := fun_mk (st := sCheckSize) l0 c0 k0
  have BCheckSize := FCheckSize.binds (ps := ["size"]) fun _ _ _ _ _ _ us hl => match us, hl with | [_], _ => rfl
  have GCheckSize := PySem.W.mg_of X G a0
  have KCheckSize := k0
  have FCheckSet := fun_mk (st := sCheckSet) l1 c1 k1
  have BCheckSet := FCheckSet.binds (ps := ["size", "ranges", "number"]) fun _ _ _ _ _ _ us hl => match us, hl with | [_, _, _], _ => rfl
  have GCheckSet := PySem.W.mg_of X G a1
  have KCheckSet := k1
  have FMarksOf := fun_mk (st := sMarksOf) l2 c2 k2
  have BMarksOf := FMarksOf.binds (ps := ["size", "ranges"]) fun _ _ _ _ _ _ us hl => match us, hl with | [_, _], _ => rfl
  have GMarksOf := PySem.W.mg_of X G a2
  have KMarksOf := k2
  have FCheckedMarks := fun_mk (st := sCheckedMarks) l3 c3 k3
  have BCheckedMarks := FCheckedMarks.binds (ps := ["size", "sets"]) fun _ _ _ _ _ _ us hl => match us, hl with | [_, _], _ => rfl
  have GCheckedMarks := PySem.W.mg_of X G a3
  have KCheckedMarks := k3
  have FRangesOf := fun_mk (st := sRangesOf) l4 c4 k4
  have BRangesOf := FRangesOf.binds (ps := ["marks"]) fun _ _ _ _ _ _ us hl => match us, hl with | [_], _ => rfl
  have GRangesOf := PySem.W.mg_of X G a4
  have KRangesOf := k4
  have FPlain := fun_mk (st := sPlain) l5 c5 k5
  have BPlain := FPlain.binds (ps := ["size", "ranges"]) fun _ _ _ _ _ _ us hl => match us, hl with | [_, _], _ => rfl
  have GPlain := PySem.W.mg_of X G a5
  have KPlain := k5
  have FStretchRows := fun_mk (st := sStretchRows) l6 c6 k6
  have BStretchRows := FStretchRows.binds (ps := ["marks", "wide"]) fun _ _ _ _ _ _ us hl => match us, hl with | [_, _], _ => rfl
  have GStretchRows := PySem.W.mg_of X G a6
  have KStretchRows := k6
  have FTableOf := fun_mk (st := sTableOf) l7 c7 k7
  have BTableOf := FTableOf.binds (ps := ["all_marks", "wide"]) fun _ _ _ _ _ _ us hl => match us, hl with | [_, _], _ => rfl
  have GTableOf := PySem.W.mg_of X G a7
  have KTableOf := k7
  have FTable := fun_mk (st := sTable) l8 c8 k8
  have BTable := FTable.binds (ps := ["size", "sets", "wide"]) fun _ _ _ _ _ _ us hl => match us, hl with | [_, _, _], _ => rfl
  have GTable := PySem.W.mg_of X G a8
  have KTable := k8
  have FRowOf := fun_mk (st := sRowOf) l9 c9 k9
  have BRowOf := FRowOf.binds (ps := ["size", "all_marks"]) fun _ _ _ _ _ _ us hl => match us, hl with | [_, _], _ => rfl
  have GRowOf := PySem.W.mg_of X G a9
  have KRowOf := k9
  have FClassRow := fun_mk (st := sClassRow) l10 c10 k10
  have BClassRow := FClassRow.binds (ps := ["size", "sets"]) fun _ _ _ _ _ _ us hl => match us, hl with | [_, _], _ => rfl
  have GClassRow := PySem.W.mg_of X G a10
  have KClassRow := k10
  have FClasses := fun_mk (st := sClasses) l11 c11 k11
  have BClasses := FClasses.binds (ps := ["size", "sets"]) fun _ _ _ _ _ _ us hl => match us, hl with | [_, _], _ => rfl
  have GClasses := PySem.W.mg_of X G a11
  have KClasses := k11
  have FLawDice := fun_mk (st := sLawDice) l12 c12 k12
  have BLawDice := FLawDice.binds (ps := ["_law_script", "_law_k"]) fun _ _ _ _ _ _ us hl => match us, hl with | [_, _], _ => rfl
  have GLawDice := PySem.W.mg_of X G a12
  have KLawDice := k12
  have FLawOff := fun_mk (st := sLawOff) l13 c13 k13
  have BLawOff := FLawOff.binds (ps := ["_law_d", "_law_most"]) fun _ _ _ _ _ _ us hl => match us, hl with | [_, _], _ => rfl
  have GLawOff := PySem.W.mg_of X G a13
  have KLawOff := k13
  have FLawSize := fun_mk (st := sLawSize) l14 c14 k14
  have BLawSize := FLawSize.binds (ps := ["_law_d"]) fun _ _ _ _ _ _ us hl => match us, hl with | [_], _ => rfl
  have GLawSize := PySem.W.mg_of X G a14
  have KLawSize := k14
  have FLawSet := fun_mk (st := sLawSet) l15 c15 k15
  have BLawSet := FLawSet.binds (ps := ["_law_d", "_law_size_here", "_law_most"]) fun _ _ _ _ _ _ us hl => match us, hl with | [_, _, _], _ => rfl
  have GLawSet := PySem.W.mg_of X G a15
  have KLawSet := k15
  have FLawBad := fun_mk (st := sLawBad) l16 c16 k16
  have BLawBad := FLawBad.binds (ps := ["_law_d", "_law_size_here", "_law_ranges"]) fun _ _ _ _ _ _ us hl => match us, hl with | [_, _, _], _ => rfl
  have GLawBad := PySem.W.mg_of X G a16
  have KLawBad := k16
  have FCheckNumber := fun_mk (st := sCheckNumber) l17 c17 k17
  have BCheckNumber := FCheckNumber.binds (ps := ["size", "number"]) fun _ _ _ _ _ _ us hl => match us, hl with | [_, _], _ => rfl
  have GCheckNumber := PySem.W.mg_of X G a17
  have KCheckNumber := k17
  have FMembers := fun_mk (st := sMembers) l18 c18 k18
  have BMembers := FMembers.binds (ps := ["size", "ranges"]) fun _ _ _ _ _ _ us hl => match us, hl with | [_, _], _ => rfl
  have GMembers := PySem.W.mg_of X G a18
  have KMembers := k18
  have FOthers := fun_mk (st := sOthers) l19 c19 k19
  have BOthers := FOthers.binds (ps := ["size", "ranges"]) fun _ _ _ _ _ _ us hl => match us, hl with | [_, _], _ => rfl
  have GOthers := PySem.W.mg_of X G a19
  have KOthers := k19
  have FWritten := fun_mk (st := sWritten) l20 c20 k20
  have BWritten := FWritten.binds (ps := ["size", "ranges"]) fun _ _ _ _ _ _ us hl => match us, hl with | [_, _], _ => rfl
  have GWritten := PySem.W.mg_of X G a20
  have KWritten := k20
  have FJoined := fun_mk (st := sJoined) l21 c21 k21
  have BJoined := FJoined.binds (ps := ["size", "one", "other"]) fun _ _ _ _ _ _ us hl => match us, hl with | [_, _, _], _ => rfl
  have GJoined := PySem.W.mg_of X G a21
  have KJoined := k21
  have FCommon := fun_mk (st := sCommon) l22 c22 k22
  have BCommon := FCommon.binds (ps := ["size", "one", "other"]) fun _ _ _ _ _ _ us hl => match us, hl with | [_, _, _], _ => rfl
  have GCommon := PySem.W.mg_of X G a22
  have KCommon := k22
  have FLess := fun_mk (st := sLess) l23 c23 k23
  have BLess := FLess.binds (ps := ["size", "one", "other"]) fun _ _ _ _ _ _ us hl => match us, hl with | [_, _, _], _ => rfl
  have GLess := PySem.W.mg_of X G a23
  have KLess := k23
  have FByClasses := fun_mk (st := sByClasses) l24 c24 k24
  have BByClasses := FByClasses.binds (ps := ["size", "sets"]) fun _ _ _ _ _ _ us hl => match us, hl with | [_, _], _ => rfl
  have GByClasses := PySem.W.mg_of X G a24
  have KByClasses := k24
  have FLeast := fun_mk (st := sLeast) l25 c25 k25
  have BLeast := FLeast.binds (ps := ["size", "sets"]) fun _ _ _ _ _ _ us hl => match us, hl with | [_, _], _ => rfl
  have GLeast := PySem.W.mg_of X G a25
  have KLeast := k25
  have FInside := fun_mk (st := sInside) l26 c26 k26
  have BInside := FInside.binds (ps := ["size", "ranges", "number"]) fun _ _ _ _ _ _ us hl => match us, hl with | [_, _, _], _ => rfl
  have GInside := PySem.W.mg_of X G a26
  have KInside := k26
  have FLook := fun_mk (st := sLook) l27 c27 k27
  have BLook := FLook.binds (ps := ["size", "told", "which", "number"]) fun _ _ _ _ _ _ us hl => match us, hl with | [_, _, _, _], _ => rfl
  have GLook := PySem.W.mg_of X G a27
  have KLook := k27
  have FRead := fun_mk (st := sRead) l28 c28 k28
  have BRead := FRead.binds (ps := ["size", "text"]) fun _ _ _ _ _ _ us hl => match us, hl with | [_, _], _ => rfl
  have GRead := PySem.W.mg_of X G a28
  have KRead := k28
  have FLawAlike := fun_mk (st := sLawAlike) l29 c29 k29
  have BLawAlike := FLawAlike.binds (ps := ["_law_found", "_law_due"]) fun _ _ _ _ _ _ us hl => match us, hl with | [_, _], _ => rfl
  have GLawAlike := PySem.W.mg_of X G a29
  have KLawAlike := k29
  have FLawRefused := fun_mk (st := sLawRefused) l30 c30 k30
  have BLawRefused := FLawRefused.binds (ps := ["_law_work", "_law_word", "_law_value"]) fun _ _ _ _ _ _ us hl => match us, hl with | [_, _, _], _ => rfl
  have GLawRefused := PySem.W.mg_of X G a30
  have KLawRefused := k30
  have BLawSingle : Binds K (PySem.W.fnOf "_law_single" "_law_single" (defArgs sLawSingle) (defBody sLawSingle) (defScope sLawSingle) .none kV31 dc31 pm31 an31 (.ref cS) ct31) ["_law_size_here", "_law_ranges"] [] := .all fun us hl => match us, hl with | [_, _], _ => rfl
  have GLawSingle := PySem.W.mg_of X G a31
  have KLawSingle := k31
  have BLawSeveral : Binds K (PySem.W.fnOf "_law_several" "_law_several" (defArgs sLawSeveral) (defBody sLawSeveral) (defScope sLawSeveral) .none kV32 dc32 pm32 an32 (.ref cV) ct32) ["_law_size_here", "_law_sets"] [] := .all fun us hl => match us, hl with | [_, _], _ => rfl
  have GLawSeveral := PySem.W.mg_of X G a32
  have KLawSeveral := k32
  have GLaw := PySem.W.mg_of X G a33
  have KLaw := k33
  have m_enumerate := PySem.W.mg_none_of X G z0
  have m_range := PySem.W.mg_none_of X G z1
  have m_abs := PySem.W.mg_none_of X G z2
  have m_len := PySem.W.mg_none_of X G z3
  have m_min := PySem.W.mg_none_of X G z4
  have m_list := PySem.W.mg_none_of X G z5
  have m_isinstance := PySem.W.mg_none_of X G z6
  have m_bool := PySem.W.mg_none_of X G z7
  have m_int := PySem.W.mg_none_of X G z8
  have m_str := PySem.W.mg_none_of X G z9
  have m_tuple := PySem.W.mg_none_of X G z10
  have m_all := PySem.W.mg_none_of X G z11
  have m_zip := PySem.W.mg_none_of X G z12
  have m_max := PySem.W.mg_none_of X G z13
  have m_ValueError := PySem.W.mg_none_of X G z14
  have m_super := PySem.W.mg_none_of X G z15
  have m_MOST_SIGNS := PySem.W.mg_of X G y0
  have m_MOST_RANGES := PySem.W.mg_of X G y1
  have gS := PySem.W.mg_of X G nCS
  have g0 := PySem.W.mg_of X G nCZ
  have g1 := PySem.W.mg_of X G nCB
  have g2 := PySem.W.mg_of X G nCN
  have g3 := PySem.W.mg_of X G nCT
  have TO : OexC K CB := ⟨⟨nm, qn, NN, bs, bm, sn, sub, ab, col, dd, x0, x1, x2, x3, x5, xC, rC⟩, sC, eCB, tCB, kCB⟩
  have XCCZ : ExcC K CZ := ⟨gaCZ, ggCZ, eCZ, dCZ, clCZ, spC, tkC, moCZ⟩
  have eSCZ := PySem.W.exm_ref (K := K) (C := CS) (cls := .ref CZ) s1 s2 s3 ssCZ
  have XCCB : ExcC K CB := ⟨gaCB, ggCB, eCB, dCB, clCB, spC, tkC, moCB⟩
  have eSCB := PySem.W.exm_ref (K := K) (C := CS) (cls := .ref CB) s1 s2 s3 ssCB
  have XCCN : ExcC K CN := ⟨gaCN, ggCN, eCN, dCN, clCN, spC, tkC, moCN⟩
  have eSCN := PySem.W.exm_ref (K := K) (C := CS) (cls := .ref CN) s1 s2 s3 ssCN
  have XF : XfC K CB := ⟨gaCB, ggCB, eCB, dCB⟩
  have SU : SW.SupC K CB cc := ⟨TO, ⟨_, _, _, ceI⟩, suC, vC, oC, opq⟩
  have ZZ : OwnX K mg "BadSize" CZ := ⟨xCZ, g0, kCZ, eCZ, tCZ⟩
  have ZN : OwnX K mg "BadNumber" CN := ⟨xCN, g2, kCN, eCN, tCN⟩
  have C3 : ∀ p ∈ [(cL, PL), (cS, PS), (cV, PV)], p = (cL, PL) ∨ p = (cS, PS) ∨ p = (cV, PV) := fun p hp => by
    rcases List.mem_cons.mp hp with z | z
    · exact .inl z
    · rcases List.mem_cons.mp z with z | z
      · exact .inr (.inl z)
      · exact .inr (.inr (List.mem_singleton.mp z))
  refine ⟨PySem.W.fnOf "law" "law" (defArgs sLaw) (defBody sLaw) (defScope sLaw) .none kV33 dc33 pm33 an33 (.ref cL) ct33, [(cL, PL), (cS, PS), (cV, PV)], spLawR K [(PL, lamQ), (PS, (("_law_single" : Str) ++ ".<locals>.") ++ "<lambda>"), (PV, (("_law_several" : Str) ++ ".<locals>.") ++ "<lambda>")], fun p hp => ?_, fun p hp => ?_, fun p hp => ?_, fun s v => .of_eq rfl, fun H a ns hl _ hH hS => ⟨a, ns, rfl, hS, hl, tb3 hH, fun _ => rfl⟩, fun base _ _ TBs => ?_⟩
  · rcases C3 p hp with z | z | z <;> rw [z]
    · exact own "law" List.mem_cons_self _ GLaw cL PL _ _ _ _ _ _ l33 rfl rfl coL ptL
    · exact own "_law_single" (List.mem_cons_of_mem _ List.mem_cons_self) _ GLawSingle cS PS _ _ _ _ _ _ l31 rfl rfl coS ptS
    · exact own "_law_several" (List.mem_cons_of_mem _ (List.mem_cons_of_mem _ List.mem_cons_self)) _ GLawSeveral cV PV _ _ _ _ _ _ l32 rfl rfl coV ptV
  · rcases C3 p hp with z | z | z <;> rw [z]
    · exact noL
    · exact noS
    · exact noV
  · rcases C3 p hp with z | z | z <;> rw [z]
    · exact PySem.W.codeHd_of_K X hdL
    · exact PySem.W.codeHd_of_K X hdS
    · exact PySem.W.codeHd_of_K X hdV
  have TBL := TBs _ List.mem_cons_self
  have TBS := TBs _ (List.mem_cons_of_mem _ List.mem_cons_self)
  have TBV := TBs _ (List.mem_cons_of_mem _ (List.mem_cons_of_mem _ List.mem_cons_self))
  have OBS := ok_bset (P := l.prog) (w := w) (base := base) (CX := CX0) (k := 0) lI cI SU coI vsI hfile m_super htop hn1 hn2
  have BBS : Binds K (PySem.W.ksFn "__init__" "BadSet.__init__" (defArgs mBadSet) (defBody mBadSet) (defScope mBadSet) .none kVI dcI pmI anI (.ref cda) ctI cc) ["self", "number", "at"] [] := .all fun us hl => match us, hl with | [_, _, _], _ => rfl
  have OCheckSize := ok_size (P := l.prog) (w := w) (base := base) (k := 0) FCheckSize m_MOST_SIGNS
  have OCheckSet := ok_set (P := l.prog) (w := w) (base := base) (k := 0) FCheckSet m_MOST_RANGES m_enumerate
  have OMarksOf := ok_marks (P := l.prog) (w := w) (base := base) (k := 0) FMarksOf m_range
  have OCheckedMarks := ok_checked (k := 0) FCheckedMarks OCheckSize GCheckSize KCheckSize BCheckSize OCheckSet GCheckSet KCheckSet BCheckSet OMarksOf GMarksOf KMarksOf BMarksOf m_enumerate
  have ORangesOf := ok_ranges (P := l.prog) (w := w) (base := base) (k := 0) FRangesOf m_enumerate
  have OPlain := ok_plain (k := 0) FPlain (OCheckedMarks.mono (by decide)) GCheckedMarks KCheckedMarks BCheckedMarks (ORangesOf.mono (by decide)) GRangesOf KRangesOf BRangesOf
  have OStretchRows := ok_stretch (P := l.prog) (w := w) (base := base) (k := 0) FStretchRows m_range m_len
  have OTableOf := ok_tabOf (k := 0) FTableOf (OStretchRows.mono (by decide)) GStretchRows KStretchRows BStretchRows m_len m_list
  have OTable := ok_tableN (k := 0) FTable (OCheckedMarks.mono (by decide)) GCheckedMarks KCheckedMarks BCheckedMarks (OTableOf.mono (by decide)) GTableOf KTableOf BTableOf
  have ORowOf := ok_rowOf (P := l.prog) (w := w) (base := base) (k := 0) FRowOf m_range m_len m_tuple
  have OClassRow := ok_row (k := 0) FClassRow (OCheckedMarks.mono (by decide)) GCheckedMarks KCheckedMarks BCheckedMarks (ORowOf.mono (by decide)) GRowOf KRowOf BRowOf
  have OClasses := ok_classesN (k := 0) FClasses (OClassRow.mono (by decide)) GClassRow KClassRow BClassRow (ORangesOf.mono (by decide)) GRangesOf KRangesOf BRangesOf m_range m_max
  have OLawDice := ok_dice (P := l.prog) (w := w) (base := base) (k := 2) FLawDice m_abs
  have OLawOff := ok_off (P := l.prog) (w := w) (base := base) (k := 1) FLawOff m_len
  have OLawSize := ok_lsize (k := 1) FLawSize OLawOff GLawOff KLawOff BLawOff
  have OLawSet := ok_lset (k := 1) FLawSet OLawOff GLawOff KLawOff BLawOff m_range m_min
  have OLawBad := ok_bad (k := 1) FLawBad (OLawOff.mono (by decide)) GLawOff KLawOff BLawOff m_len m_max
  have XCheckSize := ok_sizeX (P := l.prog) (w := w) (base := base) (k := 0) FCheckSize m_MOST_SIGNS ZZ
  have XCheckNumber := ok_numX (P := l.prog) (w := w) (base := base) (k := 0) FCheckNumber ZN
  have XCheckSet := ok_setX (k := 1) FCheckSet m_MOST_RANGES m_enumerate OBS BBS TO iC tI g1
  have XCheckedMarks := ok_checkedX (k := 1) FCheckedMarks (XCheckSize.mono (by decide)) GCheckSize KCheckSize BCheckSize (XCheckSet.mono (by decide)) GCheckSet KCheckSet BCheckSet (OMarksOf.mono (by decide)) GMarksOf KMarksOf BMarksOf m_enumerate
  have XMembers := ok_membersE (k := 1) FMembers (XCheckedMarks.mono (by decide)) GCheckedMarks KCheckedMarks BCheckedMarks
  have XOthers := ok_othersE (k := 1) FOthers (XCheckedMarks.mono (by decide)) GCheckedMarks KCheckedMarks BCheckedMarks
  have XWritten := ok_writtenE (k := 1) FWritten (XCheckedMarks.mono (by decide)) GCheckedMarks KCheckedMarks BCheckedMarks
  have XJoined := ok_joinedE (k := 1) FJoined (XCheckedMarks.mono (by decide)) GCheckedMarks KCheckedMarks BCheckedMarks
  have XCommon := ok_commonE (k := 1) FCommon (XCheckedMarks.mono (by decide)) GCheckedMarks KCheckedMarks BCheckedMarks
  have XLess := ok_lessE (k := 1) FLess (XCheckedMarks.mono (by decide)) GCheckedMarks KCheckedMarks BCheckedMarks
  have XByClasses := ok_by_classesE (k := 1) FByClasses (XCheckedMarks.mono (by decide)) GCheckedMarks KCheckedMarks BCheckedMarks
  have XLeast := ok_leastE (k := 1) FLeast (XCheckedMarks.mono (by decide)) GCheckedMarks KCheckedMarks BCheckedMarks
  have XClassRow := ok_class_rowE (k := 1) FClassRow (XCheckedMarks.mono (by decide)) GCheckedMarks KCheckedMarks BCheckedMarks (ORowOf.mono (by decide)) GRowOf KRowOf BRowOf
  have XClasses := ok_classesE (k := 1) FClasses (XClassRow.mono (by decide)) GClassRow KClassRow BClassRow
  have XPlain := ok_plainX (k := 1) FPlain (XCheckedMarks.mono (by decide)) GCheckedMarks KCheckedMarks BCheckedMarks (ORangesOf.mono (by decide)) GRangesOf KRangesOf BRangesOf
  have XInside := ok_insideE (k := 1) FInside (XPlain.mono (by decide)) GPlain KPlain BPlain (XCheckNumber.mono (by decide)) GCheckNumber KCheckNumber BCheckNumber
  have XTable := ok_tableE (k := 1) FTable (XCheckedMarks.mono (by decide)) GCheckedMarks KCheckedMarks BCheckedMarks ZN
  have XLook := ok_lookE (k := 0) FLook (XCheckSize.mono (by decide)) GCheckSize KCheckSize BCheckSize (XCheckNumber.mono (by decide)) GCheckNumber KCheckNumber BCheckNumber m_len ZN
  have XRead := ok_readE (k := 0) FRead (XCheckSize.mono (by decide)) GCheckSize KCheckSize BCheckSize
  have OSing := ok_Sing (P := l.prog) (w := w) (base := base) (CZ := CZ) (CB := CB) (CN := CN) l31 c31 TBS (T := [(PL, lamQ), (PS, (("_law_single" : Str) ++ ".<locals>.") ++ "<lambda>"), (PV, (("_law_several" : Str) ++ ".<locals>.") ++ "<lambda>")]) (List.mem_cons_of_mem _ List.mem_cons_self) (hu2 neLS neSV) ⟨⟨_, _, XMembers.mono (by decide), GMembers, KMembers, BMembers⟩⟩ ⟨⟨_, _, XPlain.mono (by decide), GPlain, KPlain, BPlain⟩⟩ ⟨⟨_, _, XOthers.mono (by decide), GOthers, KOthers, BOthers⟩⟩ ⟨⟨_, _, XInside.mono (by decide), GInside, KInside, BInside⟩⟩ ⟨⟨_, _, XWritten.mono (by decide), GWritten, KWritten, BWritten⟩⟩ ⟨⟨_, _, XJoined.mono (by decide), GJoined, KJoined, BJoined⟩⟩ ⟨⟨_, _, XCommon.mono (by decide), GCommon, KCommon, BCommon⟩⟩ ⟨⟨_, _, XLess.mono (by decide), GLess, KLess, BLess⟩⟩
  have OSev := ok_Sev (P := l.prog) (w := w) (base := base) (CZ := CZ) (CB := CB) (CN := CN) l32 c32 TBV (T := [(PL, lamQ), (PS, (("_law_single" : Str) ++ ".<locals>.") ++ "<lambda>"), (PV, (("_law_several" : Str) ++ ".<locals>.") ++ "<lambda>")]) (List.mem_cons_of_mem _ (List.mem_cons_of_mem _ List.mem_cons_self)) (hu3 neLV neSV) ⟨⟨_, _, XClasses.mono (by decide), GClasses, KClasses, BClasses⟩⟩ ⟨⟨_, _, XClassRow.mono (by decide), GClassRow, KClassRow, BClassRow⟩⟩ ⟨⟨_, _, XByClasses.mono (by decide), GByClasses, KByClasses, BByClasses⟩⟩ ⟨⟨_, _, XTable.mono (by decide), GTable, KTable, BTable⟩⟩ ⟨⟨_, _, XLeast.mono (by decide), GLeast, KLeast, BLeast⟩⟩
  have HA := ok_alikeP (P := l.prog) (w := w) (base := base) (k := 7) FLawAlike GLawAlike KLawAlike BLawAlike m_isinstance m_bool m_int m_str m_tuple m_list m_len m_all m_range
  have ORZ := ok_refZ (P := l.prog) (w := w) (base := base) (fA := fa) (fdA := PySem.W.fnOf "law" "law" (defArgs sLaw) (defBody sLaw) (defScope sLaw) .none kV33 dc33 pm33 an33 (.ref cL) ct33) (k := 9) FLawRefused m_isinstance m_ValueError gS g0 g1 g2 g3 eSCZ XCCZ kitCZCB kitCZCN kitCZCT kVCZ
  have ORN := ok_refN (P := l.prog) (w := w) (base := base) (fA := fa) (fdA := PySem.W.fnOf "law" "law" (defArgs sLaw) (defBody sLaw) (defScope sLaw) .none kV33 dc33 pm33 an33 (.ref cL) ct33) (k := 9) FLawRefused m_isinstance m_ValueError gS g0 g1 g2 g3 eSCN XCCN kitCNCZ kitCNCB kitCNCT kVCN
  have ORS := ok_refS (P := l.prog) (w := w) (base := base) (k := 9) FLawRefused HA GLawAlike KLawAlike BLawAlike XF hn1 hn2 m_isinstance m_ValueError gS g0 g1 g2 g3 eSCB XCCB kitCBCZ kitCBCN kitCBCT kVCB
  exact ok_law (CZ := CZ) (CB := CB) (CN := CN) (T := [(PL, lamQ), (PS, (("_law_single" : Str) ++ ".<locals>.") ++ "<lambda>"), (PV, (("_law_several" : Str) ++ ".<locals>.") ++ "<lambda>")]) l33 c33 TBL List.mem_cons_self (hu1 neLS neLV) ⟨⟨_, _, OLawDice.mono (by decide), GLawDice, KLawDice, BLawDice⟩⟩ ⟨⟨_, _, OLawOff.mono (by decide), GLawOff, KLawOff, BLawOff⟩⟩ ⟨⟨_, _, OLawSize.mono (by decide), GLawSize, KLawSize, BLawSize⟩⟩ ⟨⟨_, _, OLawSet.mono (by decide), GLawSet, KLawSet, BLawSet⟩⟩ ⟨⟨_, _, OLawBad.mono (by decide), GLawBad, KLawBad, BLawBad⟩⟩ ⟨⟨_, _, OSing, GLawSingle, KLawSingle, BLawSingle⟩⟩ ⟨⟨_, _, OSev, GLawSeveral, KLawSeveral, BLawSeveral⟩⟩ ⟨⟨_, _, ORZ.mono (by decide), GLawRefused, KLawRefused, BLawRefused⟩⟩ ⟨⟨_, _, ORN.mono (by decide), GLawRefused, KLawRefused, BLawRefused⟩⟩ ⟨⟨_, _, ORS.mono (by decide), GLawRefused, KLawRefused, BLawRefused⟩⟩ ⟨⟨_, _, OTable.mono (by decide), GTable, KTable, BTable⟩⟩ ⟨⟨_, _, OPlain.mono (by decide), GPlain, KPlain, BPlain⟩⟩ ⟨⟨_, _, OClasses.mono (by decide), GClasses, KClasses, BClasses⟩⟩ ⟨⟨_, _, XJoined.mono (by decide), GJoined, KJoined, BJoined⟩⟩ ⟨⟨_, _, XCommon.mono (by decide), GCommon, KCommon, BCommon⟩⟩ ⟨⟨_, _, XLess.mono (by decide), GLess, KLess, BLess⟩⟩ ⟨⟨_, _, XInside.mono (by decide), GInside, KInside, BInside⟩⟩ ⟨⟨_, _, XLook.mono (by decide), GLook, KLook, BLook⟩⟩ ⟨⟨_, _, XTable.mono (by decide), GTable, KTable, BTable⟩⟩ ⟨⟨_, _, XRead.mono (by decide), GRead, KRead, BRead⟩⟩
end
end SG
open PySem PySem.W PyProof.Rows
set_option maxHeartbeats 0 in
theorem PySem.Challenge.cw_signsets_k01_sets_refused_holds : PySem.Challenge.rw_signsets_k01_sets_refused.Holds := by
  w_on; o_law; k_head; (case hw => w_witness2)
  k_fill
  refine SY.walk_ofAll ["law", "_law_single", "_law_several"] (l := PySem.Challenge.rw_signsets_k01_sets_refused) (n := 63) (k := 12) (x := "_law_script") (CX := fun _ => L2.CX0) rfl (by decide) rfl ⟨rfl, by decide, by decide⟩ (by decide +kernel) (fun w h Y => PySem.W.km_in_of Y) ?F (fun _ _ _ _ _ h => h)
  case F =>
    intro w mg fa h Y KX G hmg own
    refine' SG.all_mk KX G hmg own ?a0 ?l0 ?c0 ?k0 ?a1 ?l1 ?c1 ?k1 ?a2 ?l2 ?c2 ?k2 ?a3 ?l3 ?c3 ?k3 ?a4 ?l4 ?c4 ?k4 ?a5 ?l5 ?c5 ?k5 ?a6 ?l6 ?c6 ?k6 ?a7 ?l7 ?c7 ?k7 ?a8 ?l8 ?c8 ?k8 ?a9 ?l9 ?c9 ?k9 ?a10 ?l10 ?c10 ?k10 ?a11 ?l11 ?c11 ?k11 ?a12 ?l12 ?c12 ?k12 ?a13 ?l13 ?c13 ?k13 ?a14 ?l14 ?c14 ?k14 ?a15 ?l15 ?c15 ?k15 ?a16 ?l16 ?c16 ?k16 ?a17 ?l17 ?c17 ?k17 ?a18 ?l18 ?c18 ?k18 ?a19 ?l19 ?c19 ?k19 ?a20 ?l20 ?c20 ?k20 ?a21 ?l21 ?c21 ?k21 ?a22 ?l22 ?c22 ?k22 ?a23 ?l23 ?c23 ?k23 ?a24 ?l24 ?c24 ?k24 ?a25 ?l25 ?c25 ?k25 ?a26 ?l26 ?c26 ?k26 ?a27 ?l27 ?c27 ?k27 ?a28 ?l28 ?c28 ?k28 ?a29 ?l29 ?c29 ?k29 ?a30 ?l30 ?c30 ?k30 ?a31 ?l31 ?c31 ?k31 ?a32 ?l32 ?c32 ?k32 ?a33 ?l33 ?c33 ?k33 ?z0 ?z1 ?z2 ?z3 ?z4 ?z5 ?z6 ?z7 ?z8 ?z9 ?z10 ?z11 ?z12 ?z13 ?z14 ?z15 ?y0 ?y1 ?nCS ?nCZ ?nCB ?nCN ?nCT ?gaCZ ?ggCZ ?clCZ ?moCZ ?eCZ ?tCZ ?kCZ ?dCZ ?ssCZ ?kitCZCB ?kitCZCN ?kitCZCT ?kVCZ ?gaCB ?ggCB ?clCB ?moCB ?eCB ?tCB ?kCB ?dCB ?ssCB ?kitCBCZ ?kitCBCN ?kitCBCT ?kVCB ?gaCN ?ggCN ?clCN ?moCN ?eCN ?tCN ?kCN ?dCN ?ssCN ?kitCNCZ ?kitCNCB ?kitCNCT ?kVCN ?xCZ ?xCN ?spC ?tkC ?xC ?rC ?sC ?hn1 ?hn2 ?vC ?oC ?suC ?opq ?iC ?tI ?lI ?cI ?ceI ?coI ?vsI ?hfile ?htop ?s1 ?s2 ?s3 ?coS ?ptS ?hdS ?noS ?coV ?ptV ?hdV ?noV ?coL ?ptL ?hdL ?noL ?neLS ?neLV ?neSV
    (case a0 => k_is); (case l0 => k_is); (case c0 => k_is); (case k0 => k_is); (case a1 => k_is); (case l1 => k_is)
    (case c1 => k_is); (case k1 => k_is); (case a2 => k_is); (case l2 => k_is); (case c2 => k_is); (case k2 => k_is)
    (case a3 => k_is); (case l3 => k_is); (case c3 => k_is); (case k3 => k_is); (case a4 => k_is); (case l4 => k_is)
    (case c4 => k_is); (case k4 => k_is); (case a5 => k_is); (case l5 => k_is); (case c5 => k_is); (case k5 => k_is)
    (case a6 => k_is); (case l6 => k_is); (case c6 => k_is); (case k6 => k_is); (case a7 => k_is); (case l7 => k_is)
    (case c7 => k_is); (case k7 => k_is); (case a8 => k_is); (case l8 => k_is); (case c8 => k_is); (case k8 => k_is)
    (case a9 => k_is); (case l9 => k_is); (case c9 => k_is); (case k9 => k_is); (case a10 => k_is); (case l10 => k_is)
    (case c10 => k_is); (case k10 => k_is); (case a11 => k_is); (case l11 => k_is); (case c11 => k_is); (case k11 => k_is)
    (case a12 => k_is); (case l12 => k_is); (case c12 => k_is); (case k12 => k_is); (case a13 => k_is); (case l13 => k_is)
    (case c13 => k_is); (case k13 => k_is); (case a14 => k_is); (case l14 => k_is); (case c14 => k_is); (case k14 => k_is)
    (case a15 => k_is); (case l15 => k_is); (case c15 => k_is); (case k15 => k_is); (case a16 => k_is); (case l16 => k_is)
    (case c16 => k_is); (case k16 => k_is); (case a17 => k_is); (case l17 => k_is); (case c17 => k_is); (case k17 => k_is)
    (case a18 => k_is); (case l18 => k_is); (case c18 => k_is); (case k18 => k_is); (case a19 => k_is); (case l19 => k_is)
    (case c19 => k_is); (case k19 => k_is); (case a20 => k_is); (case l20 => k_is); (case c20 => k_is); (case k20 => k_is)
    (case a21 => k_is); (case l21 => k_is); (case c21 => k_is); (case k21 => k_is); (case a22 => k_is); (case l22 => k_is)
    (case c22 => k_is); (case k22 => k_is); (case a23 => k_is); (case l23 => k_is); (case c23 => k_is); (case k23 => k_is)
    (case a24 => k_is); (case l24 => k_is); (case c24 => k_is); (case k24 => k_is); (case a25 => k_is); (case l25 => k_is)
    (case c25 => k_is); (case k25 => k_is); (case a26 => k_is); (case l26 => k_is); (case c26 => k_is); (case k26 => k_is)
    (case a27 => k_is); (case l27 => k_is); (case c27 => k_is); (case k27 => k_is); (case a28 => k_is); (case l28 => k_is)
    (case c28 => k_is); (case k28 => k_is); (case a29 => k_is); (case l29 => k_is); (case c29 => k_is); (case k29 => k_is)
    (case a30 => k_is); (case l30 => k_is); (case c30 => k_is); (case k30 => k_is); (case a31 => k_is); (case l31 => k_is)
    (case c31 => k_is); (case k31 => k_is); (case a32 => k_is); (case l32 => k_is); (case c32 => k_is); (case k32 => k_is)
    (case a33 => k_is); (case l33 => k_is); (case c33 => k_is); (case k33 => k_is); (case z0 => k_is); (case z1 => k_is)
    (case z2 => k_is); (case z3 => k_is); (case z4 => k_is); (case z5 => k_is); (case z6 => k_is); (case z7 => k_is)
    (case z8 => k_is); (case z9 => k_is); (case z10 => k_is); (case z11 => k_is); (case z12 => k_is); (case z13 => k_is)
    (case z14 => k_is); (case z15 => k_is); (case y0 => k_is); (case y1 => k_is); (case nCS => k_is); (case nCZ => k_is)
    (case nCB => k_is); (case nCN => k_is); (case nCT => k_is); (case gaCZ => k_is); (case ggCZ => k_is); (case clCZ => k_is)
    (case moCZ => k_is); (case eCZ => k_is); (case tCZ => k_is); (case kCZ => k_is); (case dCZ => k_is); (case ssCZ => k_is)
    (case kitCZCB => kernel_rfl); (case kitCZCN => kernel_rfl); (case kitCZCT => kernel_rfl); (case kVCZ => kernel_rfl); (case gaCB => k_is); (case ggCB => k_is)
    (case clCB => k_is); (case moCB => k_is); (case eCB => k_is); (case tCB => k_is); (case kCB => k_is); (case dCB => k_is)
    (case ssCB => k_is); (case kitCBCZ => kernel_rfl); (case kitCBCN => kernel_rfl); (case kitCBCT => kernel_rfl); (case kVCB => kernel_rfl); (case gaCN => k_is)
    (case ggCN => k_is); (case clCN => k_is); (case moCN => k_is); (case eCN => k_is); (case tCN => k_is); (case kCN => k_is)
    (case dCN => k_is); (case ssCN => k_is); (case kitCNCZ => kernel_rfl); (case kitCNCB => kernel_rfl); (case kitCNCT => kernel_rfl); (case kVCN => kernel_rfl)
    (case xCZ => (first | k_exc | kernel_rfl)); (case xCN => (first | k_exc | kernel_rfl)); (case spC => k_is); (case tkC => k_is); (case xC => k_is); (case rC => decide +kernel)
    (case sC => k_is); (case hn1 => k_is); (case hn2 => k_is); (case vC => k_is); (case oC => k_is); (case suC => kernel_rfl)
    (case opq => k_is); (case iC => k_is); (case tI => k_is); (case lI => k_is); (case cI => k_is); (case ceI => k_is)
    (case coI => k_is); (case vsI => rfl); (case hfile => decide +kernel); (case htop => decide +kernel); (case s1 => k_is); (case s2 => k_is)
    (case s3 => k_is); (case coS => k_is); (case ptS => rfl); (case hdS => kernel_rfl); (case noS => kernel_rfl); (case coV => k_is)
    (case ptV => rfl); (case hdV => kernel_rfl); (case noV => kernel_rfl); (case coL => k_is); (case ptL => rfl); (case hdL => kernel_rfl)
    (case noL => kernel_rfl); (case neLS => (first | decide +kernel | (intro z; cases z) | omega)); (case neLV => (first | decide +kernel | (intro z; cases z) | omega)); (case neSV => (first | decide +kernel | (intro z; cases z) | omega))

