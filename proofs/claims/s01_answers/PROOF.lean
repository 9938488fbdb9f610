import PyProof.Rows.All
import Wide.All
import OpenK.AllK
import Wide.FinOn
import HandS.ForSpec
import HandS.Text
import HandS.Comp
import HandS.Dict
import HandS.Iter
import HandS.WordsDict
import HandS.Lambda
import HandS.Nested
import KE.KMinKey
import HandS.Rev
import HandS.Conv
import Open.SpecLaws
import KE.OsGo
import KE.OsHead
import KE.KNestM
import PySem.Challenge.RW_bridgestages_s01_answers
set_option Elab.async false
set_option linter.all false
set_option maxHeartbeats 1100000
namespace Br
open Sy47
/-! ### bits -/
theorem has_tb (s i : Nat) : has s i = s.testBit i := by
  unfold has
  rw [Nat.testBit_eq_decide_div_mod_eq]
  by_cases h : s / 2 ^ i % 2 = 1
  · simp [h]
  · simp [h]
theorem within_iff {n a b : Nat} : within n a b = true ↔ ∀ i, i < n → a.testBit i = true → b.testBit i = true := by
  unfold within
  rw [List.all_eq_true]
  constructor
  · intro h i hi ha
    have := h i (List.mem_range.2 hi)
    rw [has_tb, has_tb, ha] at this
    simpa using this
  · intro h i hi
    rw [has_tb, has_tb]
    cases e : a.testBit i with
    | false => rfl
    | true => simp [h i (List.mem_range.1 hi) e]
theorem within_and {n a b : Nat} (h : a < 2 ^ n) : within n a b = decide (b &&& a = a) := by
  have : within n a b = true ↔ b &&& a = a := by
    rw [within_iff]
    constructor
    · intro w
      apply Nat.eq_of_testBit_eq
      intro i
      rw [Nat.testBit_and]
      cases e : a.testBit i with
      | false => simp
      | true =>
        have hi : i < n := by
          apply Decidable.byContradiction
          intro hn
          have := Nat.testBit_lt_two_pow (Nat.lt_of_lt_of_le h (Nat.pow_le_pow_right (by decide) (Nat.le_of_not_lt hn)))
          rw [e] at this
          cases this
        rw [w i hi e]
        rfl
    · intro e i _ ha
      have := congrArg (fun x => x.testBit i) e
      simp only [Nat.testBit_and, ha] at this
      simpa using this
  cases hb : within n a b with
  | true => exact (decide_eq_true (this.1 hb)).symm
  | false =>
    refine (decide_eq_false fun e => ?_).symm
    rw [this.2 e] at hb
    cases hb
theorem and_bit (s i : Nat) : decide (s &&& 2 ^ i = 2 ^ i) = has s i := by
  rw [has_tb]
  cases e : s.testBit i with
  | true =>
    refine decide_eq_true ?_
    apply Nat.eq_of_testBit_eq
    intro j
    rw [Nat.testBit_and, Nat.testBit_two_pow]
    by_cases h : i = j
    · subst h
      simp [e]
    · simp [h]
  | false =>
    refine decide_eq_false fun h => ?_
    have := congrArg (fun x => x.testBit i) h
    simp only [Nat.testBit_and, e, Nat.testBit_two_pow_self] at this
    cases this
theorem tb_add {s i : Nat} (h : s.testBit i = false) (j : Nat) : (s + 2 ^ i).testBit j = (s.testBit j || decide (i = j)) := by
  have h2 : s / 2 ^ i % 2 = 0 := by
    rw [Nat.testBit_eq_decide_div_mod_eq] at h
    have := of_decide_eq_false h
    omega
  have hr : s % 2 ^ i < 2 ^ i := Nat.mod_lt _ (Nat.two_pow_pos i)
  have e1 : s = 2 ^ i * (2 * (s / 2 ^ i / 2)) + s % 2 ^ i := by
    have a := Nat.div_add_mod s (2 ^ i)
    have b : 2 * (s / 2 ^ i / 2) = s / 2 ^ i := by omega
    rw [b]
    exact a.symm
  have e2 : s + 2 ^ i = 2 ^ i * (2 * (s / 2 ^ i / 2) + 1) + s % 2 ^ i := by
    rw [Nat.mul_add, Nat.mul_one]
    omega
  generalize hq : s / 2 ^ i / 2 = q at e1 e2
  generalize hm : s % 2 ^ i = r at e1 e2 hr
  rw [e2, e1, Nat.testBit_two_pow_mul_add _ hr, Nat.testBit_two_pow_mul_add _ hr]
  by_cases c : j < i
  · rw [if_pos c, if_pos c]
    have : i ≠ j := by omega
    simp [this]
  · rw [if_neg c, if_neg c]
    by_cases d : i = j
    · subst d
      simp
    · have : j - i = (j - i - 1) + 1 := by omega
      rw [this, Nat.testBit_succ, Nat.testBit_succ]
      have a1 : (2 * q + 1) / 2 = q := by omega
      have a2 : 2 * q / 2 = q := by omega
      rw [a1, a2]
      simp [d]
theorem bit_le {s i : Nat} (h : s.testBit i = true) : 2 ^ i ≤ s := Nat.ge_two_pow_of_testBit h
theorem tb_sub {s i : Nat} (h : s.testBit i = true) (j : Nat) : (s - 2 ^ i).testBit j = (s.testBit j && !decide (i = j)) := by
  have h2 : s / 2 ^ i % 2 = 1 := by
    rw [Nat.testBit_eq_decide_div_mod_eq] at h
    exact of_decide_eq_true h
  have hr : s % 2 ^ i < 2 ^ i := Nat.mod_lt _ (Nat.two_pow_pos i)
  have e1 : s = 2 ^ i * (2 * (s / 2 ^ i / 2) + 1) + s % 2 ^ i := by
    have a := Nat.div_add_mod s (2 ^ i)
    have b : 2 * (s / 2 ^ i / 2) + 1 = s / 2 ^ i := by omega
    rw [b]
    exact a.symm
  have e2 : s - 2 ^ i = 2 ^ i * (2 * (s / 2 ^ i / 2)) + s % 2 ^ i := by
    rw [Nat.mul_add, Nat.mul_one] at e1
    omega
  generalize hq : s / 2 ^ i / 2 = q at e1 e2
  generalize hm : s % 2 ^ i = r at e1 e2 hr
  rw [e2, e1, Nat.testBit_two_pow_mul_add _ hr, Nat.testBit_two_pow_mul_add _ hr]
  by_cases c : j < i
  · rw [if_pos c, if_pos c]
    have : i ≠ j := by omega
    simp [this]
  · rw [if_neg c, if_neg c]
    by_cases d : i = j
    · subst d
      simp
    · have : j - i = (j - i - 1) + 1 := by omega
      rw [this, Nat.testBit_succ, Nat.testBit_succ]
      have a1 : (2 * q + 1) / 2 = q := by omega
      have a2 : 2 * q / 2 = q := by omega
      rw [a1, a2]
      simp [d]
theorem has_with {s i : Nat} (j : Nat) : has (with_ s i) j = (has s j || decide (i = j)) := by
  unfold with_
  by_cases c : has s i = true
  · rw [if_pos c]
    by_cases d : i = j
    · subst d
      rw [c]
      rfl
    · simp [d]
  · rw [if_neg c, has_tb, has_tb]
    rw [has_tb] at c
    exact tb_add (by simpa using c) j
theorem has_without {s i : Nat} (j : Nat) : has (without s i) j = (has s j && !decide (i = j)) := by
  unfold without
  by_cases c : has s i = true
  · rw [if_pos c, has_tb, has_tb]
    rw [has_tb] at c
    exact tb_sub c j
  · rw [if_neg c]
    by_cases d : i = j
    · subst d
      have : has s i = false := by simpa using c
      rw [this]
      rfl
    · simp [d]
theorem eq_of_has {a b : Nat} (h : ∀ i, has a i = has b i) : a = b :=
  Nat.eq_of_testBit_eq fun i => by rw [← has_tb, ← has_tb]; exact h i
theorem lt_of_has {a n : Nat} (h : ∀ i, n ≤ i → has a i = false) : a < 2 ^ n :=
  Nat.lt_pow_two_of_testBit a fun i hi => by rw [← has_tb]; exact h i hi
theorem has_of_lt {a n i : Nat} (h : a < 2 ^ n) (hi : n ≤ i) : has a i = false := by
  rw [has_tb]
  exact Nat.testBit_lt_two_pow (Nat.lt_of_lt_of_le h (Nat.pow_le_pow_right (by decide) hi))
theorem with_lt {s i n : Nat} (h : s < 2 ^ n) (hi : i < n) : with_ s i < 2 ^ n :=
  lt_of_has fun j hj => by
    rw [has_with, has_of_lt h hj]
    have : i ≠ j := by omega
    simp [this]
theorem without_lt {s i n : Nat} (h : s < 2 ^ n) : without s i < 2 ^ n :=
  lt_of_has fun j hj => by
    rw [has_without, has_of_lt h hj]
    rfl
theorem without_le (s i : Nat) : without s i ≤ s := by
  unfold without
  split
  · exact Nat.sub_le _ _
  · exact Nat.le_refl _
theorem has_full (n i : Nat) : has (2 ^ n - 1) i = decide (i < n) := by
  rw [has_tb, Nat.testBit_two_pow_sub_one]
end Br

set_option maxHeartbeats 1100000
namespace Br
open Sy47
/-! ### walks over stages, the nearest -/
/-- from t some move leads to u -/
def Edge (s : St) (t u : Nat) : Prop := ∃ m ∈ moves s, moved s t m = some u
def Walk (s : St) : Nat → Nat → Nat → Prop
  | 0, t, u => t = u
  | k + 1, t, u => ∃ v, Edge s t v ∧ Walk s k v u
def Short (s : St) (e k t : Nat) : Prop := Walk s k t e ∧ ∀ j, j < k → ¬ Walk s j t e
theorem Short.uniq {s : St} {e k j t : Nat} (a : Short s e k t) (b : Short s e j t) : k = j := by
  rcases Nat.lt_trichotomy k j with h | h | h
  · exact absurd a.1 (b.2 k h)
  · exact h
  · exact absurd b.1 (a.2 j h)
/-- one step on a shortest way -/
theorem Short.step {s : St} {e k t : Nat} (a : Short s e (k + 1) t) : ∃ v, Edge s t v ∧ Short s e k v := by
  obtain ⟨⟨v, h1, h2⟩, h3⟩ := a
  exact ⟨v, h1, h2, fun j hj w => h3 (j + 1) (by omega) ⟨v, h1, w⟩⟩
theorem nearer_test {s : St} {now : List Nat} {t : Nat} : ((moves s).any fun (m : Nat) => match moved s t m with
      | none => false
      | some u => now.contains u) = true ↔ ∃ u ∈ now, Edge s t u := by
  rw [List.any_eq_true]
  constructor
  · rintro ⟨m, hm, h⟩
    split at h
    · cases h
    · next u hu => exact ⟨u, by simpa using h, m, hm, hu⟩
  · rintro ⟨u, hu, m, hm, h⟩
    refine ⟨m, hm, ?_⟩
    rw [h]
    simpa using hu
/-- all about a vertex set closed under edges -/
theorem levels_find {s : St} {V : Nat → Prop} {e : Nat} (hV : ∀ t u, V t → Edge s t u → V u) :
    ∀ (f d : Nat) (now rest : List Nat), (∀ t, t ∈ now ↔ V t ∧ Short s e d t) → (∀ t, t ∈ rest ↔ V t ∧ ∀ j, j ≤ d → ¬ Walk s j t e) →
    rest.length < f → ∀ t k, (levels s f now rest).findIdx? (fun (x : List Nat) => x.contains t) = some k ↔ (V t ∧ Short s e (d + k) t)
  | 0, _, _, rest, _, _, h, _, _ => absurd h (by omega)
  | f + 1, d, now, rest, hn, hr, hl, t, k => by
    have none_of : now = [] → ∀ j v, V v → ¬ Short s e (d + j) v := by
      intro hnow j
      induction j with
      | zero =>
        intro v hv a
        have := (hn v).2 ⟨hv, a⟩
        rw [hnow] at this
        cases this
      | succ j ih =>
        intro v hv a
        obtain ⟨w, h1, h2⟩ := Short.step (k := d + j) a
        exact ih w (hV v w hv h1) h2
    unfold levels
    by_cases c : now.isEmpty = true
    · rw [if_pos c]
      have c' : now = [] := by simpa using c
      constructor
      · intro h
        simp at h
      · rintro ⟨hv, a⟩
        exact absurd a (none_of c' k t hv)
    · rw [if_neg c]
      simp only []
      generalize hnext : (rest.filter fun (t : Nat) => (moves s).any fun (m : Nat) => match moved s t m with
        | none => false
        | some u => now.contains u) = next
      have mnext : ∀ t, t ∈ next ↔ V t ∧ Short s e (d + 1) t := by
        intro v
        rw [← hnext, List.mem_filter, nearer_test, hr]
        constructor
        · rintro ⟨⟨hv, far⟩, u, hu, he⟩
          refine ⟨hv, ⟨u, he, ((hn u).1 hu).2.1⟩, fun j hj => far j (by omega)⟩
        · rintro ⟨hv, a⟩
          obtain ⟨u, he, hu⟩ := Short.step a
          exact ⟨⟨hv, fun j hj => a.2 j (by omega)⟩, u, (hn u).2 ⟨hV v u hv he, hu⟩, he⟩
      have mrest : ∀ t, t ∈ (rest.filter fun (t : Nat) => !next.contains t) ↔ V t ∧ ∀ j, j ≤ d + 1 → ¬ Walk s j t e := by
        intro v
        rw [List.mem_filter, hr]
        constructor
        · rintro ⟨⟨hv, far⟩, h⟩
          refine ⟨hv, fun j hj w => ?_⟩
          by_cases c2 : j ≤ d
          · exact far j c2 w
          · have : j = d + 1 := by omega
            subst this
            have : v ∈ next := (mnext v).2 ⟨hv, w, fun i hi => far i (by omega)⟩
            simp [this] at h
        · rintro ⟨hv, far⟩
          refine ⟨⟨hv, fun j hj => far j (by omega)⟩, ?_⟩
          have : v ∉ next := fun h => far (d + 1) (Nat.le_refl _) ((mnext v).1 h).2.1
          simp [this]
      rw [List.findIdx?_cons]
      by_cases ct : now.contains t = true
      · rw [if_pos ct]
        have ht := (hn t).1 (by simpa using ct)
        constructor
        · intro h
          cases h
          exact ht
        · rintro ⟨_, a⟩
          have := Short.uniq ht.2 a
          have : k = 0 := by omega
          rw [this]
      · rw [if_neg ct]
        have ht : ¬ (V t ∧ Short s e d t) := fun h => ct (by simpa using (hn t).2 h)
        have ih : next ≠ [] → ∀ t k, (levels s f next (rest.filter fun (t : Nat) => !next.contains t)).findIdx? (fun (x : List Nat) => x.contains t) = some k ↔ (V t ∧ Short s e (d + 1 + k) t) := by
          intro hne
          refine levels_find hV f (d + 1) _ _ mnext mrest ?_
          obtain ⟨v, hv⟩ := List.exists_mem_of_ne_nil _ hne
          have hvr : v ∈ rest := by
            rw [← hnext] at hv
            exact (List.mem_filter.1 hv).1
          have : (rest.filter fun (t : Nat) => !next.contains t).length < rest.length := by
            refine List.length_filter_lt_length_iff_exists.2 ⟨v, hvr, ?_⟩
            simp [hv]
          omega
        by_cases cn : next = []
        · rw [cn]
          have e0 : levels s f [] (rest.filter fun (t : Nat) => !([] : List Nat).contains t) = [] := by
            cases f <;> rfl
          rw [e0]
          constructor
          · intro h
            simp at h
          · rintro ⟨hv, a⟩
            cases k with
            | zero => exact absurd ⟨hv, a⟩ ht
            | succ k =>
              exfalso
              have : ∀ j v, V v → ¬ Short s e (d + 1 + j) v := by
                intro j
                induction j with
                | zero =>
                  intro v hv a
                  have := (mnext v).2 ⟨hv, a⟩
                  rw [cn] at this
                  cases this
                | succ j ih =>
                  intro v hv a
                  obtain ⟨w, h1, h2⟩ := Short.step (k := d + 1 + j) a
                  exact ih w (hV v w hv h1) h2
              exact this k t hv (by
                have e : d + 1 + k = d + (k + 1) := by omega
                rw [e]
                exact a)
        · have h2 := ih cn
          cases k with
          | zero =>
            constructor
            · intro h
              simp at h
            · intro h
              exact absurd h ht
          | succ k =>
            have e : d + (k + 1) = d + 1 + k := by omega
            rw [e, ← h2 t k]
            simp
end Br

set_option maxHeartbeats 1100000
namespace Br
open Sy47
/-! ### counting -/
def cnt (n : Nat) (f : Nat → Bool) : Nat := ((List.range n).filter f).length
theorem cnt_zero (f : Nat → Bool) : cnt 0 f = 0 := rfl
theorem cnt_succ (n : Nat) (f : Nat → Bool) : cnt (n + 1) f = cnt n f + (if f n = true then 1 else 0) := by
  unfold cnt
  rw [List.range_succ, List.filter_append, List.length_append]
  by_cases c : f n = true
  · simp [c]
  · simp [c]
theorem cnt_congr {n : Nat} {f g : Nat → Bool} (h : ∀ i, i < n → f i = g i) : cnt n f = cnt n g := by
  induction n with
  | zero => rfl
  | succ n ih => rw [cnt_succ, cnt_succ, ih fun i hi => h i (by omega), h n (by omega)]
theorem cnt_le {n : Nat} {f g : Nat → Bool} (h : ∀ i, i < n → f i = true → g i = true) : cnt n f ≤ cnt n g := by
  induction n with
  | zero => exact Nat.le_refl _
  | succ n ih =>
    rw [cnt_succ, cnt_succ]
    have a := ih fun i hi => h i (by omega)
    have b := h n (by omega)
    by_cases c : f n = true
    · rw [if_pos c, if_pos (b c)]
      omega
    · rw [if_neg c]
      omega
theorem cnt_lt {n : Nat} {f g : Nat → Bool} (h : ∀ i, i < n → f i = true → g i = true) {j : Nat} (hj : j < n) (h1 : f j = false) (h2 : g j = true) : cnt n f < cnt n g := by
  induction n with
  | zero => omega
  | succ n ih =>
    rw [cnt_succ, cnt_succ]
    by_cases c : j = n
    · subst c
      have a := cnt_le (n := j) fun i hi => h i (by omega)
      rw [h1, h2]
      simp
      omega
    · have a := ih (fun i hi => h i (by omega)) (by omega)
      have b := h n (by omega)
      by_cases c : f n = true
      · rw [if_pos c, if_pos (b c)]
        omega
      · rw [if_neg c]
        omega
theorem cnt_add {n : Nat} {f g : Nat → Bool} {j : Nat} (hj : j < n) (h1 : f j = false) (h2 : g j = true) (h : ∀ i, i < n → i ≠ j → f i = g i) : cnt n g = cnt n f + 1 := by
  induction n with
  | zero => omega
  | succ n ih =>
    rw [cnt_succ, cnt_succ]
    by_cases c : j = n
    · subst c
      rw [h1, h2, cnt_congr (n := j) (f := f) (g := g) fun i hi => h i (by omega) (by omega)]
      simp
    · rw [ih (by omega) fun i hi hne => h i (by omega) hne, h n (by omega) (by omega)]
      omega
theorem cnt_bound (n : Nat) (f : Nat → Bool) : cnt n f ≤ n := by
  induction n with
  | zero => exact Nat.le_refl _
  | succ n ih =>
    rw [cnt_succ]
    split <;> omega
theorem cnt_none {n : Nat} {f : Nat → Bool} (h : ∀ i, i < n → f i = false) : cnt n f = 0 := by
  induction n with
  | zero => rfl
  | succ n ih => rw [cnt_succ, ih fun i hi => h i (by omega), h n (by omega)]; rfl
theorem propsIn_cnt (s : St) (t : Nat) : propsIn s t = cnt s.props fun j => has t (s.pieces + j) := rfl
theorem size_cnt (n t : Nat) : size n t = cnt n fun i => has t i := rfl
/-! ### a move -/
theorem moved_some {s : St} {t m u : Nat} (h : moved s t m = some u) : carries s u = true ∧
    ((m < 10 ∧ m < s.pieces ∧ has t m = false ∧ u = with_ t m) ∨
     (10 ≤ m ∧ m < 20 ∧ m - 10 < s.props ∧ has t (s.pieces + (m - 10)) = false ∧ propsIn s t < s.atOnce ∧ u = with_ t (s.pieces + (m - 10))) ∨
     (20 ≤ m ∧ m - 20 < s.props ∧ has t (s.pieces + (m - 20)) = true ∧ u = without t (s.pieces + (m - 20)))) := by
  unfold moved at h
  simp only [] at h
  by_cases c1 : m < 10
  · rw [if_pos c1] at h
    by_cases c2 : s.pieces ≤ m ∨ has t m = true
    · rw [if_pos c2] at h
      cases h
    · rw [if_neg c2] at h
      simp only [] at h
      by_cases c3 : carries s (with_ t m) = true
      · rw [if_pos c3] at h
        cases h
        refine ⟨c3, .inl ⟨c1, ?_, ?_, rfl⟩⟩
        · omega
        · simpa using fun h => c2 (.inr h)
      · rw [if_neg c3] at h
        cases h
  · rw [if_neg c1] at h
    by_cases c4 : m < 20
    · rw [if_pos c4] at h
      by_cases c2 : s.props ≤ m - 10 ∨ has t (s.pieces + (m - 10)) = true ∨ s.atOnce ≤ propsIn s t
      · rw [if_pos c2] at h
        cases h
      · rw [if_neg c2] at h
        simp only [] at h
        by_cases c3 : carries s (with_ t (s.pieces + (m - 10))) = true
        · rw [if_pos c3] at h
          cases h
          refine ⟨c3, .inr (.inl ⟨by omega, c4, ?_, ?_, ?_, rfl⟩)⟩
          · omega
          · simpa using fun h => c2 (.inr (.inl h))
          · omega
        · rw [if_neg c3] at h
          cases h
    · rw [if_neg c4] at h
      by_cases c2 : s.props ≤ m - 20 ∨ has t (s.pieces + (m - 20)) = false
      · rw [if_pos c2] at h
        cases h
      · rw [if_neg c2] at h
        simp only [] at h
        by_cases c3 : carries s (without t (s.pieces + (m - 20))) = true
        · rw [if_pos c3] at h
          cases h
          refine ⟨c3, .inr (.inr ⟨by omega, ?_, ?_, rfl⟩)⟩
          · omega
          · simpa using fun h => c2 (.inr h)
        · rw [if_neg c3] at h
          cases h
/-- the stages that may stand there -/
def Fit (s : St) (t : Nat) : Prop := t < 2 ^ things s ∧ carries s t = true ∧ propsIn s t ≤ s.atOnce
theorem mem_stages {s : St} {t : Nat} : t ∈ stages s ↔ Fit s t := by
  unfold stages Fit
  rw [List.mem_filter, List.mem_range]
  simp
theorem moved_fit {s : St} {t m u : Nat} (f : Fit s t) (h : moved s t m = some u) : Fit s u := by
  obtain ⟨hc, h⟩ := moved_some h
  obtain ⟨f1, _, f3⟩ := f
  rcases h with ⟨h1, h2, h3, rfl⟩ | ⟨h1, h2, h3, h4, h5, rfl⟩ | ⟨h1, h2, h3, rfl⟩
  · refine ⟨with_lt f1 (by unfold things; omega), hc, ?_⟩
    rw [propsIn_cnt] at *
    refine Nat.le_trans (Nat.le_of_eq (cnt_congr fun j _ => ?_)) f3
    rw [has_with]
    have : m ≠ s.pieces + j := by omega
    simp [this]
  · refine ⟨with_lt f1 (by unfold things; omega), hc, ?_⟩
    rw [propsIn_cnt] at *
    rw [cnt_add (n := s.props) (j := m - 10) (f := fun j => has t (s.pieces + j)) (g := fun j => has (with_ t (s.pieces + (m - 10))) (s.pieces + j)) h3 h4 (by rw [has_with]; simp) (fun i _ hne => by
      rw [has_with]
      have : s.pieces + (m - 10) ≠ s.pieces + i := by omega
      rw [decide_eq_false this, Bool.or_false])]
    exact h5
  · refine ⟨without_lt f1, hc, ?_⟩
    rw [propsIn_cnt] at *
    refine Nat.le_trans (cnt_le fun j _ hj => ?_) f3
    rw [has_without] at hj
    simp only [Bool.and_eq_true] at hj
    exact hj.1
theorem edge_fit {s : St} {t u : Nat} (f : Fit s t) (h : Edge s t u) : Fit s u := by
  obtain ⟨m, _, h⟩ := h
  exact moved_fit f h
theorem edge_carries {s : St} {t u : Nat} (h : Edge s t u) : carries s u = true := by
  obtain ⟨m, _, h⟩ := h
  exact (moved_some h).1
theorem moved_mem {s : St} {t m u : Nat} (h : moved s t m = some u) : m ∈ moves s := by
  obtain ⟨_, h⟩ := moved_some h
  unfold moves
  rw [List.mem_append, List.mem_append, List.mem_range, List.mem_map, List.mem_map]
  rcases h with ⟨h1, h2, _⟩ | ⟨h1, h2, h3, _⟩ | ⟨h1, h3, _⟩
  · exact .inl h2
  · exact .inr (.inl ⟨m - 10, List.mem_range.2 h3, by omega⟩)
  · exact .inr (.inr ⟨m - 20, List.mem_range.2 h3, by omega⟩)
/-! ### the end, the distance -/
theorem done_lt (s : St) : done s < 2 ^ things s := by
  refine lt_of_has fun i hi => ?_
  unfold done
  rw [has_full]
  unfold things at hi
  exact decide_eq_false (by omega)
theorem done_props (s : St) : propsIn s (done s) = 0 := by
  rw [propsIn_cnt]
  refine cnt_none fun j _ => ?_
  unfold done
  rw [has_full]
  exact decide_eq_false (by omega)
theorem done_fit {s : St} (h : carries s (done s) = true) : Fit s (done s) := ⟨done_lt s, h, by rw [done_props]; omega⟩
theorem walk_carries {s : St} : ∀ {k t e : Nat}, Walk s k t e → carries s t = true → carries s e = true
  | 0, t, e, h, c => by
    cases h
    exact c
  | k + 1, t, e, ⟨v, h1, h2⟩, _ => walk_carries h2 (edge_carries h1)
theorem stages_length {s : St} : (stages s).length ≤ 2 ^ things s := by
  unfold stages
  exact Nat.le_trans (List.length_filter_le _ _) (by rw [List.length_range]; exact Nat.le_refl _)
theorem things_small {s : St} (hP : s.pieces ≤ 6) (hM : s.props ≤ 2) : 2 ^ things s ≤ 256 := by
  have : things s ≤ 8 := by unfold things; omega
  exact Nat.le_trans (Nat.pow_le_pow_right (by decide) this) (by decide)
theorem distance_some {s : St} (hP : s.pieces ≤ 6) (hM : s.props ≤ 2) {t : Nat} (f : Fit s t) (k : Nat) :
    distance (fromEnd s) t = some k ↔ Short s (done s) k t := by
  unfold distance fromEnd
  by_cases c : carries s (done s) = true
  · rw [if_pos c]
    have := levels_find (s := s) (V := Fit s) (e := done s) (fun t u ft he => edge_fit ft he) 520 0 [done s] ((stages s).filter fun (t : Nat) => t != done s)
      (fun t => by
        rw [List.mem_singleton]
        constructor
        · rintro rfl
          exact ⟨done_fit c, rfl, fun j hj => by omega⟩
        · rintro ⟨_, h, _⟩
          exact h)
      (fun t => by
        rw [List.mem_filter, mem_stages]
        constructor
        · rintro ⟨a, b⟩
          refine ⟨a, fun j hj w => ?_⟩
          have : j = 0 := by omega
          subst this
          have : t = done s := w
          simp [this] at b
        · rintro ⟨a, b⟩
          refine ⟨a, ?_⟩
          have : t ≠ done s := fun h => b 0 (Nat.le_refl _) h
          simpa using this)
      (Nat.lt_of_le_of_lt (List.length_filter_le _ _) (Nat.lt_of_le_of_lt stages_length (Nat.lt_of_le_of_lt (things_small hP hM) (by decide)))) t k
    rw [this, Nat.zero_add]
    exact ⟨fun h => h.2, fun h => ⟨f, h⟩⟩
  · rw [if_neg c]
    constructor
    · intro h
      simp at h
    · intro h
      exact absurd (walk_carries h.1 f.2.1) c
theorem short_of_walk {s : St} {e : Nat} : ∀ {k t : Nat}, Walk s k t e → ∃ j, j ≤ k ∧ Short s e j t := by
  intro k
  induction k using Nat.strongRecOn with
  | ind k ih =>
    intro t h
    by_cases c : ∃ j, j < k ∧ Walk s j t e
    · obtain ⟨j, hj, hw⟩ := c
      obtain ⟨i, hi, hs⟩ := ih j hj hw
      exact ⟨i, by omega, hs⟩
    · exact ⟨k, Nat.le_refl _, h, fun j hj hw => c ⟨j, hj, hw⟩⟩
theorem distance_none {s : St} (hP : s.pieces ≤ 6) (hM : s.props ≤ 2) {t : Nat} (f : Fit s t) :
    distance (fromEnd s) t = none ↔ ∀ k, ¬ Walk s k t (done s) := by
  constructor
  · intro h k w
    obtain ⟨j, _, hs⟩ := short_of_walk w
    rw [(distance_some hP hM f j).2 hs] at h
    cases h
  · intro h
    cases e : distance (fromEnd s) t with
    | none => rfl
    | some k => exact absurd ((distance_some hP hM f k).1 e).1 (h k)
end Br

set_option maxHeartbeats 1100000
namespace Br
open Sy47
/-! ### what can be come to -/
def Reach (s : St) (t u : Nat) : Prop := ∃ k, Walk s k t u
theorem walk_snoc {s : St} : ∀ {k t u v : Nat}, Walk s k t u → Edge s u v → Walk s (k + 1) t v
  | 0, t, u, v, h, e => by
    cases h
    exact ⟨v, e, rfl⟩
  | k + 1, t, u, v, ⟨w, h1, h2⟩, e => ⟨w, h1, walk_snoc h2 e⟩
theorem Reach.refl (s : St) (t : Nat) : Reach s t t := ⟨0, rfl⟩
theorem Reach.snoc {s : St} {t u v : Nat} (h : Reach s t u) (e : Edge s u v) : Reach s t v := by
  obtain ⟨k, h⟩ := h
  exact ⟨k + 1, walk_snoc h e⟩
theorem walk_closed {s : St} {S : Nat → Prop} (h : ∀ t u, S t → Edge s t u → S u) : ∀ {k t u : Nat}, Walk s k t u → S t → S u
  | 0, t, u, w, a => by
    cases w
    exact a
  | k + 1, t, u, ⟨v, h1, h2⟩, a => walk_closed h h2 (h t v a h1)
theorem Reach.fit {s : St} {t u : Nat} (r : Reach s t u) (f : Fit s t) : Fit s u := by
  obtain ⟨k, w⟩ := r
  exact walk_closed (S := Fit s) (fun a b fa e => edge_fit fa e) w f
/-- a list without repeats of numbers below n: as long as how many numbers are in it -/
theorem length_cnt {n : Nat} : ∀ {l : List Nat}, l.Nodup → (∀ x ∈ l, x < n) → l.length = cnt n fun i => l.contains i
  | [], _, _ => (cnt_none fun i _ => by simp).symm
  | x :: l, hn, hb => by
    have hx := List.nodup_cons.1 hn
    have ih := length_cnt hx.2 fun y hy => hb y (List.mem_cons_of_mem _ hy)
    rw [List.length_cons, ih]
    refine (cnt_add (hb x (List.mem_cons_self ..)) ?_ ?_ ?_).symm
    · simpa using hx.1
    · simp
    · intro i _ hne
      simp [hne]
theorem length_bound {n : Nat} {l : List Nat} (h : l.Nodup) (hb : ∀ x ∈ l, x < n) : l.length ≤ n := by
  rw [length_cnt h hb]
  exact cnt_bound _ _
theorem length_same {n : Nat} {l k : List Nat} (hl : l.Nodup) (hk : k.Nodup) (hb : ∀ x ∈ l, x < n) (h : ∀ x, x ∈ l ↔ x ∈ k) : l.length = k.length := by
  rw [length_cnt hl hb, length_cnt hk fun x hx => hb x ((h x).2 hx)]
  refine cnt_congr fun i _ => ?_
  have : (l.contains i = true) ↔ (k.contains i = true) := by
    rw [List.contains_iff_mem, List.contains_iff_mem]
    exact h i
  cases e : l.contains i with
  | true => exact (this.1 e).symm
  | false =>
    cases e2 : k.contains i with
    | true =>
      rw [this.2 e2] at e
      cases e
    | false => rfl
def ins (seen a : List Nat) (u : Nat) : List Nat := if (seen ++ a).contains u = true then a else a ++ [u]
theorem ins_all {seen : List Nat} : ∀ (L a : List Nat), (seen ++ a).Nodup → (seen ++ L.foldl (ins seen) a).Nodup ∧ ∀ u, u ∈ L.foldl (ins seen) a ↔ u ∈ a ∨ (u ∈ L ∧ u ∉ seen)
  | [], a, h => ⟨h, fun u => by simp⟩
  | x :: L, a, h => by
    have key : (seen ++ ins seen a x).Nodup ∧ ∀ u, u ∈ ins seen a x ↔ u ∈ a ∨ (u = x ∧ u ∉ seen) := by
      unfold ins
      by_cases c : (seen ++ a).contains x = true
      · rw [if_pos c]
        refine ⟨h, fun u => ⟨.inl, ?_⟩⟩
        rintro (h1 | ⟨rfl, h2⟩)
        · exact h1
        · have : u ∈ seen ++ a := by simpa using c
          rcases List.mem_append.1 this with h3 | h3
          · exact absurd h3 h2
          · exact h3
      · rw [if_neg c]
        have hx : x ∉ seen ++ a := by simpa using c
        refine ⟨?_, fun u => ?_⟩
        · rw [← List.append_assoc, List.nodup_append]
          refine ⟨h, by simp, ?_⟩
          intro y hy z hz e
          have : z = x := by simpa using hz
          rw [this] at e
          rw [e] at hy
          exact hx hy
        · rw [List.mem_append, List.mem_singleton]
          constructor
          · rintro (h1 | rfl)
            · exact .inl h1
            · exact .inr ⟨rfl, fun h2 => hx (List.mem_append.2 (.inl h2))⟩
          · rintro (h1 | ⟨h1, _⟩)
            · exact .inl h1
            · exact .inr h1
    have ih := ins_all (seen := seen) L (ins seen a x) key.1
    refine ⟨ih.1, fun u => ?_⟩
    rw [List.foldl_cons, ih.2 u, key.2 u, List.mem_cons]
    constructor
    · rintro ((h1 | ⟨h1, h2⟩) | ⟨h1, h2⟩)
      · exact .inl h1
      · exact .inr ⟨.inl h1, h2⟩
      · exact .inr ⟨.inr h1, h2⟩
    · rintro (h1 | ⟨h1 | h1, h2⟩)
      · exact .inl (.inl h1)
      · exact .inl (.inr ⟨h1, h2⟩)
      · exact .inr ⟨h1, h2⟩
theorem fold_opt {seen : List Nat} {f : Nat → Option Nat} : ∀ (ms a : List Nat), ms.foldl (fun (a : List Nat) (m : Nat) => match f m with
      | none => a
      | some u => if (seen ++ a).contains u = true then a else a ++ [u]) a = (ms.filterMap f).foldl (ins seen) a
  | [], a => rfl
  | m :: ms, a => by
    rw [List.foldl_cons, fold_opt ms, List.filterMap_cons]
    cases f m <;> rfl
theorem fold_two {s : St} {seen : List Nat} : ∀ (now a : List Nat), now.foldl (fun (a : List Nat) (t : Nat) => (moves s).foldl (fun (a : List Nat) (m : Nat) => match moved s t m with
      | none => a
      | some u => if (seen ++ a).contains u = true then a else a ++ [u]) a) a = (now.flatMap fun t => (moves s).filterMap (moved s t)).foldl (ins seen) a
  | [], a => rfl
  | t :: now, a => by
    rw [List.foldl_cons, fold_two now, List.flatMap_cons, List.foldl_append, fold_opt]
theorem mem_nbrs {s : St} {now : List Nat} {u : Nat} : u ∈ (now.flatMap fun t => (moves s).filterMap (moved s t)) ↔ ∃ t ∈ now, Edge s t u := by
  rw [List.mem_flatMap]
  constructor
  · rintro ⟨t, ht, h⟩
    obtain ⟨m, hm, e⟩ := List.mem_filterMap.1 h
    exact ⟨t, ht, m, hm, e⟩
  · rintro ⟨t, ht, m, hm, e⟩
    exact ⟨t, ht, List.mem_filterMap.2 ⟨m, hm, e⟩⟩
theorem spread_succ {s : St} {f : Nat} {seen now : List Nat} : spread s (f + 1) seen now = if now.isEmpty = true then seen else spread s f (seen ++ (now.flatMap fun t => (moves s).filterMap (moved s t)).foldl (ins seen) []) ((now.flatMap fun t => (moves s).filterMap (moved s t)).foldl (ins seen) []) :=
  congrArg (fun X => if now.isEmpty = true then seen else spread s f (seen ++ X) X) (fold_two (s := s) (seen := seen) now [])
theorem spread_all {s : St} {t0 N : Nat} (hN : ∀ u, Reach s t0 u → u < N) : ∀ (f : Nat) (seen now : List Nat), seen.Nodup → (∀ u ∈ seen, Reach s t0 u) → (∀ u ∈ now, u ∈ seen) → t0 ∈ seen →
    (∀ t ∈ seen, t ∉ now → ∀ u, Edge s t u → u ∈ seen) → N < f + seen.length →
    (spread s f seen now).Nodup ∧ ∀ u, u ∈ spread s f seen now ↔ Reach s t0 u
  | 0, seen, now, hd, hr, _, _, _, hf => by
    have := length_bound hd fun u hu => hN u (hr u hu)
    omega
  | f + 1, seen, now, hd, hr, hs, h0, he, hf => by
    have fin : now = [] → seen.Nodup ∧ ∀ u, u ∈ seen ↔ Reach s t0 u := by
      intro hnow
      refine ⟨hd, fun u => ⟨hr u, ?_⟩⟩
      rintro ⟨k, w⟩
      exact walk_closed (S := fun t => t ∈ seen) (fun t u ht e => he t ht (by rw [hnow]; simp) u e) w h0
    rw [spread_succ]
    by_cases c : now.isEmpty = true
    · rw [if_pos c]
      exact fin (by simpa using c)
    · rw [if_neg c]
      have key := ins_all (seen := seen) (now.flatMap fun t => (moves s).filterMap (moved s t)) [] (by simpa using hd)
      generalize List.foldl (ins seen) [] (now.flatMap fun t => (moves s).filterMap (moved s t)) = next at key
      obtain ⟨k1, k2⟩ := key
      have k3 : ∀ u, u ∈ next ↔ (∃ t ∈ now, Edge s t u) ∧ u ∉ seen := fun u => by
        rw [k2 u, mem_nbrs]
        simp
      have e2 : ∀ t ∈ seen ++ next, t ∉ next → ∀ u, Edge s t u → u ∈ seen ++ next := by
        intro t ht hn u e
        have ht : t ∈ seen := (List.mem_append.1 ht).resolve_right hn
        by_cases c1 : t ∈ now
        · by_cases c2 : u ∈ seen
          · exact List.mem_append.2 (.inl c2)
          · exact List.mem_append.2 (.inr ((k3 u).2 ⟨⟨t, c1, e⟩, c2⟩))
        · exact List.mem_append.2 (.inl (he t ht c1 u e))
      have r2 : ∀ u ∈ seen ++ next, Reach s t0 u := by
        intro u hu
        rcases List.mem_append.1 hu with h | h
        · exact hr u h
        · obtain ⟨⟨t, ht, e⟩, _⟩ := (k3 u).1 h
          exact (hr t (hs t ht)).snoc e
      by_cases cn : next = []
      · have e0 : spread s f (seen ++ next) next = seen ++ next := by
          rw [cn]
          cases f <;> rfl
        rw [e0]
        refine ⟨k1, fun u => ⟨r2 u, ?_⟩⟩
        rintro ⟨k, w⟩
        exact walk_closed (S := fun t => t ∈ seen ++ next) (fun t u ht e => e2 t ht (by rw [cn]; simp) u e) w (List.mem_append.2 (.inl h0))
      · refine spread_all hN f (seen ++ next) next k1 r2 (fun u hu => List.mem_append.2 (.inr hu)) (List.mem_append.2 (.inl h0)) e2 ?_
        rw [List.length_append]
        have : 0 < next.length := List.length_pos_iff.2 cn
        omega
theorem reach_all {s : St} (hP : s.pieces ≤ 6) (hM : s.props ≤ 2) {t : Nat} (f : Fit s t) : (reach s t).Nodup ∧ ∀ u, u ∈ reach s t ↔ Reach s t u := by
  refine spread_all (N := 2 ^ things s) (fun u r => (r.fit f).1) 520 [t] [t] (by simp) ?_ (fun u h => h) (by simp) ?_ ?_
  · intro u hu
    rw [List.mem_singleton.1 hu]
    exact Reach.refl s t
  · intro u hu hn
    exact absurd hu hn
  · have := things_small hP hM
    simp
    omega
/-! ### the furthest -/
def Better (n : Nat) (a b : Nat) : Prop := size n b < size n a ∨ (size n a = size n b ∧ a ≤ b)
def Best (n : Nat) (l : List Nat) (m : Nat) : Prop := m ∈ l ∧ ∀ t ∈ l, Better n m t
theorem Best.uniq {n : Nat} {l : List Nat} {a b : Nat} (ha : Best n l a) (hb : Best n l b) : a = b := by
  have h1 := ha.2 b hb.1
  have h2 := hb.2 a ha.1
  unfold Better at h1 h2
  omega
theorem Best.congr {n : Nat} {l k : List Nat} {a : Nat} (h : ∀ x, x ∈ l ↔ x ∈ k) (ha : Best n l a) : Best n k a :=
  ⟨(h a).1 ha.1, fun t ht => ha.2 t ((h t).2 ht)⟩
theorem far_fold {n : Nat} : ∀ (l : List Nat) (m : Nat), (l.foldl (fun (m : Nat) (t : Nat) => if size n m < size n t ∨ (size n m = size n t ∧ t < m) then t else m) m = m ∨ l.foldl (fun (m : Nat) (t : Nat) => if size n m < size n t ∨ (size n m = size n t ∧ t < m) then t else m) m ∈ l) ∧
    Better n (l.foldl (fun (m : Nat) (t : Nat) => if size n m < size n t ∨ (size n m = size n t ∧ t < m) then t else m) m) m ∧ ∀ t ∈ l, Better n (l.foldl (fun (m : Nat) (t : Nat) => if size n m < size n t ∨ (size n m = size n t ∧ t < m) then t else m) m) t
  | [], m => ⟨.inl rfl, .inr ⟨rfl, Nat.le_refl _⟩, fun t h => by cases h⟩
  | x :: l, m => by
    rw [List.foldl_cons]
    by_cases c : size n m < size n x ∨ (size n m = size n x ∧ x < m)
    · rw [if_pos c]
      obtain ⟨h1, h2, h3⟩ := far_fold (n := n) l x
      refine ⟨.inr ?_, ?_, ?_⟩
      · rcases h1 with h | h
        · rw [h]
          simp
        · exact List.mem_cons_of_mem _ h
      · unfold Better at *
        omega
      · intro t ht
        rcases List.mem_cons.1 ht with rfl | ht
        · exact h2
        · exact h3 t ht
    · rw [if_neg c]
      obtain ⟨h1, h2, h3⟩ := far_fold (n := n) l m
      refine ⟨?_, h2, ?_⟩
      · rcases h1 with h | h
        · exact .inl h
        · exact .inr (List.mem_cons_of_mem _ h)
      · intro t ht
        rcases List.mem_cons.1 ht with rfl | ht
        · unfold Better at *
          omega
        · exact h3 t ht
theorem furthest_best {s : St} {l : List Nat} (h : l ≠ []) : Best s.pieces l (furthest s l) := by
  cases l with
  | nil => exact absurd rfl h
  | cons x l =>
    have := far_fold (n := s.pieces) (x :: l) x
    obtain ⟨h1, _, h3⟩ := this
    refine ⟨?_, h3⟩
    rcases h1 with h | h
    · show List.foldl _ x (x :: l) ∈ x :: l
      rw [h]
      simp
    · exact h
end Br

set_option maxHeartbeats 1100000
namespace Br
open Sy47
/-! ### plans -/
def Runs (s : St) : Nat → List Nat → Nat → Prop
  | t, [], e => t = e
  | t, m :: ms, e => ∃ u, moved s t m = some u ∧ Runs s u ms e
theorem runs_walk {s : St} : ∀ {ms : List Nat} {t e : Nat}, Runs s t ms e → Walk s ms.length t e
  | [], _, _, h => h
  | _ :: _, _, _, ⟨u, h1, h2⟩ => ⟨u, ⟨_, moved_mem h1, h1⟩, runs_walk h2⟩
def LexLe : List Nat → List Nat → Prop
  | [], _ => True
  | _ :: _, [] => False
  | a :: x, b :: y => a < b ∨ (a = b ∧ LexLe x y)
theorem LexLe.antisymm : ∀ {x y : List Nat}, x.length = y.length → LexLe x y → LexLe y x → x = y
  | [], [], _, _, _ => rfl
  | [], _ :: _, h, _, _ => by cases h
  | _ :: _, [], h, _, _ => by cases h
  | a :: x, b :: y, h, h1, h2 => by
    rcases h1 with h1 | ⟨h1, h3⟩
    · rcases h2 with h2 | ⟨h2, _⟩
      · omega
      · omega
    · rcases h2 with h2 | ⟨_, h4⟩
      · omega
      · rw [h1, LexLe.antisymm (by simpa using h) h3 h4]
structure Least (s : St) (e t : Nat) (ms : List Nat) : Prop where
  runs : Runs s t ms e
  few : ∀ ms', Runs s t ms' e → ms.length ≤ ms'.length
  lex : ∀ ms', Runs s t ms' e → ms'.length = ms.length → LexLe ms ms'
theorem Least.uniq {s : St} {e t : Nat} {x y : List Nat} (a : Least s e t x) (b : Least s e t y) : x = y := by
  have h1 := a.few y b.runs
  have h2 := b.few x a.runs
  have h : x.length = y.length := by omega
  exact LexLe.antisymm h (a.lex y b.runs h.symm) (b.lex x a.runs h)
theorem moves_sorted {s : St} (hP : s.pieces ≤ 10) (hM : s.props ≤ 10) : (moves s).Pairwise (· < ·) := by
  unfold moves
  rw [List.pairwise_append]
  refine ⟨List.pairwise_lt_range, ?_, ?_⟩
  · rw [List.pairwise_append]
    refine ⟨?_, ?_, ?_⟩
    · exact List.Pairwise.map _ (fun a b h => by omega) List.pairwise_lt_range
    · exact List.Pairwise.map _ (fun a b h => by omega) List.pairwise_lt_range
    · intro a ha b hb
      obtain ⟨x, hx, rfl⟩ := List.mem_map.1 ha
      obtain ⟨y, hy, rfl⟩ := List.mem_map.1 hb
      rw [List.mem_range] at hx hy
      omega
  · intro a ha b hb
    rw [List.mem_range] at ha
    rcases List.mem_append.1 hb with hb | hb
    · obtain ⟨y, hy, rfl⟩ := List.mem_map.1 hb
      omega
    · obtain ⟨y, hy, rfl⟩ := List.mem_map.1 hb
      omega
theorem find_least {p : Nat → Bool} : ∀ {l : List Nat} {m : Nat}, l.Pairwise (· < ·) → l.find? p = some m → ∀ m' ∈ l, p m' = true → m ≤ m'
  | [], _, _, h, _, _, _ => by cases h
  | x :: l, m, hs, h, m', hm', hp => by
    rw [List.pairwise_cons] at hs
    rw [List.find?_cons] at h
    cases c : p x with
    | true =>
      rw [c] at h
      cases h
      rcases List.mem_cons.1 hm' with rfl | h2
      · exact Nat.le_refl _
      · exact Nat.le_of_lt (hs.1 m' h2)
    | false =>
      rw [c] at h
      rcases List.mem_cons.1 hm' with rfl | h2
      · rw [c] at hp
        cases hp
      · exact find_least hs.2 h m' h2 hp
def near (s : St) (k t m : Nat) : Bool := match moved s t m with
      | none => false
      | some u => distance (fromEnd s) u == some k
theorem plan_zero (s : St) (l : List (List Nat)) (t : Nat) : plan s l 0 t = [] := rfl
theorem plan_step {s : St} (hP : s.pieces ≤ 6) (hM : s.props ≤ 2) {k t : Nat} (f : Fit s t) (h : Short s (done s) (k + 1) t) :
    ∃ m u, plan s (fromEnd s) (k + 1) t = m :: plan s (fromEnd s) k u ∧ m ∈ moves s ∧ moved s t m = some u ∧ Short s (done s) k u ∧
      ∀ m' u', moved s t m' = some u' → Short s (done s) k u' → m ≤ m' := by
  obtain ⟨v, ⟨m0, hm0, e0⟩, hv⟩ := Short.step h
  have test : ∀ m, near s k t m = true ↔ ∃ u, moved s t m = some u ∧ Short s (done s) k u := by
    intro m
    unfold near
    cases e : moved s t m with
    | none => simp
    | some u =>
      have := distance_some hP hM (moved_fit f e) k
      simp [this]
  cases hf : (moves s).find? (near s k t) with
  | none =>
    have := List.find?_eq_none.1 hf m0 hm0
    exact absurd ((test m0).2 ⟨v, e0, hv⟩) this
  | some m =>
    obtain ⟨u, hu, hs⟩ := (test m).1 (List.find?_some hf)
    refine ⟨m, u, ?_, List.mem_of_find?_eq_some hf, hu, hs, fun m' u' h1 h2 => ?_⟩
    · have : plan s (fromEnd s) (k + 1) t = match (moves s).find? (near s k t) with
        | none => []
        | some m => m :: plan s (fromEnd s) k ((moved s t m).getD t) := rfl
      rw [this, hf]
      show m :: plan s (fromEnd s) k ((moved s t m).getD t) = _
      rw [hu]
      rfl
    · exact find_least (moves_sorted (by omega) (by omega)) hf m' (moved_mem h1) ((test m').2 ⟨u', h1, h2⟩)
theorem plan_least {s : St} (hP : s.pieces ≤ 6) (hM : s.props ≤ 2) : ∀ {k t : Nat}, Fit s t → Short s (done s) k t → Least s (done s) t (plan s (fromEnd s) k t) ∧ (plan s (fromEnd s) k t).length = k
  | 0, t, f, h => by
    rw [plan_zero]
    exact ⟨⟨h.1, fun _ _ => Nat.zero_le _, fun _ _ _ => trivial⟩, rfl⟩
  | k + 1, t, f, h => by
    obtain ⟨m, u, e, hm, hu, hs, hl⟩ := plan_step hP hM f h
    obtain ⟨ih, il⟩ := plan_least hP hM (moved_fit f hu) hs
    rw [e]
    refine ⟨⟨⟨u, hu, ih.runs⟩, fun ms' r => ?_, fun ms' r hlen => ?_⟩, by rw [List.length_cons, il]⟩
    · rw [List.length_cons, il]
      have w := runs_walk r
      apply Decidable.byContradiction
      intro c
      exact h.2 ms'.length (by omega) w
    · cases ms' with
      | nil => cases hlen
      | cons m' ms' =>
        obtain ⟨u', h1, h2⟩ := r
        rw [List.length_cons, List.length_cons, il] at hlen
        have hlen : ms'.length = k := by omega
        have w := runs_walk h2
        have s' : Short s (done s) k u' := by
          rw [hlen] at w
          refine ⟨w, fun j hj w2 => h.2 (j + 1) (by omega) ⟨u', ⟨m', moved_mem h1, h1⟩, w2⟩⟩
        have le := hl m' u' h1 s'
        by_cases c : m = m'
        · refine .inr ⟨c, ?_⟩
          subst c
          have : u' = u := by
            rw [hu] at h1
            cases h1
            rfl
          subst this
          exact ih.lex ms' h2 (by omega)
        · exact .inl (by omega)
end Br

set_option maxHeartbeats 1100000
namespace Br
open Sy47
/-! ### what falls -/
def loose (s : St) (t i : Nat) : Bool := has t i && !firm s t i
def dropTo (s : St) (t n : Nat) : Nat := (List.range n).foldl (fun (u : Nat) (i : Nat) => if has t i = true ∧ firm s t i = false then without u i else u) t
def drop (s : St) (t : Nat) : Nat := dropTo s t s.pieces
theorem dropTo_succ (s : St) (t n : Nat) : dropTo s t (n + 1) = if has t n = true ∧ firm s t n = false then without (dropTo s t n) n else dropTo s t n := by
  unfold dropTo
  rw [List.range_succ, List.foldl_append]
  rfl
theorem has_dropTo (s : St) (t : Nat) : ∀ (n j : Nat), has (dropTo s t n) j = (has t j && !(decide (j < n) && !firm s t j))
  | 0, j => by
    show has t j = _
    simp
  | n + 1, j => by
    rw [dropTo_succ]
    by_cases c : has t n = true ∧ firm s t n = false
    · rw [if_pos c, has_without, has_dropTo s t n j]
      by_cases d : n = j
      · subst d
        simp [c.2]
      · have e : decide (j < n + 1) = decide (j < n) := decide_eq_decide.2 (by omega)
        rw [e, decide_eq_false d]
        simp
    · rw [if_neg c, has_dropTo s t n j]
      by_cases d : n = j
      · subst d
        cases h1 : has t n with
        | false => simp
        | true =>
          cases h2 : firm s t n with
          | false => exact absurd ⟨h1, h2⟩ c
          | true => simp
      · have e : decide (j < n + 1) = decide (j < n) := decide_eq_decide.2 (by omega)
        rw [e]
/-- the same with a plain subtraction, as the bit is still there -/
theorem dropTo_sub (s : St) (t n : Nat) : dropTo s t (n + 1) = if has t n = true ∧ firm s t n = false then dropTo s t n - 2 ^ n else dropTo s t n := by
  rw [dropTo_succ]
  by_cases c : has t n = true ∧ firm s t n = false
  · rw [if_pos c, if_pos c]
    have : has (dropTo s t n) n = true := by
      rw [has_dropTo, c.1]
      simp
    unfold without
    rw [if_pos this]
  · rw [if_neg c, if_neg c]
theorem dropTo_has {s : St} {t n : Nat} (h : has t n = true) : has (dropTo s t n) n = true := by
  rw [has_dropTo, h]
  simp
theorem dropTo_le (s : St) (t : Nat) : ∀ n, dropTo s t n ≤ t
  | 0 => Nat.le_refl _
  | n + 1 => by
    rw [dropTo_succ]
    split
    · exact Nat.le_trans (without_le _ _) (dropTo_le s t n)
    · exact dropTo_le s t n
theorem drop_le (s : St) (t : Nat) : drop s t ≤ t := dropTo_le s t _
theorem carries_iff {s : St} {t : Nat} : carries s t = true ↔ ∀ i, i < s.pieces → has t i = true → firm s t i = true := by
  unfold carries
  rw [List.all_eq_true]
  constructor
  · intro h i hi ht
    have := h i (List.mem_range.2 hi)
    rw [ht] at this
    simpa using this
  · intro h i hi
    cases c : has t i with
    | false => rfl
    | true => simp [h i (List.mem_range.1 hi) c]
theorem drop_eq {s : St} {t : Nat} : drop s t = t ↔ carries s t = true := by
  rw [carries_iff]
  constructor
  · intro e i hi ht
    have := has_dropTo s t s.pieces i
    rw [show dropTo s t s.pieces = t from e, ht] at this
    simpa [hi] using this
  · intro h
    refine eq_of_has fun j => ?_
    show has (dropTo s t s.pieces) j = _
    rw [has_dropTo]
    cases c : has t j with
    | false => rfl
    | true =>
      by_cases d : j < s.pieces
      · simp [h j d c]
      · simp [d]
theorem drop_beq (s : St) (t : Nat) : decide (drop s t = t) = carries s t := by
  cases c : carries s t with
  | true => exact decide_eq_true (drop_eq.2 c)
  | false =>
    refine decide_eq_false fun h => ?_
    rw [drop_eq.1 h] at c
    cases c
theorem fallen_succ (s : St) (f t : Nat) : fallen s (f + 1) t = fallen s f (drop s t) := rfl
theorem fallen_fix {s : St} {t : Nat} (h : carries s t = true) : ∀ f, fallen s f t = t
  | 0 => rfl
  | f + 1 => by rw [fallen_succ, drop_eq.2 h, fallen_fix h f]
theorem fallen_last (s : St) : ∀ (f t : Nat), fallen s (f + 1) t = drop s (fallen s f t)
  | 0, t => rfl
  | f + 1, t => by rw [fallen_succ, fallen_last s f (drop s t), ← fallen_succ]
theorem drop_size {s : St} {t : Nat} (h : carries s t = false) : size s.pieces (drop s t) < size s.pieces t := by
  have hn : ¬ ∀ i, i < s.pieces → has t i = true → firm s t i = true := fun a => by
    rw [carries_iff.2 a] at h
    cases h
  have ⟨i, hi, ht, hf⟩ : ∃ i, i < s.pieces ∧ has t i = true ∧ firm s t i = false := by
    apply Decidable.byContradiction
    intro c
    refine hn fun i hi ht => ?_
    cases hf : firm s t i with
    | true => rfl
    | false => exact absurd ⟨i, hi, ht, hf⟩ c
  rw [size_cnt, size_cnt]
  refine cnt_lt (fun j _ hj => ?_) hi ?_ ht
  · have : has (dropTo s t s.pieces) j = true := hj
    rw [has_dropTo] at this
    simp only [Bool.and_eq_true] at this
    exact this.1
  · show has (dropTo s t s.pieces) i = false
    rw [has_dropTo, hf]
    simp [hi]
theorem fallen_carries {s : St} : ∀ (f t : Nat), size s.pieces t ≤ f → carries s (fallen s f t) = true
  | 0, t, h => by
    refine carries_iff.2 fun i hi ht => ?_
    have : 0 < size s.pieces t := by
      rw [size_cnt, ← cnt_none (n := s.pieces) (f := fun _ => false) fun _ _ => rfl]
      exact cnt_lt (fun _ _ h => by cases h) hi rfl ht
    omega
  | f + 1, t, h => by
    rw [fallen_succ]
    cases c : carries s t with
    | true => rw [drop_eq.2 c, fallen_fix c]; exact c
    | false =>
      have := drop_size c
      exact fallen_carries f _ (by omega)
theorem left_fix {s : St} {t : Nat} (h : carries s t = true) : left s t = t := fallen_fix h _
theorem left_drop (s : St) (t : Nat) : left s (drop s t) = left s t := by
  unfold left
  rw [← fallen_succ, fallen_last]
  refine drop_eq.2 (fallen_carries _ _ ?_)
  rw [size_cnt]
  exact Nat.le_trans (cnt_bound _ _) (Nat.le_succ _)
theorem drop_lt {s : St} {t : Nat} (h : carries s t = false) : drop s t < t := by
  have h1 := drop_le s t
  have h2 : drop s t ≠ t := fun e => by
    rw [drop_eq.1 e] at h
    cases h
  omega
end Br

set_option maxHeartbeats 1100000
namespace Br
open Sy47
/-! ### the request: calls one behind another -/
def nums : Call → List Nat
  | .begins a b c => [0, a, b, c]
  | .rests a b => [1, a, b]
  | .carries a => [2, a]
  | .falls a => [3, a]
  | .does a => [4, a]
  | .undo => [5]
  | .fewest => [6]
  | .plan => [7]
  | .far => [8]
  | .needed => [9]
  | .spare => [10]
  | .state => [11]
/-- the rest of a request, and its calls -/
inductive Rest : List Int → List Call → Prop
  | nil : Rest [] []
  | cons {c : Call} {l : List Int} {cs : List Call} : (∀ x ∈ nums c, x < 4294967296) → Rest l cs → Rest ((nums c).map Int.ofNat ++ l) (c :: cs)
def outs : St → List Call → List (List Int)
  | _, [] => []
  | s, c :: cs => Sy47Neutral.out (Sy47.step s c).2 :: outs (Sy47.step s c).1 cs
def tail (s : St) (cs : List Call) : List Int := PyFlat.told (outs s cs)
theorem tail_nil (s : St) : tail s [] = [] := rfl
theorem tail_cons (s : St) (c : Call) (cs : List Call) : tail s (c :: cs) = ((Sy47Neutral.out (Sy47.step s c).2).length : Int) :: (Sy47Neutral.out (Sy47.step s c).2 ++ tail (Sy47.step s c).1 cs) := by
  unfold tail
  show PyFlat.told (Sy47Neutral.out (Sy47.step s c).2 :: outs (Sy47.step s c).1 cs) = _
  unfold PyFlat.told
  rw [List.flatMap_cons]
  rfl
theorem natIn_cons {x : Int} {l : List Int} (h0 : 0 ≤ x) (h1 : x ≤ 4294967295) : Sy47Neutral.natIn (x :: l) = some (x.toNat, l) := if_pos ⟨h0, by omega⟩
theorem within_of {lo hi z : Int} (h : PyInside.within lo hi z = true) : lo ≤ z ∧ z ≤ hi := by
  unfold PyInside.within at h
  simpa using h
theorem toNat_lt {x : Int} (h1 : x ≤ 4294967295) : x.toNat < 4294967296 := by omega
theorem ofNat_toNat {x : Int} (h : 0 ≤ x) : Int.ofNat x.toNat = x := Int.toNat_of_nonneg h
/-- a raw call that is within its bounds is a call -/
theorem raw_call {l : List Int} {c : List (List Int)} {t : List Int} (h : PyFlat.call PySy47.shape l = some (c, t)) (hb : PyInside.call PySy47.bound c = true) :
    ∃ k : Call, l = (nums k).map Int.ofNat ++ t ∧ (∀ x ∈ nums k, x < 4294967296) ∧ PySy47.whole c = [(nums k).map Int.ofNat] ∧ Sy47Neutral.callOf ((nums k).map Int.ofNat) = some k := by
  cases l with
  | nil => cases h
  | cons p r =>
    unfold PyFlat.call at h
    simp only [] at h
    cases hs : PySy47.shape p with
    | none =>
      rw [hs] at h
      cases h
    | some nk =>
      obtain ⟨n, k⟩ := nk
      rw [hs] at h
      simp only [] at h
      by_cases hl : r.length < n
      · rw [if_pos hl] at h
        cases h
      · rw [if_neg hl] at h
        have hk : k = 0 := by
          unfold PySy47.shape at hs
          repeat' split at hs
          all_goals first | (cases hs; rfl) | cases hs
        subst hk
        simp only [PyFlat.rows] at h
        cases h
        unfold PySy47.shape at hs
        have key : ∀ (m : Nat), n = m → ∃ a, r.take m = a ∧ r = a ++ r.drop m ∧ a.length = m := by
          intro m e
          exact ⟨r.take m, rfl, (List.take_append_drop m r).symm, by rw [List.length_take]; omega⟩
        have one : n = 1 → ∃ x, r.take 1 = [x] ∧ r = x :: r.drop 1 := by
          intro e
          obtain ⟨a, h1, h2, h3⟩ := key 1 e
          match a, h3 with
          | [x], _ => exact ⟨x, h1, h2⟩
        have two : n = 2 → ∃ x y, r.take 2 = [x, y] ∧ r = x :: y :: r.drop 2 := by
          intro e
          obtain ⟨a, h1, h2, h3⟩ := key 2 e
          match a, h3 with
          | [x, y], _ => exact ⟨x, y, h1, h2⟩
        have three : n = 3 → ∃ x y z, r.take 3 = [x, y, z] ∧ r = x :: y :: z :: r.drop 3 := by
          intro e
          obtain ⟨a, h1, h2, h3⟩ := key 3 e
          match a, h3 with
          | [x, y, z], _ => exact ⟨x, y, z, h1, h2⟩
        have b1 : ∀ (q : Int) (x : Int), PyInside.call PySy47.bound [[q, x]] = true → (PySy47.bound q).1 = [(0, 4294967295)] → 0 ≤ x ∧ x ≤ 4294967295 := by
          intro q x h e
          unfold PyInside.call at h
          simp only [] at h
          rw [e] at h
          simp only [PyInside.each, Bool.and_eq_true] at h
          exact within_of h.1.1
        by_cases c0 : p = 0
        · subst c0
          rw [if_pos rfl] at hs
          cases hs
          obtain ⟨x, y, z, e1, e2⟩ := three rfl
          rw [e1] at hb ⊢
          have hb : (PyInside.within 0 4294967295 x && (PyInside.within 0 4294967295 y && (PyInside.within 0 4294967295 z && true)) && true) = true := hb
          simp only [Bool.and_eq_true] at hb
          have hx := within_of hb.1.1
          have hy := within_of hb.1.2.1
          have hz := within_of hb.1.2.2.1
          refine ⟨.begins x.toNat y.toNat z.toNat, ?_, ?_, ?_, ?_⟩
          · simp only [nums, List.map_cons, List.map_nil, ofNat_toNat hx.1, ofNat_toNat hy.1, ofNat_toNat hz.1]
            rw [e2]
            simp
          · intro v hv
            simp only [nums, List.mem_cons, List.not_mem_nil, or_false] at hv
            rcases hv with rfl | rfl | rfl | rfl <;> omega
          · simp only [nums, List.map_cons, List.map_nil, ofNat_toNat hx.1, ofNat_toNat hy.1, ofNat_toNat hz.1]
            rfl
          · simp only [nums, List.map_cons, List.map_nil, ofNat_toNat hx.1, ofNat_toNat hy.1, ofNat_toNat hz.1]
            show (Sy47Neutral.all_ (Sy47Neutral.some_ 3 [x, y, z])).map (fun (x : List Nat) => Call.begins (Sy47Neutral.g x 0) (Sy47Neutral.g x 1) (Sy47Neutral.g x 2)) = _
            unfold Sy47Neutral.some_
            simp only [Sy47Neutral.many_, natIn_cons hx.1 hx.2, natIn_cons hy.1 hy.2, natIn_cons hz.1 hz.2, Option.bind_some, Option.map_some, Sy47Neutral.all_]
            rfl
        rw [if_neg c0] at hs
        by_cases c1 : p = 1
        · subst c1
          rw [if_pos rfl] at hs
          cases hs
          obtain ⟨x, y, e1, e2⟩ := two rfl
          rw [e1] at hb ⊢
          have hb : (PyInside.within 0 4294967295 x && (PyInside.within 0 4294967295 y && true) && true) = true := hb
          simp only [Bool.and_eq_true] at hb
          have hx := within_of hb.1.1
          have hy := within_of hb.1.2.1
          refine ⟨.rests x.toNat y.toNat, ?_, ?_, ?_, ?_⟩
          · simp only [nums, List.map_cons, List.map_nil, ofNat_toNat hx.1, ofNat_toNat hy.1]
            rw [e2]
            simp
          · intro v hv
            simp only [nums, List.mem_cons, List.not_mem_nil, or_false] at hv
            rcases hv with rfl | rfl | rfl <;> omega
          · simp only [nums, List.map_cons, List.map_nil, ofNat_toNat hx.1, ofNat_toNat hy.1]
            rfl
          · simp only [nums, List.map_cons, List.map_nil, ofNat_toNat hx.1, ofNat_toNat hy.1]
            show (Sy47Neutral.all_ (Sy47Neutral.some_ 2 [x, y])).map (fun (x : List Nat) => Call.rests (Sy47Neutral.g x 0) (Sy47Neutral.g x 1)) = _
            unfold Sy47Neutral.some_
            simp only [Sy47Neutral.many_, natIn_cons hx.1 hx.2, natIn_cons hy.1 hy.2, Option.bind_some, Option.map_some, Sy47Neutral.all_]
            rfl
        rw [if_neg c1] at hs
        by_cases c2 : p = 2
        · subst c2
          rw [if_pos rfl] at hs
          cases hs
          obtain ⟨x, e1, e2⟩ := one rfl
          rw [e1] at hb ⊢
          have hx := b1 2 x hb rfl
          refine ⟨.carries x.toNat, ?_, ?_, ?_, ?_⟩
          · simp only [nums, List.map_cons, List.map_nil, ofNat_toNat hx.1]
            rw [e2]
            simp
          · intro v hv
            simp only [nums, List.mem_cons, List.not_mem_nil, or_false] at hv
            rcases hv with rfl | rfl <;> omega
          · simp only [nums, List.map_cons, List.map_nil, ofNat_toNat hx.1]
            rfl
          · simp only [nums, List.map_cons, List.map_nil, ofNat_toNat hx.1]
            show (Sy47Neutral.all_ (Sy47Neutral.some_ 1 [x])).map (fun (x : List Nat) => Call.carries (Sy47Neutral.g x 0)) = _
            unfold Sy47Neutral.some_
            simp only [Sy47Neutral.many_, natIn_cons hx.1 hx.2, Option.bind_some, Option.map_some, Sy47Neutral.all_]
            rfl
        rw [if_neg c2] at hs
        by_cases c3 : p = 3
        · subst c3
          rw [if_pos rfl] at hs
          cases hs
          obtain ⟨x, e1, e2⟩ := one rfl
          rw [e1] at hb ⊢
          have hx := b1 3 x hb rfl
          refine ⟨.falls x.toNat, ?_, ?_, ?_, ?_⟩
          · simp only [nums, List.map_cons, List.map_nil, ofNat_toNat hx.1]
            rw [e2]
            simp
          · intro v hv
            simp only [nums, List.mem_cons, List.not_mem_nil, or_false] at hv
            rcases hv with rfl | rfl <;> omega
          · simp only [nums, List.map_cons, List.map_nil, ofNat_toNat hx.1]
            rfl
          · simp only [nums, List.map_cons, List.map_nil, ofNat_toNat hx.1]
            show (Sy47Neutral.all_ (Sy47Neutral.some_ 1 [x])).map (fun (x : List Nat) => Call.falls (Sy47Neutral.g x 0)) = _
            unfold Sy47Neutral.some_
            simp only [Sy47Neutral.many_, natIn_cons hx.1 hx.2, Option.bind_some, Option.map_some, Sy47Neutral.all_]
            rfl
        rw [if_neg c3] at hs
        by_cases c4 : p = 4
        · subst c4
          rw [if_pos rfl] at hs
          cases hs
          obtain ⟨x, e1, e2⟩ := one rfl
          rw [e1] at hb ⊢
          have hx := b1 4 x hb rfl
          refine ⟨.does x.toNat, ?_, ?_, ?_, ?_⟩
          · simp only [nums, List.map_cons, List.map_nil, ofNat_toNat hx.1]
            rw [e2]
            simp
          · intro v hv
            simp only [nums, List.mem_cons, List.not_mem_nil, or_false] at hv
            rcases hv with rfl | rfl <;> omega
          · simp only [nums, List.map_cons, List.map_nil, ofNat_toNat hx.1]
            rfl
          · simp only [nums, List.map_cons, List.map_nil, ofNat_toNat hx.1]
            show (Sy47Neutral.all_ (Sy47Neutral.some_ 1 [x])).map (fun (x : List Nat) => Call.does (Sy47Neutral.g x 0)) = _
            unfold Sy47Neutral.some_
            simp only [Sy47Neutral.many_, natIn_cons hx.1 hx.2, Option.bind_some, Option.map_some, Sy47Neutral.all_]
            rfl
        rw [if_neg c4] at hs
        have zero : ∀ (q : Nat) (k : Call), p = Int.ofNat q → n = 0 → nums k = [q] → q < 20 → PySy47.whole [[p]] = [[Int.ofNat q]] → Sy47Neutral.callOf [Int.ofNat q] = some k →
            ∃ k : Call, p :: r = (nums k).map Int.ofNat ++ r.drop n ∧ (∀ x ∈ nums k, x < 4294967296) ∧ PySy47.whole [p :: r.take n] = [(nums k).map Int.ofNat] ∧ Sy47Neutral.callOf ((nums k).map Int.ofNat) = some k := by
          intro q k e en ek hq hw hc
          subst en
          refine ⟨k, ?_, ?_, ?_, ?_⟩
          · rw [ek, e]
            simp
          · rw [ek]
            intro x hx
            rw [List.mem_singleton.1 hx]
            omega
          · rw [ek, List.take_zero]
            exact hw
          · rw [ek]
            exact hc
        by_cases c5 : p = 5
        · subst c5
          rw [if_pos rfl] at hs
          cases hs
          exact zero 5 .undo rfl rfl rfl (by decide) rfl rfl
        rw [if_neg c5] at hs
        by_cases c6 : p = 6
        · subst c6
          rw [if_pos rfl] at hs
          cases hs
          exact zero 6 .fewest rfl rfl rfl (by decide) rfl rfl
        rw [if_neg c6] at hs
        by_cases c7 : p = 7
        · subst c7
          rw [if_pos rfl] at hs
          cases hs
          exact zero 7 .plan rfl rfl rfl (by decide) rfl rfl
        rw [if_neg c7] at hs
        by_cases c8 : p = 8
        · subst c8
          rw [if_pos rfl] at hs
          cases hs
          exact zero 8 .far rfl rfl rfl (by decide) rfl rfl
        rw [if_neg c8] at hs
        by_cases c9 : p = 9
        · subst c9
          rw [if_pos rfl] at hs
          cases hs
          exact zero 9 .needed rfl rfl rfl (by decide) rfl rfl
        rw [if_neg c9] at hs
        by_cases c10 : p = 10
        · subst c10
          rw [if_pos rfl] at hs
          cases hs
          exact zero 10 .spare rfl rfl rfl (by decide) rfl rfl
        rw [if_neg c10] at hs
        by_cases c11 : p = 11
        · subst c11
          rw [if_pos rfl] at hs
          cases hs
          exact zero 11 .state rfl rfl rfl (by decide) rfl rfl
        rw [if_neg c11] at hs
        cases hs
theorem raw_calls : ∀ (f : Nat) (l : List Int) (raw : List (List (List Int))), PyFlat.calls PySy47.shape f l = some raw → PyInside.calls PySy47.bound raw = true →
    ∃ cs : List Call, Rest l cs ∧ ∀ s, PyFlat.played (fun s c => Sy47Neutral.step s (c.headD [])) s (raw.map PySy47.whole) = outs s cs
  | f, [], raw, h, hb => by
    have : raw = [] := by
      cases f <;> (cases h; rfl)
    subst this
    exact ⟨[], .nil, fun _ => rfl⟩
  | 0, _ :: _, raw, h, hb => by cases h
  | f + 1, p :: r, raw, h, hb => by
    unfold PyFlat.calls at h
    cases hc : PyFlat.call PySy47.shape (p :: r) with
    | none =>
      rw [hc] at h
      cases h
    | some ct =>
      obtain ⟨c, t⟩ := ct
      rw [hc] at h
      simp only [] at h
      cases hr : PyFlat.calls PySy47.shape f t with
      | none =>
        rw [hr] at h
        cases h
      | some cs =>
        rw [hr] at h
        cases h
        unfold PyInside.calls at hb
        rw [List.all_cons, Bool.and_eq_true] at hb
        obtain ⟨k, h1, h2, h3, h4⟩ := raw_call hc hb.1
        obtain ⟨ks, h5, h6⟩ := raw_calls f t cs hr hb.2
        refine ⟨k :: ks, ?_, fun s => ?_⟩
        · rw [h1]
          exact .cons h2 h5
        · rw [List.map_cons]
          have e : Sy47Neutral.step s ((PySy47.whole c).headD []) = ((Sy47.step s k).1, Sy47Neutral.out (Sy47.step s k).2) := by
            rw [h3]
            show Sy47Neutral.step s ((nums k).map Int.ofNat) = _
            unfold Sy47Neutral.step
            rw [h4]
          unfold PyFlat.played outs
          rw [e]
          simp only []
          rw [h6]
/-- **the request**: its calls, and what is due -/
theorem asked_rest {l : List Int} (h : PySy47.answers_asked l = true) : ∃ cs : List Call, Rest l cs ∧ PySy47.answers l = tail init cs ∧ cs.length ≤ 80 ∧ (tail init cs).length ≤ 10000000 := by
  unfold PySy47.answers_asked at h
  cases hr : PyFlat.calls PySy47.shape l.length l with
  | none =>
    rw [hr] at h
    cases h
  | some raw =>
    rw [hr] at h
    simp only [Bool.and_eq_true] at h
    obtain ⟨⟨⟨⟨h0, h1⟩, h2⟩, h3⟩, h4⟩ := h
    obtain ⟨cs, h5, h6⟩ := raw_calls _ _ _ hr h2
    have e : PySy47.answers l = tail init cs := by
      unfold PySy47.answers PySy47.calls
      rw [hr]
      show PyFlat.told (PyFlat.played _ Sy47Neutral.start (raw.map PySy47.whole)) = _
      rw [h6]
      rfl
    refine ⟨cs, h5, e, ?_, ?_⟩
    · have a : raw.length ≤ 80 := of_decide_eq_true h1
      have b := congrArg List.length (h6 init)
      have c : ∀ (cs : List Call) s, (outs s cs).length = cs.length := by
        intro cs
        induction cs with
        | nil => intro s; rfl
        | cons c cs ih =>
          intro s
          unfold outs
          rw [List.length_cons, List.length_cons, ih]
      have d : ∀ (raw : List (List (List Int))) s, (PyFlat.played (fun s c => Sy47Neutral.step s (c.headD [])) s raw).length = raw.length := by
        intro raw
        induction raw with
        | nil => intro s; rfl
        | cons c cs ih =>
          intro s
          unfold PyFlat.played
          rw [List.length_cons, List.length_cons, ih]
      rw [c, d, List.length_map] at b
      omega
    · rw [← e]
      exact of_decide_eq_true h4
end Br

set_option maxHeartbeats 1100000
namespace Br
open Sy47
/-! ### what holds of every state -/
structure Good (s : St) : Prop where
  p1 : 1 ≤ s.pieces
  p6 : s.pieces ≤ 6
  m2 : s.props ≤ 2
  km : s.atOnce ≤ s.props
  len : s.rests.length = s.pieces
  four : ∀ l ∈ s.rests, l.length ≤ 4
  base : ∀ l ∈ s.rests, ∀ a ∈ l, a < 2 ^ things s
  fit : Fit s s.stage
theorem has_zero (i : Nat) : has 0 i = false := by
  rw [has_tb, Nat.zero_testBit]
theorem fit_zero (s : St) : Fit s 0 := by
  refine ⟨Nat.two_pow_pos _, ?_, ?_⟩
  · rw [carries_iff]
    intro i _ h
    rw [has_zero] at h
    cases h
  · rw [propsIn_cnt, cnt_none fun i _ => has_zero _]
    exact Nat.zero_le _
theorem good_init : Good init := ⟨by decide, by decide, by decide, by decide, rfl, by decide, by decide, fit_zero _⟩
theorem good_new {a b c : Nat} (h1 : 1 ≤ a) (h2 : a ≤ 6) (h3 : b ≤ 2) (h4 : c ≤ b) : Good ⟨a, b, c, List.replicate a [], 0⟩ := by
  refine ⟨h1, h2, h3, h4, List.length_replicate, ?_, ?_, fit_zero _⟩
  · intro l hl
    rw [List.eq_of_mem_replicate hl]
    exact Nat.zero_le _
  · intro l hl x hx
    rw [List.eq_of_mem_replicate hl] at hx
    cases hx
theorem good_rest {s : St} (g : Good s) {i a : Nat} (hi : i < s.pieces) (ha : a < 2 ^ things s) (h0 : s.stage = 0) (h4 : (s.rests.getD i []).length < 4) : Good { s with rests := s.rests.set i (s.rests.getD i [] ++ [a]) } := by
  have hm : s.rests.getD i [] ∈ s.rests := by
    rw [List.getD_eq_getElem?_getD, List.getElem?_eq_getElem (by rw [g.len]; exact hi)]
    exact List.getElem_mem _
  refine ⟨g.p1, g.p6, g.m2, g.km, ?_, ?_, ?_, ?_⟩
  · show (s.rests.set i _).length = s.pieces
    rw [List.length_set]
    exact g.len
  · intro l hl
    rcases List.mem_or_eq_of_mem_set hl with h | h
    · exact g.four l h
    · rw [h, List.length_append]
      show (s.rests.getD i []).length + 1 ≤ 4
      omega
  · intro l hl x hx
    rcases List.mem_or_eq_of_mem_set hl with h | h
    · exact g.base l h x hx
    · rw [h] at hx
      rcases List.mem_append.1 hx with h2 | h2
      · exact g.base _ hm x h2
      · rw [List.mem_singleton.1 h2]
        exact ha
  · show Fit _ s.stage
    rw [h0]
    exact fit_zero _
theorem good_stage {s : St} (g : Good s) {u : Nat} (f : Fit s u) : Good { s with stage := u } := ⟨g.p1, g.p6, g.m2, g.km, g.len, g.four, g.base, f⟩
theorem good_step {s : St} (g : Good s) (c : Call) : Good (step s c).1 := by
  cases c with
  | begins a b c =>
    show Good (if a < 1 ∨ PIECES < a ∨ PROPS < b ∨ b < c then (s, ok (-1)) else (⟨a, b, c, List.replicate a [], 0⟩, ok 0)).1
    by_cases h : a < 1 ∨ PIECES < a ∨ PROPS < b ∨ b < c
    · rw [if_pos h]
      exact g
    · rw [if_neg h]
      have h6 : PIECES = 6 := rfl
      have h2 : PROPS = 2 := rfl
      exact good_new (by omega) (by omega) (by omega) (by omega)
  | rests i a =>
    show Good (if 2 ^ things s ≤ a then (s, ok (-1)) else if s.pieces ≤ i then (s, ok (-2)) else if s.stage ≠ 0 then (s, ok (-4)) else if WAYS ≤ (s.rests.getD i []).length then (s, ok (-5)) else ({ s with rests := s.rests.set i (s.rests.getD i [] ++ [a]) }, ok (((s.rests.getD i []).length + 1 : Nat) : Int))).1
    by_cases h1 : 2 ^ things s ≤ a
    · rw [if_pos h1]
      exact g
    rw [if_neg h1]
    by_cases h2 : s.pieces ≤ i
    · rw [if_pos h2]
      exact g
    rw [if_neg h2]
    by_cases h3 : s.stage ≠ 0
    · rw [if_pos h3]
      exact g
    rw [if_neg h3]
    by_cases h4 : WAYS ≤ (s.rests.getD i []).length
    · rw [if_pos h4]
      exact g
    rw [if_neg h4]
    have hw : WAYS = 4 := rfl
    exact good_rest g (by omega) (by omega) (by simpa using h3) (by omega)
  | carries t =>
    show Good (if 2 ^ things s ≤ t then (s, ok (-1)) else (s, ok (if Sy47.carries s t = true then 1 else 0))).1
    split <;> exact g
  | falls t =>
    show Good (if 2 ^ things s ≤ t then (s, ok (-1)) else (s, ok (left s t : Nat))).1
    split <;> exact g
  | does m =>
    show Good (if (moves s).contains m = false then (s, ok (-1)) else (match moved s s.stage m with
      | none => (s, ok (-6))
      | some u => ({ s with stage := u }, ok (u : Nat)))).1
    split
    · exact g
    · split
      · exact g
      · next u hu => exact good_stage g (moved_fit g.fit hu)
  | undo => exact good_stage g (fit_zero s)
  | fewest => exact g
  | plan => exact g
  | far => exact g
  | needed => exact g
  | spare => exact g
  | state => exact g
end Br

set_option maxHeartbeats 1100000
namespace Br
open Sy47
/-! ### a search that goes on from stage to stage, as found, its moves rising: the first way to each stage is the least -/
/-- shorter, or as long and less -/
def Less : List Nat → List Nat → Prop
  | [], [] => False
  | [], _ :: _ => False
  | _ :: _, [] => False
  | a :: x, b :: y => a < b ∨ (a = b ∧ Less x y)
def SL (x y : List Nat) : Prop := x.length < y.length ∨ (x.length = y.length ∧ Less x y)
theorem Less.trans : ∀ {x y z : List Nat}, Less x y → Less y z → Less x z
  | a :: x, b :: y, c :: z, h1, h2 => by
    rcases h1 with h1 | ⟨h1, h3⟩
    · rcases h2 with h2 | ⟨h2, _⟩
      · exact .inl (by omega)
      · exact .inl (by omega)
    · rcases h2 with h2 | ⟨h2, h4⟩
      · exact .inl (by omega)
      · exact .inr ⟨by omega, Less.trans h3 h4⟩
  | [], [], _, h1, _ => h1.elim
  | [], _ :: _, _, h1, _ => h1.elim
  | _ :: _, [], _, h1, _ => h1.elim
  | _ :: _, _ :: _, [], _, h2 => h2.elim
theorem SL.trans {x y z : List Nat} (a : SL x y) (b : SL y z) : SL x z := by
  rcases a with a | ⟨a, a2⟩
  · rcases b with b | ⟨b, _⟩
    · exact .inl (by omega)
    · exact .inl (by omega)
  · rcases b with b | ⟨b, b2⟩
    · exact .inl (by omega)
    · exact .inr ⟨by omega, a2.trans b2⟩
theorem Less.snoc : ∀ {x y : List Nat} (m m' : Nat), x.length = y.length → Less x y → Less (x ++ [m]) (y ++ [m'])
  | [], [], _, _, _, h => h.elim
  | [], _ :: _, _, _, h, _ => by cases h
  | _ :: _, [], _, _, h, _ => by cases h
  | a :: x, b :: y, m, m', h, h1 => by
    rcases h1 with h1 | ⟨h1, h2⟩
    · exact .inl h1
    · exact .inr ⟨h1, Less.snoc m m' (by simpa using h) h2⟩
theorem Less.last : ∀ (x : List Nat) {m m' : Nat}, m < m' → Less (x ++ [m]) (x ++ [m'])
  | [], _, _, h => .inl h
  | _ :: x, _, _, h => .inr ⟨rfl, Less.last x h⟩
theorem SL.snoc {x y : List Nat} (m m' : Nat) (h : SL x y) : SL (x ++ [m]) (y ++ [m']) := by
  rcases h with h | ⟨h, h2⟩
  · refine .inl ?_
    rw [List.length_append, List.length_append]
    simp
    exact h
  · refine .inr ⟨?_, Less.snoc m m' h h2⟩
    rw [List.length_append, List.length_append, h]
    rfl
theorem SL.last (x : List Nat) {m m' : Nat} (h : m < m') : SL (x ++ [m]) (x ++ [m']) := .inr ⟨by simp, Less.last x h⟩
theorem SL.more (x : List Nat) (m : Nat) : SL x (x ++ [m]) := .inl (by simp)
theorem Less.irrefl : ∀ x : List Nat, ¬ Less x x
  | [], h => h
  | a :: x, h => by
    rcases h with h | ⟨_, h⟩
    · omega
    · exact Less.irrefl x h
theorem SL.irrefl (x : List Nat) : ¬ SL x x := by
  rintro (h | ⟨_, h⟩)
  · omega
  · exact Less.irrefl x h
theorem Less.le : ∀ {x y : List Nat}, Less x y → LexLe x y
  | [], _, _ => trivial
  | _ :: _, [], h => h.elim
  | _ :: _, _ :: _, h => by
    rcases h with h | ⟨h, h2⟩
    · exact .inl h
    · exact .inr ⟨h, h2.le⟩
theorem LexLe.refl : ∀ x : List Nat, LexLe x x
  | [] => trivial
  | _ :: x => .inr ⟨rfl, LexLe.refl x⟩
def LeSL (x y : List Nat) : Prop := x = y ∨ SL x y
theorem runs_snoc {s : St} : ∀ {p : List Nat} {t m v : Nat}, Runs s t (p ++ [m]) v ↔ ∃ u, Runs s t p u ∧ moved s u m = some v
  | [], t, m, v => by
    constructor
    · rintro ⟨u, h1, h2⟩
      have e : u = v := h2
      subst e
      exact ⟨t, rfl, h1⟩
    · rintro ⟨u, h1, h2⟩
      have e : t = u := h1
      subst e
      exact ⟨v, h2, rfl⟩
  | a :: p, t, m, v => by
    constructor
    · rintro ⟨w, h1, h2⟩
      obtain ⟨u, h3, h4⟩ := runs_snoc.1 h2
      exact ⟨u, ⟨w, h1, h3⟩, h4⟩
    · rintro ⟨u, ⟨w, h1, h3⟩, h4⟩
      exact ⟨w, h1, runs_snoc.2 ⟨u, h3, h4⟩⟩
theorem runs_det {s : St} : ∀ {p : List Nat} {t u v : Nat}, Runs s t p u → Runs s t p v → u = v
  | [], _, _, _, h1, h2 => h1.symm.trans h2
  | _ :: _, _, _, _, ⟨a, h1, h2⟩, ⟨b, h3, h4⟩ => by
    rw [h1] at h3
    cases h3
    exact runs_det h2 h4
theorem list_snoc {α : Type} : ∀ (l : List α), l ≠ [] → ∃ p m, l = p ++ [m]
  | [], h => absurd rfl h
  | [a], _ => ⟨[], a, rfl⟩
  | a :: b :: l, _ => by
    obtain ⟨p, m, e⟩ := list_snoc (b :: l) (by simp)
    exact ⟨a :: p, m, by rw [e]; rfl⟩
/-- L: stages found, each with the way to it; those ahead of h are gone through, the h-th by the moves below b -/
structure Bfs (s : St) (t0 : Nat) (L : List (Nat × List Nat)) (h b : Nat) : Prop where
  start : ∃ p, (t0, p) ∈ L
  runs : ∀ x ∈ L, Runs s t0 x.2 x.1
  nodup : (L.map (·.1)).Nodup
  sorted : L.Pairwise fun x y => SL x.2 y.2
  least : ∀ x ∈ L, ∀ p, Runs s t0 p x.1 → LeSL x.2 p
  seen : ∀ i x, L[i]? = some x → i < h → ∀ m v, moved s x.1 m = some v → v ∈ L.map (·.1)
  part : ∀ x, L[h]? = some x → ∀ m v, m < b → moved s x.1 m = some v → v ∈ L.map (·.1)
  from_ : ∀ y ∈ L, y.2 = [] ∨ ∃ k z m, L[k]? = some z ∧ y.2 = z.2 ++ [m] ∧ (k < h ∨ (k = h ∧ m < b))
theorem Bfs.first (s : St) (t0 : Nat) : Bfs s t0 [(t0, [])] 0 0 := by
  refine ⟨⟨[], by simp⟩, ?_, by simp, by simp, ?_, fun i x _ h => by omega, fun _ _ _ _ h => absurd h (Nat.not_lt_zero _), fun y hy => .inl (by rw [List.mem_singleton.1 hy])⟩
  · intro x hx
    rw [List.mem_singleton.1 hx]
    exact rfl
  · intro x hx p hp
    rw [List.mem_singleton.1 hx]
    cases p with
    | nil => exact .inl rfl
    | cons a p => exact .inr (.inl (by simp))
/-- a way to a stage that isn't gone through is no less than that to the h-th -/
theorem Bfs.later {s : St} {t0 : Nat} {L : List (Nat × List Nat)} {h b : Nat} (B : Bfs s t0 L h b) {x : Nat × List Nat} (hx : L[h]? = some x) :
    ∀ (k : Nat) (q : List Nat) (u : Nat), q.length = k → Runs s t0 q u → (∀ i y, L[i]? = some y → i < h → y.1 ≠ u) → LeSL x.2 q := by
  intro k
  induction k with
  | zero =>
    intro q u hq hr hn
    have hq : q = [] := List.length_eq_zero_iff.1 hq
    subst hq
    have hu : t0 = u := hr
    obtain ⟨p, hp⟩ := B.start
    obtain ⟨j, hj⟩ := List.getElem?_of_mem hp
    have hjh : h ≤ j := by
      apply Decidable.byContradiction
      intro c
      exact hn j _ hj (by omega) hu
    have e : p = [] := by
      rcases B.least _ hp [] rfl with e | e
      · exact e
      · rcases e with e | ⟨e, _⟩
        · exact absurd e (Nat.not_lt_zero _)
        · exact List.length_eq_zero_iff.1 e
    rcases Nat.lt_or_eq_of_le hjh with c | c
    · have := (List.pairwise_iff_getElem.1 B.sorted) h j (List.getElem?_eq_some_iff.1 hx).1 (List.getElem?_eq_some_iff.1 hj).1 c
      rw [(List.getElem?_eq_some_iff.1 hx).2, (List.getElem?_eq_some_iff.1 hj).2] at this
      rw [e] at this
      exact .inr this
    · subst c
      rw [hx] at hj
      cases hj
      exact .inl e
  | succ k ih =>
    intro q u hq hr hn
    by_cases hu : u ∈ L.map (·.1)
    · obtain ⟨y, hy, rfl⟩ := List.mem_map.1 hu
      obtain ⟨j, hj⟩ := List.getElem?_of_mem hy
      have hjh : h ≤ j := by
        apply Decidable.byContradiction
        intro c
        exact hn j _ hj (by omega) rfl
      have l1 := B.least y hy q hr
      rcases Nat.lt_or_eq_of_le hjh with c | c
      · have := (List.pairwise_iff_getElem.1 B.sorted) h j (List.getElem?_eq_some_iff.1 hx).1 (List.getElem?_eq_some_iff.1 hj).1 c
        rw [(List.getElem?_eq_some_iff.1 hx).2, (List.getElem?_eq_some_iff.1 hj).2] at this
        rcases l1 with e | l1
        · rw [← e]
          exact .inr this
        · exact .inr (this.trans l1)
      · subst c
        rw [hx] at hj
        cases hj
        exact l1
    · obtain ⟨q', m, rfl⟩ := list_snoc q (by
        intro e
        rw [e] at hq
        cases hq)
      obtain ⟨u', h1, h2⟩ := runs_snoc.1 hr
      have l1 := ih q' u' (by simpa using hq) h1 fun i y hy hi e => hu (B.seen i y hy hi m u (by rw [e]; exact h2))
      rcases l1 with e | l1
      · rw [e]
        exact .inr (SL.more q' m)
      · exact .inr (l1.trans (SL.more q' m))
/-- a new stage is found from the h-th by m; lesser moves are tried -/
theorem Bfs.found {s : St} {t0 : Nat} {L : List (Nat × List Nat)} {h b : Nat} (B : Bfs s t0 L h b) {x : Nat × List Nat} (hx : L[h]? = some x) {m v : Nat} (hm : moved s x.1 m = some v) (hv : v ∉ L.map (·.1)) (hb : b ≤ m)
    (htr : ∀ m' v', b ≤ m' → m' < m → moved s x.1 m' = some v' → v' ∈ L.map (·.1)) : Bfs s t0 (L ++ [(v, x.2 ++ [m])]) h (m + 1) := by
  have hlast : ∀ y ∈ L, SL y.2 (x.2 ++ [m]) := fun y hy => by
    rcases B.from_ y hy with e | ⟨k, z, m2, hz, e, c⟩
    · rw [e]
      exact .inl (by simp)
    · rw [e]
      rcases c with c | ⟨c, c2⟩
      · have := (List.pairwise_iff_getElem.1 B.sorted) k h (List.getElem?_eq_some_iff.1 hz).1 (List.getElem?_eq_some_iff.1 hx).1 c
        rw [(List.getElem?_eq_some_iff.1 hz).2, (List.getElem?_eq_some_iff.1 hx).2] at this
        exact this.snoc m2 m
      · subst c
        rw [hx] at hz
        cases hz
        exact SL.last _ (by omega)
  have hxL : x ∈ L := List.mem_of_getElem? hx
  have hrun : Runs s t0 (x.2 ++ [m]) v := runs_snoc.2 ⟨x.1, B.runs x hxL, hm⟩
  have hh := (List.getElem?_eq_some_iff.1 hx).1
  refine ⟨?_, ?_, ?_, ?_, ?_, ?_, ?_, ?_⟩
  · obtain ⟨p, hp⟩ := B.start
    exact ⟨p, List.mem_append.2 (.inl hp)⟩
  · intro y hy
    rcases List.mem_append.1 hy with h1 | h1
    · exact B.runs y h1
    · rw [List.mem_singleton.1 h1]
      exact hrun
  · rw [List.map_append, List.nodup_append]
    refine ⟨B.nodup, by simp, fun a ha b hb e => ?_⟩
    have : b = v := by simpa using hb
    rw [e, this] at ha
    exact hv ha
  · rw [List.pairwise_append]
    refine ⟨B.sorted, by simp, fun a ha b hb => ?_⟩
    rw [List.mem_singleton.1 hb]
    exact hlast a ha
  · intro y hy p hp
    rcases List.mem_append.1 hy with h1 | h1
    · exact B.least y h1 p hp
    · have hp : Runs s t0 p v := by
        rw [List.mem_singleton.1 h1] at hp
        exact hp
      rw [List.mem_singleton.1 h1]
      show LeSL (x.2 ++ [m]) p
      have hpn : p ≠ [] := fun e => by
        rw [e] at hp
        have e2 : t0 = v := hp
        obtain ⟨p0, hp0⟩ := B.start
        exact hv (by rw [← e2]; exact List.mem_map.2 ⟨_, hp0, rfl⟩)
      obtain ⟨q, m', rfl⟩ := list_snoc p hpn
      obtain ⟨u', h2, h3⟩ := runs_snoc.1 hp
      have hn : ∀ i y, L[i]? = some y → i < h → y.1 ≠ u' := fun i y hy hi e => hv (B.seen i y hy hi m' v (by rw [e]; exact h3))
      rcases B.later hx q.length q u' rfl h2 hn with e | e
      · have eu : u' = x.1 := by
          rw [← e] at h2
          exact runs_det h2 (B.runs x hxL)
        subst eu
        rw [← e]
        rcases Nat.lt_trichotomy m m' with c | c | c
        · exact .inr (SL.last _ c)
        · rw [c]
          exact .inl rfl
        · by_cases c2 : m' < b
          · exact absurd (B.part x hx m' v c2 h3) hv
          · exact absurd (htr m' v (by omega) c h3) hv
      · exact .inr (e.snoc m m')
  · intro i y hy hi m' v' hm'
    rw [List.getElem?_append_left (by omega)] at hy
    rw [List.map_append]
    exact List.mem_append.2 (.inl (B.seen i y hy hi m' v' hm'))
  · intro y hy m' v' ht hm'
    rw [List.getElem?_append_left hh] at hy
    rw [List.map_append]
    rw [hx] at hy
    cases hy
    by_cases c : m' < b
    · exact List.mem_append.2 (.inl (B.part x hx m' v' c hm'))
    · by_cases c2 : m' = m
      · rw [c2, hm] at hm'
        cases hm'
        exact List.mem_append.2 (.inr (by simp))
      · exact List.mem_append.2 (.inl (htr m' v' (by omega) (by omega) hm'))
  · intro y hy
    rcases List.mem_append.1 hy with h1 | h1
    · rcases B.from_ y h1 with e | ⟨k, z, m2, hz, e, c⟩
      · exact .inl e
      · exact .inr ⟨k, z, m2, by rw [List.getElem?_append_left (List.getElem?_eq_some_iff.1 hz).1]; exact hz, e, by omega⟩
    · refine .inr ⟨h, x, m, by rw [List.getElem?_append_left hh]; exact hx, by rw [List.mem_singleton.1 h1], .inr ⟨rfl, by omega⟩⟩
/-- moves that lead nowhere new -/
theorem Bfs.skip {s : St} {t0 : Nat} {L : List (Nat × List Nat)} {h b c : Nat} (B : Bfs s t0 L h b) (hc : b ≤ c) (hn : ∀ x, L[h]? = some x → ∀ m v, b ≤ m → m < c → moved s x.1 m = some v → v ∈ L.map (·.1)) : Bfs s t0 L h c :=
  ⟨B.start, B.runs, B.nodup, B.sorted, B.least, B.seen, fun x hx m v hm he => by
    by_cases q : m < b
    · exact B.part x hx m v q he
    · exact hn x hx m v (by omega) hm he, fun y hy => by
    rcases B.from_ y hy with e | ⟨k, z, m, hz, e, q⟩
    · exact .inl e
    · exact .inr ⟨k, z, m, hz, e, by omega⟩⟩
/-- all moves of the h-th are tried -/
theorem Bfs.next {s : St} {t0 : Nat} {L : List (Nat × List Nat)} {h b : Nat} (B : Bfs s t0 L h b) (hn : ∀ x, L[h]? = some x → ∀ m v, b ≤ m → moved s x.1 m = some v → v ∈ L.map (·.1)) : Bfs s t0 L (h + 1) 0 :=
  ⟨B.start, B.runs, B.nodup, B.sorted, B.least, fun i x hx hi m v he => by
    by_cases q : i < h
    · exact B.seen i x hx q m v he
    · have : i = h := by omega
      subst this
      by_cases q : m < b
      · exact B.part x hx m v q he
      · exact hn x hx m v (by omega) he, fun _ _ _ _ h => absurd h (Nat.not_lt_zero _), fun y hy => by
    rcases B.from_ y hy with e | ⟨k, z, m, hz, e, q⟩
    · exact .inl e
    · exact .inr ⟨k, z, m, hz, e, by omega⟩⟩
/-- the way to the end is the plan -/
theorem Bfs.plan {s : St} {t0 : Nat} {L : List (Nat × List Nat)} {h b : Nat} (B : Bfs s t0 L h b) {x : Nat × List Nat} (hx : x ∈ L) : Least s x.1 t0 x.2 := by
  refine ⟨B.runs x hx, fun p hp => ?_, fun p hp hl => ?_⟩
  · rcases B.least x hx p hp with e | e
    · rw [e]
      exact Nat.le_refl _
    · rcases e with e | ⟨e, _⟩
      · omega
      · omega
  · rcases B.least x hx p hp with e | e
    · rw [e]
      exact LexLe.refl p
    · rcases e with e | ⟨_, e⟩
      · omega
      · exact e.le
/-- all gone through: what is found is what can be come to -/
theorem Bfs.reach {s : St} {t0 : Nat} {L : List (Nat × List Nat)} {b : Nat} (B : Bfs s t0 L L.length b) (u : Nat) : u ∈ L.map (·.1) ↔ Reach s t0 u := by
  constructor
  · intro h
    obtain ⟨x, hx, rfl⟩ := List.mem_map.1 h
    exact ⟨_, runs_walk (B.runs x hx)⟩
  · rintro ⟨k, w⟩
    obtain ⟨p, hp⟩ := B.start
    refine walk_closed (S := fun t => t ∈ L.map (·.1)) (fun t v ht he => ?_) w (List.mem_map.2 ⟨_, hp, rfl⟩)
    obtain ⟨x, hx, rfl⟩ := List.mem_map.1 ht
    obtain ⟨i, hi⟩ := List.getElem?_of_mem hx
    obtain ⟨m, _, hm⟩ := he
    exact B.seen i x hi (List.getElem?_eq_some_iff.1 hi).1 m v hm
end Br

set_option maxHeartbeats 1100000
namespace Br
open Sy47
theorem walk_runs {s : St} : ∀ {k t e : Nat}, Walk s k t e → ∃ ms : List Nat, ms.length = k ∧ Runs s t ms e
  | 0, _, _, h => ⟨[], rfl, h⟩
  | k + 1, _, _, ⟨_, ⟨m, _, h1⟩, h2⟩ => by
    obtain ⟨ms, h3, h4⟩ := walk_runs h2
    exact ⟨m :: ms, by rw [List.length_cons, h3], _, h1, h4⟩
theorem Least.short {s : St} {e t : Nat} {p : List Nat} (h : Least s e t p) : Short s e p.length t := by
  refine ⟨runs_walk h.runs, fun j hj w => ?_⟩
  obtain ⟨ms, h1, h2⟩ := walk_runs w
  have := h.few ms h2
  omega
/-- a least way to the end is the plan -/
theorem Least.plan {s : St} (hP : s.pieces ≤ 6) (hM : s.props ≤ 2) {t : Nat} (f : Fit s t) {p : List Nat} (h : Least s (done s) t p) :
    distance (fromEnd s) t = some p.length ∧ plan s (fromEnd s) p.length t = p := by
  have hs := h.short
  exact ⟨(distance_some hP hM f _).2 hs, Least.uniq (plan_least hP hM f hs).1 h⟩
theorem no_plan {s : St} (hP : s.pieces ≤ 6) (hM : s.props ≤ 2) {t : Nat} (f : Fit s t) (h : ¬ Reach s t (done s)) : distance (fromEnd s) t = none :=
  (distance_none hP hM f).2 fun k w => h ⟨k, w⟩
theorem can_iff {s : St} (hP : s.pieces ≤ 6) (hM : s.props ≤ 2) (f : Fit s s.stage) : can s = true ↔ Reach s s.stage (done s) := by
  unfold can
  constructor
  · intro h
    cases e : distance (fromEnd s) s.stage with
    | none =>
      rw [e] at h
      cases h
    | some k => exact ⟨k, ((distance_some hP hM f k).1 e).1⟩
  · rintro ⟨k, w⟩
    obtain ⟨j, _, hs⟩ := short_of_walk w
    rw [(distance_some hP hM f j).2 hs]
    rfl
theorem can_anew {s : St} (hP : s.pieces ≤ 6) (hM : s.props ≤ 2) (k : Nat) : can (anew s k) = true ↔ Reach (anew s k) 0 (done s) :=
  can_iff (s := anew s k) hP hM (fit_zero _)
theorem size_full {n : Nat} : size n (2 ^ n - 1) = n := by
  rw [size_cnt]
  have : ∀ k, k ≤ n → cnt k (fun i => has (2 ^ n - 1) i) = k := by
    intro k
    induction k with
    | zero => intro _; rfl
    | succ k ih =>
      intro h
      rw [cnt_succ, ih (by omega), has_full, decide_eq_true (by omega)]
      rfl
  exact this n (Nat.le_refl _)
theorem far_of {s : St} (hP : s.pieces ≤ 6) (hM : s.props ≤ 2) {t : Nat} (f : Fit s t) {l : List Nat} {m : Nat} (hn : l.Nodup) (h : ∀ u, u ∈ l ↔ Reach s t u) (hb : Best s.pieces l m) :
    furthest s (reach s t) = m ∧ (reach s t).length = l.length := by
  obtain ⟨h1, h2⟩ := reach_all hP hM f
  have hm : ∀ x, x ∈ reach s t ↔ x ∈ l := fun x => (h2 x).trans (h x).symm
  have hne : reach s t ≠ [] := fun e => by
    have := (h2 t).2 (Reach.refl s t)
    rw [e] at this
    cases this
  refine ⟨Best.uniq (furthest_best hne) (Best.congr (fun x => (hm x).symm) hb), ?_⟩
  exact length_same (n := 2 ^ things s) h1 hn (fun x hx => ((h2 x).1 hx |>.fit f).1) hm
end Br

set_option maxRecDepth 100000
set_option maxHeartbeats 5000000
namespace Br
open PySem PySem.Spec
open PyProof.Rows L2
/-! ### the least of a dict's keys, by a key of its own that makes a new tuple of numbers -/
/-- n is one of the numbers, and none is less by the key kf -/
def Lst (kf : Int → List Int) (is : List Int) (n : Int) : Prop := n ∈ is ∧ ∀ x ∈ is, HT.lexLt (kf x) (kf n) = false
structure KeyOk (kf : Int → List Int) : Prop where
  irr : ∀ a, HT.lexLt (kf a) (kf a) = false
  tr : ∀ a b c, HT.lexLt (kf a) (kf b) = true → HT.lexLt (kf b) (kf c) = true → HT.lexLt (kf a) (kf c) = true
/-- none of the first k is less than n -/
def Ahead (kf : Int → List Int) (is : List Int) (k : Nat) (n : Int) : Prop := ∀ x ∈ is.take k, HT.lexLt (kf x) (kf n) = false
theorem mem_next {is : List Int} {k : Nat} {n x : Int} (e : is[k]? = some n) (m : x ∈ is.take (k + 1)) : x ∈ is.take k ∨ x = n := by
  rw [List.take_add_one, e, List.mem_append] at m
  exact m.imp id fun z => by simpa using z
theorem Ahead.stay {kf : Int → List Int} {is : List Int} {k : Nat} {n b : Int} (a : Ahead kf is k b) (e : is[k]? = some n) (l : HT.lexLt (kf n) (kf b) = false) : Ahead kf is (k + 1) b := fun x m =>
  (mem_next e m).elim (a x) fun z => z ▸ l
theorem Ahead.turn {kf : Int → List Int} (O : KeyOk kf) {is : List Int} {k : Nat} {n b : Int} (a : Ahead kf is k b) (e : is[k]? = some n) (l : HT.lexLt (kf n) (kf b) = true) : Ahead kf is (k + 1) n := fun x m => by
  rcases mem_next e m with z | z
  · have q := a x z
    cases c : HT.lexLt (kf x) (kf n) with
    | false => rfl
    | true => exact absurd (q.symm.trans (O.tr _ _ _ c l)) Bool.false_ne_true
  · rw [z]
    exact O.irr n
theorem Same.tup {K : PySem.W.Frag} {H H' : Hp} {a : Addr} {xs : List V} (e : L2.Same H H') (h : SqT K H a xs) : SqT K H' a xs :=
  h.imp (fun z => z.imp (e _ _) fun ⟨o, y⟩ => ⟨o, e _ _ y⟩) id
section
variable {X : Cx} {pins : List (Addr × Obj)} {σ : L2.St}
/-- what the key's call does, from any state in which good holds -/
def KeyTurn (X : Cx) (pins : List (Addr × Obj)) (σ : L2.St) (q : Addr) (kf : Int → List Int) (is : List Int) (good : Hp → Prop) : Prop :=
  ∀ (n : Int) (t : Tok) (more : List (Addr × Obj)) (s : Shared) (H : Hp), n ∈ is → Inv X (pins ++ more) σ H s → good H →
    wpAny (model X.prog X.w) X.A.in1 (call (.ref q) [.int n t]) (fun u s' => ∃ (a : Addr) (H' : Hp), u = .ref a ∧ Inv X (pins ++ more) σ H' s' ∧ L2.Same H H' ∧ SqT X.K H' a ((kf n).map V.int)) (fun _ _ => False) s
theorem fp_new {H H' : Hp} {b : Addr} (f : FpOk X pins H b) (n : H' b = Option.none) : FpOk X pins H' b := ⟨n, f.2⟩
theorem inv_turn {H : Hp} {s : Shared} {h' : Heap} {tk : Nat} {b : Addr} (I : Inv X pins σ H s) (f : FpOk X pins H b) (k : ∀ c o, c ≠ b → s.heap.get? c = some o → h'.get? c = some o) : Inv X pins σ H { s with heap := h', toks := tk } :=
  I.turned k f.1 f.2.1 f.2.2.2.1 f.2.2.2.2.1 f.2.2.2.2.2
/-- the notes are written anew -/
theorem inv_note {H : Hp} {s : Shared} {tk : Nat} {b : Addr} (I : Inv X pins σ H s) (f : FpOk X pins H b) (g : Obj → Obj) : Inv X pins σ H { s with heap := s.heap.update b g, toks := tk } :=
  inv_turn I f fun c o n e => (Heap.get?_update_other _ _ (Ne.symm n)).trans e
/-- one call of the key, the iterator's record and the notes pinned -/
theorem key_call {q it nt : Addr} {kf : Int → List Int} {is : List Int} {good : Hp → Prop} (turn : KeyTurn X pins σ q kf is good) {n : Int} {t : Tok} {s : Shared} {H : Hp} {oI oS : Obj} {Q : Value → Shared → Prop} {E : Value → Shared → Prop} (hn : n ∈ is) (I : Inv X pins σ H s) (g : good H)
    (fI : FpOk X pins H it) (fS : FpOk X pins H nt) (eI : s.heap.get? it = some oI) (eS : s.heap.get? nt = some oS) (dI : ∀ v, oI.data ≠ .cell v) (dS : ∀ v, oS.data ≠ .cell v)
    (h : ∀ (a : Addr) (H' : Hp) (s' : Shared), Inv X pins σ H' s' → L2.Same H H' → SqT X.K H' a ((kf n).map V.int) → FpOk X pins H' it → FpOk X pins H' nt → s'.heap.get? it = some oI → s'.heap.get? nt = some oS → Q (.ref a) s') :
    wpAny (model X.prog X.w) X.A.in1 (call (.ref q) [.int n t]) Q E s := by
  have two : Inv X (pins ++ [(it, oI), (nt, oS)]) σ H s := I.pins_of fun p m => by
    rw [List.mem_append, List.mem_cons, List.mem_singleton] at m
    rcases m with m | rfl | rfl
    · exact I.pin p (List.mem_append_right _ m)
    · exact ⟨eI, fI.1, fI.2.1, fI.2.2.1, dI⟩
    · exact ⟨eS, fS.1, fS.2.1, fS.2.2.1, dS⟩
  refine wpAny_mono (turn n t _ s H hn two g) (fun u s' ⟨a, H', e, J, sm, ha⟩ => ?_) fun _ _ z => z.elim
  subst e
  have pI := J.pin (it, oI) (by simp)
  have pS := J.pin (nt, oS) (by simp)
  exact h a H' s' J.unpinned sm ha (fp_new fI pI.2.1) (fp_new fS pS.2.1) pI.1 pS.1
/-- a dict's keys that are numbers, one of them as its walk gives it -/
theorem key_at {vs : List (Key × Value)} {is : List Int} (hk : vs.map (·.1) = is.map Sum.inl) {prog : Program} {w : World} {i : Nat} {v : Value} (h : ∃ k x, vs[i]? = some (k, x) ∧ (mixKind prog w).is k v = true) : ∃ n t, is[i]? = some n ∧ v = Value.int n t := by
  obtain ⟨k, x, h1, h2⟩ := h
  have e1 : (is.map Sum.inl)[i]? = some k := by
    rw [← hk, List.getElem?_map, h1]
    all_goals rfl
  rw [List.getElem?_map, Option.map_eq_some_iff] at e1
  obtain ⟨n, hn, rfl⟩ := e1
  obtain ⟨t, e3⟩ := Value.isInt_shape (k := n) (v := v) h2
  exact ⟨n, t, hn, e3⟩
/-- the loop's own name -/
theorem ml_name : (toString "min" ++ toString ".loop" : String) = "min.loop" := by decide
/-- what stands still while the loop runs -/
structure Least1 (X : Cx) (pins : List (Addr × Obj)) (σ : L2.St) (q it nt d : Addr) (vs : List (Key × Value)) (is : List Int) (ep : Nat) (kf : Int → List Int) (good : Hp → Prop) : Prop where
  calm : X.calm = true
  room : X.A.units + 1 < cLine
  ok : KeyOk kf
  keys : vs.map (·.1) = is.map Sum.inl
  turn : KeyTurn X pins σ q kf is good
  stay : ∀ H H', good H → L2.Same H H' → good H'
  dict : ∀ H s, Inv X pins σ H s → good H → s.heap.DictAt (mixKind X.prog X.w) d vs ep
  ndi : d ≠ it
  nni : nt ≠ it
theorem Least1.len {q it nt d : Addr} {vs : List (Key × Value)} {is : List Int} {ep : Nat} {kf : Int → List Int} {good : Hp → Prop} (l : Least1 X pins σ q it nt d vs is ep kf good) : vs.length = is.length := by
  simpa using congrArg List.length l.keys
/-- a state of the loop: the iterator stands at k, the notes bear the best and its key -/
structure Least2 (X : Cx) (pins : List (Addr × Obj)) (σ : L2.St) (it nt d : Addr) (vs : List (Key × Value)) (ep : Nat) (good : Hp → Prop) (k : Nat) (note : Array Value) (H : Hp) (s : Shared) : Prop where
  inv : Inv X pins σ H s
  good : good H
  fI : FpOk X pins H it
  fN : FpOk X pins H nt
  iter : s.heap.IsKeyIter it d k vs.length ep
  note : ∃ c, s.heap.get? nt = some (seqObj "list" note c)
end
end Br

set_option maxRecDepth 100000
set_option maxHeartbeats 5000000
namespace Br
open PySem PySem.Spec
open PyProof.Rows L2
section
variable {A : Around} {prog : Program} {w : World} {s : Shared} {R : Result → Shared → Prop}
theorem ml_in {args : Args} (h : wpAny (model prog w) A.in1 (Builtin.«min.loop» args) (fun r z => match r with | .done f => R (.ok f) z | .again c => c.quiet = true ∧ codeAny (model prog w) A c R z) (fun e z => R (.error e) z) s) :
    codeAny (model prog w) A (.builtin "min.loop" args) R s :=
  codeAny_builtin PySem.F.entry_min_loop (by rw [Around.under_plainId PySem.F.plain_min_loop _]; exact h)
theorem ml_quiet (args : Args) : (Code.builtin "min.loop" args).quiet = true := plainId_quiet PySem.F.plain_min_loop _
end
section
variable {X : Cx} {pins : List (Addr × Obj)} {σ : L2.St} {q it nt d : Addr} {vs : List (Key × Value)} {is : List Int} {ep : Nat} {kf : Int → List Int} {good : Hp → Prop} {H : Hp} {s : Shared} {R : Result → Shared → Prop}
theorem Least1.walks (L : Least1 X pins σ q it nt d vs is ep kf good) (I : Inv X pins σ H s) : Walks X.prog X.w X.A.in1 it [it, d] [it] vs.length (fun i v => ∃ k x, vs[i]? = some (k, x) ∧ (mixKind X.prog X.w).is k v = true) (fun i h => h.IsKeyIter it d i vs.length ep ∧ h.DictAt (mixKind X.prog X.w) d vs ep) :=
  Walks.dictKeys (prog := X.prog) (w := X.w) (knd := mixKind X.prog X.w) (A := X.A.in1) (I.ok.hd L.calm) it d L.ndi vs ep
/-- all keys are gone through -/
theorem ml_end (L : Least1 X pins σ q it nt d vs is ep kf good) {n : Int} {t : Tok} {kb : Addr} (S : Least2 X pins σ it nt d vs ep good is.length #[.int n t, .ref kb] H s) (hR : ∀ z, Inv X pins σ H z → R (.ok (.ret (.int n t))) z) :
    codeAny (model X.prog X.w) X.A (.builtin "min.loop" ⟨[.ref it, .ref q, .ref nt], []⟩) R s := by
  obtain ⟨c, hc⟩ := S.note
  refine ml_in ?_
  show wpAny _ _ (seqItems? (.ref nt) >>= _) _ _ _
  refine wpAny_bind (wpAny_seqItems hc rfl ?_)
  show wpAny _ _ (tryCatch (pyNext (.ref it)) _ >>= _) _ _ _
  have st := S.iter
  rw [← L.len] at st
  refine wpAny_bind (wpAny_tryCatch ((L.walks S.inv).done s _ _ ⟨st, L.dict H s S.inv S.good⟩ fun h1 tk k1 => ?_))
  have k2 : ∀ b o, b ≠ it → s.heap.get? b = some o → h1.get? b = some o := fun b o n => k1 b o fun z => n (List.mem_singleton.mp z)
  show wpAny _ _ (updateSeq nt (fun _ => #[]) >>= _) _ _ _
  exact wpAny_bind (wpAny_updateSeq (k2 nt _ L.nni hc) rfl (wpAny_bind (wpAny_letGo (wpAny_pure (hR _ (inv_note (inv_turn S.inv S.fI k2) S.fN _))))))
/-- the first key: it is noted -/
theorem ml_first (L : Least1 X pins σ q it nt d vs is ep kf good) (S : Least2 X pins σ it nt d vs ep good 0 #[] H s) (hn : 0 < is.length)
    (go : ∀ (n : Int) (t : Tok) (a : Addr) (H' : Hp) (z : Shared), is[0]? = some n → L2.Same H H' → SqT X.K H' a ((kf n).map V.int) → Least2 X pins σ it nt d vs ep good 1 #[.int n t, .ref a] H' z →
      codeAny (model X.prog X.w) X.A (.builtin "min.loop" ⟨[.ref it, .ref q, .ref nt], []⟩) R z) :
    codeAny (model X.prog X.w) X.A (.builtin "min.loop" ⟨[.ref it, .ref q, .ref nt], []⟩) R s := by
  obtain ⟨c, hc⟩ := S.note
  refine ml_in ?_
  show wpAny _ _ (seqItems? (.ref nt) >>= _) _ _ _
  refine wpAny_bind (wpAny_seqItems hc rfl ?_)
  show wpAny _ _ (tryCatch (pyNext (.ref it)) _ >>= _) _ _ _
  refine wpAny_bind (wpAny_tryCatch ((L.walks S.inv).item 0 s _ _ (by rw [L.len]; exact hn) ⟨S.iter, L.dict H s S.inv S.good⟩ fun v h1 tk hv st k1 => ?_))
  have k2 : ∀ b o, b ≠ it → s.heap.get? b = some o → h1.get? b = some o := fun b o n => k1 b o fun z => n (List.mem_singleton.mp z)
  obtain ⟨n, t, en, rfl⟩ := key_at L.keys hv
  obtain ⟨oI, g1, g2, g3⟩ := id st.1
  show wpAny _ _ (tryCatch (holding [.int n t] (call (.ref q) [.int n t])) _ >>= _) _ _ _
  refine wpAny_bind (wpAny_tryCatch (wpAny_holding (key_call L.turn (List.mem_of_getElem? en) (inv_turn (tk := tk) S.inv S.fI k2) S.good S.fI S.fN g1 (k2 nt _ L.nni hc) (fun v z => by rw [g3] at z; cases z) (fun v z => by cases z) fun a H2 z I2 sm ha fI fN eI eN => ?_)))
  show wpAny _ _ (updateSeq nt (fun _ => #[.int n t, .ref a]) >>= _) _ _ _
  refine wpAny_bind (wpAny_updateSeq eN rfl ?_)
  rw [ml_name]
  exact wpAny_pure ⟨ml_quiet _, go n t a H2 _ en sm ha ⟨inv_note I2 fN _, L.stay _ _ S.good sm, fI, fN, ⟨oI, (Heap.get?_update_other _ _ L.nni).trans eI, g2, g3⟩, _, Heap.get?_update_self _ eN rfl⟩⟩
/-- a further key: it is noted if it is less -/
theorem ml_turn (L : Least1 X pins σ q it nt d vs is ep kf good) {k : Nat} {nb : Int} {tb : Tok} {kb : Addr} (S : Least2 X pins σ it nt d vs ep good k #[.int nb tb, .ref kb] H s) (hb : SqT X.K H kb ((kf nb).map V.int)) (hn : k < is.length)
    (go : ∀ (n : Int) (t : Tok) (a : Addr) (H' : Hp) (z : Shared), is[k]? = some n → L2.Same H H' → SqT X.K H' a ((kf n).map V.int) → HT.lexLt (kf n) (kf nb) = true → Least2 X pins σ it nt d vs ep good (k + 1) #[.int n t, .ref a] H' z →
      codeAny (model X.prog X.w) X.A (.builtin "min.loop" ⟨[.ref it, .ref q, .ref nt], []⟩) R z)
    (on : ∀ (n : Int) (H' : Hp) (z : Shared), is[k]? = some n → L2.Same H H' → HT.lexLt (kf n) (kf nb) = false → Least2 X pins σ it nt d vs ep good (k + 1) #[.int nb tb, .ref kb] H' z →
      codeAny (model X.prog X.w) X.A (.builtin "min.loop" ⟨[.ref it, .ref q, .ref nt], []⟩) R z) :
    codeAny (model X.prog X.w) X.A (.builtin "min.loop" ⟨[.ref it, .ref q, .ref nt], []⟩) R s := by
  obtain ⟨c, hc⟩ := S.note
  refine ml_in ?_
  show wpAny _ _ (seqItems? (.ref nt) >>= _) _ _ _
  refine wpAny_bind (wpAny_seqItems hc rfl ?_)
  show wpAny _ _ (tryCatch (pyNext (.ref it)) _ >>= _) _ _ _
  refine wpAny_bind (wpAny_tryCatch ((L.walks S.inv).item k s _ _ (by rw [L.len]; exact hn) ⟨S.iter, L.dict H s S.inv S.good⟩ fun v h1 tk hv st k1 => ?_))
  have k2 : ∀ b o, b ≠ it → s.heap.get? b = some o → h1.get? b = some o := fun b o n => k1 b o fun z => n (List.mem_singleton.mp z)
  obtain ⟨n, t, en, rfl⟩ := key_at L.keys hv
  obtain ⟨oI, g1, g2, g3⟩ := id st.1
  show wpAny _ _ (tryCatch (holding [.int n t] (call (.ref q) [.int n t])) _ >>= _) _ _ _
  refine wpAny_bind (wpAny_tryCatch (wpAny_holding (key_call L.turn (List.mem_of_getElem? en) (inv_turn (tk := tk) S.inv S.fI k2) S.good S.fI S.fN g1 (k2 nt _ L.nni hc) (fun v z => by rw [g3] at z; cases z) (fun v z => by cases z) fun a H2 z I2 sm ha fI fN eI eN => ?_)))
  obtain ⟨_, v1, p1, _⟩ := I2.tuple ha
  obtain ⟨_, v2, p2, _⟩ := I2.tuple (Same.tup sm hb)
  show wpAny _ _ (tryCatch (holding [.int n t, .ref a] (richCompare .Lt (.ref a) (.ref kb) >>= _)) _ >>= _) _ _ _
  refine wpAny_bind (wpAny_tryCatch (wpAny_holding (wpAny_bind (HT.lt_tupInts (A := X.A.in1) p1 p2 (L2.intsAre_of v1) (L2.intsAre_of v2) L.room (wpAny_bind (wpAny_holding (wpAny_truthy_bool (wpAny_bind (wpAny_letGo (wpAny_pure ?_))))))))))
  have g' := L.stay _ _ S.good sm
  cases c : HT.lexLt (kf n) (kf nb) with
  | true =>
    rw [if_pos rfl]
    refine wpAny_bind (wpAny_updateSeq eN rfl (wpAny_bind (wpAny_letGo ?_)))
    rw [ml_name]
    exact wpAny_pure ⟨ml_quiet _, go n t a H2 _ en sm ha c ⟨inv_note I2 fN _, g', fI, fN, ⟨oI, (Heap.get?_update_other _ _ L.nni).trans eI, g2, g3⟩, _, Heap.get?_update_self _ eN rfl⟩⟩
  | false =>
    rw [if_neg (show ¬ false = true from Bool.false_ne_true)]
    refine wpAny_bind (wpAny_letGo (show wpAny _ _ (again (.builtin (toString "min" ++ toString ".loop") _)) _ _ _ from ?_))
    rw [ml_name]
    exact wpAny_pure ⟨ml_quiet _, on n H2 z en sm c ⟨I2, g', fI, fN, ⟨oI, eI, g2, g3⟩, _, eN⟩⟩
/-- from any key on -/
theorem ml_rest (L : Least1 X pins σ q it nt d vs is ep kf good) {H0 : Hp} (hR : ∀ n t H' z, Inv X pins σ H' z → L2.Same H0 H' → Lst kf is n → R (.ok (.ret (.int n t))) z) : ∀ (r k : Nat) (s : Shared) (H : Hp) (nb : Int) (tb : Tok) (kb : Addr), k + r = is.length → L2.Same H0 H →
    Least2 X pins σ it nt d vs ep good k #[.int nb tb, .ref kb] H s → SqT X.K H kb ((kf nb).map V.int) → nb ∈ is → Ahead kf is k nb → codeAny (model X.prog X.w) X.A (.builtin "min.loop" ⟨[.ref it, .ref q, .ref nt], []⟩) R s
  | 0, k, s, H, nb, tb, kb, hk, sm, S, hb, m, a => by
    have e : k = is.length := hk
    subst e
    exact ml_end L S fun z J => hR nb tb H z J sm ⟨m, fun x hx => a x (by rw [List.take_length]; exact hx)⟩
  | r + 1, k, s, H, nb, tb, kb, hk, sm, S, hb, m, a =>
    ml_turn L S hb (by omega) (fun n t a' H' z e sm' ha lt S' => ml_rest L hR r (k + 1) z H' n t a' (by omega) (sm.trans sm') S' ha (List.mem_of_getElem? e) (a.turn L.ok e lt))
      fun n H' z e sm' lt S' => ml_rest L hR r (k + 1) z H' nb tb kb (by omega) (sm.trans sm') S' (Same.tup sm' hb) m (a.stay e lt)
/-- min(d, key=q) -/
theorem minK_call (hc : X.calm = true) (hu : X.A.units + 1 < cLine) {Q : Value → Shared → Prop} {E : Value → Shared → Prop} (KO : KeyOk kf) (hsys : (d == sysModules) = false) (hk : vs.map (·.1) = is.map Sum.inl) (hne : is ≠ []) (turn : KeyTurn X pins σ q kf is good) (gs : ∀ H H', good H → L2.Same H H' → good H')
    (hd : ∀ H s, Inv X pins σ H s → good H → s.heap.DictAt (mixKind X.prog X.w) d vs ep) (I : Inv X pins σ H s) (g : good H) (hR : ∀ n t H' z, Inv X pins σ H' z → L2.Same H H' → Lst kf is n → Q (.int n t) z) :
    wpAny (model X.prog X.w) X.A (call (.builtin "min") [.ref d] [(Str.ofString "key", .ref q)]) Q E s := by
  have da := hd H s I g
  obtain ⟨_, _, dso, _⟩ := id da
  have eb : Builtin.Builtins.bindParams "min" ["key", "default"] 0 ⟨[], [(Str.ofString "key", Value.ref q)]⟩ = pure [some (Value.ref q), none] := rfl
  refine kmk_tree (id := "min") PySem.F.kind_min PySem.F.plain_min PySem.F.entry_min (kmk_min_key (.ref d) (.ref q)) ?_
  show wpAny _ _ (Builtin.Builtins.bindParams _ _ 0 ⟨[], [(Str.ofString "key", Value.ref q)]⟩ >>= _) _ _ s
  refine wpAny_bind (wpAny_of_eq eb (wpAny_bind (wpAny_pure ?_)))
  refine wpAny_bind (wpAny_pyIter_dict (knd := mixKind X.prog X.w) hsys da (wpAny_bind (wpAny_newList ?_ (Nat.zero_le sizeLine))))
  rw [ml_name]
  refine wpAny_pure ⟨ml_quiet _, ?_⟩
  generalize eo : ({ cls := .type "dict_keyiterator", data := .fields #[.ref d, .int 0 0, .int vs.length 0, .int ep 0] } : Obj) = oI
  have fr : oI.isFreed = false := by rw [← eo]; rfl
  have sz : (s.heap.push oI).objs.size = s.heap.objs.size + 1 := size_push' ..
  have le : s.heap.objs.size ≤ (s.heap.push oI).objs.size := by rw [sz]; exact Nat.le_succ _
  have L : Least1 X pins σ q s.heap.objs.size (s.heap.push oI).objs.size d vs is ep kf good := ⟨hc, hu, KO, hk, turn, gs, hd, Nat.ne_of_lt (Heap.lt_size dso), by rw [sz]; exact Nat.succ_ne_self _⟩
  have gI : ((s.heap.push oI).push (seqObj "list" #[] 0)).get? s.heap.objs.size = some oI := Heap.get?_push_of_some _ (Heap.get?_push_size _ fr)
  refine ml_first L (H := H) ⟨I.kept fun b o e => Heap.get?_push_of_some _ (Heap.get?_push_of_some _ e), g, I.fpOk (Nat.le_refl _) (I.hok.fresh (Nat.le_refl _)), I.fpOk le (I.hok.fresh le), ⟨oI, gI, by rw [← eo], by rw [← eo]; rfl⟩, 0, Heap.get?_push_size _ rfl⟩ (List.length_pos_iff.mpr hne) ?_
  intro n t a H' z en sm ha S
  refine ml_rest L hR (is.length - 1) 1 z H' n t a (by have := List.length_pos_iff.mpr hne; omega) sm S ha (List.mem_of_getElem? en) fun x hx => ?_
  rcases mem_next en hx with m | m
  · cases m
  · rw [m]
    exact KO.irr n
end
end Br

set_option maxRecDepth 100000
set_option maxHeartbeats 5000000
namespace Br
open PySem PySem.Spec
open PyProof.Rows L2 LamX NdefX
/-- what a key's call gives -/
def KeyAns (K : PySem.W.Frag) (kf : Int → List Int) (n : Int) (H : Hp) : VK := fun v H' => ∃ a : Addr, v = .ref a ∧ L2.Same H H' ∧ SqT K H' a ((kf n).map V.int)
/-- a lambda's words, as a function's -/
abbrev lamF (X : Cx) (params : Arguments) (scope : Scope) (c' : Addr) : NF := ⟨"<lambda>", X.env.qual ++ "<lambda>", params, [], scope, cloFrom X.env.cells scope.names [], c'⟩
section
variable {X : Cx} {pins : List (Addr × Obj)} {σ : L2.St}
/-- a lambda of one parameter as a key: its body's reading -/
theorem lam_turn {f c' : Addr} {kf : Int → List Int} {is : List Int} {good : Hp → Prop} {params : Arguments} {body : Expr} {scope : Scope} {pm ctv : Value} {x : Str} {N fr : List Str} {js : List Nat} {k : Nat} (hr : Room (k + 2) X.A)
    (hpin : (f, PySem.W.kla_obj "<lambda>" (X.env.qual ++ "<lambda>") params body scope (cloFrom X.env.cells scope.names []) pm c' ctv) ∈ pins)
    (hcode : ∀ H, good H → H c' = some (CodeO c' (X.env.qual ++ "<lambda>"))) (S : NScope N [x] fr scope) (cp : X.Ok → Caps X (cloFrom X.env.cells scope.names []) fr js)
    (hbind : ∀ v : Value, bindArgs (PySem.W.kla_fn "<lambda>" (X.env.qual ++ "<lambda>") params body scope (cloFrom X.env.cells scope.names []) pm (.ref c') ctv) ⟨[v], []⟩ = pure [(x, v)])
    (hbody : ∀ (A : Around) (outer : List Env) (s : Shared) (H : Hp), good H → Room k (A.deeper (envF (lamF X params scope c') f s.heap.objs.size)) → ∃ t : TE, PE (ncx L2.CX0 X.prog X.w X.K X.mg X.base N (lamF X params scope c') f A outer s H L2.E0).nox body t ∧
      ∀ n ∈ is, t (startF N [.int n] (js.map (slotAt σ))) H (KeyAns X.K kf n H)) :
    KeyTurn X pins σ f kf is good := by
  intro n t more s H hn I g
  have hf := (I.pin _ (List.mem_append_right _ (List.mem_append_left _ hpin))).1
  have hcd := codeO_at I.hok (hcode H g)
  have C := cells_of I (cp I.ok)
  have hr1 : Room (k + 1) X.A.in1 := Room.in1 hr
  have rc : codeAny (model X.prog X.w) X.A.in1 (.call (.ref f) ⟨[.int n t], []⟩) (CR L2.CX0 X.stack X.prog X.w H s (KeyAns X.K kf n H) L2.E0) s := by
    refine PySem.W.kla_callFunE hr1.depth hf rfl S.co S.gen rfl hcd ?_
    rw [hbind]
    refine wpAny_pure (wpAny_newFunctionEnv S.nocell (fun y hy => ?_) (fun h₁ hns hsb => ⟨I.nolimit.fresh _ hsb, ?_⟩) S.kind)
    · have e : y.1 = x := by
        rw [List.mem_singleton.mp hy]
      rw [e]
      exact S.par x (List.mem_singleton.mpr rfl)
    show codeAny _ _ (.expr body (envF (lamF X params scope c') f s.heap.objs.size)) _ _
    have old : ∀ b u, s.heap.get? b = some u → h₁.get? b = some u := fun b u z => hsb.extBut b u (Nat.ne_of_lt (Heap.lt_size z)) (Heap.get?_push_of_some _ z)
    obtain ⟨te, hte, hq⟩ := hbody X.A.in1 X.stack s H g (hr1.deeper _)
    have J : Inv (ncx L2.CX0 X.prog X.w X.K X.mg X.base N (lamF X params scope c') f X.A.in1 X.stack s H L2.E0) [] (startF N [.int n] (js.map (slotAt σ))) H { s with heap := h₁, toks := s.toks + [(x, Value.int n t)].length } :=
      inv_startN (us := [.int n t]) S hr1.hd I.env0.in1 rfl (.cons ⟨t, rfl⟩ .nil) C hns old
    refine PySem.W.kla_codeExpr (wpAny_mono (hte.nox.run [] _ _ H _ J (hq n hn)) (fun v s' h => ?_) fun e s' h => h)
    obtain ⟨x1, H1, J1, x2, x3⟩ := h
    exact ⟨x1, H1, J1.os, J1.bare, J1.base, J1.hok, x2, x3⟩
  refine wpAny_call (codeAny_mono rc fun out s' x => ?_)
  match out, x with
  | .ok (.ret u), x =>
    obtain ⟨v, H', J', rv, a, e, sm, ht⟩ := I.after x
    subst e
    exact ⟨a, H', rv, J', sm, ht⟩
/-- the reading of min(d, key=lambda x: ..), d a locked dict with keys that are numbers -/
def tMinKey (T : List (Addr × Str)) (kf : Int → List Int) (te : TE) (body : Hp → L2.St → List Int → Prop) : TE := fun σ H Q => te σ H fun v H1 => ∃ (d : Addr) (od : Obj) (kvs : List (Key × V)) (is : List Int), v = .ref d ∧ H1 d = some (.frz od (.dK kvs)) ∧ kvs.map (·.1) = is.map Sum.inl ∧ is ≠ [] ∧ Tabs T H1 ∧
  (∀ H2, ExtN H1 H2 → body H2 σ is) ∧ ∀ (n : Int) (H2 : Hp), ExtN H1 H2 → Tabs T H2 → H2 d = some (.frz od (.dK kvs)) → Lst kf is n → Q (.int n) H2
theorem pe_minKey {T : List (Addr × Str)} {kf : Int → List Int} {te : TE} {tb : Hp → L2.St → List Int → Prop} {c P : Addr} {e : Expr} {p pos lpos kpos : Pos} {params : Arguments} {body : Expr} {scope : Scope} {x : Str} {N fr : List Str} {js : List Nat} {k : Nat} (KO : KeyOk kf) (hc : X.calm = true) (hr : Room (k + 2) X.A) (hg : Gl X "min") (hm : X.mg "min" = Option.none) (he : PE X e te)
    (TB : TabB X.base X.mg c P) (hcode : X.env.code = .ref c) (hmT : (P, X.env.qual ++ "<lambda>") ∈ T) (hu : ∀ p ∈ T, p.1 = P → p.2 = X.env.qual ++ "<lambda>") (hdef : defaultsOf params X.env = ([], []))
    (S : NScope N [x] fr scope) (hfree : ∀ y ∈ scope.names, y.2 = .free → X.env.scope.names.lookup y.1 = some .cell ∨ X.env.scope.names.lookup y.1 = some .free) (hfr : ∀ y ∈ fr, (y, NameKind.free) ∈ scope.names) (hjs : js.map (fun j => X.N[j]?) = fr.map some)
    (hbind : ∀ (q : Str) (cl : List (Str × Addr)) (pm cv ctv v : Value), bindArgs (PySem.W.kla_fn "<lambda>" q params body scope cl pm cv ctv) ⟨[v], []⟩ = pure [(x, v)])
    (tbs : ∀ H H' σ is, tb H σ is → L2.Same H H' → tb H' σ is)
    (hbody : ∀ (f c' : Addr) (A : Around) (outer : List Env) (s : Shared) (H : Hp) (σ : L2.St) (is : List Int), tb H σ is → Room k (A.deeper (envF (lamF X params scope c') f s.heap.objs.size)) → ∃ t : TE, PE (ncx L2.CX0 X.prog X.w X.K X.mg X.base N (lamF X params scope c') f A outer s H L2.E0).nox body t ∧
      ∀ n ∈ is, t (startF N [.int n] (js.map (slotAt σ))) H (KeyAns X.K kf n H))
    (hs1 : starEach [e] X.env = (false, eval e X.env) :: starEach [] X.env := by rfl) :
    PE X (.Call (.Name "min" p) [e] [⟨some "key", .Lambda params body scope lpos, kpos⟩] pos) (tMinKey T kf te tb) := by
  refine ⟨fun pins s σ H Q I read => ?_⟩
  refine wpAny_Call_Name_kw (ld_blt I hg hm (u := .builtin "min") (by decide +kernel) ?_)
  refine PyProof.Rows.callWith_kw (args_cons (thn (he.run pins s σ H _ I read) fun u s1 ⟨v, H1, I1, r1, q1⟩ => args_nil ?_) hs1) (by rw [hs1]; rfl) (by rw [hs1]; rfl) (by rfl) (by rfl)
  obtain ⟨d, od, kvs, is, ev, hd, hk, hne, hT, hb, q⟩ := q1
  subst ev
  obtain rfl : u = Value.ref d := r1
  show wpAny _ _ (evalAll [(do let v ← eval (.Lambda params body scope lpos) X.env; standAt pos; pure v)]) _ _ s1
  refine wpAny_evalAll_cons (wpAny_bind (lam_make2 I1 TB hcode hmT hu hT hdef (fun y hy e => (hfree y hy e).elim (fun z => I1.ok.has _ (.inl z)) fun z => I1.ok.has _ (.inr z)) fun f c' pm ctv H2 s2 I2 eN T2 hf hfn hfr2 hco => wpAny_bind (wpAny_standAt (wpAny_pure (wpAny_evalAll_nil ?_)))))
  show wpAny _ _ (call (.builtin "min") [.ref d] [(Str.ofString "key", .ref f)]) _ _ _
  have hd2 : H2 d = some (.frz od (.dK kvs)) := eN d _ hd (fun ps z => by cases z)
  obtain ⟨hod, hlen, hsys, vs, rel, dof⟩ := I2.hok d _ hd2
  obtain ⟨epoch, dat⟩ := dof.dictAt
  have nL : f ≠ X.env.locals := fun z => by
    obtain ⟨m, ⟨o, es, ep', ho, hdd, _⟩, _⟩ := I2.loc
    rw [z, ho] at hf
    cases hf
    cases hdd
  have nF : f ∉ X.fs := fun z => hfr2 (by
    rcases I2.ok.stk with e | ⟨e, _⟩
    · rw [e]
      exact z
    · rw [e]
      unfold frs
      rw [List.filterMap_cons]
      split
      · exact z
      · exact List.mem_cons_of_mem _ z)
  have I3 : Inv X (pins ++ [(f, PySem.W.kla_obj "<lambda>" (X.env.qual ++ "<lambda>") params body scope (cloFrom X.env.cells scope.names []) pm c' ctv)]) σ H2 s2 := I2.pins_of fun p hp => by
    rw [List.mem_append, List.mem_singleton] at hp
    rcases hp with m | rfl
    · exact I2.pin p (List.mem_append_right _ m)
    · exact ⟨hf, hfn, nL, nF, fun v z => by cases z⟩
  refine wpAny_mono (minK_call (good := fun H => L2.Same H2 H) (Q := fun u s' => ∃ (n : Int) (t : Tok) (H' : Hp), u = .int n t ∧ Inv X pins σ H' s' ∧ L2.Same H2 H' ∧ Lst kf is n) (E := X.xe) hc (hu_of hr) KO hsys ((KV.keys rel).symm.trans hk) hne
    (lam_turn (js := js) hr (List.mem_append_right _ (List.mem_singleton.mpr rfl)) (fun H g => g _ _ hco) S (fun ok => Caps.made ok hfree hfr hjs) (fun v => hbind _ _ _ _ _ v) fun A outer s H g hr2 => ?_)
    (fun H H' a b => a.trans b) (fun H s I g => dat.at' fun o e => ?_) I3 (L2.Same.refl H2) fun n t H' s' J sm l => ⟨n, t, H', rfl, J.unpinned, sm, l⟩) (fun u s' hu => ?_) fun _ _ e => e
  · exact hbody f c' A outer s H σ is (tbs _ _ _ _ (hb H2 eN) g) hr2
  · obtain ⟨ho2, _⟩ := I.hok d _ (g d _ hd2)
    rw [hod] at e
    cases e
    exact ho2
  · obtain ⟨n, t, H', rfl, J, sm, l⟩ := hu
    refine ⟨.int n, H', J, ⟨t, rfl⟩, q n H' (eN.trans (ExtN.of sm)) (T2.ext sm) (sm _ _ hd2) l⟩
end
end Br

set_option maxRecDepth 100000
set_option maxHeartbeats 3000000
namespace Br
open PySem PySem.Spec
open PyProof.Rows L2
open LamX
open PySem.W (WData Codec OpenSpec WellAll ReadsAllW Frag)
/-! ### the end of a row whose run may fill one def's table of code objects -/
/-- as the call begins: an empty table at t, and nothing else but what was handed in -/
structure AtCall (t : Addr) (H : Hp) : Prop where
  tab : H t = some (.tbl #[])
  only : ∀ b, b ≠ t → H b = Option.none ∨ ∃ o u, H b = some (.frz o u)
/-- what is said of an abstract heap is said of any that holds more -/
abbrev Within (G H : Hp) : Prop := ∀ b u, G b = some u → H b = some u
section
variable {K : Frag} {G H : Hp}
theorem rd_more {a : Addr} {x : HO} (m : Within G H) : Rd G a x → Rd H a x := Or.imp (m a _) fun ⟨o, e⟩ => ⟨o, m a _ e⟩
theorem lst_more {a : Addr} {xs : List V} (m : Within G H) : SqL K G a xs → SqL K H a xs := Or.imp_left (rd_more m)
theorem tup_more {a : Addr} {xs : List V} (m : Within G H) : SqT K G a xs → SqT K H a xs := Or.imp_left (rd_more m)
mutual
theorem dw_more (m : Within G H) {v : V} {d : WData} : Dw K G v d → Dw K H v d
  | .non => .non
  | .bl b => .bl b
  | .int i => .int i
  | .str x => .str x
  | .byt b => .byt b
  | .lst s r => .lst (lst_more m s) (dws_more m r)
  | .tup s r => .tup (tup_more m s) (dws_more m r)
theorem dws_more (m : Within G H) {vs : List V} {ds : List WData} : DwAll K G vs ds → DwAll K H vs ds
  | .nil => .nil
  | .cons a r => .cons (dw_more m a) (dws_more m r)
end
end
/-! ### the start -/
/-- the heap h as H tells it: the table at t, the objects handed in -/
structure Told (P : Program) (w : World) (K : Frag) (h : Heap) (t : Addr) (H : Hp) : Prop where
  start : AtCall t H
  table : h.get? t = some { cls := .none, data := .fields #[] }
  new : K.lookup t = Option.none
  known : ∀ b o, K.lookup b = some o → H b = Option.none
  seqs : ∀ b o u, b ≠ t → H b = some u → h.get? b = some o → ∃ vs n, o.data = .seq vs n
  holds : HOk P w H h
theorem told_of {P : Program} {w : World} {K : Frag} {h : Heap} {t : Addr} {vals : List Value} {ds : List WData} (kin : K.In h) (table : h.get? t = some { cls := .none, data := .fields #[] }) (new : K.lookup t = Option.none)
    (well : WellAll w.params h vals ds) (pl : plWs ds = true) (wt : ∀ d ∈ ds, d.weight ≤ 1048576) : ∃ H, Told P w K h t H ∧ DwAll K H (vals.map toV) ds ∧ Vals (vals.map toV) vals := by
  obtain ⟨A, oks, ar⟩ := area_all ds vals well pl wt
  let G := argH K h A
  have arg : ∀ {b u}, G b = some u → K.lookup b = Option.none ∧ ∃ (c : Value) (vs : List Value) (x : HO), h.get? b = some { cls := c, data := .seq vs.toArray } ∧ u = .frz { cls := c, data := .seq vs.toArray } x ∧ ∀ a, x ≠ .own a := fun {b u} e => by
    obtain ⟨k, vs, _, _, z⟩ := argH_is ar e
    exact ⟨k, z.elim (fun z => ⟨_, vs, _, z.1, z.2, fun _ y => nomatch y⟩) fun z => ⟨_, vs, _, z.1, z.2, fun _ y => nomatch y⟩⟩
  have gt : G t = Option.none := by
    cases e : G t with
    | none => rfl
    | some u =>
      obtain ⟨_, c, vs, x, z, _⟩ := arg e
      rw [table] at z
      cases z
  have more : Within G (upd G t (.tbl #[])) := fun b u e => by
    have nb : b ≠ t := fun z => by
      rw [z, gt] at e
      cases e
    rw [upd_ne nb]
    exact e
  refine ⟨upd G t (.tbl #[]), ⟨⟨upd_same .., fun b nb => ?_⟩, table, new, fun b o k => ?_, fun b o u nb e eo => ?_, fun b u e => ?_⟩, dws_more more (dw_all kin ar ds vals well pl oks), vals_toV oks⟩
  · rw [upd_ne nb]
    exact argH_only ar b
  · have nb : b ≠ t := fun z => by
      rw [z, new] at k
      cases k
    rw [upd_ne nb]
    cases e : G b with
    | none => rfl
    | some u =>
      rw [(arg e).1] at k
      cases k
  · rw [upd_ne nb] at e
    obtain ⟨_, c, vs, x, z, _⟩ := arg e
    rw [eo] at z
    cases z
    exact ⟨_, _, rfl⟩
  · by_cases nb : b = t
    · subst nb
      rw [upd_same] at e
      cases e
      exact table
    · rw [upd_ne nb] at e
      refine (argH_ok (P := P) (w := w) ar b u e).stay (fun _ _ _ z => z) (fun d z => ?_) fun d _ z => more d _ z
      obtain ⟨_, c, vs, x, _, y, _⟩ := arg z
      cases y
section
variable {P : Program} {w : World} {K : Frag} {h : Heap} {t : Addr} {H : Hp}
/-- an object that is no list and no tuple stands in the heap below -/
theorem Told.below (T : Told P w K h t H) {b : Addr} {o : Obj} (e : h.get? b = some o) (nb : b ≠ t) (nd : ∀ vs n, o.data ≠ .seq vs n) : (hidT h H).get? b = some o := by
  refine hidT_get e ?_
  cases z : H b with
  | none => rfl
  | some u =>
    obtain ⟨vs, n, y⟩ := T.seqs b o u nb z e
    exact absurd y (nd vs n)
/-- whatever has an entry of its own isn't the table -/
theorem Told.isnt (T : Told P w K h t H) {b : Addr} {o : Obj} (e : h.get? b = some o) (d : o.data ≠ .fields #[] ∨ o.cls ≠ .none) : b ≠ t := fun z => by
  rw [z, T.table] at e
  cases e
  exact d.elim (fun d => d rfl) fun d => d rfl
theorem Told.ns (T : Told P w K h t H) {b : Addr} {m : Str → Option Value} (x : h.Ns b m) : b ≠ t ∧ (hidT h H).Ns b m := by
  obtain ⟨o, es, ep, e, d, r⟩ := x
  have nb : b ≠ t := T.isnt e (.inl fun z => by rw [d] at z; cases z)
  exact ⟨nb, o, es, ep, T.below e nb (fun _ _ z => by rw [d] at z; cases z), d, r⟩
theorem Told.kin (T : Told P w K h t H) (kin : K.In h) : K.In (hidT h H) := fun b o k => hidT_get (kin b o k) (T.known b o k)
theorem Told.codes (T : Told P w K h t H) {mg : Str → Option Value} {c : Addr} (code : PySem.W.CodeHd h c t) (glob : h.Ns mainGlobals mg)
    (bm : ∃ (a : Addr) (o : Obj), mg "__builtins__" = some (.ref a) ∧ a ≠ builtinsNs ∧ h.get? a = some o ∧ o.cls = .type "module" ∧ o.dict = some builtinsNs ∧ o.data = .plain) : TabB (hidT h H) mg c t := by
  refine ⟨?_, ?_, (T.ns glob).1⟩
  · obtain ⟨o, us, file, tf, flags, tg, inF, text, tt, e, cl, d, r⟩ := code
    exact ⟨o, us, file, tf, flags, tg, inF, text, tt, T.below e (T.isnt e (.inr fun z => by rw [cl] at z; cases z)) (fun _ _ z => by rw [d] at z; cases z), cl, d, r⟩
  · obtain ⟨a, o, g, nb, e, cl, dd, d⟩ := bm
    have na : a ≠ t := T.isnt e (.inl fun z => by rw [d] at z; cases z)
    refine ⟨a, o, g, nb, fun z => ?_, na, T.below e na (fun _ _ z => by rw [d] at z; cases z), cl, dd, d⟩
    obtain ⟨o2, es, ep, e2, d2, _⟩ := glob
    rw [z, e2] at e
    cases e
    rw [d2] at d
    cases d
/-! ### the end -/
/-- behind the run the heap is as it was, but for the table, which may have grown -/
theorem Told.after (T : Told P w K h t H) {H2 : Hp} {h2 : Heap} {c : Addr} (code : PySem.W.CodeHd h c t) (u : Un [] [] H H2 h h2) (ok : HOk P w H2 h2) : OldK h h2 ∧ ∀ b o, b ≠ t → h.get? b = some o → h2.get? b = some o := by
  have rest : ∀ b o, b ≠ t → h.get? b = some o → h2.get? b = some o := fun b o nb e => by
    rcases T.start.only b nb with z | ⟨o2, x, z⟩
    · exact u.keep b o e z List.not_mem_nil List.not_mem_nil
    · have was := (T.holds b _ z).1
      rw [e] at was
      rw [Option.some.inj was]
      exact (ok b _ (u.frzs b o2 x z)).1
  obtain ⟨more, z⟩ := u.tbls t #[] T.start.tab
  rw [Array.empty_append] at z
  have now : h2.get? t = some { cls := .none, data := .fields more } := ok t _ z
  have tabs : PySem.isCodeTable h t := (code.tab (ps := #[]) T.table).isCodeTable
  constructor
  · constructor
    · intro b o e
      by_cases nb : b = t
      · subst nb
        obtain rfl : o = { cls := .none, data := .fields #[] } := Option.some.inj (e.symm.trans T.table)
        refine .inr (.inl ⟨tabs, rfl, #[], more, rfl, ?_⟩)
        rw [Array.empty_append]
        exact now
      · exact .inl (rest b o nb e)
    · intro b o e
      by_cases nb : b = t
      · exact ⟨_, nb ▸ now⟩
      · exact ⟨o, rest b o nb e⟩
  · exact rest
end
/-! ### the walk -/
/-- a def keeps its promise over every heap below in which the table at t is the code object's at c -/
abbrev Made (P : Program) (w : World) (K : Frag) (mg : Str → Option Value) (c t : Addr) (k : Nat) (fa : Addr) (ps : List Str) (sp : Sp) : Prop :=
  ∃ fd : FuncData, (∀ s us, us.length = ps.length → BindsTo s fd ⟨us, []⟩ (ps.zip us)) ∧ ∀ base : Heap, K.In base → base.Ns mainGlobals mg → TabB base mg c t → FnOk P w K mg base L2.CX0 k fa fd ps sp
/-- what the row's def promises is what the row asks; x is the def whose table at t may grow, c its code object -/
theorem walkT {r : OpenSpec} {k : Nat} {q : Program} {loose : List Str} {XP : (Str → Option Value) → Heap → Prop} {YP : World → Heap → Prop} {d : DefRec} {K : Params → Frag} {ps : List Str} {c t : Addr} {x : Str} {sp : Frag → Sp}
    (said : r.wellSaid = true) (many : r.args.length = ps.length) (room : Room k callerA) (here : ∀ (w : World) (h : Heap), YP w h → (K w.params).In h)
    (isDef : ((recsOf q).find? (fun e => e.name == x)).isSome = true) (place : ∀ w : World, PySem.W.tabIn (K w.params) x = some (c, t)) (new : ∀ w : World, (K w.params).lookup t = Option.none)
    (fn : ∀ (w : World) (mg : Str → Option Value) (fa : Addr) (h : Heap), YP w h → (K w.params).In h → h.Ns mainGlobals mg → mg d.name = some (.ref fa) → Made r.prog w (K w.params) mg c t k fa ps (sp (K w.params)))
    (due : ∀ (K : Frag) (H : Hp) (xs : List V) (a : Codec.denoteAll r.args), AtCall t H → Codec.withinAll r.args a = true → Codec.app r.args r.asked a = true → DwAll K H xs (Codec.encAll r.args a) →
      sp K xs H (fun v H' => Dw K H' v (r.ret.enc (Codec.app r.args r.f a))) fun _ _ _ => False) : PySem.W.WalkOS q loose XP YP r d [] fun f us => PySem.call f us := by
  intro w s₀ s mg mb G Y fa _ _ _ _ _ _ _ _ _ _ at' bare args vals as pre lay _ well _
  obtain ⟨a, dec, asked⟩ := PySem.W.os_pre_some pre
  obtain ⟨rfl, within⟩ := Codec.encAll_of_decAll r.args args a dec
  have top := G.T
  have kin := here w _ Y
  obtain ⟨code, table⟩ : PySem.W.CodeHd s.heap c t ∧ s.heap.get? t = some (PySem.W.tabObj #[]) := by
    cases e : (recsOf q).find? (fun e => e.name == x) with
    | none =>
      rw [e] at isDef
      cases isDef
    | some dx => exact PySem.W.tab_of top kin e (place w)
  obtain ⟨fd, binds, run⟩ := fn w mg fa _ Y kin top.g at'
  obtain ⟨H, T, dws, vs⟩ := told_of (P := r.prog) (w := w) kin table (new w) well (pl_encAll _ _) (layable_weight lay)
  have low := T.kin kin
  have glob := (T.ns top.g).2
  have mod : Mod (K w.params) mg (hidT s.heap H) := by
    refine ⟨low, glob, ⟨mb, (T.ns top.b).2, top.builtins⟩, ?_⟩
    obtain ⟨mc, n, z⟩ := top.nolimit
    exact ⟨mc, (T.ns n).2, z⟩
  have env : Env0 r.prog w (K w.params) mg (hidT s.heap H) callerA [] s H :=
    { frames := rfl, mod := mod, bs := fun _ _ => of_hidT, bsz := Nat.le_of_eq (hidT_size ..), funs := trivial, frf := fun _ m => absurd m List.not_mem_nil, hok := T.holds, bare := .of_eq bare }
  have count : vals.length = ps.length := by
    rw [wellAll_len well, encAll_len]
    exact many
  apply PySem.W.enter_call
  refine codeAny_mono ((run _ low glob (T.codes code top.g top.bmain)).run callerA [] s H ⟨vals, []⟩ vals _ _ _ room env (binds s vals count) vs (due _ H _ a T.start within asked dws)) ?_
  rintro (e | _ | _ | _ | u) s2 z
  · exact z.elim
  · exact z.elim
  · exact z.elim
  · exact z.elim
  · obtain ⟨v, H2, os, bare2, un, ok, rel, dw⟩ := z
    obtain ⟨old, rest⟩ := T.after code un ok
    have kin2 : (K w.params).In s2.heap := fun b o k => rest b o (fun z => by rw [z, new w] at k; cases k) (kin b o k)
    obtain ⟨as2, reads⟩ := Dw.reads (R := []) (cl := classAt s₀.heap) ok kin2 _ v u dw rel
    refine ⟨.inl ⟨u, _, as2, rfl, fun _ => rfl, reads, (OpenSpec.post_iff said within _ _).mpr rfl, fun z => ?_⟩, old, os, bare2⟩
    cases z
end Br

set_option maxRecDepth 100000
set_option maxHeartbeats 3000000
namespace Br
open PySem PySem.Spec
open PyProof.Rows
open L2
/-! ### list(reversed(xs)), xs a list: the iterator is used up, and the new list lies right behind it -/
/-- from s to t: a list at S holds ys from its end to its start, and only it and S have been written -/
structure Flipped (s t : Shared) (it S : Addr) (ys : Array Value) : Prop where
  only : t = { s with heap := t.heap, toks := t.toks }
  rest : ∀ b o, s.heap.get? b = some o → ¬ (b = it ∨ b = S) → t.heap.get? b = some o
  made : ∃ (out : Array Value) (c : Nat), ItemsOf (fun i v => ys[ys.size - 1 - i]? = some v) out ys.size ∧ t.heap.get? S = some { cls := .type "list", dict := none, data := .seq out c, slots := #[] }
section
variable {P : Program} {w : World} {A : Around} {E : Value → Shared → Prop} {s : Shared} {it l S : Addr} {ys : Array Value}
/-- the built-in loop that fills S, S empty so far -/
theorem flip_loop {R : Result → Shared → Prop} {res : Value} {c : Nat} (hh : A.handled = none) (hit : s.heap.IsRevIter it l ((ys.size : Int) - 1)) (hl : s.heap.IsList l ys)
    (apart : l ≠ it ∧ S ≠ it ∧ S ≠ l) (fits : ys.size ≤ sizeLine) (e : s.heap.get? S = some { cls := .type "list", data := .seq #[] c }) (h : ∀ t, Flipped s t it S ys → R (.ok (.ret res)) t) :
    codeAny (model P w) A (.builtin "list.extend.loop" ⟨[.ref S, .ref it, res], []⟩) R s := by
  have at0 : s.heap.IsRevIter it l ((ys.size : Int) - 1 - ((0 : Nat) : Int)) := by
    rw [Int.ofNat_zero, Int.sub_zero]
    exact hit
  have out : S ∉ [it, l] := fun m => (List.mem_cons.mp m).elim apart.2.1 fun m => apart.2.2 (List.mem_singleton.mp m)
  refine codeAny_extend_loopS (Walks.listRev (prog := P) (w := w) (A := A.in1) hh it l apart.1 ys).toS fits S out res ys.size 0 s #[] c rfl (Nat.zero_le _) ⟨Nat.zero_le _, at0, hl⟩ e (ItemsOf.nil _) ?_
  intro t acc c2 mv e2 its
  exact h t ⟨Moved.eq_with mv, fun b o eb nb => mv.heap b o (fun m => nb ((List.mem_cons.mp m).elim .inr fun m => .inl (List.mem_singleton.mp m))) eb, acc, c2, its, e2⟩
/-- its length is known ahead -/
theorem flip_hint {i : Int} {Q : Bool → Shared → Prop} (hit : s.heap.IsRevIter it l i) (h : Q false s) : wpAny (model P w) A (Builtin.List.listLengthHint (.ref it)) Q E s := by
  have ty : s.TypeIs (.ref it) "list_reverseiterator" := hit.typeIs
  have parts : splitId "list_reverseiterator.__length_hint__" = some ("list_reverseiterator", "__length_hint__") := by decide +kernel
  delta Builtin.List.listLengthHint
  apply wpAny_bind
  apply wpAny_specialOf ty RT.nolen_lri
  apply wpAny_bind (m := specialOf (Value.ref it) (Str.ofString "__length_hint__"))
  apply wpAny_specialOf ty RT.hint_lri
  obtain ⟨nm, is⟩ : ∃ nm : String, nm = "list_reverseiterator.__length_hint__" := ⟨_, rfl⟩
  rw [← is] at parts ⊢
  wp_delta
  rw [parts]
  subst is
  refine wpAny_bind (wpAny_isInstance (b := true) ty (by rw [isSubtype_type]; kernel_rfl) ?_)
  exact wpAny_pure h
/-- extending an empty list by it -/
theorem flip_extend {R : Result → Shared → Prop} {res : Value} {c : Nat} (hh : A.handled = none) (hit : s.heap.IsRevIter it l ((ys.size : Int) - 1)) (hl : s.heap.IsList l ys)
    (apart : l ≠ it ∧ S ≠ it ∧ S ≠ l) (fits : ys.size ≤ sizeLine) (e : s.heap.get? S = some { cls := .type "list", data := .seq #[] c }) (h : ∀ t, Flipped s t it S ys → R (.ok (.ret res)) t) :
    wpAny (model P w) A.in1 (Builtin.List.listExtendWith (.ref S) (.ref it) res) (fun r t => match r with | .done f => R (.ok f) t | .again more => more.quiet = true ∧ codeAny (model P w) A more R t) (fun x t => R (.error x) t) s := by
  have other : Builtin.List.listSameRef (.ref S) (.ref it) = false := by simp [Builtin.List.listSameRef, apart.2.1]
  delta Builtin.List.listExtendWith
  apply wpAny_bind
  apply wpAny_typeOf hit.typeIs
  rw [other, if_neg (show ¬ (_ = true) by decide)]
  apply wpAny_bind
  apply wpAny_pyIter_revIter hit
  apply wpAny_bind
  apply wpAny_holding
  apply flip_hint hit
  refine wpAny_ite_split (fun z => absurd z (by decide)) fun _ => ?_
  exact wpAny_pure ⟨plainId_quiet F.plain_extend_loop _, flip_loop hh hit hl apart fits e h⟩
/-- list(it) -/
theorem flip_call {Q : Value → Shared → Prop} (hh : A.handled = none) (hit : s.heap.IsRevIter it l ((ys.size : Int) - 1)) (hl : s.heap.IsList l ys) (ne : l ≠ it) (fits : ys.size ≤ sizeLine)
    (h : ∀ (t : Shared) (out : Array Value) (c : Nat), t = { s with heap := t.heap, toks := t.toks } → (∀ b o, b ≠ it → s.heap.get? b = some o → t.heap.get? b = some o) → ItemsOf (fun i v => ys[ys.size - 1 - i]? = some v) out ys.size →
      t.heap.get? s.heap.objs.size = some { cls := .type "list", dict := none, data := .seq out c, slots := #[] } → Q (.ref s.heap.objs.size) t) : wpAny (model P w) A (call (.type "list") [.ref it]) Q E s := by
  let S := s.heap.objs.size
  let empty : Obj := { cls := .type "list", data := .seq #[] }
  let s1 : Shared := { s with heap := s.heap.push empty }
  have low : ∀ {b o}, s.heap.get? b = some o → b ≠ S := fun e => Nat.ne_of_lt (Heap.lt_size e)
  have apart : l ≠ it ∧ S ≠ it ∧ S ≠ l := by
    refine ⟨ne, ?_, ?_⟩
    · obtain ⟨o, e, _⟩ := hit
      exact (low e).symm
    · obtain ⟨o, e, _⟩ := hl
      exact (low e).symm
  have new : s1.heap.get? S = some empty := Heap.get?_push_size _ rfl
  apply callType_codes (Q₁ := fun u t => u = .ref S ∧ t = s1) F.called_list (F.typeCall_list_1 _) F.entry_list_init (code_list_new _ ⟨rfl, rfl⟩)
  rintro _ _ ⟨rfl, rfl⟩
  refine ⟨⟨_, new, rfl⟩, F.args_list_init_2 _ _, ?_⟩
  show wpAny _ _ (Builtin.List.listItems (.ref S) >>= fun old => Builtin.List.listUpdate (.ref S) (fun _ => #[]) >>= fun _ => letGo old.toList.reverse >>= fun _ => Builtin.List.listExtendWith (.ref S) (.ref it) .none) _ _ s1
  apply wpAny_bind
  unfold Builtin.List.listItems
  refine wpAny_bind (wpAny_seqItems new rfl ?_)
  apply wpAny_pure
  show wpAny _ _ (updateSeq S (fun _ => #[]) >>= _) _ _ s1
  apply wpAny_bind
  apply wpAny_updateSeq new rfl
  apply wpAny_bind
  apply wpAny_letGo
  have kept : ∀ b o, s.heap.get? b = some o → (s1.heap.update S (Obj.mapSeq fun _ => #[])).get? b = some o := fun b o e => by
    rw [Heap.get?_update_other _ _ (low e).symm]
    exact Heap.get?_push_of_some empty e
  have cleared := Heap.get?_update_self (Obj.mapSeq fun _ => #[]) new rfl
  refine flip_extend (R := wants (fun u t => u = Value.none ∧ Q (.ref S) t) E) (s := { s with heap := s1.heap.update S (Obj.mapSeq fun _ => #[]) }) (A := A.in1) hh (hit.at fun o => kept it o) (hl.at fun o => kept l o) apart fits cleared fun t f => ⟨rfl, ?_⟩
  obtain ⟨out, c, its, made⟩ := f.made
  exact h t out c f.only (fun b o nb e => f.rest b o (kept b o e) fun z => z.elim nb (low e)) its made
end
section
variable {X : Cx}
/-- te's list, turned around and laid anew -/
def tLstRev (K : PySem.W.Frag) (te : TE) : TE := fun σ H Q => te σ H fun v H1 => ∃ (a : Addr) (xs : List V), v = .ref a ∧ SqL K H1 a xs ∧ ∀ q, H1 q = Option.none → Q (.ref q) (upd H1 q (.lst xs.reverse))
theorem pe_listRev {e : Expr} {te : TE} {p p2 pos pos2 : Pos} (calm : X.calm = true) (gl : Gl X "list") (ml : X.mg "list" = Option.none) (gr : Gl X "reversed") (mr : X.mg "reversed" = Option.none) (he : PE X e te)
    (st : starEach [e] X.env = (false, eval e X.env) :: starEach [] X.env := by rfl)
    (st2 : starEach [.Call (.Name "reversed" p2) [e] [] pos2] X.env = (false, eval (.Call (.Name "reversed" p2) [e] [] pos2) X.env) :: starEach [] X.env := by rfl) :
    PE X (.Call (.Name "list" p) [.Call (.Name "reversed" p2) [e] [] pos2] [] pos) (tLstRev X.K te) := by
  constructor
  intro pins s σ H Q I h
  refine Call_ (ld_blt I gl ml boot_list ?_)
  refine callWith_type1 (args_cons ?_ st2) st2 rfl
  refine Call_ (ld_blt I gr mr boot_reversed ?_)
  refine callWith_type1 (args_cons (thn (he.run pins s σ H _ I h) ?_) st) st rfl
  rintro u t ⟨v, H1, J, rel, a, xs, ev, sq, q⟩
  subst ev
  have eu : u = Value.ref a := rel
  subst eu
  obtain ⟨us, vals, pure', le⟩ := J.list sq
  have len : us.toArray.size = xs.length := by
    rw [List.size_toArray]
    exact vals.length.symm
  apply args_nil
  apply call_reversed_list pure'.isList
  apply args_nil
  have was : ∀ {b : Addr} {o : Obj}, t.heap.get? b = some o → (t.heap.push (revObj a ((us.toArray.size : Int) - 1))).get? b = some o := fun e => Heap.get?_push_of_some _ e
  have ha : a ≠ t.heap.objs.size := by
    obtain ⟨o, e, _⟩ := pure'.isList
    exact Nat.ne_of_lt (Heap.lt_size e)
  have big : t.heap.objs.size ≤ (t.heap.push (revObj a ((us.toArray.size : Int) - 1))).objs.size := by
    rw [size_push']
    exact Nat.le_succ _
  refine flip_call (s := { t with heap := t.heap.push (revObj a ((us.toArray.size : Int) - 1)) }) (J.ok.hd calm) ⟨_, Heap.get?_push_size _ rfl, rfl, rfl⟩ (pure'.isList.push _) ha (len ▸ le) ?_
  intro t2 out c only rest its made
  rw [only]
  have new : ObjOk X.prog X.w (upd H1 (t.heap.push (revObj a ((us.toArray.size : Int) - 1))).objs.size (.lst xs.reverse)) t2.heap (t.heap.push (revObj a ((us.toArray.size : Int) - 1))).objs.size (.lst xs.reverse) := by
    refine ⟨?_, out.toList, c, RT.vals_rev vals its, ?_⟩
    · rw [List.length_reverse]
      exact le
    · rw [Array.toArray_toList]
      exact made
  exact ⟨.ref _, _, J.laid (fun b o e => rest b o (Nat.ne_of_lt (Heap.lt_size e)) (was e)) big new, rfl, q _ (J.hok.fresh big)⟩
end
end Br

set_option maxRecDepth 100000
set_option maxHeartbeats 4200000
namespace Br
open PySem PySem.Spec LamX
open PyProof.Rows L2
open PySem.W (Codec)
open Sy47 (things has with_ without propsIn done size firm carries)
/-! ### the text by places -/
def top (i : Nat) : Stmt := PySem.Challenge.pw_bridgestages_s01_answers.main.body.getD i (.Pass ⟨0, 0, 0, 0⟩)
abbrev s_is_design : Stmt := top 6
abbrev s_holds : Stmt := top 7
abbrev s_how_many : Stmt := top 8
abbrev s_Design_init : Stmt := inClass (top 9) 0
abbrev s_Design_with_at_once : Stmt := inClass (top 9) 1
abbrev s_Design_end : Stmt := inClass (top 9) 2
abbrev s_Design_is_piece : Stmt := inClass (top 9) 3
abbrev s_Design_is_set : Stmt := inClass (top 9) 4
abbrev s_Design_has_all_bases : Stmt := inClass (top 9) 5
abbrev s_Design_add_base : Stmt := inClass (top 9) 6
abbrev s_Design_piece_rests : Stmt := inClass (top 9) 7
abbrev s_Design_without_loose : Stmt := inClass (top 9) 8
abbrev s_Design_does_carry : Stmt := inClass (top 9) 9
abbrev s_Design_what_stays : Stmt := inClass (top 9) 10
abbrev s_Design_spare_pieces : Stmt := inClass (top 9) 11
abbrev s_Design_is_move : Stmt := inClass (top 9) 12
abbrev s_Design_prop_bit : Stmt := inClass (top 9) 13
abbrev s_Design_moves : Stmt := inClass (top 9) 14
abbrev s_Design_pieces_there : Stmt := inClass (top 9) 15
abbrev s_Design_props_there : Stmt := inClass (top 9) 16
abbrev s_Design_with_thing : Stmt := inClass (top 9) 17
abbrev s_Design_with_prop : Stmt := inClass (top 9) 18
abbrev s_Design_without_prop : Stmt := inClass (top 9) 19
abbrev s_Design_moved : Stmt := inClass (top 9) 20
abbrev s_Design_stage_behind : Stmt := inClass (top 9) 21
abbrev s_ways_from : Stmt := top 11
abbrev s_plan_from : Stmt := top 12
abbrev s_furthest : Stmt := top 13
abbrev s_props_needed : Stmt := top 14
abbrev s_with_lengths : Stmt := top 28
abbrev s_Bridge_init : Stmt := inClass (top 29) 0
abbrev s_Bridge_begins : Stmt := inClass (top 29) 1
abbrev s_Bridge_rests : Stmt := inClass (top 29) 2
abbrev s_Bridge_carries : Stmt := inClass (top 29) 3
abbrev s_Bridge_falls : Stmt := inClass (top 29) 4
abbrev s_Bridge_does : Stmt := inClass (top 29) 5
abbrev s_Bridge_undo : Stmt := inClass (top 29) 6
abbrev s_Bridge_fewest : Stmt := inClass (top 29) 7
abbrev s_Bridge_plan : Stmt := inClass (top 29) 8
abbrev s_Bridge_far : Stmt := inClass (top 29) 9
abbrev s_Bridge_needed : Stmt := inClass (top 29) 10
abbrev s_Bridge_spare : Stmt := inClass (top 29) 11
abbrev s_Bridge_state : Stmt := inClass (top 29) 12
abbrev s_number_answered : Stmt := top 30
abbrev s_answer : Stmt := top 31
abbrev s_answers : Stmt := top 32
theorem sc_is_design : FnScope ["pieces", "props", "at_once"] ["pieces", "props", "at_once"] (defScope s_is_design) := ⟨rfl, rfl, rfl, by decide +kernel, rfl, by decide +kernel, by decide +kernel⟩
theorem sc_holds : FnScope ["stage", "part"] ["stage", "part"] (defScope s_holds) := ⟨rfl, rfl, rfl, by decide +kernel, rfl, by decide +kernel, by decide +kernel⟩
theorem sc_how_many : FnScope ["stage", "found", "left"] ["stage"] (defScope s_how_many) := ⟨rfl, rfl, rfl, by decide +kernel, rfl, by decide +kernel, by decide +kernel⟩
theorem sc_Design_init : FnScope ["self", "pieces", "props", "at_once", "piece"] ["self", "pieces", "props", "at_once"] (defScope s_Design_init) := ⟨rfl, rfl, rfl, by decide +kernel, rfl, by decide +kernel, by decide +kernel⟩
theorem sc_Design_with_at_once : FnScope ["self", "at_once", "other", "bases"] ["self", "at_once"] (defScope s_Design_with_at_once) := ⟨rfl, rfl, rfl, by decide +kernel, rfl, by decide +kernel, by decide +kernel⟩
theorem sc_Design_end : FnScope ["self"] ["self"] (defScope s_Design_end) := ⟨rfl, rfl, rfl, by decide +kernel, rfl, by decide +kernel, by decide +kernel⟩
theorem sc_Design_is_piece : FnScope ["self", "number"] ["self", "number"] (defScope s_Design_is_piece) := ⟨rfl, rfl, rfl, by decide +kernel, rfl, by decide +kernel, by decide +kernel⟩
theorem sc_Design_is_set : FnScope ["self", "number"] ["self", "number"] (defScope s_Design_is_set) := ⟨rfl, rfl, rfl, by decide +kernel, rfl, by decide +kernel, by decide +kernel⟩
theorem sc_Design_has_all_bases : FnScope ["self", "piece"] ["self", "piece"] (defScope s_Design_has_all_bases) := ⟨rfl, rfl, rfl, by decide +kernel, rfl, by decide +kernel, by decide +kernel⟩
theorem sc_Design_add_base : FnScope ["self", "piece", "base"] ["self", "piece", "base"] (defScope s_Design_add_base) := ⟨rfl, rfl, rfl, by decide +kernel, rfl, by decide +kernel, by decide +kernel⟩
theorem sc_Design_piece_rests : FnScope ["self", "piece", "stage", "base"] ["self", "piece", "stage"] (defScope s_Design_piece_rests) := ⟨rfl, rfl, rfl, by decide +kernel, rfl, by decide +kernel, by decide +kernel⟩
theorem sc_Design_without_loose : FnScope ["self", "stage", "left", "piece", "bit"] ["self", "stage"] (defScope s_Design_without_loose) := ⟨rfl, rfl, rfl, by decide +kernel, rfl, by decide +kernel, by decide +kernel⟩
theorem sc_Design_does_carry : FnScope ["self", "stage"] ["self", "stage"] (defScope s_Design_does_carry) := ⟨rfl, rfl, rfl, by decide +kernel, rfl, by decide +kernel, by decide +kernel⟩
theorem sc_Design_what_stays : FnScope ["self", "stage", "left"] ["self", "stage"] (defScope s_Design_what_stays) := ⟨rfl, rfl, rfl, by decide +kernel, rfl, by decide +kernel, by decide +kernel⟩
theorem sc_Design_spare_pieces : FnScope ["self", "end", "piece"] ["self"] (defScope s_Design_spare_pieces) := ⟨rfl, rfl, rfl, by decide +kernel, rfl, by decide +kernel, by decide +kernel⟩
theorem sc_Design_is_move : FnScope ["self", "number"] ["self", "number"] (defScope s_Design_is_move) := ⟨rfl, rfl, rfl, by decide +kernel, rfl, by decide +kernel, by decide +kernel⟩
theorem sc_Design_prop_bit : FnScope ["self", "prop"] ["self", "prop"] (defScope s_Design_prop_bit) := ⟨rfl, rfl, rfl, by decide +kernel, rfl, by decide +kernel, by decide +kernel⟩
theorem sc_Design_moves : FnScope ["self", "lays", "puts", "takes", "prop"] ["self"] (defScope s_Design_moves) := ⟨rfl, rfl, rfl, by decide +kernel, rfl, by decide +kernel, by decide +kernel⟩
theorem sc_Design_pieces_there : FnScope ["self", "stage"] ["self", "stage"] (defScope s_Design_pieces_there) := ⟨rfl, rfl, rfl, by decide +kernel, rfl, by decide +kernel, by decide +kernel⟩
theorem sc_Design_props_there : FnScope ["self", "stage"] ["self", "stage"] (defScope s_Design_props_there) := ⟨rfl, rfl, rfl, by decide +kernel, rfl, by decide +kernel, by decide +kernel⟩
theorem sc_Design_with_thing : FnScope ["self", "stage", "bit"] ["self", "stage", "bit"] (defScope s_Design_with_thing) := ⟨rfl, rfl, rfl, by decide +kernel, rfl, by decide +kernel, by decide +kernel⟩
theorem sc_Design_with_prop : FnScope ["self", "stage", "prop"] ["self", "stage", "prop"] (defScope s_Design_with_prop) := ⟨rfl, rfl, rfl, by decide +kernel, rfl, by decide +kernel, by decide +kernel⟩
theorem sc_Design_without_prop : FnScope ["self", "stage", "prop", "bit"] ["self", "stage", "prop"] (defScope s_Design_without_prop) := ⟨rfl, rfl, rfl, by decide +kernel, rfl, by decide +kernel, by decide +kernel⟩
theorem sc_Design_moved : FnScope ["self", "stage", "move"] ["self", "stage", "move"] (defScope s_Design_moved) := ⟨rfl, rfl, rfl, by decide +kernel, rfl, by decide +kernel, by decide +kernel⟩
theorem sc_Design_stage_behind : FnScope ["self", "stage", "move", "behind"] ["self", "stage", "move"] (defScope s_Design_stage_behind) := ⟨rfl, rfl, rfl, by decide +kernel, rfl, by decide +kernel, by decide +kernel⟩
theorem sc_ways_from : FnScope ["design", "start", "moves", "ways", "found", "place", "stage", "move", "behind"] ["design", "start"] (defScope s_ways_from) := ⟨rfl, rfl, rfl, by decide +kernel, rfl, by decide +kernel, by decide +kernel⟩
theorem sc_plan_from : FnScope ["design", "start", "ways", "end", "moves", "way"] ["design", "start"] (defScope s_plan_from) := ⟨rfl, rfl, rfl, by decide +kernel, rfl, by decide +kernel, by decide +kernel⟩
theorem sc_furthest : FnScope ["design", "stages"] ["design", "stages"] (defScope s_furthest) := ⟨rfl, rfl, rfl, by decide +kernel, rfl, by decide +kernel, by decide +kernel⟩
theorem sc_props_needed : FnScope ["design", "at_once"] ["design"] (defScope s_props_needed) := ⟨rfl, rfl, rfl, by decide +kernel, rfl, by decide +kernel, by decide +kernel⟩
theorem sc_with_lengths : FnScope ["rows", "told", "row"] ["rows"] (defScope s_with_lengths) := ⟨rfl, rfl, rfl, by decide +kernel, rfl, by decide +kernel, by decide +kernel⟩
theorem sc_Bridge_init : FnScope ["self"] ["self"] (defScope s_Bridge_init) := ⟨rfl, rfl, rfl, by decide +kernel, rfl, by decide +kernel, by decide +kernel⟩
theorem sc_Bridge_begins : FnScope ["self", "pieces", "props", "at_once"] ["self", "pieces", "props", "at_once"] (defScope s_Bridge_begins) := ⟨rfl, rfl, rfl, by decide +kernel, rfl, by decide +kernel, by decide +kernel⟩
theorem sc_Bridge_rests : FnScope ["self", "piece", "base"] ["self", "piece", "base"] (defScope s_Bridge_rests) := ⟨rfl, rfl, rfl, by decide +kernel, rfl, by decide +kernel, by decide +kernel⟩
theorem sc_Bridge_carries : FnScope ["self", "stage"] ["self", "stage"] (defScope s_Bridge_carries) := ⟨rfl, rfl, rfl, by decide +kernel, rfl, by decide +kernel, by decide +kernel⟩
theorem sc_Bridge_falls : FnScope ["self", "stage"] ["self", "stage"] (defScope s_Bridge_falls) := ⟨rfl, rfl, rfl, by decide +kernel, rfl, by decide +kernel, by decide +kernel⟩
theorem sc_Bridge_does : FnScope ["self", "move", "behind"] ["self", "move"] (defScope s_Bridge_does) := ⟨rfl, rfl, rfl, by decide +kernel, rfl, by decide +kernel, by decide +kernel⟩
theorem sc_Bridge_undo : FnScope ["self"] ["self"] (defScope s_Bridge_undo) := ⟨rfl, rfl, rfl, by decide +kernel, rfl, by decide +kernel, by decide +kernel⟩
theorem sc_Bridge_fewest : FnScope ["self", "moves"] ["self"] (defScope s_Bridge_fewest) := ⟨rfl, rfl, rfl, by decide +kernel, rfl, by decide +kernel, by decide +kernel⟩
theorem sc_Bridge_plan : FnScope ["self", "moves"] ["self"] (defScope s_Bridge_plan) := ⟨rfl, rfl, rfl, by decide +kernel, rfl, by decide +kernel, by decide +kernel⟩
theorem sc_Bridge_far : FnScope ["self", "ways", "stage"] ["self"] (defScope s_Bridge_far) := ⟨rfl, rfl, rfl, by decide +kernel, rfl, by decide +kernel, by decide +kernel⟩
theorem sc_Bridge_needed : FnScope ["self", "at_once"] ["self"] (defScope s_Bridge_needed) := ⟨rfl, rfl, rfl, by decide +kernel, rfl, by decide +kernel, by decide +kernel⟩
theorem sc_Bridge_spare : FnScope ["self", "pieces"] ["self"] (defScope s_Bridge_spare) := ⟨rfl, rfl, rfl, by decide +kernel, rfl, by decide +kernel, by decide +kernel⟩
theorem sc_Bridge_state : FnScope ["self", "design", "counts"] ["self"] (defScope s_Bridge_state) := ⟨rfl, rfl, rfl, by decide +kernel, rfl, by decide +kernel, by decide +kernel⟩
theorem sc_number_answered : FnScope ["bridge", "call", "numbers"] ["bridge", "call", "numbers"] (defScope s_number_answered) := ⟨rfl, rfl, rfl, by decide +kernel, rfl, by decide +kernel, by decide +kernel⟩
theorem sc_answer : FnScope ["bridge", "call", "numbers"] ["bridge", "call", "numbers"] (defScope s_answer) := ⟨rfl, rfl, rfl, by decide +kernel, rfl, by decide +kernel, by decide +kernel⟩
theorem sc_answers : FnScope ["calls", "bridge", "told", "place", "call", "start"] ["calls"] (defScope s_answers) := ⟨rfl, rfl, rfl, by decide +kernel, rfl, by decide +kernel, by decide +kernel⟩
/-! ### a def and a method at hand -/
structure FnD (P : Program) (w : World) (K : PySem.W.Frag) (mg : Str → Option Value) (base : Heap) (name : Str) (k : Nat) (ps : List Str) (sp : Sp) where
  f : Addr
  fd : FuncData
  ok : FnOk P w K mg base CX0 k f fd ps sp
  mg_ : mg name = some (.ref f)
  kp : PySem.W.keepIn K (.ref f) = true
  b : Binds K fd ps []
structure MeD (P : Program) (w : World) (K : PySem.W.Frag) (mg : Str → Option Value) (base : Heap) (C : Addr) (name : Str) (k : Nat) (ps : List Str) (sp : Sp) where
  f : Addr
  fd : FuncData
  ok : FnOk P w K mg base CX0 k f fd ps sp
  m : Meth K C name f
  b : Binds K fd ps []
structure MkD (P : Program) (w : World) (K : PySem.W.Frag) (mg : Str → Option Value) (base : Heap) (C : Addr) (k : Nat) (ps : List Str) (sp : Sp) where
  f : Addr
  fd : FuncData
  ok : FnOk P w K mg base CX0 k f fd ps sp
  mk_ : Mk K C f
  b : Binds K fd ps []
/-- what the top has written -/
structure Txt (K : PySem.W.Frag) (mg : Str → Option Value) (CD CB : Addr) : Prop where
  cl_Design : Cls K CD
  c_Design : mg "Design" = some (.ref CD)
  cl_Bridge : Cls K CB
  c_Bridge : mg "Bridge" = some (.ref CB)
  n_pieces : NoAttr K CD "pieces"
  n_props : NoAttr K CD "props"
  n_at_once : NoAttr K CD "at_once"
  n_bases : NoAttr K CD "bases"
  n_design : NoAttr K CB "design"
  n_stage : NoAttr K CB "stage"
  range : mg "range" = none
  list : mg "list" = none
  len : mg "len" = none
  reversed : mg "reversed" = none
  min : mg "min" = none
  g_MOST_PIECES : ∃ t, mg "MOST_PIECES" = some (.int 6 t)
  g_MOST_PROPS : ∃ t, mg "MOST_PROPS" = some (.int 2 t)
  g_MOST_BASES : ∃ t, mg "MOST_BASES" = some (.int 4 t)
  g_FIRST_PUT : ∃ t, mg "FIRST_PUT" = some (.int 10 t)
  g_FIRST_TAKE : ∃ t, mg "FIRST_TAKE" = some (.int 20 t)
  g_BEGINS : ∃ t, mg "BEGINS" = some (.int 0 t)
  g_RESTS : ∃ t, mg "RESTS" = some (.int 1 t)
  g_CARRIES : ∃ t, mg "CARRIES" = some (.int 2 t)
  g_FALLS : ∃ t, mg "FALLS" = some (.int 3 t)
  g_DOES : ∃ t, mg "DOES" = some (.int 4 t)
  g_UNDO : ∃ t, mg "UNDO" = some (.int 5 t)
  g_FEWEST : ∃ t, mg "FEWEST" = some (.int 6 t)
  g_PLAN : ∃ t, mg "PLAN" = some (.int 7 t)
  g_FAR : ∃ t, mg "FAR" = some (.int 8 t)
  g_SPARE : ∃ t, mg "SPARE" = some (.int 10 t)
  g_STATE : ∃ t, mg "STATE" = some (.int 11 t)
  g_HANDED : ∃ h, mg "HANDED" = some (.ref h) ∧ ∀ H : Hp, SqT K H h [.int 3, .int 2, .int 1, .int 1, .int 1, .int 0, .int 0, .int 0, .int 0, .int 0, .int 0, .int 0]
/-- a number as a value -/
abbrev nV (n : Nat) : V := .int (n : Int)
/-! ### holds -/
theorem bitAnd_nat (a b : Nat) : Builtin.bitAnd (a : Int) (b : Int) = ((a &&& b : Nat) : Int) := by
  rw [bitAnd_pp (by omega) (by omega), Int.toNat_natCast, Int.toNat_natCast]
  all_goals rfl
theorem nV_eq (a b : Nat) : decide (nV a = nV b) = decide (a = b) := by
  refine decide_eq_decide.2 ⟨fun h => ?_, fun h => by rw [h]⟩
  have : (a : Int) = (b : Int) := V.int.inj h
  omega
theorem lt_cast (a b : Nat) : decide ((a : Int) < (b : Int)) = decide (a < b) := decide_eq_decide.2 (by omega)
theorem le_cast (a b : Nat) : decide ((a : Int) ≤ (b : Int)) = decide (a ≤ b) := decide_eq_decide.2 (by omega)
theorem shl_one (a : Nat) : (1 : Int) * 2 ^ ((a : Int)).toNat = ((2 ^ a : Nat) : Int) := by
  rw [Int.toNat_natCast, Int.one_mul]
  exact (Int.natCast_pow 2 a).symm
/-! ### the layer's operators, over numbers from 0 on -/
def rN (C : Nat → Nat → Prop) (g : Nat → Nat → V) : R2 := fun x y H Q => ∃ i j : Nat, x = nV i ∧ y = nV j ∧ C i j ∧ Q (g i j) H
def rN0 (g : Nat → Nat → V) : R2 := fun x y H Q => ∃ i j : Nat, x = nV i ∧ y = nV j ∧ Q (g i j) H
theorem weaker {X : Cx} {f : Value → Value → Sem Value} {r q : R2} (h : OpR X f r) (i : ∀ x y H Q, q x y H Q → r x y H Q) : OpR X f q :=
  fun pins s σ H x y v u Q I rx ry hq => h pins s σ H x y v u Q I rx ry (i x y H Q hq)
theorem at_eq {Q : VK} {H : Hp} {a b : V} (e : b = a) (h : Q a H) : Q b H := by
  rw [e]
  exact h
section
variable {X : Cx}
theorem nAdd : OpR X (binaryOp .Add) (rN0 fun i j => nV (i + j)) := weaker op_add fun x y H Q ⟨i, j, hx, hy, q⟩ => ⟨i, j, hx, hy, at_eq (congrArg V.int (by omega)) q⟩
theorem nSub : OpR X (binaryOp .Sub) (rN (fun i j => j ≤ i) fun i j => nV (i - j)) := weaker op_sub fun x y H Q ⟨i, j, hx, hy, c, q⟩ => ⟨i, j, hx, hy, at_eq (congrArg V.int (by omega)) q⟩
theorem nShl1 : OpR X (binaryOp .LShift) (fun x y H Q => x = .int 1 ∧ ∃ j : Nat, y = nV j ∧ j ≤ 1000000 ∧ Q (nV (2 ^ j)) H) := weaker op_shl fun x y H Q ⟨hx, j, hy, c, q⟩ => ⟨1, j, hx, hy, ⟨by omega, by omega, by decide⟩, at_eq (congrArg V.int (shl_one j)) q⟩
theorem nShr : OpR X (binaryOp .RShift) (rN0 fun i j => nV (i / 2 ^ j)) := weaker op_shr fun x y H Q ⟨i, j, hx, hy, q⟩ => ⟨i, j, hx, hy, by omega, at_eq (congrArg V.int (by rw [Int.toNat_natCast]; exact (Int.natCast_ediv i (2 ^ j)).symm ▸ (by rw [Int.natCast_pow]; rfl))) q⟩
theorem nAnd : OpR X (binaryOp .BitAnd) (rN0 fun i j => nV (i &&& j)) := weaker op_and fun x y H Q ⟨i, j, hx, hy, q⟩ => ⟨i, j, hx, hy, at_eq (congrArg V.int (bitAnd_nat i j)) q⟩
theorem nLt : OpR X (compareOp .Lt) (rN0 fun i j => .bl (decide (i < j))) := weaker op_lt fun x y H Q ⟨i, j, hx, hy, q⟩ => ⟨i, j, hx, hy, at_eq (congrArg V.bl (decide_eq_decide.2 (by omega))) q⟩
theorem nLe : OpR X (compareOp .LtE) (rN0 fun i j => .bl (decide (i ≤ j))) := weaker op_le fun x y H Q ⟨i, j, hx, hy, q⟩ => ⟨i, j, hx, hy, at_eq (congrArg V.bl (decide_eq_decide.2 (by omega))) q⟩
theorem nGt : OpR X (compareOp .Gt) (rN0 fun i j => .bl (decide (j < i))) := weaker op_gt fun x y H Q ⟨i, j, hx, hy, q⟩ => ⟨i, j, hx, hy, at_eq (congrArg V.bl (decide_eq_decide.2 (by omega))) q⟩
theorem nGe : OpR X (compareOp .GtE) (rN0 fun i j => .bl (decide (j ≤ i))) := weaker op_ge fun x y H Q ⟨i, j, hx, hy, q⟩ => ⟨i, j, hx, hy, at_eq (congrArg V.bl (decide_eq_decide.2 (by omega))) q⟩
theorem nEq : OpR X (compareOp .Eq) (rN0 fun i j => .bl (decide (i = j))) := weaker op_eq fun x y H Q ⟨i, j, hx, hy, q⟩ => by
  subst hx hy
  exact ⟨rfl, at_eq (congrArg V.bl (nV_eq i j)) q⟩
theorem nNe : OpR X (compareOp .NotEq) (rN0 fun i j => .bl (!decide (i = j))) := weaker op_ne fun x y H Q ⟨i, j, hx, hy, q⟩ => by
  subst hx hy
  exact ⟨rfl, at_eq (congrArg (fun b => V.bl (!b)) (nV_eq i j)) q⟩
end
theorem for_rangeN {n : Nat} {g : TG} {tb : TS} {D : Ends} {σ : L2.St} {H : Hp} (Pv : Nat → L2.St → Hp → Prop) (h0 : Pv 0 σ H)
    (hs : ∀ i σ H, i < n → Pv i σ H → g (nV i) σ H fun σ2 H2 => tb { D with nx := Pv (i + 1), ct := Pv (i + 1), bk := D.nx } σ2 H2) (hd : ∀ σ H, Pv n σ H → D.nx σ H) :
    ∃ W : Nat → Nat → L2.St → Hp → Prop, (∃ m, W 0 m σ H) ∧ ∀ i m σ H, W i m σ H →
      ((Itr 0 n).stop i H ∧ D.nx σ H) ∨ ((Itr 0 n).go i H ∧ ∃ N : L2.St → Hp → Prop, (∀ σ' H', N σ' H' → ∃ m', m' < m ∧ W (i + 1) m' σ' H') ∧ ∀ x H', (Itr 0 n).yld i H x H' → g x σ H' fun σ2 H2 => tb { D with nx := N, ct := N, bk := D.nx } σ2 H2) :=
  for_range Pv h0 (fun i σ H hi p => by
    have e : V.int (0 + (i : Int)) = nV i := congrArg V.int (by omega)
    rw [e]
    exact hs i σ H hi p) hd
/-! ### the state -/
def dF (s : Sy47.St) (bl : Addr) : List (Str × V) := [("pieces", nV s.pieces), ("props", nV s.props), ("at_once", nV s.atOnce), ("bases", .ref bl)]
theorem at_first {x : Str} {u : V} {l : List (Str × V)} : ((x, u) :: l).lookup x = some u := by simp [List.lookup_cons]
theorem at_later {x y : Str} {u : V} {l : List (Str × V)} (ne : (x == y) = false) : ((y, u) :: l).lookup x = l.lookup x := by simp [List.lookup_cons, ne]
theorem dF_pieces (s : Sy47.St) (bl : Addr) : (dF s bl).lookup ("pieces" : Str) = some (nV s.pieces) := at_first
theorem dF_props (s : Sy47.St) (bl : Addr) : (dF s bl).lookup ("props" : Str) = some (nV s.props) := (at_later (by decide +kernel)).trans at_first
theorem dF_at_once (s : Sy47.St) (bl : Addr) : (dF s bl).lookup ("at_once" : Str) = some (nV s.atOnce) := (at_later (by decide +kernel)).trans ((at_later (by decide +kernel)).trans at_first)
theorem dF_bases (s : Sy47.St) (bl : Addr) : (dF s bl).lookup ("bases" : Str) = some (.ref bl) := (at_later (by decide +kernel)).trans ((at_later (by decide +kernel)).trans ((at_later (by decide +kernel)).trans at_first))
theorem dF_no {m : Str} (s : Sy47.St) (bl : Addr) (h1 : (m == ("pieces" : Str)) = false) (h2 : (m == ("props" : Str)) = false) (h3 : (m == ("at_once" : Str)) = false) (h4 : (m == ("bases" : Str)) = false) : (dF s bl).lookup m = none :=
  (at_later h1).trans ((at_later h2).trans ((at_later h3).trans ((at_later h4).trans rfl)))
/-- a design stands at d: the list of its bases at bl, each piece's at as -/
structure DesAt (C : Addr) (H : Hp) (d bl : Addr) (as : List Addr) (s : Sy47.St) : Prop where
  obj : ∃ dx, H d = some (.ins C dx (dF s bl))
  lst : H bl = some (.lst (as.map V.ref))
  nd : (bl :: as).Nodup
  len : as.length = s.rests.length
  at_ : ∀ (j : Nat) (c : Addr), as[j]? = some c → ∃ l, s.rests[j]? = some l ∧ H c = some (.lst (l.map nV))
theorem DesAt.item {C : Addr} {H : Hp} {d bl : Addr} {as : List Addr} {s : Sy47.St} (D : DesAt C H d bl as s) (g : Good s) {i : Nat} (hi : i < s.pieces) :
    ∃ c l, as[i]? = some c ∧ (as.map V.ref)[i]? = some (.ref c) ∧ s.rests[i]? = some l ∧ s.rests.getD i [] = l ∧ H c = some (.lst (l.map nV)) ∧ l ∈ s.rests := by
  have h : i < as.length := by rw [D.len, g.len]; exact hi
  obtain ⟨l, h1, h2⟩ := D.at_ i _ (List.getElem?_eq_getElem h)
  refine ⟨_, l, List.getElem?_eq_getElem h, ?_, h1, ?_, h2, List.mem_of_getElem? h1⟩
  · rw [List.getElem?_map, List.getElem?_eq_getElem h]
    rfl
  · rw [List.getD_eq_getElem?_getD, h1]
    rfl
def oV : Option Nat → V
  | none => .non
  | some n => nV n
/-! ### the promises -/
def spIsDesign : Sp := fun vs H Q _ => ∃ (a b c : Nat), vs = [nV a, nV b, nV c] ∧ Q (.bl (!decide (a < 1 ∨ 6 < a ∨ 2 < b ∨ b < c))) H
def spHolds : Sp := fun vs H Q _ => ∃ (a b : Nat), vs = [nV a, nV b] ∧ Q (.bl (decide (a &&& b = b))) H
/-- a method that only looks, of one number, of two -/
def spM1 (C : Addr) (pre : Sy47.St → Nat → Prop) (g : Sy47.St → Nat → V) : Sp := fun vs H Q _ => ∃ (d bl : Addr) (as : List Addr) (s : Sy47.St) (x : Nat), vs = [.ref d, nV x] ∧ DesAt C H d bl as s ∧ Good s ∧ pre s x ∧ Q (g s x) H
def spM2 (C : Addr) (pre : Sy47.St → Nat → Nat → Prop) (g : Sy47.St → Nat → Nat → V) : Sp := fun vs H Q _ => ∃ (d bl : Addr) (as : List Addr) (s : Sy47.St) (x y : Nat), vs = [.ref d, nV x, nV y] ∧ DesAt C H d bl as s ∧ Good s ∧ pre s x y ∧ Q (g s x y) H
def spM2v (C : Addr) (pre : Sy47.St → Nat → Nat → Prop) (g : Sy47.St → Nat → Nat → Option Nat) : Sp := fun vs H Q _ => ∃ (d bl : Addr) (as : List Addr) (s : Sy47.St) (x y : Nat), vs = [.ref d, nV x, nV y] ∧ DesAt C H d bl as s ∧ Good s ∧ pre s x y ∧ (g s x y = none → Q .non H) ∧ ∀ u, g s x y = some u → Q (nV u) H
theorem oV_at {Q : VK} {H : Hp} {o : Option Nat} (h1 : o = none → Q .non H) (h2 : ∀ u, o = some u → Q (nV u) H) : Q (oV o) H := by
  cases o with
  | none => exact h1 rfl
  | some u => exact h2 u rfl
def raw (s : Sy47.St) (t m : Nat) : Option Nat := if m < 10 then (if s.pieces ≤ m ∨ has t m = true then none else some (with_ t m))
    else if m < 20 then (if s.props ≤ m - 10 ∨ has t (s.pieces + (m - 10)) = true ∨ s.atOnce ≤ propsIn s t then none else some (with_ t (s.pieces + (m - 10))))
    else if s.props ≤ m - 20 ∨ has t (s.pieces + (m - 20)) = false then none else some (without t (s.pieces + (m - 20)))
theorem moved_raw (s : Sy47.St) (t m : Nat) : Sy47.moved s t m = match raw s t m with
  | none => none
  | some u => if Sy47.carries s u = true then some u else none := rfl
def spInitD (C : Addr) : Sp := fun vs H Q _ => ∃ (p dx : Addr) (a b c : Nat), vs = [.ref p, nV a, nV b, nV c] ∧ H p = some (.ins C dx []) ∧ a ≤ 6 ∧
  ∀ (H' : Hp) (bl : Addr) (as : List Addr), DesAt C H' p bl as ⟨a, b, c, List.replicate a [], 0⟩ → (∀ q o, H q = some o → q ≠ p → H' q = some o) → (∀ q ∈ bl :: as, H q = none) → Q .non H'
def spIsPiece (C : Addr) : Sp := spM1 C (fun _ _ => True) fun s x => .bl (decide (x < s.pieces))
def spIsSet (C : Addr) : Sp := spM1 C (fun _ _ => True) fun s x => .bl (decide (x < 2 ^ things s))
def spAllBases (C : Addr) : Sp := spM1 C (fun s x => x < s.pieces) fun s x => .bl (decide (4 ≤ (s.rests.getD x []).length))
def spAddBase (C : Addr) : Sp := fun vs H Q _ => ∃ (d bl : Addr) (as : List Addr) (s : Sy47.St) (i a : Nat), vs = [.ref d, nV i, nV a] ∧ DesAt C H d bl as s ∧ Good s ∧ i < s.pieces ∧ (s.rests.getD i []).length < 4 ∧
  ∀ H' : Hp, DesAt C H' d bl as { s with rests := s.rests.set i (s.rests.getD i [] ++ [a]) } → (∀ q o, H q = some o → q ∉ as → H' q = some o) → Q (nV ((s.rests.getD i []).length + 1)) H'
def spPieceRests (C : Addr) : Sp := spM2 C (fun s i _ => i < s.pieces) fun s i t => .bl (Sy47.firm s t i)
def spLoose (C : Addr) : Sp := spM1 C (fun _ _ => True) fun s t => nV (drop s t)
def spCarry (C : Addr) : Sp := spM1 C (fun _ _ => True) fun s t => .bl (Sy47.carries s t)
def spStays (C : Addr) : Sp := spM1 C (fun _ _ => True) fun s t => nV (Sy47.left s t)
def spIsMove (C : Addr) : Sp := spM1 C (fun _ _ => True) fun s m => .bl ((Sy47.moves s).contains m)
def spPropBit (C : Addr) : Sp := spM1 C (fun _ j => j ≤ 100) fun s j => nV (2 ^ (s.pieces + j))
def spPropsThere (C : Addr) : Sp := spM1 C (fun s t => t < 2 ^ things s) fun s t => nV (propsIn s t)
def spHowMany : Sp := fun vs H Q _ => ∃ (x n : Nat), vs = [nV x] ∧ x < 2 ^ n ∧ Q (nV (cnt n fun i => has x i)) H
/-- a method that only looks, of nothing more -/
def spM0 (C : Addr) (g : Sy47.St → V) : Sp := fun vs H Q _ => ∃ (d bl : Addr) (as : List Addr) (s : Sy47.St), vs = [.ref d] ∧ DesAt C H d bl as s ∧ Good s ∧ Q (g s) H
def spEnd (C : Addr) : Sp := spM0 C fun s => nV (done s)
def spPiecesThere (C : Addr) : Sp := spM1 C (fun _ _ => True) fun s t => nV (size s.pieces t)
/-- a method that makes a new list of numbers -/
def spL0 (C : Addr) (g : Sy47.St → List Nat) : Sp := fun vs H Q _ => ∃ (d bl : Addr) (as : List Addr) (s : Sy47.St), vs = [.ref d] ∧ DesAt C H d bl as s ∧ Good s ∧
  ∀ (H' : Hp) (p : Addr), L2.Same H H' → H p = Option.none → H' p = some (.lst ((g s).map nV)) → Q (.ref p) H'
def spMoves (C : Addr) : Sp := spL0 C Sy47.moves
def spSpare (C : Addr) : Sp := spL0 C fun s => (List.range s.pieces).filter fun i => Sy47.carries s (without (done s) i)
def spWith (C : Addr) : Sp := fun vs H Q _ => ∃ (d bl : Addr) (as : List Addr) (s : Sy47.St) (k : Nat), vs = [.ref d, nV k] ∧ DesAt C H d bl as s ∧ Good s ∧
  ∀ (H' : Hp) (p bl' : Addr) (as' : List Addr), L2.Same H H' → (∀ q ∈ p :: bl' :: as', H q = Option.none) → DesAt C H' p bl' as' { s with atOnce := k } → Q (.ref p) H'
/-- the way to x, as its value in the dict tells it -/
def WayAt (H : Hp) (L : List (Nat × List Nat)) (x : Nat × List Nat) (v : V) : Prop := (x.2 = [] ∧ v = .non) ∨ ∃ (t : Addr) (z : Nat × List Nat) (m : Nat), v = .ref t ∧ z ∈ L ∧ x.2 = z.2 ++ [m] ∧ H t = some (.tup [nV z.1, nV m])
structure WaysAt (H : Hp) (p : Addr) (kvs : List (Key × V)) (L : List (Nat × List Nat)) : Prop where
  obj : H p = some (.dK kvs)
  keys : kvs.map (·.1) = L.map fun x => Sum.inl (x.1 : Int)
  at_ : ∀ x ∈ L, ∃ v, valV kvs (Sum.inl (x.1 : Int)) = some v ∧ WayAt H L x v
def spWays (C : Addr) : Sp := fun vs H Q _ => ∃ (d bl : Addr) (as : List Addr) (s : Sy47.St) (t0 : Nat), vs = [.ref d, nV t0] ∧ DesAt C H d bl as s ∧ Good s ∧ Fit s t0 ∧
  ∀ (H' : Hp) (p : Addr) (kvs : List (Key × V)) (L : List (Nat × List Nat)), L2.Same H H' → H p = Option.none → WaysAt H' p kvs L → Bfs s t0 L L.length 0 → Q (.ref p) H'
def spPlan (C : Addr) : Sp := fun vs H Q _ => ∃ (d bl : Addr) (as : List Addr) (s : Sy47.St) (t0 : Nat), vs = [.ref d, nV t0] ∧ DesAt C H d bl as s ∧ Good s ∧ Fit s t0 ∧
  (Sy47.distance (Sy47.fromEnd s) t0 = none → ∀ H', L2.Same H H' → Q .non H') ∧
  ∀ k, Sy47.distance (Sy47.fromEnd s) t0 = some k → (Sy47.plan s (Sy47.fromEnd s) k t0).length = k → k ≤ 520 → ∀ (H' : Hp) (p : Addr), L2.Same H H' → H p = Option.none → H' p = some (.lst ((Sy47.plan s (Sy47.fromEnd s) k t0).map nV)) → Q (.ref p) H'
def spNeeded (C : Addr) : Sp := fun vs H Q _ => ∃ (d bl : Addr) (as : List Addr) (s : Sy47.St), vs = [.ref d] ∧ DesAt C H d bl as s ∧ Good s ∧
  ((List.range (s.props + 1)).find? (fun (k : Nat) => Sy47.can (Sy47.anew s k)) = none → ∀ H', L2.Same H H' → Q .non H') ∧
  ∀ k, (List.range (s.props + 1)).find? (fun (k : Nat) => Sy47.can (Sy47.anew s k)) = some k → ∀ H', L2.Same H H' → Q (nV k) H'
/-- the name of the lambda's code object -/
def lamN : Str := (("furthest" : Str) ++ (".<locals>." : Str)) ++ ("<lambda>" : Str)
def spFar (C t : Addr) : Sp := fun vs H Q _ => ∃ (d bl : Addr) (as : List Addr) (s : Sy47.St) (p : Addr) (kvs : List (Key × V)) (l : List Nat), vs = [.ref d, .ref p] ∧ DesAt C H d bl as s ∧ Good s ∧ H p = some (.dK kvs) ∧ kvs.map (·.1) = l.map (fun (n : Nat) => (Sum.inl (n : Int) : Key)) ∧ l ≠ [] ∧ TabS H t lamN ∧
  ∀ (H' : Hp) (m : Nat), ExtN H H' → TabS H' t lamN → Best s.pieces l m → Q (nV m) H'
/-- rows of numbers at places -/
def RowsAt (H : Hp) (as : List Addr) (rows : List (List Int)) : Prop := as.length = rows.length ∧ ∀ (j : Nat) (c : Addr), as[j]? = some c → ∃ r, rows[j]? = some r ∧ H c = some (.lst (r.map V.int))
def wl (rows : List (List Int)) : List Int := rows.flatMap fun r => (r.length : Int) :: r
def spWl (K : PySem.W.Frag) : Sp := fun vs H Q _ => ∃ (a : Addr) (as : List Addr) (rows : List (List Int)), vs = [.ref a] ∧ SqL K H a (as.map V.ref) ∧ RowsAt H as rows ∧ (wl rows).length ≤ 11000000 ∧
  ∀ (H' : Hp) (p : Addr), L2.Same H H' → H p = Option.none → H' p = some (.lst ((wl rows).map V.int)) → Q (.ref p) H'
def spWithThing (C : Addr) : Sp := fun vs H Q _ => ∃ (d bl : Addr) (as : List Addr) (s : Sy47.St) (t i : Nat), vs = [.ref d, nV t, nV (2 ^ i)] ∧ DesAt C H d bl as s ∧ Good s ∧ Q (oV (if has t i = true then none else some (with_ t i))) H
def spWithProp (C : Addr) : Sp := spM2 C (fun s t j => j < s.props ∧ t < 2 ^ things s) fun s t j => oV (if has t (s.pieces + j) = true ∨ s.atOnce ≤ propsIn s t then none else some (with_ t (s.pieces + j)))
def spWithoutProp (C : Addr) : Sp := spM2 C (fun s _ j => j < s.props) fun s t j => oV (if has t (s.pieces + j) = false then none else some (without t (s.pieces + j)))
def spMoved (C : Addr) : Sp := spM2v C (fun s t m => m ∈ Sy47.moves s ∧ t < 2 ^ things s) raw
def spBehind (C : Addr) : Sp := spM2v C (fun s t m => m ∈ Sy47.moves s ∧ t < 2 ^ things s) Sy47.moved
section
variable {P : Program} {w : World} {K : PySem.W.Frag} {mg : Str → Option Value} {base : Heap} {CD CB : Addr}
theorem ifT {c : Bool} {A B : Prop} (hc : c = true) (h : A) : if c = true then A else B := by
  rw [if_pos hc]
  exact h
theorem ifF {c : Bool} {A B : Prop} (hc : c = false) (h : B) : if c = true then A else B := by
  subst hc
  exact h
/-- the value told otherwise -/
theorem vAt {F : V → Hp → Prop} {a b : V} {H : Hp} (e : a = b) (h : F b H) : F a H := by
  rw [e]
  exact h
theorem shl_V (i : Nat) : V.int ((1 : Int) * 2 ^ ((i : Int)).toNat) = nV (2 ^ i) := congrArg V.int (shl_one i)
theorem ok_is_design {f : Addr} {fd : FuncData} (F : Fun K "is_design" "is_design" s_is_design f fd) (T : Txt K mg CD CB) : FnOk P w K mg base CX0 1 f fd ["pieces", "props", "at_once"] (spIsDesign) := by
  refine F.ok sc_is_design (fun vs H Q E h => ?_) (fun cdv A outer s H vs Q E hr h => ?_)
  · obtain ⟨a, b, c, rfl, _⟩ := h
    rfl
  · obtain ⟨a, b, c, rfl, k⟩ := h
    refine ⟨_, (pss_cons (ps_if (PW.pt (pw_or (pt_cmpR nLt (pv 0) pe_int (nomark _)) (pw_or1 (pt_cmpR nGt (pv 0) (pe_glob (v := .int 6) rfl T.g_MOST_PIECES.choose_spec ⟨_, rfl⟩) (nomark _)))))
     (pss_one (ps_ret pe_bl))
     pss_nil)
    (pss_one (ps_ret (pe_and (pe_cmpR nLe (pv 1) (pe_glob (v := .int 2) rfl T.g_MOST_PROPS.choose_spec ⟨_, rfl⟩) (nomark _)) (pe_one (pe_cmpR nLe (pv 2) (pv 1) (nomark _))))))), ?_⟩
    refine ⟨_, rfl, a, 1, rfl, rfl, _, rfl, ?_⟩
    have k0 : a < 1 ∨ 6 < a ∨ 2 < b ∨ b < c → Q (.bl false) H := fun h => by
      rw [decide_eq_true h] at k
      exact k
    have k1 : ¬ (a < 1 ∨ 6 < a ∨ 2 < b ∨ b < c) → Q (.bl true) H := fun h => by
      rw [decide_eq_false h] at k
      exact k
    by_cases c1 : a < 1
    · refine ifT (decide_eq_true (by omega)) (iteT ?_)
      exact k0 (by omega)
    · refine ifF (decide_eq_false (by omega)) ?_
      refine ⟨_, rfl, a, 6, rfl, rfl, _, rfl, ?_⟩
      by_cases c2 : 6 < a
      · refine ifT (decide_eq_true (by omega)) ?_
        exact k0 (by omega)
      · refine ifF (decide_eq_false (by omega)) ?_
        refine ⟨_, rfl, b, 2, rfl, rfl, _, rfl, ?_⟩
        by_cases c3 : b ≤ 2
        · refine ifT (decide_eq_true (by omega)) ?_
          refine ⟨_, rfl, _, rfl, c, b, rfl, rfl, ?_⟩
          show Q (.bl (decide (c ≤ b))) H
          by_cases c4 : c ≤ b
          · rw [decide_eq_true c4]
            exact k1 (by omega)
          · rw [decide_eq_false c4]
            exact k0 (by omega)
        · refine ifF (decide_eq_false (by omega)) ?_
          exact k0 (by omega)
theorem ok_holds {f : Addr} {fd : FuncData} (F : Fun K "holds" "holds" s_holds f fd) (T : Txt K mg CD CB) : FnOk P w K mg base CX0 1 f fd ["stage", "part"] (spHolds) := by
  refine F.ok sc_holds (fun vs H Q E h => ?_) (fun cdv A outer s H vs Q E hr h => ?_)
  · obtain ⟨a, b, rfl, _⟩ := h
    rfl
  · obtain ⟨a, b, rfl, k⟩ := h
    refine ⟨_, (pss_one (ps_ret (pe_cmpR nEq (pe_op nAnd (pv 0) (pv 1)) (pv 1) (nomark _)))), ?_⟩
    exact ⟨_, rfl, _, rfl, a, b, rfl, rfl, _, rfl, _, b, rfl, rfl, k⟩
theorem ok_Design_is_piece {f : Addr} {fd : FuncData} (F : Fun K "is_piece" "Design.is_piece" s_Design_is_piece f fd) (T : Txt K mg CD CB) : FnOk P w K mg base CX0 1 f fd ["self", "number"] (spIsPiece CD) := by
  refine F.ok sc_Design_is_piece (fun vs H Q E h => ?_) (fun cdv A outer s H vs Q E hr h => ?_)
  · obtain ⟨d, bl, as, s, x, rfl, _⟩ := h
    rfl
  · obtain ⟨d, bl, as, s, x, rfl, D, g, _, k⟩ := h
    obtain ⟨dx, hd⟩ := D.obj
    refine ⟨_, (pss_one (ps_ret (pe_cmpR nLt (pv 1) (pe_fld (pv 0) rfl) (nomark _)))), ?_⟩
    exact ⟨_, rfl, _, rfl, d, CD, dx, _, _, rfl, hd, T.cl_Design, T.n_pieces, dF_pieces s bl, x, _, rfl, rfl, k⟩
theorem ok_Design_is_set {f : Addr} {fd : FuncData} (F : Fun K "is_set" "Design.is_set" s_Design_is_set f fd) (T : Txt K mg CD CB) : FnOk P w K mg base CX0 1 f fd ["self", "number"] (spIsSet CD) := by
  refine F.ok sc_Design_is_set (fun vs H Q E h => ?_) (fun cdv A outer s H vs Q E hr h => ?_)
  · obtain ⟨d, bl, as, s, x, rfl, _⟩ := h
    rfl
  · obtain ⟨d, bl, as, s, x, rfl, D, g, _, k⟩ := h
    obtain ⟨dx, hd⟩ := D.obj
    refine ⟨_, (pss_one (ps_ret (pe_cmpR nLt (pv 1) (pe_op nShl1 pe_int (pe_op nAdd (pe_fld (pv 0) rfl) (pe_fld (pv 0) rfl))) (nomark _)))), ?_⟩
    exact ⟨_, rfl, _, rfl, d, CD, dx, _, _, rfl, hd, T.cl_Design, T.n_pieces, dF_pieces s bl, _, rfl, d, CD, dx, _, _, rfl, hd, T.cl_Design, T.n_props, dF_props s bl, s.pieces, s.props, rfl, rfl, rfl, things s, rfl, (by
      have := g.p6
      have := g.m2
      unfold things
      omega), x, 2 ^ things s, rfl, rfl, k⟩
end
end Br

set_option maxRecDepth 100000
set_option maxHeartbeats 4200000
namespace Br
open PySem PySem.Spec LamX
open PyProof.Rows L2
open PySem.W (Codec)
open Sy47 (things has with_ without propsIn done size firm carries)
section
variable {P : Program} {w : World} {K : PySem.W.Frag} {mg : Str → Option Value} {base : Heap} {CD CB : Addr}
theorem ok_Design_has_all_bases {f : Addr} {fd : FuncData} (F : Fun K "has_all_bases" "Design.has_all_bases" s_Design_has_all_bases f fd) (T : Txt K mg CD CB) : FnOk P w K mg base CX0 1 f fd ["self", "piece"] (spAllBases CD) := by
  refine F.ok sc_Design_has_all_bases (fun vs H Q E h => ?_) (fun cdv A outer s H vs Q E hr h => ?_)
  · obtain ⟨d, bl, as, s, x, rfl, _⟩ := h
    rfl
  · obtain ⟨d, bl, as, s, x, rfl, D, g, hx, k⟩ := h
    obtain ⟨dx, hd⟩ := D.obj
    obtain ⟨c, l, h1, h2, h3, h4, h5, h6⟩ := D.item g hx
    refine ⟨_, (pss_one (ps_ret (pe_cmpR nEq (pe_callB call_len_seq (by rfl) T.len PySem.boot_len (pa_cons (pe_ix ix_list (pe_fld (pv 0) rfl) (pv 1) (fun _ _ => rfl)) pa_nil)) (pe_glob (v := .int 4) rfl T.g_MOST_BASES.choose_spec ⟨_, rfl⟩) (nomark _)))), ?_⟩
    refine ⟨_, rfl, d, CD, dx, _, _, rfl, hd, T.cl_Design, T.n_bases, dF_bases s bl, _, rfl, bl, _, _, _, rfl, rfl, SqL.of D.lst, at_of (j := x) rfl h2, c, _, rfl, .inl (SqL.of h5), ?_⟩
    refine ⟨(l.map nV).length, 4, rfl, rfl, ?_⟩
    have e : decide ((l.map nV).length = 4) = decide (4 ≤ (s.rests.getD x []).length) := by
      rw [h4, List.length_map]
      have := g.four l h6
      exact decide_eq_decide.2 (by omega)
    exact at_eq (congrArg V.bl e) k
theorem ok_Design_piece_rests {f : Addr} {fd : FuncData} (F : Fun K "piece_rests" "Design.piece_rests" s_Design_piece_rests f fd) (T : Txt K mg CD CB) (d_holds : FnD P w K mg base "holds" 1 ["stage", "part"] spHolds) : FnOk P w K mg base CX0 2 f fd ["self", "piece", "stage"] (spPieceRests CD) := by
  refine F.ok sc_Design_piece_rests (fun vs H Q E h => ?_) (fun cdv A outer s H vs Q E hr h => ?_)
  · obtain ⟨d, bl, as, s, x, t, rfl, _⟩ := h
    rfl
  · obtain ⟨d, bl, as, s, x, t, rfl, D, g, hx, k⟩ := h
    obtain ⟨dx, hd⟩ := D.obj
    obtain ⟨c, l, h1, h2, h3, h4, h5, h6⟩ := D.item g hx
    have ef : Sy47.firm s t x = l.any fun a => decide (t &&& a = a) := by
      unfold Sy47.firm
      rw [h4]
      have hb := g.base l h6
      clear h1 h2 h3 h4 h5 h6 k
      induction l with
      | nil => rfl
      | cons a l ih =>
        rw [List.any_cons, List.any_cons, ih fun b hb' => hb b (List.mem_cons_of_mem _ hb'), within_and (hb a (List.mem_cons_self ..))]
    refine ⟨_, (pss_cons (ps_for PassesOwn.never rfl (pi_list (pe_ix ix_list (pe_fld (pv 0) rfl) (pv 1) (fun _ _ => rfl))) (pg_name (i := 3) sc_Design_piece_rests.nd rfl (Or.inl rfl))
     (pss_one (ps_if (pt_val (pe_call d_holds.ok (hr.mono (by decide)) rfl d_holds.mg_ d_holds.kp d_holds.b .nil pass0 (pa_cons (pv 2) (pa_cons (pv 3) pa_nil))))
      (pss_one (ps_ret pe_bl))
      pss_nil)))
    (pss_one (ps_ret pe_bl))), ?_⟩
    refine ⟨_, rfl, d, CD, dx, _, _, rfl, hd, T.cl_Design, T.n_bases, dF_bases s bl, _, rfl, bl, _, _, _, rfl, rfl, SqL.of D.lst, at_of (j := x) rfl h2, c, rfl, ⟨_, SqL.of h5⟩, for_list (K := K) (a := c) (xs := l.map nV) (fun i σ H' => H' = H ∧ (∃ v : Option V, σ = [some (.ref d), some (nV x), some (nV t), v]) ∧ ∀ a ∈ l.take i, ¬ t &&& a = a)
      ⟨rfl, ⟨none, rfl⟩, fun a ha => by cases ha⟩ (fun i σ H' _ h => by rw [h.1]; exact SqL.of h5) ?_ ?_⟩
    · rintro i y σ H' hi ⟨rfl, ⟨v, rfl⟩, hn⟩
      obtain ⟨b, hb, rfl⟩ : ∃ b, l[i]? = some b ∧ y = nV b := by
        rw [List.getElem?_map] at hi
        cases e : l[i]? with
        | none =>
          rw [e] at hi
          cases hi
        | some b =>
          rw [e] at hi
          exact ⟨b, rfl, (Option.some.inj hi).symm⟩
      refine ⟨_, rfl, _, rfl, t, b, rfl, _, rfl, ?_⟩
      by_cases c1 : t &&& b = b
      · refine ifT (decide_eq_true c1) ?_
        have : Sy47.firm s t x = true := by
          rw [ef, List.any_eq_true]
          exact ⟨b, List.mem_of_getElem? hb, decide_eq_true c1⟩
        exact at_eq (congrArg V.bl this.symm) k
      · refine ifF (decide_eq_false c1) ?_
        refine ⟨rfl, ⟨_, rfl⟩, fun a ha => ?_⟩
        rw [List.take_add_one, hb] at ha
        rcases List.mem_append.1 ha with h | h
        · exact hn a h
        · have : a = b := by simpa using h
          rw [this]
          exact c1
    · rintro σ H' ⟨rfl, ⟨v, rfl⟩, hn⟩
      rw [List.length_map, List.take_length] at hn
      have : Sy47.firm s t x = false := by
        rw [ef, List.any_eq_false]
        intro a ha
        rw [decide_eq_false (hn a ha)]
        exact Bool.false_ne_true
      exact at_eq (congrArg V.bl this.symm) k
theorem ok_Design_without_loose {f : Addr} {fd : FuncData} (F : Fun K "without_loose" "Design.without_loose" s_Design_without_loose f fd) (T : Txt K mg CD CB) (d_holds : FnD P w K mg base "holds" 1 ["stage", "part"] spHolds) (d_Design_piece_rests : MeD P w K mg base CD "piece_rests" 2 ["self", "piece", "stage"] (spPieceRests CD)) : FnOk P w K mg base CX0 3 f fd ["self", "stage"] (spLoose CD) := by
  refine F.ok sc_Design_without_loose (fun vs H Q E h => ?_) (fun cdv A outer s H vs Q E hr h => ?_)
  · obtain ⟨d, bl, as, s, t, rfl, _⟩ := h
    rfl
  · obtain ⟨d, bl, as, s, t, rfl, D, g, _, k⟩ := h
    obtain ⟨dx, hd⟩ := D.obj
    have p6 := g.p6
    refine ⟨_, (pss_cons (ps_set (i := 2) sc_Design_without_loose.nd rfl (Or.inl rfl) (pv 1))
    (pss_cons (ps_for PassesOwn.never rfl (pi_range1 rfl T.range (pa_cons (pe_fld (pv 0) rfl) pa_nil)) (pg_name (i := 3) sc_Design_without_loose.nd rfl (Or.inl rfl))
     (pss_cons (ps_set (i := 4) sc_Design_without_loose.nd rfl (Or.inl rfl) (pe_op nShl1 pe_int (pv 3)))
     (pss_one (ps_if (PW.pt (pw_and (pt_val (pe_call d_holds.ok (hr.mono (by decide)) rfl d_holds.mg_ d_holds.kp d_holds.b .nil pass0 (pa_cons (pv 1) (pa_cons (pv 4) pa_nil)))) (pw_and1 (pt_not (pt_val (pe_meth (pv 0) T.cl_Design d_Design_piece_rests.m d_Design_piece_rests.ok (hr.mono (by decide)) d_Design_piece_rests.b .nil pass0 (pa_cons (pv 3) (pa_cons (pv 1) pa_nil))))))))
      (pss_one (ps_set (i := 2) sc_Design_without_loose.nd rfl (Or.inl rfl) (pe_op nSub (pv 2) (pv 4))))
      pss_nil))))
    (pss_one (ps_ret (pv 2))))), ?_⟩
    refine ⟨_, rfl, _, rfl, d, CD, dx, _, _, rfl, hd, T.cl_Design, T.n_pieces, dF_pieces s bl, _, rfl, by omega, by omega, for_rangeN (n := s.pieces) (fun i σ H' => H' = H ∧ ∃ v v4 : Option V, σ = [some (.ref d), some (nV t), some (nV (dropTo s t i)), v, v4])
      ⟨rfl, none, none, rfl⟩ ?_ ?_⟩
    · rintro i σ H' hi ⟨rfl, v, v4, rfl⟩
      refine ⟨_, rfl, rfl, i, rfl, by omega, ?_⟩
      refine ⟨_, rfl, _, rfl, t, 2 ^ i, rfl, _, rfl, ?_⟩
      cases c1 : has t i with
      | false =>
        refine ifF ((and_bit t i).trans c1) ?_
        refine iteF ?_
        refine ⟨rfl, some (nV i), some (nV (2 ^ i)), ?_⟩
        have : dropTo s t (i + 1) = dropTo s t i := by
          rw [dropTo_sub, c1]
          simp
        rw [this]
        rfl
      | true =>
        refine ifT ((and_bit t i).trans c1) ?_
        refine ⟨_, rfl, d, dx, _, rfl, hd, dF_no s bl (by decide +kernel) (by decide +kernel) (by decide +kernel) (by decide +kernel), _, rfl, _, rfl, d, bl, as, s, i, t, rfl, D, g, hi, _, rfl, ?_⟩
        cases c2 : Sy47.firm s t i with
        | true =>
          refine ifF rfl ?_
          refine ⟨rfl, some (nV i), some (nV (2 ^ i)), ?_⟩
          have : dropTo s t (i + 1) = dropTo s t i := by
            rw [dropTo_sub, c2]
            simp
          rw [this]
          rfl
        | false =>
          refine ifT rfl ?_
          have hle : 2 ^ i ≤ dropTo s t i := by
            have := dropTo_has (s := s) (t := t) (n := i) c1
            rw [has_tb] at this
            exact bit_le this
          have : dropTo s t (i + 1) = dropTo s t i - 2 ^ i := by
            rw [dropTo_sub, c1, c2]
            simp
          refine ⟨_, rfl, _, rfl, dropTo s t i, 2 ^ i, rfl, rfl, hle, ?_⟩
          refine ⟨rfl, some (nV i), some (nV (2 ^ i)), ?_⟩
          rw [this]
          rfl
    · rintro σ H' ⟨rfl, v, v4, rfl⟩
      exact ⟨_, rfl, k⟩
end
end Br

set_option maxRecDepth 100000
set_option maxHeartbeats 4200000
namespace Br
open PySem PySem.Spec LamX
open PyProof.Rows L2
open PySem.W (Codec)
open Sy47 (things has with_ without propsIn done size firm carries)
section
variable {P : Program} {w : World} {K : PySem.W.Frag} {mg : Str → Option Value} {base : Heap} {CD CB : Addr}
theorem ok_Design_does_carry {f : Addr} {fd : FuncData} (F : Fun K "does_carry" "Design.does_carry" s_Design_does_carry f fd) (T : Txt K mg CD CB) (d_Design_without_loose : MeD P w K mg base CD "without_loose" 3 ["self", "stage"] (spLoose CD)) : FnOk P w K mg base CX0 4 f fd ["self", "stage"] (spCarry CD) := by
  refine F.ok sc_Design_does_carry (fun vs H Q E h => ?_) (fun cdv A outer s H vs Q E hr h => ?_)
  · obtain ⟨d, bl, as, s, t, rfl, _⟩ := h
    rfl
  · obtain ⟨d, bl, as, s, t, rfl, D, g, _, k⟩ := h
    obtain ⟨dx, hd⟩ := D.obj
    refine ⟨_, (pss_one (ps_ret (pe_cmpR nEq (pe_meth (pv 0) T.cl_Design d_Design_without_loose.m d_Design_without_loose.ok (hr.mono (by decide)) d_Design_without_loose.b .nil pass0 (pa_cons (pv 1) pa_nil)) (pv 1) (nomark _)))), ?_⟩
    exact ⟨_, rfl, d, dx, _, rfl, hd, dF_no s bl (by decide +kernel) (by decide +kernel) (by decide +kernel) (by decide +kernel), _, rfl, d, bl, as, s, t, rfl, D, g, trivial, _, rfl, drop s t, t, rfl, rfl, at_eq (congrArg V.bl (drop_beq s t)) k⟩
theorem ok_Design_what_stays {f : Addr} {fd : FuncData} (F : Fun K "what_stays" "Design.what_stays" s_Design_what_stays f fd) (T : Txt K mg CD CB) (d_Design_does_carry : MeD P w K mg base CD "does_carry" 4 ["self", "stage"] (spCarry CD)) (d_Design_without_loose : MeD P w K mg base CD "without_loose" 3 ["self", "stage"] (spLoose CD)) : FnOk P w K mg base CX0 5 f fd ["self", "stage"] (spStays CD) := by
  refine F.ok sc_Design_what_stays (fun vs H Q E h => ?_) (fun cdv A outer s H vs Q E hr h => ?_)
  · obtain ⟨d, bl, as, s, t, rfl, _⟩ := h
    rfl
  · obtain ⟨d, bl, as, s, t, rfl, D, g, _, k⟩ := h
    obtain ⟨dx, hd⟩ := D.obj
    refine ⟨_, (pss_cons (ps_set (i := 2) sc_Design_what_stays.nd rfl (Or.inl rfl) (pv 1))
    (pss_cons (ps_while PassesOwn.never (pt_not (pt_val (pe_meth (pv 0) T.cl_Design d_Design_does_carry.m d_Design_does_carry.ok (hr.mono (by decide)) d_Design_does_carry.b .nil pass0 (pa_cons (pv 2) pa_nil))))
     (pss_one (ps_set (i := 2) sc_Design_what_stays.nd rfl (Or.inl rfl) (pe_meth (pv 0) T.cl_Design d_Design_without_loose.m d_Design_without_loose.ok (hr.mono (by decide)) d_Design_without_loose.b .nil pass0 (pa_cons (pv 2) pa_nil)))))
    (pss_one (ps_ret (pv 2))))), ?_⟩
    refine ⟨_, rfl, ?_⟩
    refine while_by (fun σ H' => H' = H ∧ ∃ u : Nat, σ = [some (.ref d), some (nV t), some (nV u)] ∧ Sy47.left s u = Sy47.left s t) (fun σ _ => match σ with
      | [_, _, some (.int z)] => z.toNat
      | _ => 0) ⟨rfl, t, rfl, rfl⟩ ?_ ?_
    · rintro σ H' ⟨rfl, u, rfl, hu⟩
      refine ⟨_, rfl, d, dx, _, rfl, hd, dF_no s bl (by decide +kernel) (by decide +kernel) (by decide +kernel) (by decide +kernel), _, rfl, d, bl, as, s, u, rfl, D, g, trivial, _, rfl, ?_⟩
      cases c : Sy47.carries s u with
      | true =>
        refine ifF (by first | rfl | (rw [c]; rfl)) ?_
        refine ⟨_, rfl, ?_⟩
        rw [left_fix c] at hu
        exact at_eq (congrArg nV hu) k
      | false =>
        refine ifT (by first | rfl | (rw [c]; rfl)) ?_
        refine ⟨_, rfl, d, dx, _, rfl, hd, dF_no s bl (by decide +kernel) (by decide +kernel) (by decide +kernel) (by decide +kernel), _, rfl, d, bl, as, s, u, rfl, D, g, trivial, ?_⟩
        refine ⟨⟨rfl, drop s u, rfl, (left_drop s u).trans hu⟩, ?_⟩
        show drop s u < u
        exact drop_lt c
    · rintro σ H' Q1 Q2 imp ⟨x, h1, a, dx, fs, h2, h3, h4, y, h5, d', bl', as', s', x', h6, h7, h8, h9, z, h10, h11⟩
      exact ⟨x, h1, a, dx, fs, h2, h3, h4, y, h5, d', bl', as', s', x', h6, h7, h8, h9, z, h10, imp _ _ h11⟩
theorem mem_moves {s : Sy47.St} {m : Nat} : m ∈ Sy47.moves s ↔ m < s.pieces ∨ (10 ≤ m ∧ m - 10 < s.props) ∨ (20 ≤ m ∧ m - 20 < s.props) := by
  unfold Sy47.moves
  rw [List.mem_append, List.mem_append, List.mem_range, List.mem_map, List.mem_map]
  constructor
  · rintro (h | ⟨a, h, rfl⟩ | ⟨a, h, rfl⟩)
    · exact .inl h
    · exact .inr (.inl ⟨by omega, by rw [List.mem_range] at h; omega⟩)
    · exact .inr (.inr ⟨by omega, by rw [List.mem_range] at h; omega⟩)
  · rintro (h | ⟨h1, h2⟩ | ⟨h1, h2⟩)
    · exact .inl h
    · exact .inr (.inl ⟨m - 10, List.mem_range.2 h2, by omega⟩)
    · exact .inr (.inr ⟨m - 20, List.mem_range.2 h2, by omega⟩)
theorem moves_has (s : Sy47.St) (m : Nat) : (Sy47.moves s).contains m = decide (m < s.pieces ∨ (10 ≤ m ∧ m - 10 < s.props) ∨ (20 ≤ m ∧ m - 20 < s.props)) := by
  by_cases h : m ∈ Sy47.moves s
  · rw [decide_eq_true (mem_moves.1 h)]
    exact List.contains_iff_mem.2 h
  · rw [decide_eq_false fun q => h (mem_moves.2 q)]
    cases e : (Sy47.moves s).contains m with
    | false => rfl
    | true => exact absurd (List.contains_iff_mem.1 e) h
theorem ok_Design_is_move {f : Addr} {fd : FuncData} (F : Fun K "is_move" "Design.is_move" s_Design_is_move f fd) (T : Txt K mg CD CB) (d_Design_is_piece : MeD P w K mg base CD "is_piece" 1 ["self", "number"] (spIsPiece CD)) : FnOk P w K mg base CX0 2 f fd ["self", "number"] (spIsMove CD) := by
  refine F.ok sc_Design_is_move (fun vs H Q E h => ?_) (fun cdv A outer s H vs Q E hr h => ?_)
  · obtain ⟨d, bl, as, s, m, rfl, _⟩ := h
    rfl
  · obtain ⟨d, bl, as, s, m, rfl, D, g, _, k⟩ := h
    obtain ⟨dx, hd⟩ := D.obj
    have p6 := g.p6
    have m2 := g.m2
    have k2 : ∀ b : Bool, ((m < s.pieces ∨ (10 ≤ m ∧ m - 10 < s.props) ∨ (20 ≤ m ∧ m - 20 < s.props)) ↔ b = true) → Q (.bl b) H := fun b h => by
      have e : (Sy47.moves s).contains m = b := by
        rw [moves_has]
        cases b with
        | true => exact decide_eq_true (h.2 rfl)
        | false => exact decide_eq_false fun q => Bool.false_ne_true (h.1 q)
      exact at_eq (congrArg V.bl e.symm) k
    refine ⟨_, (pss_cons (ps_if (pt_cmpR nLt (pv 1) (pe_glob (v := .int 10) rfl T.g_FIRST_PUT.choose_spec ⟨_, rfl⟩) (nomark _))
     (pss_one (ps_ret (pe_meth (pv 0) T.cl_Design d_Design_is_piece.m d_Design_is_piece.ok (hr.mono (by decide)) d_Design_is_piece.b .nil pass0 (pa_cons (pv 1) pa_nil))))
     pss_nil)
    (pss_cons (ps_if (pt_cmpR nLt (pv 1) (pe_glob (v := .int 20) rfl T.g_FIRST_TAKE.choose_spec ⟨_, rfl⟩) (nomark _))
     (pss_one (ps_ret (pe_cmpR nLt (pe_op nSub (pv 1) (pe_glob (v := .int 10) rfl T.g_FIRST_PUT.choose_spec ⟨_, rfl⟩)) (pe_fld (pv 0) rfl) (nomark _))))
     pss_nil)
    (pss_one (ps_ret (pe_cmpR nLt (pe_op nSub (pv 1) (pe_glob (v := .int 20) rfl T.g_FIRST_TAKE.choose_spec ⟨_, rfl⟩)) (pe_fld (pv 0) rfl) (nomark _)))))), ?_⟩
    refine ⟨_, rfl, m, 10, rfl, rfl, _, rfl, ?_⟩
    by_cases c1 : m < 10
    · refine ifT (decide_eq_true c1) ?_
      refine ⟨_, rfl, d, dx, _, rfl, hd, dF_no s bl (by decide +kernel) (by decide +kernel) (by decide +kernel) (by decide +kernel), _, rfl, d, bl, as, s, m, rfl, D, g, trivial, k2 _ ?_⟩
      rw [decide_eq_true_iff]
      omega
    · refine ifF (decide_eq_false c1) ?_
      refine ⟨_, rfl, m, 20, rfl, rfl, _, rfl, ?_⟩
      by_cases c2 : m < 20
      · refine ifT (decide_eq_true c2) ?_
        refine ⟨_, rfl, m, 10, rfl, rfl, by omega, _, rfl, d, CD, dx, _, _, rfl, hd, T.cl_Design, T.n_props, dF_props s bl, m - 10, s.props, rfl, rfl, k2 _ ?_⟩
        rw [decide_eq_true_iff]
        omega
      · refine ifF (decide_eq_false c2) ?_
        refine ⟨_, rfl, m, 20, rfl, rfl, by omega, _, rfl, d, CD, dx, _, _, rfl, hd, T.cl_Design, T.n_props, dF_props s bl, m - 20, s.props, rfl, rfl, k2 _ ?_⟩
        rw [decide_eq_true_iff]
        omega
theorem ok_Design_prop_bit {f : Addr} {fd : FuncData} (F : Fun K "prop_bit" "Design.prop_bit" s_Design_prop_bit f fd) (T : Txt K mg CD CB) : FnOk P w K mg base CX0 1 f fd ["self", "prop"] (spPropBit CD) := by
  refine F.ok sc_Design_prop_bit (fun vs H Q E h => ?_) (fun cdv A outer s H vs Q E hr h => ?_)
  · obtain ⟨d, bl, as, s, t, rfl, _⟩ := h
    rfl
  · obtain ⟨d, bl, as, s, j, rfl, D, g, hj, k⟩ := h
    obtain ⟨dx, hd⟩ := D.obj
    have p6 := g.p6
    refine ⟨_, (pss_one (ps_ret (pe_op nShl1 pe_int (pe_op nAdd (pe_fld (pv 0) rfl) (pv 1))))), ?_⟩
    exact ⟨_, rfl, d, CD, dx, _, _, rfl, hd, T.cl_Design, T.n_pieces, dF_pieces s bl, _, rfl, s.pieces, j, rfl, rfl, rfl, s.pieces + j, rfl, by omega, k⟩
theorem cnt_more {f : Nat → Bool} {i : Nat} (h : ∀ j, i ≤ j → f j = false) : ∀ n, i ≤ n → cnt n f = cnt i f
  | 0, hn => by
    have : i = 0 := by omega
    rw [this]
  | n + 1, hn => by
    by_cases c : i = n + 1
    · rw [c]
    · rw [cnt_succ, h n (by omega), cnt_more h n (by omega)]
      rfl
theorem has_div (x i : Nat) : has x i = decide (x / 2 ^ i % 2 = 1) := by
  unfold Sy47.has
  by_cases c : x / 2 ^ i % 2 = 1
  · rw [decide_eq_true c, c]
    rfl
  · rw [decide_eq_false c]
    cases e : (x / 2 ^ i % 2 == 1) with
    | false => rfl
    | true => exact absurd (by simpa using e) c
theorem cnt_half (x i : Nat) : cnt i (fun j => has x j) + (x / 2 ^ i &&& 1) = cnt (i + 1) fun j => has x j := by
  rw [cnt_succ, has_div, Nat.and_one_is_mod]
  by_cases c : x / 2 ^ i % 2 = 1
  · rw [decide_eq_true c, c]
    rfl
  · rw [decide_eq_false c]
    have : x / 2 ^ i % 2 = 0 := by omega
    rw [this]
    rfl
theorem div_half (x i : Nat) : x / 2 ^ i / 2 ^ 1 = x / 2 ^ (i + 1) := by
  rw [Nat.pow_one, Nat.div_div_eq_div_mul, Nat.pow_succ]
theorem ok_how_many {f : Addr} {fd : FuncData} (F : Fun K "how_many" "how_many" s_how_many f fd) (T : Txt K mg CD CB) : FnOk P w K mg base CX0 1 f fd ["stage"] (spHowMany) := by
  refine F.ok sc_how_many (fun vs H Q E h => ?_) (fun cdv A outer s H vs Q E hr h => ?_)
  · obtain ⟨x, n, rfl, _⟩ := h
    rfl
  · obtain ⟨x, n, rfl, hx, k⟩ := h
    refine ⟨_, (pss_cons (ps_set (i := 1) sc_how_many.nd rfl (Or.inl rfl) pe_int)
    (pss_cons (ps_set (i := 2) sc_how_many.nd rfl (Or.inl rfl) (pv 0))
    (pss_cons (ps_while PassesOwn.never (pt_cmpR nGt (pv 2) pe_int (nomark _))
     (pss_cons (ps_set (i := 1) sc_how_many.nd rfl (Or.inl rfl) (pe_op nAdd (pv 1) (pe_op nAnd (pv 2) pe_int)))
     (pss_one (ps_set (i := 2) sc_how_many.nd rfl (Or.inl rfl) (pe_op nShr (pv 2) pe_int)))))
    (pss_one (ps_ret (pv 1)))))), ?_⟩
    refine ⟨_, rfl, ?_⟩
    refine while_by (fun σ H' => H' = H ∧ ∃ i : Nat, i ≤ n ∧ σ = [some (nV x), some (nV (cnt i fun j => has x j)), some (nV (x / 2 ^ i))]) (fun σ _ => match σ with
      | [_, _, some (.int z)] => z.toNat
      | _ => 0) ⟨rfl, 0, Nat.zero_le _, by rw [Nat.pow_zero, Nat.div_one]; rfl⟩ ?_ ?_
    · rintro σ H' ⟨rfl, i, hi, rfl⟩
      refine ⟨_, rfl, x / 2 ^ i, 0, rfl, rfl, _, rfl, ?_⟩
      by_cases c : 0 < x / 2 ^ i
      · refine ifT (decide_eq_true c) ?_
        have hin : i ≠ n := fun e => by
          rw [e, Nat.div_eq_of_lt hx] at c
          omega
        refine ⟨_, rfl, _, rfl, x / 2 ^ i, 1, rfl, rfl, cnt i fun j => has x j, x / 2 ^ i &&& 1, rfl, rfl, ?_⟩
        refine ⟨_, rfl, x / 2 ^ i, 1, rfl, rfl, ?_⟩
        refine ⟨⟨rfl, i + 1, by omega, ?_⟩, ?_⟩
        · rw [← cnt_half, ← div_half]
          rfl
        · show x / 2 ^ i / 2 ^ 1 < x / 2 ^ i
          rw [Nat.pow_one]
          omega
      · refine ifF (decide_eq_false c) ?_
        refine ⟨_, rfl, ?_⟩
        have e : cnt n (fun j => has x j) = cnt i fun j => has x j := cnt_more (fun j hj => has_of_lt (n := i) ((Nat.div_eq_zero_iff_lt (Nat.two_pow_pos i)).1 (Nat.eq_zero_of_not_pos c)) hj) n hi
        exact at_eq (congrArg nV e.symm) k
    · rintro σ H' Q1 Q2 imp ⟨x1, e1, i, j, e3, e4, b, e5, e6⟩
      exact ⟨x1, e1, i, j, e3, e4, b, e5, imp _ _ e6⟩
theorem and_full {p t : Nat} (i : Nat) : has (t &&& (2 ^ p - 1)) i = (has t i && decide (i < p)) := by
  rw [has_tb, Nat.testBit_and, ← has_tb, ← has_tb, has_full]
theorem ok_Design_end {f : Addr} {fd : FuncData} (F : Fun K "end" "Design.end" s_Design_end f fd) (T : Txt K mg CD CB) : FnOk P w K mg base CX0 1 f fd ["self"] (spEnd CD) := by
  refine F.ok sc_Design_end (fun vs H Q E h => ?_) (fun cdv A outer s H vs Q E hr h => ?_)
  · obtain ⟨d, bl, as, s, rfl, _⟩ := h
    rfl
  · obtain ⟨d, bl, as, s, rfl, D, g, k⟩ := h
    obtain ⟨dx, hd⟩ := D.obj
    have p6 := g.p6
    refine ⟨_, (pss_one (ps_ret (pe_op nSub (pe_op nShl1 pe_int (pe_fld (pv 0) rfl)) pe_int))), ?_⟩
    exact ⟨_, rfl, d, CD, dx, _, _, rfl, hd, T.cl_Design, T.n_pieces, dF_pieces s bl, rfl, s.pieces, rfl, by omega, 2 ^ s.pieces, 1, rfl, rfl, Nat.two_pow_pos _, k⟩
theorem ok_Design_pieces_there {f : Addr} {fd : FuncData} (F : Fun K "pieces_there" "Design.pieces_there" s_Design_pieces_there f fd) (T : Txt K mg CD CB) (d_how_many : FnD P w K mg base "how_many" 1 ["stage"] spHowMany) (d_Design_end : MeD P w K mg base CD "end" 1 ["self"] (spEnd CD)) : FnOk P w K mg base CX0 2 f fd ["self", "stage"] (spPiecesThere CD) := by
  refine F.ok sc_Design_pieces_there (fun vs H Q E h => ?_) (fun cdv A outer s H vs Q E hr h => ?_)
  · obtain ⟨d, bl, as, s, t, rfl, _⟩ := h
    rfl
  · obtain ⟨d, bl, as, s, t, rfl, D, g, _, k⟩ := h
    obtain ⟨dx, hd⟩ := D.obj
    refine ⟨_, (pss_one (ps_ret (pe_call d_how_many.ok (hr.mono (by decide)) rfl d_how_many.mg_ d_how_many.kp d_how_many.b .nil pass0 (pa_cons (pe_op nAnd (pv 1) (pe_meth0 (pv 0) T.cl_Design d_Design_end.m d_Design_end.ok (hr.mono (by decide)) d_Design_end.b .nil pass0)) pa_nil)))), ?_⟩
    refine ⟨_, rfl, _, rfl, d, dx, _, rfl, hd, dF_no s bl (by decide +kernel) (by decide +kernel) (by decide +kernel) (by decide +kernel), d, bl, as, s, rfl, D, g, t, done s, rfl, rfl, t &&& done s, s.pieces, rfl, lt_of_has fun i hi => ?_, at_eq (congrArg nV ?_) k⟩
    · unfold Sy47.done
      rw [and_full, decide_eq_false (by omega), Bool.and_false]
    · rw [size_cnt]
      refine cnt_congr fun i hi => ?_
      unfold Sy47.done
      rw [and_full, decide_eq_true hi, Bool.and_true]
theorem has_shift (t p i : Nat) : has (t / 2 ^ p) i = has t (p + i) := by
  rw [has_div, has_div, Nat.div_div_eq_div_mul, Nat.pow_add]
theorem ok_Design_props_there {f : Addr} {fd : FuncData} (F : Fun K "props_there" "Design.props_there" s_Design_props_there f fd) (T : Txt K mg CD CB) (d_how_many : FnD P w K mg base "how_many" 1 ["stage"] spHowMany) : FnOk P w K mg base CX0 2 f fd ["self", "stage"] (spPropsThere CD) := by
  refine F.ok sc_Design_props_there (fun vs H Q E h => ?_) (fun cdv A outer s H vs Q E hr h => ?_)
  · obtain ⟨d, bl, as, s, t, rfl, _⟩ := h
    rfl
  · obtain ⟨d, bl, as, s, t, rfl, D, g, ht, k⟩ := h
    obtain ⟨dx, hd⟩ := D.obj
    refine ⟨_, (pss_one (ps_ret (pe_call d_how_many.ok (hr.mono (by decide)) rfl d_how_many.mg_ d_how_many.kp d_how_many.b .nil pass0 (pa_cons (pe_op nShr (pv 1) (pe_fld (pv 0) rfl)) pa_nil)))), ?_⟩
    refine ⟨_, rfl, _, rfl, d, CD, dx, _, _, rfl, hd, T.cl_Design, T.n_pieces, dF_pieces s bl, t, s.pieces, rfl, rfl, t / 2 ^ s.pieces, s.props, rfl, lt_of_has fun i hi => ?_, at_eq (congrArg nV ?_) k⟩
    · rw [has_shift]
      refine has_of_lt ht ?_
      unfold Sy47.things
      omega
    · rw [propsIn_cnt]
      exact cnt_congr fun i hi => has_shift t s.pieces i
theorem with_plus {t i : Nat} (c : has t i = false) : with_ t i = t + 2 ^ i := by
  unfold Sy47.with_
  rw [c]
  rfl
theorem without_minus {t i : Nat} (c : has t i = true) : without t i = t - 2 ^ i := by
  unfold Sy47.without
  rw [if_pos c]
theorem ok_Design_with_thing {f : Addr} {fd : FuncData} (F : Fun K "with_thing" "Design.with_thing" s_Design_with_thing f fd) (T : Txt K mg CD CB) (d_holds : FnD P w K mg base "holds" 1 ["stage", "part"] spHolds) : FnOk P w K mg base CX0 2 f fd ["self", "stage", "bit"] (spWithThing CD) := by
  refine F.ok sc_Design_with_thing (fun vs H Q E h => ?_) (fun cdv A outer s H vs Q E hr h => ?_)
  · obtain ⟨d, bl, as, s, t, i, rfl, _⟩ := h
    rfl
  · obtain ⟨d, bl, as, s, t, i, rfl, D, g, k⟩ := h
    refine ⟨_, (pss_cons (ps_if (pt_val (pe_call d_holds.ok (hr.mono (by decide)) rfl d_holds.mg_ d_holds.kp d_holds.b .nil pass0 (pa_cons (pv 1) (pa_cons (pv 2) pa_nil))))
     (pss_one (ps_ret pe_non))
     pss_nil)
    (pss_one (ps_ret (pe_op nAdd (pv 1) (pv 2))))), ?_⟩
    refine ⟨_, rfl, _, rfl, t, 2 ^ i, rfl, _, rfl, ?_⟩
    cases c : has t i with
    | true =>
      refine ifT (by rw [and_bit]; first | rfl | exact c) ?_
      rw [if_pos c] at k
      exact k
    | false =>
      refine ifF (by rw [and_bit]; first | rfl | exact c) ?_
      rw [if_neg (by rw [c]; exact Bool.false_ne_true), with_plus c] at k
      exact ⟨_, rfl, _, rfl, t, 2 ^ i, rfl, rfl, k⟩
theorem ok_Design_with_prop {f : Addr} {fd : FuncData} (F : Fun K "with_prop" "Design.with_prop" s_Design_with_prop f fd) (T : Txt K mg CD CB) (d_Design_props_there : MeD P w K mg base CD "props_there" 2 ["self", "stage"] (spPropsThere CD)) (d_Design_with_thing : MeD P w K mg base CD "with_thing" 2 ["self", "stage", "bit"] (spWithThing CD)) (d_Design_prop_bit : MeD P w K mg base CD "prop_bit" 1 ["self", "prop"] (spPropBit CD)) : FnOk P w K mg base CX0 3 f fd ["self", "stage", "prop"] (spWithProp CD) := by
  refine F.ok sc_Design_with_prop (fun vs H Q E h => ?_) (fun cdv A outer s H vs Q E hr h => ?_)
  · obtain ⟨d, bl, as, s, t, j, rfl, _⟩ := h
    rfl
  · obtain ⟨d, bl, as, s, t, j, rfl, D, g, ⟨hj, ht⟩, k⟩ := h
    obtain ⟨dx, hd⟩ := D.obj
    have m2 := g.m2
    refine ⟨_, (pss_cons (ps_if (pt_cmpR nGe (pe_meth (pv 0) T.cl_Design d_Design_props_there.m d_Design_props_there.ok (hr.mono (by decide)) d_Design_props_there.b .nil pass0 (pa_cons (pv 1) pa_nil)) (pe_fld (pv 0) rfl) (nomark _))
     (pss_one (ps_ret pe_non))
     pss_nil)
    (pss_one (ps_ret (pe_meth (pv 0) T.cl_Design d_Design_with_thing.m d_Design_with_thing.ok (hr.mono (by decide)) d_Design_with_thing.b .nil pass0 (pa_cons (pv 1) (pa_cons (pe_meth (pv 0) T.cl_Design d_Design_prop_bit.m d_Design_prop_bit.ok (hr.mono (by decide)) d_Design_prop_bit.b .nil pass0 (pa_cons (pv 2) pa_nil)) pa_nil)))))), ?_⟩
    refine ⟨_, rfl, d, dx, _, rfl, hd, dF_no s bl (by decide +kernel) (by decide +kernel) (by decide +kernel) (by decide +kernel), _, rfl, d, bl, as, s, t, rfl, D, g, ht, _, rfl, d, CD, dx, _, _, rfl, hd, T.cl_Design, T.n_at_once, dF_at_once s bl, propsIn s t, s.atOnce, rfl, rfl, _, rfl, ?_⟩
    by_cases c : s.atOnce ≤ propsIn s t
    · refine ifT (decide_eq_true c) ?_
      have k1 : Q (oV (if has t (s.pieces + j) = true ∨ s.atOnce ≤ propsIn s t then none else some (with_ t (s.pieces + j)))) H := k
      rw [if_pos (.inr c)] at k1
      exact k1
    · refine ifF (decide_eq_false c) ?_
      refine ⟨_, rfl, d, dx, _, rfl, hd, dF_no s bl (by decide +kernel) (by decide +kernel) (by decide +kernel) (by decide +kernel), _, rfl, _, rfl, d, dx, _, rfl, hd, dF_no s bl (by decide +kernel) (by decide +kernel) (by decide +kernel) (by decide +kernel), _, rfl, d, bl, as, s, j, rfl, D, g, by omega, d, bl, as, s, t, s.pieces + j, rfl, D, g, at_eq (congrArg oV ?_) k⟩
      by_cases c2 : has t (s.pieces + j) = true
      · rw [if_pos c2, if_pos (.inl c2)]
      · rw [if_neg c2, if_neg fun h => h.elim c2 c]
theorem ok_Design_without_prop {f : Addr} {fd : FuncData} (F : Fun K "without_prop" "Design.without_prop" s_Design_without_prop f fd) (T : Txt K mg CD CB) (d_holds : FnD P w K mg base "holds" 1 ["stage", "part"] spHolds) (d_Design_prop_bit : MeD P w K mg base CD "prop_bit" 1 ["self", "prop"] (spPropBit CD)) : FnOk P w K mg base CX0 2 f fd ["self", "stage", "prop"] (spWithoutProp CD) := by
  refine F.ok sc_Design_without_prop (fun vs H Q E h => ?_) (fun cdv A outer s H vs Q E hr h => ?_)
  · obtain ⟨d, bl, as, s, t, j, rfl, _⟩ := h
    rfl
  · obtain ⟨d, bl, as, s, t, j, rfl, D, g, hj, k⟩ := h
    obtain ⟨dx, hd⟩ := D.obj
    have m2 := g.m2
    have k1 : Q (oV (if has t (s.pieces + j) = false then none else some (without t (s.pieces + j)))) H := k
    refine ⟨_, (pss_cons (ps_set (i := 3) sc_Design_without_prop.nd rfl (Or.inl rfl) (pe_meth (pv 0) T.cl_Design d_Design_prop_bit.m d_Design_prop_bit.ok (hr.mono (by decide)) d_Design_prop_bit.b .nil pass0 (pa_cons (pv 2) pa_nil)))
    (pss_cons (ps_if (pt_not (pt_val (pe_call d_holds.ok (hr.mono (by decide)) rfl d_holds.mg_ d_holds.kp d_holds.b .nil pass0 (pa_cons (pv 1) (pa_cons (pv 3) pa_nil)))))
     (pss_one (ps_ret pe_non))
     pss_nil)
    (pss_one (ps_ret (pe_op nSub (pv 1) (pv 3)))))), ?_⟩
    refine ⟨_, rfl, d, dx, _, rfl, hd, dF_no s bl (by decide +kernel) (by decide +kernel) (by decide +kernel) (by decide +kernel), _, rfl, d, bl, as, s, j, rfl, D, g, by omega, ?_⟩
    refine ⟨_, rfl, _, rfl, t, 2 ^ (s.pieces + j), rfl, _, rfl, ?_⟩
    cases c : has t (s.pieces + j) with
    | false =>
      refine ifT (by rw [and_bit]; first | rfl | (rw [c]; rfl)) ?_
      rw [if_pos c] at k1
      exact k1
    | true =>
      refine ifF (by rw [and_bit]; first | rfl | (rw [c]; rfl)) ?_
      rw [if_neg (by rw [c]; exact fun h => Bool.noConfusion h), without_minus c] at k1
      refine ⟨_, rfl, _, rfl, t, 2 ^ (s.pieces + j), rfl, rfl, ?_, k1⟩
      rw [has_tb] at c
      exact bit_le c
theorem ok_Design_moved {f : Addr} {fd : FuncData} (F : Fun K "moved" "Design.moved" s_Design_moved f fd) (T : Txt K mg CD CB) (d_Design_with_thing : MeD P w K mg base CD "with_thing" 2 ["self", "stage", "bit"] (spWithThing CD)) (d_Design_with_prop : MeD P w K mg base CD "with_prop" 3 ["self", "stage", "prop"] (spWithProp CD)) (d_Design_without_prop : MeD P w K mg base CD "without_prop" 2 ["self", "stage", "prop"] (spWithoutProp CD)) : FnOk P w K mg base CX0 4 f fd ["self", "stage", "move"] (spMoved CD) := by
  refine F.ok sc_Design_moved (fun vs H Q E h => ?_) (fun cdv A outer s H vs Q E hr h => ?_)
  · obtain ⟨d, bl, as, s, t, j, rfl, _⟩ := h
    rfl
  · obtain ⟨d, bl, as, s, t, m, rfl, D, g, ⟨hm, ht⟩, kn, ks⟩ := h
    obtain ⟨dx, hd⟩ := D.obj
    have m2 := g.m2
    have p6 := g.p6
    rw [mem_moves] at hm
    have k1 : Q (oV (raw s t m)) H := oV_at kn ks
    unfold raw at k1
    refine ⟨_, (pss_cons (ps_if (pt_cmpR nLt (pv 2) (pe_glob (v := .int 10) rfl T.g_FIRST_PUT.choose_spec ⟨_, rfl⟩) (nomark _))
     (pss_one (ps_ret (pe_meth (pv 0) T.cl_Design d_Design_with_thing.m d_Design_with_thing.ok (hr.mono (by decide)) d_Design_with_thing.b .nil pass0 (pa_cons (pv 1) (pa_cons (pe_op nShl1 pe_int (pv 2)) pa_nil)))))
     pss_nil)
    (pss_cons (ps_if (pt_cmpR nLt (pv 2) (pe_glob (v := .int 20) rfl T.g_FIRST_TAKE.choose_spec ⟨_, rfl⟩) (nomark _))
     (pss_one (ps_ret (pe_meth (pv 0) T.cl_Design d_Design_with_prop.m d_Design_with_prop.ok (hr.mono (by decide)) d_Design_with_prop.b .nil pass0 (pa_cons (pv 1) (pa_cons (pe_op nSub (pv 2) (pe_glob (v := .int 10) rfl T.g_FIRST_PUT.choose_spec ⟨_, rfl⟩)) pa_nil)))))
     pss_nil)
    (pss_one (ps_ret (pe_meth (pv 0) T.cl_Design d_Design_without_prop.m d_Design_without_prop.ok (hr.mono (by decide)) d_Design_without_prop.b .nil pass0 (pa_cons (pv 1) (pa_cons (pe_op nSub (pv 2) (pe_glob (v := .int 20) rfl T.g_FIRST_TAKE.choose_spec ⟨_, rfl⟩)) pa_nil))))))), ?_⟩
    refine ⟨_, rfl, m, 10, rfl, rfl, _, rfl, ?_⟩
    by_cases c1 : m < 10
    · refine ifT (decide_eq_true c1) ?_
      rw [if_pos c1] at k1
      refine ⟨_, rfl, d, dx, _, rfl, hd, dF_no s bl (by decide +kernel) (by decide +kernel) (by decide +kernel) (by decide +kernel), _, rfl, _, rfl, rfl, m, rfl, by omega, ?_⟩
      refine ⟨d, bl, as, s, t, m, rfl, D, g, at_eq (congrArg oV ?_) k1⟩
      by_cases c2 : has t m = true
      · rw [if_pos c2, if_pos (.inr c2)]
      · rw [if_neg c2, if_neg fun h => h.elim (by omega) c2]
    · refine ifF (decide_eq_false c1) ?_
      rw [if_neg c1] at k1
      refine ⟨_, rfl, m, 20, rfl, rfl, _, rfl, ?_⟩
      by_cases c2 : m < 20
      · refine ifT (decide_eq_true c2) ?_
        rw [if_pos c2] at k1
        refine ⟨_, rfl, d, dx, _, rfl, hd, dF_no s bl (by decide +kernel) (by decide +kernel) (by decide +kernel) (by decide +kernel), _, rfl, _, rfl, m, 10, rfl, rfl, by omega, ?_⟩
        refine ⟨d, bl, as, s, t, m - 10, rfl, D, g, ⟨by omega, ht⟩, at_eq (congrArg oV ?_) k1⟩
        by_cases c3 : has t (s.pieces + (m - 10)) = true ∨ s.atOnce ≤ propsIn s t
        · rw [if_pos c3, if_pos (.inr c3)]
        · rw [if_neg c3, if_neg fun h => h.elim (by omega) c3]
      · refine ifF (decide_eq_false c2) ?_
        rw [if_neg c2] at k1
        refine ⟨_, rfl, d, dx, _, rfl, hd, dF_no s bl (by decide +kernel) (by decide +kernel) (by decide +kernel) (by decide +kernel), _, rfl, _, rfl, m, 20, rfl, rfl, by omega, ?_⟩
        refine ⟨d, bl, as, s, t, m - 20, rfl, D, g, by omega, at_eq (congrArg oV ?_) k1⟩
        by_cases c3 : has t (s.pieces + (m - 20)) = false
        · rw [if_pos c3, if_pos (.inr c3)]
        · rw [if_neg c3, if_neg fun h => h.elim (by omega) c3]
theorem ok_Design_stage_behind {f : Addr} {fd : FuncData} (F : Fun K "stage_behind" "Design.stage_behind" s_Design_stage_behind f fd) (T : Txt K mg CD CB) (d_Design_moved : MeD P w K mg base CD "moved" 4 ["self", "stage", "move"] (spMoved CD)) (d_Design_does_carry : MeD P w K mg base CD "does_carry" 4 ["self", "stage"] (spCarry CD)) : FnOk P w K mg base CX0 5 f fd ["self", "stage", "move"] (spBehind CD) := by
  refine F.ok sc_Design_stage_behind (fun vs H Q E h => ?_) (fun cdv A outer s H vs Q E hr h => ?_)
  · obtain ⟨d, bl, as, s, t, j, rfl, _⟩ := h
    rfl
  · obtain ⟨d, bl, as, s, t, m, rfl, D, g, hm, kn, ks⟩ := h
    obtain ⟨dx, hd⟩ := D.obj
    refine ⟨_, (pss_cons (ps_set (i := 3) sc_Design_stage_behind.nd rfl (Or.inl rfl) (pe_meth (pv 0) T.cl_Design d_Design_moved.m d_Design_moved.ok (hr.mono (by decide)) d_Design_moved.b .nil pass0 (pa_cons (pv 1) (pa_cons (pv 2) pa_nil))))
    (pss_cons (ps_if (PW.pt (pw_or (pt_cmpR op_isN (pv 3) pe_non (nomark _)) (pw_or1 (pt_not (pt_val (pe_meth (pv 0) T.cl_Design d_Design_does_carry.m d_Design_does_carry.ok (hr.mono (by decide)) d_Design_does_carry.b .nil pass0 (pa_cons (pv 3) pa_nil)))))))
     (pss_one (ps_ret pe_non))
     pss_nil)
    (pss_one (ps_ret (pv 3))))), ?_⟩
    refine ⟨_, rfl, d, dx, _, rfl, hd, dF_no s bl (by decide +kernel) (by decide +kernel) (by decide +kernel) (by decide +kernel), _, rfl, _, rfl, d, bl, as, s, t, m, rfl, D, g, hm, fun e => ?_, fun u e => ?_⟩
    · refine ⟨_, rfl, rfl, _, rfl, ?_⟩
      refine iteT ?_
      refine iteT ?_
      exact kn (by rw [moved_raw, e])
    · refine ⟨_, rfl, rfl, _, rfl, ?_⟩
      refine iteF ?_
      refine ⟨_, rfl, d, dx, _, rfl, hd, dF_no s bl (by decide +kernel) (by decide +kernel) (by decide +kernel) (by decide +kernel), _, rfl, d, bl, as, s, u, rfl, D, g, trivial, _, rfl, ?_⟩
      have em : Sy47.moved s t m = if Sy47.carries s u = true then some u else none := by rw [moved_raw, e]
      cases c : Sy47.carries s u with
      | true =>
        rw [if_pos c] at em
        refine ifF (by first | rfl | (rw [c]; rfl)) ?_
        exact ⟨_, rfl, ks u em⟩
      | false =>
        rw [if_neg (by rw [c]; exact Bool.false_ne_true)] at em
        refine ifT (by first | rfl | (rw [c]; rfl)) ?_
        exact kn em
end
end Br

set_option maxRecDepth 100000
set_option maxHeartbeats 4200000
namespace Br
open PySem PySem.Spec LamX
open PyProof.Rows L2
open PySem.W (Codec)
open Sy47 (things has with_ without propsIn done size firm carries)
section
variable {P : Program} {w : World} {K : PySem.W.Frag} {mg : Str → Option Value} {base : Heap} {CD CB : Addr}
theorem dF_room {s : Sy47.St} {bl : Addr} : (dF s bl).length < 1000 := by
  show 4 < 1000
  decide
theorem DesAt.grow {C : Addr} {H H' : Hp} {d bl : Addr} {as : List Addr} {s : Sy47.St} (D : DesAt C H d bl as s) {i : Nat} {c : Addr} {l : List Nat} {a : Nat} (h1 : as[i]? = some c) (h2 : s.rests[i]? = some l) (hc : H' c = some (.lst ((l ++ [a]).map nV))) (kp : ∀ q o, H q = some o → q ≠ c → H' q = some o) :
    DesAt C H' d bl as { s with rests := s.rests.set i (l ++ [a]) } := by
  obtain ⟨dx, hd⟩ := D.obj
  obtain ⟨l0, e0, hc0⟩ := D.at_ i c h1
  have n1 : d ≠ c := ne_of hd hc0 (by intro q; cases q)
  have n2 : bl ≠ c := fun q => by
    have := (List.nodup_cons.1 D.nd).1
    rw [q] at this
    exact this (List.mem_of_getElem? h1)
  refine ⟨⟨dx, kp d _ hd n1⟩, kp bl _ D.lst n2, D.nd, ?_, fun j c' hj => ?_⟩
  · show as.length = (s.rests.set i (l ++ [a])).length
    rw [List.length_set]
    exact D.len
  · by_cases e : j = i
    · subst e
      have ec : c' = c := Option.some.inj (hj.symm.trans h1)
      subst ec
      exact ⟨l ++ [a], List.getElem?_set_self (List.getElem?_eq_some_iff.mp h2).1, hc⟩
    · obtain ⟨l', e1, e2⟩ := D.at_ j c' hj
      have ne : c' ≠ c := fun q => e (nd_ix (List.nodup_cons.1 D.nd).2 hj (by rw [q]; exact h1))
      exact ⟨l', (List.getElem?_set_ne fun q => e q.symm).trans e1, kp c' _ e2 ne⟩
theorem ok_Design_add_base {f : Addr} {fd : FuncData} (F : Fun K "add_base" "Design.add_base" s_Design_add_base f fd) (T : Txt K mg CD CB) : FnOk P w K mg base CX0 1 f fd ["self", "piece", "base"] (spAddBase CD) := by
  refine F.ok sc_Design_add_base (fun vs H Q E h => ?_) (fun cdv A outer s H vs Q E hr h => ?_)
  · obtain ⟨d, bl, as, s, i, a, rfl, _⟩ := h
    rfl
  · obtain ⟨d, bl, as, s, i, a, rfl, D, g, hi, h4, k⟩ := h
    obtain ⟨dx, hd⟩ := D.obj
    obtain ⟨c, l, h1, h2, h3, e4, h5, h6⟩ := D.item g hi
    rw [e4] at h4 k
    refine ⟨_, (pss_cons (ps_expr (pe_bm PySem.F.plainAttrs_list PySem.F.slot_list_append PySem.F.type_list_append mt_append (pe_ix ix_list (pe_fld (pv 0) rfl) (pv 1) (fun _ _ => rfl)) (pa_cons (pv 2) pa_nil)))
    (pss_one (ps_ret (pe_callB call_len_seq (by rfl) T.len PySem.boot_len (pa_cons (pe_ix ix_list (pe_fld (pv 0) rfl) (pv 1) (fun _ _ => rfl)) pa_nil))))), ?_⟩
    refine ⟨_, rfl, d, CD, dx, _, _, rfl, hd, T.cl_Design, T.n_bases, dF_bases s bl, _, rfl, bl, _, _, _, rfl, rfl, SqL.of D.lst, at_of (j := i) rfl h2, .inl ⟨rfl, _, SqL.of h5⟩, _, rfl, c, _, _, rfl, rfl, h5, (by
      rw [List.length_map]
      show l.length < sizeLine
      exact Nat.lt_trans h4 (by decide)), ?_⟩
    have hc : (upd H c (.lst (l.map nV ++ [nV a]))) c = some (.lst ((l ++ [a]).map nV)) := by
      rw [upd_same, List.map_append]
      rfl
    have kp : ∀ q o, H q = some o → q ≠ c → (upd H c (.lst (l.map nV ++ [nV a]))) q = some o := fun q o e hq => by
      rw [upd_ne hq]
      exact e
    have D2 := D.grow h1 h3 hc kp
    obtain ⟨dx2, hd2⟩ := D2.obj
    have hbl2 := D2.lst
    refine ⟨_, rfl, d, CD, dx2, _, _, rfl, hd2, T.cl_Design, T.n_bases, dF_bases _ bl, _, rfl, bl, _, _, _, rfl, rfl, SqL.of hbl2, at_of (j := i) rfl h2, c, _, rfl, .inl (SqL.of hc), ?_⟩
    have e : V.int (((l ++ [a]).map nV).length : Int) = nV (l.length + 1) := by
      rw [List.length_map, List.length_append]
      rfl
    rw [e]
    exact k _ D2 fun q o hq hn => kp q o hq fun z => hn (by rw [z]; exact List.mem_of_getElem? h1)
theorem ok_Design_init {f : Addr} {fd : FuncData} (F : Fun K "__init__" "Design.__init__" s_Design_init f fd) (T : Txt K mg CD CB) : FnOk P w K mg base CX0 1 f fd ["self", "pieces", "props", "at_once"] (spInitD CD) := by
  refine F.ok sc_Design_init (fun vs H Q E h => ?_) (fun cdv A outer s H vs Q E hr h => ?_)
  · obtain ⟨p, dx, a, b, c, rfl, _⟩ := h
    rfl
  · obtain ⟨p, dx, a, b, c, rfl, hp, ha, k⟩ := h
    refine ⟨_, (pss_cons (ps_fld (pv 0) (pv 1) rfl)
    (pss_cons (ps_fld (pv 0) (pv 2) rfl)
    (pss_cons (ps_fld (pv 0) (pv 3) rfl)
    (pss_one (ps_fld (pv 0) (pe_lc (own := [("piece", 4)]) (g := gName 4) (tt := tYes) rfl sc_Design_init.nd (pi_range1 rfl T.range (pa_cons (pv 1) pa_nil)) (blkOk_by (own := [("piece", 4)]) (N := ["self", "pieces", "props", "at_once", "piece"]) (sc := defScope s_Design_init) (by decide +kernel)) (fun _ _ _ _ _ => pg_name (i := 4) sc_Design_init.nd rfl (Or.inl rfl)) (fun _ _ _ _ _ => pts_nil) (fun _ _ _ _ _ => (pe_lst pa_nil))) rfl))))), ?_⟩
    refine ⟨_, rfl, _, rfl, p, CD, dx, [], rfl, hp, T.cl_Design, T.n_pieces, (by show 0 < 1000; decide), ?_⟩
    refine ⟨_, rfl, _, rfl, p, CD, dx, _, rfl, upd_same, T.cl_Design, T.n_props, (by show 1 < 1000; decide), ?_⟩
    refine ⟨_, rfl, _, rfl, p, CD, dx, _, rfl, upd_same, T.cl_Design, T.n_at_once, (by show 2 < 1000; decide), ?_⟩
    have e3 : ∀ fs : List (Str × V), (∀ q, q ≠ p → (upd (upd (upd H p (.ins CD dx (putF "pieces" (nV a) []))) p (.ins CD dx (putF "props" (nV b) (putF "pieces" (nV a) [])))) p (.ins CD dx fs)) q = H q) := fun fs q hq => by
      rw [upd_ne hq, upd_ne hq, upd_ne hq]
    refine ⟨_, rfl, _, rfl, by omega, by omega, fun D hD => ?_⟩
    generalize hH3 : upd (upd (upd H p (.ins CD dx (putF "pieces" (nV a) []))) p (.ins CD dx (putF "props" (nV b) (putF "pieces" (nV a) [])))) p (.ins CD dx (putF "at_once" (nV c) (putF "props" (nV b) (putF "pieces" (nV a) [])))) = H3 at hD ⊢
    have hp3 : H3 p = some (.ins CD dx (putF "at_once" (nV c) (putF "props" (nV b) (putF "pieces" (nV a) [])))) := by
      rw [← hH3]
      exact upd_same
    have hq3 : ∀ q, q ≠ p → H3 q = H q := fun q hq => by
      rw [← hH3]
      exact e3 _ q hq
    refine lc_range (lo := 0) (n := a) (fun i H' => ∃ as : List Addr, as.length = i ∧ (D :: as).Nodup ∧ H' D = some (.lst (as.map V.ref)) ∧ (∀ c ∈ as, H' c = some (.lst [])) ∧ (∀ c ∈ D :: as, H3 c = Option.none) ∧ ∀ q o, H3 q = some o → H' q = some o) ?_ ?_ ?_
    · refine ⟨[], rfl, by simp, upd_same, (fun c hc => by cases hc), fun c hc => ?_, fun q o hq => ?_⟩
      · rw [List.mem_singleton.1 hc]
        exact hD
      · rw [upd_ne (ne_of_none hq hD)]
        exact hq
    · rintro i H' hi ⟨as, hl, hn, hDl, hs, hf, kp⟩
      refine ⟨rfl, ?_⟩
      refine ⟨Nat.zero_le _, fun l hl' => ?_⟩
      have nl : ∀ c ∈ D :: as, c ≠ l := fun c hc => by
        rcases List.mem_cons.1 hc with rfl | hc
        · exact ne_of_none hDl hl'
        · exact ne_of_none (hs c hc) hl'
      have nD := nl D (List.mem_cons_self ..)
      have hl3 : H3 l = Option.none := by
        cases e : H3 l with
        | none => rfl
        | some o =>
          rw [kp l o e] at hl'
          cases hl'
      refine ⟨as.map V.ref, by rw [upd_ne nD]; exact hDl, by rw [List.length_map, hl]; exact Nat.lt_of_lt_of_le hi (Nat.le_trans ha (by decide)), as ++ [l], ?_, ?_, ?_, ?_, ?_, ?_⟩
      · rw [List.length_append, hl]
        rfl
      · rw [← List.cons_append, List.nodup_append]
        refine ⟨hn, by simp, fun c hc b hb e => ?_⟩
        have : b = l := by simpa using hb
        exact nl c hc (e.trans this)
      · rw [upd_same, List.map_append]
        rfl
      · intro c hc
        have nc : c ≠ D := fun e => by
          rcases List.mem_append.1 hc with h | h
          · rw [e] at h
            exact (List.nodup_cons.1 hn).1 h
          · exact nD (e.symm.trans (by simpa using h))
        rw [upd_ne nc]
        rcases List.mem_append.1 hc with h | h
        · rw [upd_ne (nl c (List.mem_cons_of_mem _ h))]
          exact hs c h
        · have : c = l := by simpa using h
          rw [this]
          exact upd_same
      · intro c hc
        rw [← List.cons_append] at hc
        rcases List.mem_append.1 hc with h | h
        · exact hf c h
        · have : c = l := by simpa using h
          rw [this]
          exact hl3
      · intro q o hq
        rw [upd_ne (ne_of_none hq hD), upd_ne (ne_of_none hq hl3)]
        exact kp q o hq
    · rintro H' ⟨as, hl, hn, hDl, hs, hf, kp⟩
      have hpH : p ∉ D :: as := fun h => by
        have := hf p h
        rw [hp3] at this
        cases this
      have hpD : D ≠ p := fun e => hpH (by rw [← e]; exact List.mem_cons_self ..)
      refine ⟨_, rfl, p, CD, dx, _, rfl, kp p _ hp3, T.cl_Design, T.n_bases, (by show 3 < 1000; decide), ?_⟩
      refine k _ D as ⟨⟨dx, ?_⟩, ?_, hn, ?_, ?_⟩ (fun q o hq hne => ?_) (fun q hq => ?_)
      · exact Eq.trans upd_same (congrArg (fun z => some (HO.ins CD dx z)) (by
          show putF "bases" (.ref D) [("pieces", nV a), ("props", nV b), ("at_once", nV c)] = dF _ D
          rfl))
      · rw [upd_ne hpD]
        exact hDl
      · show as.length = (List.replicate a []).length
        rw [List.length_replicate, hl]
      · intro j c' hj
        have hm := List.mem_of_getElem? hj
        have hja : j < a := by
          have := (List.getElem?_eq_some_iff.mp hj).1
          omega
        refine ⟨[], ?_, ?_⟩
        · show (List.replicate a ([] : List Nat))[j]? = some []
          rw [List.getElem?_replicate, if_pos hja]
        · rw [upd_ne (fun e => hpH (by rw [← e]; exact List.mem_cons_of_mem _ hm))]
          exact hs c' hm
      · rw [upd_ne hne]
        exact kp q o (by rw [hq3 q hne]; exact hq)
      · have := hf q hq
        rw [hq3 q (fun e => hpH (by rw [← e]; exact hq))] at this
        exact this
end
end Br

set_option maxRecDepth 100000
set_option maxHeartbeats 4200000
namespace Br
open PySem PySem.Spec LamX
open PyProof.Rows L2
open PySem.W (Codec)
open Sy47 (things has with_ without propsIn done size firm carries)
theorem DesAt.keep {C : Addr} {H H' : Hp} {d bl : Addr} {as : List Addr} {s : Sy47.St} (D : DesAt C H d bl as s) (e : L2.Same H H') : DesAt C H' d bl as s := by
  obtain ⟨dx, hd⟩ := D.obj
  refine ⟨⟨dx, e _ _ hd⟩, e _ _ D.lst, D.nd, D.len, fun j c hj => ?_⟩
  obtain ⟨l, h1, h2⟩ := D.at_ j c hj
  exact ⟨l, h1, e _ _ h2⟩
theorem same_new {H : Hp} {p : Addr} {o : HO} (h : H p = Option.none) : L2.Same H (upd H p o) := fun q u e => by
  rw [upd_ne (ne_of_none e h)]
  exact e
/-- what isn't tracked ahead may be written -/
theorem same_wr {H H' : Hp} {p : Addr} {o : HO} (S : L2.Same H H') (h : H p = Option.none) : L2.Same H (upd H' p o) := fun q u e => by
  rw [upd_ne (ne_of_none e h)]
  exact S q u e
theorem rgV_nat (n : Nat) : rgV 0 (n : Int) = (List.range n).map nV := by
  unfold rgV
  have e : ((n : Int) - 0).toNat = n := by omega
  rw [e]
  refine List.map_congr_left fun i _ => ?_
  exact congrArg V.int (by omega)
theorem lc_rangeN {n : Nat} {g : TG} {tt : TT} {te : TE} {vs : List Nat} {σ : L2.St} {H1 : Hp} {D : Addr} {Qd : Hp → Prop} (Pv : Nat → Hp → Prop) (h0 : Pv 0 (upd H1 D (.lst [])))
    (hs : ∀ i H, i < n → Pv i H → g (nV i) (wipe σ vs) H fun σ2 H2 => wipe σ2 vs = wipe σ vs ∧ tt σ2 H2 fun b H3 =>
      if b = true then te σ2 H3 fun y H4 => ∃ acc, H4 D = some (.lst acc) ∧ acc.length < sizeLine ∧ Pv (i + 1) (upd H4 D (.lst (acc ++ [y]))) else Pv (i + 1) H3) (hd : ∀ H, Pv n H → Qd H) :
    ∃ W : Nat → Nat → Hp → Prop, (∃ m, W 0 m (upd H1 D (.lst []))) ∧ ∀ i m H, W i m H →
      ((Itr 0 n).stop i H ∧ Qd H) ∨ ((Itr 0 n).go i H ∧ ∃ Nx : Hp → Prop, (∀ H', Nx H' → ∃ m', m' < m ∧ W (i + 1) m' H') ∧ ∀ x H', (Itr 0 n).yld i H x H' → g x (wipe σ vs) H' fun σ2 H2 => wipe σ2 vs = wipe σ vs ∧ tt σ2 H2 fun b H3 =>
        if b = true then te σ2 H3 fun y H4 => ∃ acc, H4 D = some (.lst acc) ∧ acc.length < sizeLine ∧ Nx (upd H4 D (.lst (acc ++ [y]))) else Nx H3) :=
  lc_range Pv h0 (fun i H hi p => by
    have e : V.int (0 + (i : Int)) = nV i := congrArg V.int (by omega)
    rw [e]
    exact hs i H hi p) hd
theorem small9 {n : Nat} (h : n ≤ 1000) : n < sizeLine := Nat.lt_of_le_of_lt h (by decide)
section
variable {P : Program} {w : World} {K : PySem.W.Frag} {mg : Str → Option Value} {base : Heap} {CD CB : Addr}
theorem filter_len (n : Nat) (f : Nat → Bool) : ((List.range n).filter f).length ≤ n := by
  refine Nat.le_trans (List.length_filter_le _ _) ?_
  rw [List.length_range]
  exact Nat.le_refl _
theorem ok_Design_spare_pieces {f : Addr} {fd : FuncData} (F : Fun K "spare_pieces" "Design.spare_pieces" s_Design_spare_pieces f fd) (T : Txt K mg CD CB) (d_Design_end : MeD P w K mg base CD "end" 1 ["self"] (spEnd CD)) (d_Design_does_carry : MeD P w K mg base CD "does_carry" 4 ["self", "stage"] (spCarry CD)) : FnOk P w K mg base CX0 5 f fd ["self"] (spSpare CD) := by
  refine F.ok sc_Design_spare_pieces (fun vs H Q E h => ?_) (fun cdv A outer sh H vs Q E hr h => ?_)
  · obtain ⟨d, bl, as, s, rfl, _⟩ := h
    rfl
  · obtain ⟨d, bl, as, s, rfl, D, g, k⟩ := h
    obtain ⟨dx, hd⟩ := D.obj
    have p6 := g.p6
    refine ⟨_, (pss_cons (ps_set (i := 1) sc_Design_spare_pieces.nd rfl (Or.inr rfl) (pe_meth0 (pv 0) T.cl_Design d_Design_end.m d_Design_end.ok (hr.mono (by decide)) d_Design_end.b .nil pass0))
    (pss_one (ps_ret (pe_lc (own := [("piece", 2)]) (g := gName 2) rfl sc_Design_spare_pieces.nd (pi_range1 rfl T.range (pa_cons (pe_fld (pv 0) rfl) pa_nil)) (blkOk_by (own := [("piece", 2)]) (N := ["self", "end", "piece"]) (sc := defScope s_Design_spare_pieces) (by decide +kernel)) (fun _ _ _ _ _ => pg_name (i := 2) sc_Design_spare_pieces.nd rfl (Or.inl rfl)) (fun _ _ _ _ _ => (pts_one (pt_val (pe_meth (pv 0) T.cl_Design d_Design_does_carry.m d_Design_does_carry.ok (hr.mono (by decide)) d_Design_does_carry.b .nil pass0 (pa_cons (pe_op nSub (pv 1) (pe_op nShl1 pe_int (pv 2))) pa_nil))))) (fun _ _ _ _ _ => (pv 2)))))), ?_⟩
    refine ⟨_, rfl, d, dx, _, rfl, hd, dF_no s bl (by decide +kernel) (by decide +kernel) (by decide +kernel) (by decide +kernel), d, bl, as, s, rfl, D, g, ?_⟩
    refine ⟨_, rfl, d, CD, dx, _, _, rfl, hd, T.cl_Design, T.n_pieces, dF_pieces s bl, _, rfl, by omega, by omega, fun L hL => lc_rangeN (n := s.pieces) (fun i H' => L2.Same H H' ∧ H' L = some (.lst (((List.range i).filter fun i => Sy47.carries s (without (done s) i)).map nV))) ⟨same_new hL, upd_same⟩ ?_ ?_⟩
    · rintro i H' hi ⟨S, hl⟩
      have hd' := S _ _ hd
      have ho : has (done s) i = true := by
        unfold Sy47.done
        rw [has_full]
        exact decide_eq_true hi
      have hle : 2 ^ i ≤ done s := by
        rw [has_tb] at ho
        exact bit_le ho
      refine ⟨rfl, ?_⟩
      refine ⟨_, rfl, d, dx, _, rfl, hd', dF_no s bl (by decide +kernel) (by decide +kernel) (by decide +kernel) (by decide +kernel), _, rfl, _, rfl, rfl, i, rfl, by omega, done s, 2 ^ i, rfl, rfl, hle, d, bl, as, s, done s - 2 ^ i, rfl, D.keep S, g, trivial, _, rfl, ?_⟩
      have ew : without (done s) i = done s - 2 ^ i := without_minus ho
      have ef : (List.range (i + 1)).filter (fun i => Sy47.carries s (without (done s) i)) = (List.range i).filter (fun i => Sy47.carries s (without (done s) i)) ++ if Sy47.carries s (done s - 2 ^ i) = true then [i] else [] := by
        rw [List.range_succ, List.filter_append, ← ew]
        by_cases c : Sy47.carries s (without (done s) i) = true
        · rw [if_pos c, List.filter_cons, if_pos c]
          rfl
        · rw [if_neg c, List.filter_cons, if_neg c]
          rfl
      cases c : Sy47.carries s (done s - 2 ^ i) with
      | true =>
        refine ifT (by first | rfl | exact c) ?_
        refine ⟨_, rfl, _, hl, ?_, same_wr S hL, ?_⟩
        · rw [List.length_map]
          exact small9 (Nat.le_trans (filter_len _ _) (by omega))
        · rw [upd_same, ef, c]
          simp
      | false =>
        refine ifF (by first | rfl | exact c) ?_
        refine ⟨S, ?_⟩
        rw [hl, ef, c]
        simp
    · rintro H' ⟨S, hl⟩
      exact k H' L S hL hl
theorem ok_Design_moves {f : Addr} {fd : FuncData} (F : Fun K "moves" "Design.moves" s_Design_moves f fd) (T : Txt K mg CD CB) : FnOk P w K mg base CX0 1 f fd ["self"] (spMoves CD) := by
  refine F.ok sc_Design_moves (fun vs H Q E h => ?_) (fun cdv A outer sh H vs Q E hr h => ?_)
  · obtain ⟨d, bl, as, s, rfl, _⟩ := h
    rfl
  · obtain ⟨d, bl, as, s, rfl, D, g, k⟩ := h
    obtain ⟨dx, hd⟩ := D.obj
    have p6 := g.p6
    have m2 := g.m2
    refine ⟨_, (pss_cons (ps_set (i := 1) sc_Design_moves.nd rfl (Or.inl rfl) (pe_listRg rfl (by rfl) T.list (prg_1 (by rfl) T.range (pe_fld (pv 0) rfl))))
    (pss_cons (ps_setLc (i := 2) (own := [("prop", 4)]) (g := gName 4) (tt := tYes) rfl sc_Design_moves.nd rfl rfl (sw_true rfl rfl rfl (by decide +kernel)) (pi_range1 rfl T.range (pa_cons (pe_fld (pv 0) rfl) pa_nil)) (blkOk_by (own := [("prop", 4)]) (N := ["self", "lays", "puts", "takes", "prop"]) (sc := defScope s_Design_moves) (by decide +kernel)) (fun _ _ _ _ _ => pg_name (i := 4) sc_Design_moves.nd rfl (Or.inl rfl)) (fun _ _ _ _ _ => pts_nil) (fun _ _ _ _ _ => (pe_op nAdd (pe_glob (v := .int 10) rfl T.g_FIRST_PUT.choose_spec ⟨_, rfl⟩) (pv 4))))
    (pss_cons (ps_setLc (i := 3) (own := [("prop", 4)]) (g := gName 4) (tt := tYes) rfl sc_Design_moves.nd rfl rfl (sw_true rfl rfl rfl (by decide +kernel)) (pi_range1 rfl T.range (pa_cons (pe_fld (pv 0) rfl) pa_nil)) (blkOk_by (own := [("prop", 4)]) (N := ["self", "lays", "puts", "takes", "prop"]) (sc := defScope s_Design_moves) (by decide +kernel)) (fun _ _ _ _ _ => pg_name (i := 4) sc_Design_moves.nd rfl (Or.inl rfl)) (fun _ _ _ _ _ => pts_nil) (fun _ _ _ _ _ => (pe_op nAdd (pe_glob (v := .int 20) rfl T.g_FIRST_TAKE.choose_spec ⟨_, rfl⟩) (pv 4))))
    (pss_one (ps_ret (pe_op op_cat (pe_op op_cat (pv 1) (pv 2)) (pv 3))))))), ?_⟩
    refine ⟨_, rfl, d, CD, dx, _, _, rfl, hd, T.cl_Design, T.n_pieces, dF_pieces s bl, _, rfl, RgOk.of_le (by omega) (by omega) (by omega) (by omega), fun l1 n1 => ?_⟩
    rw [rgV_nat]
    have S1 : L2.Same H (upd H l1 (.lst ((List.range s.pieces).map nV))) := same_new n1
    refine ⟨_, rfl, d, CD, dx, _, _, rfl, S1 _ _ hd, T.cl_Design, T.n_props, dF_props s bl, _, rfl, by omega, by omega, fun l2 n2 => lc_rangeN (n := s.props) (fun i H' => L2.Same (upd H l1 (.lst ((List.range s.pieces).map nV))) H' ∧ H' l2 = some (.lst (((List.range i).map fun j => 10 + j).map nV))) ⟨same_new n2, upd_same⟩ ?_ ?_⟩
    · rintro i H' hi ⟨S, hl⟩
      refine ⟨rfl, _, rfl, 10, i, rfl, rfl, _, hl, ?_, same_wr S n2, ?_⟩
      · rw [List.length_map, List.length_map, List.length_range]
        exact small9 (by omega)
      · rw [upd_same, List.range_succ, List.map_append, List.map_append]
        rfl
    · rintro H2 ⟨S2, hl2⟩
      have S2' := S1.trans S2
      refine ⟨_, rfl, d, CD, dx, _, _, rfl, S2' _ _ hd, T.cl_Design, T.n_props, dF_props s bl, _, rfl, by omega, by omega, fun l3 n3 => lc_rangeN (n := s.props) (fun i H' => L2.Same H2 H' ∧ H' l3 = some (.lst (((List.range i).map fun j => 20 + j).map nV))) ⟨same_new n3, upd_same⟩ ?_ ?_⟩
      · rintro i H' hi ⟨S, hl⟩
        refine ⟨rfl, _, rfl, 20, i, rfl, rfl, _, hl, ?_, same_wr S n3, ?_⟩
        · rw [List.length_map, List.length_map, List.length_range]
          exact small9 (by omega)
        · rw [upd_same, List.range_succ, List.map_append, List.map_append]
          rfl
      · rintro H3 ⟨S3, hl3⟩
        refine ⟨_, rfl, _, rfl, l1, l2, _, _, rfl, rfl, S3 _ _ (S2 _ _ upd_same), S3 _ _ hl2, ?_, fun p4 n4 => ?_⟩
        · simp only [List.length_map, List.length_range]
          exact Nat.le_of_lt (small9 (by omega))
        have S4 : L2.Same H3 (upd H3 p4 (.lst ((List.range s.pieces).map nV ++ ((List.range s.props).map fun j => 10 + j).map nV))) := same_new n4
        refine ⟨_, rfl, p4, l3, _, _, rfl, rfl, upd_same, S4 _ _ hl3, ?_, fun p5 n5 => ?_⟩
        · simp only [List.length_map, List.length_range, List.length_append]
          exact Nat.le_of_lt (small9 (by omega))
        have S5 := ((S2'.trans S3).trans S4)
        refine k _ p5 (S5.trans (same_new n5)) (S5.free n5) ?_
        rw [upd_same]
        unfold Sy47.moves
        rw [List.map_append, List.map_append, List.append_assoc]
end
end Br

set_option maxRecDepth 100000
set_option maxHeartbeats 4200000
namespace Br
open PySem PySem.Spec LamX
open PyProof.Rows L2
open PySem.W (Codec)
open Sy47 (things has with_ without propsIn done size firm carries)
theorem in_first {x : Str} {u u2 : V} {l : List (Str × V)} : putF x u2 ((x, u) :: l) = (x, u2) :: l := by simp [putF]
theorem in_later {x y : Str} {u u2 : V} {l : List (Str × V)} (ne : ¬ y = x) : putF x u2 ((y, u) :: l) = (y, u) :: putF x u2 l := by simp [putF, ne]
theorem dF_put (s : Sy47.St) (bl L : Addr) : putF "bases" (.ref L) (dF s bl) = dF s L :=
  (in_later (by decide +kernel)).trans (congrArg _ ((in_later (by decide +kernel)).trans (congrArg _ ((in_later (by decide +kernel)).trans (congrArg _ in_first)))))
/-- a new object at p -/
theorem made_new {H H2 : Hp} {p dx C : Addr} {l : List Addr} (hp : H p = Option.none) (hdx : H dx = Option.none) (kp : ∀ q o, upd (upd H dx (.own p)) p (.ins C dx []) q = some o → q ≠ p → H2 q = some o) (fr : ∀ q ∈ l, upd (upd H dx (.own p)) p (.ins C dx []) q = Option.none) :
    L2.Same H H2 ∧ ∀ q ∈ p :: l, H q = Option.none := by
  refine ⟨fun q o h => ?_, fun q hq => ?_⟩
  · have n1 : q ≠ p := ne_of_none h hp
    refine kp q o ?_ n1
    rw [upd_ne n1, upd_ne (ne_of_none h hdx)]
    exact h
  · rcases List.mem_cons.1 hq with e | hq
    · rw [e]
      exact hp
    · have h := fr q hq
      by_cases n1 : q = p
      · rw [n1]
        exact hp
      · rw [upd_ne n1] at h
        by_cases n2 : q = dx
        · rw [n2]
          exact hdx
        · rw [upd_ne n2] at h
          exact h
def rLst (K : PySem.W.Frag) : List V → Hp → VK → Prop := fun xs H Q => ∃ p ys, xs = [.ref p] ∧ (SqL K H p ys ∨ SqT K H p ys) ∧ ∀ l, H l = Option.none → Q (.ref l) (upd H l (.lst ys))
theorem call_listK {X : Cx} {K : PySem.W.Frag} (h : X.K = K) : CallR X (.type "list") (rLst K) := by
  subst h
  exact call_list_of
section
variable {P : Program} {w : World} {K : PySem.W.Frag} {mg : Str → Option Value} {base : Heap} {CD CB : Addr}
theorem ok_Design_with_at_once {f : Addr} {fd : FuncData} (F : Fun K "with_at_once" "Design.with_at_once" s_Design_with_at_once f fd) (T : Txt K mg CD CB) (d_Design_init : MkD P w K mg base CD 1 ["self", "pieces", "props", "at_once"] (spInitD CD)) : FnOk P w K mg base CX0 3 f fd ["self", "at_once"] (spWith CD) := by
  refine F.ok sc_Design_with_at_once (fun vs H Q E h => ?_) (fun cdv A outer sh H vs Q E hr h => ?_)
  · obtain ⟨d, bl, as, s, x, rfl, _⟩ := h
    rfl
  · obtain ⟨d, bl, as, s, x, rfl, D, g, k⟩ := h
    obtain ⟨dx, hd⟩ := D.obj
    have p6 := g.p6
    have glen := g.len
    refine ⟨_, (pss_cons (ps_set (i := 2) sc_Design_with_at_once.nd rfl (Or.inl rfl) (pe_make d_Design_init.mk_ d_Design_init.ok (hr.mono (by decide)) rfl T.c_Design d_Design_init.b .nil pass0 (pa_cons (pe_fld (pv 0) rfl) (pa_cons (pe_fld (pv 0) rfl) (pa_cons (pv 1) pa_nil)))))
    (pss_cons (ps_fld (pv 2) (pe_lc (own := [("bases", 3)]) (g := gName 3) (tt := tYes) rfl sc_Design_with_at_once.nd (pi_list (pe_fld (pv 0) rfl)) (blkOk_by (own := [("bases", 3)]) (N := ["self", "at_once", "other", "bases"]) (sc := defScope s_Design_with_at_once) (by decide +kernel)) (fun _ _ _ _ _ => pg_name (i := 3) sc_Design_with_at_once.nd rfl (Or.inl rfl)) (fun _ _ _ _ _ => pts_nil) (fun _ _ _ _ _ => (pe_callTy (T := "list") (r := rLst K) (call_listK rfl) (by rfl) T.list boot_list (pa_cons (pv 3) pa_nil)))) rfl)
    (pss_one (ps_ret (pv 2))))), ?_⟩
    refine ⟨_, rfl, d, CD, dx, _, _, rfl, hd, T.cl_Design, T.n_pieces, dF_pieces s bl, _, rfl, d, CD, dx, _, _, rfl, hd, T.cl_Design, T.n_props, dF_props s bl, _, rfl, ?_⟩
    intro p dp hp hdp ne
    refine ⟨p, dp, s.pieces, s.props, x, rfl, upd_same, p6, fun H2 bl2 as2 D2 kp fr => ⟨rfl, ?_⟩⟩
    obtain ⟨S2, new2⟩ := made_new hp hdp kp fr
    obtain ⟨dq, hq2⟩ := D2.obj
    refine ⟨_, rfl, d, CD, dx, _, _, rfl, S2 _ _ hd, T.cl_Design, T.n_bases, dF_bases s bl, bl, rfl, ⟨_, SqL.of (S2 _ _ D.lst)⟩, fun L hL => ?_⟩
    refine lc_list (K := K) (a := bl) (xs := as.map V.ref) (fun i H' => ∃ cs : List Addr, cs.length = i ∧ (L :: cs).Nodup ∧ L2.Same H2 H' ∧ H' L = some (.lst (cs.map V.ref)) ∧ (∀ c ∈ cs, H2 c = Option.none) ∧ ∀ (j : Nat) (c : Addr), cs[j]? = some c → ∃ l, s.rests[j]? = some l ∧ H' c = some (.lst (l.map nV)))
      ⟨[], rfl, by simp, same_new hL, upd_same, (fun c hc => by cases hc), fun j c hc => by simp at hc⟩ (fun i H' _ h => ?_) ?_ ?_
    · obtain ⟨cs, _, _, S, _⟩ := h
      exact SqL.of (S _ _ (S2 _ _ D.lst))
    · rintro i y H' hy ⟨cs, hl, hn, S, hLl, hf, hat⟩
      obtain ⟨c0, hc0, ey⟩ : ∃ c0, as[i]? = some c0 ∧ y = V.ref c0 := by
        rw [List.getElem?_map] at hy
        cases e : as[i]? with
        | none =>
          rw [e] at hy
          cases hy
        | some c0 =>
          rw [e] at hy
          exact ⟨c0, rfl, (Option.some.inj hy).symm⟩
      subst ey
      obtain ⟨l, hr1, hr2⟩ := D.at_ i c0 hc0
      have hi6 : i < 6 := by
        have h1 := (List.getElem?_eq_some_iff.mp hc0).1
        rw [D.len, glen] at h1
        omega
      refine ⟨rfl, _, rfl, c0, _, rfl, .inl (SqL.of (S _ _ (S2 _ _ hr2))), fun q hq => ?_⟩
      have nqL : L ≠ q := ne_of_none hLl hq
      have S3 : L2.Same H2 (upd H' q (.lst (l.map nV))) := S.trans (same_new hq)
      have fq := S.free hq
      have nc : ∀ c ∈ cs, c ≠ q := fun c hc e => by
        obtain ⟨j, hj⟩ := List.getElem?_of_mem hc
        obtain ⟨l', _, h2⟩ := hat j c hj
        rw [e, hq] at h2
        cases h2
      have ncL : ∀ c ∈ cs, c ≠ L := fun c hc e => (List.nodup_cons.1 hn).1 (by rw [← e]; exact hc)
      refine ⟨cs.map V.ref, by rw [upd_ne nqL]; exact hLl, by rw [List.length_map, hl]; exact small9 (by omega), cs ++ [q], by rw [List.length_append, hl]; rfl, ?_, same_wr S3 hL, ?_, ?_, ?_⟩
      · rw [← List.cons_append, List.nodup_append]
        refine ⟨hn, by simp, fun c hc b hb e => ?_⟩
        have eb : b = q := by simpa using hb
        rcases List.mem_cons.1 hc with h | h
        · exact nqL (by rw [← h, e, eb])
        · exact nc c h (e.trans eb)
      · rw [upd_same, List.map_append]
        rfl
      · intro c hc
        rcases List.mem_append.1 hc with h | h
        · exact hf c h
        · have : c = q := by simpa using h
          rw [this]
          exact fq
      · intro j c hj
        by_cases hjl : j < cs.length
        · rw [List.getElem?_append_left hjl] at hj
          obtain ⟨l', h1, h2⟩ := hat j c hj
          have hm := List.mem_of_getElem? hj
          refine ⟨l', h1, ?_⟩
          rw [upd_ne (ncL c hm), upd_ne (nc c hm)]
          exact h2
        · rw [List.getElem?_append_right (by omega)] at hj
          have hj0 : j - cs.length = 0 := by
            have := (List.getElem?_eq_some_iff.mp hj).1
            have h1 : ([q] : List Addr).length = 1 := rfl
            omega
          rw [hj0] at hj
          have ec : c = q := (Option.some.inj hj).symm
          have ej : j = i := by omega
          rw [ec, ej]
          refine ⟨l, hr1, ?_⟩
          rw [upd_ne nqL.symm]
          exact upd_same
    · rintro H3 ⟨cs, hl, hn, S, hLl, hf, hat⟩
      rw [List.length_map] at hl
      have hp3 := S _ _ hq2
      have nLp : L ≠ p := fun e => by
        rw [e, hq2] at hL
        cases hL
      have ncp : ∀ c ∈ cs, c ≠ p := fun c hc e => by
        have := hf c hc
        rw [e, hq2] at this
        cases this
      refine ⟨_, rfl, p, CD, dq, _, rfl, hp3, T.cl_Design, T.n_bases, (by show 4 < 1000; decide), ?_⟩
      have e : (HO.ins CD dq (putF "bases" (.ref L) (dF ⟨s.pieces, s.props, x, List.replicate s.pieces [], 0⟩ bl2))) = .ins CD dq (dF { s with atOnce := x } L) := congrArg (HO.ins CD dq) (dF_put _ bl2 L)
      rw [e]
      have S4 : L2.Same H (upd H3 p (.ins CD dq (dF { s with atOnce := x } L))) := same_wr (S2.trans S) hp
      refine ⟨_, rfl, k _ p L cs S4 (fun q hq => ?_) ⟨⟨dq, upd_same⟩, by rw [upd_ne nLp]; exact hLl, hn, ?_, fun j c hj => ?_⟩⟩
      · rcases List.mem_cons.1 hq with e | hq
        · rw [e]
          exact hp
        · rcases List.mem_cons.1 hq with e | hq
          · rw [e]
            exact S2.free hL
          · exact S2.free (hf q hq)
      · show cs.length = s.rests.length
        rw [hl, D.len]
      · obtain ⟨l, h1, h2⟩ := hat j c hj
        refine ⟨l, h1, ?_⟩
        rw [upd_ne (ncp c (List.mem_of_getElem? hj))]
        exact h2
end
end Br

set_option maxRecDepth 100000
set_option maxHeartbeats 4200000
namespace Br
open PySem PySem.Spec LamX
open PyProof.Rows L2
open PySem.W (Codec)
open Sy47 (things has with_ without propsIn done size firm carries)
/-! ### the search -/
theorem next_bound {l : List Nat} (hs : l.Pairwise (· < ·)) {i m b : Nat} (h : l[i]? = some m) (hb : ∀ a ∈ l, b ≤ a ↔ a ∈ l.drop i) : b ≤ m ∧ (∀ a ∈ l, b ≤ a → ¬ a < m) ∧ ∀ a ∈ l, m + 1 ≤ a ↔ a ∈ l.drop (i + 1) := by
  have hi := (List.getElem?_eq_some_iff.mp h).1
  have em := (List.getElem?_eq_some_iff.mp h).2
  have ed : l.drop i = m :: l.drop (i + 1) := by
    rw [List.drop_eq_getElem_cons hi, em]
  have hm : m ∈ l := List.mem_of_getElem? h
  have hd : (m :: l.drop (i + 1)).Pairwise (· < ·) := by
    rw [← ed]
    exact hs.sublist (List.drop_sublist i l)
  rw [List.pairwise_cons] at hd
  refine ⟨(hb m hm).2 (by rw [ed]; exact List.mem_cons_self ..), fun a ha hba hlt => ?_, fun a ha => ⟨fun h1 => ?_, fun h1 => ?_⟩⟩
  · have := (hb a ha).1 hba
    rw [ed] at this
    rcases List.mem_cons.1 this with e | h2
    · omega
    · have := hd.1 a h2
      omega
  · have := (hb a ha).1 (by have := (hb m hm).2 (by rw [ed]; exact List.mem_cons_self ..); omega)
    rw [ed] at this
    rcases List.mem_cons.1 this with e | h2
    · omega
    · exact h2
  · exact hd.1 a h1
theorem Bfs.fit {s : Sy47.St} {t0 : Nat} {L : List (Nat × List Nat)} {h b : Nat} (B : Bfs s t0 L h b) (f : Fit s t0) {x : Nat × List Nat} (hx : x ∈ L) : Fit s x.1 := Reach.fit ⟨_, runs_walk (B.runs x hx)⟩ f
theorem Bfs.small {s : Sy47.St} (g : Good s) {t0 : Nat} {L : List (Nat × List Nat)} {h b : Nat} (B : Bfs s t0 L h b) (f : Fit s t0) : L.length ≤ 256 := by
  have h1 := length_bound (n := 2 ^ things s) B.nodup fun u hu => by
    obtain ⟨x, hx, rfl⟩ := List.mem_map.1 hu
    exact (B.fit f hx).1
  rw [List.length_map] at h1
  exact Nat.le_trans h1 (things_small g.p6 g.m2)
theorem WayAt.more {H H' : Hp} {L L' : List (Nat × List Nat)} {x : Nat × List Nat} {v : V} (w : WayAt H L x v) (hH : ∀ t xs, H t = some (.tup xs) → H' t = some (.tup xs)) (hL : ∀ y ∈ L, y ∈ L') : WayAt H' L' x v := by
  rcases w with w | ⟨t, z, m, h1, h2, h3, h4⟩
  · exact .inl w
  · exact .inr ⟨t, z, m, h1, hL z h2, h3, hH _ _ h4⟩
theorem WaysAt.key {H : Hp} {p : Addr} {kvs : List (Key × V)} {L : List (Nat × List Nat)} (W : WaysAt H p kvs L) (u : Nat) : (valV kvs (Sum.inl (u : Int)) = Option.none → u ∉ L.map (·.1)) ∧ ∀ v, valV kvs (Sum.inl (u : Int)) = some v → u ∈ L.map (·.1) := by
  constructor
  · intro h hu
    obtain ⟨x, hx, rfl⟩ := List.mem_map.1 hu
    obtain ⟨v, hv, _⟩ := W.at_ x hx
    rw [h] at hv
    cases hv
  · intro v h
    have := valV_in h
    rw [W.keys] at this
    obtain ⟨x, hx, e⟩ := List.mem_map.1 this
    have e2 : (x.1 : Int) = (u : Int) := Sum.inl.inj e
    exact List.mem_map.2 ⟨x, hx, by omega⟩
/-- what stands between two moves of the search: H ahead of the call, H' now -/
structure Srch (s : Sy47.St) (t0 : Nat) (H H' : Hp) (ml p fl : Addr) (kvs : List (Key × V)) (L : List (Nat × List Nat)) (h b : Nat) : Prop where
  same : L2.Same H H'
  mv : H' ml = some (.lst ((Sy47.moves s).map nV))
  ways : WaysAt H' p kvs L
  fnd : H' fl = some (.lst ((L.map (·.1)).map nV))
  bfs : Bfs s t0 L h b
theorem Srch.with_ {s : Sy47.St} {t0 : Nat} {H H' : Hp} {ml p fl : Addr} {kvs : List (Key × V)} {L : List (Nat × List Nat)} {h b h2 b2 : Nat} (S : Srch s t0 H H' ml p fl kvs L h b) (B : Bfs s t0 L h2 b2) : Srch s t0 H H' ml p fl kvs L h2 b2 := ⟨S.same, S.mv, S.ways, S.fnd, B⟩
/-- a stage is new -/
theorem Srch.new {s : Sy47.St} {t0 : Nat} {H H' : Hp} {ml p fl T : Addr} {kvs : List (Key × V)} {L : List (Nat × List Nat)} {h b u m : Nat} {x : Nat × List Nat} (S : Srch s t0 H H' ml p fl kvs L h b) (np : H p = Option.none) (nf : H fl = Option.none) (hT : H' T = Option.none) (e1 : p ≠ fl) (e2 : ml ≠ p) (e3 : ml ≠ fl)
    (hx : x ∈ L) (hv : valV kvs (Sum.inl (u : Int)) = Option.none) (B : Bfs s t0 (L ++ [(u, x.2 ++ [m])]) h (m + 1)) :
    Srch s t0 H (upd (upd (upd H' T (.tup [nV x.1, nV m])) p (.dK (kvs ++ [(Sum.inl (u : Int), .ref T)]))) fl (.lst ((L.map (·.1)).map nV ++ [nV u]))) ml p fl (kvs ++ [(Sum.inl (u : Int), .ref T)]) (L ++ [(u, x.2 ++ [m])]) h (m + 1) := by
  have nTp : p ≠ T := ne_of_none S.ways.obj hT
  have nTf : fl ≠ T := ne_of_none S.fnd hT
  have nTm : ml ≠ T := ne_of_none S.mv hT
  have tups : ∀ t xs, H' t = some (.tup xs) → (upd (upd (upd H' T (.tup [nV x.1, nV m])) p (.dK (kvs ++ [(Sum.inl (u : Int), .ref T)]))) fl (.lst ((L.map (·.1)).map nV ++ [nV u]))) t = some (.tup xs) := fun t xs e => by
    rw [upd_ne (ne_of e S.fnd (by intro z; cases z)), upd_ne (ne_of e S.ways.obj (by intro z; cases z)), upd_ne (ne_of_none e hT)]
    exact e
  refine ⟨same_wr (same_wr (same_wr S.same (S.same.free hT)) np) nf, ?_, ⟨?_, ?_, fun y hy => ?_⟩, ?_, B⟩
  · rw [upd_ne e3, upd_ne e2, upd_ne nTm]
    exact S.mv
  · rw [upd_ne e1]
    exact upd_same
  · rw [List.map_append, List.map_append, S.ways.keys]
    rfl
  · rcases List.mem_append.1 hy with hy | hy
    · obtain ⟨v, h1, h2⟩ := S.ways.at_ y hy
      refine ⟨v, ?_, h2.more tups fun z hz => List.mem_append.2 (.inl hz)⟩
      rw [valV_snoc _ _ _ _ hv, if_neg fun e => ?_]
      · exact h1
      · have e2 : (y.1 : Int) = (u : Int) := Sum.inl.inj e
        have e3 : y.1 = u := by omega
        exact (S.ways.key u).1 hv (by rw [← e3]; exact List.mem_map.2 ⟨y, hy, rfl⟩)
    · have ey : y = (u, x.2 ++ [m]) := by simpa using hy
      rw [ey]
      refine ⟨.ref T, ?_, .inr ⟨T, x, m, rfl, List.mem_append.2 (.inl hx), rfl, ?_⟩⟩
      · rw [valV_snoc _ _ _ _ hv, if_pos rfl]
      · rw [upd_ne nTf.symm, upd_ne nTp.symm]
        exact upd_same
  · rw [upd_same, List.map_append, List.map_append]
    rfl
section
variable {P : Program} {w : World} {K : PySem.W.Frag} {mg : Str → Option Value} {base : Heap} {CD CB : Addr}
theorem ok_ways_from {f : Addr} {fd : FuncData} (F : Fun K "ways_from" "ways_from" s_ways_from f fd) (T : Txt K mg CD CB) (d_Design_moves : MeD P w K mg base CD "moves" 1 ["self"] (spMoves CD)) (d_Design_stage_behind : MeD P w K mg base CD "stage_behind" 5 ["self", "stage", "move"] (spBehind CD)) : FnOk P w K mg base CX0 6 f fd ["design", "start"] (spWays CD) := by
  refine F.ok sc_ways_from (fun vs H Q E h => ?_) (fun cdv A outer sh H vs Q E hr h => ?_)
  · obtain ⟨d, bl, as, s, x, rfl, _⟩ := h
    rfl
  · obtain ⟨d, bl, as, s, t0, rfl, D, g, f0, k⟩ := h
    obtain ⟨dx, hd⟩ := D.obj
    have p6 := g.p6
    have m2 := g.m2
    have hsz : 1000 < sizeLine := by decide
    refine ⟨_, (pss_cons (ps_set (i := 2) sc_ways_from.nd rfl (Or.inl rfl) (pe_meth0 (pv 0) T.cl_Design d_Design_moves.m d_Design_moves.ok (hr.mono (by decide)) d_Design_moves.b .nil pass0))
    (pss_cons (ps_set (i := 3) sc_ways_from.nd rfl (Or.inl rfl) (pe_disp (pps_cons (pv 1) pe_non pps_nil) (by rfl) (by rfl) (fun z => by cases z) (by decide)))
    (pss_cons (ps_set (i := 4) sc_ways_from.nd rfl (Or.inl rfl) (pe_lst (pa_cons (pv 1) pa_nil)))
    (pss_cons (ps_set (i := 5) sc_ways_from.nd rfl (Or.inl rfl) pe_int)
    (pss_cons (ps_while PassesOwn.never (pt_cmpR nLt (pv 5) (pe_callB call_len_seq (by rfl) T.len PySem.boot_len (pa_cons (pv 4) pa_nil)) (nomark _))
     (pss_cons (ps_set (i := 6) sc_ways_from.nd rfl (Or.inl rfl) (pe_ix ix_list (pv 4) (pv 5) (fun _ _ => rfl)))
     (pss_cons (ps_set (i := 5) sc_ways_from.nd rfl (Or.inl rfl) (pe_op nAdd (pv 5) pe_int))
     (pss_one (ps_for PassesOwn.never rfl (pi_list (pv 2)) (pg_name (i := 7) sc_ways_from.nd rfl (Or.inl rfl))
      (pss_cons (ps_set (i := 8) sc_ways_from.nd rfl (Or.inl rfl) (pe_meth (pv 0) T.cl_Design d_Design_stage_behind.m d_Design_stage_behind.ok (hr.mono (by decide)) d_Design_stage_behind.b .nil pass0 (pa_cons (pv 6) (pa_cons (pv 7) pa_nil))))
      (pss_one (ps_if (PW.pt (pw_and (pt_cmpR op_notN (pv 8) pe_non (nomark _)) (pw_and1 (pt_cmp (pc_dnotin (hu_of hr) (pv 8) (pv 3))))))
       (pss_cons (ps_dput (hu_of hr) (pv 3) (pv 8) (pe_tup (pa_cons (pv 6) (pa_cons (pv 7) pa_nil))) rfl)
       (pss_one (ps_expr (pe_bm PySem.F.plainAttrs_list PySem.F.slot_list_append PySem.F.type_list_append mt_append (pv 4) (pa_cons (pv 8) pa_nil)))))
       pss_nil))))))))
    (pss_one (ps_ret (pv 3)))))))), ?_⟩
    refine ⟨_, rfl, d, dx, _, rfl, hd, dF_no s bl (by decide +kernel) (by decide +kernel) (by decide +kernel) (by decide +kernel), d, bl, as, s, rfl, D, g, fun H1 ml S1 nm hml => ?_⟩
    intro p hp
    refine ⟨_, rfl, upd_same, [(Sum.inl (t0 : Int), .non)], rfl, (by show 1 ≤ 15; decide), ?_⟩
    have em : mergeK [] [((Sum.inl (t0 : Int) : Key), V.non)] = [(Sum.inl (t0 : Int), V.non)] := rfl
    rw [em, upd_upd]
    refine ⟨_, rfl, by show 1 ≤ sizeLine; decide, fun fl hfl => ?_⟩
    have np : H p = Option.none := S1.free hp
    have S2 : L2.Same H1 (upd H1 p (.dK [(Sum.inl (t0 : Int), V.non)])) := same_new hp
    have nf : H fl = Option.none := S1.free (S2.free hfl)
    have e1 : p ≠ fl := ne_of_none upd_same hfl
    have e2 : ml ≠ p := ne_of_none hml hp
    have e3 : ml ≠ fl := ne_of_none (S2 _ _ hml) hfl
    refine while_by (fun σ H' => ∃ (h : Nat) (kvs : List (Key × V)) (L : List (Nat × List Nat)) (v6 v7 v8 : Option V), σ = [some (.ref d), some (nV t0), some (.ref ml), some (.ref p), some (.ref fl), some (nV h), v6, v7, v8] ∧ Srch s t0 H H' ml p fl kvs L h 0 ∧ h ≤ L.length)
      (fun σ _ => match σ with
        | [_, _, _, _, _, some (.int z), _, _, _] => 300 - z.toNat
        | _ => 0) ⟨0, [(Sum.inl (t0 : Int), .non)], [(t0, [])], Option.none, Option.none, Option.none, rfl, ⟨?_, ?_, ⟨?_, rfl, fun x hx => ?_⟩, upd_same, Bfs.first s t0⟩, Nat.zero_le _⟩ ?_ ?_
    · exact same_wr (same_wr S1 np) nf
    · rw [upd_ne e3]
      exact S2 _ _ hml
    · rw [upd_ne e1]
      exact upd_same
    · rw [List.mem_singleton.1 hx]
      exact ⟨.non, valV_pos rfl, .inl ⟨rfl, rfl⟩⟩
    · rintro σ H' ⟨h, kvs, L, v6, v7, v8, rfl, S, hle⟩
      have h256 := S.bfs.small g f0
      have hnl : ((L.map (·.1)).map nV).length = L.length := by rw [List.length_map, List.length_map]
      refine ⟨_, rfl, _, rfl, fl, _, rfl, .inl (SqL.of S.fnd), h, ((L.map (·.1)).map nV).length, rfl, rfl, _, rfl, ?_⟩
      by_cases hlt : h < L.length
      · refine ifT (decide_eq_true (by rw [hnl]; exact hlt)) ?_
        obtain ⟨x, hx⟩ : ∃ x, L[h]? = some x := ⟨_, List.getElem?_eq_getElem hlt⟩
        have hxL : x ∈ L := List.mem_of_getElem? hx
        have hix : ((L.map (·.1)).map nV)[h]? = some (nV x.1) := by
          rw [List.getElem?_map, List.getElem?_map, hx]
          rfl
        refine ⟨_, rfl, _, rfl, fl, _, _, _, rfl, rfl, SqL.of S.fnd, at_of (j := h) rfl hix, ?_⟩
        refine ⟨_, rfl, h, 1, rfl, rfl, ?_⟩
        refine ⟨_, rfl, ml, rfl, ⟨_, SqL.of S.mv⟩, for_list (K := K) (a := ml) (xs := (Sy47.moves s).map nV) (fun i σ H' => ∃ (kvs : List (Key × V)) (L : List (Nat × List Nat)) (b : Nat) (v7 v8 : Option V), σ = [some (.ref d), some (nV t0), some (.ref ml), some (.ref p), some (.ref fl), some (nV (h + 1)), some (nV x.1), v7, v8] ∧ Srch s t0 H H' ml p fl kvs L h b ∧ L[h]? = some x ∧ ∀ m ∈ Sy47.moves s, b ≤ m ↔ m ∈ (Sy47.moves s).drop i)
          ⟨kvs, L, 0, v7, v8, rfl, S, hx, fun m hm => ⟨fun _ => by rw [List.drop_zero]; exact hm, fun _ => Nat.zero_le _⟩⟩ (fun i σ H' _ hh => ?_) ?_ ?_⟩
        · obtain ⟨_, _, _, _, _, _, S', _⟩ := hh
          exact SqL.of S'.mv
        · rintro i y σ H2 hy ⟨kvs, L, b, v7, v8, rfl, S, hx, hb⟩
          obtain ⟨m, hm, ey⟩ : ∃ m, (Sy47.moves s)[i]? = some m ∧ y = nV m := by
            rw [List.getElem?_map] at hy
            cases e : (Sy47.moves s)[i]? with
            | none =>
              rw [e] at hy
              cases hy
            | some m =>
              rw [e] at hy
              exact ⟨m, rfl, (Option.some.inj hy).symm⟩
          subst ey
          have hmm : m ∈ Sy47.moves s := List.mem_of_getElem? hm
          have hxL : x ∈ L := List.mem_of_getElem? hx
          have h256 := S.bfs.small g f0
          obtain ⟨b1, b2, b3⟩ := next_bound (moves_sorted (s := s) (by omega) (by omega)) hm hb
          have D2 := D.keep S.same
          have fx := S.bfs.fit f0 hxL
          have skip : (∀ v, Sy47.moved s x.1 m = some v → v ∈ L.map (·.1)) → Bfs s t0 L h (m + 1) := fun hn => S.bfs.skip (by omega) fun x' hx' m' v h1 h2 h3 => by
            rw [hx] at hx'
            cases hx'
            by_cases c : m' = m
            · rw [c] at h3
              exact hn v h3
            · exact absurd (show m' < m by omega) (b2 m' (moved_mem h3) h1)
          refine ⟨_, rfl, d, dx, _, rfl, S.same _ _ hd, dF_no s bl (by decide +kernel) (by decide +kernel) (by decide +kernel) (by decide +kernel), _, rfl, _, rfl, d, bl, as, s, x.1, m, rfl, D2, g, ⟨hmm, fx.1⟩, fun e => ?_, fun u e => ?_⟩
          · refine ⟨_, rfl, rfl, _, rfl, iteF (iteF ?_)⟩
            exact ⟨kvs, L, m + 1, some (nV m), some .non, rfl, S.with_ (skip fun v hv => by rw [e] at hv; cases hv), hx, b3⟩
          · refine ⟨_, rfl, rfl, _, rfl, iteT ?_⟩
            refine ⟨_, rfl, _, rfl, p, _, rfl, DGet.k (k := Sum.inl (u : Int)) S.ways.obj, _, rfl, ?_⟩
            cases ev : valV kvs (Sum.inl (u : Int)) with
            | some v =>
              refine iteF ?_
              refine ⟨kvs, L, m + 1, some (nV m), some (nV u), rfl, S.with_ (skip fun v' hv => ?_), hx, b3⟩
              rw [e] at hv
              cases hv
              exact (S.ways.key u).2 v ev
            | none =>
              refine iteT ?_
              refine ⟨_, rfl, _, rfl, by show 2 ≤ sizeLine; decide, fun T hT => ?_⟩
              have nTp : p ≠ T := ne_of_none S.ways.obj hT
              have nTf : fl ≠ T := ne_of_none S.fnd hT
              have kl : kvs.length = L.length := by
                have := congrArg List.length S.ways.keys
                rw [List.length_map, List.length_map] at this
                exact this
              refine ⟨_, rfl, _, rfl, p, _, rfl, DPut.k (k := Sum.inl (u : Int)) (by rw [upd_ne nTp]; exact S.ways.obj) (by rw [kl]; omega), ?_⟩
              rw [putK_new _ ev]
              have hfl2 : (upd (upd H2 T (.tup [nV x.1, nV m])) p (.dK (kvs ++ [(Sum.inl (u : Int), .ref T)]))) fl = some (.lst ((L.map (·.1)).map nV)) := by
                rw [upd_ne e1.symm, upd_ne nTf]
                exact S.fnd
              refine ⟨_, rfl, .inl ⟨rfl, _, SqL.of hfl2⟩, _, rfl, fl, _, _, rfl, rfl, hfl2, by rw [List.length_map, List.length_map]; omega, ?_⟩
              refine ⟨kvs ++ [(Sum.inl (u : Int), .ref T)], L ++ [(u, x.2 ++ [m])], m + 1, some (nV m), some (nV u), rfl, S.new np nf hT e1 e2 e3 hxL ev (S.bfs.found hx e ((S.ways.key u).1 ev) b1 fun m' v' h1 h2 h3 => absurd h2 (b2 m' (moved_mem h3) h1)), ?_, b3⟩
              rw [List.getElem?_append_left (List.getElem?_eq_some_iff.mp hx).1]
              exact hx
        · rintro σ H2 ⟨kvs, L, b, v7, v8, rfl, S, hx, hb⟩
          have hlt2 := (List.getElem?_eq_some_iff.mp hx).1
          have h256 := S.bfs.small g f0
          refine ⟨⟨h + 1, kvs, L, some (nV x.1), v7, v8, rfl, S.with_ (S.bfs.next fun x' hx' m v h1 h2 => ?_), hlt2⟩, ?_⟩
          · have := (hb m (moved_mem h2)).1 h1
            rw [List.length_map, List.drop_length] at this
            cases this
          · show 300 - (h + 1) < 300 - h
            omega
      · refine ifF (decide_eq_false (by rw [hnl]; exact hlt)) ?_
        have e : h = L.length := by omega
        rw [e] at S
        exact ⟨_, rfl, k H' p kvs L S.same np S.ways S.bfs⟩
    · rintro σ H' Q1 Q2 imp ⟨x1, e1, x2, e2, a, n, e3, e4, i, j, e5, e6, b, e7, e8⟩
      exact ⟨x1, e1, x2, e2, a, n, e3, e4, i, j, e5, e6, b, e7, imp _ _ e8⟩
end
end Br

set_option maxRecDepth 100000
set_option maxHeartbeats 4200000
namespace Br
open PySem PySem.Spec PyProof.Rows L2 LamX NdefX
open PySem.W (Codec)
open Sy47 (things has with_ without propsIn done size firm carries)
theorem levels_len {s : Sy47.St} : ∀ (f : Nat) (now rest : List Nat), (Sy47.levels s f now rest).length ≤ f
  | 0, _, _ => Nat.le_refl _
  | f + 1, now, rest => by
    unfold Sy47.levels
    split
    · exact Nat.zero_le _
    · rw [List.length_cons]
      exact Nat.succ_le_succ (levels_len f _ _)
theorem dist_small {s : Sy47.St} {t k : Nat} (h : Sy47.distance (Sy47.fromEnd s) t = some k) : k ≤ 520 := by
  have h1 : (Sy47.fromEnd s).length ≤ 520 := by
    unfold Sy47.fromEnd
    split
    · exact levels_len _ _ _
    · exact Nat.zero_le _
  unfold Sy47.distance at h
  have := List.findIdx?_eq_some_iff_getElem.1 h
  obtain ⟨h2, _⟩ := this
  omega
theorem TabS.off {H : Hp} {t p : Addr} {q : Str} {u o : HO} (h : TabS H t q) (hp : H p = some u) (n1 : ∀ ps, u ≠ .tbl ps) (n2 : ∀ c, u ≠ CodeO c q) : TabS (upd H p o) t q := by
  obtain ⟨ps, h1, h2, h3⟩ := h
  refine ⟨ps, ?_, h2, fun pos cv hc => ?_⟩
  · rw [upd_ne (ne_of h1 hp fun z => n1 ps z.symm)]
    exact h1
  · obtain ⟨c, e1, e2⟩ := h3 pos cv hc
    refine ⟨c, e1, ?_⟩
    rw [upd_ne (ne_of e2 hp fun z => n2 c z.symm)]
    exact e2
theorem codeO_dK {c : Addr} {q : Str} (kvs : List (Key × V)) : HO.dK kvs ≠ CodeO c q := fun z => by
  unfold CodeO at z
  cases z
theorem codeO_frz {c : Addr} {q : Str} (o : Obj) (u : HO) : HO.frz o u ≠ CodeO c q := fun z => by
  unfold CodeO at z
  cases z
theorem DesAt.part {C : Addr} {H H' : Hp} {d bl : Addr} {as : List Addr} {s : Sy47.St} (D : DesAt C H d bl as s) (e : ∀ q o, H q = some o → (∃ dx fs, o = .ins C dx fs) ∨ (∃ xs, o = .lst xs) → H' q = some o) : DesAt C H' d bl as s := by
  obtain ⟨dx, hd⟩ := D.obj
  refine ⟨⟨dx, e _ _ hd (.inl ⟨_, _, rfl⟩)⟩, e _ _ D.lst (.inr ⟨_, rfl⟩), D.nd, D.len, fun j c hj => ?_⟩
  obtain ⟨l, h1, h2⟩ := D.at_ j c hj
  exact ⟨l, h1, e _ _ h2 (.inr ⟨_, rfl⟩)⟩
/-- the key: the more pieces the less, then the number -/
def farK (s : Sy47.St) (n : Int) : List Int := [-((size s.pieces n.toNat : Nat) : Int), n]
theorem lex2 (a b c d : Int) : HT.lexLt [a, b] [c, d] = true ↔ a < c ∨ (a = c ∧ b < d) := by
  unfold HT.lexLt
  by_cases h : a = c
  · rw [if_pos h]
    unfold HT.lexLt
    by_cases h2 : b = d
    · rw [if_pos h2]
      show (false = true) ↔ _
      constructor
      · intro z
        cases z
      · intro z
        omega
    · rw [if_neg h2, decide_eq_true_iff]
      omega
  · rw [if_neg h, decide_eq_true_iff]
    omega
theorem farK_ok (s : Sy47.St) : KeyOk (farK s) where
  irr := fun a => by
    cases e : HT.lexLt (farK s a) (farK s a) with
    | false => rfl
    | true =>
      have := (lex2 _ _ _ _).1 e
      omega
  tr := fun a b c h1 h2 => by
    have e1 := (lex2 _ _ _ _).1 h1
    have e2 := (lex2 _ _ _ _).1 h2
    refine (lex2 _ _ _ _).2 ?_
    omega
theorem far_best {s : Sy47.St} {l : List Nat} {n : Int} (h : Lst (farK s) (l.map fun (m : Nat) => (m : Int)) n) : ∃ m : Nat, n = (m : Int) ∧ Best s.pieces l m := by
  obtain ⟨h1, h2⟩ := h
  obtain ⟨m, hm, rfl⟩ := List.mem_map.1 h1
  refine ⟨m, rfl, hm, fun x hx => ?_⟩
  have h3 := h2 (x : Int) (List.mem_map.2 ⟨x, hx, rfl⟩)
  have h4 : ¬ (-((size s.pieces x : Nat) : Int) < -((size s.pieces m : Nat) : Int) ∨ (-((size s.pieces x : Nat) : Int) = -((size s.pieces m : Nat) : Int) ∧ (x : Int) < (m : Int))) := fun z => by
    have e := (lex2 _ _ _ _).2 z
    have e2 : HT.lexLt (farK s (x : Int)) (farK s (m : Int)) = true := e
    rw [h3] at e2
    cases e2
  unfold Better
  omega
theorem find_first {p : Nat → Bool} : ∀ {n i : Nat}, i < n → p i = true → (∀ j, j < i → p j = false) → (List.range n).find? p = some i := by
  intro n i hi hp hn
  rw [List.find?_eq_some_iff_getElem]
  refine ⟨hp, i, by rw [List.length_range]; exact hi, List.getElem_range _, fun j hj => ?_⟩
  rw [List.getElem_range, hn j hj]
  rfl
/-- a def whose code object is known -/
structure FunC (K : PySem.W.Frag) (x qual : Str) (st : Stmt) (f : Addr) (fd : FuncData) (c : Addr) : Prop where
  ex : ∃ (oc : Value) (od : Option Addr) (kV doc pm : Value) (an : Option Addr) (ct : Value) (osl : Array (Option Value)),
    fd = PySem.W.fnOf x qual (defArgs st) (defBody st) (defScope st) .none kV doc pm an (.ref c) ct ∧ K.lookup f = some ⟨oc, od, .func fd, osl⟩ ∧ PySem.W.codeIn K (.ref c) qual = true
theorem funC_mk {K : PySem.W.Frag} {x qual : Str} {st : Stmt} {f c : Addr} {oc : Value} {od an : Option Addr} {osl : Array (Option Value)} {kV doc pm ct : Value} (l : K.lookup f = some ⟨oc, od, .func (PySem.W.fnOf x qual (defArgs st) (defBody st) (defScope st) .none kV doc pm an (.ref c) ct), osl⟩)
    (h : PySem.W.codeIn K (.ref c) qual = true) : FunC K x qual st f (PySem.W.fnOf x qual (defArgs st) (defBody st) (defScope st) .none kV doc pm an (.ref c) ct) c := ⟨⟨oc, od, kV, doc, pm, an, ct, osl, rfl, l, h⟩⟩
theorem FunC.ok {P : Program} {w : World} {K : PySem.W.Frag} {mg : Str → Option Value} {base : Heap} {x qual : Str} {st : Stmt} {f c : Addr} {fd : FuncData} {N ps : List Str} {k : Nat} {sp : Sp} (F : FunC K x qual st f fd c) (S : FnScope N ps (defScope st)) (len : ∀ vs H Q E, sp vs H Q E → vs.length = ps.length)
    (hbody : ∀ (A : Around) (outer : List Env) (s : Shared) (H : Hp) (vs : List V) (Q : VK) (E : XK), Room k (A.deeper (envOfC qual (defScope st) s.heap.objs.size f (.ref c))) → sp vs H Q E →
      ∃ t, PSs (cxOf L2.CX0 P w K mg base N qual (defScope st) f (.ref c) A outer s H E).nox (defBody st) t ∧ t { nx := fun _ H' => Q .non H', rt := Q } (L2.start N vs) H) : FnOk P w K mg base L2.CX0 (k + 1) f fd ps sp := by
  obtain ⟨oc, od, kV, doc, pm, an, ct, osl, rfl, lk, hcd⟩ := F.ex
  refine fn_of lk hcd S len fun A outer s H vs Q E hr hsp => ?_
  obtain ⟨t, h, q⟩ := hbody A outer s H vs Q E hr hsp
  exact ⟨t, h.nox, q⟩
section
variable {P : Program} {w : World} {K : PySem.W.Frag} {mg : Str → Option Value} {base : Heap} {CD CB : Addr}
theorem ok_plan_from {f : Addr} {fd : FuncData} (F : Fun K "plan_from" "plan_from" s_plan_from f fd) (T : Txt K mg CD CB) (d_ways_from : FnD P w K mg base "ways_from" 6 ["design", "start"] (spWays CD)) (d_Design_end : MeD P w K mg base CD "end" 1 ["self"] (spEnd CD)) : FnOk P w K mg base L2.CX0 7 f fd ["design", "start"] (spPlan CD) := by
  refine F.ok sc_plan_from (fun vs H Q E h => ?_) (fun cdv A outer sh H vs Q E hr h => ?_)
  · obtain ⟨d, bl, as, s, x, rfl, _⟩ := h
    rfl
  · obtain ⟨d, bl, as, s, t0, rfl, D, g, f0, kn, ks⟩ := h
    obtain ⟨dx, hd⟩ := D.obj
    have p6 := g.p6
    have m2 := g.m2
    have hsz : 1000 < sizeLine := by decide
    refine ⟨_, (pss_cons (ps_set (i := 2) sc_plan_from.nd rfl (Or.inl rfl) (pe_call d_ways_from.ok (hr.mono (by decide)) rfl d_ways_from.mg_ d_ways_from.kp d_ways_from.b .nil pass0 (pa_cons (pv 0) (pa_cons (pv 1) pa_nil))))
    (pss_cons (ps_set (i := 3) sc_plan_from.nd rfl (Or.inl rfl) (pe_meth0 (pv 0) T.cl_Design d_Design_end.m d_Design_end.ok (hr.mono (by decide)) d_Design_end.b .nil pass0))
    (pss_cons (ps_if (pt_cmp (pc_dnotin (hu_of hr) (pv 3) (pv 2)))
     (pss_one (ps_ret pe_non))
     pss_nil)
    (pss_cons (ps_set (i := 4) sc_plan_from.nd rfl (Or.inl rfl) (pe_lst pa_nil))
    (pss_cons (ps_set (i := 5) sc_plan_from.nd rfl (Or.inl rfl) (pe_dget (hu_of hr) (pv 2) (pv 3) (fun _ _ => rfl)))
    (pss_cons (ps_while PassesOwn.never (pt_cmpR op_notN (pv 5) pe_non (nomark _))
     (pss_cons (ps_expr (pe_bm PySem.F.plainAttrs_list PySem.F.slot_list_append PySem.F.type_list_append mt_append (pv 4) (pa_cons (pe_ix ix_tup (pv 5) pe_int (fun _ _ => rfl)) pa_nil)))
     (pss_one (ps_set (i := 5) sc_plan_from.nd rfl (Or.inl rfl) (pe_dget (hu_of hr) (pv 2) (pe_ix ix_tup (pv 5) pe_int (fun _ _ => rfl)) (fun _ _ => rfl))))))
    (pss_one (ps_ret (pe_listRev rfl (by rfl) T.list (by rfl) T.reversed (pv 4)))))))))), ?_⟩
    refine ⟨_, rfl, _, rfl, d, bl, as, s, t0, rfl, D, g, f0, fun H1 p kvs L S1 np W B => ?_⟩
    refine ⟨_, rfl, d, dx, _, rfl, S1 _ _ hd, dF_no s bl (by decide +kernel) (by decide +kernel) (by decide +kernel) (by decide +kernel), d, bl, as, s, rfl, D.keep S1, g, ?_⟩
    refine ⟨_, rfl, _, rfl, p, _, rfl, DGet.k (k := Sum.inl ((done s : Nat) : Int)) W.obj, _, rfl, ?_⟩
    cases ev : valV kvs (Sum.inl ((done s : Nat) : Int)) with
    | none =>
      refine iteT ?_
      refine kn (no_plan p6 m2 f0 fun r => (W.key (done s)).1 ev ((B.reach _).2 r)) H1 S1
    | some v =>
      refine iteF ?_
      obtain ⟨x, hx, ex⟩ := List.mem_map.1 ((W.key (done s)).2 v ev)
      have hpl := B.plan hx
      rw [ex] at hpl
      obtain ⟨e1, e2⟩ := Least.plan p6 m2 f0 hpl
      have h520 := dist_small e1
      refine ⟨by show 0 ≤ sizeLine; decide, fun ml hml => ?_⟩
      have nml : H ml = Option.none := S1.free hml
      have S2 : L2.Same H1 (upd H1 ml (.lst [])) := same_new hml
      have hw : ∀ {H' : Hp} {z : Nat × List Nat}, L2.Same H1 H' → z ∈ L → ∃ v', DGet H' p (nV z.1) (some v') ∧ WayAt H' L z v' := fun {H' z} S hz => by
        obtain ⟨v', h1, h2⟩ := W.at_ z hz
        refine ⟨v', ?_, h2.more (fun t xs e => S _ _ e) fun y hy => hy⟩
        have := DGet.k (k := Sum.inl (z.1 : Int)) (S _ _ W.obj)
        rw [h1] at this
        exact this
      obtain ⟨v1, g1, w1⟩ := hw S2 hx
      rw [ex] at g1
      refine ⟨_, rfl, _, rfl, p, v1, rfl, g1, ?_⟩
      refine while_by (fun σ H' => ∃ (z : Nat × List Nat) (ms : List Nat) (v : V), σ = [some (.ref d), some (nV t0), some (.ref p), some (nV (done s)), some (.ref ml), some v] ∧ L2.Same H1 H' ∧ H' ml = some (.lst (ms.map nV)) ∧ z ∈ L ∧ WayAt H' L z v ∧ z.2 ++ ms.reverse = x.2)
        (fun σ H' => match H' ml with
          | some (.lst xs) => x.2.length + 1 - xs.length
          | _ => 0) ⟨x, [], v1, rfl, S2, upd_same, hx, w1, by simp⟩ ?_ ?_
      · rintro σ H' ⟨z, ms, v, rfl, S, hm, hz, wz, ez⟩
        have hlen : z.2.length + ms.length = x.2.length := by
          have := congrArg List.length ez
          rw [List.length_append, List.length_reverse] at this
          exact this
        rcases wz with ⟨z0, rfl⟩ | ⟨t, y, m, rfl, hy, e3, ht⟩
        · refine ⟨_, rfl, rfl, _, rfl, iteF ?_⟩
          refine ⟨_, rfl, ml, _, rfl, SqL.of hm, fun q hq => ?_⟩
          rw [z0, List.nil_append] at ez
          have SH := (S1.trans S)
          refine ks x.2.length e1 (by rw [e2]) h520 _ q (SH.trans (same_new hq)) (SH.free hq) ?_
          rw [upd_same, e2, ← ez, List.map_reverse]
        · refine ⟨_, rfl, rfl, _, rfl, iteT ?_⟩
          rw [e3, List.length_append] at hlen
          have h1 : ([m] : List Nat).length = 1 := rfl
          refine ⟨_, rfl, .inl ⟨rfl, _, SqL.of hm⟩, _, rfl, t, _, 1, _, rfl, rfl, SqT.of ht, at_of (j := 1) rfl rfl, ml, _, _, rfl, rfl, hm, by rw [List.length_map]; omega, ?_⟩
          have nt : t ≠ ml := ne_of ht hm (by intro z; cases z)
          have S3 : L2.Same H1 (upd H' ml (.lst (ms.map nV ++ [nV m]))) := same_wr S hml
          have ht3 : (upd H' ml (.lst (ms.map nV ++ [nV m]))) t = some (.tup [nV y.1, nV m]) := by
            rw [upd_ne nt]
            exact ht
          obtain ⟨v3, g3, w3⟩ := hw S3 hy
          refine ⟨_, rfl, _, rfl, t, _, 0, _, rfl, rfl, SqT.of ht3, at_of (j := 0) rfl rfl, p, v3, rfl, g3, ?_⟩
          refine ⟨⟨y, ms ++ [m], v3, rfl, S3, ?_, hy, w3, ?_⟩, ?_⟩
          · rw [upd_same, List.map_append]
            rfl
          · rw [List.reverse_append, ← ez, e3, List.append_assoc]
            rfl
          · show (match (upd H' ml (.lst (ms.map nV ++ [nV m]))) ml with
              | some (.lst xs) => x.2.length + 1 - xs.length
              | _ => 0) < (match H' ml with
              | some (.lst xs) => x.2.length + 1 - xs.length
              | _ => 0)
            rw [upd_same, hm]
            show x.2.length + 1 - (ms.map nV ++ [nV m]).length < x.2.length + 1 - (ms.map nV).length
            rw [List.length_append, List.length_map]
            have h1 : ([nV m] : List V).length = 1 := rfl
            omega
      · rintro σ H' Q1 Q2 imp ⟨x1, e1, e2, b, e3, e4⟩
        exact ⟨x1, e1, e2, b, e3, imp _ _ e4⟩
end
end Br

set_option maxRecDepth 100000
set_option maxHeartbeats 4200000
namespace Br
open PySem PySem.Spec PyProof.Rows L2 LamX NdefX
open PySem.W (Codec)
open Sy47 (things has with_ without propsIn done size firm carries)
theorem find_none {p : Nat → Bool} {n : Nat} (hn : ∀ j, j < n → p j = false) : (List.range n).find? p = none := by
  rw [List.find?_eq_none]
  intro j hj
  rw [hn j (List.mem_range.1 hj)]
  exact Bool.false_ne_true
theorem good_anew {s : Sy47.St} (g : Good s) {k : Nat} (hk : k ≤ s.props) : Good (Sy47.anew s k) := ⟨g.p1, g.p6, g.m2, hk, g.len, g.four, g.base, fit_zero _⟩
theorem wl_take {rows : List (List Int)} {i : Nat} {r : List Int} (h : rows[i]? = some r) : wl (rows.take (i + 1)) = wl (rows.take i) ++ ((r.length : Int) :: r) := by
  unfold wl
  rw [List.take_add_one, h, List.flatMap_append]
  simp
theorem wl_len (rows : List (List Int)) (i : Nat) : (wl (rows.take i)).length ≤ (wl rows).length := by
  have e : wl rows = wl (rows.take i) ++ wl (rows.drop i) := by
    unfold wl
    rw [← List.flatMap_append, List.take_append_drop]
  rw [e, List.length_append]
  omega
section
variable {P : Program} {w : World} {K : PySem.W.Frag} {mg : Str → Option Value} {base : Heap} {CD CB : Addr}
theorem ok_props_needed {f : Addr} {fd : FuncData} (F : Fun K "props_needed" "props_needed" s_props_needed f fd) (T : Txt K mg CD CB) (d_plan_from : FnD P w K mg base "plan_from" 7 ["design", "start"] (spPlan CD)) (d_Design_with_at_once : MeD P w K mg base CD "with_at_once" 3 ["self", "at_once"] (spWith CD)) : FnOk P w K mg base L2.CX0 8 f fd ["design"] (spNeeded CD) := by
  refine F.ok sc_props_needed (fun vs H Q E h => ?_) (fun cdv A outer sh H vs Q E hr h => ?_)
  · obtain ⟨d, bl, as, s, rfl, _⟩ := h
    rfl
  · obtain ⟨d, bl, as, s, rfl, D, g, kn, ks⟩ := h
    obtain ⟨dx, hd⟩ := D.obj
    have m2 := g.m2
    refine ⟨_, (pss_cons (ps_for PassesOwn.never rfl (pi_range1 rfl T.range (pa_cons (pe_op nAdd (pe_fld (pv 0) rfl) pe_int) pa_nil)) (pg_name (i := 1) sc_props_needed.nd rfl (Or.inl rfl))
     (pss_one (ps_if (pt_cmpR op_notN (pe_call d_plan_from.ok (hr.mono (by decide)) rfl d_plan_from.mg_ d_plan_from.kp d_plan_from.b .nil pass0 (pa_cons (pe_meth (pv 0) T.cl_Design d_Design_with_at_once.m d_Design_with_at_once.ok (hr.mono (by decide)) d_Design_with_at_once.b .nil pass0 (pa_cons (pv 1) pa_nil)) (pa_cons pe_int pa_nil))) pe_non (nomark _))
      (pss_one (ps_ret (pv 1)))
      pss_nil)))
    (pss_one (ps_ret pe_non))), ?_⟩
    refine ⟨_, rfl, d, CD, dx, _, _, rfl, hd, T.cl_Design, T.n_props, dF_props s bl, s.props, 1, rfl, rfl, _, rfl, by omega, by omega, for_rangeN (n := s.props + 1) (fun i σ H' => L2.Same H H' ∧ (∃ v : Option V, σ = [some (.ref d), v]) ∧ ∀ j, j < i → Sy47.can (Sy47.anew s j) = false) ⟨L2.Same.refl H, ⟨Option.none, rfl⟩, fun j hj => by omega⟩ ?_ ?_⟩
    · rintro i σ H' hi ⟨S, ⟨v, rfl⟩, hn⟩
      have ec : Sy47.can (Sy47.anew s i) = (Sy47.distance (Sy47.fromEnd (Sy47.anew s i)) 0).isSome := rfl
      refine ⟨_, rfl, d, dx, _, rfl, S _ _ hd, dF_no s bl (by decide +kernel) (by decide +kernel) (by decide +kernel) (by decide +kernel), _, rfl, d, bl, as, s, i, rfl, D.keep S, g, fun H2 p bl2 as2 S2 new2 D2 => ?_⟩
      refine ⟨p, bl2, as2, Sy47.anew s i, 0, rfl, ⟨D2.obj, D2.lst, D2.nd, D2.len, D2.at_⟩, good_anew g (by omega), fit_zero _, fun he H3 S3 => ?_, fun k hk hlen h520 H3 q S3 nq hq => ?_⟩
      · refine ⟨rfl, _, rfl, iteF ?_⟩
        refine ⟨(S.trans S2).trans S3, ⟨_, rfl⟩, fun j hj => ?_⟩
        by_cases c : j = i
        · rw [c, ec, he]
          rfl
        · exact hn j (by omega)
      · refine ⟨rfl, _, rfl, iteT ?_⟩
        exact ⟨_, rfl, ks i (find_first hi (by rw [ec, hk]; rfl) hn) H3 ((S.trans S2).trans S3)⟩
    · rintro σ H' ⟨S, ⟨v, rfl⟩, hn⟩
      exact kn (find_none hn) H' S
theorem ok_with_lengths {f : Addr} {fd : FuncData} (F : Fun K "with_lengths" "with_lengths" s_with_lengths f fd) (T : Txt K mg CD CB) : FnOk P w K mg base L2.CX0 1 f fd ["rows"] (spWl K) := by
  refine F.ok sc_with_lengths (fun vs H Q E h => ?_) (fun cdv A outer sh H vs Q E hr h => ?_)
  · obtain ⟨a, as, rows, rfl, _⟩ := h
    rfl
  · obtain ⟨a, as, rows, rfl, hS, ⟨hl, hat⟩, hz, k⟩ := h
    have hsz : 12000000 < sizeLine := by decide
    refine ⟨_, (pss_cons (ps_set (i := 1) sc_with_lengths.nd rfl (Or.inl rfl) (pe_lst pa_nil))
    (pss_cons (ps_for PassesOwn.never rfl (pi_list (pv 0)) (pg_name (i := 2) sc_with_lengths.nd rfl (Or.inl rfl))
     (pss_cons (ps_expr (pe_bm PySem.F.plainAttrs_list PySem.F.slot_list_append PySem.F.type_list_append mt_append (pv 1) (pa_cons (pe_callB call_len_seq (by rfl) T.len PySem.boot_len (pa_cons (pv 2) pa_nil)) pa_nil)))
     (pss_one (ps_expr (pe_bm PySem.F.plainAttrs_list PySem.F.slot_list_extend PySem.F.type_list_extend mt_extend (pv 1) (pa_cons (pv 2) pa_nil))))))
    (pss_one (ps_ret (pv 1))))), ?_⟩
    refine ⟨by show 0 ≤ sizeLine; decide, fun tl htl => ?_⟩
    refine ⟨_, rfl, a, rfl, ⟨_, (same_new htl).seq hS⟩, for_list (K := K) (a := a) (xs := as.map V.ref) (fun i σ H' => L2.Same H H' ∧ H' tl = some (.lst ((wl (rows.take i)).map V.int)) ∧ ∃ v : Option V, σ = [some (.ref a), some (.ref tl), v]) ⟨same_new htl, upd_same, Option.none, rfl⟩ (fun i σ H' _ h => h.1.seq hS) ?_ ?_⟩
    · rintro i y σ H' hy ⟨S, ht, v, rfl⟩
      obtain ⟨c, hc, ey⟩ : ∃ c, as[i]? = some c ∧ y = V.ref c := by
        rw [List.getElem?_map] at hy
        cases e : as[i]? with
        | none =>
          rw [e] at hy
          cases hy
        | some c =>
          rw [e] at hy
          exact ⟨c, rfl, (Option.some.inj hy).symm⟩
      subst ey
      obtain ⟨r, hr1, hr2⟩ := hat i c hc
      have hcH := S _ _ hr2
      have w1 := wl_take hr1
      have w2 := wl_len rows (i + 1)
      rw [w1, List.length_append, List.length_cons] at w2
      have nct : c ≠ tl := ne_of_none hr2 htl
      refine ⟨_, rfl, .inl ⟨rfl, _, SqL.of ht⟩, _, rfl, c, _, rfl, .inl (SqL.of hcH), tl, _, _, rfl, rfl, ht, by rw [List.length_map]; omega, ?_⟩
      have el : V.int ((r.map V.int).length : Int) = .int (r.length : Int) := by rw [List.length_map]
      rw [el]
      refine ⟨_, rfl, .inl ⟨rfl, _, SqL.of upd_same⟩, _, rfl, tl, c, _, _, rfl, rfl, upd_same, by rw [upd_ne nct]; exact hcH, ?_, ?_⟩
      · rw [List.length_append, List.length_map, List.length_map]
        have h1 : ([V.int (r.length : Int)] : List V).length = 1 := rfl
        omega
      · refine ⟨same_wr (same_wr S htl) htl, ?_, _, rfl⟩
        rw [upd_same, w1, List.map_append, List.append_assoc]
        rfl
    · rintro σ H' ⟨S, ht, v, rfl⟩
      rw [List.length_map, hl, List.take_length] at ht
      exact ⟨_, rfl, k H' tl S htl ht⟩
theorem ok_furthest {f c t : Addr} {fd : FuncData} (F : FunC K "furthest" "furthest" s_furthest f fd c) (T : Txt K mg CD CB) (TB : TabB base mg c t) (d_Design_pieces_there : MeD P w K mg base CD "pieces_there" 2 ["self", "stage"] (spPiecesThere CD)) : FnOk P w K mg base L2.CX0 5 f fd ["design", "stages"] (spFar CD t) := by
  refine F.ok sc_furthest (fun vs H Q E h => ?_) (fun A outer sh H vs Q E hr h => ?_)
  · obtain ⟨d, bl, as, s, p, kvs, l, rfl, _⟩ := h
    rfl
  · obtain ⟨d, bl, as, s, p, kvs, l, rfl, D, g, hp, hk, hne, hT, k⟩ := h
    obtain ⟨dx, hd⟩ := D.obj
    refine ⟨_, pss_one (ps_ret (pe_lock (pe_minKey (k := 2) (T := [(t, lamN)]) (kf := farK s) (tb := fun H σ is => DesAt CD H d bl as s ∧ (∃ v : Option V, σ = [some (.ref d), v]) ∧ ∀ n ∈ is, ∃ m : Nat, n = (m : Int)) (x := "stage") (N := ["stage", "design"]) (fr := ["design"]) (js := [0]) (farK_ok s) rfl hr (by rfl) T.min (pv 1)
      TB rfl (List.mem_singleton.mpr rfl) (fun q hq _ => by rw [List.mem_singleton.mp hq]; rfl) rfl (nscope_by (by decide +kernel)) (ndef_free (sc := defScope s_furthest) (fr := ["design"]) (by decide +kernel)) (ndef_fr (sc := defScope s_furthest) (by decide +kernel)) rfl (fun _ _ _ _ _ _ => rfl)
      (fun H1 H2 σ is a b => ⟨a.1.keep b, a.2⟩) (fun f c' A outer s2 H σ is a hr2 => ⟨_, pe_tup (pa_cons (pe_un un_neg (pe_meth (pv 1) T.cl_Design d_Design_pieces_there.m d_Design_pieces_there.ok (hr2.mono (by decide)) d_Design_pieces_there.b .nil pass0 (pa_cons (pv 0) pa_nil))) (pa_cons (pv 0) pa_nil)), ?_⟩)))), ?_⟩
    · obtain ⟨D2, ⟨v, rfl⟩, hm⟩ := a
      intro n hn
      obtain ⟨m, rfl⟩ := hm n hn
      obtain ⟨dx2, hd2⟩ := D2.obj
      refine ⟨_, rfl, d, dx2, _, rfl, hd2, dF_no s bl (by decide +kernel) (by decide +kernel) (by decide +kernel) (by decide +kernel), _, rfl, d, bl, as, s, m, rfl, D2, g, trivial, _, rfl, _, rfl, (by show 2 ≤ sizeLine; decide), fun q hq => ⟨q, rfl, same_new hq, SqT.of upd_same⟩⟩
    · have tf : ∀ ps, HO.dK kvs ≠ .tbl ps := fun ps z => by cases z
      refine ⟨p, _, hp, trivial, fun od => ?_⟩
      have D1 : DesAt CD (upd H p (.frz od (.dK kvs))) d bl as s := D.part fun q o e ho => by
        rw [upd_ne fun z => ?_]
        · exact e
        · rw [z, hp] at e
          cases e
          rcases ho with ⟨_, _, z⟩ | ⟨_, z⟩ <;> cases z
      refine ⟨_, rfl, p, od, kvs, l.map fun (m : Nat) => (m : Int), rfl, upd_same, by rw [hk, List.map_map]; rfl, by simpa using hne, fun q hq => ?_, fun H2 eN => ⟨D1.part fun q o e ho => eN q o e fun ps z => ?_, ⟨_, rfl⟩, fun n hn => ?_⟩, fun n H2 eN T2 hd2 lst => ⟨hd2, ?_⟩⟩
      · rw [List.mem_singleton.mp hq]
        exact Br.TabS.off hT hp tf fun c => codeO_dK kvs
      · rw [z] at ho
        rcases ho with ⟨_, _, z⟩ | ⟨_, z⟩ <;> cases z
      · obtain ⟨m, _, e⟩ := List.mem_map.1 hn
        exact ⟨m, e.symm⟩
      · obtain ⟨m, rfl, hb⟩ := far_best lst
        refine k _ m (fun q o e ho => ?_) ?_ hb
        · by_cases c : q = p
          · rw [c, hp] at e
            cases e
            rw [c]
            exact upd_same
          · rw [upd_ne c]
            exact eN q o (by rw [upd_ne c]; exact e) ho
        · exact Br.TabS.off (T2 _ (List.mem_singleton.mpr rfl)) hd2 (fun ps z => by cases z) fun c => codeO_frz od _
end
end Br

set_option maxRecDepth 100000
set_option maxHeartbeats 4200000
namespace Br
open PySem PySem.Spec LamX
open PyProof.Rows L2
open PySem.W (Codec)
open Sy47 (things has with_ without propsIn done size firm carries)
/-! ### the bridge in the heap -/
def bF (d : Addr) (u : Nat) : List (Str × V) := [("design", .ref d), ("stage", nV u)]
theorem bF_design (d : Addr) (u : Nat) : (bF d u).lookup ("design" : Str) = some (.ref d) := at_first
theorem bF_stage (d : Addr) (u : Nat) : (bF d u).lookup ("stage" : Str) = some (nV u) := (at_later (by decide +kernel)).trans at_first
theorem bF_no {m : Str} (d : Addr) (u : Nat) (h1 : (m == ("design" : Str)) = false) (h2 : (m == ("stage" : Str)) = false) : (bF d u).lookup m = none := (at_later h1).trans ((at_later h2).trans rfl)
theorem bF_put_stage (d : Addr) (u v : Nat) : putF "stage" (nV v) (bF d u) = bF d v := (in_later (by decide +kernel)).trans (congrArg _ in_first)
theorem bF_put_design (d e : Addr) (u : Nat) : putF "design" (.ref e) (bF d u) = bF e u := in_first
structure BrAt (CD CB : Addr) (H : Hp) (b d bl : Addr) (as : List Addr) (s : Sy47.St) : Prop where
  obj : ∃ dx, H b = some (.ins CB dx (bF d s.stage))
  des : DesAt CD H d bl as s
/-- what else stood stands; the bridge's parts are its old ones or new; the table is one still -/
structure Kept (tb : Addr) (H H' : Hp) (b : Addr) (old new : List Addr) : Prop where
  all : ∀ q o, H q = some o → (∀ ps, o ≠ .tbl ps) → q ∉ b :: old → H' q = some o
  new : ∀ q ∈ new, q ∈ old ∨ H q = Option.none
  tab : TabS H tb lamN → TabS H' tb lamN
theorem Kept.refl (tb : Addr) (H : Hp) (b : Addr) (l : List Addr) : Kept tb H H b l l := ⟨fun _ _ h _ _ => h, fun _ h => .inl h, fun h => h⟩
theorem Kept.same {tb : Addr} {H H' : Hp} {b : Addr} {l : List Addr} (S : L2.Same H H') : Kept tb H H' b l l := ⟨fun _ _ h _ _ => S _ _ h, fun _ h => .inl h, fun h => LamX.TabS.ext h S⟩
/-- behind a call: the state behind it, its number -/
def After (CD CB tb : Addr) (H : Hp) (b d bl : Addr) (as : List Addr) (r : Sy47.St × Sy47.Ans) (Q : VK) : Prop :=
  ∀ (H' : Hp) (d' bl' : Addr) (as' : List Addr), BrAt CD CB H' b d' bl' as' r.1 → Kept tb H H' b (d :: bl :: as) (d' :: bl' :: as') → Q (.int r.2.v) H'
theorem After.same {CD CB tb : Addr} {H : Hp} {b d bl : Addr} {as : List Addr} {s : Sy47.St} {a : Sy47.Ans} {Q : VK} (h : After CD CB tb H b d bl as (s, a) Q) (B : BrAt CD CB H b d bl as s) : Q (.int a.v) H := h H d bl as B (Kept.refl _ _ _ _)
theorem BrAt.keep {CD CB : Addr} {H H' : Hp} {b d bl : Addr} {as : List Addr} {s : Sy47.St} (B : BrAt CD CB H b d bl as s) (S : L2.Same H H') : BrAt CD CB H' b d bl as s := by
  obtain ⟨db, hb⟩ := B.obj
  exact ⟨⟨db, S _ _ hb⟩, B.des.keep S⟩
theorem After.with_ {CD CB tb : Addr} {H H' : Hp} {b d bl : Addr} {as : List Addr} {s : Sy47.St} {a : Sy47.Ans} {Q : VK} (h : After CD CB tb H b d bl as (s, a) Q) (B : BrAt CD CB H b d bl as s) (S : L2.Same H H') : Q (.int a.v) H' := h H' d bl as (B.keep S) (Kept.same S)
/-- behind a call that answers a list: all numbers, as a new list -/
def AfterL (CD CB tb : Addr) (H : Hp) (b d bl : Addr) (as : List Addr) (r : Sy47.St × Sy47.Ans) (Q : VK) : Prop :=
  ∀ (H' : Hp) (d' bl' : Addr) (as' : List Addr) (l : Addr), BrAt CD CB H' b d' bl' as' r.1 → Kept tb H H' b (d :: bl :: as) (d' :: bl' :: as') → l ∉ b :: d' :: bl' :: as' → (∀ o, H l = some o → (∃ ps, o = .tbl ps) ∨ l ∈ b :: d :: bl :: as) → H' l = some (.lst ((Sy47Neutral.out r.2).map V.int)) → Q (.ref l) H'
theorem BrAt.kind {CD CB : Addr} {H : Hp} {b d bl : Addr} {as : List Addr} {s : Sy47.St} (B : BrAt CD CB H b d bl as s) : ∀ q ∈ b :: d :: bl :: as, ∃ o, H q = some o ∧ ((∃ C dx fs, o = .ins C dx fs) ∨ ∃ xs, o = .lst xs) := by
  obtain ⟨db, hb⟩ := B.obj
  obtain ⟨dd, hd⟩ := B.des.obj
  intro q h
  rcases List.mem_cons.1 h with e | h
  · exact ⟨_, by rw [e]; exact hb, .inl ⟨_, _, _, rfl⟩⟩
  rcases List.mem_cons.1 h with e | h
  · exact ⟨_, by rw [e]; exact hd, .inl ⟨_, _, _, rfl⟩⟩
  rcases List.mem_cons.1 h with e | h
  · exact ⟨_, by rw [e]; exact B.des.lst, .inr ⟨_, rfl⟩⟩
  obtain ⟨j, hj⟩ := List.getElem?_of_mem h
  obtain ⟨l, _, h2⟩ := B.des.at_ j q hj
  exact ⟨_, h2, .inr ⟨_, rfl⟩⟩
theorem codeO_ins {c : Addr} {q : Str} (C dx : Addr) (fs : List (Str × V)) : HO.ins C dx fs ≠ CodeO c q := fun z => by
  unfold CodeO at z
  cases z
theorem codeO_lst {c : Addr} {q : Str} (xs : List V) : HO.lst xs ≠ CodeO c q := fun z => by
  unfold CodeO at z
  cases z
theorem Kept.of_all {CD CB tb : Addr} {H H' : Hp} {b d bl : Addr} {as new : List Addr} {s : Sy47.St} (B : BrAt CD CB H b d bl as s) (all : ∀ q o, H q = some o → q ∉ b :: d :: bl :: as → H' q = some o) (hn : ∀ q ∈ new, q ∈ d :: bl :: as ∨ H q = Option.none) : Kept tb H H' b (d :: bl :: as) new := by
  refine ⟨fun q o h _ hq => all q o h hq, hn, fun ⟨ps, h1, h2, h3⟩ => ⟨ps, all _ _ h1 fun z => ?_, h2, fun pos cv hc => ?_⟩⟩
  · obtain ⟨o, e, k⟩ := B.kind _ z
    rw [h1] at e
    cases e
    rcases k with ⟨_, _, _, k⟩ | ⟨_, k⟩ <;> cases k
  · obtain ⟨c, e1, e2⟩ := h3 pos cv hc
    refine ⟨c, e1, all _ _ e2 fun z => ?_⟩
    obtain ⟨o, e, k⟩ := B.kind _ z
    rw [e2] at e
    have e' := Option.some.inj e
    rcases k with ⟨_, _, _, k⟩ | ⟨_, k⟩
    · exact codeO_ins _ _ _ (k.symm.trans e'.symm)
    · exact codeO_lst _ (k.symm.trans e'.symm)
theorem AfterL.done {CD CB tb : Addr} {H H' : Hp} {b d bl l : Addr} {as : List Addr} {s : Sy47.St} {a : Sy47.Ans} {xs : List V} {Q : VK} (h : AfterL CD CB tb H b d bl as (s, a) Q) (B : BrAt CD CB H b d bl as s) (S : L2.Same H H') (nl : H l = Option.none) (e : H' l = some (.lst xs)) (ex : xs = (Sy47Neutral.out a).map V.int) : Q (.ref l) H' := by
  refine h H' d bl as l (B.keep S) (Kept.same S) (fun z => ?_) (fun o e => by rw [nl] at e; cases e) (by rw [e, ex])
  obtain ⟨o, e, _⟩ := B.kind _ z
  rw [nl] at e
  cases e
theorem out_wl (v : Int) (l : List (List Int)) : Sy47Neutral.out ⟨v, l⟩ = v :: wl l := rfl
theorem DesAt.other {C : Addr} {H H' : Hp} {d bl : Addr} {as : List Addr} {s t : Sy47.St} (D : DesAt C H d bl as s) (kp : ∀ q ∈ d :: bl :: as, H' q = H q) (e : ∀ q, dF s q = dF t q) (er : s.rests = t.rests) : DesAt C H' d bl as t := by
  obtain ⟨dx, hd⟩ := D.obj
  refine ⟨⟨dx, by rw [kp d (by simp), hd, e]⟩, by rw [kp bl (by simp)]; exact D.lst, D.nd, by rw [← er]; exact D.len, fun j c hj => ?_⟩
  obtain ⟨l, h1, h2⟩ := D.at_ j c hj
  exact ⟨l, by rw [← er]; exact h1, by rw [kp c (by simp [List.mem_of_getElem? hj])]; exact h2⟩
theorem BrAt.apart {CD CB : Addr} {H : Hp} {b d bl : Addr} {as : List Addr} {s : Sy47.St} (B : BrAt CD CB H b d bl as s) : b ∉ d :: bl :: as := by
  obtain ⟨dx, hb⟩ := B.obj
  obtain ⟨dd, hd⟩ := B.des.obj
  intro h
  rcases List.mem_cons.1 h with e | h
  · rw [e, hd] at hb
    have := congrArg (fun o : Option HO => match o with
      | some (.ins _ _ fs) => fs.length
      | _ => 0) hb
    cases this
  · rcases List.mem_cons.1 h with e | h
    · rw [e, B.des.lst] at hb
      cases hb
    · obtain ⟨j, hj⟩ := List.getElem?_of_mem h
      obtain ⟨l, _, h2⟩ := B.des.at_ j b hj
      rw [h2] at hb
      cases hb
/-- the stage is stored -/
theorem BrAt.store {CD CB : Addr} {H : Hp} {b d bl : Addr} {as : List Addr} {s : Sy47.St} (B : BrAt CD CB H b d bl as s) (u : Nat) {dx : Addr} :
    BrAt CD CB (upd H b (.ins CB dx (bF d u))) b d bl as { s with stage := u } ∧ ∀ tb, Kept tb H (upd H b (.ins CB dx (bF d u))) b (d :: bl :: as) (d :: bl :: as) := by
  refine ⟨⟨⟨dx, upd_same⟩, B.des.other (fun q hq => upd_ne fun e => B.apart (by rw [← e]; exact hq)) (fun _ => rfl) rfl⟩, fun tb => Kept.of_all B (fun q o h hn => ?_) fun q h => .inl h⟩
  rw [upd_ne fun e => hn (by rw [e]; exact List.mem_cons_self ..)]
  exact h
/-- a new design at p -/
theorem made_kept {H H2 : Hp} {p dx C : Addr} {l : List Addr} (hp : H p = Option.none) (hdx : H dx = Option.none) (kp : ∀ q o, upd (upd H dx (.own p)) p (.ins C dx []) q = some o → q ≠ p → H2 q = some o) (fr : ∀ q ∈ l, upd (upd H dx (.own p)) p (.ins C dx []) q = Option.none) :
    (∀ q o, H q = some o → H2 q = some o) ∧ ∀ q ∈ p :: l, H q = Option.none := by
  refine ⟨fun q o h => ?_, fun q hq => ?_⟩
  · have n1 : q ≠ p := ne_of_none h hp
    refine kp q o ?_ n1
    rw [upd_ne n1, upd_ne (ne_of_none h hdx)]
    exact h
  · rcases List.mem_cons.1 hq with e | hq
    · rw [e]
      exact hp
    · have h := fr q hq
      by_cases n1 : q = p
      · rw [n1]
        exact hp
      · rw [upd_ne n1] at h
        by_cases n2 : q = dx
        · rw [n2]
          exact hdx
        · rw [upd_ne n2] at h
          exact h
def spInitB (CD CB : Addr) : Sp := fun vs H Q _ => ∃ (b dx : Addr), vs = [.ref b] ∧ H b = some (.ins CB dx []) ∧
  ∀ (H' : Hp) (d bl : Addr) (as : List Addr), BrAt CD CB H' b d bl as Sy47.init → (∀ q o, H q = some o → q ≠ b → H' q = some o) → (∀ q ∈ d :: bl :: as, H q = none) → Q .non H'
def spBegins (CD CB tb : Addr) : Sp := fun vs H Q _ => ∃ (b d bl : Addr) (as : List Addr) (s : Sy47.St) (x y z : Nat), vs = [.ref b, nV x, nV y, nV z] ∧ BrAt CD CB H b d bl as s ∧ Good s ∧ After CD CB tb H b d bl as (Sy47.step s (.begins x y z)) Q
def spRests (CD CB tb : Addr) : Sp := fun vs H Q _ => ∃ (b d bl : Addr) (as : List Addr) (s : Sy47.St) (x y : Nat), vs = [.ref b, nV x, nV y] ∧ BrAt CD CB H b d bl as s ∧ Good s ∧ After CD CB tb H b d bl as (Sy47.step s (.rests x y)) Q
def spCall1 (c : Nat → Sy47.Call) (CD CB tb : Addr) : Sp := fun vs H Q _ => ∃ (b d bl : Addr) (as : List Addr) (s : Sy47.St) (x : Nat), vs = [.ref b, nV x] ∧ BrAt CD CB H b d bl as s ∧ Good s ∧ After CD CB tb H b d bl as (Sy47.step s (c x)) Q
def spCarries : Addr → Addr → Addr → Sp := spCall1 .carries
def spFalls : Addr → Addr → Addr → Sp := spCall1 .falls
def spDoes : Addr → Addr → Addr → Sp := spCall1 .does
def spUndo (CD CB tb : Addr) : Sp := fun vs H Q _ => ∃ (b d bl : Addr) (as : List Addr) (s : Sy47.St), vs = [.ref b] ∧ BrAt CD CB H b d bl as s ∧ Good s ∧ After CD CB tb H b d bl as (Sy47.step s .undo) Q
section
variable {P : Program} {w : World} {K : PySem.W.Frag} {mg : Str → Option Value} {base : Heap} {CD CB tb : Addr}
theorem ok_Bridge_undo {f : Addr} {fd : FuncData} (F : Fun K "undo" "Bridge.undo" s_Bridge_undo f fd) (T : Txt K mg CD CB) : FnOk P w K mg base CX0 1 f fd ["self"] (spUndo CD CB tb) := by
  refine F.ok sc_Bridge_undo (fun vs H Q E h => ?_) (fun cdv A outer sh H vs Q E hr h => ?_)
  · obtain ⟨b, d, bl, as, s, rfl, _⟩ := h
    rfl
  · obtain ⟨b, d, bl, as, s, rfl, B, g, k⟩ := h
    obtain ⟨db, hb⟩ := B.obj
    refine ⟨_, (pss_cons (ps_fld (pv 0) pe_int rfl)
    (pss_one (ps_ret pe_int))), ?_⟩
    refine ⟨_, rfl, b, CB, db, _, rfl, hb, T.cl_Bridge, T.n_stage, (by show 2 < 1000; decide), ?_⟩
    have e : (HO.ins CB db (putF "stage" (.int 0) (bF d s.stage))) = .ins CB db (bF d 0) := congrArg (HO.ins CB db) (bF_put_stage d s.stage 0)
    rw [e]
    obtain ⟨B2, kp⟩ := B.store (dx := db) 0
    exact k _ d bl as B2 (kp tb)
theorem step_does (s : Sy47.St) (m : Nat) : Sy47.step s (.does m) = if (Sy47.moves s).contains m = false then (s, Sy47.ok (-1)) else (match Sy47.moved s s.stage m with
      | none => (s, Sy47.ok (-6))
      | some u => ({ s with stage := u }, Sy47.ok (u : Nat))) := rfl
theorem ok_Bridge_does {f : Addr} {fd : FuncData} (F : Fun K "does" "Bridge.does" s_Bridge_does f fd) (T : Txt K mg CD CB) (d_Design_is_move : MeD P w K mg base CD "is_move" 2 ["self", "number"] (spIsMove CD)) (d_Design_stage_behind : MeD P w K mg base CD "stage_behind" 5 ["self", "stage", "move"] (spBehind CD)) : FnOk P w K mg base CX0 6 f fd ["self", "move"] (spDoes CD CB tb) := by
  refine F.ok sc_Bridge_does (fun vs H Q E h => ?_) (fun cdv A outer sh H vs Q E hr h => ?_)
  · obtain ⟨b, d, bl, as, s, x, rfl, _⟩ := h
    rfl
  · obtain ⟨b, d, bl, as, s, m, rfl, B, g, k⟩ := h
    obtain ⟨db, hb⟩ := B.obj
    obtain ⟨dx, hd⟩ := B.des.obj
    rw [step_does] at k
    refine ⟨_, (pss_cons (ps_if (pt_not (pt_val (pe_meth (pe_fld (pv 0) rfl) T.cl_Design d_Design_is_move.m d_Design_is_move.ok (hr.mono (by decide)) d_Design_is_move.b .nil pass0 (pa_cons (pv 1) pa_nil))))
     (pss_one (ps_ret (pe_un un_neg pe_int)))
     pss_nil)
    (pss_cons (ps_set (i := 2) sc_Bridge_does.nd rfl (Or.inl rfl) (pe_meth (pe_fld (pv 0) rfl) T.cl_Design d_Design_stage_behind.m d_Design_stage_behind.ok (hr.mono (by decide)) d_Design_stage_behind.b .nil pass0 (pa_cons (pe_fld (pv 0) rfl) (pa_cons (pv 1) pa_nil))))
    (pss_cons (ps_if (pt_cmpR op_isN (pv 2) pe_non (nomark _))
     (pss_one (ps_ret (pe_un un_neg pe_int)))
     pss_nil)
    (pss_cons (ps_fld (pv 0) (pv 2) rfl)
    (pss_one (ps_ret (pe_fld (pv 0) rfl))))))), ?_⟩
    refine ⟨_, rfl, b, CB, db, _, _, rfl, hb, T.cl_Bridge, T.n_design, bF_design d s.stage, d, dx, _, rfl, hd, dF_no s bl (by decide +kernel) (by decide +kernel) (by decide +kernel) (by decide +kernel), _, rfl, d, bl, as, s, m, rfl, B.des, g, trivial, _, rfl, ?_⟩
    cases c : (Sy47.moves s).contains m with
    | false =>
      rw [if_pos c] at k
      refine ifT (by first | rfl | (rw [c]; rfl)) ?_
      exact ⟨_, rfl, k.same B⟩
    | true =>
      rw [if_neg (by rw [c]; exact fun h => Bool.noConfusion h)] at k
      refine ifF (by first | rfl | (rw [c]; rfl)) ?_
      refine ⟨_, rfl, b, CB, db, _, _, rfl, hb, T.cl_Bridge, T.n_design, bF_design d s.stage, d, dx, _, rfl, hd, dF_no s bl (by decide +kernel) (by decide +kernel) (by decide +kernel) (by decide +kernel), _, rfl, b, CB, db, _, _, rfl, hb, T.cl_Bridge, T.n_stage, bF_stage d s.stage, _, rfl, d, bl, as, s, s.stage, m, rfl, B.des, g, ⟨List.contains_iff_mem.1 c, g.fit.1⟩, fun e => ?_, fun u e => ?_⟩
      · rw [e] at k
        refine ⟨_, rfl, rfl, _, rfl, iteT ?_⟩
        exact ⟨_, rfl, k.same B⟩
      · rw [e] at k
        refine ⟨_, rfl, rfl, _, rfl, iteF ?_⟩
        refine ⟨_, rfl, _, rfl, b, CB, db, _, rfl, hb, T.cl_Bridge, T.n_stage, (by show 2 < 1000; decide), ?_⟩
        have e2 : (HO.ins CB db (putF "stage" (nV u) (bF d s.stage))) = .ins CB db (bF d u) := congrArg (HO.ins CB db) (bF_put_stage d s.stage u)
        rw [e2]
        obtain ⟨B2, kp⟩ := B.store (dx := db) u
        exact ⟨_, rfl, b, CB, db, _, _, rfl, upd_same, T.cl_Bridge, T.n_stage, bF_stage d u, k _ d bl as B2 (kp tb)⟩
theorem ok_Bridge_falls {f : Addr} {fd : FuncData} (F : Fun K "falls" "Bridge.falls" s_Bridge_falls f fd) (T : Txt K mg CD CB) (d_Design_is_set : MeD P w K mg base CD "is_set" 1 ["self", "number"] (spIsSet CD)) (d_Design_what_stays : MeD P w K mg base CD "what_stays" 5 ["self", "stage"] (spStays CD)) : FnOk P w K mg base CX0 6 f fd ["self", "stage"] (spFalls CD CB tb) := by
  refine F.ok sc_Bridge_falls (fun vs H Q E h => ?_) (fun cdv A outer sh H vs Q E hr h => ?_)
  · obtain ⟨b, d, bl, as, s, x, rfl, _⟩ := h
    rfl
  · obtain ⟨b, d, bl, as, s, t, rfl, B, g, k⟩ := h
    obtain ⟨db, hb⟩ := B.obj
    obtain ⟨dx, hd⟩ := B.des.obj
    have k : After CD CB tb H b d bl as (if 2 ^ things s ≤ t then (s, Sy47.ok (-1)) else (s, Sy47.ok (Sy47.left s t : Nat))) Q := k
    refine ⟨_, (pss_cons (ps_if (pt_not (pt_val (pe_meth (pe_fld (pv 0) rfl) T.cl_Design d_Design_is_set.m d_Design_is_set.ok (hr.mono (by decide)) d_Design_is_set.b .nil pass0 (pa_cons (pv 1) pa_nil))))
     (pss_one (ps_ret (pe_un un_neg pe_int)))
     pss_nil)
    (pss_one (ps_ret (pe_meth (pe_fld (pv 0) rfl) T.cl_Design d_Design_what_stays.m d_Design_what_stays.ok (hr.mono (by decide)) d_Design_what_stays.b .nil pass0 (pa_cons (pv 1) pa_nil))))), ?_⟩
    refine ⟨_, rfl, b, CB, db, _, _, rfl, hb, T.cl_Bridge, T.n_design, bF_design d s.stage, d, dx, _, rfl, hd, dF_no s bl (by decide +kernel) (by decide +kernel) (by decide +kernel) (by decide +kernel), _, rfl, d, bl, as, s, t, rfl, B.des, g, trivial, _, rfl, ?_⟩
    by_cases c : t < 2 ^ things s
    · rw [if_neg (by omega)] at k
      refine ifF (by first | rw [decide_eq_true c]; rfl) ?_
      exact ⟨_, rfl, b, CB, db, _, _, rfl, hb, T.cl_Bridge, T.n_design, bF_design d s.stage, d, dx, _, rfl, hd, dF_no s bl (by decide +kernel) (by decide +kernel) (by decide +kernel) (by decide +kernel), _, rfl, d, bl, as, s, t, rfl, B.des, g, trivial, k.same B⟩
    · rw [if_pos (by omega)] at k
      refine ifT (by rw [decide_eq_false c]; rfl) ?_
      exact ⟨_, rfl, k.same B⟩
theorem ok_Bridge_carries {f : Addr} {fd : FuncData} (F : Fun K "carries" "Bridge.carries" s_Bridge_carries f fd) (T : Txt K mg CD CB) (d_Design_is_set : MeD P w K mg base CD "is_set" 1 ["self", "number"] (spIsSet CD)) (d_Design_does_carry : MeD P w K mg base CD "does_carry" 4 ["self", "stage"] (spCarry CD)) : FnOk P w K mg base CX0 5 f fd ["self", "stage"] (spCarries CD CB tb) := by
  refine F.ok sc_Bridge_carries (fun vs H Q E h => ?_) (fun cdv A outer sh H vs Q E hr h => ?_)
  · obtain ⟨b, d, bl, as, s, x, rfl, _⟩ := h
    rfl
  · obtain ⟨b, d, bl, as, s, t, rfl, B, g, k⟩ := h
    obtain ⟨db, hb⟩ := B.obj
    obtain ⟨dx, hd⟩ := B.des.obj
    have k : After CD CB tb H b d bl as (if 2 ^ things s ≤ t then (s, Sy47.ok (-1)) else (s, Sy47.ok (if Sy47.carries s t = true then 1 else 0))) Q := k
    refine ⟨_, (pss_cons (ps_if (pt_not (pt_val (pe_meth (pe_fld (pv 0) rfl) T.cl_Design d_Design_is_set.m d_Design_is_set.ok (hr.mono (by decide)) d_Design_is_set.b .nil pass0 (pa_cons (pv 1) pa_nil))))
     (pss_one (ps_ret (pe_un un_neg pe_int)))
     pss_nil)
    (pss_one (ps_ret (pe_ifExp (pt_val (pe_meth (pe_fld (pv 0) rfl) T.cl_Design d_Design_does_carry.m d_Design_does_carry.ok (hr.mono (by decide)) d_Design_does_carry.b .nil pass0 (pa_cons (pv 1) pa_nil))) pe_int pe_int)))), ?_⟩
    refine ⟨_, rfl, b, CB, db, _, _, rfl, hb, T.cl_Bridge, T.n_design, bF_design d s.stage, d, dx, _, rfl, hd, dF_no s bl (by decide +kernel) (by decide +kernel) (by decide +kernel) (by decide +kernel), _, rfl, d, bl, as, s, t, rfl, B.des, g, trivial, _, rfl, ?_⟩
    by_cases c : t < 2 ^ things s
    · rw [if_neg (by omega)] at k
      refine ifF (by first | rw [decide_eq_true c]; rfl) ?_
      refine ⟨_, rfl, b, CB, db, _, _, rfl, hb, T.cl_Bridge, T.n_design, bF_design d s.stage, d, dx, _, rfl, hd, dF_no s bl (by decide +kernel) (by decide +kernel) (by decide +kernel) (by decide +kernel), _, rfl, d, bl, as, s, t, rfl, B.des, g, trivial, _, rfl, ?_⟩
      have k2 := k.same B
      cases c2 : Sy47.carries s t with
      | true =>
        rw [if_pos c2] at k2
        refine ifT (by first | rfl | exact c2) ?_
        exact k2
      | false =>
        rw [if_neg (by rw [c2]; exact Bool.false_ne_true)] at k2
        refine ifF (by first | rfl | exact c2) ?_
        exact k2
    · rw [if_pos (by omega)] at k
      refine ifT (by rw [decide_eq_false c]; rfl) ?_
      exact ⟨_, rfl, k.same B⟩
theorem ok_Bridge_rests {f : Addr} {fd : FuncData} (F : Fun K "rests" "Bridge.rests" s_Bridge_rests f fd) (T : Txt K mg CD CB) (d_Design_is_set : MeD P w K mg base CD "is_set" 1 ["self", "number"] (spIsSet CD)) (d_Design_is_piece : MeD P w K mg base CD "is_piece" 1 ["self", "number"] (spIsPiece CD)) (d_Design_has_all_bases : MeD P w K mg base CD "has_all_bases" 1 ["self", "piece"] (spAllBases CD)) (d_Design_add_base : MeD P w K mg base CD "add_base" 1 ["self", "piece", "base"] (spAddBase CD)) : FnOk P w K mg base CX0 2 f fd ["self", "piece", "base"] (spRests CD CB tb) := by
  refine F.ok sc_Bridge_rests (fun vs H Q E h => ?_) (fun cdv A outer sh H vs Q E hr h => ?_)
  · obtain ⟨b, d, bl, as, s, x, y, rfl, _⟩ := h
    rfl
  · obtain ⟨b, d, bl, as, s, i, a, rfl, B, g, k⟩ := h
    obtain ⟨db, hb⟩ := B.obj
    obtain ⟨dx, hd⟩ := B.des.obj
    have k : After CD CB tb H b d bl as (if 2 ^ things s ≤ a then (s, Sy47.ok (-1)) else if s.pieces ≤ i then (s, Sy47.ok (-2)) else if s.stage ≠ 0 then (s, Sy47.ok (-4)) else if Sy47.WAYS ≤ (s.rests.getD i []).length then (s, Sy47.ok (-5)) else ({ s with rests := s.rests.set i (s.rests.getD i [] ++ [a]) }, Sy47.ok (((s.rests.getD i []).length + 1 : Nat) : Int))) Q := k
    have hw : Sy47.WAYS = 4 := rfl
    refine ⟨_, (pss_cons (ps_if (pt_not (pt_val (pe_meth (pe_fld (pv 0) rfl) T.cl_Design d_Design_is_set.m d_Design_is_set.ok (hr.mono (by decide)) d_Design_is_set.b .nil pass0 (pa_cons (pv 2) pa_nil))))
     (pss_one (ps_ret (pe_un un_neg pe_int)))
     pss_nil)
    (pss_cons (ps_if (pt_not (pt_val (pe_meth (pe_fld (pv 0) rfl) T.cl_Design d_Design_is_piece.m d_Design_is_piece.ok (hr.mono (by decide)) d_Design_is_piece.b .nil pass0 (pa_cons (pv 1) pa_nil))))
     (pss_one (ps_ret (pe_un un_neg pe_int)))
     pss_nil)
    (pss_cons (ps_if (pt_cmpR nNe (pe_fld (pv 0) rfl) pe_int (nomark _))
     (pss_one (ps_ret (pe_un un_neg pe_int)))
     pss_nil)
    (pss_cons (ps_if (pt_val (pe_meth (pe_fld (pv 0) rfl) T.cl_Design d_Design_has_all_bases.m d_Design_has_all_bases.ok (hr.mono (by decide)) d_Design_has_all_bases.b .nil pass0 (pa_cons (pv 1) pa_nil)))
     (pss_one (ps_ret (pe_un un_neg pe_int)))
     pss_nil)
    (pss_one (ps_ret (pe_meth (pe_fld (pv 0) rfl) T.cl_Design d_Design_add_base.m d_Design_add_base.ok (hr.mono (by decide)) d_Design_add_base.b .nil pass0 (pa_cons (pv 1) (pa_cons (pv 2) pa_nil))))))))), ?_⟩
    refine ⟨_, rfl, b, CB, db, _, _, rfl, hb, T.cl_Bridge, T.n_design, bF_design d s.stage, d, dx, _, rfl, hd, dF_no s bl (by decide +kernel) (by decide +kernel) (by decide +kernel) (by decide +kernel), _, rfl, d, bl, as, s, a, rfl, B.des, g, trivial, _, rfl, ?_⟩
    by_cases c : a < 2 ^ things s
    · rw [if_neg (by omega)] at k
      refine ifF (by rw [decide_eq_true c]; rfl) ?_
      refine ⟨_, rfl, b, CB, db, _, _, rfl, hb, T.cl_Bridge, T.n_design, bF_design d s.stage, d, dx, _, rfl, hd, dF_no s bl (by decide +kernel) (by decide +kernel) (by decide +kernel) (by decide +kernel), _, rfl, d, bl, as, s, i, rfl, B.des, g, trivial, _, rfl, ?_⟩
      by_cases c2 : i < s.pieces
      · rw [if_neg (by omega)] at k
        refine ifF (by rw [decide_eq_true c2]; rfl) ?_
        refine ⟨_, rfl, b, CB, db, _, _, rfl, hb, T.cl_Bridge, T.n_stage, bF_stage d s.stage, s.stage, 0, rfl, rfl, _, rfl, ?_⟩
        by_cases c3 : s.stage = 0
        · rw [if_neg (by simpa using c3)] at k
          refine ifF (by rw [decide_eq_true c3]; rfl) ?_
          refine ⟨_, rfl, b, CB, db, _, _, rfl, hb, T.cl_Bridge, T.n_design, bF_design d s.stage, d, dx, _, rfl, hd, dF_no s bl (by decide +kernel) (by decide +kernel) (by decide +kernel) (by decide +kernel), _, rfl, d, bl, as, s, i, rfl, B.des, g, c2, _, rfl, ?_⟩
          by_cases c4 : 4 ≤ (s.rests.getD i []).length
          · rw [if_pos (by omega)] at k
            refine ifT (decide_eq_true c4) ?_
            exact ⟨_, rfl, k.same B⟩
          · rw [if_neg (by omega)] at k
            refine ifF (decide_eq_false c4) ?_
            refine ⟨_, rfl, b, CB, db, _, _, rfl, hb, T.cl_Bridge, T.n_design, bF_design d s.stage, d, dx, _, rfl, hd, dF_no s bl (by decide +kernel) (by decide +kernel) (by decide +kernel) (by decide +kernel), _, rfl, _, rfl, d, bl, as, s, i, a, rfl, B.des, g, c2, by omega, fun H' D' kp => ?_⟩
            have hna : b ∉ as := fun h => B.apart (by simp [h])
            refine k H' d bl as ⟨⟨db, kp b _ hb hna⟩, D'⟩ (Kept.of_all B (fun q o h hn => kp q o h fun h2 => hn (by simp [h2])) fun q h => .inl h)
        · rw [if_pos (by simpa using c3)] at k
          refine ifT (by rw [decide_eq_false c3]; rfl) ?_
          exact ⟨_, rfl, k.same B⟩
      · rw [if_pos (by omega)] at k
        refine ifT (by rw [decide_eq_false c2]; rfl) ?_
        exact ⟨_, rfl, k.same B⟩
    · rw [if_pos (by omega)] at k
      refine ifT (by rw [decide_eq_false c]; rfl) ?_
      exact ⟨_, rfl, k.same B⟩
theorem ok_Bridge_begins {f : Addr} {fd : FuncData} (F : Fun K "begins" "Bridge.begins" s_Bridge_begins f fd) (T : Txt K mg CD CB) (d_is_design : FnD P w K mg base "is_design" 1 ["pieces", "props", "at_once"] spIsDesign) (d_Design_init : MkD P w K mg base CD 1 ["self", "pieces", "props", "at_once"] (spInitD CD)) : FnOk P w K mg base CX0 3 f fd ["self", "pieces", "props", "at_once"] (spBegins CD CB tb) := by
  refine F.ok sc_Bridge_begins (fun vs H Q E h => ?_) (fun cdv A outer sh H vs Q E hr h => ?_)
  · obtain ⟨b, d, bl, as, s, x, y, z, rfl, _⟩ := h
    rfl
  · obtain ⟨b, d, bl, as, s, x, y, z, rfl, B, g, k⟩ := h
    obtain ⟨db, hb⟩ := B.obj
    have k : After CD CB tb H b d bl as (if x < 1 ∨ Sy47.PIECES < x ∨ Sy47.PROPS < y ∨ y < z then (s, Sy47.ok (-1)) else (⟨x, y, z, List.replicate x [], 0⟩, Sy47.ok 0)) Q := k
    have h6 : Sy47.PIECES = 6 := rfl
    have h2 : Sy47.PROPS = 2 := rfl
    rw [h6, h2] at k
    refine ⟨_, (pss_cons (ps_if (pt_not (pt_val (pe_call d_is_design.ok (hr.mono (by decide)) rfl d_is_design.mg_ d_is_design.kp d_is_design.b .nil pass0 (pa_cons (pv 1) (pa_cons (pv 2) (pa_cons (pv 3) pa_nil))))))
     (pss_one (ps_ret (pe_un un_neg pe_int)))
     pss_nil)
    (pss_cons (ps_fld (pv 0) (pe_make d_Design_init.mk_ d_Design_init.ok (hr.mono (by decide)) rfl T.c_Design d_Design_init.b .nil pass0 (pa_cons (pv 1) (pa_cons (pv 2) (pa_cons (pv 3) pa_nil)))) rfl)
    (pss_cons (ps_fld (pv 0) pe_int rfl)
    (pss_one (ps_ret pe_int))))), ?_⟩
    refine ⟨_, rfl, _, rfl, _, rfl, x, y, z, rfl, _, rfl, ?_⟩
    by_cases c : x < 1 ∨ 6 < x ∨ 2 < y ∨ y < z
    · rw [if_pos c] at k
      refine ifT (by rw [decide_eq_true c]; rfl) ?_
      exact ⟨_, rfl, k.same B⟩
    · rw [if_neg c] at k
      refine ifF (by rw [decide_eq_false c]; rfl) ?_
      refine ⟨_, rfl, _, rfl, _, rfl, ?_⟩
      intro p dx hp hdx ne
      refine ⟨p, dx, x, y, z, rfl, upd_same, by omega, fun H2 bl2 as2 D2 kp fr => ⟨rfl, ?_⟩⟩
      obtain ⟨kpH, new⟩ := made_kept hp hdx kp fr
      have nb : b ∉ p :: bl2 :: as2 := fun h => by
        rw [new b h] at hb
        cases hb
      refine ⟨_, rfl, b, CB, db, _, rfl, kpH b _ hb, T.cl_Bridge, T.n_design, (by show 2 < 1000; decide), ?_⟩
      refine ⟨_, rfl, b, CB, db, _, rfl, upd_same, T.cl_Bridge, T.n_stage, (by show 2 < 1000; decide), ?_⟩
      refine k _ p bl2 as2 ⟨⟨db, ?_⟩, D2.other (fun q hq => ?_) (fun _ => rfl) rfl⟩ (Kept.of_all B (fun q o h hn => ?_) fun q h => .inr (new q h))
      · exact Eq.trans upd_same (congrArg (fun z => some (HO.ins CB db z)) ((congrArg (putF "stage" (.int 0)) (bF_put_design d p s.stage)).trans (bF_put_stage p s.stage 0)))
      · have n1 : q ≠ b := fun e => nb (by rw [← e]; exact hq)
        rw [upd_ne n1, upd_ne n1]
      · have n1 : q ≠ b := fun e => hn (by rw [e]; exact List.mem_cons_self ..)
        rw [upd_ne n1, upd_ne n1]
        exact kpH q o h
theorem ok_Bridge_init {f : Addr} {fd : FuncData} (F : Fun K "__init__" "Bridge.__init__" s_Bridge_init f fd) (T : Txt K mg CD CB) (d_Design_init : MkD P w K mg base CD 1 ["self", "pieces", "props", "at_once"] (spInitD CD)) : FnOk P w K mg base CX0 3 f fd ["self"] (spInitB CD CB) := by
  refine F.ok sc_Bridge_init (fun vs H Q E h => ?_) (fun cdv A outer sh H vs Q E hr h => ?_)
  · obtain ⟨b, db, rfl, _⟩ := h
    rfl
  · obtain ⟨b, db, rfl, hb, k⟩ := h
    refine ⟨_, (pss_cons (ps_fld (pv 0) (pe_make d_Design_init.mk_ d_Design_init.ok (hr.mono (by decide)) rfl T.c_Design d_Design_init.b .nil pass0 (pa_cons pe_int (pa_cons pe_int (pa_cons pe_int pa_nil)))) rfl)
    (pss_one (ps_fld (pv 0) pe_int rfl))), ?_⟩
    intro p dx hp hdx ne
    refine ⟨p, dx, 1, 0, 0, rfl, upd_same, by omega, fun H2 bl2 as2 D2 kp fr => ⟨rfl, ?_⟩⟩
    obtain ⟨kpH, new⟩ := made_kept hp hdx kp fr
    have nb : b ∉ p :: bl2 :: as2 := fun h => by
      rw [new b h] at hb
      cases hb
    refine ⟨_, rfl, b, CB, db, _, rfl, kpH b _ hb, T.cl_Bridge, T.n_design, (by show 0 < 1000; decide), ?_⟩
    refine ⟨_, rfl, b, CB, db, _, rfl, upd_same, T.cl_Bridge, T.n_stage, (by show 1 < 1000; decide), ?_⟩
    refine k _ p bl2 as2 ⟨⟨db, ?_⟩, D2.other (fun q hq => ?_) (fun _ => rfl) rfl⟩ (fun q o h hn => ?_) (fun q h => new q h)
    · exact Eq.trans upd_same (congrArg (fun z => some (HO.ins CB db z)) (by
        show putF "stage" (.int 0) [("design", V.ref p)] = _
        exact (in_later (by decide +kernel)).trans rfl))
    · have n1 : q ≠ b := fun e => nb (by rw [← e]; exact hq)
      rw [upd_ne n1, upd_ne n1]
    · rw [upd_ne hn, upd_ne hn]
      exact kpH q o h
end
end Br

set_option maxRecDepth 100000
set_option maxHeartbeats 4200000
namespace Br
open PySem PySem.Spec LamX
open PyProof.Rows L2
open PySem.W (Codec)
open Sy47 (things has with_ without propsIn done size firm carries)
def spB0 (c : Sy47.Call) (CD CB tb : Addr) : Sp := fun vs H Q _ => ∃ (b d bl : Addr) (as : List Addr) (s : Sy47.St), vs = [.ref b] ∧ BrAt CD CB H b d bl as s ∧ Good s ∧ After CD CB tb H b d bl as (Sy47.step s c) Q
def spB0L (c : Sy47.Call) (CD CB tb : Addr) : Sp := fun vs H Q _ => ∃ (b d bl : Addr) (as : List Addr) (s : Sy47.St), vs = [.ref b] ∧ BrAt CD CB H b d bl as s ∧ Good s ∧ TabS H tb lamN ∧ AfterL CD CB tb H b d bl as (Sy47.step s c) Q
def spFewest : Addr → Addr → Addr → Sp := spB0 .fewest
def spNeed : Addr → Addr → Addr → Sp := spB0 .needed
def spPlanB : Addr → Addr → Addr → Sp := spB0L .plan
def spFarB : Addr → Addr → Addr → Sp := spB0L .far
def spSpareB : Addr → Addr → Addr → Sp := spB0L .spare
def spState : Addr → Addr → Addr → Sp := spB0L .state
theorem rows_one {H : Hp} {p : Addr} {l : List Int} (h : H p = some (.lst (l.map V.int))) : RowsAt H [p] [l] := by
  refine ⟨rfl, fun j c hj => ?_⟩
  have h1 := (List.getElem?_eq_some_iff.mp hj).1
  have h2 : ([p] : List Addr).length = 1 := rfl
  have e : j = 0 := by omega
  subst e
  have ec : p = c := Option.some.inj hj
  exact ⟨l, rfl, by rw [← ec]; exact h⟩
theorem rows_two {H : Hp} {p q : Addr} {l k : List Int} (h : H p = some (.lst (l.map V.int))) (h' : H q = some (.lst (k.map V.int))) : RowsAt H [p, q] [l, k] := by
  refine ⟨rfl, fun j c hj => ?_⟩
  have h1 := (List.getElem?_eq_some_iff.mp hj).1
  have h2 : ([p, q] : List Addr).length = 2 := rfl
  by_cases e : j = 0
  · subst e
    have ec : p = c := Option.some.inj hj
    exact ⟨l, rfl, by rw [← ec]; exact h⟩
  · have e : j = 1 := by omega
    subst e
    have ec : q = c := Option.some.inj hj
    exact ⟨k, rfl, by rw [← ec]; exact h'⟩
theorem ints_map (l : List Nat) : l.map nV = (Sy47.ints l).map V.int := by
  unfold Sy47.ints
  rw [List.map_map]
  rfl
theorem wl_one (l : List Int) : wl [l] = (l.length : Int) :: l := by
  unfold wl
  simp
theorem ints_len (l : List Nat) : (Sy47.ints l).length = l.length := by
  unfold Sy47.ints
  rw [List.length_map]
theorem wl_ints : ∀ rows : List (List Nat), wl (rows.map Sy47.ints) = Sy47.ints (rows.flatMap fun (l : List Nat) => l.length :: l)
  | [] => rfl
  | r :: rows => by
    have ih := wl_ints rows
    unfold wl at ih ⊢
    rw [List.map_cons, List.flatMap_cons, ih, List.flatMap_cons]
    unfold Sy47.ints
    rw [List.map_append, List.map_cons, List.length_map]
theorem wl_rests {s : Sy47.St} (g : Good s) : (wl (s.rests.map Sy47.ints)).length ≤ 30 := by
  have key : ∀ rows : List (List Nat), (∀ l ∈ rows, l.length ≤ 4) → (wl (rows.map Sy47.ints)).length ≤ 5 * rows.length := by
    intro rows
    induction rows with
    | nil => intro _; exact Nat.le_refl _
    | cons r rows ih =>
      intro h
      have h1 := ih fun l hl => h l (List.mem_cons_of_mem _ hl)
      have h2 := h r (List.mem_cons_self ..)
      unfold wl at h1 ⊢
      rw [List.map_cons, List.flatMap_cons, List.length_append, List.length_cons, ints_len, List.length_cons]
      omega
  have := key s.rests g.four
  have h1 := g.len
  have h2 := g.p6
  omega
theorem one_sz : ([V.non] : List V).length ≤ sizeLine := by show 1 ≤ sizeLine; decide
theorem BrAt.part {CD CB : Addr} {H H' : Hp} {b d bl : Addr} {as : List Addr} {s : Sy47.St} (B : BrAt CD CB H b d bl as s) (e : ExtN H H') : BrAt CD CB H' b d bl as s := by
  obtain ⟨db, hb⟩ := B.obj
  refine ⟨⟨db, e _ _ hb fun ps z => by cases z⟩, B.des.part fun q o h k => e q o h fun ps z => ?_⟩
  rw [z] at k
  rcases k with ⟨_, _, k⟩ | ⟨_, k⟩ <;> cases k
section
variable {P : Program} {w : World} {K : PySem.W.Frag} {mg : Str → Option Value} {base : Heap} {CD CB tb : Addr}
theorem ok_Bridge_fewest {f : Addr} {fd : FuncData} (F : Fun K "fewest" "Bridge.fewest" s_Bridge_fewest f fd) (T : Txt K mg CD CB) (d_plan_from : FnD P w K mg base "plan_from" 7 ["design", "start"] (spPlan CD)) : FnOk P w K mg base CX0 8 f fd ["self"] (spFewest CD CB tb) := by
  refine F.ok sc_Bridge_fewest (fun vs H Q E h => ?_) (fun cdv A outer sh H vs Q E hr h => ?_)
  · obtain ⟨b, d, bl, as, s, rfl, _⟩ := h
    rfl
  · obtain ⟨b, d, bl, as, s, rfl, B, g, k⟩ := h
    obtain ⟨db, hb⟩ := B.obj
    have k : After CD CB tb H b d bl as (s, match Sy47.distance (Sy47.fromEnd s) s.stage with
      | none => Sy47.ok (-6)
      | some k => Sy47.ok (k : Nat)) Q := k
    refine ⟨_, (pss_cons (ps_set (i := 1) sc_Bridge_fewest.nd rfl (Or.inl rfl) (pe_call d_plan_from.ok (hr.mono (by decide)) rfl d_plan_from.mg_ d_plan_from.kp d_plan_from.b .nil pass0 (pa_cons (pe_fld (pv 0) rfl) (pa_cons (pe_fld (pv 0) rfl) pa_nil))))
    (pss_cons (ps_if (pt_cmpR op_isN (pv 1) pe_non (nomark _))
     (pss_one (ps_ret (pe_un un_neg pe_int)))
     pss_nil)
    (pss_one (ps_ret (pe_callB call_len_seq (by rfl) T.len PySem.boot_len (pa_cons (pv 1) pa_nil)))))), ?_⟩
    refine ⟨_, rfl, b, CB, db, _, _, rfl, hb, T.cl_Bridge, T.n_design, bF_design d s.stage, _, rfl, b, CB, db, _, _, rfl, hb, T.cl_Bridge, T.n_stage, bF_stage d s.stage, d, bl, as, s, s.stage, rfl, B.des, g, g.fit, fun he H1 S1 => ?_, fun n hn hlen h520 H1 p S1 np hp => ?_⟩
    · rw [he] at k
      refine ⟨_, rfl, rfl, _, rfl, iteT ?_⟩
      exact ⟨_, rfl, k.with_ B S1⟩
    · rw [hn] at k
      refine ⟨_, rfl, rfl, _, rfl, iteF ?_⟩
      refine ⟨_, rfl, p, _, rfl, .inl (SqL.of hp), ?_⟩
      have e : V.int (((Sy47.plan s (Sy47.fromEnd s) n s.stage).map nV).length : Int) = .int (n : Nat) := by rw [List.length_map, hlen]
      exact at_eq e (k.with_ B S1)
theorem ok_Bridge_needed {f : Addr} {fd : FuncData} (F : Fun K "needed" "Bridge.needed" s_Bridge_needed f fd) (T : Txt K mg CD CB) (d_props_needed : FnD P w K mg base "props_needed" 8 ["design"] (spNeeded CD)) : FnOk P w K mg base CX0 9 f fd ["self"] (spNeed CD CB tb) := by
  refine F.ok sc_Bridge_needed (fun vs H Q E h => ?_) (fun cdv A outer sh H vs Q E hr h => ?_)
  · obtain ⟨b, d, bl, as, s, rfl, _⟩ := h
    rfl
  · obtain ⟨b, d, bl, as, s, rfl, B, g, k⟩ := h
    obtain ⟨db, hb⟩ := B.obj
    have k : After CD CB tb H b d bl as (s, match (List.range (s.props + 1)).find? (fun (k : Nat) => Sy47.can (Sy47.anew s k)) with
      | none => Sy47.ok (-6)
      | some k => Sy47.ok (k : Nat)) Q := k
    refine ⟨_, (pss_cons (ps_set (i := 1) sc_Bridge_needed.nd rfl (Or.inl rfl) (pe_call d_props_needed.ok (hr.mono (by decide)) rfl d_props_needed.mg_ d_props_needed.kp d_props_needed.b .nil pass0 (pa_cons (pe_fld (pv 0) rfl) pa_nil)))
    (pss_cons (ps_if (pt_cmpR op_isN (pv 1) pe_non (nomark _))
     (pss_one (ps_ret (pe_un un_neg pe_int)))
     pss_nil)
    (pss_one (ps_ret (pv 1))))), ?_⟩
    refine ⟨_, rfl, b, CB, db, _, _, rfl, hb, T.cl_Bridge, T.n_design, bF_design d s.stage, d, bl, as, s, rfl, B.des, g, fun he H1 S1 => ?_, fun n hn H1 S1 => ?_⟩
    · rw [he] at k
      refine ⟨_, rfl, rfl, _, rfl, iteT ?_⟩
      exact ⟨_, rfl, k.with_ B S1⟩
    · rw [hn] at k
      refine ⟨_, rfl, rfl, _, rfl, iteF ?_⟩
      exact ⟨_, rfl, k.with_ B S1⟩
/-- [n] + with_lengths([l]) is a call's whole answer -/
theorem listed_out (l : List Nat) : ([V.int ((l.map nV).length : Int)] ++ (wl [Sy47.ints l]).map V.int) = (Sy47Neutral.out (Sy47.listed l)).map V.int := by
  rw [List.length_map]
  rfl
theorem ok_Bridge_plan {f : Addr} {fd : FuncData} (F : Fun K "plan" "Bridge.plan" s_Bridge_plan f fd) (T : Txt K mg CD CB) (d_plan_from : FnD P w K mg base "plan_from" 7 ["design", "start"] (spPlan CD)) (d_with_lengths : FnD P w K mg base "with_lengths" 1 ["rows"] (spWl K)) : FnOk P w K mg base CX0 8 f fd ["self"] (spPlanB CD CB tb) := by
  refine F.ok sc_Bridge_plan (fun vs H Q E h => ?_) (fun cdv A outer sh H vs Q E hr h => ?_)
  · obtain ⟨b, d, bl, as, s, rfl, _⟩ := h
    rfl
  · obtain ⟨b, d, bl, as, s, rfl, B, g, hT, k⟩ := h
    obtain ⟨db, hb⟩ := B.obj
    have k : AfterL CD CB tb H b d bl as (s, match Sy47.distance (Sy47.fromEnd s) s.stage with
      | none => Sy47.ok (-6)
      | some k => Sy47.listed (Sy47.plan s (Sy47.fromEnd s) k s.stage)) Q := k
    refine ⟨_, (pss_cons (ps_set (i := 1) sc_Bridge_plan.nd rfl (Or.inl rfl) (pe_call d_plan_from.ok (hr.mono (by decide)) rfl d_plan_from.mg_ d_plan_from.kp d_plan_from.b .nil pass0 (pa_cons (pe_fld (pv 0) rfl) (pa_cons (pe_fld (pv 0) rfl) pa_nil))))
    (pss_cons (ps_if (pt_cmpR op_isN (pv 1) pe_non (nomark _))
     (pss_one (ps_ret (pe_lst (pa_cons (pe_un un_neg pe_int) pa_nil))))
     pss_nil)
    (pss_one (ps_ret (pe_op op_cat (pe_lst (pa_cons (pe_callB call_len_seq (by rfl) T.len PySem.boot_len (pa_cons (pv 1) pa_nil)) pa_nil)) (pe_call d_with_lengths.ok (hr.mono (by decide)) rfl d_with_lengths.mg_ d_with_lengths.kp d_with_lengths.b .nil pass0 (pa_cons (pe_lst (pa_cons (pv 1) pa_nil)) pa_nil))))))), ?_⟩
    refine ⟨_, rfl, b, CB, db, _, _, rfl, hb, T.cl_Bridge, T.n_design, bF_design d s.stage, _, rfl, b, CB, db, _, _, rfl, hb, T.cl_Bridge, T.n_stage, bF_stage d s.stage, d, bl, as, s, s.stage, rfl, B.des, g, g.fit, fun he H1 S1 => ?_, fun n hn hlen h520 H1 p S1 np hp => ?_⟩
    · rw [he] at k
      refine ⟨_, rfl, rfl, _, rfl, iteT ?_⟩
      refine ⟨_, rfl, one_sz, fun l nl => ?_⟩
      exact k.done B (S1.trans (same_new nl)) (S1.free nl) upd_same rfl
    · rw [hn] at k
      refine ⟨_, rfl, rfl, _, rfl, iteF ?_⟩
      refine ⟨_, rfl, p, _, rfl, .inl (SqL.of hp), one_sz, fun l1 n1 => ?_⟩
      have S2 : L2.Same H1 (upd H1 l1 (.lst [.int (((Sy47.plan s (Sy47.fromEnd s) n s.stage).map nV).length : Int)])) := same_new n1
      refine ⟨_, rfl, one_sz, fun l2 n2 => ?_⟩
      have S3 : L2.Same (upd H1 l1 (.lst [.int (((Sy47.plan s (Sy47.fromEnd s) n s.stage).map nV).length : Int)])) (upd (upd H1 l1 (.lst [.int (((Sy47.plan s (Sy47.fromEnd s) n s.stage).map nV).length : Int)])) l2 (.lst [.ref p])) := same_new n2
      have hwl : (wl [Sy47.ints (Sy47.plan s (Sy47.fromEnd s) n s.stage)]).length ≤ 600 := by
        rw [wl_one, List.length_cons, ints_len, hlen]
        omega
      refine ⟨l2, [p], [Sy47.ints (Sy47.plan s (Sy47.fromEnd s) n s.stage)], rfl, SqL.of upd_same, rows_one (by rw [← ints_map]; exact S3 _ _ (S2 _ _ hp)), by omega, fun H4 l3 S4 n3 h3 => ?_⟩
      refine ⟨l1, l3, _, _, rfl, rfl, S4 _ _ (S3 _ _ upd_same), h3, ?_, fun l4 n4 => ?_⟩
      · have h2 : 1000 < sizeLine := by decide
        simp only [List.length_map, List.length_cons, List.length_nil]
        omega
      · have SS := ((S1.trans S2).trans S3).trans S4
        exact k.done B (SS.trans (same_new n4)) (SS.free n4) upd_same (listed_out _)
theorem ok_Bridge_spare {f : Addr} {fd : FuncData} (F : Fun K "spare" "Bridge.spare" s_Bridge_spare f fd) (T : Txt K mg CD CB) (d_Design_end : MeD P w K mg base CD "end" 1 ["self"] (spEnd CD)) (d_Design_does_carry : MeD P w K mg base CD "does_carry" 4 ["self", "stage"] (spCarry CD)) (d_Design_spare_pieces : MeD P w K mg base CD "spare_pieces" 5 ["self"] (spSpare CD)) (d_with_lengths : FnD P w K mg base "with_lengths" 1 ["rows"] (spWl K)) : FnOk P w K mg base CX0 6 f fd ["self"] (spSpareB CD CB tb) := by
  refine F.ok sc_Bridge_spare (fun vs H Q E h => ?_) (fun cdv A outer sh H vs Q E hr h => ?_)
  · obtain ⟨b, d, bl, as, s, rfl, _⟩ := h
    rfl
  · obtain ⟨b, d, bl, as, s, rfl, B, g, hT, k⟩ := h
    obtain ⟨db, hb⟩ := B.obj
    obtain ⟨dx, hd⟩ := B.des.obj
    have p6 := g.p6
    have k : AfterL CD CB tb H b d bl as (s, if Sy47.carries s (done s) = false then Sy47.ok (-6) else Sy47.listed ((List.range s.pieces).filter fun (i : Nat) => Sy47.carries s (without (done s) i))) Q := k
    refine ⟨_, (pss_cons (ps_if (pt_not (pt_val (pe_meth (pe_fld (pv 0) rfl) T.cl_Design d_Design_does_carry.m d_Design_does_carry.ok (hr.mono (by decide)) d_Design_does_carry.b .nil pass0 (pa_cons (pe_meth0 (pe_fld (pv 0) rfl) T.cl_Design d_Design_end.m d_Design_end.ok (hr.mono (by decide)) d_Design_end.b .nil pass0) pa_nil))))
     (pss_one (ps_ret (pe_lst (pa_cons (pe_un un_neg pe_int) pa_nil))))
     pss_nil)
    (pss_cons (ps_set (i := 1) sc_Bridge_spare.nd rfl (Or.inl rfl) (pe_meth0 (pe_fld (pv 0) rfl) T.cl_Design d_Design_spare_pieces.m d_Design_spare_pieces.ok (hr.mono (by decide)) d_Design_spare_pieces.b .nil pass0))
    (pss_one (ps_ret (pe_op op_cat (pe_lst (pa_cons (pe_callB call_len_seq (by rfl) T.len PySem.boot_len (pa_cons (pv 1) pa_nil)) pa_nil)) (pe_call d_with_lengths.ok (hr.mono (by decide)) rfl d_with_lengths.mg_ d_with_lengths.kp d_with_lengths.b .nil pass0 (pa_cons (pe_lst (pa_cons (pv 1) pa_nil)) pa_nil))))))), ?_⟩
    refine ⟨_, rfl, b, CB, db, _, _, rfl, hb, T.cl_Bridge, T.n_design, bF_design d s.stage, d, dx, _, rfl, hd, dF_no s bl (by decide +kernel) (by decide +kernel) (by decide +kernel) (by decide +kernel), _, rfl, b, CB, db, _, _, rfl, hb, T.cl_Bridge, T.n_design, bF_design d s.stage, d, dx, _, rfl, hd, dF_no s bl (by decide +kernel) (by decide +kernel) (by decide +kernel) (by decide +kernel), d, bl, as, s, rfl, B.des, g, d, bl, as, s, done s, rfl, B.des, g, trivial, _, rfl, ?_⟩
    cases c : Sy47.carries s (done s) with
    | false =>
      rw [if_pos c] at k
      refine ifT (by first | rfl | (rw [c]; rfl)) ?_
      refine ⟨_, rfl, one_sz, fun l nl => ?_⟩
      exact k.done B (same_new nl) nl upd_same rfl
    | true =>
      rw [if_neg (by rw [c]; exact fun z => Bool.noConfusion z)] at k
      refine ifF (by first | rfl | (rw [c]; rfl)) ?_
      refine ⟨_, rfl, b, CB, db, _, _, rfl, hb, T.cl_Bridge, T.n_design, bF_design d s.stage, d, dx, _, rfl, hd, dF_no s bl (by decide +kernel) (by decide +kernel) (by decide +kernel) (by decide +kernel), d, bl, as, s, rfl, B.des, g, fun H1 p S1 np hp => ?_⟩
      have hp : H1 p = some (.lst (((List.range s.pieces).filter fun (i : Nat) => Sy47.carries s (without (done s) i)).map nV)) := hp
      generalize hl : ((List.range s.pieces).filter fun (i : Nat) => Sy47.carries s (without (done s) i)) = l at k hp
      have hlen : l.length ≤ 6 := by
        rw [← hl]
        exact Nat.le_trans (filter_len _ _) p6
      refine ⟨_, rfl, p, _, rfl, .inl (SqL.of hp), one_sz, fun l1 n1 => ?_⟩
      have S2 : L2.Same H1 (upd H1 l1 (.lst [.int ((l.map nV).length : Int)])) := same_new n1
      refine ⟨_, rfl, one_sz, fun l2 n2 => ?_⟩
      have S3 : L2.Same (upd H1 l1 (.lst [.int ((l.map nV).length : Int)])) (upd (upd H1 l1 (.lst [.int ((l.map nV).length : Int)])) l2 (.lst [.ref p])) := same_new n2
      have hwl : (wl [Sy47.ints l]).length ≤ 600 := by
        rw [wl_one, List.length_cons, ints_len]
        omega
      refine ⟨l2, [p], [Sy47.ints l], rfl, SqL.of upd_same, rows_one (by rw [← ints_map]; exact S3 _ _ (S2 _ _ hp)), by omega, fun H4 l3 S4 n3 h3 => ?_⟩
      refine ⟨l1, l3, _, _, rfl, rfl, S4 _ _ (S3 _ _ upd_same), h3, ?_, fun l4 n4 => ?_⟩
      · have h2 : 1000 < sizeLine := by decide
        simp only [List.length_map, List.length_cons, List.length_nil]
        omega
      · have SS := ((S1.trans S2).trans S3).trans S4
        exact k.done B (SS.trans (same_new n4)) (SS.free n4) upd_same (listed_out _)
theorem ok_Bridge_far {f : Addr} {fd : FuncData} (F : Fun K "far" "Bridge.far" s_Bridge_far f fd) (T : Txt K mg CD CB) (d_ways_from : FnD P w K mg base "ways_from" 6 ["design", "start"] (spWays CD)) (d_furthest : FnD P w K mg base "furthest" 5 ["design", "stages"] (spFar CD tb)) (d_Design_pieces_there : MeD P w K mg base CD "pieces_there" 2 ["self", "stage"] (spPiecesThere CD)) (d_with_lengths : FnD P w K mg base "with_lengths" 1 ["rows"] (spWl K)) : FnOk P w K mg base CX0 7 f fd ["self"] (spFarB CD CB tb) := by
  refine F.ok sc_Bridge_far (fun vs H Q E h => ?_) (fun cdv A outer sh H vs Q E hr h => ?_)
  · obtain ⟨b, d, bl, as, s, rfl, _⟩ := h
    rfl
  · obtain ⟨b, d, bl, as, s, rfl, B, g, hT, k⟩ := h
    obtain ⟨db, hb⟩ := B.obj
    obtain ⟨dx, hd⟩ := B.des.obj
    have p6 := g.p6
    have k : AfterL CD CB tb H b d bl as (s, ⟨(size s.pieces (Sy47.furthest s (Sy47.reach s s.stage)) : Nat), [Sy47.ints [Sy47.furthest s (Sy47.reach s s.stage), (Sy47.reach s s.stage).length]]⟩) Q := k
    refine ⟨_, (pss_cons (ps_set (i := 1) sc_Bridge_far.nd rfl (Or.inl rfl) (pe_call d_ways_from.ok (hr.mono (by decide)) rfl d_ways_from.mg_ d_ways_from.kp d_ways_from.b .nil pass0 (pa_cons (pe_fld (pv 0) rfl) (pa_cons (pe_fld (pv 0) rfl) pa_nil))))
    (pss_cons (ps_set (i := 2) sc_Bridge_far.nd rfl (Or.inl rfl) (pe_call d_furthest.ok (hr.mono (by decide)) rfl d_furthest.mg_ d_furthest.kp d_furthest.b .nil pass0 (pa_cons (pe_fld (pv 0) rfl) (pa_cons (pv 1) pa_nil))))
    (pss_one (ps_ret (pe_op op_cat (pe_lst (pa_cons (pe_meth (pe_fld (pv 0) rfl) T.cl_Design d_Design_pieces_there.m d_Design_pieces_there.ok (hr.mono (by decide)) d_Design_pieces_there.b .nil pass0 (pa_cons (pv 2) pa_nil)) pa_nil)) (pe_call d_with_lengths.ok (hr.mono (by decide)) rfl d_with_lengths.mg_ d_with_lengths.kp d_with_lengths.b .nil pass0 (pa_cons (pe_lst (pa_cons (pe_lst (pa_cons (pv 2) (pa_cons (pe_callB call_lenD (by rfl) T.len PySem.boot_len (pa_cons (pv 1) pa_nil)) pa_nil))) pa_nil)) pa_nil))))))), ?_⟩
    refine ⟨_, rfl, b, CB, db, _, _, rfl, hb, T.cl_Bridge, T.n_design, bF_design d s.stage, _, rfl, b, CB, db, _, _, rfl, hb, T.cl_Bridge, T.n_stage, bF_stage d s.stage, d, bl, as, s, s.stage, rfl, B.des, g, g.fit, fun H1 p kvs L S1 np W Bf => ?_⟩
    have B1 := B.keep S1
    obtain ⟨t0, ht0⟩ := Bf.start
    refine ⟨_, rfl, b, CB, db, _, _, rfl, S1 _ _ hb, T.cl_Bridge, T.n_design, bF_design d s.stage, _, rfl, d, bl, as, s, p, kvs, L.map (·.1), rfl, B1.des, g, W.obj, by rw [W.keys, List.map_map]; rfl, fun z => ?_, LamX.TabS.ext hT S1, fun H2 m eN T2 hb2 => ?_⟩
    · have : L = [] := by simpa using z
      rw [this] at ht0
      cases ht0
    obtain ⟨f1, f2⟩ := far_of p6 g.m2 g.fit Bf.nodup (fun u => Bf.reach u) hb2
    rw [List.length_map] at f2
    rw [f1, f2] at k
    have B2 := B1.part eN
    have hd2 : H2 d = some (.ins CD dx (dF s bl)) := eN _ _ (S1 _ _ hd) fun ps z => by cases z
    have hb2' : H2 b = some (.ins CB db (bF d s.stage)) := eN _ _ (S1 _ _ hb) fun ps z => by cases z
    have hp2 : H2 p = some (.dK kvs) := eN _ _ W.obj fun ps z => by cases z
    have kl : kvs.length = L.length := by
      have := congrArg List.length W.keys
      rw [List.length_map, List.length_map] at this
      exact this
    refine ⟨_, rfl, b, CB, db, _, _, rfl, hb2', T.cl_Bridge, T.n_design, bF_design d s.stage, d, dx, _, rfl, hd2, dF_no s bl (by decide +kernel) (by decide +kernel) (by decide +kernel) (by decide +kernel), _, rfl, d, bl, as, s, m, rfl, B2.des, g, trivial, one_sz, fun l1 n1 => ?_⟩
    have S3 : L2.Same H2 (upd H2 l1 (.lst [nV (size s.pieces m)])) := same_new n1
    refine ⟨_, rfl, _, rfl, p, kvs, rfl, S3 _ _ hp2, (by show 2 ≤ sizeLine; decide), fun l2 n2 => ?_⟩
    rw [kl]
    have S4 : L2.Same (upd H2 l1 (.lst [nV (size s.pieces m)])) (upd (upd H2 l1 (.lst [nV (size s.pieces m)])) l2 (.lst [nV m, .int (L.length : Int)])) := same_new n2
    refine ⟨one_sz, fun l3 n3 => ?_⟩
    have S5 : L2.Same (upd (upd H2 l1 (.lst [nV (size s.pieces m)])) l2 (.lst [nV m, .int (L.length : Int)])) (upd (upd (upd H2 l1 (.lst [nV (size s.pieces m)])) l2 (.lst [nV m, .int (L.length : Int)])) l3 (.lst [.ref l2])) := same_new n3
    have hwl : (wl [Sy47.ints [m, L.length]]).length = 3 := rfl
    refine ⟨l3, [l2], [Sy47.ints [m, L.length]], rfl, SqL.of upd_same, rows_one (S5 _ _ upd_same), by omega, fun H6 l4 S6 n4 h4 => ?_⟩
    refine ⟨l1, l4, _, _, rfl, rfl, S6 _ _ (S5 _ _ (S4 _ _ upd_same)), h4, (by show 4 ≤ sizeLine; decide), fun l5 n5 => ?_⟩
    have SS := (((S3.trans S4).trans S5).trans S6).trans (same_new (o := .lst ([nV (size s.pieces m)] ++ (wl [Sy47.ints [m, L.length]]).map V.int)) n5)
    have nl2 : H2 l5 = Option.none := (((S3.trans S4).trans S5).trans S6).free n5
    have nl : ∀ o, H l5 = some o → (∃ ps, o = .tbl ps) ∨ l5 ∈ b :: d :: bl :: as := fun o e => .inl <| by
      refine Classical.byContradiction fun ht => ?_
      rw [eN _ _ (S1 _ _ e) fun ps z => ht ⟨ps, z⟩] at nl2
      cases nl2
    refine k _ d bl as l5 (B2.keep SS) ⟨fun q o e ho hq => SS _ _ (eN _ _ (S1 _ _ e) ho), fun q h => .inl h, fun _ => LamX.TabS.ext T2 SS⟩ (fun z => ?_) nl (upd_same.trans rfl)
    obtain ⟨o, e, _⟩ := B2.kind _ z
    rw [nl2] at e
    cases e
theorem ok_Bridge_state {f : Addr} {fd : FuncData} (F : Fun K "state" "Bridge.state" s_Bridge_state f fd) (T : Txt K mg CD CB) (d_with_lengths : FnD P w K mg base "with_lengths" 1 ["rows"] (spWl K)) : FnOk P w K mg base CX0 2 f fd ["self"] (spState CD CB tb) := by
  refine F.ok sc_Bridge_state (fun vs H Q E h => ?_) (fun cdv A outer sh H vs Q E hr h => ?_)
  · obtain ⟨b, d, bl, as, s, rfl, _⟩ := h
    rfl
  · obtain ⟨b, d, bl, as, s, rfl, B, g, hT, k⟩ := h
    obtain ⟨db, hb⟩ := B.obj
    obtain ⟨dx, hd⟩ := B.des.obj
    have k : AfterL CD CB tb H b d bl as (s, ⟨(s.stage : Nat), [Sy47.ints [s.pieces, s.props, s.atOnce], Sy47.ints (s.rests.flatMap fun (l : List Nat) => l.length :: l)]⟩) Q := k
    refine ⟨_, (pss_cons (ps_set (i := 1) sc_Bridge_state.nd rfl (Or.inl rfl) (pe_fld (pv 0) rfl))
    (pss_cons (ps_set (i := 2) sc_Bridge_state.nd rfl (Or.inl rfl) (pe_lst (pa_cons (pe_fld (pv 1) rfl) (pa_cons (pe_fld (pv 1) rfl) (pa_cons (pe_fld (pv 1) rfl) pa_nil)))))
    (pss_one (ps_ret (pe_op op_cat (pe_lst (pa_cons (pe_fld (pv 0) rfl) pa_nil)) (pe_call d_with_lengths.ok (hr.mono (by decide)) rfl d_with_lengths.mg_ d_with_lengths.kp d_with_lengths.b .nil pass0 (pa_cons (pe_lst (pa_cons (pv 2) (pa_cons (pe_call d_with_lengths.ok (hr.mono (by decide)) rfl d_with_lengths.mg_ d_with_lengths.kp d_with_lengths.b .nil pass0 (pa_cons (pe_fld (pv 1) rfl) pa_nil)) pa_nil))) pa_nil))))))), ?_⟩
    refine ⟨_, rfl, b, CB, db, _, _, rfl, hb, T.cl_Bridge, T.n_design, bF_design d s.stage, ?_⟩
    refine ⟨_, rfl, d, CD, dx, _, _, rfl, hd, T.cl_Design, T.n_pieces, dF_pieces s bl, _, rfl, d, CD, dx, _, _, rfl, hd, T.cl_Design, T.n_props, dF_props s bl, _, rfl, d, CD, dx, _, _, rfl, hd, T.cl_Design, T.n_at_once, dF_at_once s bl, (by show 3 ≤ sizeLine; decide), fun c1 nc1 => ?_⟩
    have S1 : L2.Same H (upd H c1 (.lst [nV s.pieces, nV s.props, nV s.atOnce])) := same_new nc1
    refine ⟨_, rfl, b, CB, db, _, _, rfl, S1 _ _ hb, T.cl_Bridge, T.n_stage, bF_stage d s.stage, one_sz, fun l1 n1 => ?_⟩
    have S2 : L2.Same (upd H c1 (.lst [nV s.pieces, nV s.props, nV s.atOnce])) (upd (upd H c1 (.lst [nV s.pieces, nV s.props, nV s.atOnce])) l1 (.lst [nV s.stage])) := same_new n1
    have S12 := S1.trans S2
    have D2 := B.des.keep S12
    have hw := wl_ints s.rests
    have hz := wl_rests g
    refine ⟨_, rfl, _, rfl, d, CD, dx, _, _, rfl, S12 _ _ hd, T.cl_Design, T.n_bases, dF_bases s bl, bl, as, s.rests.map Sy47.ints, rfl, SqL.of D2.lst, ⟨by rw [List.length_map]; exact D2.len, fun j c hj => ?_⟩, by omega, fun H3 l2 S3 n2 h2 => ?_⟩
    · obtain ⟨l, e1, e2⟩ := D2.at_ j c hj
      refine ⟨Sy47.ints l, ?_, by rw [← ints_map]; exact e2⟩
      rw [List.getElem?_map, e1]
      rfl
    refine ⟨(by show 2 ≤ sizeLine; decide), fun l3 n3 => ?_⟩
    have S4 : L2.Same H3 (upd H3 l3 (.lst [.ref c1, .ref l2])) := same_new n3
    rw [hw] at h2 hz
    have hz2 : (wl [Sy47.ints [s.pieces, s.props, s.atOnce], Sy47.ints (s.rests.flatMap fun (l : List Nat) => l.length :: l)]).length ≤ 100 := by
      unfold wl
      simp only [List.flatMap_cons, List.flatMap_nil, List.length_append, List.length_cons, List.length_nil]
      have h3 : (Sy47.ints [s.pieces, s.props, s.atOnce]).length = 3 := rfl
      omega
    refine ⟨l3, [c1, l2], [Sy47.ints [s.pieces, s.props, s.atOnce], Sy47.ints (s.rests.flatMap fun (l : List Nat) => l.length :: l)], rfl, SqL.of upd_same, rows_two (S4 _ _ (S3 _ _ (S2 _ _ upd_same))) (S4 _ _ h2), by omega, fun H5 l4 S5 n4 h4 => ?_⟩
    refine ⟨l1, l4, _, _, rfl, rfl, S5 _ _ (S4 _ _ (S3 _ _ upd_same)), h4, ?_, fun l5 n5 => ?_⟩
    · have h2 : 1000 < sizeLine := by decide
      simp only [List.length_map, List.length_cons, List.length_nil]
      omega
    · have SS := ((S12.trans S3).trans S4).trans S5
      exact k.done B (SS.trans (same_new n5)) (SS.free n5) upd_same rfl
end
end Br

set_option maxRecDepth 100000
set_option maxHeartbeats 4200000
namespace Br
open PySem PySem.Spec LamX
open PyProof.Rows L2
open PySem.W (Codec)
open Sy47 (things has with_ without propsIn done size firm carries)
/-- a call that's answered by a number alone -/
def Num : Sy47.Call → Prop
  | .plan => False
  | .far => False
  | .spare => False
  | .state => False
  | _ => True
def spNum (K : PySem.W.Frag) (CD CB tb : Addr) : Sp := fun vs H Q _ => ∃ (b d bl : Addr) (as : List Addr) (s : Sy47.St) (c : Sy47.Call) (n : Nat) (xs : List Nat) (l : Addr), vs = [.ref b, nV n, .ref l] ∧ nums c = n :: xs ∧ SqL K H l (xs.map nV) ∧ Num c ∧ BrAt CD CB H b d bl as s ∧ Good s ∧ After CD CB tb H b d bl as (Sy47.step s c) Q
def spAnswer (K : PySem.W.Frag) (CD CB tb : Addr) : Sp := fun vs H Q _ => ∃ (b d bl : Addr) (as : List Addr) (s : Sy47.St) (c : Sy47.Call) (n : Nat) (xs : List Nat) (l : Addr), vs = [.ref b, nV n, .ref l] ∧ nums c = n :: xs ∧ SqL K H l (xs.map nV) ∧ BrAt CD CB H b d bl as s ∧ Good s ∧ TabS H tb lamN ∧ AfterL CD CB tb H b d bl as (Sy47.step s c) Q
theorem num_out {s : Sy47.St} {c : Sy47.Call} (e : Num c) : Sy47Neutral.out (Sy47.step s c).2 = [(Sy47.step s c).2.v] := by
  have h : (Sy47.step s c).2.l = [] := by
    cases c with
    | begins a b c =>
      show (if a < 1 ∨ Sy47.PIECES < a ∨ Sy47.PROPS < b ∨ b < c then (s, Sy47.ok (-1)) else (⟨a, b, c, List.replicate a [], 0⟩, Sy47.ok 0)).2.l = []
      split <;> rfl
    | rests i a =>
      show (if 2 ^ things s ≤ a then (s, Sy47.ok (-1)) else if s.pieces ≤ i then (s, Sy47.ok (-2)) else if s.stage ≠ 0 then (s, Sy47.ok (-4)) else if Sy47.WAYS ≤ (s.rests.getD i []).length then (s, Sy47.ok (-5)) else ({ s with rests := s.rests.set i (s.rests.getD i [] ++ [a]) }, Sy47.ok (((s.rests.getD i []).length + 1 : Nat) : Int))).2.l = []
      repeat' split
      all_goals rfl
    | carries t =>
      show (if 2 ^ things s ≤ t then (s, Sy47.ok (-1)) else (s, Sy47.ok (if Sy47.carries s t = true then 1 else 0))).2.l = []
      split <;> rfl
    | falls t =>
      show (if 2 ^ things s ≤ t then (s, Sy47.ok (-1)) else (s, Sy47.ok (Sy47.left s t : Nat))).2.l = []
      split <;> rfl
    | does m =>
      rw [step_does]
      split
      · rfl
      · split <;> rfl
    | undo => rfl
    | fewest =>
      show (match Sy47.distance (Sy47.fromEnd s) s.stage with
        | none => Sy47.ok (-6)
        | some k => Sy47.ok (k : Nat)).l = []
      split <;> rfl
    | needed =>
      show (match (List.range (s.props + 1)).find? (fun (k : Nat) => Sy47.can (Sy47.anew s k)) with
        | none => Sy47.ok (-6)
        | some k => Sy47.ok (k : Nat)).l = []
      split <;> rfl
    | _ => exact e.elim
  unfold Sy47Neutral.out
  rw [h]
  rfl
theorem Kept.then {tb : Addr} {H H' H2 : Hp} {b : Addr} {old new : List Addr} (k : Kept tb H H' b old new) (S : L2.Same H' H2) : Kept tb H H2 b old new := ⟨fun q o h n hq => S _ _ (k.all q o h n hq), k.new, fun h => LamX.TabS.ext (k.tab h) S⟩
section
variable {P : Program} {w : World} {K : PySem.W.Frag} {mg : Str → Option Value} {base : Heap} {CD CB tb : Addr}
theorem ok_number_answered {f : Addr} {fd : FuncData} (F : Fun K "number_answered" "number_answered" s_number_answered f fd) (T : Txt K mg CD CB) (d_Bridge_begins : MeD P w K mg base CB "begins" 3 ["self", "pieces", "props", "at_once"] (spBegins CD CB tb)) (d_Bridge_rests : MeD P w K mg base CB "rests" 2 ["self", "piece", "base"] (spRests CD CB tb)) (d_Bridge_carries : MeD P w K mg base CB "carries" 5 ["self", "stage"] (spCarries CD CB tb)) (d_Bridge_falls : MeD P w K mg base CB "falls" 6 ["self", "stage"] (spFalls CD CB tb)) (d_Bridge_does : MeD P w K mg base CB "does" 6 ["self", "move"] (spDoes CD CB tb)) (d_Bridge_undo : MeD P w K mg base CB "undo" 1 ["self"] (spUndo CD CB tb)) (d_Bridge_fewest : MeD P w K mg base CB "fewest" 8 ["self"] (spFewest CD CB tb)) (d_Bridge_needed : MeD P w K mg base CB "needed" 9 ["self"] (spNeed CD CB tb)) : FnOk P w K mg base L2.CX0 10 f fd ["bridge", "call", "numbers"] (spNum K CD CB tb) := by
  refine F.ok sc_number_answered (fun vs H Q E h => ?_) (fun cdv A outer sh H vs Q E hr h => ?_)
  · obtain ⟨b, d, bl, as, s, c, n, xs, l, rfl, _⟩ := h
    rfl
  · obtain ⟨b, d, bl, as, s, c, n, xs, l, rfl, hc, hl, he, B, g, k⟩ := h
    obtain ⟨db, hb⟩ := B.obj
    refine ⟨_, (pss_cons (ps_if (pt_cmpR nEq (pv 1) (pe_glob (v := .int 0) rfl T.g_BEGINS.choose_spec ⟨_, rfl⟩) (nomark _))
     (pss_one (ps_ret (pe_meth (pv 0) T.cl_Bridge d_Bridge_begins.m d_Bridge_begins.ok (hr.mono (by decide)) d_Bridge_begins.b .nil pass0 (pa_cons (pe_ix ix_list (pv 2) pe_int (fun _ _ => rfl)) (pa_cons (pe_ix ix_list (pv 2) pe_int (fun _ _ => rfl)) (pa_cons (pe_ix ix_list (pv 2) pe_int (fun _ _ => rfl)) pa_nil))))))
     pss_nil)
    (pss_cons (ps_if (pt_cmpR nEq (pv 1) (pe_glob (v := .int 1) rfl T.g_RESTS.choose_spec ⟨_, rfl⟩) (nomark _))
     (pss_one (ps_ret (pe_meth (pv 0) T.cl_Bridge d_Bridge_rests.m d_Bridge_rests.ok (hr.mono (by decide)) d_Bridge_rests.b .nil pass0 (pa_cons (pe_ix ix_list (pv 2) pe_int (fun _ _ => rfl)) (pa_cons (pe_ix ix_list (pv 2) pe_int (fun _ _ => rfl)) pa_nil)))))
     pss_nil)
    (pss_cons (ps_if (pt_cmpR nEq (pv 1) (pe_glob (v := .int 2) rfl T.g_CARRIES.choose_spec ⟨_, rfl⟩) (nomark _))
     (pss_one (ps_ret (pe_meth (pv 0) T.cl_Bridge d_Bridge_carries.m d_Bridge_carries.ok (hr.mono (by decide)) d_Bridge_carries.b .nil pass0 (pa_cons (pe_ix ix_list (pv 2) pe_int (fun _ _ => rfl)) pa_nil))))
     pss_nil)
    (pss_cons (ps_if (pt_cmpR nEq (pv 1) (pe_glob (v := .int 3) rfl T.g_FALLS.choose_spec ⟨_, rfl⟩) (nomark _))
     (pss_one (ps_ret (pe_meth (pv 0) T.cl_Bridge d_Bridge_falls.m d_Bridge_falls.ok (hr.mono (by decide)) d_Bridge_falls.b .nil pass0 (pa_cons (pe_ix ix_list (pv 2) pe_int (fun _ _ => rfl)) pa_nil))))
     pss_nil)
    (pss_cons (ps_if (pt_cmpR nEq (pv 1) (pe_glob (v := .int 4) rfl T.g_DOES.choose_spec ⟨_, rfl⟩) (nomark _))
     (pss_one (ps_ret (pe_meth (pv 0) T.cl_Bridge d_Bridge_does.m d_Bridge_does.ok (hr.mono (by decide)) d_Bridge_does.b .nil pass0 (pa_cons (pe_ix ix_list (pv 2) pe_int (fun _ _ => rfl)) pa_nil))))
     pss_nil)
    (pss_cons (ps_if (pt_cmpR nEq (pv 1) (pe_glob (v := .int 5) rfl T.g_UNDO.choose_spec ⟨_, rfl⟩) (nomark _))
     (pss_one (ps_ret (pe_meth0 (pv 0) T.cl_Bridge d_Bridge_undo.m d_Bridge_undo.ok (hr.mono (by decide)) d_Bridge_undo.b .nil pass0)))
     pss_nil)
    (pss_cons (ps_if (pt_cmpR nEq (pv 1) (pe_glob (v := .int 6) rfl T.g_FEWEST.choose_spec ⟨_, rfl⟩) (nomark _))
     (pss_one (ps_ret (pe_meth0 (pv 0) T.cl_Bridge d_Bridge_fewest.m d_Bridge_fewest.ok (hr.mono (by decide)) d_Bridge_fewest.b .nil pass0)))
     pss_nil)
    (pss_one (ps_ret (pe_meth0 (pv 0) T.cl_Bridge d_Bridge_needed.m d_Bridge_needed.ok (hr.mono (by decide)) d_Bridge_needed.b .nil pass0)))))))))), ?_⟩
    refine ⟨_, rfl, n, 0, rfl, rfl, _, rfl, ?_⟩
    cases c with
    | begins x y z =>
      cases hc
      refine iteT ?_
      exact ⟨_, rfl, b, db, _, rfl, hb, bF_no d s.stage (by decide +kernel) (by decide +kernel), _, rfl, l, _, 0, _, rfl, rfl, hl, at_of (j := 0) rfl rfl, _, rfl, l, _, 1, _, rfl, rfl, hl, at_of (j := 1) rfl rfl, _, rfl, l, _, 2, _, rfl, rfl, hl, at_of (j := 2) rfl rfl, b, d, bl, as, s, x, y, z, rfl, B, g, k⟩
    | rests x y =>
      cases hc
      refine iteF ⟨_, rfl, 1, 1, rfl, rfl, _, rfl, iteT ?_⟩
      exact ⟨_, rfl, b, db, _, rfl, hb, bF_no d s.stage (by decide +kernel) (by decide +kernel), _, rfl, l, _, 0, _, rfl, rfl, hl, at_of (j := 0) rfl rfl, _, rfl, l, _, 1, _, rfl, rfl, hl, at_of (j := 1) rfl rfl, b, d, bl, as, s, x, y, rfl, B, g, k⟩
    | carries x =>
      cases hc
      refine iteF ⟨_, rfl, 2, 1, rfl, rfl, _, rfl, iteF ⟨_, rfl, 2, 2, rfl, rfl, _, rfl, iteT ?_⟩⟩
      exact ⟨_, rfl, b, db, _, rfl, hb, bF_no d s.stage (by decide +kernel) (by decide +kernel), _, rfl, l, _, 0, _, rfl, rfl, hl, at_of (j := 0) rfl rfl, b, d, bl, as, s, x, rfl, B, g, k⟩
    | falls x =>
      cases hc
      refine iteF ⟨_, rfl, 3, 1, rfl, rfl, _, rfl, iteF ⟨_, rfl, 3, 2, rfl, rfl, _, rfl, iteF ⟨_, rfl, 3, 3, rfl, rfl, _, rfl, iteT ?_⟩⟩⟩
      exact ⟨_, rfl, b, db, _, rfl, hb, bF_no d s.stage (by decide +kernel) (by decide +kernel), _, rfl, l, _, 0, _, rfl, rfl, hl, at_of (j := 0) rfl rfl, b, d, bl, as, s, x, rfl, B, g, k⟩
    | does x =>
      cases hc
      refine iteF ⟨_, rfl, 4, 1, rfl, rfl, _, rfl, iteF ⟨_, rfl, 4, 2, rfl, rfl, _, rfl, iteF ⟨_, rfl, 4, 3, rfl, rfl, _, rfl, iteF ⟨_, rfl, 4, 4, rfl, rfl, _, rfl, iteT ?_⟩⟩⟩⟩
      exact ⟨_, rfl, b, db, _, rfl, hb, bF_no d s.stage (by decide +kernel) (by decide +kernel), _, rfl, l, _, 0, _, rfl, rfl, hl, at_of (j := 0) rfl rfl, b, d, bl, as, s, x, rfl, B, g, k⟩
    | undo =>
      cases hc
      refine iteF ⟨_, rfl, 5, 1, rfl, rfl, _, rfl, iteF ⟨_, rfl, 5, 2, rfl, rfl, _, rfl, iteF ⟨_, rfl, 5, 3, rfl, rfl, _, rfl, iteF ⟨_, rfl, 5, 4, rfl, rfl, _, rfl, iteF ⟨_, rfl, 5, 5, rfl, rfl, _, rfl, iteT ?_⟩⟩⟩⟩⟩
      exact ⟨_, rfl, b, db, _, rfl, hb, bF_no d s.stage (by decide +kernel) (by decide +kernel), b, d, bl, as, s, rfl, B, g, k⟩
    | fewest =>
      cases hc
      refine iteF ⟨_, rfl, 6, 1, rfl, rfl, _, rfl, iteF ⟨_, rfl, 6, 2, rfl, rfl, _, rfl, iteF ⟨_, rfl, 6, 3, rfl, rfl, _, rfl, iteF ⟨_, rfl, 6, 4, rfl, rfl, _, rfl, iteF ⟨_, rfl, 6, 5, rfl, rfl, _, rfl, iteF ⟨_, rfl, 6, 6, rfl, rfl, _, rfl, iteT ?_⟩⟩⟩⟩⟩⟩
      exact ⟨_, rfl, b, db, _, rfl, hb, bF_no d s.stage (by decide +kernel) (by decide +kernel), b, d, bl, as, s, rfl, B, g, k⟩
    | needed =>
      cases hc
      refine iteF ⟨_, rfl, 9, 1, rfl, rfl, _, rfl, iteF ⟨_, rfl, 9, 2, rfl, rfl, _, rfl, iteF ⟨_, rfl, 9, 3, rfl, rfl, _, rfl, iteF ⟨_, rfl, 9, 4, rfl, rfl, _, rfl, iteF ⟨_, rfl, 9, 5, rfl, rfl, _, rfl, iteF ⟨_, rfl, 9, 6, rfl, rfl, _, rfl, iteF ?_⟩⟩⟩⟩⟩⟩
      exact ⟨_, rfl, b, db, _, rfl, hb, bF_no d s.stage (by decide +kernel) (by decide +kernel), b, d, bl, as, s, rfl, B, g, k⟩
    | _ => exact he.elim
theorem ok_answer {f : Addr} {fd : FuncData} (F : Fun K "answer" "answer" s_answer f fd) (T : Txt K mg CD CB) (d_number_answered : FnD P w K mg base "number_answered" 10 ["bridge", "call", "numbers"] (spNum K CD CB tb)) (d_Bridge_plan : MeD P w K mg base CB "plan" 8 ["self"] (spPlanB CD CB tb)) (d_Bridge_far : MeD P w K mg base CB "far" 7 ["self"] (spFarB CD CB tb)) (d_Bridge_spare : MeD P w K mg base CB "spare" 6 ["self"] (spSpareB CD CB tb)) (d_Bridge_state : MeD P w K mg base CB "state" 2 ["self"] (spState CD CB tb)) : FnOk P w K mg base L2.CX0 11 f fd ["bridge", "call", "numbers"] (spAnswer K CD CB tb) := by
  refine F.ok sc_answer (fun vs H Q E h => ?_) (fun cdv A outer sh H vs Q E hr h => ?_)
  · obtain ⟨b, d, bl, as, s, c, n, xs, l, rfl, _⟩ := h
    rfl
  · obtain ⟨b, d, bl, as, s, c, n, xs, l, rfl, hc, hl, B, g, hT, k⟩ := h
    obtain ⟨db, hb⟩ := B.obj
    refine ⟨_, (pss_cons (ps_if (pt_cmpR nEq (pv 1) (pe_glob (v := .int 7) rfl T.g_PLAN.choose_spec ⟨_, rfl⟩) (nomark _))
     (pss_one (ps_ret (pe_meth0 (pv 0) T.cl_Bridge d_Bridge_plan.m d_Bridge_plan.ok (hr.mono (by decide)) d_Bridge_plan.b .nil pass0)))
     pss_nil)
    (pss_cons (ps_if (pt_cmpR nEq (pv 1) (pe_glob (v := .int 8) rfl T.g_FAR.choose_spec ⟨_, rfl⟩) (nomark _))
     (pss_one (ps_ret (pe_meth0 (pv 0) T.cl_Bridge d_Bridge_far.m d_Bridge_far.ok (hr.mono (by decide)) d_Bridge_far.b .nil pass0)))
     pss_nil)
    (pss_cons (ps_if (pt_cmpR nEq (pv 1) (pe_glob (v := .int 10) rfl T.g_SPARE.choose_spec ⟨_, rfl⟩) (nomark _))
     (pss_one (ps_ret (pe_meth0 (pv 0) T.cl_Bridge d_Bridge_spare.m d_Bridge_spare.ok (hr.mono (by decide)) d_Bridge_spare.b .nil pass0)))
     pss_nil)
    (pss_cons (ps_if (pt_cmpR nEq (pv 1) (pe_glob (v := .int 11) rfl T.g_STATE.choose_spec ⟨_, rfl⟩) (nomark _))
     (pss_one (ps_ret (pe_meth0 (pv 0) T.cl_Bridge d_Bridge_state.m d_Bridge_state.ok (hr.mono (by decide)) d_Bridge_state.b .nil pass0)))
     pss_nil)
    (pss_one (ps_ret (pe_lst (pa_cons (pe_call d_number_answered.ok (hr.mono (by decide)) rfl d_number_answered.mg_ d_number_answered.kp d_number_answered.b .nil pass0 (pa_cons (pv 0) (pa_cons (pv 1) (pa_cons (pv 2) pa_nil)))) pa_nil)))))))), ?_⟩
    refine ⟨_, rfl, n, 7, rfl, rfl, _, rfl, ?_⟩
    by_cases e7 : n = 7
    · refine ifT (decide_eq_true e7) ?_
      have hcc : c = .plan := by
        subst e7
        cases c <;> first | rfl | cases hc
      subst hcc
      exact ⟨_, rfl, b, db, _, rfl, hb, bF_no d s.stage (by decide +kernel) (by decide +kernel), b, d, bl, as, s, rfl, B, g, hT, k⟩
    refine ifF (decide_eq_false e7) ⟨_, rfl, n, 8, rfl, rfl, _, rfl, ?_⟩
    by_cases e8 : n = 8
    · refine ifT (decide_eq_true e8) ?_
      have hcc : c = .far := by
        subst e8
        cases c <;> first | rfl | cases hc
      subst hcc
      exact ⟨_, rfl, b, db, _, rfl, hb, bF_no d s.stage (by decide +kernel) (by decide +kernel), b, d, bl, as, s, rfl, B, g, hT, k⟩
    refine ifF (decide_eq_false e8) ⟨_, rfl, n, 10, rfl, rfl, _, rfl, ?_⟩
    by_cases e10 : n = 10
    · refine ifT (decide_eq_true e10) ?_
      have hcc : c = .spare := by
        subst e10
        cases c <;> first | rfl | cases hc
      subst hcc
      exact ⟨_, rfl, b, db, _, rfl, hb, bF_no d s.stage (by decide +kernel) (by decide +kernel), b, d, bl, as, s, rfl, B, g, hT, k⟩
    refine ifF (decide_eq_false e10) ⟨_, rfl, n, 11, rfl, rfl, _, rfl, ?_⟩
    by_cases e11 : n = 11
    · refine ifT (decide_eq_true e11) ?_
      have hcc : c = .state := by
        subst e11
        cases c <;> first | rfl | cases hc
      subst hcc
      exact ⟨_, rfl, b, db, _, rfl, hb, bF_no d s.stage (by decide +kernel) (by decide +kernel), b, d, bl, as, s, rfl, B, g, hT, k⟩
    refine ifF (decide_eq_false e11) ?_
    have hn : Num c := by
      cases c <;> first | trivial | (cases hc; exact absurd rfl e7) | (cases hc; exact absurd rfl e8) | (cases hc; exact absurd rfl e10) | (cases hc; exact absurd rfl e11)
    refine ⟨_, rfl, _, rfl, _, rfl, b, d, bl, as, s, c, n, xs, l, rfl, hc, hl, hn, B, g, fun H' d' bl' as' B' kp => ⟨one_sz, fun l' nl => ?_⟩⟩
    have S : L2.Same H' (upd H' l' (.lst [.int (Sy47.step s c).2.v])) := same_new nl
    refine k _ d' bl' as' l' (B'.keep S) (kp.then S) (fun z => ?_) (fun o e => ?_) (upd_same.trans (by rw [num_out hn]; rfl))
    · obtain ⟨o, e, _⟩ := B'.kind _ z
      rw [nl] at e
      cases e
    · refine Classical.byContradiction fun ht => ?_
      have := kp.all l' o e (fun ps z => ht (.inl ⟨ps, z⟩)) fun z => ht (.inr z)
      rw [nl] at this
      cases this
end
end Br

set_option maxRecDepth 100000
set_option maxHeartbeats 4200000
namespace Br
open PySem PySem.Spec LamX
open PyProof.Rows L2
open PySem.W (Codec)
open Sy47 (things has with_ without propsIn done size firm carries)
/-- the answers: a request whose calls are told, the list of what is due -/
def spAnswers (tb : Addr) (K : PySem.W.Frag) : Sp := fun vs H Q _ => ∃ (a : Addr) (ns : List Int) (cs : List Sy47.Call), vs = [.ref a] ∧ SqL K H a (ns.map V.int) ∧ Rest ns cs ∧ (tail Sy47.init cs).length ≤ 10000000 ∧ TabS H tb lamN ∧
  ∀ (H' : Hp) (p : Addr), H' p = some (.lst ((tail Sy47.init cs).map V.int)) → Q (.ref p) H'
/-- the head of a rest -/
theorem rest_head {l : List Int} {cs : List Sy47.Call} (h : Rest l cs) (hne : l ≠ []) : ∃ (c : Sy47.Call) (n : Nat) (xs : List Nat) (l' : List Int) (cs' : List Sy47.Call), cs = c :: cs' ∧ nums c = n :: xs ∧ l = Int.ofNat n :: (xs.map Int.ofNat ++ l') ∧ Rest l' cs' := by
  cases h with
  | nil => exact absurd rfl hne
  | @cons c l' cs' hb hr =>
    cases hc : nums c with
    | nil => cases c <;> cases hc
    | cons n xs =>
      refine ⟨c, n, xs, l', cs', rfl, hc, ?_, hr⟩
      simp
theorem handed_at {c : Sy47.Call} {n : Nat} {xs : List Nat} (h : nums c = n :: xs) : ([.int 3, .int 2, .int 1, .int 1, .int 1, .int 0, .int 0, .int 0, .int 0, .int 0, .int 0, .int 0] : List V)[n]? = some (nV xs.length) := by
  cases c <;> (cases h; rfl)
theorem ExtN.seq {K : PySem.W.Frag} {H H' : Hp} {a : Addr} {xs : List V} (e : ExtN H H') : SqL K H a xs → SqL K H' a xs :=
  Or.imp_left (Or.imp (fun z => e _ _ z fun _ y => nomatch y) fun ⟨o, z⟩ => ⟨o, e _ _ z fun _ y => nomatch y⟩)
theorem BrAt.some {CD CB : Addr} {H : Hp} {b d bl : Addr} {as : List Addr} {s : Sy47.St} (B : BrAt CD CB H b d bl as s) : ∀ p ∈ b :: d :: bl :: as, ∃ o, H p = Option.some o := by
  obtain ⟨dx, hb⟩ := B.obj
  obtain ⟨dd, hd⟩ := B.des.obj
  intro p h
  rcases List.mem_cons.1 h with e | h
  · exact ⟨_, by rw [e]; exact hb⟩
  rcases List.mem_cons.1 h with e | h
  · exact ⟨_, by rw [e]; exact hd⟩
  rcases List.mem_cons.1 h with e | h
  · exact ⟨_, by rw [e]; exact B.des.lst⟩
  obtain ⟨j, hj⟩ := List.getElem?_of_mem h
  obtain ⟨l, _, h2⟩ := B.des.at_ j p hj
  exact ⟨_, h2⟩
theorem BrAt.move {CD CB : Addr} {H H' : Hp} {b d bl : Addr} {as : List Addr} {s : Sy47.St} (B : BrAt CD CB H b d bl as s) (kp : ∀ q ∈ b :: d :: bl :: as, H' q = H q) : BrAt CD CB H' b d bl as s := by
  obtain ⟨dx, hb⟩ := B.obj
  exact ⟨⟨dx, by rw [kp b (List.mem_cons_self ..)]; exact hb⟩, B.des.other (fun q hq => kp q (List.mem_cons_of_mem _ hq)) (fun _ => rfl) rfl⟩
theorem cut_between (xs : List V) (i j : Nat) (h : j ≤ xs.length) (hij : i ≤ j) : cutV xs (Option.some (i : Int)) (Option.some (j : Int)) = (xs.drop i).take (j - i) := by
  unfold cutV
  rw [HT.sIx_nat, HT.sIx_nat, Nat.min_eq_left h, Nat.min_eq_left (by omega)]
section
variable {P : Program} {w : World} {K : PySem.W.Frag} {mg : Str → Option Value} {base : Heap} {CD CB tb : Addr}
/-- what holds between two calls -/
structure Inv1 (K : PySem.W.Frag) (CD CB tb : Addr) (H0 : Hp) (a b q : Addr) (ns : List Int) (tot : List Int) (i : Nat) (H : Hp) (d bl : Addr) (as : List Addr) (s : Sy47.St) (cs : List Sy47.Call) (out : List Int) : Prop where
  br : BrAt CD CB H b d bl as s
  good : Good s
  told : H q = some (.lst (out.map V.int))
  off : q ∉ b :: d :: bl :: as
  new : ∀ p ∈ b :: d :: bl :: as, ∀ o, H0 p = some o → ∃ ps, o = .tbl ps
  same : ExtN H0 H
  tab : TabS H tb lamN
  rest : Rest (ns.drop i) cs
  le : i ≤ ns.length
  tot : out ++ tail s cs = tot
theorem ok_answers {f : Addr} {fd : FuncData} (F : Fun K "answers" "answers" s_answers f fd) (T : Txt K mg CD CB) (d_Bridge_init : MkD P w K mg base CB 3 ["self"] (spInitB CD CB)) (d_answer : FnD P w K mg base "answer" 11 ["bridge", "call", "numbers"] (spAnswer K CD CB tb)) (d_with_lengths : FnD P w K mg base "with_lengths" 1 ["rows"] (spWl K)) : FnOk P w K mg base L2.CX0 12 f fd ["calls"] (spAnswers tb K) := by
  refine F.ok sc_answers (fun vs H Q E h => ?_) (fun cdv A outer sh H vs Q E hr h => ?_)
  · obtain ⟨a, ns, cs, rfl, _⟩ := h
    rfl
  · obtain ⟨a, ns, cs, rfl, hS, hR, hL, hT, k⟩ := h
    refine ⟨_, (pss_cons (ps_set (i := 1) sc_answers.nd rfl (Or.inl rfl) (pe_make0 d_Bridge_init.mk_ d_Bridge_init.ok (hr.mono (by decide)) rfl T.c_Bridge d_Bridge_init.b .nil pass0))
    (pss_cons (ps_set (i := 2) sc_answers.nd rfl (Or.inl rfl) (pe_lst pa_nil))
    (pss_cons (ps_set (i := 3) sc_answers.nd rfl (Or.inl rfl) pe_int)
    (pss_cons (ps_while PassesOwn.never (pt_cmpR nLt (pv 3) (pe_callB call_len_seq (by rfl) T.len PySem.boot_len (pa_cons (pv 0) pa_nil)) (nomark _))
     (pss_cons (ps_set (i := 4) sc_answers.nd rfl (Or.inl rfl) (pe_ix ix_list (pv 0) (pv 3) (fun _ _ => rfl)))
     (pss_cons (ps_set (i := 5) sc_answers.nd rfl (Or.inl rfl) (pe_op nAdd (pv 3) pe_int))
     (pss_cons (ps_set (i := 3) sc_answers.nd rfl (Or.inl rfl) (pe_op nAdd (pv 5) (pe_ix ix_tup (pe_glob (v := .ref T.g_HANDED.choose) rfl T.g_HANDED.choose_spec.1 rfl) (pv 4) (fun _ _ => rfl))))
     (pss_one (ps_expr (pe_bm PySem.F.plainAttrs_list PySem.F.slot_list_extend PySem.F.type_list_extend mt_extend (pv 2) (pa_cons (pe_call d_with_lengths.ok (hr.mono (by decide)) rfl d_with_lengths.mg_ d_with_lengths.kp d_with_lengths.b .nil pass0 (pa_cons (pe_lst (pa_cons (pe_call d_answer.ok (hr.mono (by decide)) rfl d_answer.mg_ d_answer.kp d_answer.b .nil pass0 (pa_cons (pv 1) (pa_cons (pv 4) (pa_cons (pe_slice sl_list (pv 0) (po_some (pv 5)) (po_some (pv 3))) pa_nil)))) pa_nil)) pa_nil)) pa_nil))))))))
    (pss_one (ps_ret (pv 2))))))), ?_⟩
    intro b dx hb hdx ne
    refine ⟨b, dx, rfl, upd_same, fun H1 d bl as B kp fr => ⟨rfl, ?_⟩⟩
    obtain ⟨S1, new⟩ := made_new hb hdx kp fr
    refine ⟨Nat.zero_le _, fun q hq => ?_⟩
    have hs1 : L2.Same H (upd H1 q (.lst [])) := S1.trans (same_new hq)
    have hq0 : H q = Option.none := S1.free hq
    have qoff : q ∉ b :: d :: bl :: as := fun h => by
      obtain ⟨o, ho⟩ := B.some q h
      rw [hq] at ho
      cases ho
    have hsz : 12000000 < sizeLine := by decide
    refine while_by (fun σ H' => ∃ (i : Nat) (v4 v5 : Option V) (d bl : Addr) (as : List Addr) (s : Sy47.St) (cs' : List Sy47.Call) (out : List Int), σ = [some (.ref a), some (.ref b), some (.ref q), some (nV i), v4, v5] ∧ Inv1 K CD CB tb H a b q ns (tail Sy47.init cs) i H' d bl as s cs' out) (fun σ _ => match σ with
      | [_, _, _, some (.int z), _, _] => ns.length - z.toNat
      | _ => 0) ⟨0, Option.none, Option.none, d, bl, as, Sy47.init, cs, [], rfl, ?_⟩ ?_ ?_
    · exact ⟨B.keep (same_new hq), good_init, upd_same, qoff, fun p hp o e => (by rw [new p hp] at e; cases e), ExtN.of hs1, LamX.TabS.ext hT hs1, hR, Nat.zero_le _, rfl⟩
    · rintro σ H2 ⟨i, v4, v5, d, bl, as, s, cs', out, rfl, I⟩
      have hS2 := ExtN.seq I.same hS
      refine ⟨_, rfl, _, rfl, a, _, rfl, .inl hS2, i, (ns.map V.int).length, rfl, rfl, _, rfl, ?_⟩
      have hnl : (ns.map V.int).length = ns.length := List.length_map _
      by_cases hlt : i < ns.length
      · refine ifT (decide_eq_true (by rw [hnl]; exact hlt)) ?_
        obtain ⟨c, n, xs, l', cs2, rfl, hc, hl, hr'⟩ := rest_head I.rest (fun e => by
          have := congrArg List.length e
          rw [List.length_drop] at this
          have h0 : ([] : List Int).length = 0 := rfl
          omega)
        have hi : (ns.map V.int)[i]? = some (nV n) := by
          have := congrArg (fun l => l[0]?) hl
          simp only [List.getElem?_drop, Nat.add_zero] at this
          rw [List.getElem?_map, this]
          rfl
        have hlen : i + 1 + xs.length ≤ ns.length := by
          have := congrArg List.length hl
          rw [List.length_drop, List.length_cons, List.length_append, List.length_map] at this
          omega
        refine ⟨_, rfl, _, rfl, a, _, _, _, rfl, rfl, hS2, at_of (j := i) rfl hi, ?_⟩
        refine ⟨_, rfl, i, 1, rfl, rfl, ?_⟩
        refine ⟨_, rfl, _, rfl, T.g_HANDED.choose, _, _, _, rfl, rfl, T.g_HANDED.choose_spec.2 _, at_of (j := n) rfl (handed_at hc), i + 1, xs.length, rfl, rfl, ?_⟩
        have hout : out.length + ((Sy47Neutral.out (Sy47.step s c).2).length + 1) ≤ 10000000 := by
          have := congrArg List.length I.tot
          rw [List.length_append, tail_cons, List.length_cons, List.length_append] at this
          omega
        refine ⟨_, rfl, .inl ⟨rfl, _, SqL.of I.told⟩, _, rfl, _, rfl, _, rfl, _, rfl, _, rfl, _, rfl, _, rfl, a, ns.map V.int, rfl, hS2, fun p hp => ?_⟩
        have hd1 : ns.drop (i + 1) = xs.map Int.ofNat ++ l' := by
          rw [← List.drop_drop, hl]
          rfl
        have hcut : cutV (ns.map V.int) (Option.some ((i + 1 : Nat) : Int)) (Option.some ((i + 1 + xs.length : Nat) : Int)) = xs.map nV := by
          rw [cut_between _ _ _ (by rw [hnl]; exact hlen) (by omega), ← List.map_drop, ← List.map_take, hd1, show i + 1 + xs.length - (i + 1) = xs.length by omega, List.take_left' (List.length_map _), List.map_map]
          rfl
        rw [hcut]
        have S4 : L2.Same H2 (upd H2 p (.lst (xs.map nV))) := same_new hp
        have h4q := S4 _ _ I.told
        refine ⟨b, d, bl, as, s, c, n, xs, p, rfl, hc, SqL.of upd_same, I.br.keep S4, I.good, LamX.TabS.ext I.tab S4, fun H5 d' bl' as' l5 B5 kp5 loff lnew hl5 => ?_⟩
        have h5q := kp5.all q _ h4q (fun ps z => by cases z) I.off
        have off5 : q ∉ b :: d' :: bl' :: as' := fun h => by
          rcases List.mem_cons.1 h with e | h
          · exact I.off (by rw [e]; exact List.mem_cons_self ..)
          · rcases kp5.new q h with h | h
            · exact I.off (List.mem_cons_of_mem _ h)
            · rw [h4q] at h
              cases h
        have E4 : ExtN H (upd H2 p (.lst (xs.map nV))) := I.same.trans (ExtN.of S4)
        have E5 : ExtN H H5 := fun r o h ho => by
          refine kp5.all r o (E4 r o h ho) ho fun hm => ?_
          obtain ⟨ps, z⟩ := I.new r hm o h
          exact ho ps z
        refine ⟨one_sz, fun l6 n6 => ?_⟩
        have S6 : L2.Same H5 (upd H5 l6 (.lst [.ref l5])) := same_new n6
        have hwl : (wl [Sy47Neutral.out (Sy47.step s c).2]).length = (Sy47Neutral.out (Sy47.step s c).2).length + 1 := by rw [wl_one, List.length_cons]
        refine ⟨l6, [l5], [Sy47Neutral.out (Sy47.step s c).2], rfl, SqL.of upd_same, rows_one (S6 _ _ hl5), by omega, fun H7 l7 S7 n7 h7 => ?_⟩
        have S57 := S6.trans S7
        have h7q := S57 _ _ h5q
        refine ⟨q, l7, _, _, rfl, rfl, h7q, h7, ?_, ?_⟩
        · rw [List.length_map, List.length_map, hwl]
          omega
        have n5q : ∀ r ∈ b :: d' :: bl' :: as', r ≠ q := fun r hr e => off5 (by rw [← e]; exact hr)
        refine ⟨⟨i + 1 + xs.length, some (nV n), some (nV (i + 1)), d', bl', as', (Sy47.step s c).1, cs2, out ++ wl [Sy47Neutral.out (Sy47.step s c).2], rfl, ?_⟩, ?_⟩
        · have E7 : ExtN H (upd H7 q (.lst (out.map V.int ++ (wl [Sy47Neutral.out (Sy47.step s c).2]).map V.int))) := fun r o h ho => by
            rw [upd_ne (ne_of_none h hq0)]
            exact S57 _ _ (E5 r o h ho)
          refine ⟨(B5.keep S57).move fun r hr => upd_ne (n5q r hr), good_step I.good c, ?_, off5, fun r hr o h => ?_, E7, ?_, ?_, hlen, ?_⟩
          · rw [upd_same, List.map_append]
          · rcases List.mem_cons.1 hr with e | h'
            · exact I.new r (by rw [e]; exact List.mem_cons_self ..) o h
            · rcases kp5.new r h' with h' | h'
              · exact I.new r (List.mem_cons_of_mem _ h') o h
              · refine Classical.byContradiction fun ht => ?_
                rw [E4 r o h fun ps z => ht ⟨ps, z⟩] at h'
                cases h'
          · exact Br.TabS.off (LamX.TabS.ext (kp5.tab (LamX.TabS.ext I.tab S4)) S57) h7q (fun ps z => by cases z) fun c => codeO_lst _
          · rw [← List.drop_drop, hd1, List.drop_left' (List.length_map _)]
            exact hr'
          · rw [← I.tot, tail_cons, wl_one, List.append_assoc]
            rfl
        · show ns.length - (i + 1 + xs.length) < ns.length - i
          omega
      · refine ifF (decide_eq_false (by rw [hnl]; exact hlt)) ?_
        have e : i = ns.length := by
          have := I.le
          omega
        have hr0 := I.rest
        rw [e, List.drop_length] at hr0
        have hcs : cs' = [] := by
          generalize hl0 : ([] : List Int) = l0 at hr0
          cases hr0 with
          | nil => rfl
          | @cons c l cs2 hb hr =>
            exfalso
            have := congrArg List.length hl0
            rw [List.length_append, List.length_map] at this
            have : (nums c).length = 0 := by
              have h0 : ([] : List Int).length = 0 := rfl
              omega
            cases c <;> cases this
        have htot := I.tot
        rw [hcs, tail_nil, List.append_nil] at htot
        refine ⟨_, rfl, ?_⟩
        exact k _ q (by rw [← htot]; exact I.told)
    · rintro σ H' Q1 Q2 imp ⟨x1, e1, x2, e2, p, ys, e3, e4, i, j, e5, e6, bb, e7, e8⟩
      exact ⟨x1, e1, x2, e2, p, ys, e3, e4, i, j, e5, e6, bb, e7, imp _ _ e8⟩
end
end Br

set_option maxRecDepth 100000
set_option maxHeartbeats 4200000
namespace Br
open PySem PySem.Spec
open PyProof.Rows L2
open PySem.W (Codec)
theorem all_mk {P : Program} {w : World} {K : PySem.W.Frag} {h : Heap} {mg : Str → Option Value} {fa cT tT CD CB : Addr} (X : K.In h) (G : h.Ns mainGlobals mg) (hfa : mg "answers" = some (.ref fa))
    {t_MOST_PIECES : Tok}
    {t_MOST_PROPS : Tok}
    {t_MOST_BASES : Tok}
    {t_FIRST_PUT : Tok}
    {t_FIRST_TAKE : Tok}
    {t_BEGINS : Tok}
    {t_RESTS : Tok}
    {t_CARRIES : Tok}
    {t_FALLS : Tok}
    {t_DOES : Tok}
    {t_UNDO : Tok}
    {t_FEWEST : Tok}
    {t_PLAN : Tok}
    {t_FAR : Tok}
    {t_SPARE : Tok}
    {t_STATE : Tok}
    {h_HANDED : Addr} {dd_HANDED : Option Addr} {it_HANDED : Array Value} {n_HANDED : Nat} {sl_HANDED : Array (Option Value)}
    {f_is_design : Addr} {od_is_design an_is_design : Option Addr} {sl_is_design : Array (Option Value)} {oc_is_design kV_is_design dc_is_design pm_is_design cd_is_design ct_is_design : Value}
    {f_holds : Addr} {od_holds an_holds : Option Addr} {sl_holds : Array (Option Value)} {oc_holds kV_holds dc_holds pm_holds cd_holds ct_holds : Value}
    {f_how_many : Addr} {od_how_many an_how_many : Option Addr} {sl_how_many : Array (Option Value)} {oc_how_many kV_how_many dc_how_many pm_how_many cd_how_many ct_how_many : Value}
    {f_Design_init : Addr} {od_Design_init an_Design_init : Option Addr} {sl_Design_init : Array (Option Value)} {oc_Design_init kV_Design_init dc_Design_init pm_Design_init cd_Design_init ct_Design_init : Value}
    {f_Design_with_at_once : Addr} {od_Design_with_at_once an_Design_with_at_once : Option Addr} {sl_Design_with_at_once : Array (Option Value)} {oc_Design_with_at_once kV_Design_with_at_once dc_Design_with_at_once pm_Design_with_at_once cd_Design_with_at_once ct_Design_with_at_once : Value}
    {f_Design_end : Addr} {od_Design_end an_Design_end : Option Addr} {sl_Design_end : Array (Option Value)} {oc_Design_end kV_Design_end dc_Design_end pm_Design_end cd_Design_end ct_Design_end : Value}
    {f_Design_is_piece : Addr} {od_Design_is_piece an_Design_is_piece : Option Addr} {sl_Design_is_piece : Array (Option Value)} {oc_Design_is_piece kV_Design_is_piece dc_Design_is_piece pm_Design_is_piece cd_Design_is_piece ct_Design_is_piece : Value}
    {f_Design_is_set : Addr} {od_Design_is_set an_Design_is_set : Option Addr} {sl_Design_is_set : Array (Option Value)} {oc_Design_is_set kV_Design_is_set dc_Design_is_set pm_Design_is_set cd_Design_is_set ct_Design_is_set : Value}
    {f_Design_has_all_bases : Addr} {od_Design_has_all_bases an_Design_has_all_bases : Option Addr} {sl_Design_has_all_bases : Array (Option Value)} {oc_Design_has_all_bases kV_Design_has_all_bases dc_Design_has_all_bases pm_Design_has_all_bases cd_Design_has_all_bases ct_Design_has_all_bases : Value}
    {f_Design_add_base : Addr} {od_Design_add_base an_Design_add_base : Option Addr} {sl_Design_add_base : Array (Option Value)} {oc_Design_add_base kV_Design_add_base dc_Design_add_base pm_Design_add_base cd_Design_add_base ct_Design_add_base : Value}
    {f_Design_piece_rests : Addr} {od_Design_piece_rests an_Design_piece_rests : Option Addr} {sl_Design_piece_rests : Array (Option Value)} {oc_Design_piece_rests kV_Design_piece_rests dc_Design_piece_rests pm_Design_piece_rests cd_Design_piece_rests ct_Design_piece_rests : Value}
    {f_Design_without_loose : Addr} {od_Design_without_loose an_Design_without_loose : Option Addr} {sl_Design_without_loose : Array (Option Value)} {oc_Design_without_loose kV_Design_without_loose dc_Design_without_loose pm_Design_without_loose cd_Design_without_loose ct_Design_without_loose : Value}
    {f_Design_does_carry : Addr} {od_Design_does_carry an_Design_does_carry : Option Addr} {sl_Design_does_carry : Array (Option Value)} {oc_Design_does_carry kV_Design_does_carry dc_Design_does_carry pm_Design_does_carry cd_Design_does_carry ct_Design_does_carry : Value}
    {f_Design_what_stays : Addr} {od_Design_what_stays an_Design_what_stays : Option Addr} {sl_Design_what_stays : Array (Option Value)} {oc_Design_what_stays kV_Design_what_stays dc_Design_what_stays pm_Design_what_stays cd_Design_what_stays ct_Design_what_stays : Value}
    {f_Design_spare_pieces : Addr} {od_Design_spare_pieces an_Design_spare_pieces : Option Addr} {sl_Design_spare_pieces : Array (Option Value)} {oc_Design_spare_pieces kV_Design_spare_pieces dc_Design_spare_pieces pm_Design_spare_pieces cd_Design_spare_pieces ct_Design_spare_pieces : Value}
    {f_Design_is_move : Addr} {od_Design_is_move an_Design_is_move : Option Addr} {sl_Design_is_move : Array (Option Value)} {oc_Design_is_move kV_Design_is_move dc_Design_is_move pm_Design_is_move cd_Design_is_move ct_Design_is_move : Value}
    {f_Design_prop_bit : Addr} {od_Design_prop_bit an_Design_prop_bit : Option Addr} {sl_Design_prop_bit : Array (Option Value)} {oc_Design_prop_bit kV_Design_prop_bit dc_Design_prop_bit pm_Design_prop_bit cd_Design_prop_bit ct_Design_prop_bit : Value}
    {f_Design_moves : Addr} {od_Design_moves an_Design_moves : Option Addr} {sl_Design_moves : Array (Option Value)} {oc_Design_moves kV_Design_moves dc_Design_moves pm_Design_moves cd_Design_moves ct_Design_moves : Value}
    {f_Design_pieces_there : Addr} {od_Design_pieces_there an_Design_pieces_there : Option Addr} {sl_Design_pieces_there : Array (Option Value)} {oc_Design_pieces_there kV_Design_pieces_there dc_Design_pieces_there pm_Design_pieces_there cd_Design_pieces_there ct_Design_pieces_there : Value}
    {f_Design_props_there : Addr} {od_Design_props_there an_Design_props_there : Option Addr} {sl_Design_props_there : Array (Option Value)} {oc_Design_props_there kV_Design_props_there dc_Design_props_there pm_Design_props_there cd_Design_props_there ct_Design_props_there : Value}
    {f_Design_with_thing : Addr} {od_Design_with_thing an_Design_with_thing : Option Addr} {sl_Design_with_thing : Array (Option Value)} {oc_Design_with_thing kV_Design_with_thing dc_Design_with_thing pm_Design_with_thing cd_Design_with_thing ct_Design_with_thing : Value}
    {f_Design_with_prop : Addr} {od_Design_with_prop an_Design_with_prop : Option Addr} {sl_Design_with_prop : Array (Option Value)} {oc_Design_with_prop kV_Design_with_prop dc_Design_with_prop pm_Design_with_prop cd_Design_with_prop ct_Design_with_prop : Value}
    {f_Design_without_prop : Addr} {od_Design_without_prop an_Design_without_prop : Option Addr} {sl_Design_without_prop : Array (Option Value)} {oc_Design_without_prop kV_Design_without_prop dc_Design_without_prop pm_Design_without_prop cd_Design_without_prop ct_Design_without_prop : Value}
    {f_Design_moved : Addr} {od_Design_moved an_Design_moved : Option Addr} {sl_Design_moved : Array (Option Value)} {oc_Design_moved kV_Design_moved dc_Design_moved pm_Design_moved cd_Design_moved ct_Design_moved : Value}
    {f_Design_stage_behind : Addr} {od_Design_stage_behind an_Design_stage_behind : Option Addr} {sl_Design_stage_behind : Array (Option Value)} {oc_Design_stage_behind kV_Design_stage_behind dc_Design_stage_behind pm_Design_stage_behind cd_Design_stage_behind ct_Design_stage_behind : Value}
    {f_ways_from : Addr} {od_ways_from an_ways_from : Option Addr} {sl_ways_from : Array (Option Value)} {oc_ways_from kV_ways_from dc_ways_from pm_ways_from cd_ways_from ct_ways_from : Value}
    {f_plan_from : Addr} {od_plan_from an_plan_from : Option Addr} {sl_plan_from : Array (Option Value)} {oc_plan_from kV_plan_from dc_plan_from pm_plan_from cd_plan_from ct_plan_from : Value}
    {f_furthest : Addr} {od_furthest an_furthest : Option Addr} {sl_furthest : Array (Option Value)} {oc_furthest kV_furthest dc_furthest pm_furthest ct_furthest : Value}
    {f_props_needed : Addr} {od_props_needed an_props_needed : Option Addr} {sl_props_needed : Array (Option Value)} {oc_props_needed kV_props_needed dc_props_needed pm_props_needed cd_props_needed ct_props_needed : Value}
    {f_with_lengths : Addr} {od_with_lengths an_with_lengths : Option Addr} {sl_with_lengths : Array (Option Value)} {oc_with_lengths kV_with_lengths dc_with_lengths pm_with_lengths cd_with_lengths ct_with_lengths : Value}
    {f_Bridge_init : Addr} {od_Bridge_init an_Bridge_init : Option Addr} {sl_Bridge_init : Array (Option Value)} {oc_Bridge_init kV_Bridge_init dc_Bridge_init pm_Bridge_init cd_Bridge_init ct_Bridge_init : Value}
    {f_Bridge_begins : Addr} {od_Bridge_begins an_Bridge_begins : Option Addr} {sl_Bridge_begins : Array (Option Value)} {oc_Bridge_begins kV_Bridge_begins dc_Bridge_begins pm_Bridge_begins cd_Bridge_begins ct_Bridge_begins : Value}
    {f_Bridge_rests : Addr} {od_Bridge_rests an_Bridge_rests : Option Addr} {sl_Bridge_rests : Array (Option Value)} {oc_Bridge_rests kV_Bridge_rests dc_Bridge_rests pm_Bridge_rests cd_Bridge_rests ct_Bridge_rests : Value}
    {f_Bridge_carries : Addr} {od_Bridge_carries an_Bridge_carries : Option Addr} {sl_Bridge_carries : Array (Option Value)} {oc_Bridge_carries kV_Bridge_carries dc_Bridge_carries pm_Bridge_carries cd_Bridge_carries ct_Bridge_carries : Value}
    {f_Bridge_falls : Addr} {od_Bridge_falls an_Bridge_falls : Option Addr} {sl_Bridge_falls : Array (Option Value)} {oc_Bridge_falls kV_Bridge_falls dc_Bridge_falls pm_Bridge_falls cd_Bridge_falls ct_Bridge_falls : Value}
    {f_Bridge_does : Addr} {od_Bridge_does an_Bridge_does : Option Addr} {sl_Bridge_does : Array (Option Value)} {oc_Bridge_does kV_Bridge_does dc_Bridge_does pm_Bridge_does cd_Bridge_does ct_Bridge_does : Value}
    {f_Bridge_undo : Addr} {od_Bridge_undo an_Bridge_undo : Option Addr} {sl_Bridge_undo : Array (Option Value)} {oc_Bridge_undo kV_Bridge_undo dc_Bridge_undo pm_Bridge_undo cd_Bridge_undo ct_Bridge_undo : Value}
    {f_Bridge_fewest : Addr} {od_Bridge_fewest an_Bridge_fewest : Option Addr} {sl_Bridge_fewest : Array (Option Value)} {oc_Bridge_fewest kV_Bridge_fewest dc_Bridge_fewest pm_Bridge_fewest cd_Bridge_fewest ct_Bridge_fewest : Value}
    {f_Bridge_plan : Addr} {od_Bridge_plan an_Bridge_plan : Option Addr} {sl_Bridge_plan : Array (Option Value)} {oc_Bridge_plan kV_Bridge_plan dc_Bridge_plan pm_Bridge_plan cd_Bridge_plan ct_Bridge_plan : Value}
    {f_Bridge_far : Addr} {od_Bridge_far an_Bridge_far : Option Addr} {sl_Bridge_far : Array (Option Value)} {oc_Bridge_far kV_Bridge_far dc_Bridge_far pm_Bridge_far cd_Bridge_far ct_Bridge_far : Value}
    {f_Bridge_needed : Addr} {od_Bridge_needed an_Bridge_needed : Option Addr} {sl_Bridge_needed : Array (Option Value)} {oc_Bridge_needed kV_Bridge_needed dc_Bridge_needed pm_Bridge_needed cd_Bridge_needed ct_Bridge_needed : Value}
    {f_Bridge_spare : Addr} {od_Bridge_spare an_Bridge_spare : Option Addr} {sl_Bridge_spare : Array (Option Value)} {oc_Bridge_spare kV_Bridge_spare dc_Bridge_spare pm_Bridge_spare cd_Bridge_spare ct_Bridge_spare : Value}
    {f_Bridge_state : Addr} {od_Bridge_state an_Bridge_state : Option Addr} {sl_Bridge_state : Array (Option Value)} {oc_Bridge_state kV_Bridge_state dc_Bridge_state pm_Bridge_state cd_Bridge_state ct_Bridge_state : Value}
    {f_number_answered : Addr} {od_number_answered an_number_answered : Option Addr} {sl_number_answered : Array (Option Value)} {oc_number_answered kV_number_answered dc_number_answered pm_number_answered cd_number_answered ct_number_answered : Value}
    {f_answer : Addr} {od_answer an_answer : Option Addr} {sl_answer : Array (Option Value)} {oc_answer kV_answer dc_answer pm_answer cd_answer ct_answer : Value}
    {f_answers : Addr} {od_answers an_answers : Option Addr} {sl_answers : Array (Option Value)} {oc_answers kV_answers dc_answers pm_answers cd_answers ct_answers : Value}
    (a_CD : PySem.W.nsIn K mainGlobals "Design" = some (some (.ref CD)))
    (pg_CD : PySem.W.plainGet K CD Str.empty = true)
    (hd_CD : PySem.W.hasDictIn K CD = true)
    (po_CD : PySem.W.plainOver K CD = true)
    (sa_CD : PySem.W.findIn K (.ref CD) "__setattr__" = some (some (.builtin "object.__setattr__")))
    (mk_CD : PySem.W.makesIn K CD = true)
    (kc_CD : PySem.W.keepIn K (.ref CD) = true)
    (a_CB : PySem.W.nsIn K mainGlobals "Bridge" = some (some (.ref CB)))
    (pg_CB : PySem.W.plainGet K CB Str.empty = true)
    (hd_CB : PySem.W.hasDictIn K CB = true)
    (po_CB : PySem.W.plainOver K CB = true)
    (sa_CB : PySem.W.findIn K (.ref CB) "__setattr__" = some (some (.builtin "object.__setattr__")))
    (mk_CB : PySem.W.makesIn K CB = true)
    (kc_CB : PySem.W.keepIn K (.ref CB) = true)
    (n_pieces : PySem.W.findIn K (.ref CD) "pieces" = some none)
    (n_props : PySem.W.findIn K (.ref CD) "props" = some none)
    (n_at_once : PySem.W.findIn K (.ref CD) "at_once" = some none)
    (n_bases : PySem.W.findIn K (.ref CD) "bases" = some none)
    (n_design : PySem.W.findIn K (.ref CB) "design" = some none)
    (n_stage : PySem.W.findIn K (.ref CB) "stage" = some none)
    (z_range : PySem.W.nsIn K mainGlobals "range" = some none)
    (z_list : PySem.W.nsIn K mainGlobals "list" = some none)
    (z_len : PySem.W.nsIn K mainGlobals "len" = some none)
    (z_reversed : PySem.W.nsIn K mainGlobals "reversed" = some none)
    (z_min : PySem.W.nsIn K mainGlobals "min" = some none)
    (g_MOST_PIECES : PySem.W.nsIn K mainGlobals "MOST_PIECES" = some (some (.int 6 t_MOST_PIECES)))
    (g_MOST_PROPS : PySem.W.nsIn K mainGlobals "MOST_PROPS" = some (some (.int 2 t_MOST_PROPS)))
    (g_MOST_BASES : PySem.W.nsIn K mainGlobals "MOST_BASES" = some (some (.int 4 t_MOST_BASES)))
    (g_FIRST_PUT : PySem.W.nsIn K mainGlobals "FIRST_PUT" = some (some (.int 10 t_FIRST_PUT)))
    (g_FIRST_TAKE : PySem.W.nsIn K mainGlobals "FIRST_TAKE" = some (some (.int 20 t_FIRST_TAKE)))
    (g_BEGINS : PySem.W.nsIn K mainGlobals "BEGINS" = some (some (.int 0 t_BEGINS)))
    (g_RESTS : PySem.W.nsIn K mainGlobals "RESTS" = some (some (.int 1 t_RESTS)))
    (g_CARRIES : PySem.W.nsIn K mainGlobals "CARRIES" = some (some (.int 2 t_CARRIES)))
    (g_FALLS : PySem.W.nsIn K mainGlobals "FALLS" = some (some (.int 3 t_FALLS)))
    (g_DOES : PySem.W.nsIn K mainGlobals "DOES" = some (some (.int 4 t_DOES)))
    (g_UNDO : PySem.W.nsIn K mainGlobals "UNDO" = some (some (.int 5 t_UNDO)))
    (g_FEWEST : PySem.W.nsIn K mainGlobals "FEWEST" = some (some (.int 6 t_FEWEST)))
    (g_PLAN : PySem.W.nsIn K mainGlobals "PLAN" = some (some (.int 7 t_PLAN)))
    (g_FAR : PySem.W.nsIn K mainGlobals "FAR" = some (some (.int 8 t_FAR)))
    (g_SPARE : PySem.W.nsIn K mainGlobals "SPARE" = some (some (.int 10 t_SPARE)))
    (g_STATE : PySem.W.nsIn K mainGlobals "STATE" = some (some (.int 11 t_STATE)))
    (g_HANDED : PySem.W.nsIn K mainGlobals "HANDED" = some (some (.ref h_HANDED)))
    (o_HANDED : K.lookup h_HANDED = some ⟨.type "tuple", dd_HANDED, .seq it_HANDED n_HANDED, sl_HANDED⟩)
    (v_HANDED : Vals [.int 3, .int 2, .int 1, .int 1, .int 1, .int 0, .int 0, .int 0, .int 0, .int 0, .int 0, .int 0] it_HANDED.toList)
    (y_HANDED : it_HANDED.size ≤ sizeLine)
    (a_is_design : PySem.W.nsIn K mainGlobals "is_design" = some (some (.ref f_is_design)))
    (l_is_design : K.lookup f_is_design = some ⟨oc_is_design, od_is_design, .func (PySem.W.fnOf "is_design" "is_design" (defArgs s_is_design) (defBody s_is_design) (defScope s_is_design) .none kV_is_design dc_is_design pm_is_design an_is_design cd_is_design ct_is_design), sl_is_design⟩)
    (c_is_design : PySem.W.codeIn K cd_is_design "is_design" = true)
    (k_is_design : PySem.W.keepIn K (.ref f_is_design) = true)
    (a_holds : PySem.W.nsIn K mainGlobals "holds" = some (some (.ref f_holds)))
    (l_holds : K.lookup f_holds = some ⟨oc_holds, od_holds, .func (PySem.W.fnOf "holds" "holds" (defArgs s_holds) (defBody s_holds) (defScope s_holds) .none kV_holds dc_holds pm_holds an_holds cd_holds ct_holds), sl_holds⟩)
    (c_holds : PySem.W.codeIn K cd_holds "holds" = true)
    (k_holds : PySem.W.keepIn K (.ref f_holds) = true)
    (a_how_many : PySem.W.nsIn K mainGlobals "how_many" = some (some (.ref f_how_many)))
    (l_how_many : K.lookup f_how_many = some ⟨oc_how_many, od_how_many, .func (PySem.W.fnOf "how_many" "how_many" (defArgs s_how_many) (defBody s_how_many) (defScope s_how_many) .none kV_how_many dc_how_many pm_how_many an_how_many cd_how_many ct_how_many), sl_how_many⟩)
    (c_how_many : PySem.W.codeIn K cd_how_many "how_many" = true)
    (k_how_many : PySem.W.keepIn K (.ref f_how_many) = true)
    (a_Design_init : PySem.W.findIn K (.ref CD) "__init__" = some (some (.ref f_Design_init)))
    (i_Design_init : PySem.W.isFn K (.ref f_Design_init) = true)
    (l_Design_init : K.lookup f_Design_init = some ⟨oc_Design_init, od_Design_init, .func (PySem.W.fnOf "__init__" "Design.__init__" (defArgs s_Design_init) (defBody s_Design_init) (defScope s_Design_init) .none kV_Design_init dc_Design_init pm_Design_init an_Design_init cd_Design_init ct_Design_init), sl_Design_init⟩)
    (c_Design_init : PySem.W.codeIn K cd_Design_init "Design.__init__" = true)
    (k_Design_init : PySem.W.keepIn K (.ref f_Design_init) = true)
    (a_Design_with_at_once : PySem.W.findIn K (.ref CD) "with_at_once" = some (some (.ref f_Design_with_at_once)))
    (i_Design_with_at_once : PySem.W.isFn K (.ref f_Design_with_at_once) = true)
    (l_Design_with_at_once : K.lookup f_Design_with_at_once = some ⟨oc_Design_with_at_once, od_Design_with_at_once, .func (PySem.W.fnOf "with_at_once" "Design.with_at_once" (defArgs s_Design_with_at_once) (defBody s_Design_with_at_once) (defScope s_Design_with_at_once) .none kV_Design_with_at_once dc_Design_with_at_once pm_Design_with_at_once an_Design_with_at_once cd_Design_with_at_once ct_Design_with_at_once), sl_Design_with_at_once⟩)
    (c_Design_with_at_once : PySem.W.codeIn K cd_Design_with_at_once "Design.with_at_once" = true)
    (k_Design_with_at_once : PySem.W.keepIn K (.ref f_Design_with_at_once) = true)
    (a_Design_end : PySem.W.findIn K (.ref CD) "end" = some (some (.ref f_Design_end)))
    (i_Design_end : PySem.W.isFn K (.ref f_Design_end) = true)
    (l_Design_end : K.lookup f_Design_end = some ⟨oc_Design_end, od_Design_end, .func (PySem.W.fnOf "end" "Design.end" (defArgs s_Design_end) (defBody s_Design_end) (defScope s_Design_end) .none kV_Design_end dc_Design_end pm_Design_end an_Design_end cd_Design_end ct_Design_end), sl_Design_end⟩)
    (c_Design_end : PySem.W.codeIn K cd_Design_end "Design.end" = true)
    (k_Design_end : PySem.W.keepIn K (.ref f_Design_end) = true)
    (a_Design_is_piece : PySem.W.findIn K (.ref CD) "is_piece" = some (some (.ref f_Design_is_piece)))
    (i_Design_is_piece : PySem.W.isFn K (.ref f_Design_is_piece) = true)
    (l_Design_is_piece : K.lookup f_Design_is_piece = some ⟨oc_Design_is_piece, od_Design_is_piece, .func (PySem.W.fnOf "is_piece" "Design.is_piece" (defArgs s_Design_is_piece) (defBody s_Design_is_piece) (defScope s_Design_is_piece) .none kV_Design_is_piece dc_Design_is_piece pm_Design_is_piece an_Design_is_piece cd_Design_is_piece ct_Design_is_piece), sl_Design_is_piece⟩)
    (c_Design_is_piece : PySem.W.codeIn K cd_Design_is_piece "Design.is_piece" = true)
    (k_Design_is_piece : PySem.W.keepIn K (.ref f_Design_is_piece) = true)
    (a_Design_is_set : PySem.W.findIn K (.ref CD) "is_set" = some (some (.ref f_Design_is_set)))
    (i_Design_is_set : PySem.W.isFn K (.ref f_Design_is_set) = true)
    (l_Design_is_set : K.lookup f_Design_is_set = some ⟨oc_Design_is_set, od_Design_is_set, .func (PySem.W.fnOf "is_set" "Design.is_set" (defArgs s_Design_is_set) (defBody s_Design_is_set) (defScope s_Design_is_set) .none kV_Design_is_set dc_Design_is_set pm_Design_is_set an_Design_is_set cd_Design_is_set ct_Design_is_set), sl_Design_is_set⟩)
    (c_Design_is_set : PySem.W.codeIn K cd_Design_is_set "Design.is_set" = true)
    (k_Design_is_set : PySem.W.keepIn K (.ref f_Design_is_set) = true)
    (a_Design_has_all_bases : PySem.W.findIn K (.ref CD) "has_all_bases" = some (some (.ref f_Design_has_all_bases)))
    (i_Design_has_all_bases : PySem.W.isFn K (.ref f_Design_has_all_bases) = true)
    (l_Design_has_all_bases : K.lookup f_Design_has_all_bases = some ⟨oc_Design_has_all_bases, od_Design_has_all_bases, .func (PySem.W.fnOf "has_all_bases" "Design.has_all_bases" (defArgs s_Design_has_all_bases) (defBody s_Design_has_all_bases) (defScope s_Design_has_all_bases) .none kV_Design_has_all_bases dc_Design_has_all_bases pm_Design_has_all_bases an_Design_has_all_bases cd_Design_has_all_bases ct_Design_has_all_bases), sl_Design_has_all_bases⟩)
    (c_Design_has_all_bases : PySem.W.codeIn K cd_Design_has_all_bases "Design.has_all_bases" = true)
    (k_Design_has_all_bases : PySem.W.keepIn K (.ref f_Design_has_all_bases) = true)
    (a_Design_add_base : PySem.W.findIn K (.ref CD) "add_base" = some (some (.ref f_Design_add_base)))
    (i_Design_add_base : PySem.W.isFn K (.ref f_Design_add_base) = true)
    (l_Design_add_base : K.lookup f_Design_add_base = some ⟨oc_Design_add_base, od_Design_add_base, .func (PySem.W.fnOf "add_base" "Design.add_base" (defArgs s_Design_add_base) (defBody s_Design_add_base) (defScope s_Design_add_base) .none kV_Design_add_base dc_Design_add_base pm_Design_add_base an_Design_add_base cd_Design_add_base ct_Design_add_base), sl_Design_add_base⟩)
    (c_Design_add_base : PySem.W.codeIn K cd_Design_add_base "Design.add_base" = true)
    (k_Design_add_base : PySem.W.keepIn K (.ref f_Design_add_base) = true)
    (a_Design_piece_rests : PySem.W.findIn K (.ref CD) "piece_rests" = some (some (.ref f_Design_piece_rests)))
    (i_Design_piece_rests : PySem.W.isFn K (.ref f_Design_piece_rests) = true)
    (l_Design_piece_rests : K.lookup f_Design_piece_rests = some ⟨oc_Design_piece_rests, od_Design_piece_rests, .func (PySem.W.fnOf "piece_rests" "Design.piece_rests" (defArgs s_Design_piece_rests) (defBody s_Design_piece_rests) (defScope s_Design_piece_rests) .none kV_Design_piece_rests dc_Design_piece_rests pm_Design_piece_rests an_Design_piece_rests cd_Design_piece_rests ct_Design_piece_rests), sl_Design_piece_rests⟩)
    (c_Design_piece_rests : PySem.W.codeIn K cd_Design_piece_rests "Design.piece_rests" = true)
    (k_Design_piece_rests : PySem.W.keepIn K (.ref f_Design_piece_rests) = true)
    (a_Design_without_loose : PySem.W.findIn K (.ref CD) "without_loose" = some (some (.ref f_Design_without_loose)))
    (i_Design_without_loose : PySem.W.isFn K (.ref f_Design_without_loose) = true)
    (l_Design_without_loose : K.lookup f_Design_without_loose = some ⟨oc_Design_without_loose, od_Design_without_loose, .func (PySem.W.fnOf "without_loose" "Design.without_loose" (defArgs s_Design_without_loose) (defBody s_Design_without_loose) (defScope s_Design_without_loose) .none kV_Design_without_loose dc_Design_without_loose pm_Design_without_loose an_Design_without_loose cd_Design_without_loose ct_Design_without_loose), sl_Design_without_loose⟩)
    (c_Design_without_loose : PySem.W.codeIn K cd_Design_without_loose "Design.without_loose" = true)
    (k_Design_without_loose : PySem.W.keepIn K (.ref f_Design_without_loose) = true)
    (a_Design_does_carry : PySem.W.findIn K (.ref CD) "does_carry" = some (some (.ref f_Design_does_carry)))
    (i_Design_does_carry : PySem.W.isFn K (.ref f_Design_does_carry) = true)
    (l_Design_does_carry : K.lookup f_Design_does_carry = some ⟨oc_Design_does_carry, od_Design_does_carry, .func (PySem.W.fnOf "does_carry" "Design.does_carry" (defArgs s_Design_does_carry) (defBody s_Design_does_carry) (defScope s_Design_does_carry) .none kV_Design_does_carry dc_Design_does_carry pm_Design_does_carry an_Design_does_carry cd_Design_does_carry ct_Design_does_carry), sl_Design_does_carry⟩)
    (c_Design_does_carry : PySem.W.codeIn K cd_Design_does_carry "Design.does_carry" = true)
    (k_Design_does_carry : PySem.W.keepIn K (.ref f_Design_does_carry) = true)
    (a_Design_what_stays : PySem.W.findIn K (.ref CD) "what_stays" = some (some (.ref f_Design_what_stays)))
    (i_Design_what_stays : PySem.W.isFn K (.ref f_Design_what_stays) = true)
    (l_Design_what_stays : K.lookup f_Design_what_stays = some ⟨oc_Design_what_stays, od_Design_what_stays, .func (PySem.W.fnOf "what_stays" "Design.what_stays" (defArgs s_Design_what_stays) (defBody s_Design_what_stays) (defScope s_Design_what_stays) .none kV_Design_what_stays dc_Design_what_stays pm_Design_what_stays an_Design_what_stays cd_Design_what_stays ct_Design_what_stays), sl_Design_what_stays⟩)
    (c_Design_what_stays : PySem.W.codeIn K cd_Design_what_stays "Design.what_stays" = true)
    (k_Design_what_stays : PySem.W.keepIn K (.ref f_Design_what_stays) = true)
    (a_Design_spare_pieces : PySem.W.findIn K (.ref CD) "spare_pieces" = some (some (.ref f_Design_spare_pieces)))
    (i_Design_spare_pieces : PySem.W.isFn K (.ref f_Design_spare_pieces) = true)
    (l_Design_spare_pieces : K.lookup f_Design_spare_pieces = some ⟨oc_Design_spare_pieces, od_Design_spare_pieces, .func (PySem.W.fnOf "spare_pieces" "Design.spare_pieces" (defArgs s_Design_spare_pieces) (defBody s_Design_spare_pieces) (defScope s_Design_spare_pieces) .none kV_Design_spare_pieces dc_Design_spare_pieces pm_Design_spare_pieces an_Design_spare_pieces cd_Design_spare_pieces ct_Design_spare_pieces), sl_Design_spare_pieces⟩)
    (c_Design_spare_pieces : PySem.W.codeIn K cd_Design_spare_pieces "Design.spare_pieces" = true)
    (k_Design_spare_pieces : PySem.W.keepIn K (.ref f_Design_spare_pieces) = true)
    (a_Design_is_move : PySem.W.findIn K (.ref CD) "is_move" = some (some (.ref f_Design_is_move)))
    (i_Design_is_move : PySem.W.isFn K (.ref f_Design_is_move) = true)
    (l_Design_is_move : K.lookup f_Design_is_move = some ⟨oc_Design_is_move, od_Design_is_move, .func (PySem.W.fnOf "is_move" "Design.is_move" (defArgs s_Design_is_move) (defBody s_Design_is_move) (defScope s_Design_is_move) .none kV_Design_is_move dc_Design_is_move pm_Design_is_move an_Design_is_move cd_Design_is_move ct_Design_is_move), sl_Design_is_move⟩)
    (c_Design_is_move : PySem.W.codeIn K cd_Design_is_move "Design.is_move" = true)
    (k_Design_is_move : PySem.W.keepIn K (.ref f_Design_is_move) = true)
    (a_Design_prop_bit : PySem.W.findIn K (.ref CD) "prop_bit" = some (some (.ref f_Design_prop_bit)))
    (i_Design_prop_bit : PySem.W.isFn K (.ref f_Design_prop_bit) = true)
    (l_Design_prop_bit : K.lookup f_Design_prop_bit = some ⟨oc_Design_prop_bit, od_Design_prop_bit, .func (PySem.W.fnOf "prop_bit" "Design.prop_bit" (defArgs s_Design_prop_bit) (defBody s_Design_prop_bit) (defScope s_Design_prop_bit) .none kV_Design_prop_bit dc_Design_prop_bit pm_Design_prop_bit an_Design_prop_bit cd_Design_prop_bit ct_Design_prop_bit), sl_Design_prop_bit⟩)
    (c_Design_prop_bit : PySem.W.codeIn K cd_Design_prop_bit "Design.prop_bit" = true)
    (k_Design_prop_bit : PySem.W.keepIn K (.ref f_Design_prop_bit) = true)
    (a_Design_moves : PySem.W.findIn K (.ref CD) "moves" = some (some (.ref f_Design_moves)))
    (i_Design_moves : PySem.W.isFn K (.ref f_Design_moves) = true)
    (l_Design_moves : K.lookup f_Design_moves = some ⟨oc_Design_moves, od_Design_moves, .func (PySem.W.fnOf "moves" "Design.moves" (defArgs s_Design_moves) (defBody s_Design_moves) (defScope s_Design_moves) .none kV_Design_moves dc_Design_moves pm_Design_moves an_Design_moves cd_Design_moves ct_Design_moves), sl_Design_moves⟩)
    (c_Design_moves : PySem.W.codeIn K cd_Design_moves "Design.moves" = true)
    (k_Design_moves : PySem.W.keepIn K (.ref f_Design_moves) = true)
    (a_Design_pieces_there : PySem.W.findIn K (.ref CD) "pieces_there" = some (some (.ref f_Design_pieces_there)))
    (i_Design_pieces_there : PySem.W.isFn K (.ref f_Design_pieces_there) = true)
    (l_Design_pieces_there : K.lookup f_Design_pieces_there = some ⟨oc_Design_pieces_there, od_Design_pieces_there, .func (PySem.W.fnOf "pieces_there" "Design.pieces_there" (defArgs s_Design_pieces_there) (defBody s_Design_pieces_there) (defScope s_Design_pieces_there) .none kV_Design_pieces_there dc_Design_pieces_there pm_Design_pieces_there an_Design_pieces_there cd_Design_pieces_there ct_Design_pieces_there), sl_Design_pieces_there⟩)
    (c_Design_pieces_there : PySem.W.codeIn K cd_Design_pieces_there "Design.pieces_there" = true)
    (k_Design_pieces_there : PySem.W.keepIn K (.ref f_Design_pieces_there) = true)
    (a_Design_props_there : PySem.W.findIn K (.ref CD) "props_there" = some (some (.ref f_Design_props_there)))
    (i_Design_props_there : PySem.W.isFn K (.ref f_Design_props_there) = true)
    (l_Design_props_there : K.lookup f_Design_props_there = some ⟨oc_Design_props_there, od_Design_props_there, .func (PySem.W.fnOf "props_there" "Design.props_there" (defArgs s_Design_props_there) (defBody s_Design_props_there) (defScope s_Design_props_there) .none kV_Design_props_there dc_Design_props_there pm_Design_props_there an_Design_props_there cd_Design_props_there ct_Design_props_there), sl_Design_props_there⟩)
    (c_Design_props_there : PySem.W.codeIn K cd_Design_props_there "Design.props_there" = true)
    (k_Design_props_there : PySem.W.keepIn K (.ref f_Design_props_there) = true)
    (a_Design_with_thing : PySem.W.findIn K (.ref CD) "with_thing" = some (some (.ref f_Design_with_thing)))
    (i_Design_with_thing : PySem.W.isFn K (.ref f_Design_with_thing) = true)
    (l_Design_with_thing : K.lookup f_Design_with_thing = some ⟨oc_Design_with_thing, od_Design_with_thing, .func (PySem.W.fnOf "with_thing" "Design.with_thing" (defArgs s_Design_with_thing) (defBody s_Design_with_thing) (defScope s_Design_with_thing) .none kV_Design_with_thing dc_Design_with_thing pm_Design_with_thing an_Design_with_thing cd_Design_with_thing ct_Design_with_thing), sl_Design_with_thing⟩)
    (c_Design_with_thing : PySem.W.codeIn K cd_Design_with_thing "Design.with_thing" = true)
    (k_Design_with_thing : PySem.W.keepIn K (.ref f_Design_with_thing) = true)
    (a_Design_with_prop : PySem.W.findIn K (.ref CD) "with_prop" = some (some (.ref f_Design_with_prop)))
    (i_Design_with_prop : PySem.W.isFn K (.ref f_Design_with_prop) = true)
    (l_Design_with_prop : K.lookup f_Design_with_prop = some ⟨oc_Design_with_prop, od_Design_with_prop, .func (PySem.W.fnOf "with_prop" "Design.with_prop" (defArgs s_Design_with_prop) (defBody s_Design_with_prop) (defScope s_Design_with_prop) .none kV_Design_with_prop dc_Design_with_prop pm_Design_with_prop an_Design_with_prop cd_Design_with_prop ct_Design_with_prop), sl_Design_with_prop⟩)
    (c_Design_with_prop : PySem.W.codeIn K cd_Design_with_prop "Design.with_prop" = true)
    (k_Design_with_prop : PySem.W.keepIn K (.ref f_Design_with_prop) = true)
    (a_Design_without_prop : PySem.W.findIn K (.ref CD) "without_prop" = some (some (.ref f_Design_without_prop)))
    (i_Design_without_prop : PySem.W.isFn K (.ref f_Design_without_prop) = true)
    (l_Design_without_prop : K.lookup f_Design_without_prop = some ⟨oc_Design_without_prop, od_Design_without_prop, .func (PySem.W.fnOf "without_prop" "Design.without_prop" (defArgs s_Design_without_prop) (defBody s_Design_without_prop) (defScope s_Design_without_prop) .none kV_Design_without_prop dc_Design_without_prop pm_Design_without_prop an_Design_without_prop cd_Design_without_prop ct_Design_without_prop), sl_Design_without_prop⟩)
    (c_Design_without_prop : PySem.W.codeIn K cd_Design_without_prop "Design.without_prop" = true)
    (k_Design_without_prop : PySem.W.keepIn K (.ref f_Design_without_prop) = true)
    (a_Design_moved : PySem.W.findIn K (.ref CD) "moved" = some (some (.ref f_Design_moved)))
    (i_Design_moved : PySem.W.isFn K (.ref f_Design_moved) = true)
    (l_Design_moved : K.lookup f_Design_moved = some ⟨oc_Design_moved, od_Design_moved, .func (PySem.W.fnOf "moved" "Design.moved" (defArgs s_Design_moved) (defBody s_Design_moved) (defScope s_Design_moved) .none kV_Design_moved dc_Design_moved pm_Design_moved an_Design_moved cd_Design_moved ct_Design_moved), sl_Design_moved⟩)
    (c_Design_moved : PySem.W.codeIn K cd_Design_moved "Design.moved" = true)
    (k_Design_moved : PySem.W.keepIn K (.ref f_Design_moved) = true)
    (a_Design_stage_behind : PySem.W.findIn K (.ref CD) "stage_behind" = some (some (.ref f_Design_stage_behind)))
    (i_Design_stage_behind : PySem.W.isFn K (.ref f_Design_stage_behind) = true)
    (l_Design_stage_behind : K.lookup f_Design_stage_behind = some ⟨oc_Design_stage_behind, od_Design_stage_behind, .func (PySem.W.fnOf "stage_behind" "Design.stage_behind" (defArgs s_Design_stage_behind) (defBody s_Design_stage_behind) (defScope s_Design_stage_behind) .none kV_Design_stage_behind dc_Design_stage_behind pm_Design_stage_behind an_Design_stage_behind cd_Design_stage_behind ct_Design_stage_behind), sl_Design_stage_behind⟩)
    (c_Design_stage_behind : PySem.W.codeIn K cd_Design_stage_behind "Design.stage_behind" = true)
    (k_Design_stage_behind : PySem.W.keepIn K (.ref f_Design_stage_behind) = true)
    (a_ways_from : PySem.W.nsIn K mainGlobals "ways_from" = some (some (.ref f_ways_from)))
    (l_ways_from : K.lookup f_ways_from = some ⟨oc_ways_from, od_ways_from, .func (PySem.W.fnOf "ways_from" "ways_from" (defArgs s_ways_from) (defBody s_ways_from) (defScope s_ways_from) .none kV_ways_from dc_ways_from pm_ways_from an_ways_from cd_ways_from ct_ways_from), sl_ways_from⟩)
    (c_ways_from : PySem.W.codeIn K cd_ways_from "ways_from" = true)
    (k_ways_from : PySem.W.keepIn K (.ref f_ways_from) = true)
    (a_plan_from : PySem.W.nsIn K mainGlobals "plan_from" = some (some (.ref f_plan_from)))
    (l_plan_from : K.lookup f_plan_from = some ⟨oc_plan_from, od_plan_from, .func (PySem.W.fnOf "plan_from" "plan_from" (defArgs s_plan_from) (defBody s_plan_from) (defScope s_plan_from) .none kV_plan_from dc_plan_from pm_plan_from an_plan_from cd_plan_from ct_plan_from), sl_plan_from⟩)
    (c_plan_from : PySem.W.codeIn K cd_plan_from "plan_from" = true)
    (k_plan_from : PySem.W.keepIn K (.ref f_plan_from) = true)
    (a_furthest : PySem.W.nsIn K mainGlobals "furthest" = some (some (.ref f_furthest)))
    (l_furthest : K.lookup f_furthest = some ⟨oc_furthest, od_furthest, .func (PySem.W.fnOf "furthest" "furthest" (defArgs s_furthest) (defBody s_furthest) (defScope s_furthest) .none kV_furthest dc_furthest pm_furthest an_furthest (.ref cT) ct_furthest), sl_furthest⟩)
    (c_furthest : PySem.W.codeIn K (.ref cT) "furthest" = true)
    (k_furthest : PySem.W.keepIn K (.ref f_furthest) = true)
    (a_props_needed : PySem.W.nsIn K mainGlobals "props_needed" = some (some (.ref f_props_needed)))
    (l_props_needed : K.lookup f_props_needed = some ⟨oc_props_needed, od_props_needed, .func (PySem.W.fnOf "props_needed" "props_needed" (defArgs s_props_needed) (defBody s_props_needed) (defScope s_props_needed) .none kV_props_needed dc_props_needed pm_props_needed an_props_needed cd_props_needed ct_props_needed), sl_props_needed⟩)
    (c_props_needed : PySem.W.codeIn K cd_props_needed "props_needed" = true)
    (k_props_needed : PySem.W.keepIn K (.ref f_props_needed) = true)
    (a_with_lengths : PySem.W.nsIn K mainGlobals "with_lengths" = some (some (.ref f_with_lengths)))
    (l_with_lengths : K.lookup f_with_lengths = some ⟨oc_with_lengths, od_with_lengths, .func (PySem.W.fnOf "with_lengths" "with_lengths" (defArgs s_with_lengths) (defBody s_with_lengths) (defScope s_with_lengths) .none kV_with_lengths dc_with_lengths pm_with_lengths an_with_lengths cd_with_lengths ct_with_lengths), sl_with_lengths⟩)
    (c_with_lengths : PySem.W.codeIn K cd_with_lengths "with_lengths" = true)
    (k_with_lengths : PySem.W.keepIn K (.ref f_with_lengths) = true)
    (a_Bridge_init : PySem.W.findIn K (.ref CB) "__init__" = some (some (.ref f_Bridge_init)))
    (i_Bridge_init : PySem.W.isFn K (.ref f_Bridge_init) = true)
    (l_Bridge_init : K.lookup f_Bridge_init = some ⟨oc_Bridge_init, od_Bridge_init, .func (PySem.W.fnOf "__init__" "Bridge.__init__" (defArgs s_Bridge_init) (defBody s_Bridge_init) (defScope s_Bridge_init) .none kV_Bridge_init dc_Bridge_init pm_Bridge_init an_Bridge_init cd_Bridge_init ct_Bridge_init), sl_Bridge_init⟩)
    (c_Bridge_init : PySem.W.codeIn K cd_Bridge_init "Bridge.__init__" = true)
    (k_Bridge_init : PySem.W.keepIn K (.ref f_Bridge_init) = true)
    (a_Bridge_begins : PySem.W.findIn K (.ref CB) "begins" = some (some (.ref f_Bridge_begins)))
    (i_Bridge_begins : PySem.W.isFn K (.ref f_Bridge_begins) = true)
    (l_Bridge_begins : K.lookup f_Bridge_begins = some ⟨oc_Bridge_begins, od_Bridge_begins, .func (PySem.W.fnOf "begins" "Bridge.begins" (defArgs s_Bridge_begins) (defBody s_Bridge_begins) (defScope s_Bridge_begins) .none kV_Bridge_begins dc_Bridge_begins pm_Bridge_begins an_Bridge_begins cd_Bridge_begins ct_Bridge_begins), sl_Bridge_begins⟩)
    (c_Bridge_begins : PySem.W.codeIn K cd_Bridge_begins "Bridge.begins" = true)
    (k_Bridge_begins : PySem.W.keepIn K (.ref f_Bridge_begins) = true)
    (a_Bridge_rests : PySem.W.findIn K (.ref CB) "rests" = some (some (.ref f_Bridge_rests)))
    (i_Bridge_rests : PySem.W.isFn K (.ref f_Bridge_rests) = true)
    (l_Bridge_rests : K.lookup f_Bridge_rests = some ⟨oc_Bridge_rests, od_Bridge_rests, .func (PySem.W.fnOf "rests" "Bridge.rests" (defArgs s_Bridge_rests) (defBody s_Bridge_rests) (defScope s_Bridge_rests) .none kV_Bridge_rests dc_Bridge_rests pm_Bridge_rests an_Bridge_rests cd_Bridge_rests ct_Bridge_rests), sl_Bridge_rests⟩)
    (c_Bridge_rests : PySem.W.codeIn K cd_Bridge_rests "Bridge.rests" = true)
    (k_Bridge_rests : PySem.W.keepIn K (.ref f_Bridge_rests) = true)
    (a_Bridge_carries : PySem.W.findIn K (.ref CB) "carries" = some (some (.ref f_Bridge_carries)))
    (i_Bridge_carries : PySem.W.isFn K (.ref f_Bridge_carries) = true)
    (l_Bridge_carries : K.lookup f_Bridge_carries = some ⟨oc_Bridge_carries, od_Bridge_carries, .func (PySem.W.fnOf "carries" "Bridge.carries" (defArgs s_Bridge_carries) (defBody s_Bridge_carries) (defScope s_Bridge_carries) .none kV_Bridge_carries dc_Bridge_carries pm_Bridge_carries an_Bridge_carries cd_Bridge_carries ct_Bridge_carries), sl_Bridge_carries⟩)
    (c_Bridge_carries : PySem.W.codeIn K cd_Bridge_carries "Bridge.carries" = true)
    (k_Bridge_carries : PySem.W.keepIn K (.ref f_Bridge_carries) = true)
    (a_Bridge_falls : PySem.W.findIn K (.ref CB) "falls" = some (some (.ref f_Bridge_falls)))
    (i_Bridge_falls : PySem.W.isFn K (.ref f_Bridge_falls) = true)
    (l_Bridge_falls : K.lookup f_Bridge_falls = some ⟨oc_Bridge_falls, od_Bridge_falls, .func (PySem.W.fnOf "falls" "Bridge.falls" (defArgs s_Bridge_falls) (defBody s_Bridge_falls) (defScope s_Bridge_falls) .none kV_Bridge_falls dc_Bridge_falls pm_Bridge_falls an_Bridge_falls cd_Bridge_falls ct_Bridge_falls), sl_Bridge_falls⟩)
    (c_Bridge_falls : PySem.W.codeIn K cd_Bridge_falls "Bridge.falls" = true)
    (k_Bridge_falls : PySem.W.keepIn K (.ref f_Bridge_falls) = true)
    (a_Bridge_does : PySem.W.findIn K (.ref CB) "does" = some (some (.ref f_Bridge_does)))
    (i_Bridge_does : PySem.W.isFn K (.ref f_Bridge_does) = true)
    (l_Bridge_does : K.lookup f_Bridge_does = some ⟨oc_Bridge_does, od_Bridge_does, .func (PySem.W.fnOf "does" "Bridge.does" (defArgs s_Bridge_does) (defBody s_Bridge_does) (defScope s_Bridge_does) .none kV_Bridge_does dc_Bridge_does pm_Bridge_does an_Bridge_does cd_Bridge_does ct_Bridge_does), sl_Bridge_does⟩)
    (c_Bridge_does : PySem.W.codeIn K cd_Bridge_does "Bridge.does" = true)
    (k_Bridge_does : PySem.W.keepIn K (.ref f_Bridge_does) = true)
    (a_Bridge_undo : PySem.W.findIn K (.ref CB) "undo" = some (some (.ref f_Bridge_undo)))
    (i_Bridge_undo : PySem.W.isFn K (.ref f_Bridge_undo) = true)
    (l_Bridge_undo : K.lookup f_Bridge_undo = some ⟨oc_Bridge_undo, od_Bridge_undo, .func (PySem.W.fnOf "undo" "Bridge.undo" (defArgs s_Bridge_undo) (defBody s_Bridge_undo) (defScope s_Bridge_undo) .none kV_Bridge_undo dc_Bridge_undo pm_Bridge_undo an_Bridge_undo cd_Bridge_undo ct_Bridge_undo), sl_Bridge_undo⟩)
    (c_Bridge_undo : PySem.W.codeIn K cd_Bridge_undo "Bridge.undo" = true)
    (k_Bridge_undo : PySem.W.keepIn K (.ref f_Bridge_undo) = true)
    (a_Bridge_fewest : PySem.W.findIn K (.ref CB) "fewest" = some (some (.ref f_Bridge_fewest)))
    (i_Bridge_fewest : PySem.W.isFn K (.ref f_Bridge_fewest) = true)
    (l_Bridge_fewest : K.lookup f_Bridge_fewest = some ⟨oc_Bridge_fewest, od_Bridge_fewest, .func (PySem.W.fnOf "fewest" "Bridge.fewest" (defArgs s_Bridge_fewest) (defBody s_Bridge_fewest) (defScope s_Bridge_fewest) .none kV_Bridge_fewest dc_Bridge_fewest pm_Bridge_fewest an_Bridge_fewest cd_Bridge_fewest ct_Bridge_fewest), sl_Bridge_fewest⟩)
    (c_Bridge_fewest : PySem.W.codeIn K cd_Bridge_fewest "Bridge.fewest" = true)
    (k_Bridge_fewest : PySem.W.keepIn K (.ref f_Bridge_fewest) = true)
    (a_Bridge_plan : PySem.W.findIn K (.ref CB) "plan" = some (some (.ref f_Bridge_plan)))
    (i_Bridge_plan : PySem.W.isFn K (.ref f_Bridge_plan) = true)
    (l_Bridge_plan : K.lookup f_Bridge_plan = some ⟨oc_Bridge_plan, od_Bridge_plan, .func (PySem.W.fnOf "plan" "Bridge.plan" (defArgs s_Bridge_plan) (defBody s_Bridge_plan) (defScope s_Bridge_plan) .none kV_Bridge_plan dc_Bridge_plan pm_Bridge_plan an_Bridge_plan cd_Bridge_plan ct_Bridge_plan), sl_Bridge_plan⟩)
    (c_Bridge_plan : PySem.W.codeIn K cd_Bridge_plan "Bridge.plan" = true)
    (k_Bridge_plan : PySem.W.keepIn K (.ref f_Bridge_plan) = true)
    (a_Bridge_far : PySem.W.findIn K (.ref CB) "far" = some (some (.ref f_Bridge_far)))
    (i_Bridge_far : PySem.W.isFn K (.ref f_Bridge_far) = true)
    (l_Bridge_far : K.lookup f_Bridge_far = some ⟨oc_Bridge_far, od_Bridge_far, .func (PySem.W.fnOf "far" "Bridge.far" (defArgs s_Bridge_far) (defBody s_Bridge_far) (defScope s_Bridge_far) .none kV_Bridge_far dc_Bridge_far pm_Bridge_far an_Bridge_far cd_Bridge_far ct_Bridge_far), sl_Bridge_far⟩)
    (c_Bridge_far : PySem.W.codeIn K cd_Bridge_far "Bridge.far" = true)
    (k_Bridge_far : PySem.W.keepIn K (.ref f_Bridge_far) = true)
    (a_Bridge_needed : PySem.W.findIn K (.ref CB) "needed" = some (some (.ref f_Bridge_needed)))
    (i_Bridge_needed : PySem.W.isFn K (.ref f_Bridge_needed) = true)
    (l_Bridge_needed : K.lookup f_Bridge_needed = some ⟨oc_Bridge_needed, od_Bridge_needed, .func (PySem.W.fnOf "needed" "Bridge.needed" (defArgs s_Bridge_needed) (defBody s_Bridge_needed) (defScope s_Bridge_needed) .none kV_Bridge_needed dc_Bridge_needed pm_Bridge_needed an_Bridge_needed cd_Bridge_needed ct_Bridge_needed), sl_Bridge_needed⟩)
    (c_Bridge_needed : PySem.W.codeIn K cd_Bridge_needed "Bridge.needed" = true)
    (k_Bridge_needed : PySem.W.keepIn K (.ref f_Bridge_needed) = true)
    (a_Bridge_spare : PySem.W.findIn K (.ref CB) "spare" = some (some (.ref f_Bridge_spare)))
    (i_Bridge_spare : PySem.W.isFn K (.ref f_Bridge_spare) = true)
    (l_Bridge_spare : K.lookup f_Bridge_spare = some ⟨oc_Bridge_spare, od_Bridge_spare, .func (PySem.W.fnOf "spare" "Bridge.spare" (defArgs s_Bridge_spare) (defBody s_Bridge_spare) (defScope s_Bridge_spare) .none kV_Bridge_spare dc_Bridge_spare pm_Bridge_spare an_Bridge_spare cd_Bridge_spare ct_Bridge_spare), sl_Bridge_spare⟩)
    (c_Bridge_spare : PySem.W.codeIn K cd_Bridge_spare "Bridge.spare" = true)
    (k_Bridge_spare : PySem.W.keepIn K (.ref f_Bridge_spare) = true)
    (a_Bridge_state : PySem.W.findIn K (.ref CB) "state" = some (some (.ref f_Bridge_state)))
    (i_Bridge_state : PySem.W.isFn K (.ref f_Bridge_state) = true)
    (l_Bridge_state : K.lookup f_Bridge_state = some ⟨oc_Bridge_state, od_Bridge_state, .func (PySem.W.fnOf "state" "Bridge.state" (defArgs s_Bridge_state) (defBody s_Bridge_state) (defScope s_Bridge_state) .none kV_Bridge_state dc_Bridge_state pm_Bridge_state an_Bridge_state cd_Bridge_state ct_Bridge_state), sl_Bridge_state⟩)
    (c_Bridge_state : PySem.W.codeIn K cd_Bridge_state "Bridge.state" = true)
    (k_Bridge_state : PySem.W.keepIn K (.ref f_Bridge_state) = true)
    (a_number_answered : PySem.W.nsIn K mainGlobals "number_answered" = some (some (.ref f_number_answered)))
    (l_number_answered : K.lookup f_number_answered = some ⟨oc_number_answered, od_number_answered, .func (PySem.W.fnOf "number_answered" "number_answered" (defArgs s_number_answered) (defBody s_number_answered) (defScope s_number_answered) .none kV_number_answered dc_number_answered pm_number_answered an_number_answered cd_number_answered ct_number_answered), sl_number_answered⟩)
    (c_number_answered : PySem.W.codeIn K cd_number_answered "number_answered" = true)
    (k_number_answered : PySem.W.keepIn K (.ref f_number_answered) = true)
    (a_answer : PySem.W.nsIn K mainGlobals "answer" = some (some (.ref f_answer)))
    (l_answer : K.lookup f_answer = some ⟨oc_answer, od_answer, .func (PySem.W.fnOf "answer" "answer" (defArgs s_answer) (defBody s_answer) (defScope s_answer) .none kV_answer dc_answer pm_answer an_answer cd_answer ct_answer), sl_answer⟩)
    (c_answer : PySem.W.codeIn K cd_answer "answer" = true)
    (k_answer : PySem.W.keepIn K (.ref f_answer) = true)
    (a_answers : PySem.W.nsIn K mainGlobals "answers" = some (some (.ref f_answers)))
    (l_answers : K.lookup f_answers = some ⟨oc_answers, od_answers, .func (PySem.W.fnOf "answers" "answers" (defArgs s_answers) (defBody s_answers) (defScope s_answers) .none kV_answers dc_answers pm_answers an_answers cd_answers ct_answers), sl_answers⟩)
    (c_answers : PySem.W.codeIn K cd_answers "answers" = true)
    (k_answers : PySem.W.keepIn K (.ref f_answers) = true) :
    ∃ fd : FuncData, (∀ (s : Shared) (us : List Value), us.length = (["calls"] : List Str).length → BindsTo s fd ⟨us, []⟩ ((["calls"] : List Str).zip us)) ∧ ∀ base : Heap, K.In base → base.Ns mainGlobals mg → LamX.TabB base mg cT tT → FnOk P w K mg base L2.CX0 12 fa fd ["calls"] (spAnswers tT K) := by
  have e := hfa.symm.trans (PySem.W.mg_of X G a_answers)
  cases e
  have T : Txt K mg CD CB := { cl_Design := ⟨pg_CD, hd_CD, po_CD, sa_CD⟩, c_Design := PySem.W.mg_of X G a_CD, cl_Bridge := ⟨pg_CB, hd_CB, po_CB, sa_CB⟩, c_Bridge := PySem.W.mg_of X G a_CB, n_pieces := n_pieces, n_props := n_props, n_at_once := n_at_once, n_bases := n_bases, n_design := n_design, n_stage := n_stage, range := PySem.W.mg_none_of X G z_range, list := PySem.W.mg_none_of X G z_list, len := PySem.W.mg_none_of X G z_len, reversed := PySem.W.mg_none_of X G z_reversed, min := PySem.W.mg_none_of X G z_min, g_MOST_PIECES := ⟨_, PySem.W.mg_of X G g_MOST_PIECES⟩, g_MOST_PROPS := ⟨_, PySem.W.mg_of X G g_MOST_PROPS⟩, g_MOST_BASES := ⟨_, PySem.W.mg_of X G g_MOST_BASES⟩, g_FIRST_PUT := ⟨_, PySem.W.mg_of X G g_FIRST_PUT⟩, g_FIRST_TAKE := ⟨_, PySem.W.mg_of X G g_FIRST_TAKE⟩, g_BEGINS := ⟨_, PySem.W.mg_of X G g_BEGINS⟩, g_RESTS := ⟨_, PySem.W.mg_of X G g_RESTS⟩, g_CARRIES := ⟨_, PySem.W.mg_of X G g_CARRIES⟩, g_FALLS := ⟨_, PySem.W.mg_of X G g_FALLS⟩, g_DOES := ⟨_, PySem.W.mg_of X G g_DOES⟩, g_UNDO := ⟨_, PySem.W.mg_of X G g_UNDO⟩, g_FEWEST := ⟨_, PySem.W.mg_of X G g_FEWEST⟩, g_PLAN := ⟨_, PySem.W.mg_of X G g_PLAN⟩, g_FAR := ⟨_, PySem.W.mg_of X G g_FAR⟩, g_SPARE := ⟨_, PySem.W.mg_of X G g_SPARE⟩, g_STATE := ⟨_, PySem.W.mg_of X G g_STATE⟩, g_HANDED := ⟨_, PySem.W.mg_of X G g_HANDED, fun H => .inr ⟨_, _, _, o_HANDED, rfl, rfl, y_HANDED, v_HANDED⟩⟩ }
  have F_is_design := fun_mk (st := s_is_design) l_is_design c_is_design k_is_design
  have b_is_design := F_is_design.binds (ps := ["pieces", "props", "at_once"]) fun _ _ _ _ _ _ us hl => match us, hl with | [_, _, _], _ => rfl
  have F_holds := fun_mk (st := s_holds) l_holds c_holds k_holds
  have b_holds := F_holds.binds (ps := ["stage", "part"]) fun _ _ _ _ _ _ us hl => match us, hl with | [_, _], _ => rfl
  have F_how_many := fun_mk (st := s_how_many) l_how_many c_how_many k_how_many
  have b_how_many := F_how_many.binds (ps := ["stage"]) fun _ _ _ _ _ _ us hl => match us, hl with | [_], _ => rfl
  have F_Design_init := fun_mk (st := s_Design_init) l_Design_init c_Design_init k_Design_init
  have b_Design_init := F_Design_init.binds (ps := ["self", "pieces", "props", "at_once"]) fun _ _ _ _ _ _ us hl => match us, hl with | [_, _, _, _], _ => rfl
  have F_Design_with_at_once := fun_mk (st := s_Design_with_at_once) l_Design_with_at_once c_Design_with_at_once k_Design_with_at_once
  have b_Design_with_at_once := F_Design_with_at_once.binds (ps := ["self", "at_once"]) fun _ _ _ _ _ _ us hl => match us, hl with | [_, _], _ => rfl
  have F_Design_end := fun_mk (st := s_Design_end) l_Design_end c_Design_end k_Design_end
  have b_Design_end := F_Design_end.binds (ps := ["self"]) fun _ _ _ _ _ _ us hl => match us, hl with | [_], _ => rfl
  have F_Design_is_piece := fun_mk (st := s_Design_is_piece) l_Design_is_piece c_Design_is_piece k_Design_is_piece
  have b_Design_is_piece := F_Design_is_piece.binds (ps := ["self", "number"]) fun _ _ _ _ _ _ us hl => match us, hl with | [_, _], _ => rfl
  have F_Design_is_set := fun_mk (st := s_Design_is_set) l_Design_is_set c_Design_is_set k_Design_is_set
  have b_Design_is_set := F_Design_is_set.binds (ps := ["self", "number"]) fun _ _ _ _ _ _ us hl => match us, hl with | [_, _], _ => rfl
  have F_Design_has_all_bases := fun_mk (st := s_Design_has_all_bases) l_Design_has_all_bases c_Design_has_all_bases k_Design_has_all_bases
  have b_Design_has_all_bases := F_Design_has_all_bases.binds (ps := ["self", "piece"]) fun _ _ _ _ _ _ us hl => match us, hl with | [_, _], _ => rfl
  have F_Design_add_base := fun_mk (st := s_Design_add_base) l_Design_add_base c_Design_add_base k_Design_add_base
  have b_Design_add_base := F_Design_add_base.binds (ps := ["self", "piece", "base"]) fun _ _ _ _ _ _ us hl => match us, hl with | [_, _, _], _ => rfl
  have F_Design_piece_rests := fun_mk (st := s_Design_piece_rests) l_Design_piece_rests c_Design_piece_rests k_Design_piece_rests
  have b_Design_piece_rests := F_Design_piece_rests.binds (ps := ["self", "piece", "stage"]) fun _ _ _ _ _ _ us hl => match us, hl with | [_, _, _], _ => rfl
  have F_Design_without_loose := fun_mk (st := s_Design_without_loose) l_Design_without_loose c_Design_without_loose k_Design_without_loose
  have b_Design_without_loose := F_Design_without_loose.binds (ps := ["self", "stage"]) fun _ _ _ _ _ _ us hl => match us, hl with | [_, _], _ => rfl
  have F_Design_does_carry := fun_mk (st := s_Design_does_carry) l_Design_does_carry c_Design_does_carry k_Design_does_carry
  have b_Design_does_carry := F_Design_does_carry.binds (ps := ["self", "stage"]) fun _ _ _ _ _ _ us hl => match us, hl with | [_, _], _ => rfl
  have F_Design_what_stays := fun_mk (st := s_Design_what_stays) l_Design_what_stays c_Design_what_stays k_Design_what_stays
  have b_Design_what_stays := F_Design_what_stays.binds (ps := ["self", "stage"]) fun _ _ _ _ _ _ us hl => match us, hl with | [_, _], _ => rfl
  have F_Design_spare_pieces := fun_mk (st := s_Design_spare_pieces) l_Design_spare_pieces c_Design_spare_pieces k_Design_spare_pieces
  have b_Design_spare_pieces := F_Design_spare_pieces.binds (ps := ["self"]) fun _ _ _ _ _ _ us hl => match us, hl with | [_], _ => rfl
  have F_Design_is_move := fun_mk (st := s_Design_is_move) l_Design_is_move c_Design_is_move k_Design_is_move
  have b_Design_is_move := F_Design_is_move.binds (ps := ["self", "number"]) fun _ _ _ _ _ _ us hl => match us, hl with | [_, _], _ => rfl
  have F_Design_prop_bit := fun_mk (st := s_Design_prop_bit) l_Design_prop_bit c_Design_prop_bit k_Design_prop_bit
  have b_Design_prop_bit := F_Design_prop_bit.binds (ps := ["self", "prop"]) fun _ _ _ _ _ _ us hl => match us, hl with | [_, _], _ => rfl
  have F_Design_moves := fun_mk (st := s_Design_moves) l_Design_moves c_Design_moves k_Design_moves
  have b_Design_moves := F_Design_moves.binds (ps := ["self"]) fun _ _ _ _ _ _ us hl => match us, hl with | [_], _ => rfl
  have F_Design_pieces_there := fun_mk (st := s_Design_pieces_there) l_Design_pieces_there c_Design_pieces_there k_Design_pieces_there
  have b_Design_pieces_there := F_Design_pieces_there.binds (ps := ["self", "stage"]) fun _ _ _ _ _ _ us hl => match us, hl with | [_, _], _ => rfl
  have F_Design_props_there := fun_mk (st := s_Design_props_there) l_Design_props_there c_Design_props_there k_Design_props_there
  have b_Design_props_there := F_Design_props_there.binds (ps := ["self", "stage"]) fun _ _ _ _ _ _ us hl => match us, hl with | [_, _], _ => rfl
  have F_Design_with_thing := fun_mk (st := s_Design_with_thing) l_Design_with_thing c_Design_with_thing k_Design_with_thing
  have b_Design_with_thing := F_Design_with_thing.binds (ps := ["self", "stage", "bit"]) fun _ _ _ _ _ _ us hl => match us, hl with | [_, _, _], _ => rfl
  have F_Design_with_prop := fun_mk (st := s_Design_with_prop) l_Design_with_prop c_Design_with_prop k_Design_with_prop
  have b_Design_with_prop := F_Design_with_prop.binds (ps := ["self", "stage", "prop"]) fun _ _ _ _ _ _ us hl => match us, hl with | [_, _, _], _ => rfl
  have F_Design_without_prop := fun_mk (st := s_Design_without_prop) l_Design_without_prop c_Design_without_prop k_Design_without_prop
  have b_Design_without_prop := F_Design_without_prop.binds (ps := ["self", "stage", "prop"]) fun _ _ _ _ _ _ us hl => match us, hl with | [_, _, _], _ => rfl
  have F_Design_moved := fun_mk (st := s_Design_moved) l_Design_moved c_Design_moved k_Design_moved
  have b_Design_moved := F_Design_moved.binds (ps := ["self", "stage", "move"]) fun _ _ _ _ _ _ us hl => match us, hl with | [_, _, _], _ => rfl
  have F_Design_stage_behind := fun_mk (st := s_Design_stage_behind) l_Design_stage_behind c_Design_stage_behind k_Design_stage_behind
  have b_Design_stage_behind := F_Design_stage_behind.binds (ps := ["self", "stage", "move"]) fun _ _ _ _ _ _ us hl => match us, hl with | [_, _, _], _ => rfl
  have F_ways_from := fun_mk (st := s_ways_from) l_ways_from c_ways_from k_ways_from
  have b_ways_from := F_ways_from.binds (ps := ["design", "start"]) fun _ _ _ _ _ _ us hl => match us, hl with | [_, _], _ => rfl
  have F_plan_from := fun_mk (st := s_plan_from) l_plan_from c_plan_from k_plan_from
  have b_plan_from := F_plan_from.binds (ps := ["design", "start"]) fun _ _ _ _ _ _ us hl => match us, hl with | [_, _], _ => rfl
  have F_furthest := fun_mk (st := s_furthest) l_furthest c_furthest k_furthest
  have FC_furthest := funC_mk (st := s_furthest) l_furthest c_furthest
  have b_furthest := F_furthest.binds (ps := ["design", "stages"]) fun _ _ _ _ _ _ us hl => match us, hl with | [_, _], _ => rfl
  have F_props_needed := fun_mk (st := s_props_needed) l_props_needed c_props_needed k_props_needed
  have b_props_needed := F_props_needed.binds (ps := ["design"]) fun _ _ _ _ _ _ us hl => match us, hl with | [_], _ => rfl
  have F_with_lengths := fun_mk (st := s_with_lengths) l_with_lengths c_with_lengths k_with_lengths
  have b_with_lengths := F_with_lengths.binds (ps := ["rows"]) fun _ _ _ _ _ _ us hl => match us, hl with | [_], _ => rfl
  have F_Bridge_init := fun_mk (st := s_Bridge_init) l_Bridge_init c_Bridge_init k_Bridge_init
  have b_Bridge_init := F_Bridge_init.binds (ps := ["self"]) fun _ _ _ _ _ _ us hl => match us, hl with | [_], _ => rfl
  have F_Bridge_begins := fun_mk (st := s_Bridge_begins) l_Bridge_begins c_Bridge_begins k_Bridge_begins
  have b_Bridge_begins := F_Bridge_begins.binds (ps := ["self", "pieces", "props", "at_once"]) fun _ _ _ _ _ _ us hl => match us, hl with | [_, _, _, _], _ => rfl
  have F_Bridge_rests := fun_mk (st := s_Bridge_rests) l_Bridge_rests c_Bridge_rests k_Bridge_rests
  have b_Bridge_rests := F_Bridge_rests.binds (ps := ["self", "piece", "base"]) fun _ _ _ _ _ _ us hl => match us, hl with | [_, _, _], _ => rfl
  have F_Bridge_carries := fun_mk (st := s_Bridge_carries) l_Bridge_carries c_Bridge_carries k_Bridge_carries
  have b_Bridge_carries := F_Bridge_carries.binds (ps := ["self", "stage"]) fun _ _ _ _ _ _ us hl => match us, hl with | [_, _], _ => rfl
  have F_Bridge_falls := fun_mk (st := s_Bridge_falls) l_Bridge_falls c_Bridge_falls k_Bridge_falls
  have b_Bridge_falls := F_Bridge_falls.binds (ps := ["self", "stage"]) fun _ _ _ _ _ _ us hl => match us, hl with | [_, _], _ => rfl
  have F_Bridge_does := fun_mk (st := s_Bridge_does) l_Bridge_does c_Bridge_does k_Bridge_does
  have b_Bridge_does := F_Bridge_does.binds (ps := ["self", "move"]) fun _ _ _ _ _ _ us hl => match us, hl with | [_, _], _ => rfl
  have F_Bridge_undo := fun_mk (st := s_Bridge_undo) l_Bridge_undo c_Bridge_undo k_Bridge_undo
  have b_Bridge_undo := F_Bridge_undo.binds (ps := ["self"]) fun _ _ _ _ _ _ us hl => match us, hl with | [_], _ => rfl
  have F_Bridge_fewest := fun_mk (st := s_Bridge_fewest) l_Bridge_fewest c_Bridge_fewest k_Bridge_fewest
  have b_Bridge_fewest := F_Bridge_fewest.binds (ps := ["self"]) fun _ _ _ _ _ _ us hl => match us, hl with | [_], _ => rfl
  have F_Bridge_plan := fun_mk (st := s_Bridge_plan) l_Bridge_plan c_Bridge_plan k_Bridge_plan
  have b_Bridge_plan := F_Bridge_plan.binds (ps := ["self"]) fun _ _ _ _ _ _ us hl => match us, hl with | [_], _ => rfl
  have F_Bridge_far := fun_mk (st := s_Bridge_far) l_Bridge_far c_Bridge_far k_Bridge_far
  have b_Bridge_far := F_Bridge_far.binds (ps := ["self"]) fun _ _ _ _ _ _ us hl => match us, hl with | [_], _ => rfl
  have F_Bridge_needed := fun_mk (st := s_Bridge_needed) l_Bridge_needed c_Bridge_needed k_Bridge_needed
  have b_Bridge_needed := F_Bridge_needed.binds (ps := ["self"]) fun _ _ _ _ _ _ us hl => match us, hl with | [_], _ => rfl
  have F_Bridge_spare := fun_mk (st := s_Bridge_spare) l_Bridge_spare c_Bridge_spare k_Bridge_spare
  have b_Bridge_spare := F_Bridge_spare.binds (ps := ["self"]) fun _ _ _ _ _ _ us hl => match us, hl with | [_], _ => rfl
  have F_Bridge_state := fun_mk (st := s_Bridge_state) l_Bridge_state c_Bridge_state k_Bridge_state
  have b_Bridge_state := F_Bridge_state.binds (ps := ["self"]) fun _ _ _ _ _ _ us hl => match us, hl with | [_], _ => rfl
  have F_number_answered := fun_mk (st := s_number_answered) l_number_answered c_number_answered k_number_answered
  have b_number_answered := F_number_answered.binds (ps := ["bridge", "call", "numbers"]) fun _ _ _ _ _ _ us hl => match us, hl with | [_, _, _], _ => rfl
  have F_answer := fun_mk (st := s_answer) l_answer c_answer k_answer
  have b_answer := F_answer.binds (ps := ["bridge", "call", "numbers"]) fun _ _ _ _ _ _ us hl => match us, hl with | [_, _, _], _ => rfl
  have F_answers := fun_mk (st := s_answers) l_answers c_answers k_answers
  have b_answers := F_answers.binds (ps := ["calls"]) fun _ _ _ _ _ _ us hl => match us, hl with | [_], _ => rfl
  refine ⟨PySem.W.fnOf "answers" "answers" (defArgs s_answers) (defBody s_answers) (defScope s_answers) .none kV_answers dc_answers pm_answers an_answers cd_answers ct_answers, fun s us hu => match us, hu with | [_], _ => .of_eq rfl, fun base _ _ TB => ?_⟩
  have d_is_design : FnD P w K mg base "is_design" 1 ["pieces", "props", "at_once"] (spIsDesign) := ⟨f_is_design, _, ok_is_design F_is_design T, PySem.W.mg_of X G a_is_design, k_is_design, b_is_design⟩
  have d_holds : FnD P w K mg base "holds" 1 ["stage", "part"] (spHolds) := ⟨f_holds, _, ok_holds F_holds T, PySem.W.mg_of X G a_holds, k_holds, b_holds⟩
  have d_how_many : FnD P w K mg base "how_many" 1 ["stage"] (spHowMany) := ⟨f_how_many, _, ok_how_many F_how_many T, PySem.W.mg_of X G a_how_many, k_how_many, b_how_many⟩
  have d_Design_init : MkD P w K mg base CD 1 ["self", "pieces", "props", "at_once"] (spInitD CD) := ⟨f_Design_init, _, ok_Design_init F_Design_init T, ⟨mk_CD, a_Design_init, i_Design_init, kc_CD⟩, b_Design_init⟩
  have d_Design_end : MeD P w K mg base CD "end" 1 ["self"] (spEnd CD) := ⟨f_Design_end, _, ok_Design_end F_Design_end T, ⟨a_Design_end, i_Design_end, k_Design_end⟩, b_Design_end⟩
  have d_Design_is_piece : MeD P w K mg base CD "is_piece" 1 ["self", "number"] (spIsPiece CD) := ⟨f_Design_is_piece, _, ok_Design_is_piece F_Design_is_piece T, ⟨a_Design_is_piece, i_Design_is_piece, k_Design_is_piece⟩, b_Design_is_piece⟩
  have d_Design_is_set : MeD P w K mg base CD "is_set" 1 ["self", "number"] (spIsSet CD) := ⟨f_Design_is_set, _, ok_Design_is_set F_Design_is_set T, ⟨a_Design_is_set, i_Design_is_set, k_Design_is_set⟩, b_Design_is_set⟩
  have d_Design_has_all_bases : MeD P w K mg base CD "has_all_bases" 1 ["self", "piece"] (spAllBases CD) := ⟨f_Design_has_all_bases, _, ok_Design_has_all_bases F_Design_has_all_bases T, ⟨a_Design_has_all_bases, i_Design_has_all_bases, k_Design_has_all_bases⟩, b_Design_has_all_bases⟩
  have d_Design_add_base : MeD P w K mg base CD "add_base" 1 ["self", "piece", "base"] (spAddBase CD) := ⟨f_Design_add_base, _, ok_Design_add_base F_Design_add_base T, ⟨a_Design_add_base, i_Design_add_base, k_Design_add_base⟩, b_Design_add_base⟩
  have d_Design_prop_bit : MeD P w K mg base CD "prop_bit" 1 ["self", "prop"] (spPropBit CD) := ⟨f_Design_prop_bit, _, ok_Design_prop_bit F_Design_prop_bit T, ⟨a_Design_prop_bit, i_Design_prop_bit, k_Design_prop_bit⟩, b_Design_prop_bit⟩
  have d_Design_moves : MeD P w K mg base CD "moves" 1 ["self"] (spMoves CD) := ⟨f_Design_moves, _, ok_Design_moves F_Design_moves T, ⟨a_Design_moves, i_Design_moves, k_Design_moves⟩, b_Design_moves⟩
  have d_with_lengths : FnD P w K mg base "with_lengths" 1 ["rows"] (spWl K) := ⟨f_with_lengths, _, ok_with_lengths F_with_lengths T, PySem.W.mg_of X G a_with_lengths, k_with_lengths, b_with_lengths⟩
  have d_Bridge_undo : MeD P w K mg base CB "undo" 1 ["self"] (spUndo CD CB tT) := ⟨f_Bridge_undo, _, ok_Bridge_undo (tb := tT) F_Bridge_undo T, ⟨a_Bridge_undo, i_Bridge_undo, k_Bridge_undo⟩, b_Bridge_undo⟩
  have d_Design_piece_rests : MeD P w K mg base CD "piece_rests" 2 ["self", "piece", "stage"] (spPieceRests CD) := ⟨f_Design_piece_rests, _, ok_Design_piece_rests F_Design_piece_rests T (d_holds := d_holds), ⟨a_Design_piece_rests, i_Design_piece_rests, k_Design_piece_rests⟩, b_Design_piece_rests⟩
  have d_Design_is_move : MeD P w K mg base CD "is_move" 2 ["self", "number"] (spIsMove CD) := ⟨f_Design_is_move, _, ok_Design_is_move F_Design_is_move T (d_Design_is_piece := d_Design_is_piece), ⟨a_Design_is_move, i_Design_is_move, k_Design_is_move⟩, b_Design_is_move⟩
  have d_Design_pieces_there : MeD P w K mg base CD "pieces_there" 2 ["self", "stage"] (spPiecesThere CD) := ⟨f_Design_pieces_there, _, ok_Design_pieces_there F_Design_pieces_there T (d_how_many := d_how_many) (d_Design_end := d_Design_end), ⟨a_Design_pieces_there, i_Design_pieces_there, k_Design_pieces_there⟩, b_Design_pieces_there⟩
  have d_Design_props_there : MeD P w K mg base CD "props_there" 2 ["self", "stage"] (spPropsThere CD) := ⟨f_Design_props_there, _, ok_Design_props_there F_Design_props_there T (d_how_many := d_how_many), ⟨a_Design_props_there, i_Design_props_there, k_Design_props_there⟩, b_Design_props_there⟩
  have d_Design_with_thing : MeD P w K mg base CD "with_thing" 2 ["self", "stage", "bit"] (spWithThing CD) := ⟨f_Design_with_thing, _, ok_Design_with_thing F_Design_with_thing T (d_holds := d_holds), ⟨a_Design_with_thing, i_Design_with_thing, k_Design_with_thing⟩, b_Design_with_thing⟩
  have d_Design_without_prop : MeD P w K mg base CD "without_prop" 2 ["self", "stage", "prop"] (spWithoutProp CD) := ⟨f_Design_without_prop, _, ok_Design_without_prop F_Design_without_prop T (d_Design_prop_bit := d_Design_prop_bit) (d_holds := d_holds), ⟨a_Design_without_prop, i_Design_without_prop, k_Design_without_prop⟩, b_Design_without_prop⟩
  have d_Bridge_rests : MeD P w K mg base CB "rests" 2 ["self", "piece", "base"] (spRests CD CB tT) := ⟨f_Bridge_rests, _, ok_Bridge_rests (tb := tT) F_Bridge_rests T (d_Design_has_all_bases := d_Design_has_all_bases) (d_Design_add_base := d_Design_add_base) (d_Design_is_set := d_Design_is_set) (d_Design_is_piece := d_Design_is_piece), ⟨a_Bridge_rests, i_Bridge_rests, k_Bridge_rests⟩, b_Bridge_rests⟩
  have d_Bridge_state : MeD P w K mg base CB "state" 2 ["self"] (spState CD CB tT) := ⟨f_Bridge_state, _, ok_Bridge_state (tb := tT) F_Bridge_state T (d_with_lengths := d_with_lengths), ⟨a_Bridge_state, i_Bridge_state, k_Bridge_state⟩, b_Bridge_state⟩
  have d_Design_with_at_once : MeD P w K mg base CD "with_at_once" 3 ["self", "at_once"] (spWith CD) := ⟨f_Design_with_at_once, _, ok_Design_with_at_once F_Design_with_at_once T (d_Design_init := d_Design_init), ⟨a_Design_with_at_once, i_Design_with_at_once, k_Design_with_at_once⟩, b_Design_with_at_once⟩
  have d_Design_without_loose : MeD P w K mg base CD "without_loose" 3 ["self", "stage"] (spLoose CD) := ⟨f_Design_without_loose, _, ok_Design_without_loose F_Design_without_loose T (d_holds := d_holds) (d_Design_piece_rests := d_Design_piece_rests), ⟨a_Design_without_loose, i_Design_without_loose, k_Design_without_loose⟩, b_Design_without_loose⟩
  have d_Design_with_prop : MeD P w K mg base CD "with_prop" 3 ["self", "stage", "prop"] (spWithProp CD) := ⟨f_Design_with_prop, _, ok_Design_with_prop F_Design_with_prop T (d_Design_with_thing := d_Design_with_thing) (d_Design_props_there := d_Design_props_there) (d_Design_prop_bit := d_Design_prop_bit), ⟨a_Design_with_prop, i_Design_with_prop, k_Design_with_prop⟩, b_Design_with_prop⟩
  have d_Bridge_init : MkD P w K mg base CB 3 ["self"] (spInitB CD CB) := ⟨f_Bridge_init, _, ok_Bridge_init F_Bridge_init T (d_Design_init := d_Design_init), ⟨mk_CB, a_Bridge_init, i_Bridge_init, kc_CB⟩, b_Bridge_init⟩
  have d_Bridge_begins : MeD P w K mg base CB "begins" 3 ["self", "pieces", "props", "at_once"] (spBegins CD CB tT) := ⟨f_Bridge_begins, _, ok_Bridge_begins (tb := tT) F_Bridge_begins T (d_Design_init := d_Design_init) (d_is_design := d_is_design), ⟨a_Bridge_begins, i_Bridge_begins, k_Bridge_begins⟩, b_Bridge_begins⟩
  have d_Design_does_carry : MeD P w K mg base CD "does_carry" 4 ["self", "stage"] (spCarry CD) := ⟨f_Design_does_carry, _, ok_Design_does_carry F_Design_does_carry T (d_Design_without_loose := d_Design_without_loose), ⟨a_Design_does_carry, i_Design_does_carry, k_Design_does_carry⟩, b_Design_does_carry⟩
  have d_Design_moved : MeD P w K mg base CD "moved" 4 ["self", "stage", "move"] (spMoved CD) := ⟨f_Design_moved, _, ok_Design_moved F_Design_moved T (d_Design_without_prop := d_Design_without_prop) (d_Design_with_thing := d_Design_with_thing) (d_Design_with_prop := d_Design_with_prop), ⟨a_Design_moved, i_Design_moved, k_Design_moved⟩, b_Design_moved⟩
  have d_Design_what_stays : MeD P w K mg base CD "what_stays" 5 ["self", "stage"] (spStays CD) := ⟨f_Design_what_stays, _, ok_Design_what_stays F_Design_what_stays T (d_Design_does_carry := d_Design_does_carry) (d_Design_without_loose := d_Design_without_loose), ⟨a_Design_what_stays, i_Design_what_stays, k_Design_what_stays⟩, b_Design_what_stays⟩
  have d_Design_spare_pieces : MeD P w K mg base CD "spare_pieces" 5 ["self"] (spSpare CD) := ⟨f_Design_spare_pieces, _, ok_Design_spare_pieces F_Design_spare_pieces T (d_Design_end := d_Design_end) (d_Design_does_carry := d_Design_does_carry), ⟨a_Design_spare_pieces, i_Design_spare_pieces, k_Design_spare_pieces⟩, b_Design_spare_pieces⟩
  have d_Design_stage_behind : MeD P w K mg base CD "stage_behind" 5 ["self", "stage", "move"] (spBehind CD) := ⟨f_Design_stage_behind, _, ok_Design_stage_behind F_Design_stage_behind T (d_Design_moved := d_Design_moved) (d_Design_does_carry := d_Design_does_carry), ⟨a_Design_stage_behind, i_Design_stage_behind, k_Design_stage_behind⟩, b_Design_stage_behind⟩
  have d_furthest : FnD P w K mg base "furthest" 5 ["design", "stages"] (spFar CD tT) := ⟨f_furthest, _, ok_furthest FC_furthest T TB (d_Design_pieces_there := d_Design_pieces_there), PySem.W.mg_of X G a_furthest, k_furthest, b_furthest⟩
  have d_Bridge_carries : MeD P w K mg base CB "carries" 5 ["self", "stage"] (spCarries CD CB tT) := ⟨f_Bridge_carries, _, ok_Bridge_carries (tb := tT) F_Bridge_carries T (d_Design_is_set := d_Design_is_set) (d_Design_does_carry := d_Design_does_carry), ⟨a_Bridge_carries, i_Bridge_carries, k_Bridge_carries⟩, b_Bridge_carries⟩
  have d_ways_from : FnD P w K mg base "ways_from" 6 ["design", "start"] (spWays CD) := ⟨f_ways_from, _, ok_ways_from F_ways_from T (d_Design_moves := d_Design_moves) (d_Design_stage_behind := d_Design_stage_behind), PySem.W.mg_of X G a_ways_from, k_ways_from, b_ways_from⟩
  have d_Bridge_falls : MeD P w K mg base CB "falls" 6 ["self", "stage"] (spFalls CD CB tT) := ⟨f_Bridge_falls, _, ok_Bridge_falls (tb := tT) F_Bridge_falls T (d_Design_what_stays := d_Design_what_stays) (d_Design_is_set := d_Design_is_set), ⟨a_Bridge_falls, i_Bridge_falls, k_Bridge_falls⟩, b_Bridge_falls⟩
  have d_Bridge_does : MeD P w K mg base CB "does" 6 ["self", "move"] (spDoes CD CB tT) := ⟨f_Bridge_does, _, ok_Bridge_does (tb := tT) F_Bridge_does T (d_Design_stage_behind := d_Design_stage_behind) (d_Design_is_move := d_Design_is_move), ⟨a_Bridge_does, i_Bridge_does, k_Bridge_does⟩, b_Bridge_does⟩
  have d_Bridge_spare : MeD P w K mg base CB "spare" 6 ["self"] (spSpareB CD CB tT) := ⟨f_Bridge_spare, _, ok_Bridge_spare (tb := tT) F_Bridge_spare T (d_Design_spare_pieces := d_Design_spare_pieces) (d_Design_does_carry := d_Design_does_carry) (d_with_lengths := d_with_lengths) (d_Design_end := d_Design_end), ⟨a_Bridge_spare, i_Bridge_spare, k_Bridge_spare⟩, b_Bridge_spare⟩
  have d_plan_from : FnD P w K mg base "plan_from" 7 ["design", "start"] (spPlan CD) := ⟨f_plan_from, _, ok_plan_from F_plan_from T (d_ways_from := d_ways_from) (d_Design_end := d_Design_end), PySem.W.mg_of X G a_plan_from, k_plan_from, b_plan_from⟩
  have d_Bridge_far : MeD P w K mg base CB "far" 7 ["self"] (spFarB CD CB tT) := ⟨f_Bridge_far, _, ok_Bridge_far (tb := tT) F_Bridge_far T (d_ways_from := d_ways_from) (d_furthest := d_furthest) (d_with_lengths := d_with_lengths) (d_Design_pieces_there := d_Design_pieces_there), ⟨a_Bridge_far, i_Bridge_far, k_Bridge_far⟩, b_Bridge_far⟩
  have d_props_needed : FnD P w K mg base "props_needed" 8 ["design"] (spNeeded CD) := ⟨f_props_needed, _, ok_props_needed F_props_needed T (d_plan_from := d_plan_from) (d_Design_with_at_once := d_Design_with_at_once), PySem.W.mg_of X G a_props_needed, k_props_needed, b_props_needed⟩
  have d_Bridge_fewest : MeD P w K mg base CB "fewest" 8 ["self"] (spFewest CD CB tT) := ⟨f_Bridge_fewest, _, ok_Bridge_fewest (tb := tT) F_Bridge_fewest T (d_plan_from := d_plan_from), ⟨a_Bridge_fewest, i_Bridge_fewest, k_Bridge_fewest⟩, b_Bridge_fewest⟩
  have d_Bridge_plan : MeD P w K mg base CB "plan" 8 ["self"] (spPlanB CD CB tT) := ⟨f_Bridge_plan, _, ok_Bridge_plan (tb := tT) F_Bridge_plan T (d_plan_from := d_plan_from) (d_with_lengths := d_with_lengths), ⟨a_Bridge_plan, i_Bridge_plan, k_Bridge_plan⟩, b_Bridge_plan⟩
  have d_Bridge_needed : MeD P w K mg base CB "needed" 9 ["self"] (spNeed CD CB tT) := ⟨f_Bridge_needed, _, ok_Bridge_needed (tb := tT) F_Bridge_needed T (d_props_needed := d_props_needed), ⟨a_Bridge_needed, i_Bridge_needed, k_Bridge_needed⟩, b_Bridge_needed⟩
  have d_number_answered : FnD P w K mg base "number_answered" 10 ["bridge", "call", "numbers"] (spNum K CD CB tT) := ⟨f_number_answered, _, ok_number_answered (tb := tT) F_number_answered T (d_Bridge_needed := d_Bridge_needed) (d_Bridge_begins := d_Bridge_begins) (d_Bridge_rests := d_Bridge_rests) (d_Bridge_carries := d_Bridge_carries) (d_Bridge_falls := d_Bridge_falls) (d_Bridge_does := d_Bridge_does) (d_Bridge_undo := d_Bridge_undo) (d_Bridge_fewest := d_Bridge_fewest), PySem.W.mg_of X G a_number_answered, k_number_answered, b_number_answered⟩
  have d_answer : FnD P w K mg base "answer" 11 ["bridge", "call", "numbers"] (spAnswer K CD CB tT) := ⟨f_answer, _, ok_answer (tb := tT) F_answer T (d_Bridge_plan := d_Bridge_plan) (d_Bridge_far := d_Bridge_far) (d_Bridge_spare := d_Bridge_spare) (d_Bridge_state := d_Bridge_state) (d_number_answered := d_number_answered), PySem.W.mg_of X G a_answer, k_answer, b_answer⟩
  exact ok_answers (tb := tT) F_answers T (d_Bridge_init := d_Bridge_init) (d_with_lengths := d_with_lengths) (d_answer := d_answer)
end Br
open PySem PySem.W PyProof.Rows
set_option maxRecDepth 100000 in
set_option maxHeartbeats 0 in
theorem PySem.Challenge.cw_bridgestages_s01_answers_holds : PySem.Challenge.rw_bridgestages_s01_answers.Holds := by
  w_on; k_headS; (case hw => exact ⟨[.list [.int 5]], by decide +kernel, by decide +kernel⟩)
  k_fillS
  refine Br.walkT (r := PySem.Challenge.rw_bridgestages_s01_answers) (k := 12) (ps := ["calls"]) (sp := Br.spAnswers 211) (c := 215) (t := 211) (x := "furthest") (by decide +kernel) rfl ⟨rfl, by decide, by decide⟩ (fun w h Y => PySem.W.kIn_of Y) ?X ?HT ?HK ?F ?S
  case X => decide +kernel
  case HT => intro w; kernel_rfl
  case HK => intro w; kernel_rfl
  case F =>
    intro w mg fa h Y KX G hmg
    refine' Br.all_mk KX G hmg ?a_CD ?pg_CD ?hd_CD ?po_CD ?sa_CD ?mk_CD ?kc_CD ?a_CB ?pg_CB ?hd_CB ?po_CB ?sa_CB ?mk_CB ?kc_CB ?n_pieces ?n_props ?n_at_once ?n_bases ?n_design ?n_stage ?z_range ?z_list ?z_len ?z_reversed ?z_min ?g_MOST_PIECES ?g_MOST_PROPS ?g_MOST_BASES ?g_FIRST_PUT ?g_FIRST_TAKE ?g_BEGINS ?g_RESTS ?g_CARRIES ?g_FALLS ?g_DOES ?g_UNDO ?g_FEWEST ?g_PLAN ?g_FAR ?g_SPARE ?g_STATE ?g_HANDED ?o_HANDED ?v_HANDED ?y_HANDED ?a_is_design ?l_is_design ?c_is_design ?k_is_design ?a_holds ?l_holds ?c_holds ?k_holds ?a_how_many ?l_how_many ?c_how_many ?k_how_many ?a_Design_init ?i_Design_init ?l_Design_init ?c_Design_init ?k_Design_init ?a_Design_with_at_once ?i_Design_with_at_once ?l_Design_with_at_once ?c_Design_with_at_once ?k_Design_with_at_once ?a_Design_end ?i_Design_end ?l_Design_end ?c_Design_end ?k_Design_end ?a_Design_is_piece ?i_Design_is_piece ?l_Design_is_piece ?c_Design_is_piece ?k_Design_is_piece ?a_Design_is_set ?i_Design_is_set ?l_Design_is_set ?c_Design_is_set ?k_Design_is_set ?a_Design_has_all_bases ?i_Design_has_all_bases ?l_Design_has_all_bases ?c_Design_has_all_bases ?k_Design_has_all_bases ?a_Design_add_base ?i_Design_add_base ?l_Design_add_base ?c_Design_add_base ?k_Design_add_base ?a_Design_piece_rests ?i_Design_piece_rests ?l_Design_piece_rests ?c_Design_piece_rests ?k_Design_piece_rests ?a_Design_without_loose ?i_Design_without_loose ?l_Design_without_loose ?c_Design_without_loose ?k_Design_without_loose ?a_Design_does_carry ?i_Design_does_carry ?l_Design_does_carry ?c_Design_does_carry ?k_Design_does_carry ?a_Design_what_stays ?i_Design_what_stays ?l_Design_what_stays ?c_Design_what_stays ?k_Design_what_stays ?a_Design_spare_pieces ?i_Design_spare_pieces ?l_Design_spare_pieces ?c_Design_spare_pieces ?k_Design_spare_pieces ?a_Design_is_move ?i_Design_is_move ?l_Design_is_move ?c_Design_is_move ?k_Design_is_move ?a_Design_prop_bit ?i_Design_prop_bit ?l_Design_prop_bit ?c_Design_prop_bit ?k_Design_prop_bit ?a_Design_moves ?i_Design_moves ?l_Design_moves ?c_Design_moves ?k_Design_moves ?a_Design_pieces_there ?i_Design_pieces_there ?l_Design_pieces_there ?c_Design_pieces_there ?k_Design_pieces_there ?a_Design_props_there ?i_Design_props_there ?l_Design_props_there ?c_Design_props_there ?k_Design_props_there ?a_Design_with_thing ?i_Design_with_thing ?l_Design_with_thing ?c_Design_with_thing ?k_Design_with_thing ?a_Design_with_prop ?i_Design_with_prop ?l_Design_with_prop ?c_Design_with_prop ?k_Design_with_prop ?a_Design_without_prop ?i_Design_without_prop ?l_Design_without_prop ?c_Design_without_prop ?k_Design_without_prop ?a_Design_moved ?i_Design_moved ?l_Design_moved ?c_Design_moved ?k_Design_moved ?a_Design_stage_behind ?i_Design_stage_behind ?l_Design_stage_behind ?c_Design_stage_behind ?k_Design_stage_behind ?a_ways_from ?l_ways_from ?c_ways_from ?k_ways_from ?a_plan_from ?l_plan_from ?c_plan_from ?k_plan_from ?a_furthest ?l_furthest ?c_furthest ?k_furthest ?a_props_needed ?l_props_needed ?c_props_needed ?k_props_needed ?a_with_lengths ?l_with_lengths ?c_with_lengths ?k_with_lengths ?a_Bridge_init ?i_Bridge_init ?l_Bridge_init ?c_Bridge_init ?k_Bridge_init ?a_Bridge_begins ?i_Bridge_begins ?l_Bridge_begins ?c_Bridge_begins ?k_Bridge_begins ?a_Bridge_rests ?i_Bridge_rests ?l_Bridge_rests ?c_Bridge_rests ?k_Bridge_rests ?a_Bridge_carries ?i_Bridge_carries ?l_Bridge_carries ?c_Bridge_carries ?k_Bridge_carries ?a_Bridge_falls ?i_Bridge_falls ?l_Bridge_falls ?c_Bridge_falls ?k_Bridge_falls ?a_Bridge_does ?i_Bridge_does ?l_Bridge_does ?c_Bridge_does ?k_Bridge_does ?a_Bridge_undo ?i_Bridge_undo ?l_Bridge_undo ?c_Bridge_undo ?k_Bridge_undo ?a_Bridge_fewest ?i_Bridge_fewest ?l_Bridge_fewest ?c_Bridge_fewest ?k_Bridge_fewest ?a_Bridge_plan ?i_Bridge_plan ?l_Bridge_plan ?c_Bridge_plan ?k_Bridge_plan ?a_Bridge_far ?i_Bridge_far ?l_Bridge_far ?c_Bridge_far ?k_Bridge_far ?a_Bridge_needed ?i_Bridge_needed ?l_Bridge_needed ?c_Bridge_needed ?k_Bridge_needed ?a_Bridge_spare ?i_Bridge_spare ?l_Bridge_spare ?c_Bridge_spare ?k_Bridge_spare ?a_Bridge_state ?i_Bridge_state ?l_Bridge_state ?c_Bridge_state ?k_Bridge_state ?a_number_answered ?l_number_answered ?c_number_answered ?k_number_answered ?a_answer ?l_answer ?c_answer ?k_answer ?a_answers ?l_answers ?c_answers ?k_answers
    (case a_CD => k_is)
    (case pg_CD => k_is)
    (case hd_CD => k_is)
    (case po_CD => k_is)
    (case sa_CD => k_is)
    (case mk_CD => k_is)
    (case kc_CD => k_is)
    (case a_CB => k_is)
    (case pg_CB => k_is)
    (case hd_CB => k_is)
    (case po_CB => k_is)
    (case sa_CB => k_is)
    (case mk_CB => k_is)
    (case kc_CB => k_is)
    (case n_pieces => k_is)
    (case n_props => k_is)
    (case n_at_once => k_is)
    (case n_bases => k_is)
    (case n_design => k_is)
    (case n_stage => k_is)
    (case z_range => k_is)
    (case z_list => k_is)
    (case z_len => k_is)
    (case z_reversed => k_is)
    (case z_min => k_is)
    (case g_MOST_PIECES => k_is)
    (case g_MOST_PROPS => k_is)
    (case g_MOST_BASES => k_is)
    (case g_FIRST_PUT => k_is)
    (case g_FIRST_TAKE => k_is)
    (case g_BEGINS => k_is)
    (case g_RESTS => k_is)
    (case g_CARRIES => k_is)
    (case g_FALLS => k_is)
    (case g_DOES => k_is)
    (case g_UNDO => k_is)
    (case g_FEWEST => k_is)
    (case g_PLAN => k_is)
    (case g_FAR => k_is)
    (case g_SPARE => k_is)
    (case g_STATE => k_is)
    (case g_HANDED => k_is)
    (case o_HANDED => k_is)
    (case v_HANDED => exact .cons ⟨_, rfl⟩ (.cons ⟨_, rfl⟩ (.cons ⟨_, rfl⟩ (.cons ⟨_, rfl⟩ (.cons ⟨_, rfl⟩ (.cons ⟨_, rfl⟩ (.cons ⟨_, rfl⟩ (.cons ⟨_, rfl⟩ (.cons ⟨_, rfl⟩ (.cons ⟨_, rfl⟩ (.cons ⟨_, rfl⟩ (.cons ⟨_, rfl⟩ (.nil)))))))))))))
    (case y_HANDED => decide)
    (case a_is_design => k_is)
    (case l_is_design => k_is)
    (case c_is_design => k_is)
    (case k_is_design => k_is)
    (case a_holds => k_is)
    (case l_holds => k_is)
    (case c_holds => k_is)
    (case k_holds => k_is)
    (case a_how_many => k_is)
    (case l_how_many => k_is)
    (case c_how_many => k_is)
    (case k_how_many => k_is)
    (case a_Design_init => k_is)
    (case i_Design_init => k_is)
    (case l_Design_init => k_is)
    (case c_Design_init => k_is)
    (case k_Design_init => k_is)
    (case a_Design_with_at_once => k_is)
    (case i_Design_with_at_once => k_is)
    (case l_Design_with_at_once => k_is)
    (case c_Design_with_at_once => k_is)
    (case k_Design_with_at_once => k_is)
    (case a_Design_end => k_is)
    (case i_Design_end => k_is)
    (case l_Design_end => k_is)
    (case c_Design_end => k_is)
    (case k_Design_end => k_is)
    (case a_Design_is_piece => k_is)
    (case i_Design_is_piece => k_is)
    (case l_Design_is_piece => k_is)
    (case c_Design_is_piece => k_is)
    (case k_Design_is_piece => k_is)
    (case a_Design_is_set => k_is)
    (case i_Design_is_set => k_is)
    (case l_Design_is_set => k_is)
    (case c_Design_is_set => k_is)
    (case k_Design_is_set => k_is)
    (case a_Design_has_all_bases => k_is)
    (case i_Design_has_all_bases => k_is)
    (case l_Design_has_all_bases => k_is)
    (case c_Design_has_all_bases => k_is)
    (case k_Design_has_all_bases => k_is)
    (case a_Design_add_base => k_is)
    (case i_Design_add_base => k_is)
    (case l_Design_add_base => k_is)
    (case c_Design_add_base => k_is)
    (case k_Design_add_base => k_is)
    (case a_Design_piece_rests => k_is)
    (case i_Design_piece_rests => k_is)
    (case l_Design_piece_rests => k_is)
    (case c_Design_piece_rests => k_is)
    (case k_Design_piece_rests => k_is)
    (case a_Design_without_loose => k_is)
    (case i_Design_without_loose => k_is)
    (case l_Design_without_loose => k_is)
    (case c_Design_without_loose => k_is)
    (case k_Design_without_loose => k_is)
    (case a_Design_does_carry => k_is)
    (case i_Design_does_carry => k_is)
    (case l_Design_does_carry => k_is)
    (case c_Design_does_carry => k_is)
    (case k_Design_does_carry => k_is)
    (case a_Design_what_stays => k_is)
    (case i_Design_what_stays => k_is)
    (case l_Design_what_stays => k_is)
    (case c_Design_what_stays => k_is)
    (case k_Design_what_stays => k_is)
    (case a_Design_spare_pieces => k_is)
    (case i_Design_spare_pieces => k_is)
    (case l_Design_spare_pieces => k_is)
    (case c_Design_spare_pieces => k_is)
    (case k_Design_spare_pieces => k_is)
    (case a_Design_is_move => k_is)
    (case i_Design_is_move => k_is)
    (case l_Design_is_move => k_is)
    (case c_Design_is_move => k_is)
    (case k_Design_is_move => k_is)
    (case a_Design_prop_bit => k_is)
    (case i_Design_prop_bit => k_is)
    (case l_Design_prop_bit => k_is)
    (case c_Design_prop_bit => k_is)
    (case k_Design_prop_bit => k_is)
    (case a_Design_moves => k_is)
    (case i_Design_moves => k_is)
    (case l_Design_moves => k_is)
    (case c_Design_moves => k_is)
    (case k_Design_moves => k_is)
    (case a_Design_pieces_there => k_is)
    (case i_Design_pieces_there => k_is)
    (case l_Design_pieces_there => k_is)
    (case c_Design_pieces_there => k_is)
    (case k_Design_pieces_there => k_is)
    (case a_Design_props_there => k_is)
    (case i_Design_props_there => k_is)
    (case l_Design_props_there => k_is)
    (case c_Design_props_there => k_is)
    (case k_Design_props_there => k_is)
    (case a_Design_with_thing => k_is)
    (case i_Design_with_thing => k_is)
    (case l_Design_with_thing => k_is)
    (case c_Design_with_thing => k_is)
    (case k_Design_with_thing => k_is)
    (case a_Design_with_prop => k_is)
    (case i_Design_with_prop => k_is)
    (case l_Design_with_prop => k_is)
    (case c_Design_with_prop => k_is)
    (case k_Design_with_prop => k_is)
    (case a_Design_without_prop => k_is)
    (case i_Design_without_prop => k_is)
    (case l_Design_without_prop => k_is)
    (case c_Design_without_prop => k_is)
    (case k_Design_without_prop => k_is)
    (case a_Design_moved => k_is)
    (case i_Design_moved => k_is)
    (case l_Design_moved => k_is)
    (case c_Design_moved => k_is)
    (case k_Design_moved => k_is)
    (case a_Design_stage_behind => k_is)
    (case i_Design_stage_behind => k_is)
    (case l_Design_stage_behind => k_is)
    (case c_Design_stage_behind => k_is)
    (case k_Design_stage_behind => k_is)
    (case a_ways_from => k_is)
    (case l_ways_from => k_is)
    (case c_ways_from => k_is)
    (case k_ways_from => k_is)
    (case a_plan_from => k_is)
    (case l_plan_from => k_is)
    (case c_plan_from => k_is)
    (case k_plan_from => k_is)
    (case a_furthest => k_is)
    (case l_furthest => k_is)
    (case c_furthest => k_is)
    (case k_furthest => k_is)
    (case a_props_needed => k_is)
    (case l_props_needed => k_is)
    (case c_props_needed => k_is)
    (case k_props_needed => k_is)
    (case a_with_lengths => k_is)
    (case l_with_lengths => k_is)
    (case c_with_lengths => k_is)
    (case k_with_lengths => k_is)
    (case a_Bridge_init => k_is)
    (case i_Bridge_init => k_is)
    (case l_Bridge_init => k_is)
    (case c_Bridge_init => k_is)
    (case k_Bridge_init => k_is)
    (case a_Bridge_begins => k_is)
    (case i_Bridge_begins => k_is)
    (case l_Bridge_begins => k_is)
    (case c_Bridge_begins => k_is)
    (case k_Bridge_begins => k_is)
    (case a_Bridge_rests => k_is)
    (case i_Bridge_rests => k_is)
    (case l_Bridge_rests => k_is)
    (case c_Bridge_rests => k_is)
    (case k_Bridge_rests => k_is)
    (case a_Bridge_carries => k_is)
    (case i_Bridge_carries => k_is)
    (case l_Bridge_carries => k_is)
    (case c_Bridge_carries => k_is)
    (case k_Bridge_carries => k_is)
    (case a_Bridge_falls => k_is)
    (case i_Bridge_falls => k_is)
    (case l_Bridge_falls => k_is)
    (case c_Bridge_falls => k_is)
    (case k_Bridge_falls => k_is)
    (case a_Bridge_does => k_is)
    (case i_Bridge_does => k_is)
    (case l_Bridge_does => k_is)
    (case c_Bridge_does => k_is)
    (case k_Bridge_does => k_is)
    (case a_Bridge_undo => k_is)
    (case i_Bridge_undo => k_is)
    (case l_Bridge_undo => k_is)
    (case c_Bridge_undo => k_is)
    (case k_Bridge_undo => k_is)
    (case a_Bridge_fewest => k_is)
    (case i_Bridge_fewest => k_is)
    (case l_Bridge_fewest => k_is)
    (case c_Bridge_fewest => k_is)
    (case k_Bridge_fewest => k_is)
    (case a_Bridge_plan => k_is)
    (case i_Bridge_plan => k_is)
    (case l_Bridge_plan => k_is)
    (case c_Bridge_plan => k_is)
    (case k_Bridge_plan => k_is)
    (case a_Bridge_far => k_is)
    (case i_Bridge_far => k_is)
    (case l_Bridge_far => k_is)
    (case c_Bridge_far => k_is)
    (case k_Bridge_far => k_is)
    (case a_Bridge_needed => k_is)
    (case i_Bridge_needed => k_is)
    (case l_Bridge_needed => k_is)
    (case c_Bridge_needed => k_is)
    (case k_Bridge_needed => k_is)
    (case a_Bridge_spare => k_is)
    (case i_Bridge_spare => k_is)
    (case l_Bridge_spare => k_is)
    (case c_Bridge_spare => k_is)
    (case k_Bridge_spare => k_is)
    (case a_Bridge_state => k_is)
    (case i_Bridge_state => k_is)
    (case l_Bridge_state => k_is)
    (case c_Bridge_state => k_is)
    (case k_Bridge_state => k_is)
    (case a_number_answered => k_is)
    (case l_number_answered => k_is)
    (case c_number_answered => k_is)
    (case k_number_answered => k_is)
    (case a_answer => k_is)
    (case l_answer => k_is)
    (case c_answer => k_is)
    (case k_answer => k_is)
    (case a_answers => k_is)
    (case l_answers => k_is)
    (case c_answers => k_is)
    (case k_answers => k_is)
  case S =>
    intro K H xs a hO hwi hask hx
    cases hx with
    | cons h1 h2 =>
      cases h2
      cases h1 with
      | lst hs ha =>
        have e := L2.ints_dw a.1 _ ha
        subst e
        obtain ⟨cs, hr, hans, _, hlen⟩ := Br.asked_rest (l := a.1) hask
        refine ⟨_, a.1, cs, rfl, hs, hr, hlen, LamX.TabS.nil hO.tab, fun H' p hp => ?_⟩
        rw [← hans] at hp
        exact .lst (L2.SqL.of hp) (L2.dw_ints _)
#print axioms PySem.Challenge.cw_bridgestages_s01_answers_holds
