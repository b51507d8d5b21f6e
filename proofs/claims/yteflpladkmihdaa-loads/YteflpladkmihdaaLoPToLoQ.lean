/- Bytes that are taken in turn, and bytes by their places. -/
import Derived.Test.YteflpladkmihdaaLiC
set_option linter.unusedVariables false
set_option linter.unusedSimpArgs false
namespace Go.Proofs.Yteflpladkmihdaa
open Go.RowKit

theorem inB_iff {n least most : Nat} : inB n least most = true ↔ least ≤ n ∧ n ≤ most := by unfold inB; simp
theorem toK_iff (s : ByteArray) (p st n : Nat) : toK s p st n = true ↔ ∀ i, i < n → p + 2 * i + 1 < s.size ∧ byt2 s (p + 2 * i) ≤ st - 1 := by
  induction n with
  | zero => simp [toK]
  | succ n ih =>
    rw [toK, Bool.and_eq_true, Bool.and_eq_true, ih, inB_iff, decide_eq_true_iff]
    constructor
    · rintro ⟨⟨h1, h2⟩, _, h3⟩ i hi
      by_cases e : i = n
      · subst e; exact ⟨h2, h3⟩
      · exact h1 i (by omega)
    · intro h
      exact ⟨⟨fun i hi => h i (by omega), (h n (by omega)).1⟩, Nat.zero_le _, (h n (by omega)).2⟩
theorem ruleK_iff (s : ByteArray) (p mo n : Nat) : ruleK s p mo n = true ↔ ∀ i, i < n → p + 2 * i + 1 < s.size ∧ byt s (p + 2 * i) ≤ 3 ∧ byt s (p + 2 * i + 1) ≤ mo - 1 := by
  induction n with
  | zero => simp [ruleK]
  | succ n ih =>
    rw [ruleK, Bool.and_eq_true, Bool.and_eq_true, Bool.and_eq_true, Bool.and_eq_true, ih, inB_iff, inB_iff, decide_eq_true_iff, decide_eq_true_iff]
    constructor
    · rintro ⟨⟨⟨⟨h1, h2⟩, _, h3⟩, h4⟩, _, h5⟩ i hi
      by_cases e : i = n
      · subst e; exact ⟨h4, h3, h5⟩
      · exact h1 i (by omega)
    · intro h
      have hn := h n (by omega)
      exact ⟨⟨⟨⟨fun i hi => h i (by omega), by omega⟩, Nat.zero_le _, hn.2.1⟩, hn.1⟩, Nat.zero_le _, hn.2.2⟩
theorem kindsK_iff (s : ByteArray) (p n : Nat) : kindsK s p n = true ↔ ∀ i, i < n → p + i < s.size ∧ byt s (p + i) ≤ metF s p i := by
  induction n with
  | zero => simp [kindsK]
  | succ n ih =>
    rw [kindsK, Bool.and_eq_true, Bool.and_eq_true, ih, inB_iff, decide_eq_true_iff]
    constructor
    · rintro ⟨⟨h1, h2⟩, _, h3⟩ i hi
      by_cases e : i = n
      · subst e; exact ⟨h2, h3⟩
      · exact h1 i (by omega)
    · intro h
      exact ⟨⟨fun i hi => h i (by omega), (h n (by omega)).1⟩, Nat.zero_le _, (h n (by omega)).2⟩
theorem endK_iff (s : ByteArray) (p ru n : Nat) : endK s p ru n = true ↔ ∀ i, i < n → p + i < s.size ∧ byt s (p + i) ≤ ru := by
  induction n with
  | zero => simp [endK]
  | succ n ih =>
    rw [endK, Bool.and_eq_true, Bool.and_eq_true, ih, inB_iff, decide_eq_true_iff]
    constructor
    · rintro ⟨⟨h1, h2⟩, _, h3⟩ i hi
      by_cases e : i = n
      · subst e; exact ⟨h2, h3⟩
      · exact h1 i (by omega)
    · intro h
      exact ⟨⟨fun i hi => h i (by omega), (h n (by omega)).1⟩, Nat.zero_le _, (h n (by omega)).2⟩
theorem bitK_iff (s : ByteArray) (p m n : Nat) : bitK s p m n = true ↔ ∀ i, i < n → p + i < s.size ∧ byt s (p + i) ≤ mostF m i := by
  induction n with
  | zero => simp [bitK]
  | succ n ih =>
    rw [bitK, Bool.and_eq_true, Bool.and_eq_true, ih, inB_iff, decide_eq_true_iff]
    constructor
    · rintro ⟨⟨h1, h2⟩, _, h3⟩ i hi
      by_cases e : i = n
      · subst e; exact ⟨h2, h3⟩
      · exact h1 i (by omega)
    · intro h
      exact ⟨⟨fun i hi => h i (by omega), (h n (by omega)).1⟩, Nat.zero_le _, (h n (by omega)).2⟩
theorem nextK_iff (s : ByteArray) (p st ki n : Nat) : nextK s p st ki n = true ↔ ∀ i, i < n → ∀ m, m < ki → p + 2 * ki * i + 2 * m + 1 < s.size ∧ byt2 s (p + 2 * ki * i + 2 * m) ≤ st - 1 := by
  induction n with
  | zero => simp [nextK]
  | succ n ih =>
    rw [nextK, Bool.and_eq_true, ih, toK_iff]
    constructor
    · rintro ⟨h1, h2⟩ i hi m hm
      by_cases e : i = n
      · subst e; exact h2 m hm
      · exact h1 i (by omega) m hm
    · intro h
      exact ⟨fun i hi => h i (by omega), h n (by omega)⟩

/-- Two bytes as a number, both ways. -/
theorem b2_eq (s : ByteArray) (i : Nat) (h : i + 1 < s.size) : b2 s i = byt2 s i := by
  have hl : (s.extract i (i + 2)).data.toList = [s[i], s[i + 1]] := by
    have h0 : i < s.data.toList.length := by simp; omega
    have h1 : i + 1 < s.data.toList.length := by simp; omega
    have e : s.data.toList.drop i = s.data.toList[i] :: s.data.toList[i + 1] :: s.data.toList.drop (i + 2) := by
      rw [List.drop_eq_getElem_cons h0, List.drop_eq_getElem_cons h1]
    have e2 : (s.extract i (i + 2)).data.toList = (s.data.toList.drop i).take 2 := by simp [List.take_drop, Nat.add_comm]
    rw [e2, e]
    rfl
  unfold b2 bigB
  rw [hl]
  simp [bigL]
  unfold byt2
  rw [byt_eq s i (by omega), byt_eq s (i + 1) h]

/-- As long as all are right, what was met is what is met. -/
theorem met_same (s : ByteArray) (p n : Nat) (h : ∀ i, i < n → byt s (p + i) ≤ metF s p i) : metF s p n = metTo s p n := by
  induction n with
  | zero => rfl
  | succ n ih =>
    have e := ih fun i hi => h i (by omega)
    have hn := h n (by omega)
    simp only [metF, metTo]
    rw [within_yes ⟨Nat.zero_le _, hn⟩]
    split <;> omega
theorem met_same' (s : ByteArray) (p n : Nat) (h : ∀ i, i < n → byt s (p + i) ≤ metTo s p i) : metF s p n = metTo s p n := by
  induction n with
  | zero => rfl
  | succ n ih =>
    have e := ih fun i hi => h i (by omega)
    have hn := h n (by omega)
    simp only [metF, metTo]
    rw [within_yes ⟨Nat.zero_le _, by omega⟩]
    split <;> omega
theorem kinds_same (s : ByteArray) (p n : Nat) : (∀ i, i < n → byt s (p + i) ≤ metF s p i) ↔ (∀ i, i < n → byt s (p + i) ≤ metTo s p i) := by
  constructor
  · intro h i hi
    rw [← met_same s p i fun j hj => h j (by omega)]
    exact h i hi
  · intro h i hi
    rw [met_same' s p i fun j hj => h j (by omega)]
    exact h i hi
theorem all_range (f : Nat → Bool) (n : Nat) : (List.range n).all f = true ↔ ∀ i, i < n → f i = true := by simp [List.all_eq_true]
end Go.Proofs.Yteflpladkmihdaa

/- Which bytes are tables, taken in turn and by their places. -/
namespace Go.Proofs.Yteflpladkmihdaa
open Go.RowKit

theorem okModes_same (s : ByteArray) (st mo : Nat) (h1 : 1 ≤ st) (hs : 13 + 2 * mo ≤ s.size) : okModes s st mo = true ↔ toK s 13 st mo = true := by
  unfold okModes
  rw [all_range, toK_iff]
  constructor
  · intro h i hi
    have := h i hi
    rw [decide_eq_true_iff, b2_eq s _ (by omega)] at this
    exact ⟨by omega, by omega⟩
  · intro h i hi
    have := h i hi
    rw [decide_eq_true_iff, b2_eq s _ (by omega)]
    omega
theorem okRules_same (s : ByteArray) (a mo ru : Nat) (h1 : 1 ≤ mo) (hs : a + 2 * ru ≤ s.size) : okRules s a mo ru = true ↔ ruleK s a mo ru = true := by
  unfold okRules
  rw [all_range, ruleK_iff]
  constructor
  · intro h i hi
    have := h i hi
    rw [Bool.and_eq_true, decide_eq_true_iff, decide_eq_true_iff] at this
    exact ⟨by omega, by omega, by omega⟩
  · intro h i hi
    have := h i hi
    rw [Bool.and_eq_true, decide_eq_true_iff, decide_eq_true_iff]
    omega
theorem okKinds_same (s : ByteArray) (b : Nat) (hs : b + 256 ≤ s.size) : okKinds s b 256 = true ↔ kindsK s b 256 = true := by
  unfold okKinds
  rw [all_range, kindsK_iff]
  have hk := kinds_same s b 256
  constructor
  · intro h i hi
    exact ⟨by omega, hk.2 (fun j hj => by have := h j hj; rwa [decide_eq_true_iff] at this) i hi⟩
  · intro h i hi
    rw [decide_eq_true_iff]
    exact hk.1 (fun j hj => (h j hj).2) i hi
theorem okNext_same (s : ByteArray) (c st ki : Nat) (h1 : 1 ≤ st) (hs : c + 2 * (st * ki) ≤ s.size) : okNext s c st (st * ki) = true ↔ nextK s c st ki st = true := by
  unfold okNext
  rw [all_range, nextK_iff]
  constructor
  · intro h i hi m hm
    have hj : ki * i + m < st * ki := by
      have : ki * (i + 1) ≤ ki * st := Nat.mul_le_mul_left _ hi
      rw [Nat.mul_add, Nat.mul_one, Nat.mul_comm ki st] at this
      omega
    have := h (ki * i + m) hj
    have e : c + 2 * (ki * i + m) = c + 2 * ki * i + 2 * m := by rw [Nat.mul_add, Nat.mul_assoc]; omega
    rw [e] at this
    rw [decide_eq_true_iff, b2_eq s _ (by omega)] at this
    exact ⟨by omega, by omega⟩
  · intro h j hj
    have hk : 0 < ki := Nat.pos_of_ne_zero fun e => by rw [e, Nat.mul_zero] at hj; omega
    have hi : j / ki < st := Nat.div_lt_of_lt_mul (by rw [Nat.mul_comm]; exact hj)
    have hm : j % ki < ki := Nat.mod_lt _ hk
    have := h (j / ki) hi (j % ki) hm
    have e : c + 2 * j = c + 2 * ki * (j / ki) + 2 * (j % ki) := by
      have := Nat.div_add_mod j ki
      rw [Nat.mul_assoc]
      omega
    rw [← e] at this
    rw [decide_eq_true_iff, b2_eq s _ (by omega)]
    omega
theorem okEnds_same (s : ByteArray) (d ru st : Nat) (hs : d + st ≤ s.size) : okEnds s d ru st = true ↔ endK s d ru st = true := by
  unfold okEnds
  rw [all_range, endK_iff]
  constructor
  · intro h i hi
    have := h i hi
    rw [decide_eq_true_iff] at this
    exact ⟨by omega, by omega⟩
  · intro h i hi
    have := h i hi
    rw [decide_eq_true_iff]
    omega
theorem bits_same (s : ByteArray) (p n : Nat) (hs : p + (n + 7) / 8 ≤ s.size) : (decide (n % 8 = 0) || decide (byt s (p + (n + 7) / 8 - 1) / 2 ^ (n % 8) = 0)) = true ↔ bitK s p n ((n + 7) / 8) = true := by
  rw [bitK_iff, Bool.or_eq_true, decide_eq_true_iff, decide_eq_true_iff]
  constructor
  · intro h i hi
    refine ⟨by omega, ?_⟩
    have hb := byt_lt s (p + i)
    unfold mostF
    split
    · rename_i h8
      have e1 : n - 8 * i = n % 8 := by omega
      have e2 : p + (n + 7) / 8 - 1 = p + i := by omega
      rcases h with h | h
      · omega
      · rw [e2] at h
        have hp : 0 < 2 ^ (n % 8) := Nat.two_pow_pos _
        have := Nat.lt_of_div_eq_zero hp h
        rw [e1]
        omega
    · omega
  · intro h
    by_cases h0 : n % 8 = 0
    · exact .inl h0
    · right
      have := (h ((n + 7) / 8 - 1) (by omega)).2
      have e2 : p + ((n + 7) / 8 - 1) = p + (n + 7) / 8 - 1 := by omega
      unfold mostF at this
      rw [e2, if_pos (by omega), show n - 8 * ((n + 7) / 8 - 1) = n % 8 by omega] at this
      have hp : 0 < 2 ^ (n % 8) := Nat.two_pow_pos _
      exact Nat.div_eq_of_lt (by omega)

theorem body_same (s : ByteArray) (mo ru st ki wa : Nat) (h1 : 1 ≤ mo) (h3 : 1 ≤ st) (hs : s.size = sizeOf_ mo ru st ki wa + 4) :
    bodyOk s mo ru st ki wa = true ↔ (toK s 13 st mo && ruleK s (13 + 2 * mo) mo ru && (kindsK s (13 + 2 * mo + 2 * ru) 256 && decide (metF s (13 + 2 * mo + 2 * ru) 256 = ki)) && nextK s (13 + 2 * mo + 2 * ru + 256) st ki st && endK s (13 + 2 * mo + 2 * ru + 256 + 2 * ki * st) ru st && bitK s (13 + 2 * mo + 2 * ru + 256 + 2 * ki * st + st) (st * wa) ((st * wa + 7) / 8)) = true := by
  have e1 : 2 * ki * st = 2 * st * ki := by rw [Nat.mul_assoc, Nat.mul_comm ki st, ← Nat.mul_assoc]
  have e2 : 2 * st * ki = 2 * (st * ki) := Nat.mul_assoc _ _ _
  have e3 : st * wa = wa * st := Nat.mul_comm _ _
  unfold sizeOf_ at hs
  have g1 := okModes_same s st mo h3 (by omega)
  have g2 := okRules_same s (13 + 2 * mo) mo ru h1 (by omega)
  have g3 := okKinds_same s (13 + 2 * mo + 2 * ru) (by omega)
  have g4 := okNext_same s (13 + 2 * mo + 2 * ru + 256) st ki h3 (by omega)
  have g5 := okEnds_same s (13 + 2 * mo + 2 * ru + 256 + 2 * st * ki) ru st (by omega)
  have g6 := bits_same s (13 + 2 * mo + 2 * ru + 256 + 2 * st * ki + st) (wa * st) (by omega)
  rw [e1, e3]
  unfold bodyOk
  simp only [Bool.and_eq_true]
  rw [g1, g2, g3, g4, g5, g6, decide_eq_true_iff, decide_eq_true_iff]
  constructor
  · rintro ⟨⟨⟨⟨⟨⟨a1, a2⟩, a3⟩, a4⟩, a5⟩, a6⟩, a7⟩
    have hm := met_same s (13 + 2 * mo + 2 * ru) 256 fun i hi => ((kindsK_iff _ _ _).1 a3 i hi).2
    exact ⟨⟨⟨⟨⟨a1, a2⟩, a3, by rw [hm]; exact a4⟩, a5⟩, a6⟩, a7⟩
  · rintro ⟨⟨⟨⟨⟨a1, a2⟩, a3, a4⟩, a5⟩, a6⟩, a7⟩
    have hm := met_same s (13 + 2 * mo + 2 * ru) 256 fun i hi => ((kindsK_iff _ _ _).1 a3 i hi).2
    exact ⟨⟨⟨⟨⟨⟨a1, a2⟩, a3⟩, by rw [← hm]; exact a4⟩, a5⟩, a6⟩, a7⟩
end Go.Proofs.Yteflpladkmihdaa
