/- Which bytes are tables; the tables that bytes are. -/
import Derived.Test.YteflpladkmihdaaLoPToLoQ
import Derived.Test.YteflpladkmihdaaRunWToRefB
set_option linter.unusedVariables false
set_option linter.unusedSimpArgs false
namespace Go.Proofs.Yteflpladkmihdaa
open Go.RowKit

theorem headOk_iff (s : ByteArray) : headOk s = true ↔ 12 < s.size ∧ byt s 0 = 76 ∧ byt s 1 = 88 ∧ byt s 2 ≤ 1 ∧ (1 ≤ byt s 4 ∧ byt s 4 ≤ 64) ∧ (1 ≤ byt2 s 5 ∧ byt2 s 5 ≤ 3) ∧ (1 ≤ byt2 s 7 ∧ byt2 s 7 ≤ 8) ∧ (1 ≤ byt2 s 9 ∧ byt2 s 9 ≤ 200) ∧ (1 ≤ byt2 s 11 ∧ byt2 s 11 ≤ 256) ∧ hWays s ≤ 3000 ∧ (hStream s = 1 ∨ hAhead s = 0) := by
  unfold headOk hK8 hK7 hK6 hK5 hK4 hK3 hK2 hK1 hK0
  simp only [Bool.and_eq_true, Bool.or_eq_true, decide_eq_true_iff, inB_iff]
  have := byt_lt s 3
  constructor
  · intro h
    refine ⟨by omega, by omega, by omega, by omega, by omega, by omega, by omega, by omega, by omega, by omega, ?_⟩
    exact h.2
  · rintro ⟨h1, h2, h3, h4, h5, h6, h7, h8, h9, h10, h11⟩
    refine ⟨⟨⟨⟨?_, ?_⟩, h9⟩, h10⟩, h11⟩
    · refine ⟨⟨⟨⟨⟨⟨⟨⟨⟨⟨⟨⟨⟨⟨⟨⟨trivial, by omega⟩, by omega⟩, by omega⟩, by omega⟩, by omega⟩, by omega⟩, by omega⟩, by omega⟩, by omega⟩, by omega⟩, by omega⟩, by omega⟩, by omega⟩, by omega⟩, by omega⟩, by omega⟩
    · omega

theorem LX_iff (s : ByteArray) (h : 2 ≤ s.size) : ((s.extract 0 2).toList == [76, 88]) = true ↔ byt s 0 = 76 ∧ byt s 1 = 88 := by
  have h0 : 0 < s.data.toList.length := by simp; omega
  have h1 : 0 + 1 < s.data.toList.length := by simp; omega
  have e : s.data.toList.drop 0 = s.data.toList[0] :: s.data.toList[0 + 1] :: s.data.toList.drop (0 + 2) := by
    rw [List.drop_eq_getElem_cons h0, List.drop_eq_getElem_cons h1]
  have e2 : (s.extract 0 2).data.toList = (s.data.toList.drop 0).take 2 := by simp
  have b0 := byt_eq s 0 (by omega)
  have b1 := byt_eq s 1 (by omega)
  have f0 : s.data.toList[0].toNat = byt s 0 := b0
  have f1 : s.data.toList[0 + 1].toNat = byt s 1 := b1
  rw [ByteArray.toList_eq, e2, e]
  show ([s.data.toList[0], s.data.toList[0 + 1]] == [76, 88]) = true ↔ _
  rw [beq_iff_eq, ← f0, ← f1]
  constructor
  · intro h
    injection h with h2 h3
    injection h3 with h3 _
    rw [h2, h3]
    exact ⟨rfl, rfl⟩
  · rintro ⟨h2, h3⟩
    have g2 : s.data.toList[0] = 76 := UInt8.toNat_inj.1 h2
    have g3 : s.data.toList[0 + 1] = 88 := UInt8.toNat_inj.1 h3
    rw [g2, g3]

/-- The places of the parts. -/
def q2 (s : ByteArray) : Nat := 13 + 2 * hModes s
def q3 (s : ByteArray) : Nat := q2 s + 2 * hRules s
def q4 (s : ByteArray) : Nat := q3 s + 256
def q5 (s : ByteArray) : Nat := q4 s + 2 * hKinds s * hStates s
def q6 (s : ByteArray) : Nat := q5 s + hStates s
def nbit (s : ByteArray) : Nat := hStates s * hWays s
/-- All behind the head is right; the length is right; the sum is right. -/
def restK (s : ByteArray) : Bool := toK s 13 (hStates s) (hModes s) && ruleK s (q2 s) (hModes s) (hRules s) && (kindsK s (q3 s) 256 && decide (metF s (q3 s) 256 = hKinds s)) && nextK s (q4 s) (hStates s) (hKinds s) (hStates s) && endK s (q5 s) (hRules s) (hStates s) && bitK s (q6 s) (nbit s) ((nbit s + 7) / 8)
def fitsB (s : ByteArray) : Bool := decide (s.size = sizeOf_ (hModes s) (hRules s) (hStates s) (hKinds s) (hWays s) + 4)
def sumOk (s : ByteArray) : Bool := sumB (s.extract 0 (s.size - 4)) == bigB (s.extract (s.size - 4) s.size)

theorem valid_same (s : ByteArray) : validB s = (headOk s && fitsB s && sumOk s && restK s) := by
  rw [Bool.eq_iff_iff]
  simp only [Bool.and_eq_true]
  unfold validB
  simp only [Bool.and_eq_true, Bool.or_eq_true, decide_eq_true_iff]
  constructor
  · rintro ⟨⟨⟨h17, hLX⟩, hsum⟩, ⟨⟨⟨hh, hw⟩, hsa⟩, hsz⟩, hb⟩
    rw [LX_iff s (by omega)] at hLX
    unfold headB at hh
    rw [decide_eq_true_iff, b2_eq s 5 (by omega), b2_eq s 7 (by omega), b2_eq s 9 (by omega), b2_eq s 11 (by omega)] at hh
    rw [b2_eq s 11 (by omega)] at hw
    rw [b2_eq s 5 (by omega), b2_eq s 7 (by omega), b2_eq s 9 (by omega), b2_eq s 11 (by omega)] at hsz hb
    have m1 : hModes s = byt2 s 5 := within_yes (by omega)
    have m2 : hRules s = byt2 s 7 := within_yes (by omega)
    have m3 : hStates s = byt2 s 9 := within_yes (by omega)
    have m4 : hKinds s = byt2 s 11 := within_yes (by omega)
    have m5 : hAhead s = byt s 3 := within_yes (by have := byt_lt s 3; omega)
    have m6 : hStream s = byt s 2 := within_yes (by omega)
    have m7 : hWays s = waysTo (byt2 s 11) (byt s 3) := by unfold hWays; rw [m4, m5]
    rw [← m7] at hw hsz hb
    rw [← m1, ← m2, ← m3, ← m4] at hsz hb
    have hfit : s.size = sizeOf_ (hModes s) (hRules s) (hStates s) (hKinds s) (hWays s) + 4 := by omega
    refine ⟨⟨⟨(headOk_iff s).2 ⟨by omega, hLX.1, hLX.2, by omega, by omega, by omega, by omega, by omega, by omega, hw, ?_⟩, decide_eq_true hfit⟩, hsum⟩, (body_same s _ _ _ _ _ (by omega) (by omega) hfit).1 hb⟩
    rw [m6, m5]
    omega
  · rintro ⟨⟨⟨hh, hf⟩, hsum⟩, hr⟩
    rw [headOk_iff] at hh
    obtain ⟨h1, h2, h3, h4, h5, h6, h7, h8, h9, h10, h11⟩ := hh
    have m1 : hModes s = byt2 s 5 := within_yes (by omega)
    have m2 : hRules s = byt2 s 7 := within_yes (by omega)
    have m3 : hStates s = byt2 s 9 := within_yes (by omega)
    have m4 : hKinds s = byt2 s 11 := within_yes (by omega)
    have m5 : hAhead s = byt s 3 := within_yes (by have := byt_lt s 3; omega)
    have m6 : hStream s = byt s 2 := within_yes (by omega)
    have m7 : hWays s = waysTo (byt2 s 11) (byt s 3) := by unfold hWays; rw [m4, m5]
    have hfit : s.size = sizeOf_ (hModes s) (hRules s) (hStates s) (hKinds s) (hWays s) + 4 := of_decide_eq_true hf
    have h17 : 17 ≤ s.size := by unfold sizeOf_ at hfit; omega
    have hb := (body_same s _ _ _ _ _ (by omega) (by omega) hfit).2 hr
    rw [m7] at hb hfit h10
    rw [m1, m2, m3, m4] at hb hfit
    rw [b2_eq s 5 (by omega), b2_eq s 7 (by omega), b2_eq s 9 (by omega), b2_eq s 11 (by omega)]
    refine ⟨⟨⟨h17, (LX_iff s (by omega)).2 ⟨h2, h3⟩⟩, hsum⟩, ⟨⟨⟨?_, h10⟩, ?_⟩, by omega⟩, hb⟩
    · unfold headB
      rw [decide_eq_true_iff]
      omega
    · rw [m6, m5] at h11
      omega

/-- The tables that bytes are. -/
def tbOf (s : ByteArray) : Tb where
  stream := decide (hStream s = 1)
  ahead := hAhead s
  hold := hHold s
  count := hKinds s
  rows := hWays s
  nst := hStates s
  nmode := hModes s
  nrule := hRules s
  nlong := (nbit s + 7) / 8
  start := toF s 13 (hStates s)
  act := actF s (q2 s)
  push := pushF s (q2 s) (hModes s)
  kind := kindF s (q3 s)
  next := fun i => toF s (q4 s + 2 * hKinds s * i) (hStates s)
  ends := fun i => (endF s (q5 s) (hRules s) i : Int) - 1
  live := fun _ => false
  long := bitF s (q6 s) (nbit s)

theorem ways_pow (ki : Nat) (h : 1 ≤ ki) (k : Nat) (hw : waysTo ki k ≤ 3000) : 2 ^ k ≤ waysTo ki k := by
  induction k with
  | zero => exact Nat.le_refl _
  | succ k ih =>
    rw [waysTo] at hw ⊢
    split at hw
    · rename_i h3
      rw [if_pos h3, Nat.pow_succ]
      exact Nat.mul_le_mul (ih h3) (by omega)
    · omega
theorem ways_pos (ki k : Nat) : 1 ≤ waysTo ki k := by
  induction k with
  | zero => exact Nat.le_refl _
  | succ k ih =>
    rw [waysTo]
    split
    · exact Nat.mul_le_mul ih (by omega : 1 ≤ ki + 1)
    · exact ih
theorem met_step (s : ByteArray) (p i : Nat) : metF s p i ≤ metF s p (i + 1) ∧ kindF s p i < metF s p (i + 1) := by
  have h := within_le (byt s (p + i)) 0 (metF s p i) (Nat.zero_le _)
  simp only [metF, kindF]
  split <;> omega
theorem met_mono (s : ByteArray) (p i j : Nat) (h : i ≤ j) : metF s p i ≤ metF s p j := by
  induction j with
  | zero => rw [show i = 0 by omega]; exact Nat.le_refl _
  | succ j ih =>
    by_cases e : i = j + 1
    · rw [e]; exact Nat.le_refl _
    · exact Nat.le_trans (ih (by omega)) (met_step s p j).1

theorem tbOf_ok (s : ByteArray) (hh : headOk s = true) (hm : metF s (q3 s) 256 = hKinds s) : (tbOf s).Ok := by
  have h := (headOk_iff s).1 hh
  have hw : hWays s ≤ 3000 := h.2.2.2.2.2.2.2.2.2.1
  have k1 : 1 ≤ hKinds s := le_within _ _ _
  have k2 : hKinds s ≤ 256 := within_le _ _ _ (by decide)
  have s1 : 1 ≤ hStates s := le_within _ _ _
  have s2 : hStates s ≤ 200 := within_le _ _ _ (by decide)
  have m1 : 1 ≤ hModes s := le_within _ _ _
  have hp := ways_pow (hKinds s) k1 (hAhead s) hw
  refine ⟨?_, le_within _ _ _, within_le _ _ _ (by decide), k2, ways_pos _ _, hw, s2, m1, ?_, fun i _ => ?_, fun i _ => ?_, fun c hc => ?_, fun i k _ _ => ?_, fun i _ => ?_, fun i _ => ?_⟩
  · show hAhead s < 64
    rcases Nat.lt_or_ge (hAhead s) 64 with h | h
    · exact h
    · have : 2 ^ 64 ≤ 2 ^ hAhead s := Nat.pow_le_pow_right (by decide) h
      have e : hWays s = waysTo (hKinds s) (hAhead s) := rfl
      omega
  · show hWays s * hStates s ≤ 8 * ((nbit s + 7) / 8)
    unfold nbit
    rw [Nat.mul_comm]
    omega
  · have := within_le (byt2 s (13 + 2 * i)) 0 (hStates s - 1) (Nat.zero_le _)
    show toF s 13 (hStates s) i < hStates s
    unfold toF
    omega
  · have := within_le (byt s (q2 s + 2 * i + 1)) 0 (hModes s - 1) (Nat.zero_le _)
    show pushF s (q2 s) (hModes s) i < hModes s
    unfold pushF
    omega
  · have h1 := (met_step s (q3 s) c).2
    have h2 := met_mono s (q3 s) (c + 1) 256 (by omega)
    show kindF s (q3 s) c < hKinds s
    omega
  · have := within_le (byt2 s (q4 s + 2 * hKinds s * i + 2 * k)) 0 (hStates s - 1) (Nat.zero_le _)
    show toF s (q4 s + 2 * hKinds s * i) (hStates s) k < hStates s
    unfold toF
    omega
  · have := within_le (byt s (q5 s + i)) 0 (hRules s) (Nat.zero_le _)
    show -1 ≤ (endF s (q5 s) (hRules s) i : Int) - 1 ∧ (endF s (q5 s) (hRules s) i : Int) - 1 < (hRules s : Int)
    unfold endF
    omega
  · have h1 := within_le (byt s (q6 s + i)) 0 (mostF (nbit s) i) (Nat.zero_le _)
    have h2 := mostF_le (nbit s) i
    show bitF s (q6 s) (nbit s) i < 256
    unfold bitF
    omega
theorem tbOf_act (s : ByteArray) (i : Nat) : (tbOf s).act i < 4 := by
  have := within_le (byt s (q2 s + 2 * i)) 0 3 (Nat.zero_le _)
  show actF s (q2 s) i < 4
  unfold actF
  omega
end Go.Proofs.Yteflpladkmihdaa

/- The CRC-32 by shifting to the right is the one by shifting to the left. -/
namespace Go.Proofs.Yteflpladkmihdaa
open Go.RowKit

def crcStep (q : Nat) : Nat := if q % 2 = 1 then q / 2 ^^^ 3988292384 else q / 2
def crcBits (q : Nat) : Nat → Nat
  | 0 => q
  | j + 1 => crcStep (crcBits q j)
def crcTo (l : List UInt8) : Nat := l.foldl (fun q c => crcBits (q ^^^ c.toNat) 8) 4294967295
theorem crcTo_snoc (l : List UInt8) (c : UInt8) : crcTo (l ++ [c]) = crcBits (crcTo l ^^^ c.toNat) 8 := by simp [crcTo]
theorem crcStep_lt (q : Nat) (h : q < 4294967296) : crcStep q < 4294967296 := by
  unfold crcStep
  split
  · exact Nat.xor_lt_two_pow (n := 32) (by omega) (by omega)
  · omega
theorem crcBits_lt (q : Nat) (h : q < 4294967296) (j : Nat) : crcBits q j < 4294967296 := by
  induction j with
  | zero => exact h
  | succ j ih => exact crcStep_lt _ ih

theorem testBit_dec (x i : Nat) : x.testBit i = decide (x / 2 ^ i % 2 = 1) := Nat.testBit_eq_decide_div_mod_eq
theorem testBit_half (x i : Nat) : (x / 2).testBit i = x.testBit (i + 1) := (Nat.testBit_succ x i).symm
theorem turnedN_succ (v n : Nat) : turnedN v (n + 1) = 2 * turnedN v n + v / 2 ^ n % 2 := by rw [turnedN, Nat.shiftRight_eq_div_pow]
theorem turned_bit (v n i : Nat) : (turnedN v n).testBit i = (decide (i < n) && v.testBit (n - 1 - i)) := by
  induction n generalizing i with
  | zero => simp [turnedN]
  | succ n ih =>
    cases i with
    | zero =>
      have h2 : v / 2 ^ n % 2 < 2 := Nat.mod_lt _ (by decide)
      rw [testBit_dec, testBit_dec, turnedN_succ, Nat.pow_zero, Nat.div_one, decide_eq_true (Nat.succ_pos n), Bool.true_and, show n + 1 - 1 - 0 = n by omega]
      generalize v / 2 ^ n % 2 = x at *
      congr 1
      apply propext
      omega
    | succ i =>
      rw [← testBit_half]
      have h : turnedN v (n + 1) / 2 = turnedN v n := by
        rw [turnedN_succ]
        have : v / 2 ^ n % 2 < 2 := Nat.mod_lt _ (by decide)
        omega
      rw [h, ih]
      by_cases hi : i < n
      · rw [decide_eq_true hi, decide_eq_true (by omega : i + 1 < n + 1), show n + 1 - 1 - (i + 1) = n - 1 - i by omega]
      · rw [decide_eq_false hi, decide_eq_false (by omega : ¬ i + 1 < n + 1)]
        rfl
theorem double_bit (r i : Nat) : (r * 2).testBit (i + 1) = r.testBit i := by rw [← testBit_half]; congr 1; omega
theorem T_shift (r : Nat) : turnedN (r * 2 % 4294967296) 32 = turnedN r 32 / 2 := by
  apply Nat.eq_of_testBit_eq
  intro i
  rw [testBit_half, turned_bit, turned_bit, show (4294967296 : Nat) = 2 ^ 32 by decide, Nat.testBit_mod_two_pow]
  by_cases h : i + 1 < 32
  · rw [show 32 - 1 - i = (32 - 1 - (i + 1)) + 1 by omega, double_bit]
    simp [h, show i < 32 by omega]
    omega
  · by_cases h2 : i = 31
    · subst h2
      have : (r * 2).testBit 0 = false := by rw [testBit_dec]; simp
      simp [this]
    · simp [h, show ¬ i < 32 by omega]
theorem T_xor (a b : Nat) : turnedN (a ^^^ b) 32 = turnedN a 32 ^^^ turnedN b 32 := by
  apply Nat.eq_of_testBit_eq
  intro i
  rw [Nat.testBit_xor, turned_bit, turned_bit, turned_bit, Nat.testBit_xor]
  by_cases h : i < 32 <;> simp [h]
theorem T_poly : turnedN 79764919 32 = 3988292384 := by decide
theorem xor_half (a b : Nat) : (a ^^^ b) / 2 = a / 2 ^^^ b / 2 := by
  apply Nat.eq_of_testBit_eq
  intro i
  rw [testBit_half, Nat.testBit_xor, Nat.testBit_xor, testBit_half, testBit_half]
theorem T_low (r : Nat) : (turnedN r 32).testBit 0 = r.testBit 31 := by rw [turned_bit]; simp
theorem turned8_bit (c j : Nat) (h : j < 8) : (turnedN c 8).testBit (7 - j) = c.testBit j := by
  rw [turned_bit, decide_eq_true (by omega), show 8 - 1 - (7 - j) = j by omega]; rfl

theorem crc_bits (r c : Nat) (j : Nat) (hj : j ≤ 8) : crcBits (turnedN r 32 ^^^ c) j = turnedN (sumBits r (turnedN c 8) j) 32 ^^^ c / 2 ^ j := by
  induction j with
  | zero => simp [crcBits, sumBits]
  | succ j ih =>
    rw [crcBits, ih (by omega), sumBits]
    generalize sumBits r (turnedN c 8) j = q
    have e1 : (turnedN q 32 ^^^ c / 2 ^ j) / 2 = turnedN (q * 2 % 4294967296) 32 ^^^ c / 2 ^ (j + 1) := by
      rw [xor_half, T_shift, Nat.div_div_eq_div_mul, Nat.pow_succ]
    have e2 : (turnedN q 32 ^^^ c / 2 ^ j).testBit 0 = (q.testBit 31 ^^ c.testBit j) := by
      rw [Nat.testBit_xor, T_low]
      congr 1
      rw [testBit_dec, testBit_dec]
      simp
    have e3 := turned8_bit c j (by omega)
    have e4 : (turnedN q 32 ^^^ c / 2 ^ j) % 2 = 1 ↔ ¬ (q / 2147483648 % 2 = turnedN c 8 / 2 ^ (7 - j) % 2) := by
      rw [show ((turnedN q 32 ^^^ c / 2 ^ j) % 2 = 1) ↔ (turnedN q 32 ^^^ c / 2 ^ j).testBit 0 = true by rw [testBit_dec]; simp, e2, ← e3, testBit_dec, testBit_dec]
      have h1 : q / 2 ^ 31 % 2 < 2 := Nat.mod_lt _ (by decide)
      have h2 : turnedN c 8 / 2 ^ (7 - j) % 2 < 2 := Nat.mod_lt _ (by decide)
      rw [show (2147483648 : Nat) = 2 ^ 31 by decide]
      generalize q / 2 ^ 31 % 2 = x at *
      generalize turnedN c 8 / 2 ^ (7 - j) % 2 = y at *
      have hx : x = 0 ∨ x = 1 := by omega
      have hy : y = 0 ∨ y = 1 := by omega
      rcases hx with rfl | rfl <;> rcases hy with rfl | rfl <;> simp
    unfold crcStep sumStep
    by_cases h : q / 2147483648 % 2 = turnedN c 8 / 2 ^ (7 - j) % 2
    · rw [if_pos h, if_neg (fun x => (e4.1 x) h), e1]
    · rw [if_neg h, if_pos (e4.2 h), e1, T_xor, T_poly, Nat.xor_assoc, Nat.xor_comm (c / 2 ^ (j + 1)), ← Nat.xor_assoc]

theorem crcTo_eq (l : List UInt8) : crcTo l = turnedN (sumTo l) 32 := by
  have key : ∀ (l : List UInt8) (r : Nat), l.foldl (fun q c => crcBits (q ^^^ c.toNat) 8) (turnedN r 32) = turnedN (l.foldl (fun r c => sumBits r (turnedN c.toNat 8) 8) r) 32 := by
    intro l
    induction l with
    | nil => intro r; rfl
    | cons c l ih =>
      intro r
      rw [List.foldl_cons, List.foldl_cons, crc_bits r c.toNat 8 (by decide), ← ih]
      have : c.toNat / 2 ^ 8 = 0 := by have := c.toNat_lt; omega
      rw [this, Nat.xor_zero]
  have h := key l 4294967295
  rw [show turnedN 4294967295 32 = 4294967295 by decide] at h
  exact h
theorem crc_eq (l : List UInt8) : 4294967295 - crcTo l = sumL l := by rw [crcTo_eq]; rfl
theorem crcTo_lt (l : List UInt8) : crcTo l < 4294967296 := by rw [crcTo_eq]; exact turnedN_lt32 _ _ (by decide)
end Go.Proofs.Yteflpladkmihdaa
