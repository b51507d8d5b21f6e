/- The sum as the program makes it. -/
import Derived.Test.YteflpladkmihdaaLoRToSmA
import Derived.Test.YteflpladkmihdaaRdAToRdB
import Derived.Deep.RegionWith
import Derived.Deep.LoopGhost
import Derived.StillTactics
import Derived.Laws.IdiomStrings
set_option linter.unusedVariables false
set_option linter.unusedSimpArgs false
namespace Go.Proofs.Yteflpladkmihdaa
open Go.RowKit

theorem u32_wrap_in (n : Int) (h0 : 0 ≤ n) (h1 : n < 4294967296) : IntKind.u32.wrap n = n := by rw [IntKind.wrap_u32]; omega
theorem u32_and_nat (a b : Nat) (ha : a < 4294967296) (hb : b < 4294967296) : bits .and .u32 (a : Int) (b : Int) = ((a &&& b : Nat) : Int) :=
  (bits_nat .u32 32 (by decide) (fun n h0 h1 => u32_wrap_in n h0 (by simpa using h1)) a b (by simpa using ha) (by simpa using hb)).1
theorem u32_xor_nat (a b : Nat) (ha : a < 4294967296) (hb : b < 4294967296) : bits .xor .u32 (a : Int) (b : Int) = ((a ^^^ b : Nat) : Int) := by
  have hx : a ^^^ b < 2 ^ 32 := Nat.xor_lt_two_pow (by omega) (by omega)
  have h1 : (BitVec.ofInt 32 (a : Int)).toNat = a := by
    rw [BitVec.ofInt_natCast, BitVec.toNat_ofNat]; exact Nat.mod_eq_of_lt (by omega)
  have h2 : (BitVec.ofInt 32 (b : Int)).toNat = b := by
    rw [BitVec.ofInt_natCast, BitVec.toNat_ofNat]; exact Nat.mod_eq_of_lt (by omega)
  show IntKind.u32.wrap ((BitVec.ofInt 32 (a : Int) ^^^ BitVec.ofInt 32 (b : Int)).toNat : Int) = _
  rw [BitVec.toNat_xor, h1, h2]
  exact u32_wrap_in _ (by omega) (by omega)
theorem u32_and_one (a : Nat) (ha : a < 4294967296) : bits .and .u32 (a : Int) 1 = ((a % 2 : Nat) : Int) := by
  have h := u32_and_nat a 1 ha (by decide)
  rw [show ((1 : Nat) : Int) = 1 from rfl] at h
  rw [h, Nat.and_one_is_mod]

set_option maxHeartbeats 400000 in
theorem lowest_calls (q : Nat) (w : World) (hq : q < 4294967296) :
    Calls Try.prog 43 #[.int .u32 q] w fun e w' => e = .returned (.int .u32 (crcStep q : Nat)) ∧ w' = w := by
  have h1 := u32_and_one q hq
  by_cases h : q % 2 = 1
  · have i1 : (((q % 2 : Nat) : Int) == 1) = true := by rw [h]; rfl
    have HS : Hid (crcStep q = q / 2 ^^^ 3988292384) := if_pos h
    have h2 := u32_xor_nat (q / 2) 3988292384 (by omega) (by decide)
    rw [show ((3988292384 : Nat) : Int) = 3988292384 from rfl, show ((q / 2 : Nat) : Int) = (q : Int) / 2 by omega] at h2
    clear h
    go_enter Try.func43, Try.ntmps43
    go_wp2
    go_ret
    exact ⟨ret_int (by rw [HS.out]), rfl⟩
  · have i1 : (((q % 2 : Nat) : Int) == 1) = false := by rw [beq_eq_false_iff_ne]; omega
    have HS : Hid (crcStep q = q / 2) := if_neg h
    clear h
    go_enter Try.func43, Try.ntmps43
    go_wp2
    go_ret
    exact ⟨ret_int (by rw [HS.out]; omega), rfl⟩

theorem not_sub (q : Nat) (h : q < 4294967296) : 4294967295 ^^^ q = 4294967295 - q := by
  apply Nat.eq_of_testBit_eq
  intro i
  have h1 := Nat.testBit_two_pow_sub_succ (n := 32) (x := q) (by omega) i
  have h2 := Nat.testBit_two_pow_sub_one 32 i
  rw [show (2 : Nat) ^ 32 - (q + 1) = 4294967295 - q by omega] at h1
  rw [show (2 : Nat) ^ 32 - 1 = 4294967295 by decide] at h2
  rw [h1, Nat.testBit_xor, h2]
  by_cases hi : i < 32
  · simp [hi]
  · have : q.testBit i = false := Nat.testBit_lt_two_pow (Nat.lt_of_lt_of_le h (Nat.pow_le_pow_right (n := 2) (by decide) (show 32 ≤ i by omega)))
    simp [hi, this]
/-- The four bytes of a number, the high one first. -/
def four (n : Nat) : List UInt8 := [UInt8.ofNat (n / 16777216 % 256), UInt8.ofNat (n / 65536 % 256), UInt8.ofNat (n / 256 % 256), UInt8.ofNat (n % 256)]
theorem four_big (n : Nat) (h : n < 4294967296) : bigL (four n) = n := by
  simp [bigL, four]
  omega
theorem four_conv (w : World) (n : Nat) :
    (convert 70 9 (.slice (some ⟨w.heap.size, 0, none⟩) 4 4)).run Try.prog (w.alloc (.cells #[.int .u8 ((n : Int) / 16777216 % 256), .int .u8 ((n : Int) / 65536 % 256), .int .u8 ((n : Int) / 256 % 256), .int .u8 ((n : Int) % 256)] 5)) =
      .ok (.string ⟨(four n).toArray⟩) (w.alloc (.cells #[.int .u8 ((n : Int) / 16777216 % 256), .int .u8 ((n : Int) / 65536 % 256), .int .u8 ((n : Int) / 256 % 256), .int .u8 ((n : Int) % 256)] 5)) := by
  refine run_convert_bytes_back _ 70 9 5 ⟨w.heap.size, 0, none⟩ 4 (four n) Try.underlying70 Try.underlying5 Try.underlying9 ?_
  intro j hj
  have hn := heap_alloc_new w (.cells #[.int .u8 ((n : Int) / 16777216 % 256), .int .u8 ((n : Int) / 65536 % 256), .int .u8 ((n : Int) / 256 % 256), .int .u8 ((n : Int) % 256)] 5)
  generalize w.alloc (.cells #[.int .u8 ((n : Int) / 16777216 % 256), .int .u8 ((n : Int) / 65536 % 256), .int .u8 ((n : Int) / 256 % 256), .int .u8 ((n : Int) % 256)] 5) = w1 at hn ⊢
  have : j = 0 ∨ j = 1 ∨ j = 2 ∨ j = 3 := by simp [four] at hj; omega
  rcases this with rfl | rfl | rfl | rfl
  · have e : (four n)[0].toNat = n / 16777216 % 256 := by simp [four]
    rw [e]
    simp [Addr.add, World.cell?, hn]
  · have e : (four n)[1].toNat = n / 65536 % 256 := by simp [four]
    rw [e]
    simp [Addr.add, World.cell?, hn]
  · have e : (four n)[2].toNat = n / 256 % 256 := by simp [four]
    rw [e]
    simp [Addr.add, World.cell?, hn]
  · have e : (four n)[3].toNat = n % 256 := by simp [four]
    rw [e]
    simp [Addr.add, World.cell?, hn]

set_option maxHeartbeats 1000000 in
set_option maxRecDepth 100000 in
theorem sumOf_calls (s : ByteArray) (w : World) (hs : s.size ≤ 1048576) :
    Calls Try.prog 28 #[.string s] w fun e w' => e = .returned (.string ⟨(four (4294967295 - crcTo s.data.toList)).toArray⟩) ∧ Below w.heap.size w w' := by
  go_enter Try.func28, Try.ntmps28
  go_wp2
  go_loop [3, 4] (fun r i => ∃ k : Nat, k ≤ s.size ∧ i = .int .i64 k ∧ r = .int .u32 (crcTo (s.data.toList.take k) : Nat)) (fun _ i => s.size - (intOf i).toNat)
  case atStart => exact ⟨0, Nat.zero_le _, rfl, rfl⟩
  case round =>
    obtain ⟨k, hk, rfl, rfl⟩ := hrel
    have hd := crcTo_lt (s.data.toList.take k)
    by_cases hlt : k < s.size
    · have HS : Hid (crcTo (s.data.toList.take (k + 1)) = crcBits (crcTo (s.data.toList.take k) ^^^ s[k].toNat) 8) := by
        rw [take_snoc s k hlt]; exact crcTo_snoc _ _
      have hb : s[k].toNat < 256 := s[k].toNat_lt
      have hx := u32_xor_nat (crcTo (s.data.toList.take k)) s[k].toNat hd (by omega)
      have hq : crcTo (s.data.toList.take k) ^^^ s[k].toNat < 4294967296 := Nat.xor_lt_two_pow (n := 32) (by omega) (by omega)
      go_wp2_with fail
      generalize crcTo (s.data.toList.take k) ^^^ s[k].toNat = q at *
      go_loop [3, 5] (fun r i => ∃ j : Nat, j ≤ 8 ∧ i = .int .i64 (j : Int) ∧ r = .int .u32 (crcBits q j : Nat)) (fun _ i => 8 - (intOf i).toNat)
      case atStart => exact ⟨0, by omega, rfl, rfl⟩
      case round =>
        obtain ⟨j, hj, rfl, rfl⟩ := hrel
        have hd2 := crcBits_lt q hq j
        by_cases hlt2 : j < 8
        · have HJ : Hid (crcBits q (j + 1) = crcStep (crcBits q j)) := rfl
          go_wp2_with fail
          refine (lowest_calls _ _ hd2).mono ?_
          rintro e w' ⟨rfl, rfl⟩
          go_wp2_with fail
          refine ⟨⟨j + 1, by omega, by go_num, ?_⟩, by simp [intOf]; omega⟩
          rw [HJ.out]
        · have hj8 : j = 8 := by omega
          have HS' := HS.out
          go_wp2_with fail
          refine ⟨⟨k + 1, by omega, by go_num, ?_⟩, by simp [intOf]; omega⟩
          rw [HS', ← hj8]
    · have HT : Hid (s.data.toList.take k = s.data.toList) := List.take_of_length_le (by simp; omega)
      rw [HT.out] at hd ⊢
      have HN : Hid (∃ n, n = 4294967295 - crcTo s.data.toList) := ⟨_, rfl⟩
      obtain ⟨n, hn0⟩ := HN.out
      have HN : Hid (n = 4294967295 - crcTo s.data.toList) := hn0
      generalize crcTo s.data.toList = q at hd hn0 ⊢
      have hm := u32_xor_nat 4294967295 q (by decide) hd
      rw [not_sub q hd, show ((4294967295 : Nat) : Int) = IntKind.u32.max from rfl] at hm
      rw [← hn0] at hm
      have hc := four_conv w n
      have hn : n < 4294967296 := by omega
      clear hn0
      go_wp2_with fail
      go_ret
      exact ⟨by rw [← HN.out]; rfl, (Below.refl _ _).alloc (Nat.le_refl _) _⟩
end Go.Proofs.Yteflpladkmihdaa

/- A text ends with its sum. -/
namespace Go.Proofs.Yteflpladkmihdaa
open Go.RowKit

theorem big_four (l : List UInt8) (h : l.length = 4) : four (bigL l) = l := by
  match l, h with
  | [a, b, c, d], _ =>
    have ha := a.toNat_lt
    have hb := b.toNat_lt
    have hc := c.toNat_lt
    have hd := d.toNat_lt
    have e : bigL [a, b, c, d] = 16777216 * a.toNat + 65536 * b.toNat + 256 * c.toNat + d.toNat := by
      simp [bigL]
      omega
    rw [e]
    unfold four
    have e1 : (16777216 * a.toNat + 65536 * b.toNat + 256 * c.toNat + d.toNat) / 16777216 % 256 = a.toNat := by omega
    have e2 : (16777216 * a.toNat + 65536 * b.toNat + 256 * c.toNat + d.toNat) / 65536 % 256 = b.toNat := by omega
    have e3 : (16777216 * a.toNat + 65536 * b.toNat + 256 * c.toNat + d.toNat) / 256 % 256 = c.toNat := by omega
    have e4 : (16777216 * a.toNat + 65536 * b.toNat + 256 * c.toNat + d.toNat) % 256 = d.toNat := by omega
    rw [e1, e2, e3, e4]
    simp
theorem four_beq (l : List UInt8) (n : Nat) (h : l.length = 4) (hn : n < 4294967296) : (l == four n) = (n == bigL l) := by
  rw [Bool.eq_iff_iff]
  simp only [beq_iff_eq]
  constructor
  · rintro rfl
    exact (four_big n hn).symm
  · rintro rfl
    exact (big_four l h).symm
theorem sum_same (s : ByteArray) (h4 : 4 ≤ s.size) : ((s.extract (s.size - 4) s.size).toList == four (4294967295 - crcTo (List.take (s.size - 4) s.data.toList))) = (sumB (s.extract 0 (s.size - 4)) == bigB (s.extract (s.size - 4) s.size)) := by
  rw [ByteArray.toList_eq, four_beq _ _ (by simp; omega) (by omega), crc_eq]
  have e : (s.extract 0 (s.size - 4)).data.toList = List.take (s.size - 4) s.data.toList := by simp
  unfold sumB bigB
  rw [e]

set_option maxHeartbeats 1000000 in
set_option maxRecDepth 100000 in
theorem hasSum_calls (s : ByteArray) (w : World) (h4 : 4 ≤ s.size) (hs : s.size ≤ 1048576) :
    Calls Try.prog 21 #[.string s] w fun e w' => e = .returned (.bool (sumB (s.extract 0 (s.size - 4)) == bigB (s.extract (s.size - 4) s.size))) ∧ Keep w.heap.size w.heap.size w w' := by
  have i1 : (4 : Int) ≤ (s.size : Int) := by omega
  have i2 : (s.size : Int) - 4 = ((s.size - 4 : Nat) : Int) := by omega
  have hl : s.size - 4 ≤ s.size := by omega
  go_enter Try.func21, Try.ntmps21
  go_wp2_with fail
  go_region_with ((go_at_call 28; go_must ((refine (sumOf_calls (s.extract 0 (s.size - 4)) _ (by simp; omega)).mono ?_; rintro e w1 ⟨rfl, hB⟩))))
  all_goals
    go_wp2_with fail
    go_ret
    refine ⟨ret_bool (sum_same s h4), ?_⟩
    exact ⟨hB.os, hB.output, hB.size, fun k hk _ => hB.block k hk⟩
end Go.Proofs.Yteflpladkmihdaa
