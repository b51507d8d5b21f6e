/- The bits are read. -/
import Derived.Test.YteflpladkmihdaaRdEToRdF
set_option linter.unusedVariables false
set_option linter.unusedSimpArgs false
namespace Go.Proofs.Yteflpladkmihdaa
open Go.RowKit

/-- The most that the j-th byte of n bits may be; the bytes as they are read. -/
def mostF (n j : Nat) : Nat := if n - 8 * j < 8 then 2 ^ (n - 8 * j) - 1 else 255
def bitF (s : ByteArray) (p n j : Nat) : Nat := within (byt s (p + j)) 0 (mostF n j)
def bitK (s : ByteArray) (p n : Nat) : Nat → Bool
  | 0 => true
  | j + 1 => bitK s p n j && decide (p + j < s.size) && inB (byt s (p + j)) 0 (mostF n j)
theorem mostF_le (n j : Nat) : mostF n j ≤ 255 := by
  unfold mostF
  split
  · rename_i h
    have : 2 ^ (n - 8 * j) ≤ 2 ^ 8 := Nat.pow_le_pow_right (by decide) (by omega)
    omega
  · exact Nat.le_refl _

theorem shl_most (c : Nat) (h : c < 8) : wrap64 (wrap64 ((2 : Int) ^ c) - 1) = ((2 ^ c - 1 : Nat) : Int) := by
  have h1 : (2 : Int) ^ c = ((2 ^ c : Nat) : Int) := by simp
  have h2 : 2 ^ c ≤ 2 ^ 8 := Nat.pow_le_pow_right (by decide) (by omega)
  have h3 : 0 < 2 ^ c := Nat.two_pow_pos c
  rw [h1]
  generalize 2 ^ c = m at *
  rw [w64 (m : Int) (by omega) (by omega), w64 _ (by omega) (by omega)]
  omega

set_option maxHeartbeats 2000000 in
set_option maxRecDepth 100000 in
theorem bits_calls (a p n : Nat) (s : ByteArray) (k : Bool) (w : World) (hR : RdAt w a s p k) (hs : s.size ≤ 1048576) (hn : n ≤ 600000) :
    Calls Try.prog 41 #[.pointer (some ⟨a, 0, none⟩), .int .i64 n] w fun e w' =>
      ∃ v, e = .returned v ∧ w'.ownsRow w.heap.size 5 1 v ((n + 7) / 8) ((List.range ((n + 7) / 8)).map fun i => .int .u8 (bitF s p n i : Nat)) ∧
      RdAt w' a s (p + (n + 7) / 8) (k && bitK s p n ((n + 7) / 8)) ∧ Keep w.heap.size a w w' := by
  obtain ⟨i0, hi0, hz0, hz1, hz2⟩ := info_parts Try.infoU8
  have hlt := hR.lt
  have HR : Hid (RdAt w a s p k) := hR
  clear hR
  go_enter Try.func41, Try.ntmps41
  go_wp2_with fail
  go_loopg [1, 5] ((n + 7) / 8) (fun q cnt lst wr => ∃ j : Nat, q = (n + 7) / 8 - j ∧ j ≤ (n + 7) / 8 ∧ cnt = .int .i64 ((n : Int) - 8 * (j : Int)) ∧ wr.ownsRow w.heap.size 5 1 lst j ((List.range j).map fun i => .int .u8 (bitF s p n i : Nat)) ∧ RdAt wr a s (p + j) (k && bitK s p n j) ∧ Keep w.heap.size a w wr)
  case atStart => exact ⟨0, rfl, Nat.zero_le _, by simp, World.ownsRow_nil _ _ _ _, HR.out.to rfl (by simp [bitK]), Keep.refl _ _ _⟩
  case round =>
    obtain ⟨j, hgk, hj, rfl, ho, hr, hk⟩ := hrel
    by_cases hj2 : 8 * j < n
    · have i1 : (0 : Int) < (n : Int) - 8 * (j : Int) := by omega
      have AA : Hid (gk = (n + 7) / 8 - j ∧ RdAt wr a s (p + j) (k && bitK s p n j) ∧ Keep w.heap.size a w wr) := ⟨hgk, hr, hk⟩
      have HO : Hid (wr.ownsRow w.heap.size 5 1 u5 j ((List.range j).map fun i => .int .u8 (bitF s p n i : Nat))) := ho
      have HKF : Hid (bitF s p n j = within (byt s (p + j)) 0 (mostF n j)) := rfl
      have HKK : Hid (bitK s p n (j + 1) = (bitK s p n j && decide (p + j < s.size) && inB (byt s (p + j)) 0 (mostF n j))) := rfl
      have hx := within_le (byt s (p + j)) 0 (mostF n j) (Nat.zero_le _)
      have hmm := mostF_le n j
      obtain ⟨c, hc⟩ : ∃ c : Nat, c = n - 8 * j := ⟨_, rfl⟩
      have hci : (n : Int) - 8 * (j : Int) = (c : Int) := by omega
      rw [hci] at *
      have hc0 : 0 < c := by omega
      have hcb : (c : Int) ≤ 600000 := by omega
      have HCC : Hid (c = n - 8 * j ∧ 8 * j < n) := ⟨hc, hj2⟩
      clear hgk hr hk ho i1
      by_cases h8 : c < 8
      · have i2 : (c : Int) < 8 := by omega
        have HM : Hid (mostF n j = 2 ^ c - 1) := by show _ = _; unfold mostF; rw [if_pos (by omega), hc]
        have hP := shl_most c h8
        clear hc hci hj2
        rw [← HM.out] at hP
        go_wp2_with fail
        rw [hP]
        clear hP
        refine (rd_one a (p + j) s (k && bitK s p n j) wr AA.out.2.1 hs 0 (mostF n j)).mono ?_
        rintro e w1 ⟨rfl, hr1, hk1⟩
        have R1 : Hid (RdAt w1 a s (p + (j + 1)) (k && bitK s p n (j + 1))) := by show RdAt _ _ _ _ _; rw [HKK.out]; exact hr1.to rfl (by simp [Bool.and_assoc])
        have O1 : Hid (w1.ownsRow w.heap.size 5 1 u5 j ((List.range j).map fun i => .int .u8 (bitF s p n i : Nat))) := own_keep HO.out hk1 hlt
        have K1 : Hid (Keep w.heap.size a w w1) := AA.out.2.2.trans (hk1 _)
        have hsz1 : w.heap.size ≤ w1.heap.size := K1.out.size
        clear hr1 hk1 HO HKK HM
        rw [← HKF.out] at hx ⊢
        clear HKF
        generalize hkf : bitF s p n j = x at *
        have HX : Hid (bitF s p n j = x) := hkf
        have hx256 : (x : Int) < 256 := by omega
        clear hkf
        go_wp2_with (first | (at_builtin; refine wpList_append_lies _ rfl _ _ 70 rfl w.heap.size 5 i0 (.int .u8 0) 1 1 Try.underlying70 hi0 hz0 hz1 hz2 rfl (by decide) _ _ _ rfl (O1.out.alloc _) ⟨w1.heap.size, 0, none⟩ 1 1 [.int .u8 (x : Int)] rfl rfl (cell_one_new _ _ _) (by intro u hu; simp at hu; subst hu; rfl) (by decide) (by unfold maxLen; omega) (by omega) (by simp; omega) _ rfl ?_; intro g cap w2 hown hgrow hat hlt2))
        have hB := below_app O1.out hgrow hsz1
        have R2 : RdAt w2 a s (p + (j + 1)) (k && bitK s p n (j + 1)) := R1.out.of_block (hB.block a hlt)
        have K2 : Keep w.heap.size a w w2 := K1.out.trans (keep_below hB)
        have O2 : w2.ownsRow w.heap.size 5 1 (.slice (some ⟨g, 0, none⟩) (j + 1) cap) (j + 1) ((List.range (j + 1)).map fun i => .int .u8 (bitF s p n i : Nat)) := by
          rw [range_snoc, HX.out]
          exact hown
        go_roundg ((n + 7) / 8 - (j + 1))
        case measure => have := HCC.out; rw [AA.out.1]; omega
        case rel => exact ⟨j + 1, rfl, by have := HCC.out; omega, congrArg (Value.int IntKind.i64) (by have := HCC.out; omega), O2, R2, K2⟩
      · have i2 : (8 : Int) ≤ (c : Int) := by omega
        have HM : Hid (mostF n j = 255) := by show _ = _; unfold mostF; rw [if_neg (by omega)]
        clear hc hci hj2
        go_wp2_with fail
        rw [show (255 : Int) = ((mostF n j : Nat) : Int) by rw [HM.out]; rfl]
        refine (rd_one a (p + j) s (k && bitK s p n j) wr AA.out.2.1 hs 0 (mostF n j)).mono ?_
        rintro e w1 ⟨rfl, hr1, hk1⟩
        have R1 : Hid (RdAt w1 a s (p + (j + 1)) (k && bitK s p n (j + 1))) := by show RdAt _ _ _ _ _; rw [HKK.out]; exact hr1.to rfl (by simp [Bool.and_assoc])
        have O1 : Hid (w1.ownsRow w.heap.size 5 1 u5 j ((List.range j).map fun i => .int .u8 (bitF s p n i : Nat))) := own_keep HO.out hk1 hlt
        have K1 : Hid (Keep w.heap.size a w w1) := AA.out.2.2.trans (hk1 _)
        have hsz1 : w.heap.size ≤ w1.heap.size := K1.out.size
        clear hr1 hk1 HO HKK HM
        rw [← HKF.out] at hx ⊢
        clear HKF
        generalize hkf : bitF s p n j = x at *
        have HX : Hid (bitF s p n j = x) := hkf
        have hx256 : (x : Int) < 256 := by omega
        clear hkf
        go_wp2_with (first | (at_builtin; refine wpList_append_lies _ rfl _ _ 70 rfl w.heap.size 5 i0 (.int .u8 0) 1 1 Try.underlying70 hi0 hz0 hz1 hz2 rfl (by decide) _ _ _ rfl (O1.out.alloc _) ⟨w1.heap.size, 0, none⟩ 1 1 [.int .u8 (x : Int)] rfl rfl (cell_one_new _ _ _) (by intro u hu; simp at hu; subst hu; rfl) (by decide) (by unfold maxLen; omega) (by omega) (by simp; omega) _ rfl ?_; intro g cap w2 hown hgrow hat hlt2))
        have hB := below_app O1.out hgrow hsz1
        have R2 : RdAt w2 a s (p + (j + 1)) (k && bitK s p n (j + 1)) := R1.out.of_block (hB.block a hlt)
        have K2 : Keep w.heap.size a w w2 := K1.out.trans (keep_below hB)
        have O2 : w2.ownsRow w.heap.size 5 1 (.slice (some ⟨g, 0, none⟩) (j + 1) cap) (j + 1) ((List.range (j + 1)).map fun i => .int .u8 (bitF s p n i : Nat)) := by
          rw [range_snoc, HX.out]
          exact hown
        go_roundg ((n + 7) / 8 - (j + 1))
        case measure => have := HCC.out; rw [AA.out.1]; omega
        case rel => exact ⟨j + 1, rfl, by have := HCC.out; omega, congrArg (Value.int IntKind.i64) (by have := HCC.out; omega), O2, R2, K2⟩
    · have hje : j = (n + 7) / 8 := by omega
      have i1 : (n : Int) - 8 * (j : Int) ≤ 0 := by omega
      have HO : Hid (wr.ownsRow w.heap.size 5 1 u5 ((n + 7) / 8) ((List.range ((n + 7) / 8)).map fun i => .int .u8 (bitF s p n i : Nat))) := by rw [hje] at ho; exact ho
      have HR : Hid (RdAt wr a s (p + (n + 7) / 8) (k && bitK s p n ((n + 7) / 8))) := by rw [hje] at hr; exact hr
      have HK : Hid (Keep w.heap.size a w wr) := hk
      clear hr hk ho hje hgk
      go_wp2_with fail
      go_ret
      exact ⟨_, rfl, HO.out, HR.out, HK.out⟩
end Go.Proofs.Yteflpladkmihdaa
