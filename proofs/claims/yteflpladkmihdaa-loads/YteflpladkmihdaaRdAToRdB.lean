/- A reader of tables: numbers one behind the other. -/
import Derived.Test.YteflpladkmihdaaRunM
import Derived.Test.YteflpladkmihdaaRefMToTabB
import Derived.WalkLawsBesides
import Derived.Deep.QuietTactic
import Derived.BigQuiet
set_option linter.unusedVariables false
set_option linter.unusedSimpArgs false
namespace Go.Proofs.Yteflpladkmihdaa
open Go.RowKit

/-- A reader of the text s lies in block b: p bytes were asked for; k: all was right. -/
def RdAt (w : World) (b : Nat) (s : ByteArray) (p : Nat) (k : Bool) : Prop :=
  w.heap[b]? = some (.cells #[.string s, .int .i64 (min p s.size : Nat), .bool k] 66)

namespace RdAt
variable {w w' : World} {b p : Nat} {s : ByteArray} {k : Bool}
theorem lt (h : RdAt w b s p k) : b < w.heap.size := (Array.getElem?_eq_some_iff.1 h).1
theorem c0 (h : RdAt w b s p k) : w.cell? ⟨b, 0, none⟩ = some (.string s) := by unfold RdAt at h; simp [World.cell?, h]
theorem c1 (h : RdAt w b s p k) : w.cell? ⟨b, 1, none⟩ = some (.int .i64 (min p s.size : Nat)) := by unfold RdAt at h; simp [World.cell?, h]
theorem c2 (h : RdAt w b s p k) : w.cell? ⟨b, 2, none⟩ = some (.bool k) := by unfold RdAt at h; simp [World.cell?, h]
theorem fz (h : RdAt w b s p k) (i : Nat) : w.frozen? ⟨b, i, none⟩ = false := by unfold RdAt at h; simp [World.frozen?, h]
theorem of_block (h : RdAt w b s p k) (e : w'.heap[b]? = w.heap[b]?) : RdAt w' b s p k := e.trans h
theorem alike (h : RdAt w b s p k) (e : w'.Alike w) : RdAt w' b s p k := h.of_block (by rw [e.1])
theorem set1 (h : RdAt w b s p k) (q : Nat) : RdAt (w.setCell ⟨b, 1, none⟩ (.int .i64 (min q s.size : Nat))) b s q k := by
  unfold RdAt at *; simp [World.setCell, Array.getElem?_modify, h]
theorem set2 (h : RdAt w b s p k) (q : Bool) : RdAt (w.setCell ⟨b, 2, none⟩ (.bool q)) b s p q := by
  unfold RdAt at *; simp [World.setCell, Array.getElem?_modify, h]
theorem to (h : RdAt w b s p k) {q : Nat} {l : Bool} (e : min p s.size = min q s.size) (e2 : k = l) : RdAt w b s q l := by
  unfold RdAt at *; rw [h, e, e2]
end RdAt

theorem ret_nat {a b : Nat} (h : a = b) : Ending.returned (.int .i64 (a : Int)) = .returned (.int .i64 (b : Int)) := by rw [h]

theorem Keep.drewSet {H b : Nat} (w : World) (n i : Nat) (v : Value) : Keep H b w ((w.drewN n).setCell ⟨b, i, none⟩ v) := Keep.trans (w' := w.drewN n) (Keep.alike ⟨rfl, rfl, rfl⟩) (Keep.set _ _ _)

theorem byt_out (s : ByteArray) (i : Nat) (h : s.size ≤ i) : byt s i = 0 := by
  have h' : s.data.toList.length ≤ i := by simpa using h
  unfold byt
  rw [List.getD_eq_getElem?_getD, List.getElem?_eq_none h']
  rfl

set_option maxHeartbeats 800000 in
theorem rd_next (b p : Nat) (s : ByteArray) (k : Bool) (w : World) (hR : RdAt w b s p k) (hs : s.size ≤ 1048576) :
    Calls Try.prog 51 #[.pointer (some ⟨b, 0, none⟩)] w fun e w' =>
      e = .returned (.int .i64 (byt s p : Nat)) ∧ RdAt w' b s (p + 1) (k && decide (p < s.size)) ∧ ∀ H, Keep H b w w' := by
  have HR : Hid (RdAt w b s p k) := hR
  have x0 := hR.c0
  have x1 := hR.c1
  have z1 := hR.fz 1
  have z2 := hR.fz 2
  have x2 := hR.c2
  clear hR
  by_cases hp : p < s.size
  · have e1 : min p s.size = p := by omega
    rw [e1] at x1
    have i1 : (p : Int) < (s.size : Int) := by omega
    have HE : Hid (s[p].toNat = byt s p) := byt_eq s p hp
    have hb : s[p].toNat < 256 := s[p].toNat_lt
    have HP : Hid (p < s.size) := hp
    go_enter Try.func51, Try.ntmps51
    go_wp2
    go_quiet (fail)
    go_wp2
    go_quiet (fail)
    go_wp2
    go_ret
    refine ⟨?_, ?_, fun H => ?_⟩
    · exact ret_nat HE.out
    · have h2 := HR.out.set1 (p + 1)
      rw [show ((min (p + 1) s.size : Nat) : Int) = (p : Int) + 1 by omega] at h2
      exact h2.to rfl (by simp [HP.out])
    · exact Keep.drewSet w _ _ _
  · have e1 : min p s.size = s.size := by omega
    rw [e1] at x1
    have HP : Hid (¬ p < s.size) := hp
    go_enter Try.func51, Try.ntmps51
    go_wp2
    go_quiet (fail)
    go_wp2
    go_ret
    refine ⟨?_, ?_, fun H => ?_⟩
    · show Ending.returned (.int .i64 0) = _
      rw [byt_out s p (by omega)]
      rfl
    · exact (HR.out.set2 false).to (by omega) (by simp [HP.out])
    · exact Keep.drewSet w _ _ _

/-- The number that is told for n. -/
def within (n least most : Nat) : Nat := if least ≤ n ∧ n ≤ most then n else least
def inB (n least most : Nat) : Bool := decide (least ≤ n ∧ n ≤ most)
theorem within_yes {n least most : Nat} (h : least ≤ n ∧ n ≤ most) : within n least most = n := if_pos h
theorem within_no {n least most : Nat} (h : ¬ (least ≤ n ∧ n ≤ most)) : within n least most = least := if_neg h
theorem inB_yes {n least most : Nat} (h : least ≤ n ∧ n ≤ most) : inB n least most = true := decide_eq_true h
theorem inB_no {n least most : Nat} (h : ¬ (least ≤ n ∧ n ≤ most)) : inB n least most = false := decide_eq_false h

theorem rd_within (b p : Nat) (s : ByteArray) (k : Bool) (w : World) (hR : RdAt w b s p k) (n least most : Nat) :
    Calls Try.prog 52 #[.pointer (some ⟨b, 0, none⟩), .int .i64 n, .int .i64 least, .int .i64 most] w fun e w' =>
      e = .returned (.int .i64 (within n least most : Nat)) ∧ RdAt w' b s p (k && inB n least most) ∧ ∀ H, Keep H b w w' := by
  have HR : Hid (RdAt w b s p k) := hR
  have z2 := hR.fz 2
  have x2 := hR.c2
  clear hR
  by_cases h1 : n < least
  · have i1 : (n : Int) < (least : Int) := by omega
    have HP : Hid (¬ (least ≤ n ∧ n ≤ most)) := by show ¬ _; omega
    go_enter Try.func52, Try.ntmps52
    go_wp2
    go_ret
    exact ⟨ret_nat (within_no HP.out).symm, (HR.out.set2 false).to rfl (by rw [inB_no HP.out, Bool.and_false]), fun H => Keep.set w _ _⟩
  · have i1 : (least : Int) ≤ (n : Int) := by omega
    by_cases h2 : most < n
    · have i2 : (most : Int) < (n : Int) := by omega
      have HP : Hid (¬ (least ≤ n ∧ n ≤ most)) := by show ¬ _; omega
      go_enter Try.func52, Try.ntmps52
      go_wp2
      go_ret
      exact ⟨ret_nat (within_no HP.out).symm, (HR.out.set2 false).to rfl (by rw [inB_no HP.out, Bool.and_false]), fun H => Keep.set w _ _⟩
    · have i2 : (n : Int) ≤ (most : Int) := by omega
      have HP : Hid (least ≤ n ∧ n ≤ most) := by show _ ∧ _; omega
      go_enter Try.func52, Try.ntmps52
      go_wp2
      go_ret
      exact ⟨ret_nat (within_yes HP.out).symm, HR.out.to rfl (by rw [inB_yes HP.out, Bool.and_true]), fun H => Keep.refl _ _ _⟩

set_option maxHeartbeats 800000 in
theorem rd_one (b p : Nat) (s : ByteArray) (k : Bool) (w : World) (hR : RdAt w b s p k) (hs : s.size ≤ 1048576) (least most : Nat) :
    Calls Try.prog 36 #[.pointer (some ⟨b, 0, none⟩), .int .i64 least, .int .i64 most] w fun e w' =>
      e = .returned (.int .i64 (within (byt s p) least most : Nat)) ∧ RdAt w' b s (p + 1) (k && decide (p < s.size) && inB (byt s p) least most) ∧ ∀ H, Keep H b w w' := by
  have HR : Hid (RdAt w b s p k) := hR
  clear hR
  go_enter Try.func36, Try.ntmps36
  go_wp2_with fail
  refine (rd_next b p s k w HR.out hs).mono ?_
  rintro e w1 ⟨rfl, h1, k1⟩
  have H1 : Hid (RdAt w1 b s (p + 1) (k && decide (p < s.size))) := h1
  clear h1
  go_wp2_with fail
  refine (rd_within b (p + 1) s _ w1 H1.out (byt s p) least most).mono ?_
  rintro e w2 ⟨rfl, h2, k2⟩
  have H2 : Hid (RdAt w2 b s (p + 1) (k && decide (p < s.size) && inB (byt s p) least most)) := h2
  clear h2
  go_wp2_with fail
  go_ret
  exact ⟨rfl, H2.out, fun H => (k1 H).trans (k2 H)⟩

/-- Two bytes, the high one first. -/
def byt2 (s : ByteArray) (p : Nat) : Nat := 256 * byt s p + byt s (p + 1)
theorem byt2_lt (s : ByteArray) (p : Nat) : byt2 s p < 65536 := by have := byt_lt s p; have := byt_lt s (p + 1); unfold byt2; omega

set_option maxHeartbeats 800000 in
theorem rd_two (b p : Nat) (s : ByteArray) (k : Bool) (w : World) (hR : RdAt w b s p k) (hs : s.size ≤ 1048576) (least most : Nat) :
    Calls Try.prog 37 #[.pointer (some ⟨b, 0, none⟩), .int .i64 least, .int .i64 most] w fun e w' =>
      e = .returned (.int .i64 (within (byt2 s p) least most : Nat)) ∧ RdAt w' b s (p + 2) (k && decide (p + 1 < s.size) && inB (byt2 s p) least most) ∧ ∀ H, Keep H b w w' := by
  have HR : Hid (RdAt w b s p k) := hR
  clear hR
  go_enter Try.func37, Try.ntmps37
  go_wp2_with fail
  refine (rd_next b p s k w HR.out hs).mono ?_
  rintro e w1 ⟨rfl, h1, k1⟩
  have H1 : Hid (RdAt w1 b s (p + 1) (k && decide (p < s.size))) := h1
  clear h1
  go_wp2_with fail
  refine (rd_next b (p + 1) s _ w1 H1.out hs).mono ?_
  rintro e w2 ⟨rfl, h2, k2⟩
  have H2 : Hid (RdAt w2 b s (p + 2) (k && decide (p + 1 < s.size))) := h2.to rfl (by by_cases e : p + 1 < s.size <;> simp [e]; intro; omega)
  clear h2
  have b1 := byt_lt s p
  have b2 := byt_lt s (p + 1)
  have HE : Hid (256 * (byt s p : Int) + (byt s (p + 1) : Int) = (byt2 s p : Nat)) := by show _ = _; unfold byt2; omega
  go_wp2_with fail
  rw [HE.out]
  refine (rd_within b (p + 2) s _ w2 H2.out (byt2 s p) least most).mono ?_
  rintro e w3 ⟨rfl, h3, k3⟩
  have H3 : Hid (RdAt w3 b s (p + 2) (k && decide (p + 1 < s.size) && inB (byt2 s p) least most)) := h3
  clear h3
  go_wp2_with fail
  go_ret
  exact ⟨rfl, H3.out, fun H => ((k1 H).trans (k2 H)).trans (k3 H)⟩
end Go.Proofs.Yteflpladkmihdaa

/- How long tables are. -/
namespace Go.Proofs.Yteflpladkmihdaa
open Go.RowKit

set_option maxHeartbeats 800000 in
theorem rows_calls (kinds ahead : Nat) (w : World) (hk : kinds ≤ 256) (ha : ahead ≤ 255) :
    Calls Try.prog 38 #[.int .i64 kinds, .int .i64 ahead] w fun e w' => e = .returned (.int .i64 (waysTo kinds ahead : Nat)) ∧ w' = w := by
  go_enter Try.func38, Try.ntmps38
  go_wp2
  go_loop [5, 6] (fun r i => ∃ k : Nat, k ≤ ahead ∧ i = .int .i64 k ∧ r = .int .i64 (waysTo kinds k : Nat)) (fun _ i => ahead - (intOf i).toNat)
  case atStart => exact ⟨0, Nat.zero_le _, rfl, rfl⟩
  case round =>
    obtain ⟨k, hka, rfl, rfl⟩ := hrel
    have hw := waysTo_le kinds hk k
    have hw1 := waysTo_le kinds hk (k + 1)
    by_cases hlt : k < ahead
    · have i1 : (k : Int) < (ahead : Int) := by omega
      by_cases hm : waysTo kinds k ≤ 3000
      · have i2 : (waysTo kinds k : Int) ≤ 3000 := by omega
        have HS : Hid (waysTo kinds (k + 1) = waysTo kinds k * (kinds + 1)) := by show _ = _; rw [waysTo, if_pos hm]
        have hp : waysTo kinds k * (kinds + 1) ≤ 771000 := by rw [← HS.out]; exact hw1
        generalize waysTo kinds k = m at *
        have HM := ways_step m kinds hp
        go_wp2_with fail
        refine ⟨⟨k + 1, by omega, by go_num, ?_⟩, by simp [intOf]; omega⟩
        rw [HS.out]
        exact HM
      · have i2 : (3000 : Int) < (waysTo kinds k : Int) := by omega
        have HS : Hid (waysTo kinds ahead = waysTo kinds k) := waysTo_stop kinds k ahead (by omega) (by omega)
        generalize waysTo kinds k = m at *
        go_wp2_with fail
        go_ret
        exact ⟨ret_nat HS.out.symm, rfl⟩
    · have i1 : (ahead : Int) ≤ (k : Int) := by omega
      have HS : Hid (k = ahead) := by show _ = _; omega
      go_wp2_with fail
      go_ret
      exact ⟨ret_nat (by rw [HS.out]), rfl⟩

set_option maxHeartbeats 800000 in
theorem length_calls (modes rules states kinds ways : Nat) (w : World) (g1 : modes ≤ 3) (g2 : rules ≤ 8) (g3 : states ≤ 200) (g4 : kinds ≤ 256) (g5 : ways ≤ 3000) :
    Calls Try.prog 20 #[.agg #[.int .i64 modes, .int .i64 rules, .int .i64 states, .int .i64 kinds, .int .i64 ways]] w fun e w' => e = .returned (.int .i64 (sizeOf_ modes rules states kinds ways + 4 : Nat)) ∧ Below w.heap.size w w' := by
  obtain ⟨p1, p2, p3, p4⟩ := prod_bounds states kinds ways g3 g4 g5
  have p3' : (states : Int) * (ways : Int) ≤ 600000 := by rw [Int.mul_comm]; exact p3
  have p4' : 0 ≤ (states : Int) * (ways : Int) := by rw [Int.mul_comm]; exact p4
  clear p3 p4
  have HE : Hid (13 + 2 * (modes : Int) + 2 * (rules : Int) + 256 + 2 * (states : Int) * (kinds : Int) + (states : Int) + ((ways : Int) * (states : Int) + 7) / 8 = ((sizeOf_ modes rules states kinds ways : Nat) : Int)) := size_int modes rules states kinds ways
  generalize sizeOf_ modes rules states kinds ways = n at *
  go_enter Try.func20, Try.ntmps20
  go_wp2
  go_ret
  refine ⟨ret_int ?_, (Below.refl _ _).alloc (Nat.le_refl _) _⟩
  have h := HE.out
  rw [Int.mul_comm (ways : Int)] at h
  omega
end Go.Proofs.Yteflpladkmihdaa
