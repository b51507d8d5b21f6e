/- The kinds of bytes are read. -/
import Derived.Test.YteflpladkmihdaaRdD
import Derived.Deep.AppendLies
import Derived.Deep.LoopGhost
import Derived.KernelRfl
import Derived.OwnWalk
set_option linter.unusedVariables false
set_option linter.unusedSimpArgs false
namespace Go.Proofs.Yteflpladkmihdaa
open Go.RowKit

theorem Try.infoInt : (Try.prog.info? 3).map (fun i => (i.zero, i.size, i.bytes)) = some (some (.int .i64 0), 1, 8) := by kernel_rfl
theorem Try.infoU8 : (Try.prog.info? 5).map (fun i => (i.zero, i.size, i.bytes)) = some (some (.int .u8 0), 1, 1) := by kernel_rfl
theorem Try.infoBool : (Try.prog.info? 4).map (fun i => (i.zero, i.size, i.bytes)) = some (some (.bool false), 1, 1) := by kernel_rfl
theorem Try.infoInts : (Try.prog.info? 67).map (fun i => (i.zero, i.size, i.bytes)) = some (some (.slice none 0 0), 1, 24) := by kernel_rfl

/-- A row of one's own is kept by what turns another block alone. -/
theorem own_keep {w w' : World} {H a : Nat} {e : TypeId} {size : Nat} {v : Value} {n : Nat} {xs : List Value} (h : w.ownsRow H e size v n xs) (hk : ∀ H, Keep H a w w') (ha : a < H) : w'.ownsRow H e size v n xs := by
  refine ⟨h.1, h.2.imp id ?_⟩
  rintro ⟨g, cap, cur, hv, hg, hh, rest⟩
  have hlt := (Array.getElem?_eq_some_iff.1 hh).1
  exact ⟨g, cap, cur, hv, hg, ((hk w.heap.size).block g hlt (by omega)).trans hh, rest⟩

theorem below_app {w1 w2 : World} {o : Obj} {H : Nat} {v : Value} {e : TypeId} {size n : Nat} {xs : List Value} (ho : w1.ownsRow H e size v n xs) (hg : (w1.alloc o).grownBy w2 v.ownBlock) (hH : H ≤ w1.heap.size) : Below H w1 w2 :=
  ((Below.refl H w1).alloc hH o).trans ⟨hg.os, hg.tape, hg.output, hg.size, fun k hk => hg.block k (by simp; omega) fun e => by have := (ho.lt k e.symm).1; omega⟩
theorem keep_below {H a : Nat} {w w' : World} (h : Below H w w') : Keep H a w w' := ⟨h.os, h.output, h.size, fun k hk _ => h.block k hk⟩
theorem range_snoc {α : Type} (f : Nat → α) (j : Nat) : (List.range (j + 1)).map f = (List.range j).map f ++ [f j] := by rw [List.range_succ, List.map_append]; rfl

/-- How many kinds were met, and the kind of a byte, as they are read. -/
def metF (s : ByteArray) (p : Nat) : Nat → Nat
  | 0 => 0
  | i + 1 => if within (byt s (p + i)) 0 (metF s p i) = metF s p i then metF s p i + 1 else metF s p i
def kindF (s : ByteArray) (p i : Nat) : Nat := within (byt s (p + i)) 0 (metF s p i)
def kindsK (s : ByteArray) (p : Nat) : Nat → Bool
  | 0 => true
  | i + 1 => kindsK s p i && decide (p + i < s.size) && inB (byt s (p + i)) 0 (metF s p i)
theorem met_yes {x m f : Nat} (h : ((x : Int) == (m : Int)) = true) (e : f = if x = m then m + 1 else m) : Value.int IntKind.i64 ((m : Int) + 1) = .int .i64 (f : Nat) := by
  rw [beq_iff_eq] at h
  rw [e, if_pos (by omega)]
  rfl
theorem met_no {x m f : Nat} (h : ((x : Int) == (m : Int)) = false) (e : f = if x = m then m + 1 else m) : Value.int IntKind.i64 (m : Int) = .int .i64 (f : Nat) := by
  rw [beq_eq_false_iff_ne] at h
  rw [e, if_neg (by omega)]
theorem metF_le (s : ByteArray) (p i : Nat) : metF s p i ≤ i := by
  induction i with
  | zero => exact Nat.le_refl _
  | succ i ih => simp only [metF]; split <;> omega

set_option maxHeartbeats 2000000 in
set_option maxRecDepth 100000 in
theorem kinds_calls (a p count : Nat) (s : ByteArray) (k : Bool) (w : World) (hR : RdAt w a s p k) (hs : s.size ≤ 1048576) (hc : count ≤ 256) :
    Calls Try.prog 39 #[.pointer (some ⟨a, 0, none⟩), .int .i64 count] w fun e w' =>
      ∃ v, e = .returned v ∧ w'.ownsRow w.heap.size 3 1 v 256 ((List.range 256).map fun i => .int .i64 (kindF s p i : Nat)) ∧
      RdAt w' a s (p + 256) (k && kindsK s p 256 && decide (metF s p 256 = count)) ∧ Keep w.heap.size a w w' := by
  obtain ⟨i0, hi0, hz0, hz1, hz2⟩ := info_parts Try.infoInt
  have hlt := hR.lt
  have HR : Hid (RdAt w a s p k) := hR
  clear hR
  go_enter Try.func39, Try.ntmps39
  go_wp2_with fail
  go_loopg [5, 6, 7] 256 (fun q lst met i wr => ∃ j : Nat, q = 256 - j ∧ j ≤ 256 ∧ i = .int .i64 (j : Int) ∧ met = .int .i64 (metF s p j : Nat) ∧ wr.ownsRow w.heap.size 3 1 lst j ((List.range j).map fun i => .int .i64 (kindF s p i : Nat)) ∧ RdAt wr a s (p + j) (k && kindsK s p j) ∧ Keep w.heap.size a w wr)
  case atStart => exact ⟨0, rfl, Nat.zero_le _, rfl, rfl, World.ownsRow_nil _ _ _ _, HR.out.to rfl (by simp [kindsK]), Keep.refl _ _ _⟩
  case round =>
    obtain ⟨j, hgk, hj, rfl, rfl, ho, hr, hk⟩ := hrel
    have hm := metF_le s p j
    by_cases hj2 : j < 256
    · have i1 : (j : Int) < 256 := by omega
      have AA : Hid (gk = 256 - j ∧ RdAt wr a s (p + j) (k && kindsK s p j) ∧ Keep w.heap.size a w wr) := ⟨hgk, hr, hk⟩
      have HO : Hid (wr.ownsRow w.heap.size 3 1 u5 j ((List.range j).map fun i => .int .i64 (kindF s p i : Nat))) := ho
      have HM : Hid (metF s p (j + 1) = if within (byt s (p + j)) 0 (metF s p j) = metF s p j then metF s p j + 1 else metF s p j) := rfl
      have HKF : Hid (kindF s p j = within (byt s (p + j)) 0 (metF s p j)) := rfl
      have HKK : Hid (kindsK s p (j + 1) = (kindsK s p j && decide (p + j < s.size) && inB (byt s (p + j)) 0 (metF s p j))) := rfl
      clear hgk hr hk ho
      go_wp2_with fail
      refine (rd_one a (p + j) s (k && kindsK s p j) wr AA.out.2.1 hs 0 (metF s p j)).mono ?_
      rintro e w1 ⟨rfl, hr1, hk1⟩
      have hx := within_le (byt s (p + j)) 0 (metF s p j) (Nat.zero_le _)
      have R1 : Hid (RdAt w1 a s (p + (j + 1)) (k && kindsK s p (j + 1))) := by show RdAt _ _ _ _ _; rw [HKK.out]; exact hr1.to rfl (by simp [Bool.and_assoc])
      have O1 : Hid (w1.ownsRow w.heap.size 3 1 u5 j ((List.range j).map fun i => .int .i64 (kindF s p i : Nat))) := own_keep HO.out hk1 hlt
      have K1 : Hid (Keep w.heap.size a w w1) := AA.out.2.2.trans (hk1 _)
      have hsz : w.heap.size ≤ w1.heap.size := K1.out.size
      clear hr1 hk1 HO HKK
      rw [← HKF.out] at hx HM ⊢
      clear HKF
      generalize hkf : kindF s p j = x at *
      have HX : Hid (kindF s p j = x) := hkf
      clear hkf
      generalize metF s p j = m at *
      go_wp2_with (first | (at_builtin; refine wpList_append_lies _ rfl _ _ 67 rfl w.heap.size 3 i0 (.int .i64 0) 1 8 Try.underlying67 hi0 hz0 hz1 hz2 rfl (by decide) _ _ _ rfl (O1.out.alloc _) ⟨w1.heap.size, 0, none⟩ 1 1 [.int .i64 (x : Int)] rfl rfl (cell_one_new _ _ _) (by intro u hu; simp at hu; subst hu; rfl) (by decide) (by unfold maxLen; omega) (by omega) (by simp; omega) _ rfl ?_; intro g cap w2 hown hgrow hat hlt2))
      all_goals
        have hB := below_app O1.out hgrow hsz
        have R2 : RdAt w2 a s (p + (j + 1)) (k && kindsK s p (j + 1)) := R1.out.of_block (hB.block a hlt)
        have K2 := K1.out.trans (keep_below hB)
        have O2 : w2.ownsRow w.heap.size 3 1 (.slice (some ⟨g, 0, none⟩) (j + 1) cap) (j + 1) ((List.range (j + 1)).map fun i => .int .i64 (kindF s p i : Nat)) := by
          rw [range_snoc, HX.out]
          exact hown
        go_roundg (256 - (j + 1))
        case measure => rw [AA.out.1]; omega
        case rel => exact ⟨j + 1, rfl, by omega, congrArg (Value.int IntKind.i64) (by omega), by first | exact met_yes ‹_› HM.out | exact met_no ‹_› HM.out, O2, R2, K2⟩
    · have hje : j = 256 := by omega
      have i1 : (256 : Int) ≤ (j : Int) := by omega
      have x2 := hr.c2
      have z2 := hr.fz 2
      have HO : Hid (wr.ownsRow w.heap.size 3 1 u5 256 ((List.range 256).map fun i => .int .i64 (kindF s p i : Nat))) := by rw [← hje]; exact ho
      have HR : Hid (RdAt wr a s (p + 256) (k && kindsK s p 256)) := by rw [← hje]; exact hr
      have HK : Hid (Keep w.heap.size a w wr) := hk
      have HM : Hid (metF s p j = metF s p 256) := by show _ = _; rw [hje]
      by_cases hmc : metF s p j = count
      · have b1 : ((metF s p j : Int) != (count : Int)) = false := by rw [bne_eq_false_iff_eq]; omega
        have HC : Hid (metF s p 256 = count) := by rw [← HM.out]; exact hmc
        clear hr hk ho hje hgk hmc
        go_wp2_with fail
        go_ret
        exact ⟨_, rfl, HO.out, HR.out.to rfl (by rw [decide_eq_true HC.out, Bool.and_true]), HK.out⟩
      · have b1 : ((metF s p j : Int) != (count : Int)) = true := by rw [bne_iff_ne]; omega
        have HC : Hid (¬ metF s p 256 = count) := by rw [← HM.out]; exact hmc
        clear hr hk ho hje hgk hmc
        go_wp2_with fail
        go_ret
        exact ⟨_, rfl, own_keep HO.out (fun _ => Keep.set _ _ _) hlt, (HR.out.set2 false).to rfl (by rw [decide_eq_false HC.out, Bool.and_false]), HK.out.trans (Keep.set _ _ _)⟩
end Go.Proofs.Yteflpladkmihdaa

/- A row of states, and the bits, are read. -/
namespace Go.Proofs.Yteflpladkmihdaa
open Go.RowKit

theorem own_less {w : World} {H G : Nat} {e : TypeId} {size : Nat} {v : Value} {n : Nat} {xs : List Value} (h : w.ownsRow H e size v n xs) (hG : G ≤ H) : w.ownsRow G e size v n xs := by
  refine ⟨h.1, h.2.imp id ?_⟩
  rintro ⟨g, cap, cur, hv, hg, hh, rest⟩
  exact ⟨g, cap, cur, hv, Nat.le_trans hG hg, hh, rest⟩

/-- A state that is led to, as it is read. -/
def toF (s : ByteArray) (p states i : Nat) : Nat := within (byt2 s (p + 2 * i)) 0 (states - 1)
def toK (s : ByteArray) (p states : Nat) : Nat → Bool
  | 0 => true
  | i + 1 => toK s p states i && decide (p + 2 * i + 1 < s.size) && inB (byt2 s (p + 2 * i)) 0 (states - 1)

set_option maxHeartbeats 2000000 in
set_option maxRecDepth 100000 in
theorem row_calls (a p : Nat) (s : ByteArray) (k : Bool) (w : World) (hR : RdAt w a s p k) (hs : s.size ≤ 1048576) (m0 m1 states kinds m4 : Nat) (h1 : 1 ≤ states) (h2 : states ≤ 200) (h3 : kinds ≤ 256) :
    Calls Try.prog 40 #[.pointer (some ⟨a, 0, none⟩), .agg #[.int .i64 m0, .int .i64 m1, .int .i64 states, .int .i64 kinds, .int .i64 m4]] w fun e w' =>
      ∃ v, e = .returned v ∧ w'.ownsRow w.heap.size 3 1 v kinds ((List.range kinds).map fun i => .int .i64 (toF s p states i : Nat)) ∧
      RdAt w' a s (p + 2 * kinds) (k && toK s p states kinds) ∧ Keep w.heap.size a w w' := by
  obtain ⟨i0, hi0, hz0, hz1, hz2⟩ := info_parts Try.infoInt
  have hlt := hR.lt
  have HR : Hid (RdAt w a s p k) := hR
  clear hR
  go_enter Try.func40, Try.ntmps40
  go_wp2_with fail
  go_loopg [5, 6] kinds (fun q lst i wr => ∃ j : Nat, q = kinds - j ∧ j ≤ kinds ∧ i = .int .i64 (j : Int) ∧ wr.ownsRow (w.heap.size + 1) 3 1 lst j ((List.range j).map fun i => .int .i64 (toF s p states i : Nat)) ∧ RdAt wr a s (p + 2 * j) (k && toK s p states j) ∧ Keep w.heap.size a w wr ∧ w.heap.size + 1 ≤ wr.heap.size ∧ wr.heap[w.heap.size]? = some (.cells #[.int .i64 m0, .int .i64 m1, .int .i64 states, .int .i64 kinds, .int .i64 m4] 74))
  case atStart => exact ⟨0, rfl, Nat.zero_le _, rfl, World.ownsRow_nil _ _ _ _, (HR.out.of_block (Below.heap_alloc _ _ _ hlt)).to rfl (by simp [toK]), Keep.alloc _ _ (Nat.le_refl _), by simp, heap_alloc_new w _⟩
  case round =>
    obtain ⟨j, hgk, hj, rfl, ho, hr, hk, hsz, hbx⟩ := hrel
    have y2 : wr.cell? ⟨w.heap.size, 2, none⟩ = some (.int .i64 states) := by simp [World.cell?, hbx]
    have y3 : wr.cell? ⟨w.heap.size, 3, none⟩ = some (.int .i64 kinds) := by simp [World.cell?, hbx]
    by_cases hj2 : j < kinds
    · have i1 : (j : Int) < (kinds : Int) := by omega
      have AA : Hid (gk = kinds - j ∧ RdAt wr a s (p + 2 * j) (k && toK s p states j) ∧ Keep w.heap.size a w wr ∧ wr.heap[w.heap.size]? = some (.cells #[.int .i64 m0, .int .i64 m1, .int .i64 states, .int .i64 kinds, .int .i64 m4] 74)) := ⟨hgk, hr, hk, hbx⟩
      have HO : Hid (wr.ownsRow (w.heap.size + 1) 3 1 u5 j ((List.range j).map fun i => .int .i64 (toF s p states i : Nat))) := ho
      have HKF : Hid (toF s p states j = within (byt2 s (p + 2 * j)) 0 (states - 1)) := rfl
      have HKK : Hid (toK s p states (j + 1) = (toK s p states j && decide (p + 2 * j + 1 < s.size) && inB (byt2 s (p + 2 * j)) 0 (states - 1))) := rfl
      have hs1 : (states : Int) - 1 = ((states - 1 : Nat) : Int) := by omega
      have hx := within_le (byt2 s (p + 2 * j)) 0 (states - 1) (Nat.zero_le _)
      clear hgk hr hk ho hbx
      go_wp2_with fail
      refine (rd_two a (p + 2 * j) s (k && toK s p states j) wr AA.out.2.1 hs 0 (states - 1)).mono ?_
      rintro e w1 ⟨rfl, hr1, hk1⟩
      have R1 : Hid (RdAt w1 a s (p + 2 * (j + 1)) (k && toK s p states (j + 1))) := by show RdAt _ _ _ _ _; rw [HKK.out]; exact hr1.to rfl (by simp [Bool.and_assoc])
      have O1 : Hid (w1.ownsRow (w.heap.size + 1) 3 1 u5 j ((List.range j).map fun i => .int .i64 (toF s p states i : Nat))) := own_keep HO.out hk1 (by omega)
      have K1 : Hid (Keep w.heap.size a w w1) := AA.out.2.2.1.trans (hk1 _)
      have B1 : Hid (w1.heap[w.heap.size]? = some (.cells #[.int .i64 m0, .int .i64 m1, .int .i64 states, .int .i64 kinds, .int .i64 m4] 74)) := ((hk1 (w.heap.size + 1)).block _ (by omega) (by omega)).trans AA.out.2.2.2
      have hsz1 : w.heap.size + 1 ≤ w1.heap.size := Nat.le_trans hsz (hk1 0).size
      clear hr1 hk1 HO HKK y2 y3
      rw [← HKF.out] at hx ⊢
      clear HKF
      generalize hkf : toF s p states j = x at *
      have HX : Hid (toF s p states j = x) := hkf
      clear hkf
      go_wp2_with (first | (at_builtin; refine wpList_append_lies _ rfl _ _ 67 rfl (w.heap.size + 1) 3 i0 (.int .i64 0) 1 8 Try.underlying67 hi0 hz0 hz1 hz2 rfl (by decide) _ _ _ rfl (O1.out.alloc _) ⟨w1.heap.size, 0, none⟩ 1 1 [.int .i64 (x : Int)] rfl rfl (cell_one_new _ _ _) (by intro u hu; simp at hu; subst hu; rfl) (by decide) (by unfold maxLen; omega) (by omega) (by simp; omega) _ rfl ?_; intro g cap w2 hown hgrow hat hlt2))
      have hB := below_app O1.out hgrow hsz1
      have R2 : RdAt w2 a s (p + 2 * (j + 1)) (k && toK s p states (j + 1)) := R1.out.of_block (hB.block a (by omega))
      have K2 : Keep w.heap.size a w w2 := K1.out.trans ⟨hB.os, hB.output, hB.size, fun k hk _ => hB.block k (by omega)⟩
      have O2 : w2.ownsRow (w.heap.size + 1) 3 1 (.slice (some ⟨g, 0, none⟩) (j + 1) cap) (j + 1) ((List.range (j + 1)).map fun i => .int .i64 (toF s p states i : Nat)) := by
        rw [range_snoc, HX.out]
        exact hown
      go_roundg (kinds - (j + 1))
      case measure => rw [AA.out.1]; omega
      case rel => exact ⟨j + 1, rfl, by omega, congrArg (Value.int IntKind.i64) (by omega), O2, R2, K2, Nat.le_trans hsz1 hB.size, (hB.block _ (by omega)).trans B1.out⟩
    · have hje : j = kinds := by omega
      have i1 : (kinds : Int) ≤ (j : Int) := by omega
      have HO : Hid (wr.ownsRow w.heap.size 3 1 u5 kinds ((List.range kinds).map fun i => .int .i64 (toF s p states i : Nat))) := by rw [hje] at ho; exact own_less ho (Nat.le_succ _)
      have HR : Hid (RdAt wr a s (p + 2 * kinds) (k && toK s p states kinds)) := by rw [hje] at hr; exact hr
      have HK : Hid (Keep w.heap.size a w wr) := hk
      clear hr hk ho hje hgk hbx
      go_wp2_with fail
      go_ret
      exact ⟨_, rfl, HO.out, HR.out, HK.out⟩
end Go.Proofs.Yteflpladkmihdaa
