/- The small calls of a run. -/
import Derived.Test.YteflpladkmihdaaRunM
import Derived.Test.YteflpladkmihdaaBitsAToTabA
import Derived.StillTactics
import Derived.OwnWalk
import Derived.Laws.Pointers
set_option linter.unusedVariables false
set_option linter.unusedSimpArgs false
namespace Go.Proofs.Yteflpladkmihdaa
open Go.RowKit

set_option maxHeartbeats 400000 in
theorem at_calls (b i : Nat) (w : World) (r : Rs) {v0 : Value} (hR : RunAt w b r v0) (hf : r.first < 64) (hi : i < 64) :
    Calls Try.prog 54 #[.pointer (some ⟨b, 12, none⟩), .int .i64 i] w fun e w' => e = .returned (.int .u8 (r.byte ((r.first + i) % 64))) ∧ w'.Alike w := by
  have h1 := hR.get_first
  have hx := hR.get_byte ((r.first + i) % 64) (Nat.mod_lt _ (by decide))
  clear hR
  generalize r.first = f at *
  go_enter Try.func54, Try.ntmps54
  go_wp2
  go_quiet (fail)
  go_wp2
  go_ret
  exact ⟨rfl, rfl, rfl, rfl⟩

set_option maxHeartbeats 400000 in
theorem drop_calls (b n : Nat) (w : World) (r : Rs) {v0 : Value} (hR : RunAt w b r v0) (hf : r.first < 64) (hn : n ≤ r.count) (hc : r.count ≤ 64) :
    Calls Try.prog 55 #[.pointer (some ⟨b, 12, none⟩), .int .i64 n] w fun e w' => e = .returned (.tuple #[]) ∧
      RunAt w' b { r with first := (r.first + n) % 64, count := r.count - n } v0 ∧ ∀ H, Keep H b w w' := by
  have h1 := hR.get_first
  have h2 := hR.get_count
  have f1 := hR.frozen 76
  have f2 := hR.frozen 77
  have HF : Hid (RunAt w b r v0) := hR
  clear hR
  generalize hf0 : r.first = f at *
  generalize hc0 : r.count = c at *
  have HE : Hid (r.first = f ∧ r.count = c) := ⟨hf0, hc0⟩
  clear hf0 hc0
  go_enter Try.func55, Try.ntmps55
  go_wp2
  go_end0
  refine ⟨rfl, ?_, fun H => (Keep.set w _ _).trans (Keep.set _ _ _)⟩
  have e1 : ((f : Int) + (n : Int)) % 64 = (((f + n) % 64 : Nat) : Int) := by omega
  have e2 : ((c : Int) - (n : Int)) = ((c - n : Nat) : Int) := by omega
  rw [e1, e2]
  exact (HF.out.set_first _).set_count _

set_option maxHeartbeats 800000 in
theorem add_calls (b v : Nat) (w : World) (r : Rs) {v0 : Value} (hR : RunAt w b r v0) (hf : r.first < 64) (hc : r.count < 64) :
    Calls Try.prog 44 #[.pointer (some ⟨b, 12, none⟩), .int .u8 v] w fun e w' => e = .returned (.tuple #[]) ∧
      RunAt w' b { r with byte := fun j => if j = (r.first + r.count) % 64 then v else r.byte j, count := r.count + 1 } v0 ∧ ∀ H, Keep H b w w' := by
  have h1 := hR.get_first
  have h2 := hR.get_count
  have h3 := hR.get_byte ((r.first + r.count) % 64) (Nat.mod_lt _ (by decide))
  have f1 := hR.frozen 77
  have f2 := hR.frozen (12 + (r.first + r.count) % 64)
  have HF : Hid (RunAt w b r v0) := hR
  clear hR
  generalize hf0 : r.first = f at *
  generalize hc0 : r.count = c at *
  have hm : (f + c) % 64 < 64 := Nat.mod_lt _ (by decide)
  have hne : ¬ (12 + (f + c) % 64 = 77) := by omega
  go_enter Try.func44, Try.ntmps44
  go_wp2
  go_region
  all_goals go_wp2
  all_goals go_end0
  all_goals
    refine ⟨rfl, ?_, fun H => ((Keep.set w _ _).trans (Keep.set _ _ _)).trans (Keep.drew _)⟩
    rw [show ((c : Int) + 1) = ((c + 1 : Nat) : Int) by omega]
    subst hf0 hc0
    exact ((HF.out.set_byte _ v hm).set_count _).drew

set_option maxHeartbeats 800000 in
theorem push_calls (b m : Nat) (w : World) (r : Rs) {v0 : Value} (hR : RunAt w b r v0) (hd : r.depth < 4) :
    Calls Try.prog 29 #[.pointer (some ⟨b, 0, none⟩), .int .i64 m] w fun e w' => e = .returned (.tuple #[]) ∧
      RunAt w' b { r with stack := fun j => if j = r.depth then m else r.stack j, depth := r.depth + 1 } v0 ∧ ∀ H, Keep H b w w' := by
  have h1 := hR.get_depth
  have h3 := hR.get_stack r.depth hd
  have f1 := hR.frozen 7
  have f2 := hR.frozen (3 + r.depth)
  have HF : Hid (RunAt w b r v0) := hR
  clear hR
  generalize hd0 : r.depth = d at *
  have hne : ¬ (3 + d = 7) := by omega
  go_enter Try.func29, Try.ntmps29
  go_wp2
  go_region
  all_goals go_wp2
  all_goals go_end0
  all_goals
    refine ⟨rfl, ?_, fun H => ((Keep.set w _ _).trans (Keep.set _ _ _)).trans (Keep.drew _)⟩
    rw [show ((d : Int) + 1) = ((d + 1 : Nat) : Int) by omega]
    subst hd0
    exact ((HF.out.set_stack _ m hd).set_depth _).drew

set_option maxHeartbeats 800000 in
theorem answer_calls (b : Nat) (w : World) (r : Rs) (ao : Option Addr) (n cap : Nat) (hR : RunAt w b r (.slice ao n cap)) :
    Calls Try.prog 33 #[.pointer (some ⟨b, 0, none⟩)] w fun e w' => e = .returned (.slice ao n cap) ∧
      RunAt w' b r (.slice none 0 0) ∧ ∀ H, Keep H b w w' := by
  have h1 := hR.get_told
  have f1 := hR.frozen 2
  have HF : Hid (RunAt w b r (.slice ao n cap)) := hR
  clear hR
  go_enter Try.func33, Try.ntmps33
  go_wp2
  go_ret
  exact ⟨rfl, HF.out.set_told _, fun H => Keep.set w _ _⟩

/-- The line and the column behind a byte. -/
def lineB (v l : Nat) : Nat := if v = 10 then l + 1 else l
def colB (v c : Nat) : Nat := if v = 10 then 1 else c + 1

set_option maxHeartbeats 800000 in
theorem behind_ifs (a l c v : Nat) (w : World) (ha : a < 2147483648) (hl : l < 2147483648) (hc : c < 2147483648) (hv : v < 256) :
    Calls Try.prog 56 #[.agg #[.int .i64 a, .int .i64 l, .int .i64 c], .int .u8 v] w fun e w' =>
      e = .returned (.agg #[.int .i64 ((a + 1 : Nat) : Int), .int .i64 ((if v = 10 then l + 1 else l : Nat) : Int), .int .i64 ((if v = 10 then 1 else c + 1 : Nat) : Int)]) ∧ Below w.heap.size w w' := by
  by_cases hv10 : v = 10
  · have ht : ((v : Int) == 10) = true := by rw [beq_iff_eq]; omega
    have HV : Hid (v = 10) := hv10
    clear hv10
    go_enter Try.func56, Try.ntmps56
    go_wp2
    refine bodyPost_ret (v := .agg #[.int .i64 ((a : Int) + 1), .int .i64 ((l : Int) + 1), .int .i64 1]) (by simp [results, Try.results56, go_sem]) rfl ⟨?_, ?_⟩
    · rfl
    · exact ((Below.refl _ _).alloc (Nat.le_refl _) _).alloc (by simp) _
  · have ht : ((v : Int) == 10) = false := by rw [beq_eq_false_iff_ne]; omega
    have HV : Hid (¬ v = 10) := hv10
    clear hv10
    go_enter Try.func56, Try.ntmps56
    go_wp2
    refine bodyPost_ret (v := .agg #[.int .i64 ((a : Int) + 1), .int .i64 (l : Int), .int .i64 ((c : Int) + 1)]) (by simp [results, Try.results56, go_sem]) rfl ⟨?_, ?_⟩
    · rfl
    · exact ((Below.refl _ _).alloc (Nat.le_refl _) _).alloc (by simp) _

theorem behind_calls (a l c v : Nat) (w : World) (ha : a < 2147483648) (hl : l < 2147483648) (hc : c < 2147483648) (hv : v < 256) :
    Calls Try.prog 56 #[.agg #[.int .i64 a, .int .i64 l, .int .i64 c], .int .u8 v] w fun e w' =>
      e = .returned (.agg #[.int .i64 ((a + 1 : Nat) : Int), .int .i64 (lineB v l : Nat), .int .i64 (colB v c : Nat)]) ∧ Below w.heap.size w w' := behind_ifs a l c v w ha hl hc hv

set_option maxHeartbeats 800000 in
theorem start_calls (b : Nat) (w : World) (r : Rs) {v0 : Value} (hR : RunAt w b r v0) (S : Nat → Prop) (t : Tb) (hT : TabAt w S r.tp t) (hd0 : 1 ≤ r.depth) (hd : r.depth ≤ 4) (hm : r.stack (r.depth - 1) < t.nmode) :
    Calls Try.prog 30 #[.pointer (some ⟨b, 0, none⟩)] w fun e w' => e = .returned (.int .i64 (t.start (r.stack (r.depth - 1)))) ∧ w'.Alike w := by
  have h0 := hR.get_tp
  have h1 := hR.get_depth
  have h2 := hR.get_stack (r.depth - 1) (by omega)
  obtain ⟨_, h3, b3, o3, cap3, hb3, rfl, hcap3, hml3, hL⟩ := hT.c3
  have hx : w.cell? ⟨b3, o3 + r.stack (r.depth - 1), none⟩ = some (.int .i64 (t.start (r.stack (r.depth - 1)) : Nat)) := hL _ hm
  clear hR hT hL
  generalize r.tp = p at *
  generalize t.start (r.stack (r.depth - 1)) = x at *
  generalize r.stack (r.depth - 1) = m at *
  generalize r.depth = d at *
  generalize t.nmode = n at *
  have i1 : (m : Int) < (n : Int) := by omega
  have i2 : (1 : Int) ≤ (d : Int) := by omega
  have i3 : (d : Int) ≤ 4 := by omega
  have h2' : w.cell? ⟨b, 3 + (d - 1), none⟩ = some (.int .i64 (m : Int)) := h2
  go_enter Try.func30, Try.ntmps30
  go_wp2
  go_quiet (fail)
  go_wp2
  go_ret
  exact ⟨rfl, rfl, rfl, rfl⟩
end Go.Proofs.Yteflpladkmihdaa
