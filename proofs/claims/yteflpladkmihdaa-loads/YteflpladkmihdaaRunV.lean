/- Tokens that end a mode and that begin one. -/
import Derived.Test.YteflpladkmihdaaRunU
set_option linter.unusedVariables false
set_option linter.unusedSimpArgs false
namespace Go.Proofs.Yteflpladkmihdaa
open Go.RowKit

set_option maxHeartbeats 2000000 in
theorem token_pop (b H : Nat) (S : Nat → Prop) (t : Tb) (w : World) (r : Rs) (v0 : Value) (n : Nat) (xs : List Value) (hC : Cx H b S t w r v0 n xs) (hn : n ≤ 4194304)
    (rule eAt eLine eCol : Nat) (hr : rule < t.nrule) (ho : t.act rule = 3) (hd0 : 2 ≤ r.depth) (hd4 : r.depth ≤ 4) (hst : r.stack (r.depth - 1 - 1) < t.nmode) :
    Calls Try.prog 59 #[.pointer (some ⟨b, 0, none⟩), .int .i64 rule, .agg #[.int .i64 eAt, .int .i64 eLine, .int .i64 eCol]] w fun e w' =>
      e = .returned (.tuple #[]) ∧ ∃ ao cap, Cx H b S t w' { r with depth := r.depth - 1, bAt := eAt, bLine := eLine, bCol := eCol, state := t.start (r.stack (r.depth - 1 - 1)) } (.slice ao (n + 1) cap) (n + 1) (xs ++ evCells 1 rule r.bAt eAt r.bLine r.bCol) ∧ Keep H b w w' := by
  have h0 := hC.run.get_tp
  have h7 := hC.run.get_depth
  have j1 : ((r.depth : Int) == 1) = false := by rw [beq_eq_false_iff_ne]; omega
  have j2 : (2 : Int) ≤ (r.depth : Int) := by omega
  have j3 : (r.depth : Int) ≤ 4 := by omega
  obtain ⟨_, h4, b4, o4, cap4, hb4, rfl, hcap4, hml4, hL⟩ := hC.tab.c4
  have hx : w.cell? ⟨b4, o4 + rule, none⟩ = some (.int .i64 (t.act rule : Nat)) := hL _ hr
  rw [ho] at hx
  have i1 : (rule : Int) < (t.nrule : Int) := by omega
  have l0 : b < w.heap.size := hC.run.lt
  have l4 : b4 < w.heap.size := Nat.lt_of_lt_of_le (hC.safe _ hb4).1 hC.HH
  have lp : r.tp < w.heap.size := Nat.lt_of_lt_of_le (hC.safe _ hC.tab.safe).1 hC.HH
  have HC : Hid (Cx H b S t w r v0 n xs) := hC
  clear hC hL
  go_enter Try.func59, Try.ntmps59
  go_wp2_with fail
  have ca := HC.out.alloc (.cells #[.int .i64 eAt, .int .i64 eLine, .int .i64 eCol] 56)
  refine (tell_calls2 b H S t 1 rule eAt _ r v0 n xs ca hn).mono ?_
  rintro e w1 ⟨rfl, ao, cap, cb, hk1, hf1⟩
  have hbox : w1.heap[w.heap.size]? = some (.cells #[.int .i64 eAt, .int .i64 eLine, .int .i64 eCol] 56) := by
    rw [hf1 w.heap.size (by simp) (by omega) (fun e => by have := (HC.out.own.lt _ e.symm).2; omega)]
    exact heap_alloc_new w _
  have x0 : w1.cell? ⟨w.heap.size, 0, none⟩ = some (.int .i64 eAt) := by simp [World.cell?, hbox]
  have x1 : w1.cell? ⟨w.heap.size, 1, none⟩ = some (.int .i64 eLine) := by simp [World.cell?, hbox]
  have x2 : w1.cell? ⟨w.heap.size, 2, none⟩ = some (.int .i64 eCol) := by simp [World.cell?, hbox]
  have d7 := cb.run.get_depth
  have g7 := cb.run.frozen 7
  have d8 := cb.run.get_bAt
  have g8 := cb.run.frozen 8
  have d9 := cb.run.get_bLine
  have g9 := cb.run.frozen 9
  have d10 := cb.run.get_bCol
  have g10 := cb.run.frozen 10
  have d11 := cb.run.get_state
  have g11 := cb.run.frozen 11
  have CB : Hid (Cx _ _ _ _ _ _ _ _ _) := cb
  have K1 : Hid (Keep H b w w1) := (Keep.alloc w _ HC.out.HH).trans hk1
  clear cb ca hk1 hf1 hbox
  go_wp2_with fail
  have ed : ((r.depth : Int) - 1) = ((r.depth - 1 : Nat) : Int) := by omega
  rw [ed]
  have c0 := CB.out.stored 7 _ (CB.out.run.set_depth (r.depth - 1)) rfl
  have c1 := c0.stored 8 _ (c0.run.set_bAt eAt) rfl
  have c2 := c1.stored 9 _ (c1.run.set_bLine eLine) rfl
  have c4 := c2.stored 10 _ (c2.run.set_bCol eCol) rfl
  have k4 := (((K1.out.trans (Keep.set w1 7 (.int .i64 (r.depth - 1 : Nat)))).trans (Keep.set _ 8 (.int .i64 eAt))).trans (Keep.set _ 9 (.int .i64 eLine))).trans (Keep.set _ 10 (.int .i64 eCol))
  clear c0 c1 c2
  refine (start_calls b _ _ c4.run S t c4.tab (by show 1 ≤ r.depth - 1; omega) (by show r.depth - 1 ≤ 4; omega) hst).mono ?_
  rintro e w9 ⟨rfl, ha9⟩
  have c5 := c4.alike ha9
  have k5 : Hid (Keep H b w w9) := k4.trans (Keep.alike ha9)
  have e11 := c5.run.get_state
  have z11 := c5.run.frozen 11
  have C5 : Hid (Cx _ _ _ _ _ _ _ _ _) := c5
  clear c5 c4 k4 ha9
  go_wp2
  go_end0
  exact ⟨rfl, ao, cap, C5.out.stored 11 _ (C5.out.run.set_state _) rfl, k5.out.trans (Keep.set _ _ _)⟩

set_option maxHeartbeats 2000000 in
theorem token_push (b H : Nat) (S : Nat → Prop) (t : Tb) (w : World) (r : Rs) (v0 : Value) (n : Nat) (xs : List Value) (hC : Cx H b S t w r v0 n xs) (hn : n ≤ 4194304)
    (rule eAt eLine eCol : Nat) (hr : rule < t.nrule) (ho : t.act rule = 2) (hd0 : 1 ≤ r.depth) (hd4 : r.depth < 4) (hst : t.push rule < t.nmode) :
    Calls Try.prog 59 #[.pointer (some ⟨b, 0, none⟩), .int .i64 rule, .agg #[.int .i64 eAt, .int .i64 eLine, .int .i64 eCol]] w fun e w' =>
      e = .returned (.tuple #[]) ∧ ∃ ao cap, Cx H b S t w' { r with stack := fun j => if j = r.depth then t.push rule else r.stack j, depth := r.depth + 1, bAt := eAt, bLine := eLine, bCol := eCol, state := t.start (t.push rule) } (.slice ao (n + 1) cap) (n + 1) (xs ++ evCells 1 rule r.bAt eAt r.bLine r.bCol) ∧ Keep H b w w' := by
  have h0 := hC.run.get_tp
  have h7 := hC.run.get_depth
  have j1 : ((r.depth : Int) == 4) = false := by rw [beq_eq_false_iff_ne]; omega
  obtain ⟨_, h4, b4, o4, cap4, hb4, rfl, hcap4, hml4, hL⟩ := hC.tab.c4
  have hx : w.cell? ⟨b4, o4 + rule, none⟩ = some (.int .i64 (t.act rule : Nat)) := hL _ hr
  rw [ho] at hx
  have i1 : (rule : Int) < (t.nrule : Int) := by omega
  have l0 : b < w.heap.size := hC.run.lt
  have l4 : b4 < w.heap.size := Nat.lt_of_lt_of_le (hC.safe _ hb4).1 hC.HH
  have lp : r.tp < w.heap.size := Nat.lt_of_lt_of_le (hC.safe _ hC.tab.safe).1 hC.HH
  have HC : Hid (Cx H b S t w r v0 n xs) := hC
  clear hC hL
  go_enter Try.func59, Try.ntmps59
  go_wp2_with fail
  have ca := HC.out.alloc (.cells #[.int .i64 eAt, .int .i64 eLine, .int .i64 eCol] 56)
  refine (tell_calls2 b H S t 1 rule eAt _ r v0 n xs ca hn).mono ?_
  rintro e w1 ⟨rfl, ao, cap, cb, hk1, hf1⟩
  have hbox : w1.heap[w.heap.size]? = some (.cells #[.int .i64 eAt, .int .i64 eLine, .int .i64 eCol] 56) := by
    rw [hf1 w.heap.size (by simp) (by omega) (fun e => by have := (HC.out.own.lt _ e.symm).2; omega)]
    exact heap_alloc_new w _
  have x0 : w1.cell? ⟨w.heap.size, 0, none⟩ = some (.int .i64 eAt) := by simp [World.cell?, hbox]
  have x1 : w1.cell? ⟨w.heap.size, 1, none⟩ = some (.int .i64 eLine) := by simp [World.cell?, hbox]
  have x2 : w1.cell? ⟨w.heap.size, 2, none⟩ = some (.int .i64 eCol) := by simp [World.cell?, hbox]
  have dt := cb.run.get_tp
  obtain ⟨_, h5, b5, o5, cap5, hb5, rfl, hcap5, hml5, hL5⟩ := cb.tab.c5
  have hx5 : w1.cell? ⟨b5, o5 + rule, none⟩ = some (.int .i64 (t.push rule : Nat)) := hL5 _ hr
  have CB : Hid (Cx _ _ _ _ _ _ _ _ _) := cb
  have K1 : Hid (Keep H b w w1) := (Keep.alloc w _ HC.out.HH).trans hk1
  clear cb ca hk1 hf1 hbox hL5
  go_wp2_with fail
  refine (push_calls b (t.push rule) _ _ CB.out.run (by exact hd4)).mono ?_
  rintro e w2 ⟨rfl, hR2, hk2⟩
  have cc := CB.out.kept hk2 hR2 rfl
  have y0 : w2.cell? ⟨w.heap.size, 0, none⟩ = some (.int .i64 eAt) := (World.cell?_of_block ((hk2 (w.heap.size + 1)).block _ (by show w.heap.size < _; omega) (by show w.heap.size ≠ b; omega))).trans x0
  have y1 : w2.cell? ⟨w.heap.size, 1, none⟩ = some (.int .i64 eLine) := (World.cell?_of_block ((hk2 (w.heap.size + 1)).block _ (by show w.heap.size < _; omega) (by show w.heap.size ≠ b; omega))).trans x1
  have y2 : w2.cell? ⟨w.heap.size, 2, none⟩ = some (.int .i64 eCol) := (World.cell?_of_block ((hk2 (w.heap.size + 1)).block _ (by show w.heap.size < _; omega) (by show w.heap.size ≠ b; omega))).trans x2
  have d8 := cc.run.get_bAt
  have g8 := cc.run.frozen 8
  have d9 := cc.run.get_bLine
  have g9 := cc.run.frozen 9
  have d10 := cc.run.get_bCol
  have g10 := cc.run.frozen 10
  have K2 : Hid (Keep H b w w2) := K1.out.trans (hk2 H)
  have CC : Hid (Cx _ _ _ _ _ _ _ _ _) := cc
  clear cc hk2 hR2
  go_wp2_with fail
  have c1 := CC.out.stored 8 _ (CC.out.run.set_bAt eAt) rfl
  have c2 := c1.stored 9 _ (c1.run.set_bLine eLine) rfl
  have c4 := c2.stored 10 _ (c2.run.set_bCol eCol) rfl
  have k4 := ((K2.out.trans (Keep.set w2 8 (.int .i64 eAt))).trans (Keep.set _ 9 (.int .i64 eLine))).trans (Keep.set _ 10 (.int .i64 eCol))
  clear c1 c2
  have hs : (fun j => if j = r.depth then t.push rule else r.stack j) (r.depth + 1 - 1) = t.push rule := by simp
  refine (start_calls b _ _ c4.run S t c4.tab (by show 1 ≤ r.depth + 1; omega) (by show r.depth + 1 ≤ 4; omega) (by show (fun j => if j = r.depth then t.push rule else r.stack j) (r.depth + 1 - 1) < t.nmode; rw [hs]; exact hst)).mono ?_
  rintro e w9 ⟨rfl, ha9⟩
  have c5 := c4.alike ha9
  have k5 : Hid (Keep H b w w9) := k4.trans (Keep.alike ha9)
  have e11 := c5.run.get_state
  have z11 := c5.run.frozen 11
  have C5 : Hid (Cx _ _ _ _ _ _ _ _ _) := c5
  clear c5 c4 k4 ha9
  go_wp2
  go_end0
  refine ⟨rfl, ao, cap, ?_, k5.out.trans (Keep.set _ 11 _)⟩
  have c6 := C5.out.stored 11 _ (C5.out.run.set_state (t.start (t.push rule))) rfl
  simpa using c6

end Go.Proofs.Yteflpladkmihdaa
