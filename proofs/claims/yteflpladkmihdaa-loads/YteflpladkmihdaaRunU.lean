/- A run tells an event behind which there is none; it does what a token does. -/
import Derived.Test.YteflpladkmihdaaRunT
import Derived.Test.YteflpladkmihdaaRunN
set_option linter.unusedVariables false
set_option linter.unusedSimpArgs false
namespace Go.Proofs.Yteflpladkmihdaa
open Go.RowKit

/-- All that a call of a run finds: the run in block b, what it has told, its tables; H: what was there when the call from outside began. -/
structure Cx (H b : Nat) (S : Nat → Prop) (t : Tb) (w : World) (r : Rs) (v0 : Value) (n : Nat) (xs : List Value) : Prop where
  run : RunAt w b r v0
  own : w.ownsRow H 105 6 v0 n xs
  tab : TabAt w S r.tp t
  bH : b < H
  HH : H ≤ w.heap.size
  safe : ∀ k, S k → k < H ∧ k ≠ b

namespace Cx
variable {H b : Nat} {S : Nat → Prop} {t : Tb} {w w' : World} {r r' : Rs} {v0 v1 : Value} {n n' : Nat} {xs xs' : List Value}
theorem below (h : Cx H b S t w r v0 n xs) (e : Below w.heap.size w w') : Cx H b S t w' r v0 n xs :=
  ⟨h.run.below e, h.own.kept ⟨e.os, e.tape, e.output, e.size, fun k hk _ => e.block k hk⟩ (row := none) (by cases hv : v0.ownBlock <;> simp), h.tab.keep fun k hk => e.block k (Nat.lt_of_lt_of_le (h.safe k hk).1 h.HH), h.bH, Nat.le_trans h.HH e.size, h.safe⟩
theorem alloc (h : Cx H b S t w r v0 n xs) (o : Obj) : Cx H b S t (w.alloc o) r v0 n xs := h.below ((Below.refl _ _).alloc (Nat.le_refl _) _)
theorem alike (h : Cx H b S t w r v0 n xs) (e : w'.Alike w) : Cx H b S t w' r v0 n xs :=
  ⟨h.run.alike e, by unfold World.ownsRow; rw [e.1]; exact h.own, h.tab.keep fun k _ => by rw [e.1], h.bH, by rw [e.1]; exact h.HH, h.safe⟩
/-- The run has turned, and nothing else that was there. -/
theorem next (h : Cx H b S t w r v0 n xs) (hk : Keep H b w w') (hr : RunAt w' b r' v1) (htp : r'.tp = r.tp) (ho : w'.ownsRow H 105 6 v1 n' xs') : Cx H b S t w' r' v1 n' xs' :=
  ⟨hr, ho, by rw [htp]; exact h.tab.keep fun k hs => hk.block k (h.safe k hs).1 (h.safe k hs).2, h.bH, Nat.le_trans h.HH hk.size, h.safe⟩
/-- A store into the run. -/
theorem stored (h : Cx H b S t w r v0 n xs) (i : Nat) (v : Value) (hr : RunAt (w.setCell ⟨b, i, none⟩ v) b r' v0) (htp : r'.tp = r.tp) : Cx H b S t (w.setCell ⟨b, i, none⟩ v) r' v0 n xs :=
  h.next (Keep.set _ _ _) hr htp (ownsRow_setCell_below h.own h.bH _)
theorem kept (h : Cx H b S t w r v0 n xs) (hk : ∀ H, Keep H b w w') (hr : RunAt w' b r' v0) (htp : r'.tp = r.tp) : Cx H b S t w' r' v0 n xs :=
  h.next (hk H) hr htp (by
    refine ⟨h.own.1, h.own.2.imp id ?_⟩
    rintro ⟨g, cap, cur, hv, hg, hh, rest⟩
    have hlt := (Array.getElem?_eq_some_iff.1 hh).1
    have hbH := h.bH
    exact ⟨g, cap, cur, hv, hg, ((hk w.heap.size).block g hlt (by omega)).trans hh, rest⟩)
end Cx

theorem tell_calls2 (b H : Nat) (S : Nat → Prop) (t : Tb) (kind rule to : Int) (w : World) (r : Rs) (v0 : Value) (n : Nat) (xs : List Value) (hC : Cx H b S t w r v0 n xs) (hn : n ≤ 4194304) :
    Calls Try.prog 60 #[.pointer (some ⟨b, 0, none⟩), .int .i64 kind, .int .i64 rule, .int .i64 to] w fun e w' =>
      e = .returned (.tuple #[]) ∧ ∃ ao cap, Cx H b S t w' r (.slice ao (n + 1) cap) (n + 1) (xs ++ evCells kind rule r.bAt to r.bLine r.bCol) ∧ Keep H b w w' ∧
        ∀ k, k < w.heap.size → k ≠ b → some k ≠ v0.ownBlock → w'.heap[k]? = w.heap[k]? := by
  have hR := hC.run
  have hown := hC.own
  have hb := hC.bH
  have hH := hC.HH
  have hlt := hown.lt
  have ag : v0.ownBlock ≠ some b := fun e => by have := hlt b e; omega
  refine (run_tell b kind rule to r.bAt r.bLine r.bCol v0 n H xs w hR.get_told hR.get_bAt hR.get_bLine hR.get_bCol (hR.frozen 2) hown hH (by unfold maxLen; omega) (by omega) ag).mono ?_
  rintro e w' ⟨rfl, g, cap, w1, hown1, hgrow, hat, hlt1, rfl⟩
  have hR1 : RunAt w1 b r v0 := hR.of_block (hgrow.block b hR.lt (Ne.symm ag))
  have hk : Keep H b w (w1.setCell ⟨b, 2, none⟩ (.slice (some ⟨g, 0, none⟩) (n + 1) cap)) := (Keep.grown hgrow hH fun k hk => (hlt k hk).1).trans (Keep.set _ _ _)
  refine ⟨rfl, some ⟨g, 0, none⟩, cap, hC.next hk (hR1.set_told _) rfl (ownsRow_setCell_below hown1 hb _), hk, fun k h1 h2 h3 => ?_⟩
  exact (Below.heap_setCell _ _ _ _ h2).trans (hgrow.block k h1 h3)

set_option maxHeartbeats 800000 in
theorem last_calls (b H : Nat) (S : Nat → Prop) (t : Tb) (kind : Int) (w : World) (r : Rs) (v0 : Value) (n : Nat) (xs : List Value) (hC : Cx H b S t w r v0 n xs) (hn : n ≤ 4194304) :
    Calls Try.prog 47 #[.pointer (some ⟨b, 0, none⟩), .int .i64 kind] w fun e w' =>
      e = .returned (.tuple #[]) ∧ ∃ ao cap, Cx H b S t w' { r with opn := false } (.slice ao (n + 1) cap) (n + 1) (xs ++ evCells kind 0 r.bAt r.bAt r.bLine r.bCol) ∧ Keep H b w w' := by
  have h8 := hC.run.get_bAt
  have HC : Hid (Cx H b S t w r v0 n xs) := hC
  clear hC
  go_enter Try.func47, Try.ntmps47
  go_wp2_with fail
  refine (tell_calls2 b H S t kind 0 r.bAt _ r v0 n xs HC.out hn).mono ?_
  rintro e w1 ⟨rfl, ao, cap, cb, hk1, _⟩
  have c1 := cb.run.get_opn
  have f1 := cb.run.frozen 1
  have HC1 : Hid (Cx H b S t w1 r (.slice ao (n + 1) cap) (n + 1) (xs ++ evCells kind 0 r.bAt r.bAt r.bLine r.bCol)) := cb
  have HK : Hid (Keep H b w w1) := hk1
  clear cb hk1
  go_wp2
  go_end0
  exact ⟨rfl, ao, cap, HC1.out.stored 1 _ (HC1.out.run.set_opn false) rfl, HK.out.trans (Keep.set _ _ _)⟩


/-- The stack behind a token's action. -/
def Rs.acted (r : Rs) (t : Tb) (rule : Nat) : Rs :=
  if t.act rule = 3 then { r with depth := r.depth - 1 }
  else if t.act rule = 2 then { r with stack := fun j => if j = r.depth then t.push rule else r.stack j, depth := r.depth + 1 }
  else r

set_option maxHeartbeats 2000000 in
theorem token_over (b H : Nat) (S : Nat → Prop) (t : Tb) (w : World) (r : Rs) (v0 : Value) (n : Nat) (xs : List Value) (hC : Cx H b S t w r v0 n xs) (hn : n ≤ 4194304)
    (rule eAt eLine eCol : Nat) (hr : rule < t.nrule) (ho : t.act rule = 2) (hd : r.depth = 4) :
    Calls Try.prog 59 #[.pointer (some ⟨b, 0, none⟩), .int .i64 rule, .agg #[.int .i64 eAt, .int .i64 eLine, .int .i64 eCol]] w fun e w' =>
      e = .returned (.tuple #[]) ∧ ∃ ao cap, Cx H b S t w' { r with opn := false } (.slice ao (n + 1) cap) (n + 1) (xs ++ evCells 4 0 r.bAt r.bAt r.bLine r.bCol) ∧ Keep H b w w' := by
  have h0 := hC.run.get_tp
  have h7 := hC.run.get_depth
  obtain ⟨_, h4, b4, o4, cap4, hb4, rfl, hcap4, hml4, hL⟩ := hC.tab.c4
  have hx : w.cell? ⟨b4, o4 + rule, none⟩ = some (.int .i64 (t.act rule : Nat)) := hL _ hr
  rw [ho] at hx
  rw [hd] at h7
  have i1 : (rule : Int) < (t.nrule : Int) := by omega
  have l0 : b < w.heap.size := hC.run.lt
  have l4 : b4 < w.heap.size := Nat.lt_of_lt_of_le (hC.safe _ hb4).1 hC.HH
  have lp : r.tp < w.heap.size := Nat.lt_of_lt_of_le (hC.safe _ hC.tab.safe).1 hC.HH
  have HC : Hid (Cx H b S t w r v0 n xs) := hC
  clear hC hL
  go_enter Try.func59, Try.ntmps59
  go_wp2_with fail
  refine (last_calls b H S t 4 _ r v0 n xs (HC.out.alloc _) hn).mono ?_
  rintro e w1 ⟨rfl, ao, cap, hC1, hk1⟩
  have HC1 : Hid (Cx H b S t w1 { r with opn := false } (.slice ao (n + 1) cap) (n + 1) (xs ++ evCells 4 0 r.bAt r.bAt r.bLine r.bCol)) := hC1
  clear hC1
  go_wp2
  refine bodyPost_ret (results_none rfl _ _ _) rfl ?_
  exact ⟨rfl, ao, cap, HC1.out, (Keep.alloc _ _ HC.out.HH).trans hk1⟩

set_option maxHeartbeats 2000000 in
theorem token_under (b H : Nat) (S : Nat → Prop) (t : Tb) (w : World) (r : Rs) (v0 : Value) (n : Nat) (xs : List Value) (hC : Cx H b S t w r v0 n xs) (hn : n ≤ 4194304)
    (rule eAt eLine eCol : Nat) (hr : rule < t.nrule) (ho : t.act rule = 3) (hd : r.depth = 1) :
    Calls Try.prog 59 #[.pointer (some ⟨b, 0, none⟩), .int .i64 rule, .agg #[.int .i64 eAt, .int .i64 eLine, .int .i64 eCol]] w fun e w' =>
      e = .returned (.tuple #[]) ∧ ∃ ao cap, Cx H b S t w' { r with opn := false } (.slice ao (n + 1) cap) (n + 1) (xs ++ evCells 5 0 r.bAt r.bAt r.bLine r.bCol) ∧ Keep H b w w' := by
  have h0 := hC.run.get_tp
  have h7 := hC.run.get_depth
  obtain ⟨_, h4, b4, o4, cap4, hb4, rfl, hcap4, hml4, hL⟩ := hC.tab.c4
  have hx : w.cell? ⟨b4, o4 + rule, none⟩ = some (.int .i64 (t.act rule : Nat)) := hL _ hr
  rw [ho] at hx
  rw [hd] at h7
  have i1 : (rule : Int) < (t.nrule : Int) := by omega
  have l0 : b < w.heap.size := hC.run.lt
  have l4 : b4 < w.heap.size := Nat.lt_of_lt_of_le (hC.safe _ hb4).1 hC.HH
  have lp : r.tp < w.heap.size := Nat.lt_of_lt_of_le (hC.safe _ hC.tab.safe).1 hC.HH
  have HC : Hid (Cx H b S t w r v0 n xs) := hC
  clear hC hL
  go_enter Try.func59, Try.ntmps59
  go_wp2_with fail
  refine (last_calls b H S t 5 _ r v0 n xs (HC.out.alloc _) hn).mono ?_
  rintro e w1 ⟨rfl, ao, cap, hC1, hk1⟩
  have HC1 : Hid (Cx H b S t w1 { r with opn := false } (.slice ao (n + 1) cap) (n + 1) (xs ++ evCells 5 0 r.bAt r.bAt r.bLine r.bCol)) := hC1
  clear hC1
  go_wp2
  refine bodyPost_ret (results_none rfl _ _ _) rfl ?_
  exact ⟨rfl, ao, cap, HC1.out, (Keep.alloc _ _ HC.out.HH).trans hk1⟩

set_option maxHeartbeats 2000000 in
theorem token_skip (b H : Nat) (S : Nat → Prop) (t : Tb) (w : World) (r : Rs) (v0 : Value) (n : Nat) (xs : List Value) (hC : Cx H b S t w r v0 n xs)
    (rule eAt eLine eCol : Nat) (hr : rule < t.nrule) (ho : t.act rule = 1) (hd0 : 1 ≤ r.depth) (hd4 : r.depth ≤ 4) (hst : r.stack (r.depth - 1) < t.nmode) :
    Calls Try.prog 59 #[.pointer (some ⟨b, 0, none⟩), .int .i64 rule, .agg #[.int .i64 eAt, .int .i64 eLine, .int .i64 eCol]] w fun e w' =>
      e = .returned (.tuple #[]) ∧ Cx H b S t w' { r with bAt := eAt, bLine := eLine, bCol := eCol, state := t.start (r.stack (r.depth - 1)) } v0 n xs ∧ Keep H b w w' := by
  have h0 := hC.run.get_tp
  have h7 := hC.run.get_depth
  obtain ⟨_, h4, b4, o4, cap4, hb4, rfl, hcap4, hml4, hL⟩ := hC.tab.c4
  have hx : w.cell? ⟨b4, o4 + rule, none⟩ = some (.int .i64 (t.act rule : Nat)) := hL _ hr
  rw [ho] at hx
  have i1 : (rule : Int) < (t.nrule : Int) := by omega
  have l0 : b < w.heap.size := hC.run.lt
  have l4 : b4 < w.heap.size := Nat.lt_of_lt_of_le (hC.safe _ hb4).1 hC.HH
  have lp : r.tp < w.heap.size := Nat.lt_of_lt_of_le (hC.safe _ hC.tab.safe).1 hC.HH
  have d8 := (hC).run.get_bAt
  have d9 := (hC).run.get_bLine
  have d10 := (hC).run.get_bCol
  have d11 := (hC).run.get_state
  have g8 := (hC).run.frozen 8
  have g9 := (hC).run.frozen 9
  have g10 := (hC).run.frozen 10
  have g11 := (hC).run.frozen 11
  have HC : Hid (Cx H b S t w r v0 n xs) := hC
  clear hC hL
  go_enter Try.func59, Try.ntmps59
  go_wp2_with fail
  have c1 := HC.out.stored 8 _ (HC.out.run.set_bAt eAt) rfl
  have c2 := c1.stored 9 _ (c1.run.set_bLine eLine) rfl
  have c3 := c2.stored 10 _ (c2.run.set_bCol eCol) rfl
  have c4 := c3.alloc (.cells #[.int .i64 eAt, .int .i64 eLine, .int .i64 eCol] 56)
  have k4 := (((Keep.set (H := H) (b := b) w 8 (.int .i64 eAt)).trans (Keep.set _ 9 (.int .i64 eLine))).trans (Keep.set _ 10 (.int .i64 eCol))).trans (Keep.alloc _ (.cells #[.int .i64 eAt, .int .i64 eLine, .int .i64 eCol] 56) c3.HH)
  clear c1 c2 c3
  refine (start_calls b _ _ c4.run S t c4.tab hd0 hd4 hst).mono ?_
  rintro e w9 ⟨rfl, ha9⟩
  have c5 := c4.alike ha9
  have k5 : Hid (Keep H b w w9) := k4.trans (Keep.alike ha9)
  have e11 := c5.run.get_state
  have z11 := c5.run.frozen 11
  have C5 : Hid (Cx _ _ _ _ _ _ _ _ _) := c5
  clear c5 c4 k4 ha9
  go_wp2
  go_end0
  exact ⟨rfl, C5.out.stored 11 _ (C5.out.run.set_state _) rfl, k5.out.trans (Keep.set _ _ _)⟩

set_option maxHeartbeats 2000000 in
theorem token_emit (b H : Nat) (S : Nat → Prop) (t : Tb) (w : World) (r : Rs) (v0 : Value) (n : Nat) (xs : List Value) (hC : Cx H b S t w r v0 n xs) (hn : n ≤ 4194304)
    (rule eAt eLine eCol : Nat) (hr : rule < t.nrule) (ho : t.act rule = 0) (hd0 : 1 ≤ r.depth) (hd4 : r.depth ≤ 4) (hst : r.stack (r.depth - 1) < t.nmode) :
    Calls Try.prog 59 #[.pointer (some ⟨b, 0, none⟩), .int .i64 rule, .agg #[.int .i64 eAt, .int .i64 eLine, .int .i64 eCol]] w fun e w' =>
      e = .returned (.tuple #[]) ∧ ∃ ao cap, Cx H b S t w' { r with bAt := eAt, bLine := eLine, bCol := eCol, state := t.start (r.stack (r.depth - 1)) } (.slice ao (n + 1) cap) (n + 1) (xs ++ evCells 1 rule r.bAt eAt r.bLine r.bCol) ∧ Keep H b w w' := by
  have h0 := hC.run.get_tp
  have h7 := hC.run.get_depth
  obtain ⟨_, h4, b4, o4, cap4, hb4, rfl, hcap4, hml4, hL⟩ := hC.tab.c4
  have hx : w.cell? ⟨b4, o4 + rule, none⟩ = some (.int .i64 (t.act rule : Nat)) := hL _ hr
  rw [ho] at hx
  have i1 : (rule : Int) < (t.nrule : Int) := by omega
  have l0 : b < w.heap.size := hC.run.lt
  have l4 : b4 < w.heap.size := Nat.lt_of_lt_of_le (hC.safe _ hb4).1 hC.HH
  have lp : r.tp < w.heap.size := Nat.lt_of_lt_of_le (hC.safe _ hC.tab.safe).1 hC.HH
  have HC : Hid (Cx H b S t w r v0 n xs) := hC
  clear hC hL
  go_enter Try.func59, Try.ntmps59
  go_wp2_with fail
  have ca := HC.out.alloc (.cells #[.int .i64 eAt, .int .i64 eLine, .int .i64 eCol] 56)
  refine (tell_calls2 b H S t 1 rule eAt _ r v0 n xs ca hn).mono ?_
  rintro e w1 ⟨rfl, ao, cap, cb, hk1, hf1⟩
  have hbox : w1.heap[w.heap.size]? = some (.cells #[.int .i64 eAt, .int .i64 eLine, .int .i64 eCol] 56) := by
    rw [hf1 w.heap.size (by simp) (by omega) (fun e => by have := (HC.out.own.lt _ e.symm).2; omega)]
    exact heap_alloc_new w _
  have x0 : w1.cell? ⟨w.heap.size, 0, none⟩ = some (.int .i64 eAt) := by simp [World.cell?, hbox]
  have x1 : w1.cell? ⟨w.heap.size, 1, none⟩ = some (.int .i64 eLine) := by simp [World.cell?, hbox]
  have x2 : w1.cell? ⟨w.heap.size, 2, none⟩ = some (.int .i64 eCol) := by simp [World.cell?, hbox]
  have d8 := cb.run.get_bAt
  have g8 := cb.run.frozen 8
  have d9 := cb.run.get_bLine
  have g9 := cb.run.frozen 9
  have d10 := cb.run.get_bCol
  have g10 := cb.run.frozen 10
  have d11 := cb.run.get_state
  have g11 := cb.run.frozen 11
  have CB : Hid (Cx _ _ _ _ _ _ _ _ _) := cb
  have K1 : Hid (Keep H b w w1) := (Keep.alloc w _ HC.out.HH).trans hk1
  clear cb ca hk1 hf1 hbox
  go_wp2_with fail
  have c1 := CB.out.stored 8 _ (CB.out.run.set_bAt eAt) rfl
  have c2 := c1.stored 9 _ (c1.run.set_bLine eLine) rfl
  have c4 := c2.stored 10 _ (c2.run.set_bCol eCol) rfl
  have k4 := ((K1.out.trans (Keep.set w1 8 (.int .i64 eAt))).trans (Keep.set _ 9 (.int .i64 eLine))).trans (Keep.set _ 10 (.int .i64 eCol))
  clear c1 c2
  refine (start_calls b _ _ c4.run S t c4.tab hd0 hd4 hst).mono ?_
  rintro e w9 ⟨rfl, ha9⟩
  have c5 := c4.alike ha9
  have k5 : Hid (Keep H b w w9) := k4.trans (Keep.alike ha9)
  have e11 := c5.run.get_state
  have z11 := c5.run.frozen 11
  have C5 : Hid (Cx _ _ _ _ _ _ _ _ _) := c5
  clear c5 c4 k4 ha9
  go_wp2
  go_end0
  exact ⟨rfl, ao, cap, C5.out.stored 11 _ (C5.out.run.set_state _) rfl, k5.out.trans (Keep.set _ _ _)⟩

end Go.Proofs.Yteflpladkmihdaa
