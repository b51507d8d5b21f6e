/- Run.tell: one event more. -/
import Derived.Test.YteflpladkmihdaaProg
import Derived.WalkKit
import Derived.WalkSpells
import Derived.WalkLawsBesides
import Derived.StillTactics
import Derived.OwnWalk
import Derived.Laws.Pointers
import Derived.Deep.RegionHeld3
import Derived.Deep.RegionLaw
import Derived.Deep.DrawnRows
import Derived.Deep.AppendLies
import Derived.KernelRfl
set_option linter.unusedVariables false
set_option linter.unusedSimpArgs false
namespace Go.Proofs.Yteflpladkmihdaa
open Go.RowKit
attribute [local go_sem ↓] Go.wp_at_zero Go.wp_at_succ

theorem Try.infoEv : (Try.prog.info? 105).map (fun i => (i.zero, i.size, i.bytes)) = some (some (.agg #[.int .i64 0, .int .i64 0, .int .i64 0, .int .i64 0, .int .i64 0, .int .i64 0]), 6, 48) := by kernel_rfl

theorem grownBy_of_alloc {w w1 : World} {o : Obj} {row : Option Nat} (h : (w.alloc o).drew.grownBy w1 row) : w.grownBy w1 row :=
  ⟨h.os, h.tape, h.output, Nat.le_trans (by simp) h.size, fun k hk hne => (h.block k (by simp; omega) hne).trans (Below.heap_alloc w o k hk)⟩

def evCells (k r f t l c : Int) : List Value := [.int .i64 k, .int .i64 r, .int .i64 f, .int .i64 t, .int .i64 l, .int .i64 c]

set_option maxRecDepth 100000 in
set_option maxHeartbeats 3200000 in
theorem run_tell (b : Nat) (kind rule to at_ line col : Int) (ov : Value) (n base : Nat) (xs : List Value) (w : World)
    (h2 : w.cell? ⟨b, 2, none⟩ = some ov)
    (h8 : w.cell? ⟨b, 8, none⟩ = some (.int .i64 at_)) (h9 : w.cell? ⟨b, 9, none⟩ = some (.int .i64 line)) (h10 : w.cell? ⟨b, 10, none⟩ = some (.int .i64 col))
    (f2 : w.frozen? ⟨b, 2, none⟩ = false)
    (hown : w.ownsRow base 105 6 ov n xs) (hbase : base ≤ w.heap.size) (hn : n + 1 ≤ maxLen) (hb : (n + 1) * 48 ≤ 140737488355328)
    (ag : ov.ownBlock ≠ some b) :
    Calls Try.prog 60 #[.pointer (some ⟨b, 0, none⟩), .int .i64 kind, .int .i64 rule, .int .i64 to] w fun e w' =>
      e = .returned (.tuple #[]) ∧ ∃ g cap w1, w1.ownsRow base 105 6 (.slice (some ⟨g, 0, none⟩) (n + 1) cap) (n + 1) (xs ++ evCells kind rule at_ to line col) ∧
        w.grownBy w1 ov.ownBlock ∧ (ov.ownBlock = some g ∨ g = w.heap.size + 1) ∧ g < w1.heap.size ∧ w' = w1.setCell ⟨b, 2, none⟩ (.slice (some ⟨g, 0, none⟩) (n + 1) cap) := by
  obtain ⟨i0, hi0, hz0, hz1, hz2⟩ := info_parts Try.infoEv
  have lb := World.block_lt_of_cell? w _ h2
  go_enter Try.func60, Try.ntmps60
  go_wp2_with fail
  go_region_law
    ((refine step_append_lies _ (by rfl) (.tmp 12) (.tmp 32) 32 (by rfl) base 105 i0 _ 6 48 Try.underlying32 hi0 hz0 hz1 hz2 rfl (by omega) ov n xs (by simp [Act.eval, Act.put]) ((hown.alloc _).drew)
        ⟨w.heap.size, 0, none⟩ 1 1 (evCells kind rule at_ to line col) (by simp [Act.eval, Act.put]) (by rfl) (World.news_of_block (cs := #[.int .i64 kind, .int .i64 rule, .int .i64 at_, .int .i64 to, .int .i64 line, .int .i64 col]) (t := 105) (fr := (0, 0)) (heap_alloc_new w _)) (by simp [Value.oneCell', evCells])
        (by omega) hn hb (by simp; omega) (w.heap.size + 1) (by simp) ?_; intro gg cap w1 hown1 hgrow hat hlt; have hc1 : w1.cell? ⟨b, 2, none⟩ = some ov := (hgrow.cell_far ⟨b, 2, none⟩ (by simp; omega) (Ne.symm ag)).trans ((World.cell?_alloc_past _ _ _ lb).trans h2); have hfz1 : w1.frozen? ⟨b, 2, none⟩ = false := (hgrow.frozen_far ⟨b, 2, none⟩ (by simp; omega) (Ne.symm ag)).trans ((World.frozen?_alloc_past _ _ _ lb).trans f2)))
  all_goals (go_end0; exact ⟨rfl, gg, cap, w1, hown1, grownBy_of_alloc hgrow, hat, hlt, rfl⟩)


end Go.Proofs.Yteflpladkmihdaa
