/- A run begins. -/
import Derived.Test.YteflpladkmihdaaRunO
import Derived.Test.YteflpladkmihdaaRunSToSeB
import Derived.Deep.WholeRow
import Derived.KernelRfl
set_option linter.unusedVariables false
set_option linter.unusedSimpArgs false
namespace Go.Proofs.Yteflpladkmihdaa
open Go.RowKit

/-- The cells of a run of noughts. -/
def zeroRun (i : Nat) : Value := if i = 0 then .pointer none else if i = 1 then .bool false else if i = 2 then .slice none 0 0 else if 12 ≤ i ∧ i < 76 then .int .u8 0 else .int .i64 0
theorem Try.zeroRunIs : Try.zeroCells61 = ((List.range 85).map zeroRun).toArray := by kernel_rfl
theorem Try.infoRun : (Try.prog.info? 61).map (·.size) = some 85 := by kernel_rfl
/-- A run that begins. -/
def Rs.zero (p : Nat) : Rs := ⟨p, true, fun _ => 0, 0, 0, 1, 1, 0, fun _ => 0, 0, 0, 0, 1, 1, 0, 0, 0, 0⟩
def runCells (z : Array Value) (p : Nat) : Array Value := (((((((z.setIfInBounds 0 (.pointer (some ⟨p, 0, none⟩))).setIfInBounds 1 (.bool true)).setIfInBounds 8 (.int .i64 0)).setIfInBounds 9 (.int .i64 1)).setIfInBounds 10 (.int .i64 1)).setIfInBounds 78 (.int .i64 0)).setIfInBounds 79 (.int .i64 1)).setIfInBounds 80 (.int .i64 1)
theorem runCells_size (p : Nat) : (runCells Try.zeroCells61 p).size = 85 := by unfold runCells; rw [Try.zeroRunIs]; simp
theorem runCells_at (p i : Nat) (hi : i < 85) : (runCells Try.zeroCells61 p)[i]? = some ((Rs.zero p).cells (.slice none 0 0) i) := by
  unfold runCells
  rw [Try.zeroRunIs]
  simp only [Array.getElem?_setIfInBounds, Array.size_setIfInBounds, List.getElem?_toArray, List.size_toArray, List.length_map, List.length_range, List.getElem?_map]
  rw [List.getElem?_range hi]
  unfold Rs.cells zeroRun Rs.zero
  simp only [Option.map_some]
  by_cases h0 : i = 0
  · subst h0; rfl
  by_cases h1 : i = 1
  · subst h1; rfl
  by_cases h2 : i = 2
  · subst h2; rfl
  by_cases h8 : i = 8
  · subst h8; rfl
  by_cases h9 : i = 9
  · subst h9; rfl
  by_cases h10 : i = 10
  · subst h10; rfl
  by_cases h78 : i = 78
  · subst h78; rfl
  by_cases h79 : i = 79
  · subst h79; rfl
  by_cases h80 : i = 80
  · subst h80; rfl
  rw [if_neg (Ne.symm h80), if_neg (Ne.symm h79), if_neg (Ne.symm h78), if_neg (Ne.symm h10), if_neg (Ne.symm h9), if_neg (Ne.symm h8), if_neg (Ne.symm h1), if_neg (Ne.symm h0)]
  simp only [h0, h1, h2, h8, h9, h10, h78, h79, h80, if_false]
  by_cases hb : 12 ≤ i ∧ i < 76
  · rw [if_pos hb]
    repeat rw [if_neg (by omega)]
    rfl
  · rw [if_neg hb]
    by_cases h3 : i = 3
    · subst h3; rfl
    by_cases h4 : i = 4
    · subst h4; rfl
    by_cases h5 : i = 5
    · subst h5; rfl
    by_cases h6 : i = 6
    · subst h6; rfl
    by_cases h7 : i = 7
    · subst h7; rfl
    by_cases h11 : i = 11
    · subst h11; rfl
    by_cases h76 : i = 76
    · subst h76; rfl
    by_cases h77 : i = 77
    · subst h77; rfl
    by_cases h81 : i = 81
    · subst h81; rfl
    by_cases h82 : i = 82
    · subst h82; rfl
    by_cases h83 : i = 83
    · subst h83; rfl
    have h84 : i = 84 := by omega
    subst h84
    rfl
theorem keep_new {H : Nat} (w : World) (g i : Nat) (x : Value) (hg : H ≤ g) : Keep H H w (w.setCell ⟨g, i, none⟩ x) := ⟨rfl, rfl, by simp [World.setCell], fun k h1 _ => Below.heap_setCell _ _ _ _ (by show k ≠ g; omega)⟩
theorem ite_one {c : Prop} [Decidable c] {x y : Value} (hx : x.oneCell' = true) (hy : y.oneCell' = true) : (if c then x else y).oneCell' = true := by split <;> assumption
theorem Rs.cells_one (r : Rs) (v : Value) (j : Nat) (hv : v.oneCell' = true) : (r.cells v j).oneCell' = true := by
  unfold Rs.cells
  exact ite_one rfl (ite_one rfl (ite_one hv (ite_one rfl (ite_one rfl (ite_one rfl (ite_one rfl (ite_one rfl (ite_one rfl (ite_one rfl (ite_one rfl (ite_one rfl (ite_one rfl (ite_one rfl (ite_one rfl (ite_one rfl (ite_one rfl (ite_one rfl (ite_one rfl (ite_one rfl (ite_one rfl rfl))))))))))))))))))))
theorem cells_all (r : Rs) (v : Value) (hv : v.oneCell' = true) (C : Array Value) (hs : C.size = 85) (h : ∀ i, i < 85 → C[i]? = some (r.cells v i)) : C.all (·.oneCell') = true := by
  rw [Array.all_eq_true]
  intro i hi
  have e := h i (by omega)
  rw [Array.getElem?_eq_getElem hi] at e
  rw [Option.some.inj e]
  exact r.cells_one v i hv

set_option maxHeartbeats 8000000 in
set_option maxRecDepth 100000 in
theorem begin_calls (p : Nat) (S : Nat → Prop) (t : Tb) (w : World) (hT : TabAt w S p t) (hS : ∀ k, S k → k < w.heap.size) (ok : t.Ok) :
    Calls Try.prog 16 #[.pointer (some ⟨p, 0, none⟩)] w fun e w' => ∃ c : Array Value, e = .returned (.agg c) ∧ c.size = 85 ∧ (∀ i, i < 85 → c[i]? = some (({ Rs.zero p with stack := fun _ => 0, depth := 1, state := t.start 0 } : Rs).cells (.slice none 0 0) i)) ∧ Keep w.heap.size w.heap.size w w' := by
  have hst : (storeCells { block := w.heap.size + 1 + 1, off := 0 } ((((((((Try.zeroCells61.toList.set 0 (Value.pointer (some { block := p, off := 0 }))).set 1 (Value.bool true)).set 8 (Value.int IntKind.i64 0)).set 9 (Value.int IntKind.i64 1)).set 10 (Value.int IntKind.i64 1)).set 78 (Value.int IntKind.i64 0)).set 79 (Value.int IntKind.i64 1)).set 80 (Value.int IntKind.i64 1))).run Try.prog
      (((w.alloc (Obj.cells Try.zeroCells61 61)).alloc (Obj.cells #[Value.int IntKind.i64 0, Value.int IntKind.i64 1, Value.int IntKind.i64 1] 56)).alloc (Obj.cells Try.zeroCells61 61)) =
      .ok () (((w.alloc (Obj.cells Try.zeroCells61 61)).alloc (Obj.cells #[Value.int IntKind.i64 0, Value.int IntKind.i64 1, Value.int IntKind.i64 1] 56)).alloc (Obj.cells (runCells Try.zeroCells61 p) 61)) := by
    have h := run_storeCells_new (P := Try.prog) ((w.alloc (Obj.cells Try.zeroCells61 61)).alloc (Obj.cells #[Value.int IntKind.i64 0, Value.int IntKind.i64 1, Value.int IntKind.i64 1] 56)) 61 Try.zeroCells61 (runCells Try.zeroCells61 p) (by rw [runCells_size]; exact Try.infoRun) (by rw [runCells_size, Try.zeroRunIs]; simp) (cells_all (Rs.zero p) (.slice none 0 0) rfl _ (runCells_size p) (runCells_at p))
    rw [show ((w.alloc (Obj.cells Try.zeroCells61 61)).alloc (Obj.cells #[Value.int IntKind.i64 0, Value.int IntKind.i64 1, Value.int IntKind.i64 1] 56)).heap.size = w.heap.size + 1 + 1 by simp] at h
    simpa only [runCells, Array.toList_setIfInBounds] using h
  have HT : Hid (TabAt w S p t ∧ ∀ k, S k → k < w.heap.size) := ⟨hT, hS⟩
  clear hT hS
  go_enter Try.func16, Try.ntmps16
  refine wp_seq_k ?_
  intro K0 hK0
  have HK0 : Hid (∀ a w, _ → K0 a w) := hK0
  clear hK0
  go_wp2_with fail
  refine HK0.out _ _ ?_
  clear HK0
  refine wp_seq_k ?_
  intro K1 hK1
  have HK1 : Hid (∀ a w, _ → K1 a w) := hK1
  clear hK1
  go_wp2_with fail
  refine HK1.out _ _ ?_
  clear HK1
  refine wp_seq_k ?_
  intro K2 hK2
  have HK2 : Hid (∀ a w, _ → K2 a w) := hK2
  clear hK2
  go_wp2_with fail
  refine HK2.out _ _ ?_
  clear HK2
  obtain ⟨w3, hw3, A3⟩ : ∃ w3, w3 = (((w.alloc (Obj.cells Try.zeroCells61 61)).alloc (Obj.cells #[Value.int IntKind.i64 0, Value.int IntKind.i64 1, Value.int IntKind.i64 1] 56)).alloc (Obj.cells (runCells Try.zeroCells61 p) 61)) ∧
      Hid (RunAt w3 (w.heap.size + 1 + 1) (Rs.zero p) (.slice none 0 0) ∧ w3.heap[w.heap.size]? = some (.cells Try.zeroCells61 61 (0, 0)) ∧ TabAt w3 S p t ∧ Keep w.heap.size w.heap.size w w3 ∧ w.heap.size + 3 ≤ w3.heap.size) := by
    have hn := heap_alloc_new ((w.alloc (Obj.cells Try.zeroCells61 61)).alloc (Obj.cells #[Value.int IntKind.i64 0, Value.int IntKind.i64 1, Value.int IntKind.i64 1] 56)) (Obj.cells (runCells Try.zeroCells61 p) 61)
    rw [show ((w.alloc (Obj.cells Try.zeroCells61 61)).alloc (Obj.cells #[Value.int IntKind.i64 0, Value.int IntKind.i64 1, Value.int IntKind.i64 1] 56)).heap.size = w.heap.size + 1 + 1 by simp] at hn
    refine ⟨_, rfl, ⟨_, _, hn, runCells_size p, fun i hi => runCells_at p i hi⟩, ?_, ?_, ?_, by simp⟩
    · exact (Below.heap_alloc _ _ _ (by simp; omega)).trans ((Below.heap_alloc _ _ _ (by simp)).trans (heap_alloc_new w _))
    · exact HT.out.1.keep fun k hk => by
        have := HT.out.2 k hk
        exact (Below.heap_alloc _ _ _ (by simp; omega)).trans ((Below.heap_alloc _ _ _ (by simp; omega)).trans (Below.heap_alloc _ _ _ this))
    · exact ((Keep.alloc _ _ (Nat.le_refl _)).trans (Keep.alloc _ _ (by simp))).trans (Keep.alloc _ _ (by simp; omega))
  rw [← hw3]
  clear hw3 hst
  refine wp_seq_k ?_
  intro K3 hK3
  have HK3 : Hid (∀ a w, _ → K3 a w) := hK3
  clear hK3
  go_wp2_with fail
  refine (push_calls (w.heap.size + 1 + 1) 0 w3 (Rs.zero p) A3.out.1 (by show (0 : Nat) < 4; decide)).mono ?_
  rintro e w4 ⟨rfl, hR4, hk4⟩
  have A4 : Hid (RunAt w4 (w.heap.size + 1 + 1) { Rs.zero p with stack := fun j => if j = 0 then 0 else 0, depth := 1 } (.slice none 0 0) ∧ w4.heap[w.heap.size]? = some (.cells Try.zeroCells61 61 (0, 0)) ∧ TabAt w4 S p t ∧ Keep w.heap.size w.heap.size w w4 ∧ w.heap.size + 3 ≤ w4.heap.size) := by
    refine ⟨hR4, ((hk4 w3.heap.size).block _ (by have := A3.out.2.2.2.2; omega) (by omega)).trans A3.out.2.1, A3.out.2.2.1.keep fun k hk => (hk4 w3.heap.size).block k (by have := HT.out.2 k hk; have := A3.out.2.2.2.2; omega) (by have := HT.out.2 k hk; omega), A3.out.2.2.2.1.trans ⟨(hk4 0).os, (hk4 0).output, (hk4 0).size, fun k hk _ => (hk4 w3.heap.size).block k (by have := A3.out.2.2.2.2; omega) (by omega)⟩, Nat.le_trans A3.out.2.2.2.2 (hk4 0).size⟩
  clear hR4 hk4 A3
  go_wp2_with fail
  refine HK3.out _ _ ?_
  clear HK3
  refine wp_seq_k ?_
  intro K4 hK4
  have HK4 : Hid (∀ a w, _ → K4 a w) := hK4
  clear hK4
  have y11 : w4.cell? ⟨w.heap.size + 1 + 1, 11, none⟩ = some (.int .i64 0) := A4.out.1.get_state
  have z11 := A4.out.1.frozen 11
  go_wp2_with fail
  refine (start_calls (w.heap.size + 1 + 1) w4 _ A4.out.1 S t A4.out.2.2.1 (Nat.le_refl _) (by show (1 : Nat) ≤ 4; decide) ok.nmode).mono ?_
  rintro e w5 ⟨rfl, ha5⟩
  have y11' : w5.cell? ⟨w.heap.size + 1 + 1, 11, none⟩ = some (.int .i64 0) := (ha5.cell _).trans y11
  have z11' : w5.frozen? ⟨w.heap.size + 1 + 1, 11, none⟩ = false := (ha5.frozen _).trans z11
  clear y11 z11
  go_wp2_with fail
  refine HK4.out _ _ ?_
  clear HK4
  obtain ⟨w6, hw6, A6⟩ : ∃ w6, w6 = w5.setCell ⟨w.heap.size + 1 + 1, 11, none⟩ (.int .i64 (t.start 0 : Nat)) ∧ Hid (RunAt w6 (w.heap.size + 1 + 1) { Rs.zero p with stack := fun _ => 0, depth := 1, state := t.start 0 } (.slice none 0 0) ∧ w6.heap[w.heap.size]? = some (.cells Try.zeroCells61 61 (0, 0)) ∧ Keep w.heap.size w.heap.size w w6 ∧ w.heap.size + 3 ≤ w6.heap.size) := by
    have hR := (A4.out.1.alike ha5).set_state (t.start 0)
    rw [show (fun j => if j = 0 then 0 else 0 : Nat → Nat) = fun _ => 0 from funext fun j => by split <;> rfl] at hR
    refine ⟨_, rfl, hR, (Below.heap_setCell _ _ _ _ (by show w.heap.size ≠ w.heap.size + 1 + 1; omega)).trans ((by rw [ha5.1] : w5.heap[w.heap.size]? = w4.heap[w.heap.size]?).trans A4.out.2.1), (A4.out.2.2.2.1.trans (Keep.alike ha5)).trans (keep_new _ _ _ _ (by omega)), ?_⟩
    have := A4.out.2.2.2.2
    rw [← ha5.1] at this
    simpa [World.setCell] using this
  rw [← hw6]
  clear hw6 y11' z11' ha5 A4
  obtain ⟨hR6, hZ6, hK6, hS6⟩ := A6.out
  obtain ⟨ty, c, hg6, hc85, hcat⟩ := hR6
  have hone := cells_all _ (.slice none 0 0) rfl c hc85 hcat
  clear A6
  have HCA : Hid (∀ i, i < 85 → c[i]? = some (({ Rs.zero p with stack := fun _ => 0, depth := 1, state := t.start 0 } : Rs).cells (.slice none 0 0) i)) := hcat
  have HG6 : Hid (w6.heap[w.heap.size + 1 + 1]? = some (.cells c ty (0, 0))) := hg6
  have HZ6 : Hid (w6.heap[w.heap.size]? = some (.cells Try.zeroCells61 61 (0, 0))) := hZ6
  have HON : Hid (c.all (·.oneCell') = true) := hone
  clear hcat hg6 hZ6 hone
  go_wp2_with fail
  refine wp_load_row 61 (.tmp 4) rfl (w.heap.size + 1 + 1) rfl ty c (0, 0) _ HG6.out Try.underlying61 rfl (by rw [hc85]; exact Try.infoRun) ?_
  have hs3 : (storeCells ⟨w.heap.size, 0, none⟩ c.toList).run Try.prog w6 = .ok () (w6.setRow w.heap.size c) := by
    have h := run_storeCells_from (P := Try.prog) w.heap.size 61 c.toList 0 Try.zeroCells61 w6 HZ6.out (by rw [Try.zeroRunIs]; simp [hc85]) (fun v hv => (Array.all_eq_true_iff_forall_mem.1 HON.out) v (by simpa using hv))
    simpa using h
  go_wp2_with fail
  have hg7 : (w6.setRow w.heap.size c).heap[w.heap.size]? = some (.cells c 61 (0, 0)) := by
    unfold World.setRow
    simp [Array.getElem?_modify, HZ6.out]
  have hl2 : (loadVar 61 ⟨w.heap.size, 0, none⟩).run Try.prog (w6.setRow w.heap.size c) = .ok (.agg c) (w6.setRow w.heap.size c) := run_loadVar_row _ _ 61 61 c (0, 0) _ hg7 Try.underlying61 rfl (by rw [hc85]; exact Try.infoRun)
  refine bodyPost_ret (v := .agg c) ?_ rfl ⟨c, rfl, hc85, HCA.out, hK6.trans ?_⟩
  · unfold results
    rw [Try.results16]
    simp [hl2, asAddr, Sem.run_bind, Sem.run_pure]
  · refine ⟨rfl, rfl, by simp [World.setRow], fun k hk _ => ?_⟩
    unfold World.setRow
    simp [Array.getElem?_modify]
    intro e
    omega
end Go.Proofs.Yteflpladkmihdaa
