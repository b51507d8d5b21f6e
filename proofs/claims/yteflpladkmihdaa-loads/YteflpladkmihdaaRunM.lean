/- A run in memory: its cells; what a call keeps. -/
import Derived.WalkKit
import Derived.WalkSpells
import Derived.Deep.OwnRows
import Derived.Deep.AppendLies
set_option linter.unusedVariables false
set_option linter.unusedSimpArgs false
namespace Go.Proofs.Yteflpladkmihdaa
open Go.RowKit

/-- A run: where its tables lie; what it has told (a slice); its stack; places; what it holds. -/
structure Rs where
  tp : Nat
  opn : Bool
  stack : Nat → Nat
  depth : Nat
  bAt : Nat
  bLine : Nat
  bCol : Nat
  state : Nat
  byte : Nat → Nat
  first : Nat
  count : Nat
  hAt : Nat
  hLine : Nat
  hCol : Nat
  ahead : Nat
  taken : Nat
  length : Nat
  rule : Int

/-- Its cells. -/
def Rs.cells (r : Rs) (v0 : Value) (j : Nat) : Value :=
  if j = 0 then .pointer (some ⟨r.tp, 0, none⟩) else
  if j = 1 then .bool r.opn else
  if j = 2 then v0 else
  if j = 3 then .int .i64 (r.stack 0) else
  if j = 4 then .int .i64 (r.stack 1) else
  if j = 5 then .int .i64 (r.stack 2) else
  if j = 6 then .int .i64 (r.stack 3) else
  if j = 7 then .int .i64 r.depth else
  if j = 8 then .int .i64 r.bAt else
  if j = 9 then .int .i64 r.bLine else
  if j = 10 then .int .i64 r.bCol else
  if j = 11 then .int .i64 r.state else
  if j = 76 then .int .i64 r.first else
  if j = 77 then .int .i64 r.count else
  if j = 78 then .int .i64 r.hAt else
  if j = 79 then .int .i64 r.hLine else
  if j = 80 then .int .i64 r.hCol else
  if j = 81 then .int .i64 r.ahead else
  if j = 82 then .int .i64 r.taken else
  if j = 83 then .int .i64 r.length else
  if j = 84 then .int .i64 r.rule else
  .int .u8 (r.byte (j - 12))

/-- The run lies in block b; v0: the slice of what it has told. -/
def RunAt (w : World) (b : Nat) (r : Rs) (v0 : Value) : Prop := ∃ t, w.rowIs b t 85 (r.cells v0)

theorem Rs.cells_byte (r : Rs) (v0 : Value) (i : Nat) (h : i < 64) : r.cells v0 (12 + i) = .int .u8 (r.byte i) := by
  unfold Rs.cells
  repeat rw [if_neg (by omega)]
  rw [Nat.add_sub_cancel_left]
theorem Rs.cells_stack (r : Rs) (v0 : Value) (i : Nat) (h : i < 4) : r.cells v0 (3 + i) = .int .i64 (r.stack i) := by
  match i, h with
  | 0, _ => rfl
  | 1, _ => rfl
  | 2, _ => rfl
  | 3, _ => rfl

namespace RunAt
variable {w w' : World} {b : Nat} {r r' : Rs} {v0 v1 : Value}
theorem cell (h : RunAt w b r v0) (i : Nat) (hi : i < 85) : w.cell? ⟨b, i, none⟩ = some (r.cells v0 i) := h.elim fun _ h => h.cell hi
theorem frozen (h : RunAt w b r v0) (i : Nat) : w.frozen? ⟨b, i, none⟩ = false := h.elim fun _ h => h.frozen i
theorem lt (h : RunAt w b r v0) : b < w.heap.size := h.elim fun _ h => h.lt
theorem of_block (h : RunAt w b r v0) (e : w'.heap[b]? = w.heap[b]?)  : RunAt w' b r v0 := h.elim fun t h => ⟨t, h.of_block e⟩
theorem alike (h : RunAt w b r v0) (e : w'.Alike w)  : RunAt w' b r v0 := h.of_block (by rw [e.1])
theorem below (h : RunAt w b r v0) (e : Below w.heap.size w w')  : RunAt w' b r v0 := h.of_block (e.block b h.lt)
theorem drew (h : RunAt w b r v0) : RunAt w.drew b r v0 := h
theorem set (h : RunAt w b r v0) (i : Nat) (v : Value) (e : ∀ j, j < 85 → (if j = i then v else r.cells v0 j) = r'.cells v1 j) : RunAt (w.setCell ⟨b, i, none⟩ v) b r' v1 :=
  h.elim fun t h => ⟨t, (h.set i v).congr e⟩
theorem set_opn (h : RunAt w b r v0) (v : Bool) : RunAt (w.setCell ⟨b, 1, none⟩ (.bool v)) b { r with opn := v } v0 :=
  h.set 1 _ fun j _ => by
    by_cases e : j = 1
    · subst e; rfl
    · rw [if_neg e]; simp [Rs.cells, e]
theorem get_opn (h : RunAt w b r v0) : w.cell? ⟨b, 1, none⟩ = some (.bool r.opn) := h.cell 1 (by decide)
theorem set_told (h : RunAt w b r v0) (v : Value) : RunAt (w.setCell ⟨b, 2, none⟩ (v)) b r v :=
  h.set 2 _ fun j _ => by
    by_cases e : j = 2
    · subst e; rfl
    · rw [if_neg e]; simp [Rs.cells, e]
theorem get_told (h : RunAt w b r v0) : w.cell? ⟨b, 2, none⟩ = some v0 := h.cell 2 (by decide)
theorem set_depth (h : RunAt w b r v0) (v : Nat) : RunAt (w.setCell ⟨b, 7, none⟩ (.int .i64 (v : Int))) b { r with depth := v } v0 :=
  h.set 7 _ fun j _ => by
    by_cases e : j = 7
    · subst e; rfl
    · rw [if_neg e]; simp [Rs.cells, e]
theorem get_depth (h : RunAt w b r v0) : w.cell? ⟨b, 7, none⟩ = some (.int .i64 (r.depth : Int)) := h.cell 7 (by decide)
theorem set_bAt (h : RunAt w b r v0) (v : Nat) : RunAt (w.setCell ⟨b, 8, none⟩ (.int .i64 (v : Int))) b { r with bAt := v } v0 :=
  h.set 8 _ fun j _ => by
    by_cases e : j = 8
    · subst e; rfl
    · rw [if_neg e]; simp [Rs.cells, e]
theorem get_bAt (h : RunAt w b r v0) : w.cell? ⟨b, 8, none⟩ = some (.int .i64 (r.bAt : Int)) := h.cell 8 (by decide)
theorem set_bLine (h : RunAt w b r v0) (v : Nat) : RunAt (w.setCell ⟨b, 9, none⟩ (.int .i64 (v : Int))) b { r with bLine := v } v0 :=
  h.set 9 _ fun j _ => by
    by_cases e : j = 9
    · subst e; rfl
    · rw [if_neg e]; simp [Rs.cells, e]
theorem get_bLine (h : RunAt w b r v0) : w.cell? ⟨b, 9, none⟩ = some (.int .i64 (r.bLine : Int)) := h.cell 9 (by decide)
theorem set_bCol (h : RunAt w b r v0) (v : Nat) : RunAt (w.setCell ⟨b, 10, none⟩ (.int .i64 (v : Int))) b { r with bCol := v } v0 :=
  h.set 10 _ fun j _ => by
    by_cases e : j = 10
    · subst e; rfl
    · rw [if_neg e]; simp [Rs.cells, e]
theorem get_bCol (h : RunAt w b r v0) : w.cell? ⟨b, 10, none⟩ = some (.int .i64 (r.bCol : Int)) := h.cell 10 (by decide)
theorem set_state (h : RunAt w b r v0) (v : Nat) : RunAt (w.setCell ⟨b, 11, none⟩ (.int .i64 (v : Int))) b { r with state := v } v0 :=
  h.set 11 _ fun j _ => by
    by_cases e : j = 11
    · subst e; rfl
    · rw [if_neg e]; simp [Rs.cells, e]
theorem get_state (h : RunAt w b r v0) : w.cell? ⟨b, 11, none⟩ = some (.int .i64 (r.state : Int)) := h.cell 11 (by decide)
theorem set_first (h : RunAt w b r v0) (v : Nat) : RunAt (w.setCell ⟨b, 76, none⟩ (.int .i64 (v : Int))) b { r with first := v } v0 :=
  h.set 76 _ fun j _ => by
    by_cases e : j = 76
    · subst e; rfl
    · rw [if_neg e]; simp [Rs.cells, e]
theorem get_first (h : RunAt w b r v0) : w.cell? ⟨b, 76, none⟩ = some (.int .i64 (r.first : Int)) := h.cell 76 (by decide)
theorem set_count (h : RunAt w b r v0) (v : Nat) : RunAt (w.setCell ⟨b, 77, none⟩ (.int .i64 (v : Int))) b { r with count := v } v0 :=
  h.set 77 _ fun j _ => by
    by_cases e : j = 77
    · subst e; rfl
    · rw [if_neg e]; simp [Rs.cells, e]
theorem get_count (h : RunAt w b r v0) : w.cell? ⟨b, 77, none⟩ = some (.int .i64 (r.count : Int)) := h.cell 77 (by decide)
theorem set_hAt (h : RunAt w b r v0) (v : Nat) : RunAt (w.setCell ⟨b, 78, none⟩ (.int .i64 (v : Int))) b { r with hAt := v } v0 :=
  h.set 78 _ fun j _ => by
    by_cases e : j = 78
    · subst e; rfl
    · rw [if_neg e]; simp [Rs.cells, e]
theorem get_hAt (h : RunAt w b r v0) : w.cell? ⟨b, 78, none⟩ = some (.int .i64 (r.hAt : Int)) := h.cell 78 (by decide)
theorem set_hLine (h : RunAt w b r v0) (v : Nat) : RunAt (w.setCell ⟨b, 79, none⟩ (.int .i64 (v : Int))) b { r with hLine := v } v0 :=
  h.set 79 _ fun j _ => by
    by_cases e : j = 79
    · subst e; rfl
    · rw [if_neg e]; simp [Rs.cells, e]
theorem get_hLine (h : RunAt w b r v0) : w.cell? ⟨b, 79, none⟩ = some (.int .i64 (r.hLine : Int)) := h.cell 79 (by decide)
theorem set_hCol (h : RunAt w b r v0) (v : Nat) : RunAt (w.setCell ⟨b, 80, none⟩ (.int .i64 (v : Int))) b { r with hCol := v } v0 :=
  h.set 80 _ fun j _ => by
    by_cases e : j = 80
    · subst e; rfl
    · rw [if_neg e]; simp [Rs.cells, e]
theorem get_hCol (h : RunAt w b r v0) : w.cell? ⟨b, 80, none⟩ = some (.int .i64 (r.hCol : Int)) := h.cell 80 (by decide)
theorem set_ahead (h : RunAt w b r v0) (v : Nat) : RunAt (w.setCell ⟨b, 81, none⟩ (.int .i64 (v : Int))) b { r with ahead := v } v0 :=
  h.set 81 _ fun j _ => by
    by_cases e : j = 81
    · subst e; rfl
    · rw [if_neg e]; simp [Rs.cells, e]
theorem get_ahead (h : RunAt w b r v0) : w.cell? ⟨b, 81, none⟩ = some (.int .i64 (r.ahead : Int)) := h.cell 81 (by decide)
theorem set_taken (h : RunAt w b r v0) (v : Nat) : RunAt (w.setCell ⟨b, 82, none⟩ (.int .i64 (v : Int))) b { r with taken := v } v0 :=
  h.set 82 _ fun j _ => by
    by_cases e : j = 82
    · subst e; rfl
    · rw [if_neg e]; simp [Rs.cells, e]
theorem get_taken (h : RunAt w b r v0) : w.cell? ⟨b, 82, none⟩ = some (.int .i64 (r.taken : Int)) := h.cell 82 (by decide)
theorem set_length (h : RunAt w b r v0) (v : Nat) : RunAt (w.setCell ⟨b, 83, none⟩ (.int .i64 (v : Int))) b { r with length := v } v0 :=
  h.set 83 _ fun j _ => by
    by_cases e : j = 83
    · subst e; rfl
    · rw [if_neg e]; simp [Rs.cells, e]
theorem get_length (h : RunAt w b r v0) : w.cell? ⟨b, 83, none⟩ = some (.int .i64 (r.length : Int)) := h.cell 83 (by decide)
theorem set_rule (h : RunAt w b r v0) (v : Int) : RunAt (w.setCell ⟨b, 84, none⟩ (.int .i64 v)) b { r with rule := v } v0 :=
  h.set 84 _ fun j _ => by
    by_cases e : j = 84
    · subst e; rfl
    · rw [if_neg e]; simp [Rs.cells, e]
theorem get_rule (h : RunAt w b r v0) : w.cell? ⟨b, 84, none⟩ = some (.int .i64 r.rule) := h.cell 84 (by decide)
theorem get_tp (h : RunAt w b r v0) : w.cell? ⟨b, 0, none⟩ = some (.pointer (some ⟨r.tp, 0, none⟩)) := h.cell 0 (by decide)
theorem get_byte (h : RunAt w b r v0) (i : Nat) (hi : i < 64) : w.cell? ⟨b, 12 + i, none⟩ = some (.int .u8 (r.byte i)) := by
  rw [h.cell _ (by omega), Rs.cells_byte _ _ _ hi]
theorem get_stack (h : RunAt w b r v0) (i : Nat) (hi : i < 4) : w.cell? ⟨b, 3 + i, none⟩ = some (.int .i64 (r.stack i)) := by
  rw [h.cell _ (by omega), Rs.cells_stack _ _ _ hi]
theorem set_byte (h : RunAt w b r v0) (i v : Nat) (hi : i < 64) : RunAt (w.setCell ⟨b, 12 + i, none⟩ (.int .u8 v)) b { r with byte := fun j => if j = i then v else r.byte j } v0 :=
  h.set (12 + i) _ fun j hj => by
    by_cases e : j = 12 + i
    · subst e; rw [if_pos rfl, Rs.cells_byte _ _ _ hi]; simp
    · rw [if_neg e]
      unfold Rs.cells
      by_cases h1 : 12 ≤ j ∧ j < 76
      · repeat rw [if_neg (by omega)]
        show _ = Value.int .u8 ((if j - 12 = i then v else r.byte (j - 12) : Nat) : Int)
        rw [if_neg (by omega)]
      · by_cases h2 : j < 12
        · match j, h2 with
          | 0, _ => rfl
          | 1, _ => rfl
          | 2, _ => rfl
          | 3, _ => rfl
          | 4, _ => rfl
          | 5, _ => rfl
          | 6, _ => rfl
          | 7, _ => rfl
          | 8, _ => rfl
          | 9, _ => rfl
          | 10, _ => rfl
          | 11, _ => rfl
        · simp [show ¬ j - 12 = i by omega]
theorem set_stack (h : RunAt w b r v0) (i v : Nat) (hi : i < 4) : RunAt (w.setCell ⟨b, 3 + i, none⟩ (.int .i64 v)) b { r with stack := fun j => if j = i then v else r.stack j } v0 :=
  h.set (3 + i) _ fun j hj => by
    match i, hi with
    | 0, _ => by_cases e : j = 3 <;> simp [Rs.cells, e]
    | 1, _ => by_cases e : j = 4 <;> simp [Rs.cells, e]
    | 2, _ => by_cases e : j = 5 <;> simp [Rs.cells, e]
    | 3, _ => by_cases e : j = 6 <;> simp [Rs.cells, e]
end RunAt

/-- Of what was there before H nothing has turned but block b. -/
structure Keep (H b : Nat) (w w' : World) : Prop where
  os : w'.os = w.os
  output : w'.output = w.output
  size : w.heap.size ≤ w'.heap.size
  block : ∀ k, k < H → k ≠ b → w'.heap[k]? = w.heap[k]?

namespace Keep
variable {H b : Nat} {w w' w'' : World}
theorem refl (H b : Nat) (w : World) : Keep H b w w := ⟨rfl, rfl, Nat.le_refl _, fun _ _ _ => rfl⟩
theorem trans (h : Keep H b w w') (k : Keep H b w' w'') : Keep H b w w'' :=
  ⟨k.os.trans h.os, k.output.trans h.output, Nat.le_trans h.size k.size, fun i h1 h2 => (k.block i h1 h2).trans (h.block i h1 h2)⟩
theorem set (w : World) (i : Nat) (v : Value) : Keep H b w (w.setCell ⟨b, i, none⟩ v) :=
  ⟨rfl, rfl, by simp [World.setCell], fun k _ h2 => Below.heap_setCell _ _ _ _ h2⟩
theorem alloc (w : World) (o : Obj) (h : H ≤ w.heap.size) : Keep H b w (w.alloc o) :=
  ⟨rfl, rfl, by simp, fun k h1 _ => Below.heap_alloc _ _ _ (by omega)⟩
theorem drew (w : World) : Keep H b w w.drew := ⟨rfl, rfl, Nat.le_refl _, fun _ _ _ => rfl⟩
theorem alike (h : w'.Alike w) : Keep H b w w' := ⟨h.2.1, h.2.2, by rw [h.1]; exact Nat.le_refl _, fun k _ _ => by rw [h.1]⟩
theorem below (h : Below w.heap.size w w') (hH : H ≤ w.heap.size) : Keep H b w w' := ⟨h.os, h.output, h.size, fun k h1 _ => h.block k (by omega)⟩
theorem grown {row : Option Nat} (hg : w.grownBy w' row) (hH : H ≤ w.heap.size) (hr : ∀ k, row = some k → H ≤ k) : Keep H b w w' :=
  ⟨hg.os, hg.output, hg.size, fun k h1 _ => hg.block k (by omega) (fun e => by have := hr k e.symm; omega)⟩
end Keep
end Go.Proofs.Yteflpladkmihdaa
