/- Tables that are being read; the head. -/
import Derived.Test.YteflpladkmihdaaRdAToRdB
import Derived.Deep.RegionWith
import Derived.StillTactics
import Derived.OwnWalk
import Derived.Laws.Pointers
set_option linter.unusedVariables false
set_option linter.unusedSimpArgs false
namespace Go.Proofs.Yteflpladkmihdaa
open Go.RowKit

/-- Of what was there before H nothing has turned but blocks a and b. -/
structure Kept (H a b : Nat) (w w' : World) : Prop where
  os : w'.os = w.os
  output : w'.output = w.output
  size : w.heap.size ≤ w'.heap.size
  block : ∀ k, k < H → k ≠ a → k ≠ b → w'.heap[k]? = w.heap[k]?

namespace Kept
variable {H a b : Nat} {w w' w'' : World}
theorem refl (H a b : Nat) (w : World) : Kept H a b w w := ⟨rfl, rfl, Nat.le_refl _, fun _ _ _ _ => rfl⟩
theorem trans (h : Kept H a b w w') (k : Kept H a b w' w'') : Kept H a b w w'' :=
  ⟨k.os.trans h.os, k.output.trans h.output, Nat.le_trans h.size k.size, fun i h1 h2 h3 => (k.block i h1 h2 h3).trans (h.block i h1 h2 h3)⟩
theorem one (h : Keep H a w w') : Kept H a b w w' := ⟨h.os, h.output, h.size, fun k h1 h2 _ => h.block k h1 h2⟩
theorem two (h : Keep H b w w') : Kept H a b w w' := ⟨h.os, h.output, h.size, fun k h1 _ h2 => h.block k h1 h2⟩
theorem mono {G : Nat} (h : Kept H a b w w') (hG : G ≤ H) : Kept G a b w w' := ⟨h.os, h.output, h.size, fun k h1 => h.block k (by omega)⟩
theorem boxed (w : World) (g i : Nat) (x : Value) (hg : H ≤ g) : Kept H a b w (w.setCell ⟨g, i, none⟩ x) :=
  ⟨rfl, rfl, by simp [World.setCell], fun k h1 _ _ => Below.heap_setCell _ _ _ _ (by show k ≠ g; omega)⟩
end Kept

/-- The cells of tables. -/
structure Tc where
  stream : Value
  ahead : Value
  hold : Value
  starts : Value
  acts : Value
  pushed : Value
  kinds : Value
  count : Value
  next : Value
  ends : Value
  live : Value
  rows : Value
  longer : Value
/-- They lie in block b. -/
def TpAt (w : World) (b : Nat) (c : Tc) : Prop :=
  w.heap[b]? = some (.cells #[c.stream, c.ahead, c.hold, c.starts, c.acts, c.pushed, c.kinds, c.count, c.next, c.ends, c.live, c.rows, c.longer] 72)
namespace TpAt
variable {w w' : World} {b : Nat} {c : Tc}
theorem lt (h : TpAt w b c) : b < w.heap.size := (Array.getElem?_eq_some_iff.1 h).1
theorem fz (h : TpAt w b c) (i : Nat) : w.frozen? ⟨b, i, none⟩ = false := by unfold TpAt at h; simp [World.frozen?, h]
theorem of_block (h : TpAt w b c) (e : w'.heap[b]? = w.heap[b]?) : TpAt w' b c := e.trans h
theorem get_stream (h : TpAt w b c) : w.cell? ⟨b, 0, none⟩ = some c.stream := by unfold TpAt at h; simp [World.cell?, h]
theorem set_stream (h : TpAt w b c) (v : Value) : TpAt (w.setCell ⟨b, 0, none⟩ v) b { c with stream := v } := by unfold TpAt at *; simp [World.setCell, Array.getElem?_modify, h]
theorem get_ahead (h : TpAt w b c) : w.cell? ⟨b, 1, none⟩ = some c.ahead := by unfold TpAt at h; simp [World.cell?, h]
theorem set_ahead (h : TpAt w b c) (v : Value) : TpAt (w.setCell ⟨b, 1, none⟩ v) b { c with ahead := v } := by unfold TpAt at *; simp [World.setCell, Array.getElem?_modify, h]
theorem get_hold (h : TpAt w b c) : w.cell? ⟨b, 2, none⟩ = some c.hold := by unfold TpAt at h; simp [World.cell?, h]
theorem set_hold (h : TpAt w b c) (v : Value) : TpAt (w.setCell ⟨b, 2, none⟩ v) b { c with hold := v } := by unfold TpAt at *; simp [World.setCell, Array.getElem?_modify, h]
theorem get_starts (h : TpAt w b c) : w.cell? ⟨b, 3, none⟩ = some c.starts := by unfold TpAt at h; simp [World.cell?, h]
theorem set_starts (h : TpAt w b c) (v : Value) : TpAt (w.setCell ⟨b, 3, none⟩ v) b { c with starts := v } := by unfold TpAt at *; simp [World.setCell, Array.getElem?_modify, h]
theorem get_acts (h : TpAt w b c) : w.cell? ⟨b, 4, none⟩ = some c.acts := by unfold TpAt at h; simp [World.cell?, h]
theorem set_acts (h : TpAt w b c) (v : Value) : TpAt (w.setCell ⟨b, 4, none⟩ v) b { c with acts := v } := by unfold TpAt at *; simp [World.setCell, Array.getElem?_modify, h]
theorem get_pushed (h : TpAt w b c) : w.cell? ⟨b, 5, none⟩ = some c.pushed := by unfold TpAt at h; simp [World.cell?, h]
theorem set_pushed (h : TpAt w b c) (v : Value) : TpAt (w.setCell ⟨b, 5, none⟩ v) b { c with pushed := v } := by unfold TpAt at *; simp [World.setCell, Array.getElem?_modify, h]
theorem get_kinds (h : TpAt w b c) : w.cell? ⟨b, 6, none⟩ = some c.kinds := by unfold TpAt at h; simp [World.cell?, h]
theorem set_kinds (h : TpAt w b c) (v : Value) : TpAt (w.setCell ⟨b, 6, none⟩ v) b { c with kinds := v } := by unfold TpAt at *; simp [World.setCell, Array.getElem?_modify, h]
theorem get_count (h : TpAt w b c) : w.cell? ⟨b, 7, none⟩ = some c.count := by unfold TpAt at h; simp [World.cell?, h]
theorem set_count (h : TpAt w b c) (v : Value) : TpAt (w.setCell ⟨b, 7, none⟩ v) b { c with count := v } := by unfold TpAt at *; simp [World.setCell, Array.getElem?_modify, h]
theorem get_next (h : TpAt w b c) : w.cell? ⟨b, 8, none⟩ = some c.next := by unfold TpAt at h; simp [World.cell?, h]
theorem set_next (h : TpAt w b c) (v : Value) : TpAt (w.setCell ⟨b, 8, none⟩ v) b { c with next := v } := by unfold TpAt at *; simp [World.setCell, Array.getElem?_modify, h]
theorem get_ends (h : TpAt w b c) : w.cell? ⟨b, 9, none⟩ = some c.ends := by unfold TpAt at h; simp [World.cell?, h]
theorem set_ends (h : TpAt w b c) (v : Value) : TpAt (w.setCell ⟨b, 9, none⟩ v) b { c with ends := v } := by unfold TpAt at *; simp [World.setCell, Array.getElem?_modify, h]
theorem get_live (h : TpAt w b c) : w.cell? ⟨b, 10, none⟩ = some c.live := by unfold TpAt at h; simp [World.cell?, h]
theorem set_live (h : TpAt w b c) (v : Value) : TpAt (w.setCell ⟨b, 10, none⟩ v) b { c with live := v } := by unfold TpAt at *; simp [World.setCell, Array.getElem?_modify, h]
theorem get_rows (h : TpAt w b c) : w.cell? ⟨b, 11, none⟩ = some c.rows := by unfold TpAt at h; simp [World.cell?, h]
theorem set_rows (h : TpAt w b c) (v : Value) : TpAt (w.setCell ⟨b, 11, none⟩ v) b { c with rows := v } := by unfold TpAt at *; simp [World.setCell, Array.getElem?_modify, h]
theorem get_longer (h : TpAt w b c) : w.cell? ⟨b, 12, none⟩ = some c.longer := by unfold TpAt at h; simp [World.cell?, h]
theorem set_longer (h : TpAt w b c) (v : Value) : TpAt (w.setCell ⟨b, 12, none⟩ v) b { c with longer := v } := by unfold TpAt at *; simp [World.setCell, Array.getElem?_modify, h]
end TpAt

/-- What a walk that reads tables knows: the reader (block a), the tables (block b), blocks of its own. -/
structure Rt (H a b : Nat) (w0 w : World) (s : ByteArray) (p : Nat) (k : Bool) (c : Tc) (L : List (Nat × Obj)) : Prop where
  rd : RdAt w a s p k
  tb : TpAt w b c
  own : ∀ x ∈ L, w.heap[x.1]? = some x.2 ∧ H ≤ x.1
  kept : Kept H a b w0 w
  ab : a ≠ b
  aH : a < H
  bH : b < H
  HH : H ≤ w.heap.size
namespace Rt
variable {H a b : Nat} {w0 w w' : World} {s : ByteArray} {p p' : Nat} {k k' : Bool} {c c' : Tc} {L : List (Nat × Obj)}
theorem called (h : Rt H a b w0 w s p k c L) (hr : RdAt w' a s p' k') (hk : ∀ H, Keep H a w w') : Rt H a b w0 w' s p' k' c L :=
  ⟨hr, h.tb.of_block ((hk w.heap.size).block b h.tb.lt h.ab.symm), fun x hx => ⟨((hk w.heap.size).block x.1 (Array.getElem?_eq_some_iff.1 (h.own x hx).1).1 (by have := (h.own x hx).2; have := h.aH; omega)).trans (h.own x hx).1, (h.own x hx).2⟩, h.kept.trans (.one (hk H)), h.ab, h.aH, h.bH, Nat.le_trans h.HH (hk H).size⟩
theorem stored (h : Rt H a b w0 w s p k c L) (i : Nat) (v : Value) (ht : TpAt (w.setCell ⟨b, i, none⟩ v) b c') : Rt H a b w0 (w.setCell ⟨b, i, none⟩ v) s p k c' L :=
  ⟨h.rd.of_block (Below.heap_setCell _ _ _ _ h.ab), ht, fun x hx => ⟨(Below.heap_setCell _ _ _ _ (by have := (h.own x hx).2; have := h.bH; show x.1 ≠ b; omega)).trans (h.own x hx).1, (h.own x hx).2⟩, h.kept.trans (.two (Keep.set _ _ _)), h.ab, h.aH, h.bH, by simpa [World.setCell] using h.HH⟩
theorem told (h : Rt H a b w0 w s p k c L) (v : Bool) : Rt H a b w0 (w.setCell ⟨a, 2, none⟩ (.bool v)) s p v c L :=
  h.called (h.rd.set2 v) fun _ => Keep.set _ _ _
theorem alike (h : Rt H a b w0 w s p k c L) (e : w'.Alike w) : Rt H a b w0 w' s p k c L :=
  h.called (h.rd.alike e) fun _ => Keep.alike e
theorem alloc (h : Rt H a b w0 w s p k c L) (o : Obj) : Rt H a b w0 (w.alloc o) s p k c ((w.heap.size, o) :: L) :=
  ⟨h.rd.of_block (Below.heap_alloc _ _ _ h.rd.lt), h.tb.of_block (Below.heap_alloc _ _ _ h.tb.lt), fun x hx => by
    rcases List.mem_cons.1 hx with rfl | hx
    · exact ⟨heap_alloc_new w o, h.HH⟩
    · exact ⟨(Below.heap_alloc _ _ _ (Array.getElem?_eq_some_iff.1 (h.own x hx).1).1).trans (h.own x hx).1, (h.own x hx).2⟩, h.kept.trans (.one (Keep.alloc _ _ h.HH)), h.ab, h.aH, h.bH, Nat.le_trans h.HH (by simp)⟩
theorem below (h : Rt H a b w0 w s p k c L) (e : Below w.heap.size w w') : Rt H a b w0 w' s p k c L :=
  ⟨h.rd.of_block (e.block _ h.rd.lt), h.tb.of_block (e.block _ h.tb.lt), fun x hx => ⟨(e.block _ (Array.getElem?_eq_some_iff.1 (h.own x hx).1).1).trans (h.own x hx).1, (h.own x hx).2⟩, h.kept.trans (.one (Keep.below e h.HH)), h.ab, h.aH, h.bH, Nat.le_trans h.HH e.size⟩
/-- A store into the first block of its own; the others are others. -/
theorem boxed {g : Nat} {o o' : Obj} (h : Rt H a b w0 w s p k c ((g, o) :: L)) (i : Nat) (v : Value) (ho : (w.setCell ⟨g, i, none⟩ v).heap[g]? = some o') (hne : ∀ x ∈ L, x.1 ≠ g) : Rt H a b w0 (w.setCell ⟨g, i, none⟩ v) s p k c ((g, o') :: L) := by
  have hg := (h.own (g, o) (List.mem_cons_self)).2
  have hg' : H ≤ g := hg
  refine ⟨h.rd.of_block (Below.heap_setCell _ _ _ _ (by have := h.aH; show a ≠ g; omega)), h.tb.of_block (Below.heap_setCell _ _ _ _ (by have := h.bH; show b ≠ g; omega)), fun x hx => ?_, h.kept.trans (.boxed _ g i v hg'), h.ab, h.aH, h.bH, by simpa [World.setCell] using h.HH⟩
  rcases List.mem_cons.1 hx with rfl | hx
  · exact ⟨ho, hg⟩
  · have := h.own x (List.mem_cons_of_mem _ hx)
    exact ⟨(Below.heap_setCell _ _ _ _ (hne x hx)).trans this.1, this.2⟩
end Rt
end Go.Proofs.Yteflpladkmihdaa
