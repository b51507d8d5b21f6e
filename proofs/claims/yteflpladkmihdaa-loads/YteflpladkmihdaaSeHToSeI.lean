/- The law: bytes are loaded. -/
import Derived.Test.YteflpladkmihdaaSeGToValE
import Derived.Test.YteflpladkmihdaaValMToValN
set_option linter.unusedVariables false
set_option linter.unusedSimpArgs false
namespace Go.Proofs.Yteflpladkmihdaa
open Go.RowKit

theorem Try.infoPairP : (Try.prog.info? 38).map (fun i => (i.zero, i.size, i.bytes)) = some (some (.pointer none), 1, 8) := by kernel_rfl
theorem bytes_eq {a b : ByteArray} (h : a.data.toList = b.data.toList) : a = b := by
  cases a; cases b
  simp at h
  rw [ByteArray.mk.injEq]
  exact h

set_option maxHeartbeats 4000000 in
set_option maxRecDepth 100000 in
theorem loaded_none (wb : Nat) (s : ByteArray) (w : World) (hs : s.size ≤ 1048576) (hv : validB s = false) (hl : w.cell? ⟨wb, 0, none⟩ = some (.slice none 0 0)) (hlt : wb < w.heap.size) :
    Calls Try.prog 4 #[.pointer (some ⟨wb, 0, none⟩), .string s] w fun e w' => e = .returned (.bool true) ∧ w'.cell? ⟨wb, 0, none⟩ = some (.slice none 0 0) ∧ Keep w.heap.size w.heap.size w w' := by
  have HV : Hid (validB s = false) := hv
  clear hv
  go_enter Try.func4, Try.ntmps4
  go_wp2_with fail
  refine (load_calls s w hs).mono ?_
  rintro e w1 ⟨hk, h1, _⟩
  have e1 := h1 HV.out
  subst e1
  have hl1 : w1.cell? ⟨wb, 0, none⟩ = some (.slice none 0 0) := (World.cell?_of_block (hk.block wb hlt (by omega))).trans hl
  have HK : Hid (Keep w.heap.size w.heap.size w w1) := hk
  clear hk h1 hl
  go_wp2_with fail
  refine (valid_calls s w1 hs).mono ?_
  rw [HV.out]
  rintro e w2 ⟨rfl, rfl⟩
  go_wp2_with fail
  go_loopg [8] 0 (fun q i wr => i = .int .i64 0 ∧ wr = w2)
  case atStart => exact ⟨rfl, rfl⟩
  case round =>
    obtain ⟨rfl, rfl⟩ := hrel
    go_wp2_with fail
    go_ret
    exact ⟨rfl, hl1, HK.out⟩

/-- A pair of a lexer that no definition is known of. -/
def pairCells (x : Nat) : Array Value := #[.pointer (some ⟨x, 0, none⟩), .pointer none, .slice none 0 0, .int .i64 0, .int .i64 0]

set_option maxHeartbeats 4000000 in
set_option maxRecDepth 100000 in
theorem loaded_some (wb : Nat) (s : ByteArray) (w : World) (hs : s.size ≤ 1048576) (hv : validB s = true) (hl : w.cell? ⟨wb, 0, none⟩ = some (.slice none 0 0)) (hlt : wb < w.heap.size) (hfz : w.frozen? ⟨wb, 0, none⟩ = false) :
    Calls Try.prog 4 #[.pointer (some ⟨wb, 0, none⟩), .string s] w fun e w' => e = .returned (.bool true) ∧
      ∃ g cap pb x p n S, w'.cell? ⟨wb, 0, none⟩ = some (.slice (some ⟨g, 0, none⟩) 1 cap) ∧ w'.cell? ⟨g, 0, none⟩ = some (.pointer (some ⟨pb, 0, none⟩)) ∧ w'.cell? ⟨pb, 0, none⟩ = some (.pointer (some ⟨x, 0, none⟩)) ∧ LexAt w' S x p (tabOf s n) ∧ Keep w.heap.size wb w w' := by
  have HV : Hid (validB s = true) := hv
  clear hv
  go_enter Try.func4, Try.ntmps4
  go_wp2_with fail
  refine (load_calls s w hs).mono ?_
  rintro e w1 ⟨hk, _, h2⟩
  obtain ⟨x, p, n, S, e1, hx, hL, hSl⟩ := h2 HV.out
  have HSL : Hid (∀ k, S k → w.heap.size ≤ k) := hSl
  subst e1
  have hl1 : w1.cell? ⟨wb, 0, none⟩ = some (.slice none 0 0) := (World.cell?_of_block (hk.block wb hlt (by omega))).trans hl
  have hf1 : w1.frozen? ⟨wb, 0, none⟩ = false := (World.frozen?_of_block (hk.block wb hlt (by omega))).trans hfz
  have HK : Hid (Keep w.heap.size w.heap.size w w1) := hk
  have HL : Hid (LexAt w1 S x p (tabOf s n)) := hL
  clear hk h2 hl hfz hL hSl
  go_wp2_with fail
  refine (valid_calls s w1 hs).mono ?_
  rw [HV.out]
  rintro e w2 ⟨rfl, rfl⟩
  go_wp2_with fail
  refine (lexBytes_calls x p S (tabOf s n) w2 HL.out.cell HL.out.tab HL.out.safe (tabOf_fine s n HV.out)).mono ?_
  rintro e w3 ⟨⟨r, rfl, hr⟩, hk3⟩
  have hrs : r = s := bytes_eq (by rw [hr, tabOf_bytes, sealed_same s HV.out])
  subst hrs
  have hlt2 : wb < w2.heap.size := Nat.lt_of_lt_of_le hlt HK.out.size
  have hl3 : w3.cell? ⟨wb, 0, none⟩ = some (.slice none 0 0) := (World.cell?_of_block (hk3.block wb hlt2 (by omega))).trans hl1
  have hf3 : w3.frozen? ⟨wb, 0, none⟩ = false := (World.frozen?_of_block (hk3.block wb hlt2 (by omega))).trans hf1
  have A3 : Hid (LexAt w3 S x p (tabOf r n) ∧ Keep w.heap.size w.heap.size w w3) := ⟨HL.out.grown hk3, HK.out.trans (hk3.less HK.out.size HK.out.size)⟩
  clear hr hk3 hl1 hf1 HK HL
  go_wp2_with fail
  obtain ⟨w4, hw4, A4⟩ : ∃ w4, w4 = w3.alloc (.cells #[.pointer (some ⟨x, 0, none⟩), .pointer none, .slice none 0 0, .int .i64 0, .int .i64 0] 37) ∧ Hid (w4.cell? ⟨wb, 0, none⟩ = some (.slice none 0 0) ∧ w4.frozen? ⟨wb, 0, none⟩ = false ∧ w4.cell? ⟨w3.heap.size, 0, none⟩ = some (.pointer (some ⟨x, 0, none⟩)) ∧ LexAt w4 S x p (tabOf r n) ∧ Keep w.heap.size w.heap.size w w4 ∧ w4.heap.size = w3.heap.size + 1) := by
    have hlt3 : wb < w3.heap.size := Nat.lt_of_lt_of_le hlt A3.out.2.size
    have hb := Below.heap_alloc w3 (.cells #[.pointer (some ⟨x, 0, none⟩), .pointer none, .slice none 0 0, .int .i64 0, .int .i64 0] 37) wb hlt3
    refine ⟨_, rfl, (World.cell?_of_block hb).trans hl3, (World.frozen?_of_block hb).trans hf3, ?_, A3.out.1.alloc _, A3.out.2.trans (Keep.alloc _ _ A3.out.2.size), by simp⟩
    unfold World.cell?
    rw [heap_alloc_new w3 _]
    rfl
  rw [← hw4]
  clear hw4 hl3 hf3
  go_loopg [12] 0 (fun q i wr => i = .int .i64 0 ∧ wr = w4)
  case atStart => exact ⟨rfl, rfl⟩
  case round =>
    obtain ⟨rfl, rfl⟩ := hrel
    have y0 : wr.cell? ⟨wb, 0, none⟩ = some (.slice none 0 0) := A4.out.1
    have z0 : wr.frozen? ⟨wb, 0, none⟩ = false := A4.out.2.1
    obtain ⟨i0, hi0, hz0, hz1, hz2⟩ := info_parts Try.infoPairP
    have hsz := A4.out.2.2.2.2.1.size
    go_wp2_with (first | (at_builtin; refine wpList_append_lies _ rfl _ _ 23 rfl wr.heap.size 38 i0 (.pointer none) 1 8 Try.underlying23 hi0 hz0 hz1 hz2 rfl (by decide) _ _ _ rfl (World.ownsRow_nil _ _ _ _) ⟨wr.heap.size, 0, none⟩ 1 1 [.pointer (some ⟨w3.heap.size, 0, none⟩)] rfl rfl (cell_one_new _ _ _) (by intro u hu; simp at hu; subst hu; rfl) (by decide) (by unfold maxLen; omega) (by omega) (by simp) _ rfl ?_; intro g cap w5 hown hgrow hat hlt5; have hB : Below wr.heap.size wr w5 := below_app (World.ownsRow_nil wr wr.heap.size 38 1) hgrow (Nat.le_refl _); have y5 : w5.cell? ⟨wb, 0, none⟩ = some (.slice none 0 0) := (World.cell?_of_block (hB.block wb (by omega))).trans y0; have z5 : w5.frozen? ⟨wb, 0, none⟩ = false := (World.frozen?_of_block (hB.block wb (by omega))).trans z0))
    have HO : Hid _ := hown
    clear hown hgrow
    go_wp2_with fail
    go_ret
    have hb5 : ∀ k, w.heap.size ≤ k → k < wr.heap.size → (w5.setCell ⟨wb, 0, none⟩ (.slice (some ⟨g, 0, none⟩) 1 cap)).heap[k]? = wr.heap[k]? := fun k h1 h2 => (Below.heap_setCell _ _ _ _ (by show k ≠ wb; omega)).trans (hB.block k h2)
    have hge : wr.heap.size ≤ g := by
      rcases HO.out.2 with ⟨h, _⟩ | ⟨g', _, _, h, h1, _⟩
      · cases h
      · injection h with h
        injection h with h
        injection h with h
        omega
    have L4 := A4.out.2.2.2.1
    refine ⟨rfl, g, cap, w3.heap.size, x, p, n, S, World.cell?_setCell_same _ _ _ y5, ?_, ?_, ⟨?_, ?_, L4.tab.keep fun k hk => hb5 k (HSL.out k hk) (L4.safe k hk), fun k hk => ?_⟩, ?_⟩
    · rw [World.cell?_setCell_far _ _ _ _ (by show wb ≠ g; omega)]
      exact World.ownsRow.cells HO.out rfl 0 _ rfl
    · rw [World.cell?_of_block (hb5 w3.heap.size A3.out.2.size (by rw [A4.out.2.2.2.2.2]; omega))]
      exact A4.out.2.2.1
    · rw [World.cell?_of_block (hb5 x hx L4.lt)]
      exact L4.cell
    · have h1 := L4.lt
      have h2 := hB.size
      simp [World.setCell]
      omega
    · have h1 := L4.safe k hk
      have h2 := hB.size
      simp [World.setCell]
      omega
    · have h4 := A4.out.2.2.2.2.1
      refine Keep.trans (w' := w5) ⟨hB.os.trans h4.os, hB.output.trans h4.output, Nat.le_trans h4.size hB.size, fun k hk _ => (hB.block k (by omega)).trans (h4.block k hk (by omega))⟩ (Keep.set _ _ _)
end Go.Proofs.Yteflpladkmihdaa

/- The law Loads. -/
namespace Go.Proofs.Yteflpladkmihdaa
open Go.RowKit

set_option maxHeartbeats 4000000 in
set_option maxRecDepth 100000 in
theorem loads_calls (s d : ByteArray) (w : World) :
    Calls Try.prog 3 #[.string s, .string d] w fun e w' => e = .returned (.bool true) ∧ Keep w.heap.size w.heap.size w w' := by
  by_cases hs : 1048576 < s.size
  · have i1 : (1048576 : Int) < (s.size : Int) := by omega
    go_enter Try.func3, Try.ntmps3
    go_wp2_with fail
    go_ret
    exact ⟨rfl, Keep.refl _ _ _⟩
  · have i1 : (s.size : Int) ≤ 1048576 := by omega
    by_cases hd : 1048576 < d.size
    · have i2 : (1048576 : Int) < (d.size : Int) := by omega
      go_enter Try.func3, Try.ntmps3
      go_wp2_with fail
      go_ret
      exact ⟨rfl, Keep.refl _ _ _⟩
    · have i2 : (d.size : Int) ≤ 1048576 := by omega
      cases hv : validB s with
      | false =>
        have HV : Hid (validB s = false) := hv
        clear hv
        go_enter Try.func3, Try.ntmps3
        go_wp2_with fail
        obtain ⟨w1, hw1, A1⟩ : ∃ w1, w1 = w.alloc (.cells #[.slice none 0 0, .slice none 0 0, .slice none 0 0, .slice none 0 0, .slice none 0 0, .slice none 0 0, .slice none 0 0, .slice none 0 0, .slice none 0 0] 30) ∧ Hid (w1.cell? ⟨w.heap.size, 0, none⟩ = some (.slice none 0 0) ∧ w1.frozen? ⟨w.heap.size, 0, none⟩ = false ∧ w1.heap.size = w.heap.size + 1 ∧ Keep w.heap.size w.heap.size w w1) := by
          refine ⟨_, rfl, ?_, ?_, by simp, Keep.alloc _ _ (Nat.le_refl _)⟩
          · unfold World.cell?
            rw [heap_alloc_new w _]
            rfl
          · unfold World.frozen?
            rw [heap_alloc_new w _]
            rfl
        rw [← hw1]
        clear hw1
        refine (loaded_none w.heap.size s w1 (by omega) HV.out A1.out.1 (by rw [A1.out.2.2.1]; omega)).mono ?_
        rintro e w2 ⟨rfl, hl2, hk2⟩
        have K2 : Hid (Keep w.heap.size w.heap.size w w2) := A1.out.2.2.2.trans (hk2.less (by rw [A1.out.2.2.1]; omega) (by rw [A1.out.2.2.1]; omega))
        clear hk2 A1
        go_wp2_with fail
        go_ret
        exact ⟨rfl, K2.out⟩
      | true =>
        have HV : Hid (validB s = true) := hv
        clear hv
        go_enter Try.func3, Try.ntmps3
        go_wp2_with fail
        obtain ⟨w1, hw1, A1⟩ : ∃ w1, w1 = w.alloc (.cells #[.slice none 0 0, .slice none 0 0, .slice none 0 0, .slice none 0 0, .slice none 0 0, .slice none 0 0, .slice none 0 0, .slice none 0 0, .slice none 0 0] 30) ∧ Hid (w1.cell? ⟨w.heap.size, 0, none⟩ = some (.slice none 0 0) ∧ w1.frozen? ⟨w.heap.size, 0, none⟩ = false ∧ w1.heap.size = w.heap.size + 1 ∧ Keep w.heap.size w.heap.size w w1) := by
          refine ⟨_, rfl, ?_, ?_, by simp, Keep.alloc _ _ (Nat.le_refl _)⟩
          · unfold World.cell?
            rw [heap_alloc_new w _]
            rfl
          · unfold World.frozen?
            rw [heap_alloc_new w _]
            rfl
        rw [← hw1]
        clear hw1
        refine (loaded_some w.heap.size s w1 (by omega) HV.out A1.out.1 (by rw [A1.out.2.2.1]; omega) A1.out.2.1).mono ?_
        rintro e w2 ⟨rfl, g, cap, pb, x, p, n, S, y0, y1, y2, hL, hk2⟩
        have K2 : Hid (Keep w.heap.size w.heap.size w w2) := A1.out.2.2.2.trans (hk2.less (by rw [A1.out.2.2.1]; omega) (Nat.le_refl _))
        have HL : Hid (LexAt w2 S x p (tabOf s n)) := hL
        clear hk2 A1 hL
        go_wp2_with fail
        have ft := tabOf_fine s n HV.out
        have hne : 0 < ((tabOf s n).events p d).length := List.length_pos_iff.2 ((tabOf s n).events_some ft p d)
        have FT : Hid (tabOf s n).Fine := ft
        clear ft
        refine (scan_calls x p S (tabOf s n) w2 d HL.out.cell HL.out.tab HL.out.safe FT.out (by omega)).mono ?_
        rintro e w3 ⟨v, rfl, hO, hk3⟩
        obtain ⟨ao, cp, hvv⟩ := own_form hO
        subst hvv
        have K3 : Hid (Keep w.heap.size w.heap.size w w3) := K2.out.trans (hk3.less K2.out.size K2.out.size)
        clear hO hk3 K2
        generalize ((tabOf s n).events p d).length = len at *
        have i3 : (0 : Int) < (len : Int) := by omega
        go_wp2_with fail
        go_ret
        exact ⟨by simp, K3.out⟩
end Go.Proofs.Yteflpladkmihdaa
