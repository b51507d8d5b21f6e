/- The head of tables is read. -/
import Derived.Test.YteflpladkmihdaaRdC
set_option linter.unusedVariables false
set_option linter.unusedSimpArgs false
namespace Go.Proofs.Yteflpladkmihdaa
open Go.RowKit

theorem Rt.drop {H a b : Nat} {w0 w : World} {s : ByteArray} {p : Nat} {k : Bool} {c : Tc} {L : List (Nat × Obj)} (h : Rt H a b w0 w s p k c L) : Rt H a b w0 w s p k c [] :=
  ⟨h.rd, h.tb, fun x hx => absurd hx (List.not_mem_nil), h.kept, h.ab, h.aH, h.bH, h.HH⟩
theorem Rt.boxN {H a b : Nat} {w0 w : World} {s : ByteArray} {p : Nat} {k : Bool} {c : Tc} (h : Rt H a b w0 w s p k c []) (g i : Nat) (v : Value) (hg : H ≤ g) : Rt H a b w0 (w.setCell ⟨g, i, none⟩ v) s p k c [] :=
  ⟨h.rd.of_block (Below.heap_setCell _ _ _ _ (by have := h.aH; show a ≠ g; omega)), h.tb.of_block (Below.heap_setCell _ _ _ _ (by have := h.bH; show b ≠ g; omega)), fun x hx => absurd hx (List.not_mem_nil), h.kept.trans (.boxed _ g i v hg), h.ab, h.aH, h.bH, by simpa [World.setCell] using h.HH⟩
theorem within_le (n least most : Nat) (h : least ≤ most) : within n least most ≤ most := by unfold within; split <;> omega
theorem le_within (n least most : Nat) : least ≤ within n least most := by unfold within; split <;> omega

/-- The numbers of the head. -/
def hStream (s : ByteArray) : Nat := within (byt s 2) 0 1
def hAhead (s : ByteArray) : Nat := within (byt s 3) 0 255
def hHold (s : ByteArray) : Nat := within (byt s 4) 1 64
def hModes (s : ByteArray) : Nat := within (byt2 s 5) 1 3
def hRules (s : ByteArray) : Nat := within (byt2 s 7) 1 8
def hStates (s : ByteArray) : Nat := within (byt2 s 9) 1 200
def hKinds (s : ByteArray) : Nat := within (byt2 s 11) 1 256
def hWays (s : ByteArray) : Nat := waysTo (hKinds s) (hAhead s)
/-- All of it is there, and each number within its bounds. -/
def hK0 (s : ByteArray) : Bool := true && decide (0 < s.size) && inB (byt s 0) 76 76
def hK1 (s : ByteArray) : Bool := hK0 s && decide (1 < s.size) && inB (byt s 1) 88 88
def hK2 (s : ByteArray) : Bool := hK1 s && decide (2 < s.size) && inB (byt s 2) 0 1
def hK3 (s : ByteArray) : Bool := hK2 s && decide (3 < s.size) && inB (byt s 3) 0 255
def hK4 (s : ByteArray) : Bool := hK3 s && decide (4 < s.size) && inB (byt s 4) 1 64
def hK5 (s : ByteArray) : Bool := hK4 s && decide (6 < s.size) && inB (byt2 s 5) 1 3
def hK6 (s : ByteArray) : Bool := hK5 s && decide (8 < s.size) && inB (byt2 s 7) 1 8
def hK7 (s : ByteArray) : Bool := hK6 s && decide (10 < s.size) && inB (byt2 s 9) 1 200
def hK8 (s : ByteArray) : Bool := hK7 s && decide (12 < s.size) && inB (byt2 s 11) 1 256
def headOk (s : ByteArray) : Bool := hK8 s && decide (hWays s ≤ 3000) && (decide (hStream s = 1) || decide (hAhead s = 0))

set_option maxHeartbeats 4000000 in
set_option maxRecDepth 100000 in
theorem head_tail (a b H g q : Nat) (w v : World) (s : ByteArray) (k : Bool) (c : Tc) (m0 m1 m2 m3 m4 : Nat)
    (hR : Rt H a b w v s 13 k c ((q, .cells #[.int .i64 m0, .int .i64 m1, .int .i64 m2, .int .i64 m3, .int .i64 m4] 74) :: (g, .cells #[.int .i64 0, .int .i64 0, .int .i64 0, .int .i64 0, .int .i64 0] 74) :: [])) (hgg : g ≠ q)
    {u2 u3 u6 u7 u8 u9 u10 u11 u12 u13 u14 u15 u16 u17 u18 u19 u20 u21 u22 u23 u24 u25 u26 u27 u28 u29 u30 u31 u32 u33 u34 u35 u36 u37 u38 u39 u40 u41 u42 u43 u44 u45 u46 u47 u48 u49 u50 u51 u52 u53 u54 u55 u56 u57 u58 u59 u60 u61 u62 u63 u64 u65 u66 u67 u68 u69 u70 u71 u72 u73 u74 u75 u76 u77 : Value} :
    Code.wp Try.prog (dropSeq 13 ((Try.f19.body).getD .skip)) (bodyPost Try.prog Try.f19 fun e w' =>
      e = .returned (.agg #[.int .i64 m0, .int .i64 m1, .int .i64 m2, .int .i64 m3, .int .i64 m4]) ∧ Rt H a b w w' s 13 k { c with count := .int .i64 m3, rows := .int .i64 m4 } [])
      ⟨(.pointer (some ⟨a, 0, none⟩) :: .pointer (some ⟨b, 0, none⟩) :: u2 :: u3 :: .pointer (some ⟨g, 0, none⟩) :: .pointer (some ⟨q, 0, none⟩) :: u6 :: u7 :: u8 :: u9 :: u10 :: u11 :: u12 :: u13 :: u14 :: u15 :: u16 :: u17 :: u18 :: u19 :: u20 :: u21 :: u22 :: u23 :: u24 :: u25 :: u26 :: u27 :: u28 :: u29 :: u30 :: u31 :: u32 :: u33 :: u34 :: u35 :: u36 :: u37 :: u38 :: u39 :: u40 :: u41 :: u42 :: u43 :: u44 :: u45 :: u46 :: u47 :: u48 :: u49 :: u50 :: u51 :: u52 :: u53 :: u54 :: u55 :: u56 :: u57 :: u58 :: u59 :: u60 :: u61 :: u62 :: u63 :: u64 :: u65 :: u66 :: u67 :: u68 :: u69 :: u70 :: u71 :: u72 :: u73 :: u74 :: u75 :: u76 :: u77 :: []).toArray, []⟩ v := by
  conv => arg 2; whnf
  have HR : Hid (Rt H a b w v s 13 k c _) := hR
  have xb := (hR.own _ (List.mem_cons_self)).1
  have xg := (hR.own _ (List.mem_cons_of_mem _ List.mem_cons_self)).1
  have x0 : v.cell? ⟨q, 0, none⟩ = some (.int .i64 m0) := by simp [World.cell?, xb]
  have x1 : v.cell? ⟨q, 1, none⟩ = some (.int .i64 m1) := by simp [World.cell?, xb]
  have x2 : v.cell? ⟨q, 2, none⟩ = some (.int .i64 m2) := by simp [World.cell?, xb]
  have x3 : v.cell? ⟨q, 3, none⟩ = some (.int .i64 m3) := by simp [World.cell?, xb]
  have x4 : v.cell? ⟨q, 4, none⟩ = some (.int .i64 m4) := by simp [World.cell?, xb]
  have y0 : v.cell? ⟨g, 0, none⟩ = some (.int .i64 0) := by simp [World.cell?, xg]
  have y1 : v.cell? ⟨g, 1, none⟩ = some (.int .i64 0) := by simp [World.cell?, xg]
  have y2 : v.cell? ⟨g, 2, none⟩ = some (.int .i64 0) := by simp [World.cell?, xg]
  have y3 : v.cell? ⟨g, 3, none⟩ = some (.int .i64 0) := by simp [World.cell?, xg]
  have y4 : v.cell? ⟨g, 4, none⟩ = some (.int .i64 0) := by simp [World.cell?, xg]
  have z0 : v.frozen? ⟨g, 0, none⟩ = false := by simp [World.frozen?, xg]
  have z1 : v.frozen? ⟨g, 1, none⟩ = false := by simp [World.frozen?, xg]
  have z2 : v.frozen? ⟨g, 2, none⟩ = false := by simp [World.frozen?, xg]
  have z3 : v.frozen? ⟨g, 3, none⟩ = false := by simp [World.frozen?, xg]
  have z4 : v.frozen? ⟨g, 4, none⟩ = false := by simp [World.frozen?, xg]
  have t1 := hR.tb.get_count
  have t2 := hR.tb.get_rows
  have t3 := hR.tb.fz 7
  have t4 := hR.tb.fz 11
  have hqb : q ≠ b := by have h1 : H ≤ q := (hR.own _ (List.mem_cons_self)).2; have := hR.bH; omega
  have hgb : g ≠ b := by have h1 : H ≤ g := (hR.own _ (List.mem_cons_of_mem _ List.mem_cons_self)).2; have := hR.bH; omega
  have lb := hR.tb.lt
  have hHg : H ≤ g := (hR.own _ (List.mem_cons_of_mem _ List.mem_cons_self)).2
  clear hR xb xg
  go_wp2_with fail
  refine bodyPost_ret (v := .agg #[.int .i64 m0, .int .i64 m1, .int .i64 m2, .int .i64 m3, .int .i64 m4]) (by simp [results, Try.results19, go_sem, y0, y1, y2, y3, y4, x0, x1, x2, x3, x4]) rfl ⟨rfl, ?_⟩
  have h1 := HR.out.drop.stored 7 _ (HR.out.tb.set_count (.int .i64 m3))
  have h2 := h1.stored 11 _ (h1.tb.set_rows (.int .i64 m4))
  exact ((((h2.boxN g 0 _ hHg).boxN g 1 _ hHg).boxN g 2 _ hHg).boxN g 3 _ hHg).boxN g 4 _ hHg

set_option maxHeartbeats 4000000 in
set_option maxRecDepth 100000 in
theorem head_calls (a b H : Nat) (w : World) (s : ByteArray) (c : Tc) (hR : Rt H a b w w s 0 true c []) (hs : s.size ≤ 1048576) :
    Calls Try.prog 19 #[.pointer (some ⟨a, 0, none⟩), .pointer (some ⟨b, 0, none⟩)] w fun e w' =>
      e = .returned (.agg #[.int .i64 (hModes s : Nat), .int .i64 (hRules s : Nat), .int .i64 (hStates s : Nat), .int .i64 (hKinds s : Nat), .int .i64 (hWays s : Nat)]) ∧
      Rt H a b w w' s 13 (headOk s) { c with stream := .bool (decide (hStream s = 1)), ahead := .int .i64 (hAhead s : Nat), hold := .int .i64 (hHold s : Nat), count := .int .i64 (hKinds s : Nat), rows := .int .i64 (hWays s : Nat) } [] := by
  have HR : Hid (Rt H a b w w s 0 true c []) := hR
  clear hR
  go_enter Try.func19, Try.ntmps19
  go_wp2_with fail
  obtain ⟨v0, hv0, R0⟩ : ∃ v, v = w.alloc (.cells #[.int .i64 0, .int .i64 0, .int .i64 0, .int .i64 0, .int .i64 0] 74) ∧ Hid (Rt H a b w v s 0 true c [(w.heap.size, .cells #[.int .i64 0, .int .i64 0, .int .i64 0, .int .i64 0, .int .i64 0] 74)]) := ⟨_, rfl, HR.out.alloc _⟩
  rw [← hv0]
  clear hv0 HR
  generalize w.heap.size = g at *
  refine (rd_one a 0 s (true) v0 R0.out.rd hs 76 76).mono ?_
  rintro e w1 ⟨rfl, hd, hk⟩
  have R1a : Hid (Rt H a b w w1 s 1 (hK0 s) c [(g, .cells #[.int .i64 0, .int .i64 0, .int .i64 0, .int .i64 0, .int .i64 0] 74)]) := R0.out.called hd hk
  clear hd hk R0
  have R1 : Hid (Rt H a b w w1 s 1 (hK0 s) c [(g, .cells #[.int .i64 0, .int .i64 0, .int .i64 0, .int .i64 0, .int .i64 0] 74)]) := R1a.out
  clear R1a
  go_wp2_with fail
  refine (rd_one a 1 s (hK0 s) w1 R1.out.rd hs 88 88).mono ?_
  rintro e w2 ⟨rfl, hd, hk⟩
  have R2a : Hid (Rt H a b w w2 s 2 (hK1 s) c [(g, .cells #[.int .i64 0, .int .i64 0, .int .i64 0, .int .i64 0, .int .i64 0] 74)]) := R1.out.called hd hk
  clear hd hk R1
  have R2 : Hid (Rt H a b w w2 s 2 (hK1 s) c [(g, .cells #[.int .i64 0, .int .i64 0, .int .i64 0, .int .i64 0, .int .i64 0] 74)]) := R2a.out
  clear R2a
  go_wp2_with fail
  refine (rd_one a 2 s (hK1 s) w2 R2.out.rd hs 0 1).mono ?_
  rintro e w3 ⟨rfl, hd, hk⟩
  have R3a : Hid (Rt H a b w w3 s 3 (hK2 s) c [(g, .cells #[.int .i64 0, .int .i64 0, .int .i64 0, .int .i64 0, .int .i64 0] 74)]) := R2.out.called hd hk
  clear hd hk R2
  have xc := R3a.out.tb.get_stream
  have xf := R3a.out.tb.fz 0
  have hm2 : hStream s ≤ 1 := within_le (byt s 2) 0 1 (by decide)
  rw [show within (byt s 2) 0 1 = hStream s from rfl]
  have hdec : ((hStream s : Int) == 1) = decide (hStream s = 1) := by rw [Bool.eq_iff_iff]; simp only [beq_iff_eq, decide_eq_true_eq]; omega
  go_wp2_with fail
  clear hdec
  obtain ⟨v3, hv, R3⟩ : ∃ v, v = w3.setCell ⟨b, 0, none⟩ (.bool (decide (hStream s = 1))) ∧ Hid (Rt H a b w v s 3 (hK2 s) { c with stream := .bool (decide (hStream s = 1)) } [(g, .cells #[.int .i64 0, .int .i64 0, .int .i64 0, .int .i64 0, .int .i64 0] 74)]) := ⟨_, rfl, R3a.out.stored 0 _ (R3a.out.tb.set_stream _)⟩
  have hsz : v3.heap.size = w3.heap.size := by rw [hv]; simp [World.setCell]
  rw [← hv]
  clear hv R3a xc xf
  refine (rd_one a 3 s (hK2 s) v3 R3.out.rd hs 0 255).mono ?_
  rintro e w4 ⟨rfl, hd, hk⟩
  have R4a : Hid (Rt H a b w w4 s 4 (hK3 s) { c with stream := .bool (decide (hStream s = 1)) } [(g, .cells #[.int .i64 0, .int .i64 0, .int .i64 0, .int .i64 0, .int .i64 0] 74)]) := R3.out.called hd hk
  clear hd hk R3
  have xc := R4a.out.tb.get_ahead
  have xf := R4a.out.tb.fz 1
  have hm3 : hAhead s ≤ 255 := within_le (byt s 3) 0 255 (by decide)
  rw [show within (byt s 3) 0 255 = hAhead s from rfl]
  go_wp2_with fail
  clear hsz
  obtain ⟨v4, hv, R4⟩ : ∃ v, v = w4.setCell ⟨b, 1, none⟩ (.int .i64 (hAhead s : Nat)) ∧ Hid (Rt H a b w v s 4 (hK3 s) { c with stream := .bool (decide (hStream s = 1)), ahead := .int .i64 (hAhead s : Nat) } [(g, .cells #[.int .i64 0, .int .i64 0, .int .i64 0, .int .i64 0, .int .i64 0] 74)]) := ⟨_, rfl, R4a.out.stored 1 _ (R4a.out.tb.set_ahead _)⟩
  have hsz : v4.heap.size = w4.heap.size := by rw [hv]; simp [World.setCell]
  rw [← hv]
  clear hv R4a xc xf
  refine (rd_one a 4 s (hK3 s) v4 R4.out.rd hs 1 64).mono ?_
  rintro e w5 ⟨rfl, hd, hk⟩
  have R5a : Hid (Rt H a b w w5 s 5 (hK4 s) { c with stream := .bool (decide (hStream s = 1)), ahead := .int .i64 (hAhead s : Nat) } [(g, .cells #[.int .i64 0, .int .i64 0, .int .i64 0, .int .i64 0, .int .i64 0] 74)]) := R4.out.called hd hk
  clear hd hk R4
  have xc := R5a.out.tb.get_hold
  have xf := R5a.out.tb.fz 2
  have hm4 : hHold s ≤ 64 := within_le (byt s 4) 1 64 (by decide)
  rw [show within (byt s 4) 1 64 = hHold s from rfl]
  go_wp2_with fail
  clear hsz
  obtain ⟨v5, hv, R5⟩ : ∃ v, v = w5.setCell ⟨b, 2, none⟩ (.int .i64 (hHold s : Nat)) ∧ Hid (Rt H a b w v s 5 (hK4 s) { c with stream := .bool (decide (hStream s = 1)), ahead := .int .i64 (hAhead s : Nat), hold := .int .i64 (hHold s : Nat) } [(g, .cells #[.int .i64 0, .int .i64 0, .int .i64 0, .int .i64 0, .int .i64 0] 74)]) := ⟨_, rfl, R5a.out.stored 2 _ (R5a.out.tb.set_hold _)⟩
  have hsz : v5.heap.size = w5.heap.size := by rw [hv]; simp [World.setCell]
  rw [← hv]
  clear hv R5a xc xf
  obtain ⟨vz, hvz, Rz⟩ : ∃ v, v = (v5.alloc (.cells #[.int .i64 0, .int .i64 0, .int .i64 0, .int .i64 0, .int .i64 0] 74)) ∧ Hid (Rt H a b w v s 5 (hK4 s) { c with stream := .bool (decide (hStream s = 1)), ahead := .int .i64 (hAhead s : Nat), hold := .int .i64 (hHold s : Nat) } [(v5.heap.size, .cells #[.int .i64 0, .int .i64 0, .int .i64 0, .int .i64 0, .int .i64 0] 74), (g, .cells #[.int .i64 0, .int .i64 0, .int .i64 0, .int .i64 0, .int .i64 0] 74)]) := ⟨_, rfl, R5.out.alloc _⟩
  rw [← hvz]
  have hgg : g ≠ v5.heap.size := by have := (R5.out.own _ (List.mem_cons_self)).1; have := (Array.getElem?_eq_some_iff.1 this).1; have e : g < v5.heap.size := this; omega
  rw [hsz] at Rz hgg
  generalize w5.heap.size = q at *
  clear hvz R5 hsz
  refine (rd_two a 5 s (hK4 s) vz Rz.out.rd hs 1 3).mono ?_
  rintro e w6 ⟨rfl, hd, hk⟩
  have R6a : Hid (Rt H a b w w6 s 7 (hK5 s) { c with stream := .bool (decide (hStream s = 1)), ahead := .int .i64 (hAhead s : Nat), hold := .int .i64 (hHold s : Nat) } [(q, .cells #[.int .i64 0, .int .i64 0, .int .i64 0, .int .i64 0, .int .i64 0] 74), (g, .cells #[.int .i64 0, .int .i64 0, .int .i64 0, .int .i64 0, .int .i64 0] 74)]) := Rz.out.called hd hk
  clear hd hk Rz
  have xb : w6.heap[q]? = some (.cells #[.int .i64 0, .int .i64 0, .int .i64 0, .int .i64 0, .int .i64 0] 74) := (R6a.out.own _ (List.mem_cons_self)).1
  have xc : w6.cell? ⟨q, 0, none⟩ = some (.int .i64 0) := by simp [World.cell?, xb]
  have xf : w6.frozen? ⟨q, 0, none⟩ = false := by simp [World.frozen?, xb]
  have hm5 : hModes s ≤ 3 := within_le (byt2 s 5) 1 3 (by decide)
  rw [show within (byt2 s 5) 1 3 = hModes s from rfl]
  go_wp2_with fail
  obtain ⟨v6, hv, R6⟩ : ∃ v, v = w6.setCell ⟨q, 0, none⟩ (.int .i64 (hModes s : Nat)) ∧ Hid (Rt H a b w v s 7 (hK5 s) { c with stream := .bool (decide (hStream s = 1)), ahead := .int .i64 (hAhead s : Nat), hold := .int .i64 (hHold s : Nat) } [(q, .cells #[.int .i64 (hModes s : Nat), .int .i64 0, .int .i64 0, .int .i64 0, .int .i64 0] 74), (g, .cells #[.int .i64 0, .int .i64 0, .int .i64 0, .int .i64 0, .int .i64 0] 74)]) := ⟨_, rfl, R6a.out.boxed 0 _ (by simp [World.setCell, Array.getElem?_modify, xb]) (fun x hx => by rw [List.mem_singleton] at hx; rw [hx]; exact hgg)⟩
  rw [← hv]
  clear hv R6a xc xf xb
  refine (rd_two a 7 s (hK5 s) v6 R6.out.rd hs 1 8).mono ?_
  rintro e w7 ⟨rfl, hd, hk⟩
  have R7a : Hid (Rt H a b w w7 s 9 (hK6 s) { c with stream := .bool (decide (hStream s = 1)), ahead := .int .i64 (hAhead s : Nat), hold := .int .i64 (hHold s : Nat) } [(q, .cells #[.int .i64 (hModes s : Nat), .int .i64 0, .int .i64 0, .int .i64 0, .int .i64 0] 74), (g, .cells #[.int .i64 0, .int .i64 0, .int .i64 0, .int .i64 0, .int .i64 0] 74)]) := R6.out.called hd hk
  clear hd hk R6
  have xb : w7.heap[q]? = some (.cells #[.int .i64 (hModes s : Nat), .int .i64 0, .int .i64 0, .int .i64 0, .int .i64 0] 74) := (R7a.out.own _ (List.mem_cons_self)).1
  have xc : w7.cell? ⟨q, 1, none⟩ = some (.int .i64 0) := by simp [World.cell?, xb]
  have xf : w7.frozen? ⟨q, 1, none⟩ = false := by simp [World.frozen?, xb]
  have hm6 : hRules s ≤ 8 := within_le (byt2 s 7) 1 8 (by decide)
  rw [show within (byt2 s 7) 1 8 = hRules s from rfl]
  go_wp2_with fail
  obtain ⟨v7, hv, R7⟩ : ∃ v, v = w7.setCell ⟨q, 1, none⟩ (.int .i64 (hRules s : Nat)) ∧ Hid (Rt H a b w v s 9 (hK6 s) { c with stream := .bool (decide (hStream s = 1)), ahead := .int .i64 (hAhead s : Nat), hold := .int .i64 (hHold s : Nat) } [(q, .cells #[.int .i64 (hModes s : Nat), .int .i64 (hRules s : Nat), .int .i64 0, .int .i64 0, .int .i64 0] 74), (g, .cells #[.int .i64 0, .int .i64 0, .int .i64 0, .int .i64 0, .int .i64 0] 74)]) := ⟨_, rfl, R7a.out.boxed 1 _ (by simp [World.setCell, Array.getElem?_modify, xb]) (fun x hx => by rw [List.mem_singleton] at hx; rw [hx]; exact hgg)⟩
  rw [← hv]
  clear hv R7a xc xf xb
  refine (rd_two a 9 s (hK6 s) v7 R7.out.rd hs 1 200).mono ?_
  rintro e w8 ⟨rfl, hd, hk⟩
  have R8a : Hid (Rt H a b w w8 s 11 (hK7 s) { c with stream := .bool (decide (hStream s = 1)), ahead := .int .i64 (hAhead s : Nat), hold := .int .i64 (hHold s : Nat) } [(q, .cells #[.int .i64 (hModes s : Nat), .int .i64 (hRules s : Nat), .int .i64 0, .int .i64 0, .int .i64 0] 74), (g, .cells #[.int .i64 0, .int .i64 0, .int .i64 0, .int .i64 0, .int .i64 0] 74)]) := R7.out.called hd hk
  clear hd hk R7
  have xb : w8.heap[q]? = some (.cells #[.int .i64 (hModes s : Nat), .int .i64 (hRules s : Nat), .int .i64 0, .int .i64 0, .int .i64 0] 74) := (R8a.out.own _ (List.mem_cons_self)).1
  have xc : w8.cell? ⟨q, 2, none⟩ = some (.int .i64 0) := by simp [World.cell?, xb]
  have xf : w8.frozen? ⟨q, 2, none⟩ = false := by simp [World.frozen?, xb]
  have hm7 : hStates s ≤ 200 := within_le (byt2 s 9) 1 200 (by decide)
  rw [show within (byt2 s 9) 1 200 = hStates s from rfl]
  go_wp2_with fail
  obtain ⟨v8, hv, R8⟩ : ∃ v, v = w8.setCell ⟨q, 2, none⟩ (.int .i64 (hStates s : Nat)) ∧ Hid (Rt H a b w v s 11 (hK7 s) { c with stream := .bool (decide (hStream s = 1)), ahead := .int .i64 (hAhead s : Nat), hold := .int .i64 (hHold s : Nat) } [(q, .cells #[.int .i64 (hModes s : Nat), .int .i64 (hRules s : Nat), .int .i64 (hStates s : Nat), .int .i64 0, .int .i64 0] 74), (g, .cells #[.int .i64 0, .int .i64 0, .int .i64 0, .int .i64 0, .int .i64 0] 74)]) := ⟨_, rfl, R8a.out.boxed 2 _ (by simp [World.setCell, Array.getElem?_modify, xb]) (fun x hx => by rw [List.mem_singleton] at hx; rw [hx]; exact hgg)⟩
  rw [← hv]
  clear hv R8a xc xf xb
  refine (rd_two a 11 s (hK7 s) v8 R8.out.rd hs 1 256).mono ?_
  rintro e w9 ⟨rfl, hd, hk⟩
  have R9a : Hid (Rt H a b w w9 s 13 (hK8 s) { c with stream := .bool (decide (hStream s = 1)), ahead := .int .i64 (hAhead s : Nat), hold := .int .i64 (hHold s : Nat) } [(q, .cells #[.int .i64 (hModes s : Nat), .int .i64 (hRules s : Nat), .int .i64 (hStates s : Nat), .int .i64 0, .int .i64 0] 74), (g, .cells #[.int .i64 0, .int .i64 0, .int .i64 0, .int .i64 0, .int .i64 0] 74)]) := R8.out.called hd hk
  clear hd hk R8
  have xb : w9.heap[q]? = some (.cells #[.int .i64 (hModes s : Nat), .int .i64 (hRules s : Nat), .int .i64 (hStates s : Nat), .int .i64 0, .int .i64 0] 74) := (R9a.out.own _ (List.mem_cons_self)).1
  have xc : w9.cell? ⟨q, 3, none⟩ = some (.int .i64 0) := by simp [World.cell?, xb]
  have xf : w9.frozen? ⟨q, 3, none⟩ = false := by simp [World.frozen?, xb]
  have hm8 : hKinds s ≤ 256 := within_le (byt2 s 11) 1 256 (by decide)
  rw [show within (byt2 s 11) 1 256 = hKinds s from rfl]
  go_wp2_with fail
  obtain ⟨v9, hv, R9⟩ : ∃ v, v = w9.setCell ⟨q, 3, none⟩ (.int .i64 (hKinds s : Nat)) ∧ Hid (Rt H a b w v s 13 (hK8 s) { c with stream := .bool (decide (hStream s = 1)), ahead := .int .i64 (hAhead s : Nat), hold := .int .i64 (hHold s : Nat) } [(q, .cells #[.int .i64 (hModes s : Nat), .int .i64 (hRules s : Nat), .int .i64 (hStates s : Nat), .int .i64 (hKinds s : Nat), .int .i64 0] 74), (g, .cells #[.int .i64 0, .int .i64 0, .int .i64 0, .int .i64 0, .int .i64 0] 74)]) := ⟨_, rfl, R9a.out.boxed 3 _ (by simp [World.setCell, Array.getElem?_modify, xb]) (fun x hx => by rw [List.mem_singleton] at hx; rw [hx]; exact hgg)⟩
  rw [← hv]
  clear hv R9a xc xf xb
  have xb : v9.heap[q]? = some (.cells #[.int .i64 (hModes s : Nat), .int .i64 (hRules s : Nat), .int .i64 (hStates s : Nat), .int .i64 (hKinds s : Nat), .int .i64 0] 74) := (R9.out.own _ (List.mem_cons_self)).1
  have xc3 : v9.cell? ⟨q, 3, none⟩ = some (.int .i64 (hKinds s : Nat)) := by simp [World.cell?, xb]
  have xc4 : v9.cell? ⟨q, 4, none⟩ = some (.int .i64 0) := by simp [World.cell?, xb]
  have xf4 : v9.frozen? ⟨q, 4, none⟩ = false := by simp [World.frozen?, xb]
  have xa : v9.cell? ⟨b, 1, none⟩ = some (.int .i64 (hAhead s : Nat)) := R9.out.tb.get_ahead
  rename_i K12 hK12
  have H12 : Hid (∀ a w, _ → K12 a w) := hK12
  clear hK12
  go_region_with ((go_at_call 38; go_must ((refine (rows_calls (hKinds s) (hAhead s) _ hm8 hm3).mono ?_; rintro e w10 ⟨rfl, rfl⟩))))
  all_goals
    rw [show waysTo (hKinds s) (hAhead s) = hWays s from rfl]
    obtain ⟨v10, hv, R10⟩ : ∃ v, v = (v9.setCell ⟨q, 4, none⟩ (.int .i64 (hWays s : Nat))).drew ∧ Hid (Rt H a b w v s 13 (hK8 s) { c with stream := .bool (decide (hStream s = 1)), ahead := .int .i64 (hAhead s : Nat), hold := .int .i64 (hHold s : Nat) } [(q, .cells #[.int .i64 (hModes s : Nat), .int .i64 (hRules s : Nat), .int .i64 (hStates s : Nat), .int .i64 (hKinds s : Nat), .int .i64 (hWays s : Nat)] 74), (g, .cells #[.int .i64 0, .int .i64 0, .int .i64 0, .int .i64 0, .int .i64 0] 74)]) := ⟨_, rfl, (R9.out.boxed 4 _ (by simp [World.setCell, Array.getElem?_modify, xb]) (fun x hx => by rw [List.mem_singleton] at hx; rw [hx]; exact hgg)).alike ⟨rfl, rfl, rfl⟩⟩
    rw [← hv]
    clear hv R9 xb xc3 xc4 xf4 xa
    have xb : v10.heap[q]? = some (.cells #[.int .i64 (hModes s : Nat), .int .i64 (hRules s : Nat), .int .i64 (hStates s : Nat), .int .i64 (hKinds s : Nat), .int .i64 (hWays s : Nat)] 74) := (R10.out.own _ (List.mem_cons_self)).1
    have xc4 : v10.cell? ⟨q, 4, none⟩ = some (.int .i64 (hWays s : Nat)) := by simp [World.cell?, xb]
    have xs : v10.cell? ⟨b, 0, none⟩ = some (.bool (decide (hStream s = 1))) := R10.out.tb.get_stream
    have xa : v10.cell? ⟨b, 1, none⟩ = some (.int .i64 (hAhead s : Nat)) := R10.out.tb.get_ahead
    have xr := R10.out.rd.c2
    have xf := R10.out.rd.fz 2
    clear xb
    by_cases h1 : hWays s ≤ 3000
    · by_cases h2 : hStream s = 1
      · have HO : Hid (headOk s = hK8 s) := by show _ = _; unfold headOk; rw [decide_eq_true h1, decide_eq_true h2]; simp
        have i1 : (hWays s : Int) ≤ 3000 := by omega
        have i2 : decide (hStream s = 1) = true := decide_eq_true h2
        rw [i2] at xs
        clear h1 h2 i2
        refine H12.out _ _ ?_
        refine wp_seq_k ?_
        intro K2 hK2
        have HK : Hid (∀ a w, _ → K2 a w) := hK2
        clear hK2
        go_wp2_with fail
        have R11 : Rt H a b w v10 s 13 (headOk s) { c with stream := .bool (decide (hStream s = 1)), ahead := .int .i64 (hAhead s : Nat), hold := .int .i64 (hHold s : Nat) } [(q, .cells #[.int .i64 (hModes s : Nat), .int .i64 (hRules s : Nat), .int .i64 (hStates s : Nat), .int .i64 (hKinds s : Nat), .int .i64 (hWays s : Nat)] 74), (g, .cells #[.int .i64 0, .int .i64 0, .int .i64 0, .int .i64 0, .int .i64 0] 74)] := by rw [HO.out]; exact R10.out
        exact HK.out _ _ (head_tail a b H g q w _ s (headOk s) _ (hModes s) (hRules s) (hStates s) (hKinds s) (hWays s) R11 hgg)
      · by_cases h3 : hAhead s = 0
        · have HO : Hid (headOk s = hK8 s) := by show _ = _; unfold headOk; rw [decide_eq_true h1, decide_eq_true h3]; simp
          have i1 : (hWays s : Int) ≤ 3000 := by omega
          have i2 : decide (hStream s = 1) = false := decide_eq_false h2
          have i3 : (hAhead s : Int) ≤ 0 := by omega
          rw [i2] at xs
          clear h1 h2 i2 h3
          refine H12.out _ _ ?_
          refine wp_seq_k ?_
          intro K2 hK2
          have HK : Hid (∀ a w, _ → K2 a w) := hK2
          clear hK2
          go_wp2_with fail
          have R11 : Rt H a b w v10 s 13 (headOk s) { c with stream := .bool (decide (hStream s = 1)), ahead := .int .i64 (hAhead s : Nat), hold := .int .i64 (hHold s : Nat) } [(q, .cells #[.int .i64 (hModes s : Nat), .int .i64 (hRules s : Nat), .int .i64 (hStates s : Nat), .int .i64 (hKinds s : Nat), .int .i64 (hWays s : Nat)] 74), (g, .cells #[.int .i64 0, .int .i64 0, .int .i64 0, .int .i64 0, .int .i64 0] 74)] := by rw [HO.out]; exact R10.out
          exact HK.out _ _ (head_tail a b H g q w _ s (headOk s) _ (hModes s) (hRules s) (hStates s) (hKinds s) (hWays s) R11 hgg)
        · have HO : Hid (headOk s = false) := by show _ = _; unfold headOk; rw [decide_eq_false h2, decide_eq_false h3]; simp
          have i1 : (hWays s : Int) ≤ 3000 := by omega
          have i2 : decide (hStream s = 1) = false := decide_eq_false h2
          have i3 : 0 < (hAhead s : Int) := by omega
          rw [i2] at xs
          clear h1 h2 i2 h3
          refine H12.out _ _ ?_
          refine wp_seq_k ?_
          intro K2 hK2
          have HK : Hid (∀ a w, _ → K2 a w) := hK2
          clear hK2
          go_wp2_with fail
          have R11 : Rt H a b w (v10.setCell ⟨a, 2, none⟩ (.bool false)) s 13 (headOk s) { c with stream := .bool (decide (hStream s = 1)), ahead := .int .i64 (hAhead s : Nat), hold := .int .i64 (hHold s : Nat) } [(q, .cells #[.int .i64 (hModes s : Nat), .int .i64 (hRules s : Nat), .int .i64 (hStates s : Nat), .int .i64 (hKinds s : Nat), .int .i64 (hWays s : Nat)] 74), (g, .cells #[.int .i64 0, .int .i64 0, .int .i64 0, .int .i64 0, .int .i64 0] 74)] := by rw [HO.out]; exact R10.out.told false
          exact HK.out _ _ (head_tail a b H g q w _ s (headOk s) _ (hModes s) (hRules s) (hStates s) (hKinds s) (hWays s) R11 hgg)
    · have HO : Hid (headOk s = false) := by show _ = _; unfold headOk; rw [decide_eq_false h1]; simp
      have i1 : 3000 < (hWays s : Int) := by omega
      clear h1
      refine H12.out _ _ ?_
      refine wp_seq_k ?_
      intro K2 hK2
      have HK : Hid (∀ a w, _ → K2 a w) := hK2
      clear hK2
      go_wp2_with fail
      have R11 : Rt H a b w (v10.setCell ⟨a, 2, none⟩ (.bool false)) s 13 (headOk s) { c with stream := .bool (decide (hStream s = 1)), ahead := .int .i64 (hAhead s : Nat), hold := .int .i64 (hHold s : Nat) } [(q, .cells #[.int .i64 (hModes s : Nat), .int .i64 (hRules s : Nat), .int .i64 (hStates s : Nat), .int .i64 (hKinds s : Nat), .int .i64 (hWays s : Nat)] 74), (g, .cells #[.int .i64 0, .int .i64 0, .int .i64 0, .int .i64 0, .int .i64 0] 74)] := by rw [HO.out]; exact R10.out.told false
      exact HK.out _ _ (head_tail a b H g q w _ s (headOk s) _ (hModes s) (hRules s) (hStates s) (hKinds s) (hWays s) R11 hgg)
end Go.Proofs.Yteflpladkmihdaa
