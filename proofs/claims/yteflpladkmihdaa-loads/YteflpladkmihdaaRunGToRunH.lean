/- The longest token of the other engine. -/
import Derived.Test.YteflpladkmihdaaRunYToRunP
import Derived.Test.YteflpladkmihdaaRefMToTabB
import Derived.Deep.LoopGhost
set_option linter.unusedVariables false
set_option linter.unusedSimpArgs false
namespace Go.Proofs.Yteflpladkmihdaa
open Go.RowKit

/-- A store into a block of one's own. -/
theorem Cx.boxed {H b : Nat} {S : Nat → Prop} {t : Tb} {w : World} {r : Rs} {v0 : Value} {n : Nat} {xs : List Value} (h : Cx H b S t w r v0 n xs) (g i : Nat) (x : Value) (hg : H ≤ g) (hne : v0.ownBlock ≠ some g) : Cx H b S t (w.setCell ⟨g, i, none⟩ x) r v0 n xs := by
  have hbH := h.bH
  refine ⟨h.run.of_block (Below.heap_setCell _ _ _ _ (by show b ≠ g; omega)), ⟨h.own.1, h.own.2.imp id ?_⟩, h.tab.keep fun k hk => Below.heap_setCell _ _ _ _ (by have := (h.safe k hk).1; show k ≠ g; omega), hbH, by simpa [World.setCell] using h.HH, h.safe⟩
  rintro ⟨g', cap, cur, hv, hb', hh, rest⟩
  refine ⟨g', cap, cur, hv, hb', (Below.heap_setCell _ _ _ _ ?_).trans hh, rest⟩
  intro e
  have e' : g' = g := e
  rw [hv, e'] at hne
  exact hne rfl
theorem Keep.boxed {H b : Nat} (w : World) (g i : Nat) (x : Value) (hg : H ≤ g) : Keep H b w (w.setCell ⟨g, i, none⟩ x) :=
  ⟨rfl, rfl, by simp [World.setCell], fun k h1 _ => Below.heap_setCell _ _ _ _ (by show k ≠ g; omega)⟩

/-- The run behind the longest token. -/
def Rs.cut (r : Rs) : Rs := { r with first := (r.first + r.length) % 64, count := r.count - r.length, taken := 0, length := 0 }

set_option maxHeartbeats 2000000 in
set_option maxRecDepth 100000 in
theorem long_rest (b H : Nat) (S : Nat → Prop) (t : Tb) (w0 w : World) (r : Rs) {v0 : Value} (es : List Ev) (hC : Cv H b S t w r v0 es) (hn : es.length ≤ 4194304) (ok : t.Ok) (hact : ∀ i, i < t.nrule → t.act i < 4) (hok : r.Ok t) (hl : r.length ≤ r.count) (k : Nat) (hrule : r.rule = k) (hkr : k < t.nrule) (hk : Keep H b w0 w)
    (g eA eL eC : Nat) (hg : H ≤ g) (hgb : w.heap[g]? = some (.cells #[.int .i64 eA, .int .i64 eL, .int .i64 eC] 56)) (f : Rs × List Ev) (hf : f = r.cut.tok t k eA eL eC)
    {u1 u3 u4 u5 u6 u7 u8 u9 u10 u11 u12 u13 u14 u15 u16 u17 u18 u19 u20 u21 u22 u23 u24 u25 u26 u27 u28 u29 u30 u31 u32 u33 u34 u35 u36 u37 u38 u39 u40 u41 u42 u43 u44 u45 u46 u47 u48 u49 u50 : Value} :
    Code.wp Try.prog (dropSeq 3 ((Try.f50.body).getD .skip)) (bodyPost Try.prog Try.f50 fun e w' =>
      e = .returned (.tuple #[]) ∧ ∃ v, Cv H b S t w' f.1 v (es ++ f.2) ∧ Keep H b w0 w')
      ⟨(.pointer (some ⟨b, 0, none⟩) :: u1 :: .pointer (some ⟨g, 0, none⟩) :: u3 :: u4 :: u5 :: u6 :: u7 :: u8 :: u9 :: u10 :: u11 :: u12 :: u13 :: u14 :: u15 :: u16 :: u17 :: u18 :: u19 :: u20 :: u21 :: u22 :: u23 :: u24 :: u25 :: u26 :: u27 :: u28 :: u29 :: u30 :: u31 :: u32 :: u33 :: u34 :: u35 :: u36 :: u37 :: u38 :: u39 :: u40 :: u41 :: u42 :: u43 :: u44 :: u45 :: u46 :: u47 :: u48 :: u49 :: u50 :: []).toArray, []⟩ w := by
  conv => arg 2; whnf
  have HC : Hid (Cv H b S t w r v0 es) := hC
  have HK0 : Hid (Keep H b w0 w) := hk
  have HF : Hid (f = r.cut.tok t k eA eL eC) := hf
  have HG : Hid (w.heap[g]? = some (.cells #[.int .i64 eA, .int .i64 eL, .int .i64 eC] 56)) := hgb
  have HR : Hid (r.rule = k) := hrule
  have y83 : w.cell? ⟨b, 83, none⟩ = some (.int .i64 r.length) := HC.out.run.get_length
  have hgne : g ≠ b := by have := HC.out.bH; omega
  clear hC hk hf hgb hrule
  refine wp_seq_k ?_
  intro K hK
  have H7 : Hid (∀ a w, _ → K a w) := hK
  clear hK
  go_wp2_with fail
  go_region_with ((go_at_call 55; go_must ((refine (drop_calls b r.length _ r (Cx.alike (w' := w.drew) HC.out ⟨rfl, rfl, rfl⟩).run hok.first hl hok.count).mono ?_; rintro e w1 ⟨rfl, hR1, hk1⟩))))
  all_goals
    have c1 : Hid (Cv H b S t w1 { r with first := (r.first + r.length) % 64, count := r.count - r.length } v0 es) := Cx.kept (Cx.alike (w' := w.drew) HC.out ⟨rfl, rfl, rfl⟩) hk1 hR1 rfl
    have k1 : Hid (Keep H b w0 w1) := (HK0.out.trans (Keep.drew _)).trans (hk1 H)
    have g1 : Hid (w1.heap[g]? = some (.cells #[.int .i64 eA, .int .i64 eL, .int .i64 eC] 56)) := ((hk1 (g + 1)).block g (by omega) hgne).trans HG.out
    clear hk1 hR1 HC HK0 HG y83
    go_wp2_with fail
    refine H7.out _ _ ?_
    have y82 : w1.cell? ⟨b, 82, none⟩ = some (.int .i64 r.taken) := c1.out.run.get_taken
    have y83 : w1.cell? ⟨b, 83, none⟩ = some (.int .i64 r.length) := c1.out.run.get_length
    have y84 : w1.cell? ⟨b, 84, none⟩ = some (.int .i64 k) := by rw [← HR.out]; exact c1.out.run.get_rule
    have z82 := c1.out.run.frozen 82
    have z83 := c1.out.run.frozen 83
    have x0 : w1.cell? ⟨g, 0, none⟩ = some (.int .i64 eA) := by simp [World.cell?, g1.out]
    have x1 : w1.cell? ⟨g, 1, none⟩ = some (.int .i64 eL) := by simp [World.cell?, g1.out]
    have x2 : w1.cell? ⟨g, 2, none⟩ = some (.int .i64 eC) := by simp [World.cell?, g1.out]
    go_wp2_with fail
    obtain ⟨w2, hw2, c2, k2, g2⟩ : ∃ w2, w2 = (w1.setCell ⟨b, 82, none⟩ (.int .i64 0)).setCell ⟨b, 83, none⟩ (.int .i64 0) ∧ Hid (Cv H b S t w2 r.cut v0 es) ∧ Hid (Keep H b w0 w2) ∧ Hid (w2.heap[g]? = some (.cells #[.int .i64 eA, .int .i64 eL, .int .i64 eC] 56)) := by
      have d1 := Cx.stored c1.out 82 _ (c1.out.run.set_taken 0) rfl
      have d2 := d1.stored 83 _ (d1.run.set_length 0) rfl
      exact ⟨_, rfl, d2, (k1.out.trans (Keep.set _ _ _)).trans (Keep.set _ _ _), ((Below.heap_setCell _ _ _ _ (by exact hgne)).trans (Below.heap_setCell _ _ _ _ (by exact hgne))).trans g1.out⟩
    rw [← hw2]
    clear hw2 c1 k1 g1 y82 y83 y84 z82 z83 x0 x1 x2
    have y84 : w2.cell? ⟨b, 84, none⟩ = some (.int .i64 k) := by rw [← HR.out]; exact c2.out.run.get_rule
    have x0 : w2.cell? ⟨g, 0, none⟩ = some (.int .i64 eA) := by simp [World.cell?, g2.out]
    have x1 : w2.cell? ⟨g, 1, none⟩ = some (.int .i64 eL) := by simp [World.cell?, g2.out]
    have x2 : w2.cell? ⟨g, 2, none⟩ = some (.int .i64 eC) := by simp [World.cell?, g2.out]
    have hok2 : r.cut.Ok t := ⟨hok.d1, hok.d4, hok.st, hok.state, Nat.mod_lt _ (by decide), Nat.le_trans (Nat.sub_le _ _) hok.count, hok.bytes⟩
    go_region_with ((go_at_call 59; go_must ((refine (token_calls b H S t _ r.cut es (Cx.alike (w' := w2.drew) c2.out ⟨rfl, rfl, rfl⟩) hn k eA eL eC hkr (hact k hkr) ok hok2).mono ?_; rintro e w3 ⟨rfl, v3, c3, k3⟩))))
    all_goals
      have C3 : Hid (Cv H b S t w3 f.1 v3 (es ++ f.2)) := by show Cv H b S t w3 f.1 v3 (es ++ f.2); rw [HF.out]; exact c3
      clear c3
      go_wp2_with fail
      go_end0
      exact ⟨rfl, v3, C3.out, (k2.out.trans (Keep.drew _)).trans k3⟩
end Go.Proofs.Yteflpladkmihdaa

/- The longest token of the other engine: its end. -/
namespace Go.Proofs.Yteflpladkmihdaa
open Go.RowKit

/-- The line and the column behind the first bytes that are held. -/
def Rs.lineTo (r : Rs) : Nat → Nat
  | 0 => r.bLine
  | i + 1 => lineB (r.byte ((r.first + i) % 64)) (r.lineTo i)
def Rs.colTo (r : Rs) : Nat → Nat
  | 0 => r.bCol
  | i + 1 => colB (r.byte ((r.first + i) % 64)) (r.colTo i)
theorem Rs.lineTo_le (r : Rs) (i : Nat) : r.lineTo i ≤ r.bLine + i := by
  induction i with
  | zero => exact Nat.le_refl _
  | succ i ih => simp only [Rs.lineTo]; unfold lineB; split <;> omega
theorem Rs.colTo_le (r : Rs) (i : Nat) : r.colTo i ≤ r.bCol + i + 1 := by
  induction i with
  | zero => exact Nat.le_succ _
  | succ i ih => simp only [Rs.colTo]; unfold colB; split <;> omega

set_option maxHeartbeats 4000000 in
set_option maxRecDepth 100000 in
theorem long_loop (b H : Nat) (S : Nat → Prop) (t : Tb) (w0 w : World) (r : Rs) {v0 : Value} (es : List Ev) (hC : Cv H b S t w r v0 es) (hn : es.length ≤ 4194304) (ok : t.Ok) (hact : ∀ i, i < t.nrule → t.act i < 4) (hok : r.Ok t) (hl : r.length ≤ r.count) (k : Nat) (hrule : r.rule = k) (hkr : k < t.nrule) (hk : Keep H b w0 w)
    (p1 : r.bAt + 64 < 2147483648) (p2 : r.bLine + 64 < 2147483648) (p3 : r.bCol + 65 < 2147483648)
    (g : Nat) (hg : H ≤ g) (hne : v0.ownBlock ≠ some g) (hgb : w.heap[g]? = some (.cells #[.int .i64 r.bAt, .int .i64 r.bLine, .int .i64 r.bCol] 56)) (f : Rs × List Ev) (hf : f = r.cut.tok t k (r.bAt + r.length) (r.lineTo r.length) (r.colTo r.length))
    {u1 u3 u4 u5 u6 u7 u8 u9 u10 u11 u12 u13 u14 u15 u16 u17 u18 u19 u20 u21 u22 u23 u24 u25 u26 u27 u28 u29 u30 u31 u32 u33 u34 u35 u36 u37 u38 u39 u40 u41 u42 u43 u44 u45 u46 u47 u48 u49 u50 : Value} :
    Code.wp Try.prog (dropSeq 2 ((Try.f50.body).getD .skip)) (bodyPost Try.prog Try.f50 fun e w' =>
      e = .returned (.tuple #[]) ∧ ∃ v, Cv H b S t w' f.1 v (es ++ f.2) ∧ Keep H b w0 w')
      ⟨(.pointer (some ⟨b, 0, none⟩) :: u1 :: .pointer (some ⟨g, 0, none⟩) :: u3 :: u4 :: u5 :: u6 :: u7 :: u8 :: u9 :: u10 :: u11 :: u12 :: u13 :: u14 :: u15 :: u16 :: u17 :: u18 :: u19 :: u20 :: u21 :: u22 :: u23 :: u24 :: u25 :: u26 :: u27 :: u28 :: u29 :: u30 :: u31 :: u32 :: u33 :: u34 :: u35 :: u36 :: u37 :: u38 :: u39 :: u40 :: u41 :: u42 :: u43 :: u44 :: u45 :: u46 :: u47 :: u48 :: u49 :: u50 :: []).toArray, []⟩ w := by
  conv => arg 2; whnf
  refine wp_seq_k ?_
  intro K hK0
  have HK : Hid (∀ a w, _ → K a w) := hK0
  have HC : Hid (Cv H b S t w r v0 es) := hC
  have HK0 : Hid (Keep H b w0 w) := hk
  have HF : Hid (f = r.cut.tok t k (r.bAt + r.length) (r.lineTo r.length) (r.colTo r.length)) := hf
  have HG : Hid (w.heap[g]? = some (.cells #[.int .i64 r.bAt, .int .i64 r.bLine, .int .i64 r.bCol] 56)) := hgb
  have HR : Hid (r.rule = k) := hrule
  have hcnt := hok.count
  clear hC hk hf hgb hrule hK0
  go_wp2_with fail
  go_loopg [3] r.length (fun q i wr => ∃ (j A L C : Nat), q = r.length - j ∧ j ≤ r.length ∧ i = .int .i64 (j : Int) ∧ A = r.bAt + j ∧ L = r.lineTo j ∧ C = r.colTo j ∧ Cv H b S t wr r v0 es ∧ Keep H b w0 wr ∧ wr.heap[g]? = some (.cells #[.int .i64 A, .int .i64 L, .int .i64 C] 56))
  case atStart => exact ⟨0, r.bAt, r.bLine, r.bCol, rfl, Nat.zero_le _, rfl, rfl, rfl, rfl, HC.out, HK0.out, HG.out⟩
  case round =>
    obtain ⟨j, A, L, C, hgk, hj, rfl, hA, hL, hCc, hC', hk', hgb'⟩ := hrel
    have AA : Hid (gk = r.length - j ∧ A = r.bAt + j ∧ L = r.lineTo j ∧ C = r.colTo j ∧ Cv H b S t wr r v0 es ∧ Keep H b w0 wr ∧ wr.heap[g]? = some (.cells #[.int .i64 A, .int .i64 L, .int .i64 C] 56)) := ⟨hgk, hA, hL, hCc, hC', hk', hgb'⟩
    have q1 := r.lineTo_le j
    have q2 := r.colTo_le j
    have a1 : A < 2147483648 := by omega
    have a2 : L < 2147483648 := by omega
    have a3 : C < 2147483648 := by omega
    have y83 : wr.cell? ⟨b, 83, none⟩ = some (.int .i64 r.length) := hC'.run.get_length
    have x0 : wr.cell? ⟨g, 0, none⟩ = some (.int .i64 A) := by simp [World.cell?, hgb']
    have x1 : wr.cell? ⟨g, 1, none⟩ = some (.int .i64 L) := by simp [World.cell?, hgb']
    have x2 : wr.cell? ⟨g, 2, none⟩ = some (.int .i64 C) := by simp [World.cell?, hgb']
    have fz : Hid (∀ i, wr.frozen? ⟨g, i, none⟩ = false) := fun i => by simp [World.frozen?, hgb']
    have hgs : g < wr.heap.size := (Array.getElem?_eq_some_iff.1 hgb').1
    clear hgk hA hL hCc hC' hk' hgb' q1 q2
    by_cases hjl : j < r.length
    · have hl1 : (j : Int) < (r.length : Int) := by omega
      have hcb := hok.bytes ((r.first + j) % 64) (Nat.mod_lt _ (by decide))
      have HL : Hid (r.lineTo (j + 1) = lineB (r.byte ((r.first + j) % 64)) (r.lineTo j) ∧ r.colTo (j + 1) = colB (r.byte ((r.first + j) % 64)) (r.colTo j)) := ⟨rfl, rfl⟩
      have HAT : Hid (Calls Try.prog 54 #[.pointer (some ⟨b, 12, none⟩), .int .i64 j] wr.drew fun e w' => e = .returned (.int .u8 (r.byte ((r.first + j) % 64))) ∧ w'.Alike wr.drew) := at_calls b j _ r (Cx.alike (w' := wr.drew) AA.out.2.2.2.2.1 ⟨rfl, rfl, rfl⟩).run hok.first (by omega)
      generalize r.byte ((r.first + j) % 64) = c at *
      go_wp2_with fail
      go_region_with ((first | (go_at_call 54; go_must ((refine Calls.mono HAT.out ?_; rintro e w5 ⟨rfl, ha5⟩; have m0 : w5.cell? ⟨g, 0, none⟩ = some (.int .i64 A) := (ha5.cell ⟨g, 0, none⟩).trans x0; have m1 : w5.cell? ⟨g, 1, none⟩ = some (.int .i64 L) := (ha5.cell ⟨g, 1, none⟩).trans x1; have m2 : w5.cell? ⟨g, 2, none⟩ = some (.int .i64 C) := (ha5.cell ⟨g, 2, none⟩).trans x2))) | (go_at_call 56; go_must ((refine (behind_calls A L C c _ a1 a2 a3 hcb).mono ?_; rintro e w6 ⟨rfl, hb6⟩; have hg5 : g < w5.heap.size := Nat.lt_of_lt_of_eq hgs (congrArg Array.size ha5.1).symm; have n0 : w6.cell? ⟨g, 0, none⟩ = some (.int .i64 A) := (hb6.cell (p := ⟨g, 0, none⟩) hg5).trans m0; have n1 : w6.cell? ⟨g, 1, none⟩ = some (.int .i64 L) := (hb6.cell (p := ⟨g, 1, none⟩) hg5).trans m1; have n2 : w6.cell? ⟨g, 2, none⟩ = some (.int .i64 C) := (hb6.cell (p := ⟨g, 2, none⟩) hg5).trans m2; have o0 : w6.frozen? ⟨g, 0, none⟩ = false := (hb6.frozen (p := ⟨g, 0, none⟩) hg5).trans ((ha5.frozen ⟨g, 0, none⟩).trans (fz.out 0)); have o1 : w6.frozen? ⟨g, 1, none⟩ = false := (hb6.frozen (p := ⟨g, 1, none⟩) hg5).trans ((ha5.frozen ⟨g, 1, none⟩).trans (fz.out 1)); have o2 : w6.frozen? ⟨g, 2, none⟩ = false := (hb6.frozen (p := ⟨g, 2, none⟩) hg5).trans ((ha5.frozen ⟨g, 2, none⟩).trans (fz.out 2)))))))
      all_goals
        have h5 : w5.heap[g]? = wr.heap[g]? := congrArg (fun h => h[g]?) ha5.1
        have h6 : w6.heap[g]? = some (.cells #[.int .i64 A, .int .i64 L, .int .i64 C] 56) := (hb6.block g hg5).trans (h5.trans AA.out.2.2.2.2.2.2)
        have c5 := Cx.alike AA.out.2.2.2.2.1 ha5
        have c6 := Cx.below c5 hb6
        have C7 : Hid (Cv H b S t (((w6.setCell ⟨g, 0, none⟩ (.int .i64 ((A : Int) + 1))).setCell ⟨g, 1, none⟩ (.int .i64 (lineB c L : Nat))).setCell ⟨g, 2, none⟩ (.int .i64 (colB c C : Nat))) r v0 es ∧
            Keep H b w0 (((w6.setCell ⟨g, 0, none⟩ (.int .i64 ((A : Int) + 1))).setCell ⟨g, 1, none⟩ (.int .i64 (lineB c L : Nat))).setCell ⟨g, 2, none⟩ (.int .i64 (colB c C : Nat))) ∧
            (((w6.setCell ⟨g, 0, none⟩ (.int .i64 ((A : Int) + 1))).setCell ⟨g, 1, none⟩ (.int .i64 (lineB c L : Nat))).setCell ⟨g, 2, none⟩ (.int .i64 (colB c C : Nat))).heap[g]? = some (.cells #[.int .i64 ((A + 1 : Nat) : Int), .int .i64 (lineB c L : Nat), .int .i64 (colB c C : Nat)] 56)) := by
          refine ⟨((Cx.boxed c6 g 0 _ hg hne).boxed g 1 _ hg hne).boxed g 2 _ hg hne, ((((AA.out.2.2.2.2.2.1.trans (Keep.alike ha5)).trans (Keep.below hb6 c5.HH)).trans (Keep.boxed _ g 0 _ hg)).trans (Keep.boxed _ g 1 _ hg)).trans (Keep.boxed _ g 2 _ hg), ?_⟩
          simp [World.setCell, Array.getElem?_modify, h6]
        clear h5 h6 c5 c6 hb6 ha5
        go_wp2_with fail
        go_roundg (r.length - (j + 1))
        case measure => rw [AA.out.1]; omega
        case rel => exact ⟨j + 1, A + 1, lineB c L, colB c C, rfl, by omega, congrArg (Value.int IntKind.i64) (by omega), by rw [AA.out.2.1]; omega, by rw [HL.out.1, AA.out.2.2.1], by rw [HL.out.2, AA.out.2.2.2.1], C7.out.1, C7.out.2.1, C7.out.2.2⟩
    · have hl1 : (r.length : Int) ≤ (j : Int) := by omega
      have hje : Hid (j = r.length) := by show j = _; omega
      go_wp2_with fail
      refine HK.out _ _ ?_
      obtain ⟨_, hA, hL, hCc, hC', hk', hgb'⟩ := AA.out
      exact long_rest b H S t w0 _ r es hC' hn ok hact hok hl k HR.out hkr hk' g A L C hg hgb' f (by rw [HF.out, hA, hL, hCc, hje.out])
end Go.Proofs.Yteflpladkmihdaa
