/- A stream's end. -/
import Derived.Test.YteflpladkmihdaaRunYToRunP
import Derived.Test.YteflpladkmihdaaRefMToTabB
import Derived.Deep.LoopGhost
set_option linter.unusedVariables false
set_option linter.unusedSimpArgs false
namespace Go.Proofs.Yteflpladkmihdaa
open Go.RowKit

/-- The text's end lies ahead once more. -/
def Rs.look (r : Rs) (t : Tb) : Rs := { r with ahead := t.further r.ahead t.count }
/-- The last event of a stream. -/
def Rs.ended (r : Rs) : Rs × List Ev := if r.opn = false then (r, []) else ({ r with opn := false }, [r.lastEv (if r.hAt = r.bAt then 2 else 3)])

set_option maxHeartbeats 2000000 in
set_option maxRecDepth 100000 in
theorem close_rest (b H : Nat) (S : Nat → Prop) (t : Tb) (w0 w : World) (r : Rs) {v0 : Value} (es : List Ev) (hC : Cv H b S t w r v0 es) (hn : es.length ≤ 4194304) (hk : Keep H b w0 w) (f : Rs × List Ev) (hf : f = r.ended)
    {u1 u2 u3 u4 u5 u6 u7 u8 u9 u10 u11 u12 u13 u14 u15 u16 u17 u18 u19 u20 u21 u22 u23 u24 u25 u26 u27 u28 u29 u30 u31 u32 u33 u34 u35 u36 u37 u38 u39 u40 u41 u42 u43 u44 u45 u46 u47 u48 u49 u50 u51 u52 u53 u54 u55 u56 u57 u58 u59 u60 u61 u62 u63 u64 u65 u66 u67 u68 u69 u70 u71 u72 u73 u74 u75 u76 u77 u78 u79 u80 u81 u82 u83 u84 : Value} :
    Code.wp Try.prog (dropSeq 3 ((Try.f34.body).getD .skip)) (bodyPost Try.prog Try.f34 fun e w' =>
      e = .returned (.tuple #[]) ∧ ∃ v, Cv H b S t w' f.1 v (es ++ f.2) ∧ Keep H b w0 w')
      ⟨(.pointer (some ⟨b, 0, none⟩) :: u1 :: u2 :: u3 :: u4 :: u5 :: u6 :: u7 :: u8 :: u9 :: u10 :: u11 :: u12 :: u13 :: u14 :: u15 :: u16 :: u17 :: u18 :: u19 :: u20 :: u21 :: u22 :: u23 :: u24 :: u25 :: u26 :: u27 :: u28 :: u29 :: u30 :: u31 :: u32 :: u33 :: u34 :: u35 :: u36 :: u37 :: u38 :: u39 :: u40 :: u41 :: u42 :: u43 :: u44 :: u45 :: u46 :: u47 :: u48 :: u49 :: u50 :: u51 :: u52 :: u53 :: u54 :: u55 :: u56 :: u57 :: u58 :: u59 :: u60 :: u61 :: u62 :: u63 :: u64 :: u65 :: u66 :: u67 :: u68 :: u69 :: u70 :: u71 :: u72 :: u73 :: u74 :: u75 :: u76 :: u77 :: u78 :: u79 :: u80 :: u81 :: u82 :: u83 :: u84 :: []).toArray, []⟩ w := by
  conv => arg 2; whnf
  have HC : Hid (Cv H b S t w r v0 es) := hC
  have HK0 : Hid (Keep H b w0 w) := hk
  have HF : Hid (f = r.ended) := hf
  have y1 : w.cell? ⟨b, 1, none⟩ = some (.bool r.opn) := HC.out.run.get_opn
  have y8 : w.cell? ⟨b, 8, none⟩ = some (.int .i64 r.bAt) := HC.out.run.get_bAt
  have y78 : w.cell? ⟨b, 78, none⟩ = some (.int .i64 r.hAt) := HC.out.run.get_hAt
  clear hC hk hf
  cases ho : r.opn
  · rw [ho] at y1
    go_wp2_with fail
    refine bodyPost_ret (results_none rfl _ _ _) rfl ?_
    refine ⟨rfl, v0, ?_, HK0.out⟩
    rw [HF.out, Rs.ended, if_pos ho, List.append_nil]
    exact HC.out
  · rw [ho] at y1
    by_cases he : r.hAt = r.bAt
    · have hb : ((r.hAt : Int) == (r.bAt : Int)) = true := by rw [beq_iff_eq]; omega
      have HE : Hid (r.hAt = r.bAt) := he
      clear he
      go_wp2_with fail
      go_quiet (fail)
      go_wp2_with fail
      refine (last_calls b H S t 2 _ r v0 _ _ (Cx.alike (w' := w.drewN nq) HC.out ⟨rfl, rfl, rfl⟩) hn).mono ?_
      rintro e w2 ⟨rfl, ao, cap, c2, k2⟩
      have C2 : Hid (Cx _ _ _ _ _ _ _ _ _) := c2
      clear c2
      go_wp2_with fail
      go_end0
      refine ⟨rfl, .slice ao (es.length + 1) cap, ?_, (HK0.out.trans (Keep.alike (w' := w.drewN nq) ⟨rfl, rfl, rfl⟩)).trans k2⟩
      rw [HF.out, Rs.ended, if_neg (by rw [ho]; decide), if_pos HE.out]
      unfold Cv
      rw [evsCells_snoc, List.length_append]
      exact C2.out
    · have hb : ((r.hAt : Int) == (r.bAt : Int)) = false := by rw [beq_eq_false_iff_ne]; omega
      have HE : Hid (¬ r.hAt = r.bAt) := he
      clear he
      go_wp2_with fail
      go_quiet (fail)
      go_wp2_with fail
      refine (last_calls b H S t 3 _ r v0 _ _ (Cx.alike (w' := w.drewN nq) HC.out ⟨rfl, rfl, rfl⟩) hn).mono ?_
      rintro e w2 ⟨rfl, ao, cap, c2, k2⟩
      have C2 : Hid (Cx _ _ _ _ _ _ _ _ _) := c2
      clear c2
      go_wp2_with fail
      go_end0
      refine ⟨rfl, .slice ao (es.length + 1) cap, ?_, (HK0.out.trans (Keep.alike (w' := w.drewN nq) ⟨rfl, rfl, rfl⟩)).trans k2⟩
      rw [HF.out, Rs.ended, if_neg (by rw [ho]; decide), if_neg HE.out]
      unfold Cv
      rw [evsCells_snoc, List.length_append]
      exact C2.out
end Go.Proofs.Yteflpladkmihdaa

/- A stream's end: what is held is taken. -/
namespace Go.Proofs.Yteflpladkmihdaa
open Go.RowKit

/-- All that is held is taken, the text's end behind it. -/
def Rs.drain (t : Tb) : Nat → Rs → Rs × List Ev
  | 0, r => (r, [])
  | n + 1, r => if r.opn = false then (r, []) else ((Rs.drain t n ((r.look t).step t).1).1, ((r.look t).step t).2 ++ (Rs.drain t n ((r.look t).step t).1).2)

/-- What holds of a run while so many bytes at most are to come. -/
structure Rs.Fit (r : Rs) (t : Tb) (n : Nat) : Prop where
  ok : r.Ok t
  ahead : r.ahead < t.rows
  hAt : r.hAt + n < 2147483648
  hLine : r.hLine + n < 2147483648
  hCol : r.hCol + n < 2147483648
theorem Rs.look_ok (r : Rs) (t : Tb) (h : r.Ok t) : (r.look t).Ok t := ⟨h.d1, h.d4, h.st, h.state, h.first, h.count, h.bytes⟩
theorem Rs.step_fit (r : Rs) (t : Tb) (n : Nat) (ok : t.Ok) (h : r.Fit t (n + 1)) : ((r.look t).step t).1.Fit t n := by
  have hs := ((r.look t).took t).fin_same t
  have h1 := h.hAt
  have h2 := h.hLine
  have h3 := h.hCol
  refine ⟨((r.look t).took t).fin_ok t ok ((r.look t).took_ok t ok (r.look_ok t h.ok)), ?_, ?_, ?_, ?_⟩
  · show (((r.look t).took t).fin t).1.ahead < t.rows
    rw [hs.ahead]
    exact Nat.mod_lt _ ok.rows0
  · show (((r.look t).took t).fin t).1.hAt + n < 2147483648
    rw [hs.hAt]
    show r.hAt + 1 + n < 2147483648
    omega
  · show (((r.look t).took t).fin t).1.hLine + n < 2147483648
    rw [hs.hLine]
    show lineB _ r.hLine + n < 2147483648
    unfold lineB
    split <;> omega
  · show (((r.look t).took t).fin t).1.hCol + n < 2147483648
    rw [hs.hCol]
    show colB _ r.hCol + n < 2147483648
    unfold colB
    split <;> omega
theorem Rs.step_count (r : Rs) (t : Tb) : ((r.look t).step t).1.count = r.count - 1 := (((r.look t).took t).fin_same t).count
theorem Rs.step_one (r : Rs) (t : Tb) : ((r.look t).step t).2.length ≤ 1 := ((r.look t).took t).fin_one t

set_option maxHeartbeats 2000000 in
set_option maxRecDepth 100000 in
theorem close_drain (b H : Nat) (S : Nat → Prop) (t : Tb) (w0 w : World) (r : Rs) {v0 : Value} (es : List Ev) (hC : Cv H b S t w r v0 es) (hn : es.length + r.count < 4194304) (ok : t.Ok) (hact : ∀ i, i < t.nrule → t.act i < 4) (hfit : r.Fit t r.count) (hk : Keep H b w0 w)
    (f : Rs × List Ev) (hf : f = ((Rs.drain t r.count r).1.ended.1, (Rs.drain t r.count r).2 ++ (Rs.drain t r.count r).1.ended.2))
    {u1 u3 u4 u5 u6 u7 u8 u9 u10 u11 u12 u13 u14 u15 u16 u17 u18 u19 u20 u21 u22 u23 u24 u25 u26 u27 u28 u29 u30 u31 u32 u33 u34 u35 u36 u37 u38 u39 u40 u41 u42 u43 u44 u45 u46 u47 u48 u49 u50 u51 u52 u53 u54 u55 u56 u57 u58 u59 u60 u61 u62 u63 u64 u65 u66 u67 u68 u69 u70 u71 u72 u73 u74 u75 u76 u77 u78 u79 u80 u81 u82 u83 u84 : Value} :
    Code.wp Try.prog (dropSeq 2 ((Try.f34.body).getD .skip)) (bodyPost Try.prog Try.f34 fun e w' =>
      e = .returned (.tuple #[]) ∧ ∃ v, Cv H b S t w' f.1 v (es ++ f.2) ∧ Keep H b w0 w')
      ⟨(.pointer (some ⟨b, 0, none⟩) :: u1 :: .int .i64 (t.count : Int) :: u3 :: u4 :: u5 :: u6 :: u7 :: u8 :: u9 :: u10 :: u11 :: u12 :: u13 :: u14 :: u15 :: u16 :: u17 :: u18 :: u19 :: u20 :: u21 :: u22 :: u23 :: u24 :: u25 :: u26 :: u27 :: u28 :: u29 :: u30 :: u31 :: u32 :: u33 :: u34 :: u35 :: u36 :: u37 :: u38 :: u39 :: u40 :: u41 :: u42 :: u43 :: u44 :: u45 :: u46 :: u47 :: u48 :: u49 :: u50 :: u51 :: u52 :: u53 :: u54 :: u55 :: u56 :: u57 :: u58 :: u59 :: u60 :: u61 :: u62 :: u63 :: u64 :: u65 :: u66 :: u67 :: u68 :: u69 :: u70 :: u71 :: u72 :: u73 :: u74 :: u75 :: u76 :: u77 :: u78 :: u79 :: u80 :: u81 :: u82 :: u83 :: u84 :: []).toArray, []⟩ w := by
  conv => arg 2; whnf
  refine wp_seq_k ?_
  intro K hK0
  have HK : Hid (∀ a w, _ → K a w) := hK0
  have HC : Hid (Cv H b S t w r v0 es) := hC
  have HK0 : Hid (Keep H b w0 w) := hk
  have HF : Hid (f = ((Rs.drain t r.count r).1.ended.1, (Rs.drain t r.count r).2 ++ (Rs.drain t r.count r).1.ended.2)) := hf
  clear hC hk hf hK0
  go_wp2_with fail
  go_loopg [] r.count (fun k wr => ∃ (r' : Rs) (v' : Value) (es' : List Ev), k = r'.count ∧ Cv H b S t wr r' v' es' ∧ Keep H b w0 wr ∧ r'.Fit t r'.count ∧ es'.length + r'.count < 4194304 ∧
    f.1 = (Rs.drain t r'.count r').1.ended.1 ∧ es ++ f.2 = es' ++ ((Rs.drain t r'.count r').2 ++ (Rs.drain t r'.count r').1.ended.2))
  case atStart => exact ⟨r, v0, es, rfl, HC.out, HK0.out, hfit, hn, by rw [HF.out], by rw [HF.out]⟩
  case round =>
    obtain ⟨r', v', es', hgk, hC', hk', hfit', hn', hf1, hf2⟩ := hrel
    have A : Hid (gk = r'.count ∧ Cv H b S t wr r' v' es' ∧ Keep H b w0 wr ∧ f.1 = (Rs.drain t r'.count r').1.ended.1 ∧ es ++ f.2 = es' ++ ((Rs.drain t r'.count r').2 ++ (Rs.drain t r'.count r').1.ended.2)) := ⟨hgk, hC', hk', hf1, hf2⟩
    have y0 : wr.cell? ⟨b, 0, none⟩ = some (.pointer (some ⟨r'.tp, 0, none⟩)) := hC'.run.get_tp
    have y1 : wr.cell? ⟨b, 1, none⟩ = some (.bool r'.opn) := hC'.run.get_opn
    have y77 : wr.cell? ⟨b, 77, none⟩ = some (.int .i64 r'.count) := hC'.run.get_count
    have y81 : wr.cell? ⟨b, 81, none⟩ = some (.int .i64 r'.ahead) := hC'.run.get_ahead
    have z81 := hC'.run.frozen 81
    clear hgk hC' hk' hf1 hf2
    by_cases hc0 : r'.count = 0
    · have hc1 : ¬ (0 : Int) < (r'.count : Int) := by omega
      have H0 : Hid (r'.count = 0) := hc0
      clear hc0
      go_wp2_with fail
      refine HK.out _ _ ?_
      obtain ⟨_, hC', hk', hf1, hf2⟩ := A.out
      have hd : Rs.drain t r'.count r' = (r', []) := by rw [H0.out]; rfl
      rw [hd] at hf1 hf2
      rw [hf1, show es ++ f.2 = es' ++ r'.ended.2 from hf2]
      exact close_rest b H S t w0 _ r' es' hC' (by omega) hk' _ rfl
    · have hc1 : (0 : Int) < (r'.count : Int) := by omega
      cases ho : r'.opn
      · rw [ho] at y1
        go_wp2_with fail
        refine HK.out _ _ ?_
        obtain ⟨_, hC', hk', hf1, hf2⟩ := A.out
        have hd : Rs.drain t r'.count r' = (r', []) := by cases hn0 : r'.count with | zero => rfl | succ n => rw [Rs.drain, if_pos ho]
        rw [hd] at hf1 hf2
        rw [hf1, show es ++ f.2 = es' ++ r'.ended.2 from hf2]
        exact close_rest b H S t w0 _ r' es' hC' (by omega) hk' _ rfl
      · rw [ho] at y1
        have Ho : Hid (r'.opn = true) := ho
        clear ho
        have tb4 : Hid (TabAt wr.drew S r'.tp t) := (Cx.alike (w' := wr.drew) A.out.2.1 ⟨rfl, rfl, rfl⟩).tab
        have hct := ok.count
        have hrw := ok.rows
        have hah := hfit'.ahead
        go_wp2_with fail
        go_region_with ((go_at_call 45; go_must ((refine (further_calls r'.tp _ S t tb4.out ok r'.ahead t.count (by omega) (by omega)).mono ?_; rintro e w5 ⟨rfl, ha5⟩; have q81 : w5.cell? ⟨b, 81, none⟩ = some (.int .i64 r'.ahead) := (ha5.cell ⟨b, 81, none⟩).trans y81; have z5 : w5.frozen? ⟨b, 81, none⟩ = false := (ha5.frozen ⟨b, 81, none⟩).trans z81))))
        all_goals
          have c5 : Hid (Cv H b S t w5 r' v' es') := Cx.alike A.out.2.1 ha5
          have k5 : Hid (Keep H b w0 w5) := A.out.2.2.1.trans (Keep.alike ha5)
          have c6 : Hid (Cv H b S t (w5.setCell ⟨b, 81, none⟩ (.int .i64 (t.further r'.ahead t.count : Nat))) (r'.look t) v' es') := Cx.stored c5.out 81 _ (c5.out.run.set_ahead (t.further r'.ahead t.count)) rfl
          clear tb4 ha5 c5
          go_wp2_with fail
          refine (step_run b H S t _ (r'.look t) es' c6.out (by omega) ok hact (r'.look_ok t hfit'.ok) (by show 1 ≤ r'.count; omega) (Nat.mod_lt _ ok.rows0) (by have := hfit'.hAt; show r'.hAt < _; omega) (by have := hfit'.hLine; show r'.hLine < _; omega) (by have := hfit'.hCol; show r'.hCol < _; omega)).mono ?_
          rintro e w7 ⟨rfl, v7, c7, k7⟩
          have C7 : Hid (Cv H b S t w7 ((r'.look t).step t).1 v7 (es' ++ ((r'.look t).step t).2) ∧ Keep H b w0 w7) := ⟨c7, (k5.out.trans (Keep.set _ _ _)).trans k7⟩
          clear c7 k7
          go_wp2_with fail
          go_roundg ((r'.look t).step t).1.count
          case measure => rw [A.out.1, Rs.step_count]; omega
          case rel =>
            obtain ⟨hgk, _, _, hf1, hf2⟩ := A.out
            obtain ⟨m, hm⟩ : ∃ m, r'.count = m + 1 := ⟨r'.count - 1, by omega⟩
            have hsc : ((r'.look t).step t).1.count = m := by rw [Rs.step_count, hm]; rfl
            have hone := r'.step_one t
            rw [hm, Rs.drain, if_neg (by rw [Ho.out]; decide)] at hf1 hf2
            refine ⟨((r'.look t).step t).1, v7, es' ++ ((r'.look t).step t).2, rfl, C7.out.1, C7.out.2, ?_, ?_, ?_, ?_⟩
            · rw [hsc]; exact r'.step_fit t m ok (by rw [← hm]; exact hfit')
            · rw [hsc, List.length_append]; omega
            · rw [hsc]; exact hf1
            · rw [hsc, hf2]; simp [List.append_assoc]
end Go.Proofs.Yteflpladkmihdaa
