/- A stream's step: behind the byte that is taken. -/
import Derived.Test.YteflpladkmihdaaRunWToRefB
import Derived.Test.YteflpladkmihdaaRefMToTabB
set_option linter.unusedVariables false
set_option linter.unusedSimpArgs false
namespace Go.Proofs.Yteflpladkmihdaa
open Go.RowKit

/-- What comes of the state that has been reached. -/
def Rs.fin (r : Rs) (t : Tb) : Rs × List Ev :=
  if t.ends r.state ≠ -1 ∧ t.longer r.ahead r.state = false then r.tok t (t.ends r.state).toNat r.hAt r.hLine r.hCol
  else if t.live r.state = false then ({ r with opn := false }, [r.lastEv 3])
  else (r, [])

set_option maxHeartbeats 2000000 in
set_option maxRecDepth 100000 in
theorem step_live (b H : Nat) (S : Nat → Prop) (t : Tb) (w0 w : World) (r : Rs) {v0 : Value} (es : List Ev) (hC : Cv H b S t w r v0 es) (hn : es.length ≤ 4194304) (hok : r.Ok t) (hk : Keep H b w0 w)
    (f : Rs × List Ev) (hf : f = if t.live r.state = false then ({ r with opn := false }, [r.lastEv 3]) else (r, []))
    {u1 u2 u3 u4 u5 u6 u7 u8 u9 u10 u11 u12 u13 u14 u15 u16 u17 u18 u19 u20 u21 u22 u23 u24 u25 u26 u27 u28 u29 u30 u31 u32 u33 u34 u35 u36 u37 u38 u39 u40 u41 u42 u43 u44 u45 u46 u47 u48 u49 u50 u51 u52 u53 u54 u55 u56 u57 u58 u59 u60 u61 u62 u63 u65 u66 u67 u68 u69 u70 u71 u72 u73 u74 u75 u76 u77 u78 u79 u80 u81 u82 u83 u84 u85 u86 u87 : Value} :
    Code.wp Try.prog (dropSeq 6 ((Try.f46.body).getD .skip)) (bodyPost Try.prog Try.f46 fun e w' =>
      e = .returned (.tuple #[]) ∧ ∃ v, Cv H b S t w' f.1 v (es ++ f.2) ∧ Keep H b w0 w')
      ⟨(.pointer (some ⟨b, 0, none⟩) :: u1 :: u2 :: u3 :: u4 :: u5 :: u6 :: u7 :: u8 :: u9 :: u10 :: u11 :: u12 :: u13 :: u14 :: u15 :: u16 :: u17 :: u18 :: u19 :: u20 :: u21 :: u22 :: u23 :: u24 :: u25 :: u26 :: u27 :: u28 :: u29 :: u30 :: u31 :: u32 :: u33 :: u34 :: u35 :: u36 :: u37 :: u38 :: u39 :: u40 :: u41 :: u42 :: u43 :: u44 :: u45 :: u46 :: u47 :: u48 :: u49 :: u50 :: u51 :: u52 :: u53 :: u54 :: u55 :: u56 :: u57 :: u58 :: u59 :: u60 :: u61 :: u62 :: u63 :: .bool false :: u65 :: u66 :: u67 :: u68 :: u69 :: u70 :: u71 :: u72 :: u73 :: u74 :: u75 :: u76 :: u77 :: u78 :: u79 :: u80 :: u81 :: u82 :: u83 :: u84 :: u85 :: u86 :: u87 :: []).toArray, []⟩ w := by
  conv => arg 2; whnf
  have HC : Hid (Cv H b S t w r v0 es) := hC
  have HK0 : Hid (Keep H b w0 w) := hk
  have HF : Hid (f = if t.live r.state = false then ({ r with opn := false }, [r.lastEv 3]) else (r, [])) := hf
  have y0 : w.cell? ⟨b, 0, none⟩ = some (.pointer (some ⟨r.tp, 0, none⟩)) := HC.out.run.get_tp
  have y11 : w.cell? ⟨b, 11, none⟩ = some (.int .i64 r.state) := HC.out.run.get_state
  obtain ⟨_, h10, b10, o10, cap10, hb10, rfl, hcap10, hml10, hL10⟩ := HC.out.tab.c10
  have hst := hok.state
  have hx10 : w.cell? ⟨b10, o10 + r.state, none⟩ = some (.bool (t.live r.state)) := hL10 _ hst
  have i1 : (r.state : Int) < (t.nst : Int) := by omega
  clear hL10 hC hk hf
  cases hl : t.live r.state
  · rw [hl] at hx10
    go_wp2_with fail
    go_quiet (fail)
    go_wp2_with fail
    refine (last_calls b H S t 3 _ r v0 _ _ (Cx.alike (w' := w.drewN nq) HC.out ⟨rfl, rfl, rfl⟩) hn).mono ?_
    rintro e w2 ⟨rfl, ao, cap, c2, k2⟩
    have C2 : Hid (Cx _ _ _ _ _ _ _ _ _) := c2
    clear c2
    go_wp2_with fail
    go_end0
    refine ⟨rfl, .slice ao (es.length + 1) cap, ?_, (HK0.out.trans (Keep.alike (w' := w.drewN nq) ⟨rfl, rfl, rfl⟩)).trans k2⟩
    rw [HF.out, if_pos hl]
    unfold Cv
    rw [evsCells_snoc, List.length_append]
    exact C2.out
  · rw [hl] at hx10
    go_wp2_with fail
    go_quiet (fail)
    go_wp2_with fail
    go_end0
    refine ⟨rfl, v0, ?_, HK0.out.trans (Keep.alike (w' := w.drewN nq) ⟨rfl, rfl, rfl⟩)⟩
    rw [HF.out, if_neg (by rw [hl]; decide), List.append_nil]
    exact Cx.alike (w' := w.drewN nq) HC.out ⟨rfl, rfl, rfl⟩

set_option maxHeartbeats 2000000 in
set_option maxRecDepth 100000 in
theorem step_tok (b H : Nat) (S : Nat → Prop) (t : Tb) (w0 w : World) (r : Rs) {v0 : Value} (es : List Ev) (hC : Cv H b S t w r v0 es) (hn : es.length ≤ 4194304) (ok : t.Ok) (hact : ∀ i, i < t.nrule → t.act i < 4) (hok : r.Ok t) (hk : Keep H b w0 w) (hE : ¬ t.ends r.state = -1)
    (f : Rs × List Ev) (hf : f = r.tok t (t.ends r.state).toNat r.hAt r.hLine r.hCol)
    {u1 u2 u4 u5 u6 u7 u8 u9 u10 u11 u12 u13 u14 u15 u16 u17 u18 u19 u20 u21 u22 u23 u24 u25 u26 u27 u28 u29 u30 u31 u32 u33 u34 u35 u36 u37 u38 u39 u40 u41 u42 u43 u44 u45 u46 u47 u48 u49 u50 u51 u52 u53 u54 u55 u56 u57 u58 u59 u60 u61 u62 u63 u65 u66 u67 u68 u69 u70 u71 u72 u73 u74 u75 u76 u77 u78 u79 u80 u81 u82 u83 u84 u85 u86 u87 : Value} :
    Code.wp Try.prog (dropSeq 6 ((Try.f46.body).getD .skip)) (bodyPost Try.prog Try.f46 fun e w' =>
      e = .returned (.tuple #[]) ∧ ∃ v, Cv H b S t w' f.1 v (es ++ f.2) ∧ Keep H b w0 w')
      ⟨(.pointer (some ⟨b, 0, none⟩) :: u1 :: u2 :: .int .i64 (t.ends r.state) :: u4 :: u5 :: u6 :: u7 :: u8 :: u9 :: u10 :: u11 :: u12 :: u13 :: u14 :: u15 :: u16 :: u17 :: u18 :: u19 :: u20 :: u21 :: u22 :: u23 :: u24 :: u25 :: u26 :: u27 :: u28 :: u29 :: u30 :: u31 :: u32 :: u33 :: u34 :: u35 :: u36 :: u37 :: u38 :: u39 :: u40 :: u41 :: u42 :: u43 :: u44 :: u45 :: u46 :: u47 :: u48 :: u49 :: u50 :: u51 :: u52 :: u53 :: u54 :: u55 :: u56 :: u57 :: u58 :: u59 :: u60 :: u61 :: u62 :: u63 :: .bool true :: u65 :: u66 :: u67 :: u68 :: u69 :: u70 :: u71 :: u72 :: u73 :: u74 :: u75 :: u76 :: u77 :: u78 :: u79 :: u80 :: u81 :: u82 :: u83 :: u84 :: u85 :: u86 :: u87 :: []).toArray, []⟩ w := by
  conv => arg 2; whnf
  obtain ⟨e1, e2⟩ := ok.ends r.state hok.state
  obtain ⟨k, hk0⟩ := Int.eq_ofNat_of_zero_le (show 0 ≤ t.ends r.state by omega)
  have hkr : k < t.nrule := by omega
  rw [hk0] at hf ⊢
  rw [Int.toNat_natCast] at hf
  have HC : Hid (Cv H b S t w r v0 es) := hC
  have HK0 : Hid (Keep H b w0 w) := hk
  have HF : Hid (f = r.tok t k r.hAt r.hLine r.hCol) := hf
  have y78 : w.cell? ⟨b, 78, none⟩ = some (.int .i64 r.hAt) := HC.out.run.get_hAt
  have y79 : w.cell? ⟨b, 79, none⟩ = some (.int .i64 r.hLine) := HC.out.run.get_hLine
  have y80 : w.cell? ⟨b, 80, none⟩ = some (.int .i64 r.hCol) := HC.out.run.get_hCol
  clear hC hk hf hE e1 e2 hk0
  go_wp2_with fail
  refine (token_calls b H S t _ r es HC.out hn k r.hAt r.hLine r.hCol hkr (hact k hkr) ok hok).mono ?_
  rintro e w2 ⟨rfl, v, c2, k2⟩
  rw [← HF.out] at c2
  have C2 : Hid (Cv H b S t w2 f.1 v (es ++ f.2)) := c2
  clear c2
  go_wp2_with fail
  go_end0
  exact ⟨rfl, v, C2.out, HK0.out.trans k2⟩

set_option maxHeartbeats 2000000 in
set_option maxRecDepth 100000 in
theorem step_rest (b H : Nat) (S : Nat → Prop) (t : Tb) (w0 w : World) (r : Rs) {v0 : Value} (es : List Ev) (hC : Cv H b S t w r v0 es) (hn : es.length ≤ 4194304) (ok : t.Ok) (hact : ∀ i, i < t.nrule → t.act i < 4) (hok : r.Ok t) (ha : r.ahead < t.rows) (hk : Keep H b w0 w)
    {u1 u2 u3 u4 u5 u6 u7 u8 u9 u10 u11 u12 u13 u14 u15 u16 u17 u18 u19 u20 u21 u22 u23 u24 u25 u26 u27 u28 u29 u30 u31 u32 u33 u34 u35 u36 u37 u38 u39 u40 u41 u42 u43 u44 u45 u46 u47 u48 u49 u50 u51 u52 u53 u54 u55 u56 u57 u58 u59 u60 u61 u62 u63 u64 u65 u66 u67 u68 u69 u70 u71 u72 u73 u74 u75 u76 u77 u78 u79 u80 u81 u82 u83 u84 u85 u86 u87 : Value} :
    Code.wp Try.prog (dropSeq 4 ((Try.f46.body).getD .skip)) (bodyPost Try.prog Try.f46 fun e w' =>
      e = .returned (.tuple #[]) ∧ ∃ v, Cv H b S t w' (r.fin t).1 v (es ++ (r.fin t).2) ∧ Keep H b w0 w')
      ⟨(.pointer (some ⟨b, 0, none⟩) :: u1 :: u2 :: u3 :: u4 :: u5 :: u6 :: u7 :: u8 :: u9 :: u10 :: u11 :: u12 :: u13 :: u14 :: u15 :: u16 :: u17 :: u18 :: u19 :: u20 :: u21 :: u22 :: u23 :: u24 :: u25 :: u26 :: u27 :: u28 :: u29 :: u30 :: u31 :: u32 :: u33 :: u34 :: u35 :: u36 :: u37 :: u38 :: u39 :: u40 :: u41 :: u42 :: u43 :: u44 :: u45 :: u46 :: u47 :: u48 :: u49 :: u50 :: u51 :: u52 :: u53 :: u54 :: u55 :: u56 :: u57 :: u58 :: u59 :: u60 :: u61 :: u62 :: u63 :: u64 :: u65 :: u66 :: u67 :: u68 :: u69 :: u70 :: u71 :: u72 :: u73 :: u74 :: u75 :: u76 :: u77 :: u78 :: u79 :: u80 :: u81 :: u82 :: u83 :: u84 :: u85 :: u86 :: u87 :: []).toArray, []⟩ w := by
  conv => arg 2; whnf
  have HC : Hid (Cv H b S t w r v0 es) := hC
  have HK0 : Hid (Keep H b w0 w) := hk
  clear hC hk
  refine wp_seq_k ?_
  intro K hK
  have H4 : Hid (∀ a w, _ → K a w) := hK
  clear hK
  have y0 : w.cell? ⟨b, 0, none⟩ = some (.pointer (some ⟨r.tp, 0, none⟩)) := HC.out.run.get_tp
  have y11 : w.cell? ⟨b, 11, none⟩ = some (.int .i64 r.state) := HC.out.run.get_state
  obtain ⟨_, h9, b9, o9, cap9, hb9, rfl, hcap9, hml9, hL9⟩ := HC.out.tab.c9
  have hst := hok.state
  have hx9 : w.cell? ⟨b9, o9 + r.state, none⟩ = some (.int .i64 (t.ends r.state)) := hL9 _ hst
  have i1 : (r.state : Int) < (t.nst : Int) := by omega
  clear hL9
  go_wp2_with fail
  go_quiet (fail)
  go_wp2_with fail
  refine H4.out _ _ ?_
  clear H4 hx9 h9 y0 y11
  obtain ⟨w1, hw1, c1, k1⟩ : ∃ w1, w1 = w.drewN nq ∧ Hid (Cv H b S t w1 r v0 es) ∧ Hid (Keep H b w0 w1) := ⟨_, rfl, Cx.alike (w' := w.drewN nq) HC.out ⟨rfl, rfl, rfl⟩, HK0.out.trans (Keep.alike ⟨rfl, rfl, rfl⟩)⟩
  rw [← hw1]
  clear hw1 HC HK0
  refine wp_seq_k ?_
  intro K hK
  have H5 : Hid (∀ a w, _ → K a w) := hK
  clear hK
  have y0 : w1.cell? ⟨b, 0, none⟩ = some (.pointer (some ⟨r.tp, 0, none⟩)) := c1.out.run.get_tp
  have y11 : w1.cell? ⟨b, 11, none⟩ = some (.int .i64 r.state) := c1.out.run.get_state
  have y81 : w1.cell? ⟨b, 81, none⟩ = some (.int .i64 r.ahead) := c1.out.run.get_ahead
  have tbn : Hid (∀ n, TabAt (w1.drewN n) S r.tp t) := fun n => (Cx.alike (w' := w1.drewN n) c1.out ⟨rfl, rfl, rfl⟩).tab
  by_cases hE : t.ends r.state = -1
  · have hB : (t.ends r.state != -1) = false := by rw [hE]; rfl
    have hf : Hid (r.fin t = if t.live r.state = false then ({ r with opn := false }, [r.lastEv 3]) else (r, [])) := by show r.fin t = _; unfold Rs.fin; rw [if_neg (fun h => h.1 hE)]
    clear hE
    go_wp2_with fail
    go_quiet (fail)
    go_wp2_with fail
    refine H5.out _ _ ?_
    clear H5
    exact step_live b H S t w0 _ r es (Cx.alike (w' := w1.drewN nq) c1.out ⟨rfl, rfl, rfl⟩) hn hok (k1.out.trans (Keep.alike (w' := w1.drewN nq) ⟨rfl, rfl, rfl⟩)) _ hf.out
  · have hB : (t.ends r.state != -1) = true := by rw [bne_iff_ne]; exact hE
    cases hL : t.longer r.ahead r.state
    · go_wp2_with fail
      go_quiet ((go_at_call 58; exact Calls.quiet_of_same (longer_same r.tp _ S t (tbn.out _) ok r.ahead r.state ha hst)))
      go_wp2_with fail
      refine H5.out _ _ ?_
      clear H5
      exact step_tok b H S t w0 _ r es (Cx.alike (w' := w1.drewN nq) c1.out ⟨rfl, rfl, rfl⟩) hn ok hact hok (k1.out.trans (Keep.alike (w' := w1.drewN nq) ⟨rfl, rfl, rfl⟩)) hE _ (by unfold Rs.fin; rw [if_pos ⟨hE, hL⟩])
    · have hf : Hid (r.fin t = if t.live r.state = false then ({ r with opn := false }, [r.lastEv 3]) else (r, [])) := by show r.fin t = _; unfold Rs.fin; rw [if_neg (fun h => by rw [hL] at h; exact absurd h.2 (by decide))]
      go_wp2_with fail
      go_quiet ((go_at_call 58; exact Calls.quiet_of_same (longer_same r.tp _ S t (tbn.out _) ok r.ahead r.state ha hst)))
      go_wp2_with fail
      refine H5.out _ _ ?_
      clear H5
      exact step_live b H S t w0 _ r es (Cx.alike (w' := w1.drewN nq) c1.out ⟨rfl, rfl, rfl⟩) hn hok (k1.out.trans (Keep.alike (w' := w1.drewN nq) ⟨rfl, rfl, rfl⟩)) _ hf.out
end Go.Proofs.Yteflpladkmihdaa

/- A stream's step. -/
namespace Go.Proofs.Yteflpladkmihdaa
open Go.RowKit

/-- The place behind a byte. -/
def Rs.here1 (r : Rs) (c : Nat) : Rs := { r with hAt := r.hAt + 1, hLine := lineB c r.hLine, hCol := colB c r.hCol }
/-- The first byte that is held is taken. -/
def Rs.took (r : Rs) (t : Tb) : Rs :=
  { (({ r with first := (r.first + 1) % 64, count := r.count - 1 } : Rs).here1 (r.byte r.first)) with state := t.next r.state (t.kind (r.byte r.first)) }
def Rs.step (r : Rs) (t : Tb) : Rs × List Ev := (r.took t).fin t
theorem Rs.took_ok (r : Rs) (t : Tb) (ok : t.Ok) (h : r.Ok t) : (r.took t).Ok t :=
  ⟨h.d1, h.d4, h.st, ok.next _ _ h.state (ok.kind _ (h.bytes _ h.first)), Nat.mod_lt _ (by decide), Nat.le_trans (Nat.sub_le _ _) h.count, h.bytes⟩

set_option maxHeartbeats 2000000 in
theorem step_run (b H : Nat) (S : Nat → Prop) (t : Tb) (w : World) (r : Rs) {v0 : Value} (es : List Ev) (hC : Cv H b S t w r v0 es) (hn : es.length ≤ 4194304) (ok : t.Ok) (hact : ∀ i, i < t.nrule → t.act i < 4) (hok : r.Ok t) (hc : 1 ≤ r.count) (ha : r.ahead < t.rows)
    (p1 : r.hAt < 2147483648) (p2 : r.hLine < 2147483648) (p3 : r.hCol < 2147483648) :
    Calls Try.prog 46 #[.pointer (some ⟨b, 0, none⟩)] w fun e w' =>
      e = .returned (.tuple #[]) ∧ ∃ v, Cv H b S t w' (r.step t).1 v (es ++ (r.step t).2) ∧ Keep H b w w' := by
  have HC : Hid (Cv H b S t w r v0 es) := hC
  clear hC
  go_enter Try.func46, Try.ntmps46
  refine wp_seq_k ?_
  intro K hK
  have H0 : Hid (∀ a w, _ → K a w) := hK
  clear hK
  go_wp2_with fail
  refine (at_calls b 0 _ r HC.out.run hok.first (by omega)).mono ?_
  rintro e w1 ⟨rfl, ha1⟩
  have c1 : Hid (Cv H b S t w1 r v0 es) := HC.out.alike ha1
  have k1 : Hid (Keep H b w w1) := Keep.alike ha1
  have hcb := hok.bytes r.first hok.first
  rw [show (r.first + 0) % 64 = r.first by have := hok.first; omega]
  generalize hc0 : r.byte r.first = c at *
  have Hc0 : Hid (r.byte r.first = c) := hc0
  clear hc0 ha1
  go_wp2_with fail
  refine H0.out _ _ ?_
  clear H0
  refine wp_seq_k ?_
  intro K hK
  have H1 : Hid (∀ a w, _ → K a w) := hK
  clear hK
  go_wp2_with fail
  refine (drop_calls b 1 _ r c1.out.run hok.first hc hok.count).mono ?_
  rintro e w2 ⟨rfl, hR2, hk2⟩
  have c2 : Hid (Cv H b S t w2 { r with first := (r.first + 1) % 64, count := r.count - 1 } v0 es) := c1.out.kept hk2 hR2 rfl
  have k2 : Hid (Keep H b w w2) := k1.out.trans (hk2 H)
  clear hk2 hR2 k1 c1
  go_wp2_with fail
  refine H1.out _ _ ?_
  clear H1
  refine wp_seq_k ?_
  intro K hK
  have H2 : Hid (∀ a w, _ → K a w) := hK
  clear hK
  have x78 := c2.out.run.get_hAt
  have x79 := c2.out.run.get_hLine
  have x80 := c2.out.run.get_hCol
  go_wp2_with fail
  refine (behind_calls r.hAt r.hLine r.hCol c _ p1 p2 p3 hcb).mono ?_
  rintro e w3 ⟨rfl, hb3⟩
  have c3 : Hid (Cv H b S t w3 { r with first := (r.first + 1) % 64, count := r.count - 1 } v0 es) := c2.out.below hb3
  have k3 : Hid (Keep H b w w3) := k2.out.trans (Keep.below hb3 c2.out.HH)
  clear hb3 c2 k2 x78 x79 x80
  have x78 := c3.out.run.get_hAt
  have x79 := c3.out.run.get_hLine
  have x80 := c3.out.run.get_hCol
  have z78 := c3.out.run.frozen 78
  have z79 := c3.out.run.frozen 79
  have z80 := c3.out.run.frozen 80
  go_wp2_with fail
  refine H2.out _ _ ?_
  clear H2 x78 x79 x80 z78 z79 z80
  obtain ⟨w4, hw4, c4, k4⟩ : ∃ w4, w4 = ((w3.setCell ⟨b, 78, none⟩ (.int .i64 ((r.hAt : Int) + 1))).setCell ⟨b, 79, none⟩ (.int .i64 (lineB c r.hLine : Nat))).setCell ⟨b, 80, none⟩ (.int .i64 (colB c r.hCol : Nat)) ∧
      Hid (Cv H b S t w4 (({ r with first := (r.first + 1) % 64, count := r.count - 1 } : Rs).here1 c) v0 es) ∧ Hid (Keep H b w w4) := by
    have d1 := Cx.stored c3.out 78 _ (c3.out.run.set_hAt (r.hAt + 1)) rfl
    have d2 := d1.stored 79 _ (d1.run.set_hLine (lineB c r.hLine)) rfl
    have d3 := d2.stored 80 _ (d2.run.set_hCol (colB c r.hCol)) rfl
    exact ⟨_, rfl, d3, ((k3.out.trans (Keep.set _ _ _)).trans (Keep.set _ _ _)).trans (Keep.set _ _ _)⟩
  rw [← hw4]
  clear hw4 c3 k3
  refine wp_seq_k ?_
  intro K hK
  have H3 : Hid (∀ a w, _ → K a w) := hK
  clear hK
  have y0 : w4.cell? ⟨b, 0, none⟩ = some (.pointer (some ⟨r.tp, 0, none⟩)) := c4.out.run.get_tp
  have y11 : w4.cell? ⟨b, 11, none⟩ = some (.int .i64 r.state) := c4.out.run.get_state
  have z11 := c4.out.run.frozen 11
  have tb4 : Hid (TabAt w4.drew S r.tp t) := (Cx.alike (w' := w4.drew) c4.out ⟨rfl, rfl, rfl⟩).tab
  go_wp2_with fail
  go_region_with ((go_at_call 57; go_must ((refine (step_calls r.tp _ S t tb4.out ok r.state c hok.state hcb).mono ?_; rintro e w5 ⟨rfl, ha5⟩; have q11 : w5.cell? ⟨b, 11, none⟩ = some (.int .i64 r.state) := (ha5.cell ⟨b, 11, none⟩).trans y11; have z5 : w5.frozen? ⟨b, 11, none⟩ = false := (ha5.frozen ⟨b, 11, none⟩).trans z11))))
  all_goals
    have c5 : Hid (Cv H b S t w5 (({ r with first := (r.first + 1) % 64, count := r.count - 1 } : Rs).here1 c) v0 es) := Cx.alike c4.out ha5
    have k5 : Hid (Keep H b w w5) := k4.out.trans (Keep.alike ha5)
    have c6 : Hid (Cv H b S t (w5.setCell ⟨b, 11, none⟩ (.int .i64 (t.next r.state (t.kind c) : Nat))) (r.took t) v0 es) := by
      have h := Cx.stored c5.out 11 _ (c5.out.run.set_state (t.next r.state (t.kind c))) rfl
      show Cv H b S t _ (r.took t) v0 es
      unfold Rs.took
      rw [Hc0.out]
      exact h
    clear c4 k4 tb4 ha5 c5
    go_wp2_with fail
    refine H3.out _ _ ?_
    exact step_rest b H S t w _ (r.took t) es c6.out hn ok hact (r.took_ok t ok hok) ha (k5.out.trans (Keep.set _ _ _))
end Go.Proofs.Yteflpladkmihdaa

/- What steps keep: plain facts on runs. -/
namespace Go.Proofs.Yteflpladkmihdaa
open Go.RowKit

/-- Two runs that hold the same bytes and stand at the same place. -/
structure Rs.Same (s r : Rs) : Prop where
  count : s.count = r.count
  first : s.first = r.first
  byte : s.byte = r.byte
  hAt : s.hAt = r.hAt
  hLine : s.hLine = r.hLine
  hCol : s.hCol = r.hCol
  ahead : s.ahead = r.ahead
  tp : s.tp = r.tp
theorem Rs.tok_same (r : Rs) (t : Tb) (rule a l c : Nat) : (r.tok t rule a l c).1.Same r := by
  unfold Rs.tok Rs.moved
  split
  · exact ⟨rfl, rfl, rfl, rfl, rfl, rfl, rfl, rfl⟩
  · split
    · exact ⟨rfl, rfl, rfl, rfl, rfl, rfl, rfl, rfl⟩
    · split
      · exact ⟨rfl, rfl, rfl, rfl, rfl, rfl, rfl, rfl⟩
      · split <;> exact ⟨rfl, rfl, rfl, rfl, rfl, rfl, rfl, rfl⟩
theorem Rs.tok_one (r : Rs) (t : Tb) (rule a l c : Nat) : (r.tok t rule a l c).2.length ≤ 1 := by
  unfold Rs.tok
  split
  · exact Nat.le_refl _
  · split
    · exact Nat.le_refl _
    · show (if t.act rule = 1 then [] else [_] : List Ev).length ≤ 1
      split <;> simp
theorem Rs.tok_ok (r : Rs) (t : Tb) (rule a l c : Nat) (ok : t.Ok) (h : r.Ok t) (hr : rule < t.nrule) : (r.tok t rule a l c).1.Ok t := by
  unfold Rs.tok
  split
  · exact ⟨h.d1, h.d4, h.st, h.state, h.first, h.count, h.bytes⟩
  · split
    · exact ⟨h.d1, h.d4, h.st, h.state, h.first, h.count, h.bytes⟩
    · rename_i h2 h3
      have d1 := h.d1
      have d4 := h.d4
      have key : 1 ≤ (r.moved t rule).depth ∧ (r.moved t rule).depth ≤ 4 ∧ ∀ j, j < (r.moved t rule).depth → (r.moved t rule).stack j < t.nmode := by
        unfold Rs.moved
        split
        · exact ⟨by show 1 ≤ r.depth - 1; omega, by show r.depth - 1 ≤ 4; omega, fun j hj => h.st j (by have : j < r.depth - 1 := hj; omega)⟩
        · split
          · refine ⟨by show 1 ≤ r.depth + 1; omega, by show r.depth + 1 ≤ 4; omega, fun j hj => ?_⟩
            have hj' : j < r.depth + 1 := hj
            show (if j = r.depth then t.push rule else r.stack j) < t.nmode
            split
            · exact ok.push _ hr
            · exact h.st j (by omega)
          · exact ⟨d1, d4, h.st⟩
      obtain ⟨k1, k2, k3⟩ := key
      have hs := r.tok_same t rule a l c
      unfold Rs.tok at hs
      rw [if_neg h2, if_neg h3] at hs
      exact ⟨k1, k2, k3, ok.start _ (k3 _ (by omega)), by rw [hs.first]; exact h.first, by rw [hs.count]; exact h.count, by rw [hs.byte]; exact h.bytes⟩
theorem Rs.fin_same (r : Rs) (t : Tb) : (r.fin t).1.Same r := by
  unfold Rs.fin
  split
  · exact r.tok_same t _ _ _ _
  · split <;> exact ⟨rfl, rfl, rfl, rfl, rfl, rfl, rfl, rfl⟩
theorem Rs.fin_one (r : Rs) (t : Tb) : (r.fin t).2.length ≤ 1 := by
  unfold Rs.fin
  split
  · exact r.tok_one t _ _ _ _
  · split <;> simp
theorem Rs.fin_ok (r : Rs) (t : Tb) (ok : t.Ok) (h : r.Ok t) : (r.fin t).1.Ok t := by
  have he := ok.ends r.state h.state
  unfold Rs.fin
  split
  · rename_i hx
    exact r.tok_ok t _ _ _ _ ok h (by have := hx.1; omega)
  · split
    · exact ⟨h.d1, h.d4, h.st, h.state, h.first, h.count, h.bytes⟩
    · exact h
end Go.Proofs.Yteflpladkmihdaa
