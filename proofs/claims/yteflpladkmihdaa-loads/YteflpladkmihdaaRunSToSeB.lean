/- A stream is closed. -/
import Derived.Test.YteflpladkmihdaaRunQToRunR
import Derived.Test.YteflpladkmihdaaRunO
set_option linter.unusedVariables false
set_option linter.unusedSimpArgs false
namespace Go.Proofs.Yteflpladkmihdaa
open Go.RowKit

/-- What lies ahead when the text's end has come so often. -/
def Tb.aheadTo (t : Tb) (a : Nat) : Nat → Nat
  | 0 => a
  | j + 1 => t.further (t.aheadTo a j) t.count
theorem Tb.aheadTo_lt (t : Tb) (ok : t.Ok) (a j : Nat) (h : a < t.rows) : t.aheadTo a j < t.rows := by
  cases j with
  | zero => exact h
  | succ j => exact Nat.mod_lt _ ok.rows0
def Rs.pad (r : Rs) (t : Tb) (j : Nat) : Rs := { r with ahead := t.aheadTo r.ahead j }
theorem Rs.pad_ok (r : Rs) (t : Tb) (j : Nat) (h : r.Ok t) : (r.pad t j).Ok t := ⟨h.d1, h.d4, h.st, h.state, h.first, h.count, h.bytes⟩
/-- A stream's end. -/
def Rs.closed (r : Rs) (t : Tb) : Rs × List Ev :=
  let d := Rs.drain t r.count (r.pad t (t.ahead - r.count))
  (d.1.ended.1, d.2 ++ d.1.ended.2)

set_option maxHeartbeats 2000000 in
set_option maxRecDepth 100000 in
theorem close_pad (b H : Nat) (S : Nat → Prop) (t : Tb) (w0 w : World) (r : Rs) {v0 : Value} (es : List Ev) (hC : Cv H b S t w r v0 es) (hn : es.length + r.count < 4194304) (ok : t.Ok) (hact : ∀ i, i < t.nrule → t.act i < 4) (hfit : r.Fit t r.count) (hk : Keep H b w0 w)
    (f : Rs × List Ev) (hf : f = r.closed t)
    {u1 u3 u4 u5 u6 u7 u8 u9 u10 u11 u12 u13 u14 u15 u16 u17 u18 u19 u20 u21 u22 u23 u24 u25 u26 u27 u28 u29 u30 u31 u32 u33 u34 u35 u36 u37 u38 u39 u40 u41 u42 u43 u44 u45 u46 u47 u48 u49 u50 u51 u52 u53 u54 u55 u56 u57 u58 u59 u60 u61 u62 u63 u64 u65 u66 u67 u68 u69 u70 u71 u72 u73 u74 u75 u76 u77 u78 u79 u80 u81 u82 u83 u84 : Value} :
    Code.wp Try.prog (dropSeq 1 ((Try.f34.body).getD .skip)) (bodyPost Try.prog Try.f34 fun e w' =>
      e = .returned (.tuple #[]) ∧ ∃ v, Cv H b S t w' f.1 v (es ++ f.2) ∧ Keep H b w0 w')
      ⟨(.pointer (some ⟨b, 0, none⟩) :: u1 :: .int .i64 (t.count : Int) :: u3 :: u4 :: u5 :: u6 :: u7 :: u8 :: u9 :: u10 :: u11 :: u12 :: u13 :: u14 :: u15 :: u16 :: u17 :: u18 :: u19 :: u20 :: u21 :: u22 :: u23 :: u24 :: u25 :: u26 :: u27 :: u28 :: u29 :: u30 :: u31 :: u32 :: u33 :: u34 :: u35 :: u36 :: u37 :: u38 :: u39 :: u40 :: u41 :: u42 :: u43 :: u44 :: u45 :: u46 :: u47 :: u48 :: u49 :: u50 :: u51 :: u52 :: u53 :: u54 :: u55 :: u56 :: u57 :: u58 :: u59 :: u60 :: u61 :: u62 :: u63 :: u64 :: u65 :: u66 :: u67 :: u68 :: u69 :: u70 :: u71 :: u72 :: u73 :: u74 :: u75 :: u76 :: u77 :: u78 :: u79 :: u80 :: u81 :: u82 :: u83 :: u84 :: []).toArray, []⟩ w := by
  conv => arg 2; whnf
  refine wp_seq_k ?_
  intro K hK0
  have HK : Hid (∀ a w, _ → K a w) := hK0
  have HC : Hid (Cv H b S t w r v0 es) := hC
  have HK0 : Hid (Keep H b w0 w) := hk
  have HF : Hid (f = r.closed t) := hf
  have y77 : w.cell? ⟨b, 77, none⟩ = some (.int .i64 r.count) := hC.run.get_count
  clear hC hk hf hK0
  have hA := ok.ahead
  have hc64 := hfit.ok.count
  have hct := ok.count
  have hrw := ok.rows
  go_wp2_with fail
  go_loopg [3] (t.ahead - r.count) (fun k i wr => ∃ j : Nat, k = t.ahead - r.count - j ∧ j ≤ t.ahead - r.count ∧ i = .int .i64 ((r.count : Int) + (j : Int)) ∧ Cv H b S t wr (r.pad t j) v0 es ∧ Keep H b w0 wr)
  case atStart => exact ⟨0, rfl, Nat.zero_le _, congrArg (Value.int IntKind.i64) (by omega), HC.out, HK0.out⟩
  case round =>
    obtain ⟨j, hgk, hj, rfl, hC', hk'⟩ := hrel
    have A : Hid (gk = t.ahead - r.count - j ∧ Cv H b S t wr (r.pad t j) v0 es ∧ Keep H b w0 wr) := ⟨hgk, hC', hk'⟩
    have y0 : wr.cell? ⟨b, 0, none⟩ = some (.pointer (some ⟨r.tp, 0, none⟩)) := hC'.run.get_tp
    have y81 : wr.cell? ⟨b, 81, none⟩ = some (.int .i64 (t.aheadTo r.ahead j : Nat)) := hC'.run.get_ahead
    have z81 := hC'.run.frozen 81
    have x1 : wr.cell? ⟨r.tp, 1, none⟩ = some (.int .i64 t.ahead) := hC'.tab.c1
    have hlt := t.aheadTo_lt ok r.ahead j hfit.ahead
    have HS : Hid (t.aheadTo r.ahead (j + 1) = t.further (t.aheadTo r.ahead j) t.count) := rfl
    clear hgk hC' hk'
    by_cases hjl : j < t.ahead - r.count
    · have hl : (r.count : Int) + (j : Int) < (t.ahead : Int) := by omega
      have tb4 : Hid (TabAt wr.drew S r.tp t) := (Cx.alike (w' := wr.drew) A.out.2.1 ⟨rfl, rfl, rfl⟩).tab
      generalize t.aheadTo r.ahead j = a at *
      go_wp2_with fail
      go_region_with ((go_at_call 45; go_must ((refine (further_calls r.tp _ S t tb4.out ok a t.count (by omega) (by omega)).mono ?_; rintro e w5 ⟨rfl, ha5⟩; have q81 : w5.cell? ⟨b, 81, none⟩ = some (.int .i64 (a : Nat)) := (ha5.cell ⟨b, 81, none⟩).trans y81; have z5 : w5.frozen? ⟨b, 81, none⟩ = false := (ha5.frozen ⟨b, 81, none⟩).trans z81))))
      all_goals
        have c5 : Hid (Cv H b S t w5 (r.pad t j) v0 es) := Cx.alike A.out.2.1 ha5
        have k5 : Hid (Keep H b w0 w5) := A.out.2.2.trans (Keep.alike ha5)
        have c6 : Hid (Cv H b S t (w5.setCell ⟨b, 81, none⟩ (.int .i64 (t.further a t.count : Nat))) (r.pad t (j + 1)) v0 es) := by
          have h := Cx.stored c5.out 81 _ (c5.out.run.set_ahead (t.further a t.count)) rfl
          rw [← HS.out] at h ⊢
          exact h
        clear tb4 ha5 c5
        go_wp2_with fail
        go_roundg (t.ahead - r.count - (j + 1))
        case measure => rw [A.out.1]; omega
        case rel => exact ⟨j + 1, rfl, by omega, congrArg (Value.int IntKind.i64) (by omega), c6.out, k5.out.trans (Keep.set _ _ _)⟩
    · have hl : (t.ahead : Int) ≤ (r.count : Int) + (j : Int) := by omega
      have hje : Hid (j = t.ahead - r.count) := by show j = _; omega
      go_wp2_with fail
      refine HK.out _ _ ?_
      refine close_drain b H S t w0 _ (r.pad t j) es A.out.2.1 hn ok hact ⟨r.pad_ok t j hfit.ok, hlt, hfit.hAt, hfit.hLine, hfit.hCol⟩ A.out.2.2 f ?_
      rw [HF.out, hje.out]
      rfl

set_option maxHeartbeats 2000000 in
set_option maxRecDepth 100000 in
theorem closeStream_calls (b H : Nat) (S : Nat → Prop) (t : Tb) (w : World) (r : Rs) {v0 : Value} (es : List Ev) (hC : Cv H b S t w r v0 es) (hn : es.length + r.count < 4194304) (ok : t.Ok) (hact : ∀ i, i < t.nrule → t.act i < 4) (hfit : r.Fit t r.count) :
    Calls Try.prog 34 #[.pointer (some ⟨b, 0, none⟩)] w fun e w' =>
      e = .returned (.tuple #[]) ∧ ∃ v, Cv H b S t w' (r.closed t).1 v (es ++ (r.closed t).2) ∧ Keep H b w w' := by
  have HC : Hid (Cv H b S t w r v0 es) := hC
  have y0 : w.cell? ⟨b, 0, none⟩ = some (.pointer (some ⟨r.tp, 0, none⟩)) := hC.run.get_tp
  clear hC
  go_enter Try.func34, Try.ntmps34
  refine wp_seq_k ?_
  intro K hK
  have H0 : Hid (∀ a w, _ → K a w) := hK
  clear hK
  go_wp2_with fail
  refine (end_calls r.tp _ S t HC.out.tab).mono ?_
  rintro e w1 ⟨rfl, ha1⟩
  go_wp2_with fail
  refine H0.out _ _ ?_
  exact close_pad b H S t w _ r es (Cx.alike HC.out ha1) hn ok hact hfit (Keep.alike ha1) _ rfl
end Go.Proofs.Yteflpladkmihdaa

/- A text is taken byte by byte: plain mathematics. -/
namespace Go.Proofs.Yteflpladkmihdaa
open Go.RowKit

/-- What holds of a stream; P: how many bytes have come. -/
structure Rs.Str (r : Rs) (t : Tb) (P : Nat) : Prop where
  ok : r.Ok t
  ahead : r.ahead < t.rows
  cnt : r.count ≤ t.ahead
  pos : r.hAt + r.count ≤ P
  line : r.hLine ≤ r.hAt + 1
  col : r.hCol ≤ r.hAt + 1

theorem Rs.step_opn (r : Rs) (t : Tb) : ((r.step t).1.opn = r.opn ∨ (r.step t).2 ≠ []) ∧ ((r.step t).1.opn = true → r.opn = true) ∧ (r.step t).2.length ≤ 1 := by
  have h1 := (r.took t).fin_one t
  refine ⟨?_, ?_, h1⟩
  · show ((r.took t).fin t).1.opn = r.opn ∨ ((r.took t).fin t).2 ≠ []
    unfold Rs.fin
    split
    · exact ((r.took t).tok_opn t _ _ _ _).1
    · split
      · exact .inr (by simp)
      · exact .inl rfl
  · show ((r.took t).fin t).1.opn = true → r.opn = true
    unfold Rs.fin
    split
    · exact ((r.took t).tok_opn t _ _ _ _).2.1
    · split
      · intro h; cases h
      · exact id

theorem Rs.take_inv (r : Rs) (t : Tb) (P c : Nat) (ok : t.Ok) (h : r.Str t P) (hc : c < 256) (ho : r.opn = true) :
    (r.take t c).1.Str t (P + 1) ∧ (r.take t c).2.length + (r.take t c).1.count + opnN (r.take t c).1.opn ≤ r.count + 2 ∧ ((r.take t c).1.opn = true ∨ (r.take t c).2 ≠ []) := by
  have hA := ok.ahead
  have hcn := h.cnt
  have hps := h.pos
  have hln := h.line
  have hcl := h.col
  have hok : ((r.added c).looked t (t.kind c)).Ok t := let h := r.added_ok t c h.ok hc (by omega); ⟨h.d1, h.d4, h.st, h.state, h.first, h.count, h.bytes⟩
  unfold Rs.take Rs.due
  generalize hq : (r.added c).looked t (t.kind c) = q at *
  have e1 : q.count = r.count + 1 := by rw [← hq]; rfl
  have e2 : q.hAt = r.hAt := by rw [← hq]; rfl
  have e3 : q.hLine = r.hLine := by rw [← hq]; rfl
  have e4 : q.hCol = r.hCol := by rw [← hq]; rfl
  have e5 : q.opn = true := by rw [← hq]; exact ho
  have e6 : q.ahead < t.rows := by rw [← hq]; exact Nat.mod_lt _ ok.rows0
  have o1 : opnN true = 1 := rfl
  split
  · rename_i hd
    obtain ⟨s1, s2, s3⟩ := q.step_opn t
    have hs := (q.took t).fin_same t
    have f1 : (q.step t).1.count = q.count - 1 := hs.count
    have f2 : (q.step t).1.hAt = q.hAt + 1 := hs.hAt
    have f3 : (q.step t).1.hLine ≤ q.hLine + 1 := by
      have e : (q.step t).1.hLine = lineB (q.byte q.first) q.hLine := hs.hLine
      rw [e]; unfold lineB; split <;> omega
    have f4 : (q.step t).1.hCol ≤ q.hCol + 1 := by
      have e : (q.step t).1.hCol = colB (q.byte q.first) q.hCol := hs.hCol
      rw [e]; unfold colB; split <;> omega
    have f5 : (q.step t).1.ahead = q.ahead := hs.ahead
    have f6 : (q.step t).1.Ok t := (q.took t).fin_ok t ok (q.took_ok t ok hok)
    have f7 : opnN (q.step t).1.opn ≤ 1 := by unfold opnN; split <;> omega
    exact ⟨⟨f6, by omega, by omega, by omega, by omega, by omega⟩, by omega, by rw [e5] at s1; exact s1⟩
  · rename_i hd
    refine ⟨⟨hok, e6, by show q.count ≤ t.ahead; omega, by show q.hAt + q.count ≤ P + 1; omega, by show q.hLine ≤ q.hAt + 1; omega, by show q.hCol ≤ q.hAt + 1; omega⟩, ?_, .inl e5⟩
    show 0 + q.count + opnN q.opn ≤ r.count + 2
    rw [e5]
    omega

/-- What holds of a run of either engine. -/
def Rs.Good (r : Rs) (t : Tb) (P : Nat) : Prop := if t.stream then r.Str t P else r.Oth t P
theorem Rs.Good.ok {r : Rs} {t : Tb} {P : Nat} (h : r.Good t P) : r.Ok t := by
  unfold Rs.Good at h
  split at h
  · exact h.ok
  · exact h.ok
theorem Rs.Good.cnt {r : Rs} {t : Tb} {P : Nat} (h : r.Good t P) : r.count ≤ P := by
  unfold Rs.Good at h
  split at h
  · have := h.pos; omega
  · have := h.pos; omega
/-- A byte comes. -/
def Rs.eat (r : Rs) (t : Tb) (c : Nat) : Rs × List Ev := if t.stream then r.take t c else r.takeO t c
theorem Rs.eat_inv (r : Rs) (t : Tb) (P c : Nat) (ok : t.Ok) (h : r.Good t P) (hc : c < 256) (ho : r.opn = true) :
    (r.eat t c).1.Good t (P + 1) ∧ (r.eat t c).2.length + (r.eat t c).1.count + opnN (r.eat t c).1.opn ≤ r.count + 2 ∧ ((r.eat t c).1.opn = true ∨ (r.eat t c).2 ≠ []) := by
  unfold Rs.eat Rs.Good at *
  split
  · rename_i hs
    rw [if_pos hs] at h
    exact r.take_inv t P c ok h hc ho
  · rename_i hs
    rw [if_neg hs] at h
    exact r.takeO_inv t P c ok h hc ho

/-- Bytes come, as long as there may be more to tell. -/
def Rs.feed (t : Tb) : List Nat → Rs → Rs × List Ev
  | [], r => (r, [])
  | c :: cs, r => if r.opn then ((Rs.feed t cs (r.eat t c).1).1, (r.eat t c).2 ++ (Rs.feed t cs (r.eat t c).1).2) else (r, [])
theorem Rs.feed_shut (t : Tb) (cs : List Nat) (r : Rs) (h : r.opn = false) : Rs.feed t cs r = (r, []) := by
  cases cs with
  | nil => rfl
  | cons c cs => unfold Rs.feed; rw [if_neg (by rw [h]; decide)]
theorem Rs.feed_append (t : Tb) (xs bs : List Nat) (r : Rs) : Rs.feed t (xs ++ bs) r = ((Rs.feed t bs (Rs.feed t xs r).1).1, (Rs.feed t xs r).2 ++ (Rs.feed t bs (Rs.feed t xs r).1).2) := by
  induction xs generalizing r with
  | nil => simp [Rs.feed]
  | cons c xs ih =>
    by_cases h : r.opn = true
    · simp only [List.cons_append, Rs.feed, h, if_true, ih, List.append_assoc]
    · have h' : r.opn = false := by simpa using h
      rw [Rs.feed_shut t _ r h', Rs.feed_shut t _ r h']
      rw [Rs.feed_shut t _ r h', List.append_nil]
theorem Rs.feed_snoc (t : Tb) (cs : List Nat) (c : Nat) (r : Rs) (h : (Rs.feed t cs r).1.opn = true) : Rs.feed t (cs ++ [c]) r = (((Rs.feed t cs r).1.eat t c).1, (Rs.feed t cs r).2 ++ ((Rs.feed t cs r).1.eat t c).2) := by
  rw [Rs.feed_append]
  simp [Rs.feed, h]
/-- What holds behind bytes. -/
theorem Rs.feed_inv (t : Tb) (ok : t.Ok) (cs : List Nat) (r : Rs) (P : Nat) (h : r.Good t P) (hc : ∀ c ∈ cs, c < 256) :
    (Rs.feed t cs r).1.Good t (P + cs.length) ∧ (Rs.feed t cs r).2.length + (Rs.feed t cs r).1.count + opnN (Rs.feed t cs r).1.opn ≤ r.count + opnN r.opn + cs.length ∧ ((Rs.feed t cs r).1.opn = r.opn ∨ (Rs.feed t cs r).2 ≠ []) := by
  induction cs generalizing r P with
  | nil => exact ⟨h, by simp [Rs.feed], .inl rfl⟩
  | cons c cs ih =>
    by_cases ho : r.opn = true
    · obtain ⟨a1, a2, a3⟩ := r.eat_inv t P c ok h (hc c List.mem_cons_self) ho
      obtain ⟨b1, b2, b3⟩ := ih (r.eat t c).1 (P + 1) a1 fun x hx => hc x (List.mem_cons_of_mem _ hx)
      have e : Rs.feed t (c :: cs) r = ((Rs.feed t cs (r.eat t c).1).1, (r.eat t c).2 ++ (Rs.feed t cs (r.eat t c).1).2) := by
        rw [Rs.feed, if_pos ho]
      rw [e, ho]
      have o1 : opnN true = 1 := rfl
      refine ⟨?_, ?_, ?_⟩
      · rw [List.length_cons, Nat.add_comm cs.length, ← Nat.add_assoc]; exact b1
      · rw [List.length_append, List.length_cons]
        show (r.eat t c).2.length + (Rs.feed t cs (r.eat t c).1).2.length + (Rs.feed t cs (r.eat t c).1).1.count + opnN (Rs.feed t cs (r.eat t c).1).1.opn ≤ _
        omega
      · show (Rs.feed t cs (r.eat t c).1).1.opn = true ∨ (r.eat t c).2 ++ (Rs.feed t cs (r.eat t c).1).2 ≠ []
        by_cases e1 : (r.eat t c).2 = []
        · by_cases e2 : (Rs.feed t cs (r.eat t c).1).2 = []
          · left
            rw [b3.resolve_right (fun h => h e2)]
            exact a3.resolve_right (fun h => h e1)
          · right; simp [e2]
        · right; simp [e1]
    · have h' : r.opn = false := by simpa using ho
      rw [Rs.feed_shut t _ r h']
      refine ⟨?_, ?_, .inl rfl⟩
      · unfold Rs.Good at *
        split
        · rename_i hs
          rw [if_pos hs] at h
          exact ⟨h.ok, h.ahead, h.cnt, Nat.le_trans h.pos (Nat.le_add_right _ _), h.line, h.col⟩
        · rename_i hs
          rw [if_neg hs] at h
          exact ⟨h.ok, h.len, h.tak, h.rule, Nat.le_trans h.pos (Nat.le_add_right _ _), h.line, h.col1, h.col⟩
      · show 0 + r.count + opnN r.opn ≤ _
        omega

/-- The text's end. -/
def Rs.shut (r : Rs) (t : Tb) : Rs × List Ev := if r.opn then (if t.stream then r.closed t else r.closeO t) else (r, [])
theorem Rs.drain_end (t : Tb) (n : Nat) (r : Rs) : ((Rs.drain t n r).1.opn = r.opn ∨ (Rs.drain t n r).2 ≠ []) ∧ (Rs.drain t n r).2.length ≤ n := by
  induction n generalizing r with
  | zero => exact ⟨.inl rfl, Nat.le_refl _⟩
  | succ n ih =>
    rw [Rs.drain]
    split
    · exact ⟨.inl rfl, Nat.zero_le _⟩
    · obtain ⟨s1, s2, s3⟩ := (r.look t).step_opn t
      obtain ⟨i1, i2⟩ := ih ((r.look t).step t).1
      constructor
      · show (Rs.drain t n ((r.look t).step t).1).1.opn = r.opn ∨ ((r.look t).step t).2 ++ (Rs.drain t n ((r.look t).step t).1).2 ≠ []
        by_cases e1 : ((r.look t).step t).2 = []
        · by_cases e2 : (Rs.drain t n ((r.look t).step t).1).2 = []
          · left
            rw [i1.resolve_right (fun h => h e2)]
            exact s1.resolve_right (fun h => h e1)
          · right; simp [e2]
        · right; simp [e1]
      · show (((r.look t).step t).2 ++ (Rs.drain t n ((r.look t).step t).1).2).length ≤ n + 1
        rw [List.length_append]
        omega
theorem Rs.closed_end (r : Rs) (t : Tb) (ho : r.opn = true) : (r.closed t).1.opn = false ∧ (r.closed t).2 ≠ [] ∧ (r.closed t).2.length ≤ r.count + 1 := by
  obtain ⟨d1, d2⟩ := Rs.drain_end t r.count (r.pad t (t.ahead - r.count))
  have ho' : (r.pad t (t.ahead - r.count)).opn = true := ho
  rw [ho'] at d1
  unfold Rs.closed
  simp only
  generalize Rs.drain t r.count (r.pad t (t.ahead - r.count)) = d at *
  unfold Rs.ended
  split
  · rename_i h
    refine ⟨h, ?_, ?_⟩
    · have : d.2 ≠ [] := d1.resolve_left (by rw [h]; decide)
      simpa using this
    · simp; omega
  · exact ⟨rfl, by simp, by simp; omega⟩
theorem Rs.shut_end (r : Rs) (t : Tb) (P : Nat) (ok : t.Ok) (h : r.Good t P) (ho : r.opn = true) : (r.shut t).1.opn = false ∧ (r.shut t).2 ≠ [] := by
  unfold Rs.shut
  rw [if_pos ho]
  unfold Rs.Good at h
  split
  · exact ⟨(r.closed_end t ho).1, (r.closed_end t ho).2.1⟩
  · rename_i hs
    rw [if_neg hs] at h
    exact r.closeO_end t P ok h ho
/-- The bytes of a text. -/
def nats (s : ByteArray) : List Nat := s.data.toList.map UInt8.toNat
theorem nats_lt (s : ByteArray) : ∀ c ∈ nats s, c < 256 := by
  intro c hc
  obtain ⟨x, _, rfl⟩ := List.mem_map.1 hc
  exact x.toNat_lt
theorem nats_length (s : ByteArray) : (nats s).length = s.size := by
  unfold nats
  rw [List.length_map, Array.length_toList]
  rfl
end Go.Proofs.Yteflpladkmihdaa
