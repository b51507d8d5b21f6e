/- Tables in memory that the program made itself; which states live. -/
import Derived.Test.YteflpladkmihdaaRdK
import Derived.Test.YteflpladkmihdaaBitsAToTabA
set_option linter.unusedVariables false
set_option linter.unusedSimpArgs false
namespace Go.Proofs.Yteflpladkmihdaa
open Go.RowKit

/-- An own row of elements of one cell, by its content. -/
def Row (w : World) (H : Nat) (e : TypeId) (v : Value) (n : Nat) (f : Nat → Value) : Prop := w.ownsRow H e 1 v n ((List.range n).map f)

section
variable {w w' : World} {H : Nat} {e e' : TypeId} {v u : Value} {n m : Nat} {f f' : Nat → Value}
theorem Row.get (h : Row w H e v n f) (hn : 0 < n) : ∃ g cap, v = .slice (some ⟨g, 0, none⟩) n cap ∧ H ≤ g ∧ g < w.heap.size ∧ n ≤ cap ∧ cap ≤ maxLen ∧ (∀ i, i < n → w.cell? ⟨g, i, none⟩ = some (f i)) ∧ (∀ i, w.frozen? ⟨g, i, none⟩ = false) := by
  rcases h.2 with ⟨_, h0⟩ | ⟨g, cap, cur, hv, hb, hg, h1, h2, h3, h4⟩
  · omega
  · refine ⟨g, cap, hv, hb, (Array.getElem?_eq_some_iff.1 hg).1, h1, h2, fun i hi => ?_, fun i => by simp [World.frozen?, hg]⟩
    have e1 : (cur.toList.take (n * 1))[i]? = some (f i) := by rw [h4]; simp [hi]
    rw [List.getElem?_take, if_pos (by omega)] at e1
    simp [World.cell?, hg]
    simpa using e1
theorem Row.congr (h : Row w H e v n f) (hf : ∀ i, i < n → f i = f' i) : Row w H e v n f' := by
  unfold Row at *
  rw [← List.map_congr_left fun i hi => hf i (List.mem_range.1 hi)]
  exact h
theorem Row.set {g cap : Nat} (h : Row w H e (.slice (some ⟨g, 0, none⟩) n cap) n f) (i : Nat) (x : Value) : Row (w.setCell ⟨g, i, none⟩ x) H e (.slice (some ⟨g, 0, none⟩) n cap) n (fun j => if j = i then x else f j) := by
  refine ⟨by simp, ?_⟩
  rcases h.2 with ⟨hv, _⟩ | ⟨g', cap', cur, hv, hb, hg, h1, h2, h3, h4⟩
  · cases hv
  · injection hv with ha _ hc
    injection ha with ha
    injection ha with hgg
    subst hgg hc
    refine .inr ⟨g, cap, cur.setIfInBounds i x, rfl, hb, ?_, h1, h2, by simpa using h3, ?_⟩
    · simp [World.setCell, Array.getElem?_modify, hg]
    · apply List.ext_getElem?
      intro j
      have e1 : (cur.toList.take (n * 1))[j]? = ((List.range n).map f)[j]? := by rw [h4]
      rw [List.getElem?_take] at e1 ⊢
      by_cases hj : j < n
      · rw [if_pos (by omega)] at e1 ⊢
        simp [hj] at e1
        have hjc : j < cur.size := by omega
        simp [Array.getElem?_setIfInBounds, hj]
        by_cases hji : i = j
        · subst hji
          simp [hjc]
        · simp [hji, Ne.symm hji]
          simpa using e1
      · rw [if_neg (by omega)]
        simp [hj]
theorem Row.blk (h : Row w H e v n f) (hb : ∀ g, H ≤ g → g < w.heap.size → v.ownBlock = some g → w'.heap[g]? = w.heap[g]?) : Row w' H e v n f := own_blk h hb
theorem Row.setOther {g i cap : Nat} {x : Value} (h : Row w H e v n f) (h' : Row w H e' (.slice (some ⟨g, 0, none⟩) m cap) m f') (hne : e ≠ e') : Row (w.setCell ⟨g, i, none⟩ x) H e v n f :=
  h.blk fun k _ _ hk => Below.heap_setCell _ _ _ _ (fun hkg => own_other h h' hne hk (by rw [show k = g from hkg]; rfl))
theorem Row.mono {G : Nat} (h : Row w H e v n f) (hG : G ≤ H) : Row w G e v n f := own_less h hG
end

/-- Tables in blocks of the program's own: block b, and blocks from H on. -/
structure Mem (w : World) (H b : Nat) (c : Tc) (t : Tb) : Prop where
  tp : TpAt w b c
  stream : c.stream = .bool t.stream
  ahead : c.ahead = .int .i64 t.ahead
  hold : c.hold = .int .i64 t.hold
  count : c.count = .int .i64 t.count
  rows : c.rows = .int .i64 t.rows
  starts : Row w H 3 c.starts t.nmode fun i => .int .i64 (t.start i : Nat)
  acts : Row w H 3 c.acts t.nrule fun i => .int .i64 (t.act i : Nat)
  pushed : Row w H 3 c.pushed t.nrule fun i => .int .i64 (t.push i : Nat)
  kinds : Row w H 3 c.kinds 256 fun i => .int .i64 (t.kind i : Nat)
  next : ∃ rv, Row w H 67 c.next t.nst rv ∧ ∀ i, i < t.nst → Row w H 3 (rv i) t.count fun k => .int .i64 (t.next i k : Nat)
  ends : Row w H 3 c.ends t.nst fun i => .int .i64 (t.ends i)
  live : Row w H 4 c.live t.nst fun i => .bool (t.live i)
  longer : Row w H 5 c.longer t.nlong fun i => .int .u8 (t.long i : Nat)
  bH : b < H
  HH : H ≤ w.heap.size

theorem Mem.keep {w w' : World} {H b : Nat} {c : Tc} {t : Tb} (h : Mem w H b c t) (hb : w'.heap[b]? = w.heap[b]?) (hk : ∀ k, H ≤ k → k < w.heap.size → w'.heap[k]? = w.heap[k]?) (hs : w.heap.size ≤ w'.heap.size) : Mem w' H b c t := by
  have k : ∀ {e v n f}, Row w H e v n f → Row w' H e v n f := fun r => r.blk fun g h1 h2 _ => hk g h1 h2
  obtain ⟨rv, n1, n2⟩ := h.next
  exact ⟨h.tp.of_block hb, h.stream, h.ahead, h.hold, h.count, h.rows, k h.starts, k h.acts, k h.pushed, k h.kinds, ⟨rv, k n1, fun i hi => k (n2 i hi)⟩, k h.ends, k h.live, k h.longer, h.bH, Nat.le_trans h.HH hs⟩

/-- A state is told to live. -/
theorem Mem.setLive {w : World} {H b g cap : Nat} {c : Tc} {t : Tb} (h : Mem w H b c t) (hg : c.live = .slice (some ⟨g, 0, none⟩) t.nst cap) (i : Nat) (hgH : H ≤ g) : Mem (w.setCell ⟨g, i, none⟩ (.bool true)) H b c { t with live := fun j => if j = i then true else t.live j } := by
  have hl := h.live
  rw [hg] at hl
  obtain ⟨rv, n1, n2⟩ := h.next
  have hbH := h.bH
  refine ⟨h.tp.of_block (Below.heap_setCell _ _ _ _ (by show b ≠ g; omega)), h.stream, h.ahead, h.hold, h.count, h.rows, h.starts.setOther hl (by decide), h.acts.setOther hl (by decide), h.pushed.setOther hl (by decide), h.kinds.setOther hl (by decide), ⟨rv, n1.setOther hl (by decide), fun i hi => (n2 i hi).setOther hl (by decide)⟩, h.ends.setOther hl (by decide), ?_, h.longer.setOther hl (by decide), h.bH, by simpa [World.setCell] using h.HH⟩
  rw [hg]
  refine (hl.set i (.bool true)).congr fun j _ => ?_
  show (if j = i then Value.bool true else Value.bool (t.live j)) = Value.bool (if j = i then true else t.live j)
  by_cases e : j = i <;> simp [e]

/-- Does one of the first k states that a state leads to live? -/
def Tb.anyTo (t : Tb) (s : Nat) : Nat → Bool
  | 0 => false
  | k + 1 => t.anyTo s k || t.live (t.next s k)

theorem any_stays (t : Tb) (s k n : Nat) (h : k ≤ n) (ha : t.anyTo s k = true) : t.anyTo s n = true := by
  induction n with
  | zero => rw [show k = 0 by omega] at ha; exact ha
  | succ n ih =>
    by_cases e : k = n + 1
    · rw [← e]; exact ha
    · rw [Tb.anyTo, ih (by omega)]; rfl

set_option maxHeartbeats 1000000 in
theorem hasLive_calls (w : World) (H b : Nat) (c : Tc) (t : Tb) (hM : Mem w H b c t) (ok : t.Ok) (s : Nat) (hs : s < t.nst) (hc : 1 ≤ t.count) (rv : Value) (hr : Row w H 3 rv t.count fun k => .int .i64 (t.next s k : Nat)) :
    Calls Try.prog 53 #[.pointer (some ⟨b, 0, none⟩), rv] w fun e w' => e = .returned (.bool (t.anyTo s t.count)) ∧ w' = w := by
  obtain ⟨g, cap, rfl, hg1, hg2, hg3, hg4, hg5, hg6⟩ := hr.get hc
  obtain ⟨gl, capl, hl, hl1, hl2, hl3, hl4, hl5, hl6⟩ := hM.live.get (Nat.lt_of_le_of_lt (Nat.zero_le _) hs)
  have y10 : w.cell? ⟨b, 10, none⟩ = some (.slice (some ⟨gl, 0, none⟩) t.nst capl) := by rw [← hl]; exact hM.tp.get_live
  have HN : Hid (∀ k, k < t.count → t.next s k < t.nst) := fun k hk => ok.next s k hs hk
  have HG : Hid (∀ i, i < t.count → w.cell? ⟨g, i, none⟩ = some (.int .i64 (t.next s i : Nat))) := hg5
  have HLV : Hid (∀ i, i < t.nst → w.cell? ⟨gl, i, none⟩ = some (.bool (t.live i))) := hl5
  have hcb := ok.count
  have hnb := ok.nst
  clear hM ok hr hg5 hl5 hg6 hl6
  generalize hcnt : t.count = n at *
  clear hcnt
  go_enter Try.func53, Try.ntmps53
  go_wp2_with fail
  go_loop [9] (fun i => ∃ j : Nat, j ≤ n ∧ i = .int .i64 j ∧ t.anyTo s j = false) (fun i => n - (intOf i).toNat)
  case atStart => exact ⟨0, Nat.zero_le _, rfl, rfl⟩
  case round =>
    obtain ⟨j, hj, rfl, hany⟩ := hrel
    have HA : Hid (t.anyTo s j = false) := hany
    clear hany
    by_cases hj2 : j < n
    · have i1 : (j : Int) < (n : Int) := by omega
      have y1 : w.cell? ⟨g, j, none⟩ = some (.int .i64 (t.next s j : Nat)) := HG.out j hj2
      have hx := HN.out j hj2
      have y2 : w.cell? ⟨gl, t.next s j, none⟩ = some (.bool (t.live (t.next s j))) := HLV.out _ hx
      have i2 : (t.next s j : Int) < (t.nst : Int) := by omega
      have HL : Hid (t.anyTo s (j + 1) = (t.anyTo s j || t.live (t.next s j))) := rfl
      generalize t.next s j = x at *
      generalize hlv : t.live x = lv at *
      have HLX : Hid (t.anyTo s (j + 1) = lv) := by show _ = _; rw [HL.out, HA.out]; rfl
      clear HL hlv
      cases lv with
      | true =>
        go_wp2_with fail
        go_ret
        exact ⟨ret_bool (any_stays t s (j + 1) n (by omega) HLX.out).symm, rfl⟩
      | false =>
        go_wp2_with fail
        exact ⟨⟨j + 1, by omega, by go_num, HLX.out⟩, by simp [intOf]; omega⟩
    · have hjn : j = n := by omega
      have i1 : (n : Int) ≤ (j : Int) := by omega
      have HJ : Hid (t.anyTo s n = false) := by rw [← hjn]; exact HA.out
      clear hjn
      go_wp2_with fail
      go_ret
      exact ⟨ret_bool HJ.out.symm, rfl⟩
end Go.Proofs.Yteflpladkmihdaa

/- Which states live: one step back. -/
namespace Go.Proofs.Yteflpladkmihdaa
open Go.RowKit

theorem Tb.Ok.withLive {t : Tb} (ok : t.Ok) (f : Nat → Bool) : ({ t with live := f }).Ok :=
  ⟨ok.ahead, ok.hold0, ok.hold, ok.count, ok.rows0, ok.rows, ok.nst, ok.nmode, ok.long, ok.start, ok.push, ok.kind, ok.next, ok.ends, ok.longB⟩

/-- One step back from all states that are known to live, as far as the first ones; has more been found? -/
def Tb.spreadTo (t : Tb) : Nat → Tb × Bool
  | 0 => (t, false)
  | s + 1 => if !(t.spreadTo s).1.live s && (t.spreadTo s).1.anyTo s t.count then ({ (t.spreadTo s).1 with live := fun j => if j = s then true else (t.spreadTo s).1.live j }, true) else t.spreadTo s
theorem spreadTo_yes (t : Tb) (s : Nat) (h1 : (t.spreadTo s).1.live s = false) (h2 : (t.spreadTo s).1.anyTo s t.count = true) : t.spreadTo (s + 1) = ({ (t.spreadTo s).1 with live := fun j => if j = s then true else (t.spreadTo s).1.live j }, true) := by
  rw [Tb.spreadTo, h1, h2]; rfl
theorem spreadTo_no (t : Tb) (s : Nat) (h : (t.spreadTo s).1.live s = true ∨ (t.spreadTo s).1.anyTo s t.count = false) : t.spreadTo (s + 1) = t.spreadTo s := by
  rw [Tb.spreadTo]
  rcases h with h | h <;> rw [h] <;> simp
/-- All but what lives is as it was. -/
theorem spreadTo_same (t : Tb) (s : Nat) : (t.spreadTo s).1 = { t with live := (t.spreadTo s).1.live } := by
  induction s with
  | zero => rfl
  | succ s ih =>
    rw [Tb.spreadTo]
    split
    · show ({ (t.spreadTo s).1 with live := _ } : Tb) = _
      rw [ih]
    · exact ih
theorem spread_nst (t : Tb) (s : Nat) : (t.spreadTo s).1.nst = t.nst := by rw [spreadTo_same]
theorem spread_count (t : Tb) (s : Nat) : (t.spreadTo s).1.count = t.count := by rw [spreadTo_same]
theorem spread_ok {t : Tb} (ok : t.Ok) (s : Nat) : (t.spreadTo s).1.Ok := by rw [spreadTo_same]; exact ok.withLive _

set_option maxHeartbeats 2000000 in
set_option maxRecDepth 100000 in
theorem spreadLive_calls (w : World) (H b : Nat) (c : Tc) (t : Tb) (hM : Mem w H b c t) (ok : t.Ok) (hn : 1 ≤ t.nst) (hc : 1 ≤ t.count) :
    Calls Try.prog 42 #[.pointer (some ⟨b, 0, none⟩)] w fun e w' => e = .returned (.bool (t.spreadTo t.nst).2) ∧ Mem w' H b c (t.spreadTo t.nst).1 ∧ Below H w w' := by
  obtain ⟨rv, hnx, hrv⟩ := hM.next
  obtain ⟨g, cap, hg, hg1, hg2, hg3, hg4, hg5, hg6⟩ := hnx.get hn
  obtain ⟨gl, capl, hl, hl1, hl2, hl3, hl4, hl5, hl6⟩ := hM.live.get hn
  have y8 : w.cell? ⟨b, 8, none⟩ = some (.slice (some ⟨g, 0, none⟩) t.nst cap) := by rw [← hg]; exact hM.tp.get_next
  have HM : Hid (Mem w H b c t) := hM
  have HGL : Hid (c.live = .slice (some ⟨gl, 0, none⟩) t.nst capl) := hl
  have HG : Hid (c.next = .slice (some ⟨g, 0, none⟩) t.nst cap) := hg
  have hnb := ok.nst
  clear hM hnx hrv hg5 hg6 hl5 hl6 hl hg
  generalize hnst : t.nst = n at *
  have HN : Hid (t.nst = n) := hnst
  clear hnst
  go_enter Try.func42, Try.ntmps42
  go_wp2_with fail
  go_loopg [3, 11] n (fun q more i wr => ∃ j : Nat, q = n - j ∧ j ≤ n ∧ i = .int .i64 (j : Int) ∧ more = .bool (t.spreadTo j).2 ∧ Mem wr H b c (t.spreadTo j).1 ∧ Below H w wr)
  case atStart => exact ⟨0, rfl, Nat.zero_le _, rfl, rfl, HM.out, Below.refl _ _⟩
  case round =>
    obtain ⟨j, hgk, hj, rfl, rfl, hMr, hB⟩ := hrel
    have AA : Hid (gk = n - j ∧ Mem wr H b c (t.spreadTo j).1 ∧ Below H w wr) := ⟨hgk, hMr, hB⟩
    by_cases hj2 : j < n
    · have i1 : (j : Int) < (n : Int) := by omega
      obtain ⟨rv, hnx, hrv⟩ := hMr.next
      rw [HG.out, spread_nst, HN.out] at hnx
      obtain ⟨g', cap', e0, _, _, _, _, hcell, _⟩ := hnx.get hn
      have eg : g' = g := by injection e0 with e1 _ _; injection e1 with e1; injection e1 with e1; exact e1.symm
      subst eg
      have z1 : wr.cell? ⟨g', j, none⟩ = some (rv j) := hcell j hj2
      have hlv := hMr.live
      rw [HGL.out, spread_nst, HN.out] at hlv
      obtain ⟨gl', capl', e0, _, _, _, _, hcelll, hfz⟩ := hlv.get hn
      have el : gl' = gl := by injection e0 with e1 _ _; injection e1 with e1; injection e1 with e1; exact e1.symm
      subst el
      have z2 : wr.cell? ⟨gl', j, none⟩ = some (.bool ((t.spreadTo j).1.live j)) := hcelll j hj2
      have z3 := hfz j
      have z4 : wr.cell? ⟨b, 10, none⟩ = some (.slice (some ⟨gl', 0, none⟩) n capl) := by rw [← HGL.out]; exact hMr.tp.get_live
      have hrow : Row wr H 3 (rv j) (t.spreadTo j).1.count fun k => .int .i64 ((t.spreadTo j).1.next j k : Nat) := hrv j (by rw [spread_nst, HN.out]; exact hj2)
      obtain ⟨ao, cp, hrs⟩ := own_slice hrow
      have HROW : Hid (Row wr H 3 (rv j) (t.spreadTo j).1.count fun k => .int .i64 ((t.spreadTo j).1.next j k : Nat)) := hrow
      rw [hrs] at z1
      have HRS : Hid (rv j = .slice ao (t.spreadTo j).1.count cp) := hrs
      have HY : Hid ((t.spreadTo j).1.live j = false → (t.spreadTo j).1.anyTo j t.count = true → t.spreadTo (j + 1) = ({ (t.spreadTo j).1 with live := fun i => if i = j then true else (t.spreadTo j).1.live i }, true)) := spreadTo_yes t j
      have HZ : Hid ((t.spreadTo j).1.live j = true ∨ (t.spreadTo j).1.anyTo j t.count = false → t.spreadTo (j + 1) = t.spreadTo j) := spreadTo_no t j
      have HOK := spread_ok ok j
      have hcc : (t.spreadTo j).1.count = t.count := spread_count t j
      have hnn : (t.spreadTo j).1.nst = n := by rw [spread_nst, HN.out]
      clear hgk hMr hB hcell hcelll hfz hrow hrs hnx hrv hlv e0
      generalize hts : t.spreadTo j = ts at *
      cases hlive : ts.1.live j with
      | true =>
        rw [hlive] at z2
        have HT : Hid (t.spreadTo (j + 1) = ts) := HZ.out (.inl hlive)
        clear hlive hts HOK hcc hnn
        go_wp2_with fail
        go_roundg (n - (j + 1))
        case measure => rw [AA.out.1]; omega
        case rel => exact ⟨j + 1, rfl, by omega, congrArg (Value.int IntKind.i64) (by omega), by rw [HT.out], by rw [HT.out]; exact AA.out.2.1, AA.out.2.2⟩
      | false =>
        rw [hlive] at z2
        cases hany : ts.1.anyTo j t.count with
        | true =>
          have HT : Hid (t.spreadTo (j + 1) = ({ ts.1 with live := fun i => if i = j then true else ts.1.live i }, true)) := HY.out hlive hany
          have HA : Hid (ts.1.anyTo j ts.1.count = true) := by show _ = _; rw [hcc]; exact hany
          have HRW : Hid (Row wr H 3 (.slice ao t.count cp) ts.1.count fun k => .int .i64 (ts.1.next j k : Nat)) := by show Row _ _ _ _ _ _; rw [← hcc, ← HRS.out]; exact HROW.out
          have hjn : j < ts.1.nst := by rw [hnn]; exact hj2
          have hc1 : 1 ≤ ts.1.count := by rw [hcc]; exact hc
          have HGX : Hid (c.live = .slice (some ⟨gl', 0, none⟩) ts.1.nst capl) := by show _ = _; rw [hnn]; exact HGL.out
          clear hlive hany hts HROW HRS hnn
          rw [hcc] at z1
          clear hcc
          go_wp2_with fail
          refine (hasLive_calls wr H b c ts.1 AA.out.2.1 HOK j hjn hc1 _ HRW.out).mono ?_
          rintro e w1 ⟨rfl, rfl⟩
          rw [HA.out]
          clear hjn hc1 HOK
          go_wp2_with fail
          go_roundg (n - (j + 1))
          case measure => rw [AA.out.1]; omega
          case rel =>
            refine ⟨j + 1, rfl, by omega, congrArg (Value.int IntKind.i64) (by omega), by rw [HT.out], ?_, AA.out.2.2.trans ?_⟩
            · rw [HT.out]
              exact AA.out.2.1.setLive HGX.out j hl1
            · exact ⟨rfl, rfl, rfl, by simp [World.setCell], fun k hk => Below.heap_setCell _ _ _ _ (by show k ≠ gl'; omega)⟩
        | false =>
          have HT : Hid (t.spreadTo (j + 1) = ts) := HZ.out (.inr hany)
          have HA : Hid (ts.1.anyTo j ts.1.count = false) := by show _ = _; rw [hcc]; exact hany
          have HRW : Hid (Row wr H 3 (.slice ao t.count cp) ts.1.count fun k => .int .i64 (ts.1.next j k : Nat)) := by show Row _ _ _ _ _ _; rw [← hcc, ← HRS.out]; exact HROW.out
          have hjn : j < ts.1.nst := by rw [hnn]; exact hj2
          have hc1 : 1 ≤ ts.1.count := by rw [hcc]; exact hc
          have HGX : Hid (c.live = .slice (some ⟨gl', 0, none⟩) ts.1.nst capl) := by show _ = _; rw [hnn]; exact HGL.out
          clear hlive hany hts HROW HRS hnn
          rw [hcc] at z1
          clear hcc
          go_wp2_with fail
          refine (hasLive_calls wr H b c ts.1 AA.out.2.1 HOK j hjn hc1 _ HRW.out).mono ?_
          rintro e w1 ⟨rfl, rfl⟩
          rw [HA.out]
          clear hjn hc1 HOK
          go_wp2_with fail
          go_roundg (n - (j + 1))
          case measure => rw [AA.out.1]; omega
          case rel => exact ⟨j + 1, rfl, by omega, congrArg (Value.int IntKind.i64) (by omega), by rw [HT.out], by rw [HT.out]; exact AA.out.2.1, AA.out.2.2⟩
    · have hjn : j = n := by omega
      have i1 : (n : Int) ≤ (j : Int) := by omega
      rw [hjn] at AA
      clear hgk hMr hB
      have HJ : Hid ((t.spreadTo j).2 = (t.spreadTo n).2) := by show _ = _; rw [hjn]
      clear hjn
      generalize (t.spreadTo j).2 = bb at *
      go_wp2_with fail
      go_ret
      exact ⟨ret_bool HJ.out, AA.out.2.1, AA.out.2.2⟩
end Go.Proofs.Yteflpladkmihdaa
