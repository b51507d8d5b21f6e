/- Tables of the program's own are tables that scanning asks. -/
import Derived.Test.YteflpladkmihdaaLoS
import Derived.Test.YteflpladkmihdaaWrF
import Derived.Test.YteflpladkmihdaaSeC
set_option linter.unusedVariables false
set_option linter.unusedSimpArgs false
namespace Go.Proofs.Yteflpladkmihdaa
open Go.RowKit

/-- The blocks of tables that were loaded. -/
def Mem.blocks (w : World) (H b : Nat) (k : Nat) : Prop := k = b ∨ (H ≤ k ∧ k < w.heap.size)

theorem Row.intsAt {w : World} {H b : Nat} {e : TypeId} {v : Value} {n : Nat} {f : Nat → Int} (h : Row w H e v n fun i => .int .i64 (f i)) (hn : 0 < n) : IntsAt w (Mem.blocks w H b) v n f := by
  obtain ⟨g, cap, hv, h1, h2, h3, h4, h5, _⟩ := h.get hn
  exact ⟨g, 0, cap, .inr ⟨h1, h2⟩, hv, h3, h4, fun i hi => by rw [Nat.zero_add]; exact h5 i hi⟩
theorem Row.boolsAt {w : World} {H b : Nat} {e : TypeId} {v : Value} {n : Nat} {f : Nat → Bool} (h : Row w H e v n fun i => .bool (f i)) (hn : 0 < n) : BoolsAt w (Mem.blocks w H b) v n f := by
  obtain ⟨g, cap, hv, h1, h2, h3, h4, h5, _⟩ := h.get hn
  exact ⟨g, 0, cap, .inr ⟨h1, h2⟩, hv, h3, h4, fun i hi => by rw [Nat.zero_add]; exact h5 i hi⟩
theorem Row.bytesAt {w : World} {H b : Nat} {e : TypeId} {v : Value} {n : Nat} {f : Nat → Nat} (h : Row w H e v n fun i => .int .u8 (f i : Nat)) (hn : 0 < n) : BytesAt w (Mem.blocks w H b) v n f := by
  obtain ⟨g, cap, hv, h1, h2, h3, h4, h5, _⟩ := h.get hn
  exact ⟨g, 0, cap, .inr ⟨h1, h2⟩, hv, h3, h4, fun i hi => by rw [Nat.zero_add]; exact h5 i hi⟩

theorem Mem.tabAt {w : World} {H b : Nat} {c : Tc} {t : Tb} (h : Mem w H b c t) (h1 : 1 ≤ t.nmode) (h2 : 1 ≤ t.nrule) (h3 : 1 ≤ t.nst) (h4 : 1 ≤ t.count) (h5 : 1 ≤ t.nlong) : TabAt w (Mem.blocks w H b) b t := by
  have hb := h.tp
  obtain ⟨rv, n1, n2⟩ := h.next
  have c8 : RowsAt w (Mem.blocks w H b) c.next t.nst t.count fun i k => t.next i k := by
    obtain ⟨g, cap, hv, g1, g2, g3, g4, g5, _⟩ := n1.get h3
    exact ⟨g, 0, cap, .inr ⟨g1, g2⟩, hv, g3, g4, fun i hi => ⟨rv i, by rw [Nat.zero_add]; exact g5 i hi, (n2 i hi).intsAt h4⟩⟩
  refine ⟨.inl rfl, ?_, ?_, ?_, ⟨_, ?_, h.starts.intsAt h1⟩, ⟨_, ?_, h.acts.intsAt h2⟩, ⟨_, ?_, h.pushed.intsAt h2⟩, ⟨_, ?_, h.kinds.intsAt (by decide)⟩, ?_, ⟨_, ?_, c8⟩, ⟨_, ?_, h.ends.intsAt h3⟩, ⟨_, ?_, h.live.boolsAt h3⟩, ?_, ⟨_, ?_, h.longer.bytesAt h5⟩⟩
  · rw [hb.get_stream, h.stream]
  · rw [hb.get_ahead, h.ahead]
  · rw [hb.get_hold, h.hold]
  · unfold TpAt at hb; simp [World.cell?, hb]
  · unfold TpAt at hb; simp [World.cell?, hb]
  · unfold TpAt at hb; simp [World.cell?, hb]
  · unfold TpAt at hb; simp [World.cell?, hb]
  · unfold TpAt at hb; simp [World.cell?, hb, h.count]
  · unfold TpAt at hb; simp [World.cell?, hb]
  · unfold TpAt at hb; simp [World.cell?, hb]
  · unfold TpAt at hb; simp [World.cell?, hb]
  · unfold TpAt at hb; simp [World.cell?, hb, h.rows]
  · unfold TpAt at hb; simp [World.cell?, hb]

/-- The tables that bytes are, with what lives. -/
def tabOf (s : ByteArray) (n : Nat) : Tb := (tbOf s).first.itr n
theorem tabOf_same (s : ByteArray) (n : Nat) : tabOf s n = { tbOf s with live := (tabOf s n).live } := by
  unfold tabOf
  rw [itr_same]
  rfl
structure Tb.Fine (t : Tb) : Prop where
  ok : t.Ok
  nst : 1 ≤ t.nst
  count : 1 ≤ t.count
  long1 : 1 ≤ t.nlong
  long2 : t.nlong ≤ 75000
  rule1 : 1 ≤ t.nrule
  rule2 : t.nrule ≤ 8
  mode2 : t.nmode ≤ 3
  act : ∀ i, i < t.nrule → t.act i < 4
theorem tabOf_fine (s : ByteArray) (n : Nat) (hv : validB s = true) : (tabOf s n).Fine := by
  rw [valid_same] at hv
  simp only [Bool.and_eq_true] at hv
  obtain ⟨⟨⟨hh, _⟩, _⟩, hr⟩ := hv
  have hmk : metF s (q3 s) 256 = hKinds s := by
    unfold restK at hr
    simp only [Bool.and_eq_true, decide_eq_true_iff] at hr
    exact hr.1.1.1.2.2
  have ok := tbOf_ok s hh hmk
  have h1 : 1 ≤ hStates s := le_within _ _ _
  have h2 : 1 ≤ hKinds s := le_within _ _ _
  have h3 : hStates s ≤ 200 := within_le _ _ _ (by decide)
  have h4 : (tbOf s).nlong = (nbit s + 7) / 8 := rfl
  have h5 : 1 ≤ hWays s := ok.rows0
  have h6 : hWays s ≤ 3000 := ok.rows
  have h7 : 1 ≤ nbit s := Nat.mul_pos h1 h5
  have h8 : nbit s ≤ 200 * 3000 := Nat.mul_le_mul h3 h6
  rw [tabOf_same]
  exact ⟨ok.withLive _, h1, h2, by show 1 ≤ (tbOf s).nlong; omega, by show (tbOf s).nlong ≤ 75000; omega, le_within _ _ _, within_le _ _ _ (by decide), within_le _ _ _ (by decide), fun i _ => tbOf_act s i⟩
theorem tabOf_bytes (s : ByteArray) (n : Nat) : (tabOf s n).bytesL = (tbOf s).bytesL := by
  rw [tabOf_same]
  rfl
end Go.Proofs.Yteflpladkmihdaa

/- The calls of a lexer and of a scanner. -/
namespace Go.Proofs.Yteflpladkmihdaa
open Go.RowKit

/-- A run at its beginning. -/
def Rs.born (t : Tb) (p : Nat) : Rs := { Rs.zero p with stack := fun _ => 0, depth := 1, state := t.start 0 }
theorem Rs.born_good (t : Tb) (p : Nat) (h : t.Fine) : (Rs.born t p).Good t 0 := by
  have ok : (Rs.born t p).Ok t := ⟨Nat.le_refl _, by show (1 : Nat) ≤ 4; decide, fun _ _ => h.ok.nmode, h.ok.start 0 h.ok.nmode, by show (0 : Nat) < 64; decide, Nat.zero_le _, fun _ _ => by show (0 : Nat) < 256; decide⟩
  unfold Rs.Good
  split
  · exact ⟨ok, h.ok.rows0, Nat.zero_le _, Nat.le_refl _, Nat.le_refl _, Nat.le_refl _⟩
  · exact ⟨ok, Nat.le_refl _, Nat.le_refl _, .inl rfl, Nat.le_refl _, Nat.le_refl _, Nat.le_refl _, Nat.le_refl _⟩

set_option maxHeartbeats 400000 in
theorem scanPush_calls (b H : Nat) (S : Nat → Prop) (t : Tb) (w : World) (r0 : Rs) (s : ByteArray) (P : Nat) (hC : Cv H b S t w r0 (.slice none 0 0) []) (ft : t.Fine) (hG : r0.Good t P) (hP : P + s.size < 4194000) :
    Calls Try.prog 10 #[.pointer (some ⟨b, 0, none⟩), .string s] w fun e w' =>
      ∃ v, e = .returned v ∧ RunAt w' b (Rs.feed t (nats s) r0).1 (.slice none 0 0) ∧ w'.ownsRow H 105 6 v (Rs.feed t (nats s) r0).2.length (evsCells (Rs.feed t (nats s) r0).2) ∧ Keep H b w w' := by
  have HR : Hid (Calls Try.prog 17 #[.pointer (some ⟨b, 0, none⟩), .string s] w fun e w' => ∃ v, e = .returned v ∧ RunAt w' b (Rs.feed t (nats s) r0).1 (.slice none 0 0) ∧ w'.ownsRow H 105 6 v (Rs.feed t (nats s) r0).2.length (evsCells (Rs.feed t (nats s) r0).2) ∧ Keep H b w w') := by
    have hcn := hG.cnt
    have o1 : opnN r0.opn ≤ 1 := by unfold opnN; split <;> omega
    exact runPush_calls b H S t w r0 [] s P (P + 1) hC ft.ok ft.act hG (by omega) (by show 0 + r0.count + opnN r0.opn ≤ P + 1; omega) (by omega)
  clear hC hG
  go_enter Try.func10, Try.ntmps10
  go_wp2_with fail
  refine HR.out.mono ?_
  rintro e w2 ⟨v2, rfl, h2⟩
  have H2 : Hid _ := h2
  clear h2
  go_wp2_with fail
  go_ret
  exact ⟨v2, rfl, H2.out⟩

set_option maxHeartbeats 400000 in
theorem scanClose_calls (b H : Nat) (S : Nat → Prop) (t : Tb) (w : World) (r : Rs) (P : Nat) (hC : Cv H b S t w r (.slice none 0 0) []) (ft : t.Fine) (hG : r.Good t P) (hP : P < 4194000) :
    Calls Try.prog 11 #[.pointer (some ⟨b, 0, none⟩)] w fun e w' =>
      ∃ v, e = .returned v ∧ RunAt w' b (r.shut t).1 (.slice none 0 0) ∧ w'.ownsRow H 105 6 v (r.shut t).2.length (evsCells (r.shut t).2) ∧ Keep H b w w' := by
  have HR : Hid (Calls Try.prog 18 #[.pointer (some ⟨b, 0, none⟩)] w fun e w' => ∃ v, e = .returned v ∧ RunAt w' b (r.shut t).1 (.slice none 0 0) ∧ w'.ownsRow H 105 6 v (r.shut t).2.length (evsCells (r.shut t).2) ∧ Keep H b w w') := runClose_calls b H S t w r P hC ft.ok ft.act hG (by omega)
  clear hC hG
  go_enter Try.func11, Try.ntmps11
  go_wp2_with fail
  refine HR.out.mono ?_
  rintro e w2 ⟨v2, rfl, h2⟩
  have H2 : Hid _ := h2
  clear h2
  go_wp2_with fail
  go_ret
  exact ⟨v2, rfl, H2.out⟩

/-- Cells laid one behind the other over others. -/
theorem fold_list (l : List Value) (k : Nat) (z : Array Value) (i : Nat) (h : k + l.length ≤ z.size) : ((l.zipIdx k).foldl (fun cs x => cs.setIfInBounds x.2 x.1) z)[i]? = if k ≤ i ∧ i < k + l.length then l[i - k]? else z[i]? := by
  induction l generalizing k z with
  | nil => simp; intro h1 h2; omega
  | cons a l ih =>
    rw [List.zipIdx_cons, List.foldl_cons, ih (k + 1) (z.setIfInBounds k a) (by simp at h ⊢; omega)]
    simp only [List.length_cons] at h ⊢
    by_cases h1 : k + 1 ≤ i ∧ i < k + 1 + l.length
    · rw [if_pos h1, if_pos (by omega), show i - k = (i - (k + 1)) + 1 by omega, List.getElem?_cons_succ]
    · rw [if_neg h1]
      by_cases h2 : i = k
      · subst h2
        rw [if_pos (by omega)]
        simp [show i < z.size by omega]
      · rw [if_neg (by omega), Array.getElem?_setIfInBounds_ne (by omega)]
theorem fold_zip (z c : Array Value) (n : Nat) (h : z.size = n) (hc : c.size = n) : Array.foldl (fun cs x => cs.setIfInBounds x.snd x.fst) z c.zipIdx 0 n = c := by
  have e : Array.foldl (fun cs x => cs.setIfInBounds x.snd x.fst) z c.zipIdx 0 n = (c.toList.zipIdx 0).foldl (fun cs x => cs.setIfInBounds x.2 x.1) z := by
    have hz : c.zipIdx.size = n := by simp [hc]
    rw [← hz, ← Array.foldl_toList]
    simp
  rw [e]
  apply Array.ext_getElem?
  intro i
  rw [fold_list _ _ _ _ (by simp; omega)]
  by_cases hi : i < n
  · rw [if_pos (by simp; omega)]
    simp
  · rw [if_neg (by simp; omega), Array.getElem?_eq_none (by omega), Array.getElem?_eq_none (by omega)]
theorem zeroScan_size : Try.zeroCells63.size = 85 := by kernel_rfl

set_option maxHeartbeats 4000000 in
set_option maxRecDepth 100000 in
theorem lexBegin_calls (x p : Nat) (S : Nat → Prop) (t : Tb) (w : World) (hx : w.cell? ⟨x, 0, none⟩ = some (.pointer (some ⟨p, 0, none⟩))) (hT : TabAt w S p t) (hS : ∀ k, S k → k < w.heap.size) (ft : t.Fine) :
    Calls Try.prog 9 #[.pointer (some ⟨x, 0, none⟩)] w fun e w' => ∃ b, e = .returned (.pointer (some ⟨b, 0, none⟩)) ∧ w.heap.size ≤ b ∧ b < w'.heap.size ∧ RunAt w' b (Rs.born t p) (.slice none 0 0) ∧ Keep w.heap.size w.heap.size w w' := by
  have HR : Hid _ := begin_calls p S t w hT hS ft.ok
  clear hT
  go_enter Try.func9, Try.ntmps9
  go_wp2_with fail
  refine Calls.mono HR.out ?_
  rintro e w2 ⟨c, rfl, hc85, hcat, hk⟩
  have HA : Hid ((∀ i, i < 85 → c[i]? = some ((Rs.born t p).cells (.slice none 0 0) i)) ∧ Keep w.heap.size w.heap.size w w2) := ⟨hcat, hk⟩
  clear hcat hk HR
  go_wp2_with fail
  rw [fold_zip _ c 85 zeroScan_size hc85]
  go_ret
  refine ⟨w2.heap.size, rfl, HA.out.2.size, by simp, ⟨_, c, heap_alloc_new w2 _, hc85, HA.out.1⟩, HA.out.2.trans (Keep.alloc _ _ HA.out.2.size)⟩
end Go.Proofs.Yteflpladkmihdaa
