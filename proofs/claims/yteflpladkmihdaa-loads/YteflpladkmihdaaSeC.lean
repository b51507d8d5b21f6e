/- A run takes a text; it is closed. -/
import Derived.Test.YteflpladkmihdaaRunSToSeB
import Derived.Test.YteflpladkmihdaaSeA
set_option linter.unusedVariables false
set_option linter.unusedSimpArgs false
namespace Go.Proofs.Yteflpladkmihdaa
open Go.RowKit

theorem nats_snoc (s : ByteArray) (k : Nat) (hk : k < s.size) : (nats s).take (k + 1) = (nats s).take k ++ [s[k].toNat] := by
  unfold nats
  rw [← List.map_take, take_snoc s k hk, List.map_append, List.map_take]
  rfl
theorem feed_done (t : Tb) (s : ByteArray) (k : Nat) (r : Rs) (hk : k ≤ s.size) (h : ¬ (k < s.size ∧ (Rs.feed t ((nats s).take k) r).1.opn = true)) : Rs.feed t ((nats s).take k) r = Rs.feed t (nats s) r := by
  by_cases e : k < s.size
  · have ho : (Rs.feed t ((nats s).take k) r).1.opn = false := by
      cases h' : (Rs.feed t ((nats s).take k) r).1.opn with
      | false => rfl
      | true => exact absurd ⟨e, h'⟩ h
    conv => rhs; rw [← List.take_append_drop k (nats s), Rs.feed_append, Rs.feed_shut t _ _ ho, List.append_nil]
  · rw [List.take_of_length_le (by rw [nats_length]; omega)]
theorem own_form {w : World} {H e z n : Nat} {v : Value} {xs : List Value} (h : w.ownsRow H e z v n xs) : ∃ ao cap, v = .slice ao n cap := by
  rcases h.2 with ⟨h1, h2⟩ | ⟨g, cap, _, h1, _⟩
  · exact ⟨none, 0, by rw [h1, h2]⟩
  · exact ⟨_, cap, h1⟩
theorem own_held {w w' : World} {H b e z n : Nat} {v : Value} {xs : List Value} (h : w.ownsRow H e z v n xs) (hk : ∀ H, Keep H b w w') (hb : b < H) : w'.ownsRow H e z v n xs := by
  refine ⟨h.1, h.2.imp id ?_⟩
  rintro ⟨g, cap, cur, hv, hg, hh, rest⟩
  have hlt := (Array.getElem?_eq_some_iff.1 hh).1
  exact ⟨g, cap, cur, hv, hg, ((hk w.heap.size).block g hlt (by omega)).trans hh, rest⟩
theorem Rs.Good.str {r : Rs} {t : Tb} {P : Nat} (h : r.Good t P) (hs : t.stream = true) : r.Str t P := by unfold Rs.Good at h; rw [if_pos hs] at h; exact h
theorem Rs.Good.oth {r : Rs} {t : Tb} {P : Nat} (h : r.Good t P) (hs : t.stream = false) : r.Oth t P := by unfold Rs.Good at h; rw [if_neg (by rw [hs]; decide)] at h; exact h

/-- A byte comes: either engine. -/
theorem eatS_calls (b H : Nat) (S : Nat → Prop) (t : Tb) (w : World) (r : Rs) {v0 : Value} (es : List Ev) (P c : Nat) (hC : Cv H b S t w r v0 es) (ok : t.Ok) (hact : ∀ i, i < t.nrule → t.act i < 4) (hG : r.Good t P) (hP : P < 1073741824) (hn : es.length ≤ 4194304) (hcb : c < 256) (hs : t.stream = true) :
    Calls Try.prog 31 #[.pointer (some ⟨b, 0, none⟩), .int .u8 c] w fun e w' =>
      e = .returned (.tuple #[]) ∧ ∃ v, Cv H b S t w' (r.eat t c).1 v (es ++ (r.eat t c).2) ∧ Keep H b w w' := by
  have h := hG.str hs
  have h1 := h.pos
  have h2 := h.line
  have h3 := h.col
  have h4 := h.cnt
  have h5 := ok.ahead
  have e : r.eat t c = r.take t c := if_pos hs
  rw [e]
  exact take_calls b H S t w r es c hC hn ok hact h.ok h.ahead (by omega) hcb (by omega) (by omega) (by omega)
theorem eatO_calls (b H : Nat) (S : Nat → Prop) (t : Tb) (w : World) (r : Rs) {v0 : Value} (es : List Ev) (P C c : Nat) (hC : Cv H b S t w r v0 es) (ok : t.Ok) (hact : ∀ i, i < t.nrule → t.act i < 4) (hG : r.Good t P) (hP : P < 1073741824) (hn : es.length + r.count + opnN r.opn ≤ C) (hC4 : C < 4194304) (hcb : c < 256) (hs : t.stream = false) :
    Calls Try.prog 32 #[.pointer (some ⟨b, 0, none⟩), .int .u8 c] w fun e w' =>
      e = .returned (.tuple #[]) ∧ ∃ v, Cv H b S t w' (r.eat t c).1 v (es ++ (r.eat t c).2) ∧ Keep H b w w' := by
  have e : r.eat t c = r.takeO t c := if_neg (by rw [hs]; decide)
  rw [e]
  exact takeO_calls b H S t w r es P C c hC ok hact (hG.oth hs) hP hn hC4 hcb

set_option maxHeartbeats 4000000 in
set_option maxRecDepth 100000 in
theorem runPush_calls (b H : Nat) (S : Nat → Prop) (t : Tb) (w : World) (r0 : Rs) {v0 : Value} (es0 : List Ev) (s : ByteArray) (P C : Nat) (hC : Cv H b S t w r0 v0 es0) (ok : t.Ok) (hact : ∀ i, i < t.nrule → t.act i < 4) (hG : r0.Good t P) (hP : P + s.size < 1073741824) (hn : es0.length + r0.count + opnN r0.opn ≤ C) (hC4 : C + s.size < 4194304) :
    Calls Try.prog 17 #[.pointer (some ⟨b, 0, none⟩), .string s] w fun e w' =>
      ∃ v, e = .returned v ∧ RunAt w' b (Rs.feed t (nats s) r0).1 (.slice none 0 0) ∧ w'.ownsRow H 105 6 v (es0 ++ (Rs.feed t (nats s) r0).2).length (evsCells (es0 ++ (Rs.feed t (nats s) r0).2)) ∧ Keep H b w w' := by
  have HC0 : Hid (Cv H b S t w r0 v0 es0 ∧ r0.Good t P ∧ es0.length + r0.count + opnN r0.opn ≤ C) := ⟨hC, hG, hn⟩
  clear hC hG hn
  go_enter Try.func17, Try.ntmps17
  refine wp_seq_k ?_
  intro K0 hK0
  have HK0 : Hid (∀ a w, _ → K0 a w) := hK0
  clear hK0
  go_wp2_with fail
  refine HK0.out _ _ ?_
  clear HK0
  refine wp_seq_k ?_
  intro K hK0
  have HK : Hid (∀ a w, _ → K a w) := hK0
  clear hK0
  go_wp2_with fail
  go_loopg [5] s.size (fun q i wr => ∃ (k : Nat) (v : Value), q = s.size - k ∧ k ≤ s.size ∧ i = .int .i64 (k : Int) ∧ Cv H b S t wr (Rs.feed t ((nats s).take k) r0).1 v (es0 ++ (Rs.feed t ((nats s).take k) r0).2) ∧ Keep H b w wr)
  case atStart => exact ⟨0, v0, rfl, Nat.zero_le _, rfl, by rw [List.take_zero]; show Cv H b S t w r0 v0 (es0 ++ []); rw [List.append_nil]; exact HC0.out.1, Keep.refl _ _ _⟩
  case round =>
    obtain ⟨k, v, hgk, hk, rfl, hC, hkp⟩ := hrel
    have HD : Hid (¬ (k < s.size ∧ (Rs.feed t ((nats s).take k) r0).1.opn = true) → Rs.feed t ((nats s).take k) r0 = Rs.feed t (nats s) r0) := feed_done t s k r0 hk
    have HI : Hid ((Rs.feed t ((nats s).take k) r0).1.Good t (P + k) ∧ (es0 ++ (Rs.feed t ((nats s).take k) r0).2).length + (Rs.feed t ((nats s).take k) r0).1.count + opnN (Rs.feed t ((nats s).take k) r0).1.opn ≤ C + k) := by
      have h := Rs.feed_inv t ok ((nats s).take k) r0 P HC0.out.2.1 (fun c hc => nats_lt s c (List.mem_of_mem_take hc))
      have hl : ((nats s).take k).length = k := by rw [List.length_take, nats_length]; omega
      rw [hl] at h
      have h3 := HC0.out.2.2
      refine ⟨h.1, ?_⟩
      rw [List.length_append]
      omega
    have HS : Hid (∀ hlt : k < s.size, (Rs.feed t ((nats s).take k) r0).1.opn = true → Rs.feed t ((nats s).take (k + 1)) r0 = (((Rs.feed t ((nats s).take k) r0).1.eat t s[k].toNat).1, (Rs.feed t ((nats s).take k) r0).2 ++ ((Rs.feed t ((nats s).take k) r0).1.eat t s[k].toNat).2)) := by
      intro hlt ho
      rw [nats_snoc s k hlt]
      exact Rs.feed_snoc t _ _ _ ho
    generalize hF : Rs.feed t ((nats s).take k) r0 = F at *
    obtain ⟨r, es⟩ := F
    have HF : Hid (Rs.feed t ((nats s).take k) r0 = (r, es)) := hF
    clear hF
    have HA : Hid (Cv H b S t wr r v (es0 ++ es) ∧ Keep H b w wr ∧ gk = s.size - k) := ⟨hC, hkp, hgk⟩
    have y1 : wr.cell? ⟨b, 1, none⟩ = some (.bool r.opn) := hC.run.get_opn
    have y0 : wr.cell? ⟨b, 0, none⟩ = some (.pointer (some ⟨r.tp, 0, none⟩)) := hC.run.get_tp
    have x0 : wr.cell? ⟨r.tp, 0, none⟩ = some (.bool t.stream) := hC.tab.c0
    clear hC hkp hgk
    by_cases hcond : k < s.size ∧ r.opn = true
    · obtain ⟨hlt, hop⟩ := hcond
      rw [hop] at y1
      have HS2 : Hid (Rs.feed t ((nats s).take (k + 1)) r0 = ((r.eat t s[k].toNat).1, es ++ (r.eat t s[k].toNat).2)) := HS.out hlt hop
      have hb : s[k].toNat < 256 := s[k].toNat_lt
      clear HS HD hop
      cases hst : t.stream with
      | true =>
        have HT : Hid (t.stream = true) := hst
        rw [hst] at x0
        clear hst
        go_wp2_with fail
        refine (eatS_calls b H S t wr r (es0 ++ es) (P + k) s[k].toNat HA.out.1 ok hact HI.out.1 (by omega) (by have := HI.out.2; omega) hb HT.out).mono ?_
        rintro e w1 ⟨rfl, v1, c1, k1⟩
        have C1 : Hid (Cv H b S t w1 (r.eat t s[k].toNat).1 v1 ((es0 ++ es) ++ (r.eat t s[k].toNat).2) ∧ Keep H b wr w1) := ⟨c1, k1⟩
        clear c1 k1
        go_wp2_with fail
        go_roundg (s.size - (k + 1))
        case measure => rw [HA.out.2.2]; omega
        case rel => exact ⟨k + 1, v1, rfl, by omega, by go_num, by rw [HS2.out]; rw [List.append_assoc] at C1; exact C1.out.1, HA.out.2.1.trans C1.out.2⟩
      | false =>
        have HT : Hid (t.stream = false) := hst
        rw [hst] at x0
        clear hst
        go_wp2_with fail
        refine (eatO_calls b H S t wr r (es0 ++ es) (P + k) (C + k) s[k].toNat HA.out.1 ok hact HI.out.1 (by omega) HI.out.2 (by omega) hb HT.out).mono ?_
        rintro e w1 ⟨rfl, v1, c1, k1⟩
        have C1 : Hid (Cv H b S t w1 (r.eat t s[k].toNat).1 v1 ((es0 ++ es) ++ (r.eat t s[k].toNat).2) ∧ Keep H b wr w1) := ⟨c1, k1⟩
        clear c1 k1
        go_wp2_with fail
        go_roundg (s.size - (k + 1))
        case measure => rw [HA.out.2.2]; omega
        case rel => exact ⟨k + 1, v1, rfl, by omega, by go_num, by rw [HS2.out]; rw [List.append_assoc] at C1; exact C1.out.1, HA.out.2.1.trans C1.out.2⟩
    · have HE : Hid (Rs.feed t (nats s) r0 = (r, es)) := (HD.out hcond).symm
      obtain ⟨ao, cap, hv⟩ := own_form HA.out.1.own
      have HV : Hid (v = .slice ao (es0 ++ es).length cap) := hv
      clear hv HS HD
      have fin : ∀ wz, Cv H b S t wz r v (es0 ++ es) → Keep H b w wz → Calls Try.prog 33 #[.pointer (some ⟨b, 0, none⟩)] wz fun e w' =>
          ∃ v, e = .returned v ∧ RunAt w' b (Rs.feed t (nats s) r0).1 (.slice none 0 0) ∧ w'.ownsRow H 105 6 v (es0 ++ (Rs.feed t (nats s) r0).2).length (evsCells (es0 ++ (Rs.feed t (nats s) r0).2)) ∧ Keep H b w w' := by
        intro wz hC hk
        rw [HV.out] at hC
        refine (answer_calls b wz r ao _ cap hC.run).mono ?_
        rintro e w2 ⟨rfl, hR, hk2⟩
        rw [HE.out]
        exact ⟨_, rfl, hR, own_held hC.own hk2 hC.bH, hk.trans (hk2 H)⟩
      by_cases hlt : k < s.size
      · have hop : r.opn = false := by
          cases h : r.opn with
          | false => rfl
          | true => exact absurd ⟨hlt, h⟩ hcond
        rw [hop] at y1
        have HR : Hid (Calls Try.prog 33 #[.pointer (some ⟨b, 0, none⟩)] wr _) := fin wr HA.out.1 HA.out.2.1
        clear hop hcond fin
        go_wp2_with fail
        refine HK.out _ _ ?_
        clear HK
        go_wp2_with fail
        refine HR.out.mono ?_
        rintro e w2 ⟨v2, rfl, h2⟩
        have H2 : Hid _ := h2
        clear h2
        go_wp2_with fail
        go_ret
        exact ⟨v2, rfl, H2.out⟩
      · have HR : Hid (Calls Try.prog 33 #[.pointer (some ⟨b, 0, none⟩)] wr _) := fin wr HA.out.1 HA.out.2.1
        clear hcond fin
        go_wp2_with fail
        refine HK.out _ _ ?_
        clear HK
        go_wp2_with fail
        refine HR.out.mono ?_
        rintro e w2 ⟨v2, rfl, h2⟩
        have H2 : Hid _ := h2
        clear h2
        go_wp2_with fail
        go_ret
        exact ⟨v2, rfl, H2.out⟩

/-- What a run that is open tells at its end. -/
theorem shutS_calls (b H : Nat) (S : Nat → Prop) (t : Tb) (w : World) (r : Rs) {v0 : Value} (es : List Ev) (P : Nat) (hC : Cv H b S t w r v0 es) (ok : t.Ok) (hact : ∀ i, i < t.nrule → t.act i < 4) (hG : r.Good t P) (hP : P < 1073741824) (hn : es.length + r.count < 4194304) (hs : t.stream = true) (ho : r.opn = true) :
    Calls Try.prog 34 #[.pointer (some ⟨b, 0, none⟩)] w fun e w' =>
      e = .returned (.tuple #[]) ∧ ∃ v, Cv H b S t w' (r.shut t).1 v (es ++ (r.shut t).2) ∧ Keep H b w w' := by
  have h := hG.str hs
  have h1 := h.pos
  have h2 := h.line
  have h3 := h.col
  have h4 := h.cnt
  have h5 := ok.ahead
  have e : r.shut t = r.closed t := by unfold Rs.shut; rw [if_pos ho, if_pos hs]
  rw [e]
  exact closeStream_calls b H S t w r es hC hn ok hact ⟨h.ok, h.ahead, by omega, by omega, by omega⟩
theorem shutO_calls (b H : Nat) (S : Nat → Prop) (t : Tb) (w : World) (r : Rs) {v0 : Value} (es : List Ev) (P : Nat) (hC : Cv H b S t w r v0 es) (ok : t.Ok) (hact : ∀ i, i < t.nrule → t.act i < 4) (hG : r.Good t P) (hP : P < 1073741824) (hn : es.length + r.count < 4194304) (hs : t.stream = false) (ho : r.opn = true) :
    Calls Try.prog 35 #[.pointer (some ⟨b, 0, none⟩)] w fun e w' =>
      e = .returned (.tuple #[]) ∧ ∃ v, Cv H b S t w' (r.shut t).1 v (es ++ (r.shut t).2) ∧ Keep H b w w' := by
  have e : r.shut t = r.closeO t := by unfold Rs.shut; rw [if_pos ho, if_neg (by rw [hs]; decide)]
  rw [e]
  have o1 : opnN r.opn ≤ 1 := by unfold opnN; split <;> omega
  exact closeO_calls b H S t w r es P 4194304 hC ok hact (hG.oth hs) (by omega) (by omega) (by omega)

set_option maxHeartbeats 4000000 in
set_option maxRecDepth 100000 in
theorem runClose_calls (b H : Nat) (S : Nat → Prop) (t : Tb) (w : World) (r : Rs) (P : Nat) (hC : Cv H b S t w r (.slice none 0 0) []) (ok : t.Ok) (hact : ∀ i, i < t.nrule → t.act i < 4) (hG : r.Good t P) (hP : P < 1073741824) :
    Calls Try.prog 18 #[.pointer (some ⟨b, 0, none⟩)] w fun e w' =>
      ∃ v, e = .returned v ∧ RunAt w' b (r.shut t).1 (.slice none 0 0) ∧ w'.ownsRow H 105 6 v (r.shut t).2.length (evsCells (r.shut t).2) ∧ Keep H b w w' := by
  have HC : Hid (Cv H b S t w r (.slice none 0 0) []) := hC
  have y1 : w.cell? ⟨b, 1, none⟩ = some (.bool r.opn) := hC.run.get_opn
  have y0 : w.cell? ⟨b, 0, none⟩ = some (.pointer (some ⟨r.tp, 0, none⟩)) := hC.run.get_tp
  have x0 : w.cell? ⟨r.tp, 0, none⟩ = some (.bool t.stream) := hC.tab.c0
  have hcn := hG.ok.count
  have fin : ∀ wz v, Cv H b S t wz (r.shut t).1 v ([] ++ (r.shut t).2) → Keep H b w wz → Calls Try.prog 33 #[.pointer (some ⟨b, 0, none⟩)] wz fun e w' =>
      ∃ v, e = .returned v ∧ RunAt w' b (r.shut t).1 (.slice none 0 0) ∧ w'.ownsRow H 105 6 v (r.shut t).2.length (evsCells (r.shut t).2) ∧ Keep H b w w' := by
    intro wz v hC hk
    obtain ⟨ao, cap, hv⟩ := own_form hC.own
    rw [hv] at hC
    refine (answer_calls b wz _ ao _ cap hC.run).mono ?_
    rintro e w2 ⟨rfl, hR, hk2⟩
    exact ⟨_, rfl, hR, own_held hC.own hk2 hC.bH, hk.trans (hk2 H)⟩
  clear hC
  cases ho : r.opn with
  | false =>
    have HO : Hid (r.shut t = (r, [])) := by show _ = _; unfold Rs.shut; rw [if_neg (by rw [ho]; decide)]
    rw [ho] at y1
    clear ho fin
    go_enter Try.func18, Try.ntmps18
    go_wp2_with fail
    go_ret
    refine ⟨_, rfl, ?_⟩
    rw [HO.out]
    exact ⟨HC.out.run, World.ownsRow_nil _ _ _ _, Keep.refl _ _ _⟩
  | true =>
    have HO : Hid (r.opn = true) := ho
    rw [ho] at y1
    clear ho
    cases hs : t.stream with
    | true =>
      have HR : Hid (Calls Try.prog 34 #[.pointer (some ⟨b, 0, none⟩)] w _) := shutS_calls b H S t w r [] P HC.out ok hact hG hP (by show 0 + r.count < 4194304; omega) hs HO.out
      have HN : Hid (∀ wz v, Cv H b S t wz (r.shut t).1 v ([] ++ (r.shut t).2) → Keep H b w wz → _) := fin
      rw [hs] at x0
      clear hs fin hG
      go_enter Try.func18, Try.ntmps18
      go_wp2_with fail
      refine HR.out.mono ?_
      rintro e w1 ⟨rfl, v1, c1, k1⟩
      have HM := HN.out w1 v1 c1 k1
      have HM2 : Hid (Calls Try.prog 33 #[.pointer (some ⟨b, 0, none⟩)] w1 _) := HM
      clear HM c1 k1 HN HR
      go_wp2_with fail
      refine HM2.out.mono ?_
      rintro e w2 ⟨v2, rfl, h2⟩
      have H2 : Hid _ := h2
      clear h2
      go_wp2_with fail
      go_ret
      exact ⟨v2, rfl, H2.out⟩
    | false =>
      have HR : Hid (Calls Try.prog 35 #[.pointer (some ⟨b, 0, none⟩)] w _) := shutO_calls b H S t w r [] P HC.out ok hact hG hP (by show 0 + r.count < 4194304; omega) hs HO.out
      have HN : Hid (∀ wz v, Cv H b S t wz (r.shut t).1 v ([] ++ (r.shut t).2) → Keep H b w wz → _) := fin
      rw [hs] at x0
      clear hs fin hG
      go_enter Try.func18, Try.ntmps18
      go_wp2_with fail
      refine HR.out.mono ?_
      rintro e w1 ⟨rfl, v1, c1, k1⟩
      have HM := HN.out w1 v1 c1 k1
      have HM2 : Hid (Calls Try.prog 33 #[.pointer (some ⟨b, 0, none⟩)] w1 _) := HM
      clear HM c1 k1 HN HR
      go_wp2_with fail
      refine HM2.out.mono ?_
      rintro e w2 ⟨v2, rfl, h2⟩
      have H2 : Hid _ := h2
      clear h2
      go_wp2_with fail
      go_ret
      exact ⟨v2, rfl, H2.out⟩
end Go.Proofs.Yteflpladkmihdaa
