/- lexerref.Valid: the walk, from a statement on. -/
import Derived.Test.YteflpladkmihdaaValL
import Derived.Deep.DeepCutAuto
set_option linter.unusedVariables false
set_option linter.unusedSimpArgs false
namespace Go.Proofs.Yteflpladkmihdaa
open Go.RowKit

set_option maxHeartbeats 4000000 in
set_option maxRecDepth 100000 in
theorem valid_from14 (s : ByteArray) (w : World) (stream ahead hold modes rules states kinds : Nat) (z0 : s.size ≤ 1048576) (h17 : 17 ≤ s.size) (ha : ahead < 256) (hst : stream < 256) (hho : hold < 256) (b5 : modes < 65536) (b7 : rules < 65536) (b9 : states < 65536) (b11 : kinds < 65536) (res : Bool)
    (Hres : Hid (res = (headB stream hold modes rules states kinds && (decide ((waysTo kinds ahead) ≤ 3000) && (decide (stream ≠ 0) || decide (ahead = 0)) && (decide (13 + 2 * modes + 2 * rules + 256 + 2 * (states * kinds) + states + (((waysTo kinds ahead) * states) + 7) / 8 = s.size - 4) && ((((((okModes s states modes && okRules s (13 + 2 * modes) modes rules) && okKinds s (13 + 2 * modes + 2 * rules) 256) && decide (metTo s (13 + 2 * modes + 2 * rules) 256 = kinds)) && okNext s (13 + 2 * modes + 2 * rules + 256) states (states * kinds)) && okEnds s (13 + 2 * modes + 2 * rules + 256 + 2 * (states * kinds)) rules states) && (decide (((waysTo kinds ahead) * states) % 8 = 0) || decide (byt s (13 + 2 * modes + 2 * rules + 256 + 2 * (states * kinds) + states + (((waysTo kinds ahead) * states) + 7) / 8 - 1) / 2 ^ (((waysTo kinds ahead) * states) % 8) = 0))))))))
    {u1 u2 u4 u12 u13 u14 u15 u16 u17 u18 u19 u20 u21 u22 u23 u24 u25 u26 u27 u28 u29 u30 u31 u32 u33 u34 u35 u36 u37 u38 u39 u40 u41 u42 u43 u44 u45 u46 u47 u48 u49 u50 u51 u52 u53 u54 u55 u56 u57 u58 u59 u60 u61 u62 u63 u64 u65 u66 u67 u68 u69 u70 u71 u72 u73 u74 u75 u76 u77 u78 u79 u80 u81 u82 u83 u84 u85 u86 u87 u88 u89 u90 u91 u92 u93 u94 u95 u96 u97 u98 u99 u100 u101 u102 u103 u104 u105 u106 u107 u108 u109 u110 u111 u112 u113 u114 u115 u116 u117 u118 u119 u120 u121 u122 u123 u124 u125 u126 u127 u128 u129 u130 u131 u132 u133 u134 u135 u136 u137 u138 u139 u140 u141 u142 u143 u144 u145 u146 u147 u148 u149 u150 u151 u152 u153 u154 u155 u156 u157 u158 u159 u160 u161 u162 u163 u164 u165 u166 u167 u168 u169 u170 u171 u172 u173 u174 u175 u176 u177 u178 u179 u180 u181 u182 u183 u184 u185 u186 u187 u188 u189 u190 u191 u192 u193 u194 u195 u196 u197 u198 u199 u200 u201 u202 u203 u204 u205 u206 u207 u208 u209 u210 u211 u212 u213 u214 u215 u216 u217 u218 u219 u220 u221 u222 u223 u224 u225 u226 u227 u228 u229 u230 u231 u232 u233 u234 u235 u236 u237 u238 u239 u240 u241 u242 u243 u244 u245 u246 u247 u248 u249 u250 u251 u252 u253 u254 u255 u256 u257 u258 u259 u260 u261 u262 u263 u264 u265 u266 u267 u268 u269 u270 u271 u272 u273 u274 u275 u276 u277 u278 u279 u280 u281 u282 u283 u284 u285 : Value} :
    Code.wp Try.prog (dropSeq 12 ((Try.f7.body).getD .skip)) (bodyPost Try.prog Try.f7 fun e w' => e = .returned (.bool res) ∧ w' = w)
      ⟨(.string s :: u1 :: u2 :: .int .i64 ((s.size : Int) - 4) :: u4 :: .int .i64 (stream : Int) :: .int .i64 (ahead : Int) :: .int .i64 (hold : Int) :: .int .i64 (modes : Int) :: .int .i64 (rules : Int) :: .int .i64 (states : Int) :: .int .i64 (kinds : Int) :: u12 :: u13 :: u14 :: u15 :: u16 :: u17 :: u18 :: u19 :: u20 :: u21 :: u22 :: u23 :: u24 :: u25 :: u26 :: u27 :: u28 :: u29 :: u30 :: u31 :: u32 :: u33 :: u34 :: u35 :: u36 :: u37 :: u38 :: u39 :: u40 :: u41 :: u42 :: u43 :: u44 :: u45 :: u46 :: u47 :: u48 :: u49 :: u50 :: u51 :: u52 :: u53 :: u54 :: u55 :: u56 :: u57 :: u58 :: u59 :: u60 :: u61 :: u62 :: u63 :: u64 :: u65 :: u66 :: u67 :: u68 :: u69 :: u70 :: u71 :: u72 :: u73 :: u74 :: u75 :: u76 :: u77 :: u78 :: u79 :: u80 :: u81 :: u82 :: u83 :: u84 :: u85 :: u86 :: u87 :: u88 :: u89 :: u90 :: u91 :: u92 :: u93 :: u94 :: u95 :: u96 :: u97 :: u98 :: u99 :: u100 :: u101 :: u102 :: u103 :: u104 :: u105 :: u106 :: u107 :: u108 :: u109 :: u110 :: u111 :: u112 :: u113 :: u114 :: u115 :: u116 :: u117 :: u118 :: u119 :: u120 :: u121 :: u122 :: u123 :: u124 :: u125 :: u126 :: u127 :: u128 :: u129 :: u130 :: u131 :: u132 :: u133 :: u134 :: u135 :: u136 :: u137 :: u138 :: u139 :: u140 :: u141 :: u142 :: u143 :: u144 :: u145 :: u146 :: u147 :: u148 :: u149 :: u150 :: u151 :: u152 :: u153 :: u154 :: u155 :: u156 :: u157 :: u158 :: u159 :: u160 :: u161 :: u162 :: u163 :: u164 :: u165 :: u166 :: u167 :: u168 :: u169 :: u170 :: u171 :: u172 :: u173 :: u174 :: u175 :: u176 :: u177 :: u178 :: u179 :: u180 :: u181 :: u182 :: u183 :: u184 :: u185 :: u186 :: u187 :: u188 :: u189 :: u190 :: u191 :: u192 :: u193 :: u194 :: u195 :: u196 :: u197 :: u198 :: u199 :: u200 :: u201 :: u202 :: u203 :: u204 :: u205 :: u206 :: u207 :: u208 :: u209 :: u210 :: u211 :: u212 :: u213 :: u214 :: u215 :: u216 :: u217 :: u218 :: u219 :: u220 :: u221 :: u222 :: u223 :: u224 :: u225 :: u226 :: u227 :: u228 :: u229 :: u230 :: u231 :: u232 :: u233 :: u234 :: u235 :: u236 :: u237 :: u238 :: u239 :: u240 :: u241 :: u242 :: u243 :: u244 :: u245 :: u246 :: u247 :: u248 :: u249 :: u250 :: u251 :: u252 :: u253 :: u254 :: u255 :: u256 :: u257 :: u258 :: u259 :: u260 :: u261 :: u262 :: u263 :: u264 :: u265 :: u266 :: u267 :: u268 :: u269 :: u270 :: u271 :: u272 :: u273 :: u274 :: u275 :: u276 :: u277 :: u278 :: u279 :: u280 :: u281 :: u282 :: u283 :: u284 :: u285 :: []).toArray, []⟩ w := by
  conv => arg 2; whnf
  by_cases hh : headB stream hold modes rules states kinds = true
  · have Hh : Hid (headB stream hold modes rules states kinds = true) := hh
    obtain ⟨g1, g2, g3, g4, g5, g6, g7, g8, g9, g10, g11⟩ : 0 < modes ∧ modes ≤ 3 ∧ 0 < rules ∧ rules ≤ 8 ∧ 0 < states ∧ states ≤ 200 ∧ 1 ≤ kinds ∧ kinds ≤ 256 ∧ stream ≤ 1 ∧ 1 ≤ hold ∧ hold ≤ 64 := by
      simpa [headB] using hh
    clear hh
    refine wp_seq_k ?_
    intro K hK
    have H12 : Hid (∀ a w, _ → K a w) := hK
    clear hK
    go_wp2_with fail
    refine H12.out _ _ ?_
    clear H12
    refine wp_seq_k ?_
    intro K hK
    have H13 : Hid (∀ a w, _ → K a w) := hK
    clear hK
    go_wp2_with fail
    refine H13.out _ _ ?_
    clear H13
    exact valid_from17 s _ stream ahead modes rules states kinds g2 g4 g6 g7 g8 z0 h17 ha res (Hres.out.trans (by rw [Hh.out]; rfl))
  · have Hh : Hid (headB stream hold modes rules states kinds = false) := by show _ = false; simpa using hh
    clear hh
    have hr : Hid (res = false) := by show res = false; rw [Hres.out, Hh.out]; rfl
    go_wp2_with fail
    all_goals first
      | (go_ret; exact ⟨ret_bool hr.out.symm, rfl⟩)
      | (exfalso; have h := Hh.out; simp [headB] at h; omega)

end Go.Proofs.Yteflpladkmihdaa

/- lexerref.Valid: the walk, from a statement on. -/
namespace Go.Proofs.Yteflpladkmihdaa
open Go.RowKit

theorem valid_flat (s : ByteArray) (h17 : 17 ≤ s.size) (hLX : ((s.extract 0 2).toList == [76, 88]) = true) (hsum : (sumB (s.extract 0 (s.size - 4)) == bigB (s.extract (s.size - 4) s.size)) = true)
    (stream ahead hold modes rules states kinds : Nat) (e2 : byt s 2 = stream) (e3 : byt s 3 = ahead) (e4 : byt s 4 = hold) (e5 : b2 s 5 = modes) (e7 : b2 s 7 = rules) (e9 : b2 s 9 = states) (e11 : b2 s 11 = kinds) :
    validB s = (headB stream hold modes rules states kinds && (decide ((waysTo kinds ahead) ≤ 3000) && (decide (stream ≠ 0) || decide (ahead = 0)) && (decide (13 + 2 * modes + 2 * rules + 256 + 2 * (states * kinds) + states + (((waysTo kinds ahead) * states) + 7) / 8 = s.size - 4) && ((((((okModes s states modes && okRules s (13 + 2 * modes) modes rules) && okKinds s (13 + 2 * modes + 2 * rules) 256) && decide (metTo s (13 + 2 * modes + 2 * rules) 256 = kinds)) && okNext s (13 + 2 * modes + 2 * rules + 256) states (states * kinds)) && okEnds s (13 + 2 * modes + 2 * rules + 256 + 2 * (states * kinds)) rules states) && (decide (((waysTo kinds ahead) * states) % 8 = 0) || decide (byt s (13 + 2 * modes + 2 * rules + 256 + 2 * (states * kinds) + states + (((waysTo kinds ahead) * states) + 7) / 8 - 1) / 2 ^ (((waysTo kinds ahead) * states) % 8) = 0)))))) := by
  subst e2 e3 e4 e5 e7 e9 e11
  unfold validB bodyOk sizeOf_
  rw [decide_eq_true h17, hLX, hsum]
  simp only [Bool.true_and, Nat.mul_assoc, Bool.and_assoc]

set_option maxHeartbeats 4000000 in
set_option maxRecDepth 100000 in
theorem valid_sure (s : ByteArray) (w : World) (hs : s.size ≤ 1048576) (h17 : 17 ≤ s.size) (hLX : (!(s.extract 0 2).toList == [76, 88]) = false)
    (HS : Hid (((sumB (s.extract 0 (s.size - 4)) : Int) != (bigB (s.extract (s.size - 4) s.size) : Int)) = false)) :
    Calls Try.prog 7 #[.string s] w fun e w' => e = .returned (.bool (validB s)) ∧ w' = w := by
  have q2 : (s[2]'(by omega)).toNat < 256 := UInt8.toNat_lt _
  have q3 : (s[3]'(by omega)).toNat < 256 := UInt8.toNat_lt _
  have q4 : (s[4]'(by omega)).toNat < 256 := UInt8.toNat_lt _
  have HS2 : Hid ((sumB (s.extract 0 (s.size - 4)) == bigB (s.extract (s.size - 4) s.size)) = true) := by have h := HS.out; rw [bne_eq_false_iff_eq] at h; show _ = true; rw [beq_iff_eq]; omega
  have HL2 : Hid (((s.extract 0 2).toList == [76, 88]) = true) := by show _ = true; simpa using hLX
  go_enter Try.func7, Try.ntmps7
  refine wp_seq_k ?_
  intro K hK
  have H0 : Hid (∀ a w, _ → K a w) := hK
  clear hK
  go_wp2_with fail
  refine H0.out _ _ ?_
  clear H0
  refine wp_seq_k ?_
  intro K hK
  have H1 : Hid (∀ a w, _ → K a w) := hK
  clear hK
  go_wp2_with fail
  refine H1.out _ _ ?_
  clear H1
  refine wp_seq_k ?_
  intro K hK
  have H2 : Hid (∀ a w, _ → K a w) := hK
  clear hK
  go_wp2_with fail
  refine H2.out _ _ ?_
  clear H2
  refine wp_seq_k ?_
  intro K hK
  have H3 : Hid (∀ a w, _ → K a w) := hK
  clear hK
  go_wp2_with fail
  refine (sum_calls _ _ (by simp; omega)).mono ?_
  rintro e w' ⟨rfl, rfl⟩
  go_wp2_with fail
  refine H3.out _ _ ?_
  clear H3
  refine wp_seq_k ?_
  intro K hK
  have H4 : Hid (∀ a w, _ → K a w) := hK
  clear hK
  go_wp2_with fail
  refine (big_calls _ _ (by simp; omega)).mono ?_
  rintro e w' ⟨rfl, rfl⟩
  have HS' := HS.out
  go_wp2_with fail
  clear HS HS'
  refine H4.out _ _ ?_
  clear H4
  refine wp_seq_k ?_
  intro K hK
  have H5 : Hid (∀ a w, _ → K a w) := hK
  clear hK
  go_wp2_with fail
  refine H5.out _ _ ?_
  clear H5
  refine wp_seq_k ?_
  intro K hK
  have H6 : Hid (∀ a w, _ → K a w) := hK
  clear hK
  go_wp2_with fail
  refine H6.out _ _ ?_
  clear H6
  refine wp_seq_k ?_
  intro K hK
  have H7 : Hid (∀ a w, _ → K a w) := hK
  clear hK
  go_wp2_with fail
  refine H7.out _ _ ?_
  clear H7
  refine wp_seq_k ?_
  intro K hK
  have H8 : Hid (∀ a w, _ → K a w) := hK
  clear hK
  go_wp2_with fail
  have b5 := b2_lt s 5
  refine (big_calls _ _ (by simp; omega)).mono ?_
  rintro e w' ⟨rfl, rfl⟩
  rw [show bigB (s.extract 5 7) = b2 s 5 from rfl]
  generalize hmodes0 : b2 s 5 = modes at *
  have Hmodes : Hid (b2 s 5 = modes) := hmodes0
  clear hmodes0
  go_wp2_with fail
  refine H8.out _ _ ?_
  clear H8
  refine wp_seq_k ?_
  intro K hK
  have H9 : Hid (∀ a w, _ → K a w) := hK
  clear hK
  go_wp2_with fail
  have b7 := b2_lt s 7
  refine (big_calls _ _ (by simp; omega)).mono ?_
  rintro e w' ⟨rfl, rfl⟩
  rw [show bigB (s.extract 7 9) = b2 s 7 from rfl]
  generalize hrules0 : b2 s 7 = rules at *
  have Hrules : Hid (b2 s 7 = rules) := hrules0
  clear hrules0
  go_wp2_with fail
  refine H9.out _ _ ?_
  clear H9
  refine wp_seq_k ?_
  intro K hK
  have H10 : Hid (∀ a w, _ → K a w) := hK
  clear hK
  go_wp2_with fail
  have b9 := b2_lt s 9
  refine (big_calls _ _ (by simp; omega)).mono ?_
  rintro e w' ⟨rfl, rfl⟩
  rw [show bigB (s.extract 9 11) = b2 s 9 from rfl]
  generalize hstates0 : b2 s 9 = states at *
  have Hstates : Hid (b2 s 9 = states) := hstates0
  clear hstates0
  go_wp2_with fail
  refine H10.out _ _ ?_
  clear H10
  refine wp_seq_k ?_
  intro K hK
  have H11 : Hid (∀ a w, _ → K a w) := hK
  clear hK
  go_wp2_with fail
  have b11 := b2_lt s 11
  refine (big_calls _ _ (by simp; omega)).mono ?_
  rintro e w' ⟨rfl, rfl⟩
  rw [show bigB (s.extract 11 13) = b2 s 11 from rfl]
  generalize hkinds0 : b2 s 11 = kinds at *
  have Hkinds : Hid (b2 s 11 = kinds) := hkinds0
  clear hkinds0
  go_wp2_with fail
  refine H11.out _ _ ?_
  clear H11
  rw [byt_eq s 2 (by omega), byt_eq s 3 (by omega), byt_eq s 4 (by omega)] at *
  exact valid_from14 s _ (byt s 2) (byt s 3) (byt s 4) modes rules states kinds hs h17 q3 q2 q4 b5 b7 b9 b11 _ (valid_flat s h17 HL2.out HS2.out _ _ _ _ _ _ _ rfl rfl rfl Hmodes.out Hrules.out Hstates.out Hkinds.out)

set_option maxHeartbeats 1000000 in
set_option maxRecDepth 100000 in
theorem valid_short (s : ByteArray) (w : World) (h17 : s.size < 17) :
    Calls Try.prog 7 #[.string s] w fun e w' => e = .returned (.bool false) ∧ w' = w := by
  go_enter Try.func7, Try.ntmps7
  go_wp2_with fail
  all_goals (go_ret; exact ⟨rfl, rfl⟩)

set_option maxHeartbeats 1000000 in
set_option maxRecDepth 100000 in
theorem valid_noLX (s : ByteArray) (w : World) (hs : s.size ≤ 1048576) (h17 : 17 ≤ s.size) (hLX : (!(s.extract 0 2).toList == [76, 88]) = true) :
    Calls Try.prog 7 #[.string s] w fun e w' => e = .returned (.bool false) ∧ w' = w := by
  go_enter Try.func7, Try.ntmps7
  go_wp2_with fail
  all_goals (go_ret; exact ⟨rfl, rfl⟩)

set_option maxHeartbeats 1000000 in
set_option maxRecDepth 100000 in
theorem valid_noSum (s : ByteArray) (w : World) (hs : s.size ≤ 1048576) (h17 : 17 ≤ s.size) (hLX : (!(s.extract 0 2).toList == [76, 88]) = false)
    (HS : Hid (((sumB (s.extract 0 (s.size - 4)) : Int) != (bigB (s.extract (s.size - 4) s.size) : Int)) = true)) :
    Calls Try.prog 7 #[.string s] w fun e w' => e = .returned (.bool false) ∧ w' = w := by
  go_enter Try.func7, Try.ntmps7
  go_wp2_with fail
  refine (sum_calls _ _ (by simp; omega)).mono ?_
  rintro e w' ⟨rfl, rfl⟩
  go_wp2_with fail
  refine (big_calls _ _ (by simp; omega)).mono ?_
  rintro e w' ⟨rfl, rfl⟩
  have HS' := HS.out
  go_wp2_with fail
  go_ret
  exact ⟨rfl, rfl⟩

/-- lexerref.Valid answers validB. -/
theorem valid_calls (s : ByteArray) (w : World) (hs : s.size ≤ 1048576) :
    Calls Try.prog 7 #[.string s] w fun e w' => e = .returned (.bool (validB s)) ∧ w' = w := by
  by_cases h17 : 17 ≤ s.size
  · by_cases hLX : ((s.extract 0 2).toList == [76, 88]) = true
    · have hL : (!(s.extract 0 2).toList == [76, 88]) = false := by rw [hLX]; rfl
      by_cases hsum : sumB (s.extract 0 (s.size - 4)) = bigB (s.extract (s.size - 4) s.size)
      · exact valid_sure s w hs h17 hL (by show _ = false; rw [bne_eq_false_iff_eq, hsum])
      · have e : validB s = false := by
          unfold validB
          rw [show (sumB (s.extract 0 (s.size - 4)) == bigB (s.extract (s.size - 4) s.size)) = false from beq_eq_false_iff_ne.2 hsum]
          simp
        rw [e]
        exact valid_noSum s w hs h17 hL (by show _ = true; rw [bne_iff_ne]; omega)
    · have hL : ((s.extract 0 2).toList == [76, 88]) = false := by simpa using hLX
      have e : validB s = false := by
        unfold validB
        rw [hL]
        simp
      rw [e]
      exact valid_noLX s w hs h17 (by rw [hL]; rfl)
  · have e : validB s = false := by
      unfold validB
      rw [decide_eq_false h17]
      rfl
    rw [e]
    exact valid_short s w (by omega)

end Go.Proofs.Yteflpladkmihdaa
