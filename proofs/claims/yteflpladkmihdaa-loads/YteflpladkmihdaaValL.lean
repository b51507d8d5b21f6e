/- lexerref.Valid: the walk, from a statement on. -/
import Derived.Test.YteflpladkmihdaaValK
import Derived.Deep.DeepCutAuto
set_option linter.unusedVariables false
set_option linter.unusedSimpArgs false
namespace Go.Proofs.Yteflpladkmihdaa
open Go.RowKit

set_option maxHeartbeats 2000000 in
set_option maxRecDepth 100000 in
theorem valid_from22 (s : ByteArray) (w : World) (stream ahead modes rules states kinds ways : Nat) (g2 : modes ≤ 3) (g4 : rules ≤ 8) (g6 : states ≤ 200) (g7 : 1 ≤ kinds) (g8 : kinds ≤ 256) (z0 : s.size ≤ 1048576) (h17 : 17 ≤ s.size) (hw1 : ways ≤ 771000) (ha : ahead < 256) (res : Bool)
    (Hres : Hid (res = (decide (ways ≤ 3000) && (decide (stream ≠ 0) || decide (ahead = 0)) && (decide (13 + 2 * modes + 2 * rules + 256 + 2 * (states * kinds) + states + ((ways * states) + 7) / 8 = s.size - 4) && ((((((okModes s states modes && okRules s (13 + 2 * modes) modes rules) && okKinds s (13 + 2 * modes + 2 * rules) 256) && decide (metTo s (13 + 2 * modes + 2 * rules) 256 = kinds)) && okNext s (13 + 2 * modes + 2 * rules + 256) states (states * kinds)) && okEnds s (13 + 2 * modes + 2 * rules + 256 + 2 * (states * kinds)) rules states) && (decide ((ways * states) % 8 = 0) || decide (byt s (13 + 2 * modes + 2 * rules + 256 + 2 * (states * kinds) + states + ((ways * states) + 7) / 8 - 1) / 2 ^ ((ways * states) % 8) = 0)))))))
    {u1 u2 u4 u7 u12 u14 u15 u16 u17 u18 u19 u20 u21 u22 u23 u24 u25 u26 u27 u28 u29 u30 u31 u32 u33 u34 u35 u36 u37 u38 u39 u40 u41 u42 u43 u44 u45 u46 u47 u48 u49 u50 u51 u52 u53 u54 u55 u56 u57 u58 u59 u60 u61 u62 u63 u64 u65 u66 u67 u68 u69 u70 u71 u72 u73 u74 u75 u76 u77 u78 u79 u80 u81 u82 u83 u84 u85 u86 u87 u88 u89 u90 u91 u92 u93 u94 u95 u96 u97 u98 u99 u100 u101 u102 u103 u104 u105 u106 u107 u108 u109 u110 u111 u112 u113 u114 u115 u116 u117 u118 u119 u120 u121 u122 u123 u124 u125 u126 u127 u128 u129 u130 u131 u132 u133 u134 u135 u136 u137 u138 u139 u140 u141 u142 u143 u144 u145 u146 u147 u148 u149 u150 u151 u152 u153 u154 u155 u156 u157 u158 u159 u160 u161 u162 u163 u164 u165 u166 u167 u168 u169 u170 u171 u172 u173 u174 u175 u176 u177 u178 u179 u180 u181 u182 u183 u184 u185 u186 u187 u188 u189 u190 u191 u192 u193 u194 u195 u196 u197 u198 u199 u200 u201 u202 u203 u204 u205 u206 u207 u208 u209 u210 u211 u212 u213 u214 u215 u216 u217 u218 u219 u220 u221 u222 u223 u224 u225 u226 u227 u228 u229 u230 u231 u232 u233 u234 u235 u236 u237 u238 u239 u240 u241 u242 u243 u244 u245 u246 u247 u248 u249 u250 u251 u252 u253 u254 u255 u256 u257 u258 u259 u260 u261 u262 u263 u264 u265 u266 u267 u268 u269 u270 u271 u272 u273 u274 u275 u276 u277 u278 u279 u280 u281 u282 u283 u284 u285 : Value} :
    Code.wp Try.prog (dropSeq 16 ((Try.f7.body).getD .skip)) (bodyPost Try.prog Try.f7 fun e w' => e = .returned (.bool res) ∧ w' = w)
      ⟨(.string s :: u1 :: u2 :: .int .i64 ((s.size : Int) - 4) :: u4 :: .int .i64 (stream : Int) :: .int .i64 (ahead : Int) :: u7 :: .int .i64 (modes : Int) :: .int .i64 (rules : Int) :: .int .i64 (states : Int) :: .int .i64 (kinds : Int) :: u12 :: .int .i64 (ways : Int) :: u14 :: u15 :: u16 :: u17 :: u18 :: u19 :: u20 :: u21 :: u22 :: u23 :: u24 :: u25 :: u26 :: u27 :: u28 :: u29 :: u30 :: u31 :: u32 :: u33 :: u34 :: u35 :: u36 :: u37 :: u38 :: u39 :: u40 :: u41 :: u42 :: u43 :: u44 :: u45 :: u46 :: u47 :: u48 :: u49 :: u50 :: u51 :: u52 :: u53 :: u54 :: u55 :: u56 :: u57 :: u58 :: u59 :: u60 :: u61 :: u62 :: u63 :: u64 :: u65 :: u66 :: u67 :: u68 :: u69 :: u70 :: u71 :: u72 :: u73 :: u74 :: u75 :: u76 :: u77 :: u78 :: u79 :: u80 :: u81 :: u82 :: u83 :: u84 :: u85 :: u86 :: u87 :: u88 :: u89 :: u90 :: u91 :: u92 :: u93 :: u94 :: u95 :: u96 :: u97 :: u98 :: u99 :: u100 :: u101 :: u102 :: u103 :: u104 :: u105 :: u106 :: u107 :: u108 :: u109 :: u110 :: u111 :: u112 :: u113 :: u114 :: u115 :: u116 :: u117 :: u118 :: u119 :: u120 :: u121 :: u122 :: u123 :: u124 :: u125 :: u126 :: u127 :: u128 :: u129 :: u130 :: u131 :: u132 :: u133 :: u134 :: u135 :: u136 :: u137 :: u138 :: u139 :: u140 :: u141 :: u142 :: u143 :: u144 :: u145 :: u146 :: u147 :: u148 :: u149 :: u150 :: u151 :: u152 :: u153 :: u154 :: u155 :: u156 :: u157 :: u158 :: u159 :: u160 :: u161 :: u162 :: u163 :: u164 :: u165 :: u166 :: u167 :: u168 :: u169 :: u170 :: u171 :: u172 :: u173 :: u174 :: u175 :: u176 :: u177 :: u178 :: u179 :: u180 :: u181 :: u182 :: u183 :: u184 :: u185 :: u186 :: u187 :: u188 :: u189 :: u190 :: u191 :: u192 :: u193 :: u194 :: u195 :: u196 :: u197 :: u198 :: u199 :: u200 :: u201 :: u202 :: u203 :: u204 :: u205 :: u206 :: u207 :: u208 :: u209 :: u210 :: u211 :: u212 :: u213 :: u214 :: u215 :: u216 :: u217 :: u218 :: u219 :: u220 :: u221 :: u222 :: u223 :: u224 :: u225 :: u226 :: u227 :: u228 :: u229 :: u230 :: u231 :: u232 :: u233 :: u234 :: u235 :: u236 :: u237 :: u238 :: u239 :: u240 :: u241 :: u242 :: u243 :: u244 :: u245 :: u246 :: u247 :: u248 :: u249 :: u250 :: u251 :: u252 :: u253 :: u254 :: u255 :: u256 :: u257 :: u258 :: u259 :: u260 :: u261 :: u262 :: u263 :: u264 :: u265 :: u266 :: u267 :: u268 :: u269 :: u270 :: u271 :: u272 :: u273 :: u274 :: u275 :: u276 :: u277 :: u278 :: u279 :: u280 :: u281 :: u282 :: u283 :: u284 :: u285 :: []).toArray, []⟩ w := by
  conv => arg 2; whnf
  refine wp_seq_k ?_
  intro K hK
  have HK : Hid (∀ a w, _ → K a w) := hK
  clear hK
  by_cases h1 : ways ≤ 3000
  · have hsk : states * kinds ≤ 51200 := Nat.le_trans (Nat.mul_le_mul g6 g8) (by decide)
    have hws : ways * states ≤ 600000 := Nat.le_trans (Nat.mul_le_mul h1 g6) (by decide)
    have H1 : Hid (ways ≤ 3000) := h1
    have hx2 : (ways : Int) ≤ 3000 := by omega
    by_cases hs0 : stream = 0
    · have hs1 : ((stream : Int) == 0) = true := by rw [beq_iff_eq]; omega
      by_cases ha0 : ahead = 0
      · have ha1 : (ahead : Int) ≤ 0 := by omega
        have H2 : Hid ((decide (stream ≠ 0) || decide (ahead = 0)) = true) := by show _ = true; rw [decide_eq_true ha0]; simp
        clear hs0 ha0
        go_wp2_with fail
        refine HK.out _ _ (valid_from24 s _ modes rules states kinds (states * kinds) (ways * states) ways g2 g4 g6 g7 g8 hsk hws z0 h17 rfl (Nat.mul_assoc 2 states kinds) res ?_)
        rw [Hres.out, decide_eq_true H1.out, H2.out]
        rfl
      · have ha1 : (0 : Int) < (ahead : Int) := by omega
        have H2 : Hid ((decide (stream ≠ 0) || decide (ahead = 0)) = false) := by show _ = false; rw [decide_eq_false ha0, decide_eq_false (by omega)]; rfl
        clear hs0 ha0
        go_wp2_with fail
        go_ret
        exact ⟨ret_bool (by rw [Hres.out, decide_eq_true H1.out, H2.out]; rfl), rfl⟩
    · have hs1 : ((stream : Int) == 0) = false := by rw [beq_eq_false_iff_ne]; omega
      have H2 : Hid ((decide (stream ≠ 0) || decide (ahead = 0)) = true) := by show _ = true; rw [decide_eq_true hs0]; rfl
      clear hs0
      go_wp2_with fail
      refine HK.out _ _ (valid_from24 s _ modes rules states kinds (states * kinds) (ways * states) ways g2 g4 g6 g7 g8 hsk hws z0 h17 rfl (Nat.mul_assoc 2 states kinds) res ?_)
      rw [Hres.out, decide_eq_true H1.out, H2.out]
      rfl
  · have hx2 : (3000 : Int) < (ways : Int) := by omega
    go_wp2_with fail
    go_ret
    exact ⟨ret_bool (by rw [Hres.out, decide_eq_false h1]; rfl), rfl⟩

set_option maxHeartbeats 2000000 in
set_option maxRecDepth 100000 in
theorem valid_from18 (s : ByteArray) (w : World) (stream ahead modes rules states kinds : Nat) (g2 : modes ≤ 3) (g4 : rules ≤ 8) (g6 : states ≤ 200) (g7 : 1 ≤ kinds) (g8 : kinds ≤ 256) (z0 : s.size ≤ 1048576) (h17 : 17 ≤ s.size) (ha : ahead < 256) (res : Bool)
    (Hres : Hid (res = (decide ((waysTo kinds ahead) ≤ 3000) && (decide (stream ≠ 0) || decide (ahead = 0)) && (decide (13 + 2 * modes + 2 * rules + 256 + 2 * (states * kinds) + states + (((waysTo kinds ahead) * states) + 7) / 8 = s.size - 4) && ((((((okModes s states modes && okRules s (13 + 2 * modes) modes rules) && okKinds s (13 + 2 * modes + 2 * rules) 256) && decide (metTo s (13 + 2 * modes + 2 * rules) 256 = kinds)) && okNext s (13 + 2 * modes + 2 * rules + 256) states (states * kinds)) && okEnds s (13 + 2 * modes + 2 * rules + 256 + 2 * (states * kinds)) rules states) && (decide (((waysTo kinds ahead) * states) % 8 = 0) || decide (byt s (13 + 2 * modes + 2 * rules + 256 + 2 * (states * kinds) + states + (((waysTo kinds ahead) * states) + 7) / 8 - 1) / 2 ^ (((waysTo kinds ahead) * states) % 8) = 0)))))))
    {u1 u2 u4 u7 u12 u14 u15 u16 u17 u18 u19 u20 u21 u22 u23 u24 u25 u26 u27 u28 u29 u30 u31 u32 u33 u34 u35 u36 u37 u38 u39 u40 u41 u42 u43 u44 u45 u46 u47 u48 u49 u50 u51 u52 u53 u54 u55 u56 u57 u58 u59 u60 u61 u62 u63 u64 u65 u66 u67 u68 u69 u70 u71 u72 u73 u74 u75 u76 u77 u78 u79 u80 u81 u82 u83 u84 u85 u86 u87 u88 u89 u90 u91 u92 u93 u94 u95 u96 u97 u98 u99 u100 u101 u102 u103 u104 u105 u106 u107 u108 u109 u110 u111 u112 u113 u114 u115 u116 u117 u118 u119 u120 u121 u122 u123 u124 u125 u126 u127 u128 u129 u130 u131 u132 u133 u134 u135 u136 u137 u138 u139 u140 u141 u142 u143 u144 u145 u146 u147 u148 u149 u150 u151 u152 u153 u154 u155 u156 u157 u158 u159 u160 u161 u162 u163 u164 u165 u166 u167 u168 u169 u170 u171 u172 u173 u174 u175 u176 u177 u178 u179 u180 u181 u182 u183 u184 u185 u186 u187 u188 u189 u190 u191 u192 u193 u194 u195 u196 u197 u198 u199 u200 u201 u202 u203 u204 u205 u206 u207 u208 u209 u210 u211 u212 u213 u214 u215 u216 u217 u218 u219 u220 u221 u222 u223 u224 u225 u226 u227 u228 u229 u230 u231 u232 u233 u234 u235 u236 u237 u238 u239 u240 u241 u242 u243 u244 u245 u246 u247 u248 u249 u250 u251 u252 u253 u254 u255 u256 u257 u258 u259 u260 u261 u262 u263 u264 u265 u266 u267 u268 u269 u270 u271 u272 u273 u274 u275 u276 u277 u278 u279 u280 u281 u282 u283 u284 u285 : Value} :
    Code.wp Try.prog (dropSeq 15 ((Try.f7.body).getD .skip)) (bodyPost Try.prog Try.f7 fun e w' => e = .returned (.bool res) ∧ w' = w)
      ⟨(.string s :: u1 :: u2 :: .int .i64 ((s.size : Int) - 4) :: u4 :: .int .i64 (stream : Int) :: .int .i64 (ahead : Int) :: u7 :: .int .i64 (modes : Int) :: .int .i64 (rules : Int) :: .int .i64 (states : Int) :: .int .i64 (kinds : Int) :: u12 :: .int .i64 1 :: u14 :: u15 :: u16 :: u17 :: u18 :: u19 :: u20 :: u21 :: u22 :: u23 :: u24 :: u25 :: u26 :: u27 :: u28 :: u29 :: u30 :: u31 :: u32 :: u33 :: u34 :: u35 :: u36 :: u37 :: u38 :: u39 :: u40 :: u41 :: u42 :: u43 :: u44 :: u45 :: u46 :: u47 :: u48 :: u49 :: u50 :: u51 :: u52 :: u53 :: u54 :: u55 :: u56 :: u57 :: u58 :: u59 :: u60 :: u61 :: u62 :: u63 :: u64 :: u65 :: u66 :: u67 :: u68 :: u69 :: u70 :: u71 :: u72 :: u73 :: u74 :: u75 :: u76 :: u77 :: u78 :: u79 :: u80 :: u81 :: u82 :: u83 :: u84 :: u85 :: u86 :: u87 :: u88 :: u89 :: u90 :: u91 :: u92 :: u93 :: u94 :: u95 :: u96 :: u97 :: u98 :: u99 :: u100 :: u101 :: u102 :: u103 :: u104 :: u105 :: u106 :: u107 :: u108 :: u109 :: u110 :: u111 :: u112 :: u113 :: u114 :: u115 :: u116 :: u117 :: u118 :: u119 :: u120 :: u121 :: u122 :: u123 :: u124 :: u125 :: u126 :: u127 :: u128 :: u129 :: u130 :: u131 :: u132 :: u133 :: u134 :: u135 :: u136 :: u137 :: u138 :: u139 :: u140 :: u141 :: u142 :: u143 :: u144 :: u145 :: u146 :: u147 :: u148 :: u149 :: u150 :: u151 :: u152 :: u153 :: u154 :: u155 :: u156 :: u157 :: u158 :: u159 :: u160 :: u161 :: u162 :: u163 :: u164 :: u165 :: u166 :: u167 :: u168 :: u169 :: u170 :: u171 :: u172 :: u173 :: u174 :: u175 :: u176 :: u177 :: u178 :: u179 :: u180 :: u181 :: u182 :: u183 :: u184 :: u185 :: u186 :: u187 :: u188 :: u189 :: u190 :: u191 :: u192 :: u193 :: u194 :: u195 :: u196 :: u197 :: u198 :: u199 :: u200 :: u201 :: u202 :: u203 :: u204 :: u205 :: u206 :: u207 :: u208 :: u209 :: u210 :: u211 :: u212 :: u213 :: u214 :: u215 :: u216 :: u217 :: u218 :: u219 :: u220 :: u221 :: u222 :: u223 :: u224 :: u225 :: u226 :: u227 :: u228 :: u229 :: u230 :: u231 :: u232 :: u233 :: u234 :: u235 :: u236 :: u237 :: u238 :: u239 :: u240 :: u241 :: u242 :: u243 :: u244 :: u245 :: u246 :: u247 :: u248 :: u249 :: u250 :: u251 :: u252 :: u253 :: u254 :: u255 :: u256 :: u257 :: u258 :: u259 :: u260 :: u261 :: u262 :: u263 :: u264 :: u265 :: u266 :: u267 :: u268 :: u269 :: u270 :: u271 :: u272 :: u273 :: u274 :: u275 :: u276 :: u277 :: u278 :: u279 :: u280 :: u281 :: u282 :: u283 :: u284 :: u285 :: []).toArray, []⟩ w := by
  conv => arg 2; whnf
  refine wp_seq_k ?_
  intro K hK
  have HK : Hid (∀ a w, _ → K a w) := hK
  clear hK
  go_wp2_with fail
  go_loop [13, 14] (fun ways k => ∃ j : Nat, j ≤ ahead ∧ k = .int .i64 j ∧ ways = .int .i64 (waysTo kinds j : Nat)) (fun _ k => ahead - (intOf k).toNat)
  case atStart => exact ⟨0, Nat.zero_le _, rfl, rfl⟩
  case round =>
    obtain ⟨j, hj, rfl, rfl⟩ := hrel
    have hw1 := waysTo_le kinds g8 j
    have HW : Hid (waysTo kinds (j + 1) = if waysTo kinds j ≤ 3000 then waysTo kinds j * (kinds + 1) else waysTo kinds j) := rfl
    generalize hww : waysTo kinds j = ways at *
    have Hww : Hid (waysTo kinds j = ways) := hww
    clear hww
    by_cases hlt : j < ahead ∧ ways ≤ 3000
    · obtain ⟨hlt, hle⟩ := hlt
      have HM : Hid (ways * (kinds + 1) ≤ 771000) := Nat.le_trans (Nat.mul_le_mul hle (show kinds + 1 ≤ 257 by omega)) (by decide)
      have hle' : (ways : Int) ≤ 3000 := by omega
      have hlt' : (j : Int) < (ahead : Int) := by omega
      go_wp2_with fail
      all_goals first
        | (exfalso; omega)
        | (refine ⟨⟨j + 1, by omega, by go_num, ?_⟩, by simp [intOf]; omega⟩
           rw [HW.out, if_pos hle]
           exact ways_step ways kinds HM.out)
    · have HE : Hid (waysTo kinds ahead = ways) := by
        rw [← Hww.out]
        by_cases e : j = ahead
        · rw [e]; rfl
        · exact waysTo_stop kinds j ahead (by rw [Hww.out]; omega) hj
      clear HW
      go_wp2_with fail
      all_goals first
        | (exfalso; omega)
        | exact HK.out _ _ (valid_from22 s _ stream ahead modes rules states kinds ways g2 g4 g6 g7 g8 z0 h17 hw1 ha res (Hres.out.trans (by rw [HE.out])))

set_option maxHeartbeats 2000000 in
set_option maxRecDepth 100000 in
theorem valid_from17 (s : ByteArray) (w : World) (stream ahead modes rules states kinds : Nat) (g2 : modes ≤ 3) (g4 : rules ≤ 8) (g6 : states ≤ 200) (g7 : 1 ≤ kinds) (g8 : kinds ≤ 256) (z0 : s.size ≤ 1048576) (h17 : 17 ≤ s.size) (ha : ahead < 256) (res : Bool)
    (Hres : Hid (res = (decide ((waysTo kinds ahead) ≤ 3000) && (decide (stream ≠ 0) || decide (ahead = 0)) && (decide (13 + 2 * modes + 2 * rules + 256 + 2 * (states * kinds) + states + (((waysTo kinds ahead) * states) + 7) / 8 = s.size - 4) && ((((((okModes s states modes && okRules s (13 + 2 * modes) modes rules) && okKinds s (13 + 2 * modes + 2 * rules) 256) && decide (metTo s (13 + 2 * modes + 2 * rules) 256 = kinds)) && okNext s (13 + 2 * modes + 2 * rules + 256) states (states * kinds)) && okEnds s (13 + 2 * modes + 2 * rules + 256 + 2 * (states * kinds)) rules states) && (decide (((waysTo kinds ahead) * states) % 8 = 0) || decide (byt s (13 + 2 * modes + 2 * rules + 256 + 2 * (states * kinds) + states + (((waysTo kinds ahead) * states) + 7) / 8 - 1) / 2 ^ (((waysTo kinds ahead) * states) % 8) = 0)))))))
    {u1 u2 u4 u7 u12 u13 u14 u15 u16 u17 u18 u19 u20 u21 u22 u23 u24 u25 u26 u27 u28 u29 u30 u31 u32 u33 u34 u35 u36 u37 u38 u39 u40 u41 u42 u43 u44 u45 u46 u47 u48 u49 u50 u51 u52 u53 u54 u55 u56 u57 u58 u59 u60 u61 u62 u63 u64 u65 u66 u67 u68 u69 u70 u71 u72 u73 u74 u75 u76 u77 u78 u79 u80 u81 u82 u83 u84 u85 u86 u87 u88 u89 u90 u91 u92 u93 u94 u95 u96 u97 u98 u99 u100 u101 u102 u103 u104 u105 u106 u107 u108 u109 u110 u111 u112 u113 u114 u115 u116 u117 u118 u119 u120 u121 u122 u123 u124 u125 u126 u127 u128 u129 u130 u131 u132 u133 u134 u135 u136 u137 u138 u139 u140 u141 u142 u143 u144 u145 u146 u147 u148 u149 u150 u151 u152 u153 u154 u155 u156 u157 u158 u159 u160 u161 u162 u163 u164 u165 u166 u167 u168 u169 u170 u171 u172 u173 u174 u175 u176 u177 u178 u179 u180 u181 u182 u183 u184 u185 u186 u187 u188 u189 u190 u191 u192 u193 u194 u195 u196 u197 u198 u199 u200 u201 u202 u203 u204 u205 u206 u207 u208 u209 u210 u211 u212 u213 u214 u215 u216 u217 u218 u219 u220 u221 u222 u223 u224 u225 u226 u227 u228 u229 u230 u231 u232 u233 u234 u235 u236 u237 u238 u239 u240 u241 u242 u243 u244 u245 u246 u247 u248 u249 u250 u251 u252 u253 u254 u255 u256 u257 u258 u259 u260 u261 u262 u263 u264 u265 u266 u267 u268 u269 u270 u271 u272 u273 u274 u275 u276 u277 u278 u279 u280 u281 u282 u283 u284 u285 : Value} :
    Code.wp Try.prog (dropSeq 14 ((Try.f7.body).getD .skip)) (bodyPost Try.prog Try.f7 fun e w' => e = .returned (.bool res) ∧ w' = w)
      ⟨(.string s :: u1 :: u2 :: .int .i64 ((s.size : Int) - 4) :: u4 :: .int .i64 (stream : Int) :: .int .i64 (ahead : Int) :: u7 :: .int .i64 (modes : Int) :: .int .i64 (rules : Int) :: .int .i64 (states : Int) :: .int .i64 (kinds : Int) :: u12 :: u13 :: u14 :: u15 :: u16 :: u17 :: u18 :: u19 :: u20 :: u21 :: u22 :: u23 :: u24 :: u25 :: u26 :: u27 :: u28 :: u29 :: u30 :: u31 :: u32 :: u33 :: u34 :: u35 :: u36 :: u37 :: u38 :: u39 :: u40 :: u41 :: u42 :: u43 :: u44 :: u45 :: u46 :: u47 :: u48 :: u49 :: u50 :: u51 :: u52 :: u53 :: u54 :: u55 :: u56 :: u57 :: u58 :: u59 :: u60 :: u61 :: u62 :: u63 :: u64 :: u65 :: u66 :: u67 :: u68 :: u69 :: u70 :: u71 :: u72 :: u73 :: u74 :: u75 :: u76 :: u77 :: u78 :: u79 :: u80 :: u81 :: u82 :: u83 :: u84 :: u85 :: u86 :: u87 :: u88 :: u89 :: u90 :: u91 :: u92 :: u93 :: u94 :: u95 :: u96 :: u97 :: u98 :: u99 :: u100 :: u101 :: u102 :: u103 :: u104 :: u105 :: u106 :: u107 :: u108 :: u109 :: u110 :: u111 :: u112 :: u113 :: u114 :: u115 :: u116 :: u117 :: u118 :: u119 :: u120 :: u121 :: u122 :: u123 :: u124 :: u125 :: u126 :: u127 :: u128 :: u129 :: u130 :: u131 :: u132 :: u133 :: u134 :: u135 :: u136 :: u137 :: u138 :: u139 :: u140 :: u141 :: u142 :: u143 :: u144 :: u145 :: u146 :: u147 :: u148 :: u149 :: u150 :: u151 :: u152 :: u153 :: u154 :: u155 :: u156 :: u157 :: u158 :: u159 :: u160 :: u161 :: u162 :: u163 :: u164 :: u165 :: u166 :: u167 :: u168 :: u169 :: u170 :: u171 :: u172 :: u173 :: u174 :: u175 :: u176 :: u177 :: u178 :: u179 :: u180 :: u181 :: u182 :: u183 :: u184 :: u185 :: u186 :: u187 :: u188 :: u189 :: u190 :: u191 :: u192 :: u193 :: u194 :: u195 :: u196 :: u197 :: u198 :: u199 :: u200 :: u201 :: u202 :: u203 :: u204 :: u205 :: u206 :: u207 :: u208 :: u209 :: u210 :: u211 :: u212 :: u213 :: u214 :: u215 :: u216 :: u217 :: u218 :: u219 :: u220 :: u221 :: u222 :: u223 :: u224 :: u225 :: u226 :: u227 :: u228 :: u229 :: u230 :: u231 :: u232 :: u233 :: u234 :: u235 :: u236 :: u237 :: u238 :: u239 :: u240 :: u241 :: u242 :: u243 :: u244 :: u245 :: u246 :: u247 :: u248 :: u249 :: u250 :: u251 :: u252 :: u253 :: u254 :: u255 :: u256 :: u257 :: u258 :: u259 :: u260 :: u261 :: u262 :: u263 :: u264 :: u265 :: u266 :: u267 :: u268 :: u269 :: u270 :: u271 :: u272 :: u273 :: u274 :: u275 :: u276 :: u277 :: u278 :: u279 :: u280 :: u281 :: u282 :: u283 :: u284 :: u285 :: []).toArray, []⟩ w := by
  conv => arg 2; whnf
  refine wp_seq_k ?_
  intro K hK
  have HK : Hid (∀ a w, _ → K a w) := hK
  clear hK
  go_wp2_with fail
  refine HK.out _ _ ?_
  clear HK
  exact valid_from18 s _ stream ahead modes rules states kinds g2 g4 g6 g7 g8 z0 h17 ha res Hres

end Go.Proofs.Yteflpladkmihdaa
