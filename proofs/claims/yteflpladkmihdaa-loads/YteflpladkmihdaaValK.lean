/- lexerref.Valid: the walk, from a statement on. -/
import Derived.Test.YteflpladkmihdaaValJ
import Derived.Deep.DeepCutAuto
set_option linter.unusedVariables false
set_option linter.unusedSimpArgs false
namespace Go.Proofs.Yteflpladkmihdaa
open Go.RowKit

set_option maxHeartbeats 2000000 in
set_option maxRecDepth 100000 in
theorem valid_from31 (s : ByteArray) (w : World) (modes rules states kinds SK W : Nat) (g2 : modes ≤ 3) (g4 : rules ≤ 8) (g6 : states ≤ 200) (g7 : 1 ≤ kinds) (g8 : kinds ≤ 256) (k1 : SK ≤ 51200) (k2 : W ≤ 600000) (z0 : s.size ≤ 1048576) (h17 : 17 ≤ s.size) (res : Bool)
    (Hres : Hid (res = (decide (13 + 2 * modes + 2 * rules + 256 + 2 * SK + states + (W + 7) / 8 = s.size - 4) && ((((((okModes s states modes && okRules s (13 + 2 * modes) modes rules) && okKinds s (13 + 2 * modes + 2 * rules) 256) && decide (metTo s (13 + 2 * modes + 2 * rules) 256 = kinds)) && okNext s (13 + 2 * modes + 2 * rules + 256) states SK) && okEnds s (13 + 2 * modes + 2 * rules + 256 + 2 * SK) rules states) && (decide (W % 8 = 0) || decide (byt s (13 + 2 * modes + 2 * rules + 256 + 2 * SK + states + (W + 7) / 8 - 1) / 2 ^ (W % 8) = 0))))))
    {u1 u2 u4 u5 u6 u7 u12 u13 u14 u22 u23 u24 u25 u26 u27 u28 u29 u30 u31 u32 u33 u34 u35 u36 u37 u38 u39 u40 u41 u42 u43 u44 u45 u46 u47 u48 u49 u50 u51 u52 u53 u54 u55 u56 u57 u58 u59 u60 u61 u62 u63 u64 u65 u66 u67 u68 u69 u70 u71 u72 u73 u74 u75 u76 u77 u78 u79 u80 u81 u82 u83 u84 u85 u86 u87 u88 u89 u90 u91 u92 u93 u94 u95 u96 u97 u98 u99 u100 u101 u102 u103 u104 u105 u106 u107 u108 u109 u110 u111 u112 u113 u114 u115 u116 u117 u118 u119 u120 u121 u122 u123 u124 u125 u126 u127 u128 u129 u130 u131 u132 u133 u134 u135 u136 u137 u138 u139 u140 u141 u142 u143 u144 u145 u146 u147 u148 u149 u150 u151 u152 u153 u154 u155 u156 u157 u158 u159 u160 u161 u162 u163 u164 u165 u166 u167 u168 u169 u170 u171 u172 u173 u174 u175 u176 u177 u178 u179 u180 u181 u182 u183 u184 u185 u186 u187 u188 u189 u190 u191 u192 u193 u194 u195 u196 u197 u198 u199 u200 u201 u202 u203 u204 u205 u206 u207 u208 u209 u210 u211 u212 u213 u214 u215 u216 u217 u218 u219 u220 u221 u222 u223 u224 u225 u226 u227 u228 u229 u230 u231 u232 u233 u234 u235 u236 u237 u238 u239 u240 u241 u242 u243 u244 u245 u246 u247 u248 u249 u250 u251 u252 u253 u254 u255 u256 u257 u258 u259 u260 u261 u262 u263 u264 u265 u266 u267 u268 u269 u270 u271 u272 u273 u274 u275 u276 u277 u278 u279 u280 u281 u282 u283 u284 u285 : Value} :
    Code.wp Try.prog (dropSeq 24 ((Try.f7.body).getD .skip)) (bodyPost Try.prog Try.f7 fun e w' => e = .returned (.bool res) ∧ w' = w)
      ⟨(.string s :: u1 :: u2 :: .int .i64 ((s.size : Int) - 4) :: u4 :: u5 :: u6 :: u7 :: .int .i64 (modes : Int) :: .int .i64 (rules : Int) :: .int .i64 (states : Int) :: .int .i64 (kinds : Int) :: u12 :: u13 :: u14 :: .int .i64 (W : Int) :: .int .i64 (13 + 2 * (modes : Int)) :: .int .i64 (13 + 2 * (modes : Int) + 2 * (rules : Int)) :: .int .i64 (13 + 2 * (modes : Int) + 2 * (rules : Int) + 256) :: .int .i64 (13 + 2 * (modes : Int) + 2 * (rules : Int) + 256 + 2 * (SK : Int)) :: .int .i64 (13 + 2 * (modes : Int) + 2 * (rules : Int) + 256 + 2 * (SK : Int) + (states : Int)) :: .int .i64 (13 + 2 * (modes : Int) + 2 * (rules : Int) + 256 + 2 * (SK : Int) + (states : Int) + ((W : Int) + 7) / 8) :: u22 :: u23 :: u24 :: u25 :: u26 :: u27 :: u28 :: u29 :: u30 :: u31 :: u32 :: u33 :: u34 :: u35 :: u36 :: u37 :: u38 :: u39 :: u40 :: u41 :: u42 :: u43 :: u44 :: u45 :: u46 :: u47 :: u48 :: u49 :: u50 :: u51 :: u52 :: u53 :: u54 :: u55 :: u56 :: u57 :: u58 :: u59 :: u60 :: u61 :: u62 :: u63 :: u64 :: u65 :: u66 :: u67 :: u68 :: u69 :: u70 :: u71 :: u72 :: u73 :: u74 :: u75 :: u76 :: u77 :: u78 :: u79 :: u80 :: u81 :: u82 :: u83 :: u84 :: u85 :: u86 :: u87 :: u88 :: u89 :: u90 :: u91 :: u92 :: u93 :: u94 :: u95 :: u96 :: u97 :: u98 :: u99 :: u100 :: u101 :: u102 :: u103 :: u104 :: u105 :: u106 :: u107 :: u108 :: u109 :: u110 :: u111 :: u112 :: u113 :: u114 :: u115 :: u116 :: u117 :: u118 :: u119 :: u120 :: u121 :: u122 :: u123 :: u124 :: u125 :: u126 :: u127 :: u128 :: u129 :: u130 :: u131 :: u132 :: u133 :: u134 :: u135 :: u136 :: u137 :: u138 :: u139 :: u140 :: u141 :: u142 :: u143 :: u144 :: u145 :: u146 :: u147 :: u148 :: u149 :: u150 :: u151 :: u152 :: u153 :: u154 :: u155 :: u156 :: u157 :: u158 :: u159 :: u160 :: u161 :: u162 :: u163 :: u164 :: u165 :: u166 :: u167 :: u168 :: u169 :: u170 :: u171 :: u172 :: u173 :: u174 :: u175 :: u176 :: u177 :: u178 :: u179 :: u180 :: u181 :: u182 :: u183 :: u184 :: u185 :: u186 :: u187 :: u188 :: u189 :: u190 :: u191 :: u192 :: u193 :: u194 :: u195 :: u196 :: u197 :: u198 :: u199 :: u200 :: u201 :: u202 :: u203 :: u204 :: u205 :: u206 :: u207 :: u208 :: u209 :: u210 :: u211 :: u212 :: u213 :: u214 :: u215 :: u216 :: u217 :: u218 :: u219 :: u220 :: u221 :: u222 :: u223 :: u224 :: u225 :: u226 :: u227 :: u228 :: u229 :: u230 :: u231 :: u232 :: u233 :: u234 :: u235 :: u236 :: u237 :: u238 :: u239 :: u240 :: u241 :: u242 :: u243 :: u244 :: u245 :: u246 :: u247 :: u248 :: u249 :: u250 :: u251 :: u252 :: u253 :: u254 :: u255 :: u256 :: u257 :: u258 :: u259 :: u260 :: u261 :: u262 :: u263 :: u264 :: u265 :: u266 :: u267 :: u268 :: u269 :: u270 :: u271 :: u272 :: u273 :: u274 :: u275 :: u276 :: u277 :: u278 :: u279 :: u280 :: u281 :: u282 :: u283 :: u284 :: u285 :: []).toArray, []⟩ w := by
  conv => arg 2; whnf
  refine wp_seq_k ?_
  intro K hK
  have HK : Hid (∀ a w, _ → K a w) := hK
  clear hK
  by_cases hz : 13 + 2 * modes + 2 * rules + 256 + 2 * SK + states + (W + 7) / 8 = s.size - 4
  · have ht : (13 + 2 * (modes : Int) + 2 * (rules : Int) + 256 + 2 * (SK : Int) + (states : Int) + ((W : Int) + 7) / 8 != (s.size : Int) - 4) = false := by rw [bne_eq_false_iff_eq]; omega
    have hz1 : 13 + 2 * modes + 2 * rules + 256 + 2 * SK + states + (W + 7) / 8 + 4 = s.size := by omega
    have Hz1 : Hid (13 + 2 * modes + 2 * rules + 256 + 2 * SK + states + (W + 7) / 8 + 4 = s.size) := hz1
    have Hz : Hid (13 + 2 * modes + 2 * rules + 256 + 2 * SK + states + (W + 7) / 8 = s.size - 4) := hz
    clear hz hz1
    go_wp2_with fail
    exact HK.out _ _ (valid_from33 s _ modes rules states kinds SK W g2 g4 g6 k1 k2 z0 Hz1.out g7 g8 res (Hres.out.trans (by rw [decide_eq_true Hz.out]; rfl)))
  · have ht : (13 + 2 * (modes : Int) + 2 * (rules : Int) + 256 + 2 * (SK : Int) + (states : Int) + ((W : Int) + 7) / 8 != (s.size : Int) - 4) = true := by rw [bne_iff_ne]; omega
    go_wp2_with fail
    go_ret
    exact ⟨ret_bool (by rw [Hres.out, decide_eq_false hz]; rfl), rfl⟩

set_option maxHeartbeats 2000000 in
set_option maxRecDepth 100000 in
theorem valid_from24 (s : ByteArray) (w : World) (modes rules states kinds SK W ways : Nat) (g2 : modes ≤ 3) (g4 : rules ≤ 8) (g6 : states ≤ 200) (g7 : 1 ≤ kinds) (g8 : kinds ≤ 256) (k1 : SK ≤ 51200) (k2 : W ≤ 600000) (z0 : s.size ≤ 1048576) (h17 : 17 ≤ s.size) (HW : Hid (ways * states = W)) (HP : Hid (2 * states * kinds = 2 * SK)) (res : Bool)
    (Hres : Hid (res = (decide (13 + 2 * modes + 2 * rules + 256 + 2 * SK + states + (W + 7) / 8 = s.size - 4) && ((((((okModes s states modes && okRules s (13 + 2 * modes) modes rules) && okKinds s (13 + 2 * modes + 2 * rules) 256) && decide (metTo s (13 + 2 * modes + 2 * rules) 256 = kinds)) && okNext s (13 + 2 * modes + 2 * rules + 256) states SK) && okEnds s (13 + 2 * modes + 2 * rules + 256 + 2 * SK) rules states) && (decide (W % 8 = 0) || decide (byt s (13 + 2 * modes + 2 * rules + 256 + 2 * SK + states + (W + 7) / 8 - 1) / 2 ^ (W % 8) = 0))))))
    {u1 u2 u4 u5 u6 u7 u12 u14 u15 u16 u17 u18 u19 u20 u21 u22 u23 u24 u25 u26 u27 u28 u29 u30 u31 u32 u33 u34 u35 u36 u37 u38 u39 u40 u41 u42 u43 u44 u45 u46 u47 u48 u49 u50 u51 u52 u53 u54 u55 u56 u57 u58 u59 u60 u61 u62 u63 u64 u65 u66 u67 u68 u69 u70 u71 u72 u73 u74 u75 u76 u77 u78 u79 u80 u81 u82 u83 u84 u85 u86 u87 u88 u89 u90 u91 u92 u93 u94 u95 u96 u97 u98 u99 u100 u101 u102 u103 u104 u105 u106 u107 u108 u109 u110 u111 u112 u113 u114 u115 u116 u117 u118 u119 u120 u121 u122 u123 u124 u125 u126 u127 u128 u129 u130 u131 u132 u133 u134 u135 u136 u137 u138 u139 u140 u141 u142 u143 u144 u145 u146 u147 u148 u149 u150 u151 u152 u153 u154 u155 u156 u157 u158 u159 u160 u161 u162 u163 u164 u165 u166 u167 u168 u169 u170 u171 u172 u173 u174 u175 u176 u177 u178 u179 u180 u181 u182 u183 u184 u185 u186 u187 u188 u189 u190 u191 u192 u193 u194 u195 u196 u197 u198 u199 u200 u201 u202 u203 u204 u205 u206 u207 u208 u209 u210 u211 u212 u213 u214 u215 u216 u217 u218 u219 u220 u221 u222 u223 u224 u225 u226 u227 u228 u229 u230 u231 u232 u233 u234 u235 u236 u237 u238 u239 u240 u241 u242 u243 u244 u245 u246 u247 u248 u249 u250 u251 u252 u253 u254 u255 u256 u257 u258 u259 u260 u261 u262 u263 u264 u265 u266 u267 u268 u269 u270 u271 u272 u273 u274 u275 u276 u277 u278 u279 u280 u281 u282 u283 u284 u285 : Value} :
    Code.wp Try.prog (dropSeq 17 ((Try.f7.body).getD .skip)) (bodyPost Try.prog Try.f7 fun e w' => e = .returned (.bool res) ∧ w' = w)
      ⟨(.string s :: u1 :: u2 :: .int .i64 ((s.size : Int) - 4) :: u4 :: u5 :: u6 :: u7 :: .int .i64 (modes : Int) :: .int .i64 (rules : Int) :: .int .i64 (states : Int) :: .int .i64 (kinds : Int) :: u12 :: .int .i64 (ways : Int) :: u14 :: u15 :: u16 :: u17 :: u18 :: u19 :: u20 :: u21 :: u22 :: u23 :: u24 :: u25 :: u26 :: u27 :: u28 :: u29 :: u30 :: u31 :: u32 :: u33 :: u34 :: u35 :: u36 :: u37 :: u38 :: u39 :: u40 :: u41 :: u42 :: u43 :: u44 :: u45 :: u46 :: u47 :: u48 :: u49 :: u50 :: u51 :: u52 :: u53 :: u54 :: u55 :: u56 :: u57 :: u58 :: u59 :: u60 :: u61 :: u62 :: u63 :: u64 :: u65 :: u66 :: u67 :: u68 :: u69 :: u70 :: u71 :: u72 :: u73 :: u74 :: u75 :: u76 :: u77 :: u78 :: u79 :: u80 :: u81 :: u82 :: u83 :: u84 :: u85 :: u86 :: u87 :: u88 :: u89 :: u90 :: u91 :: u92 :: u93 :: u94 :: u95 :: u96 :: u97 :: u98 :: u99 :: u100 :: u101 :: u102 :: u103 :: u104 :: u105 :: u106 :: u107 :: u108 :: u109 :: u110 :: u111 :: u112 :: u113 :: u114 :: u115 :: u116 :: u117 :: u118 :: u119 :: u120 :: u121 :: u122 :: u123 :: u124 :: u125 :: u126 :: u127 :: u128 :: u129 :: u130 :: u131 :: u132 :: u133 :: u134 :: u135 :: u136 :: u137 :: u138 :: u139 :: u140 :: u141 :: u142 :: u143 :: u144 :: u145 :: u146 :: u147 :: u148 :: u149 :: u150 :: u151 :: u152 :: u153 :: u154 :: u155 :: u156 :: u157 :: u158 :: u159 :: u160 :: u161 :: u162 :: u163 :: u164 :: u165 :: u166 :: u167 :: u168 :: u169 :: u170 :: u171 :: u172 :: u173 :: u174 :: u175 :: u176 :: u177 :: u178 :: u179 :: u180 :: u181 :: u182 :: u183 :: u184 :: u185 :: u186 :: u187 :: u188 :: u189 :: u190 :: u191 :: u192 :: u193 :: u194 :: u195 :: u196 :: u197 :: u198 :: u199 :: u200 :: u201 :: u202 :: u203 :: u204 :: u205 :: u206 :: u207 :: u208 :: u209 :: u210 :: u211 :: u212 :: u213 :: u214 :: u215 :: u216 :: u217 :: u218 :: u219 :: u220 :: u221 :: u222 :: u223 :: u224 :: u225 :: u226 :: u227 :: u228 :: u229 :: u230 :: u231 :: u232 :: u233 :: u234 :: u235 :: u236 :: u237 :: u238 :: u239 :: u240 :: u241 :: u242 :: u243 :: u244 :: u245 :: u246 :: u247 :: u248 :: u249 :: u250 :: u251 :: u252 :: u253 :: u254 :: u255 :: u256 :: u257 :: u258 :: u259 :: u260 :: u261 :: u262 :: u263 :: u264 :: u265 :: u266 :: u267 :: u268 :: u269 :: u270 :: u271 :: u272 :: u273 :: u274 :: u275 :: u276 :: u277 :: u278 :: u279 :: u280 :: u281 :: u282 :: u283 :: u284 :: u285 :: []).toArray, []⟩ w := by
  have eW : (ways : Int) * (states : Int) = (W : Int) := by rw [← HW.out]; simp
  have eP : 2 * (states : Int) * (kinds : Int) = 2 * (SK : Int) := by
    have h := congrArg (fun n : Nat => (n : Int)) HP.out
    simpa using h
  have p1 : (2 * (states : Int)) * (kinds : Int) ≤ 102400 := by rw [eP]; omega
  have p2 : 0 ≤ (2 * (states : Int)) * (kinds : Int) := by rw [eP]; omega
  have p3 : (ways : Int) * (states : Int) ≤ 600000 := by rw [eW]; omega
  have p4 : 0 ≤ (ways : Int) * (states : Int) := by rw [eW]; omega
  have EW : Hid ((ways : Int) * (states : Int) = (W : Int)) := eW
  have EP : Hid (2 * (states : Int) * (kinds : Int) = 2 * (SK : Int)) := eP
  clear eW eP
  conv => arg 2; whnf
  refine wp_seq_k ?_
  intro K hK
  have H17 : Hid (∀ a w, _ → K a w) := hK
  clear hK
  go_wp2_with fail
  refine H17.out _ _ ?_
  clear H17
  refine wp_seq_k ?_
  intro K hK
  have H18 : Hid (∀ a w, _ → K a w) := hK
  clear hK
  go_wp2_with fail
  refine H18.out _ _ ?_
  clear H18
  refine wp_seq_k ?_
  intro K hK
  have H19 : Hid (∀ a w, _ → K a w) := hK
  clear hK
  go_wp2_with fail
  refine H19.out _ _ ?_
  clear H19
  refine wp_seq_k ?_
  intro K hK
  have H20 : Hid (∀ a w, _ → K a w) := hK
  clear hK
  go_wp2_with fail
  refine H20.out _ _ ?_
  clear H20
  refine wp_seq_k ?_
  intro K hK
  have H21 : Hid (∀ a w, _ → K a w) := hK
  clear hK
  go_wp2_with fail
  refine H21.out _ _ ?_
  clear H21
  refine wp_seq_k ?_
  intro K hK
  have H22 : Hid (∀ a w, _ → K a w) := hK
  clear hK
  go_wp2_with fail
  refine H22.out _ _ ?_
  clear H22
  refine wp_seq_k ?_
  intro K hK
  have H23 : Hid (∀ a w, _ → K a w) := hK
  clear hK
  go_wp2_with fail
  refine H23.out _ _ ?_
  clear H23
  rw [EW.out, EP.out]
  exact valid_from31 s _ modes rules states kinds SK W g2 g4 g6 g7 g8 k1 k2 z0 h17 res Hres

end Go.Proofs.Yteflpladkmihdaa
