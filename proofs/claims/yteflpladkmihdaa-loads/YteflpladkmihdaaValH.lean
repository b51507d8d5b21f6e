/- lexerref.Valid: the walk, from a statement on. -/
import Derived.Test.YteflpladkmihdaaValFToValG
import Derived.Deep.DeepCutAuto
set_option linter.unusedVariables false
set_option linter.unusedSimpArgs false
namespace Go.Proofs.Yteflpladkmihdaa
open Go.RowKit

set_option maxHeartbeats 2000000 in
set_option maxRecDepth 100000 in
theorem valid_from44 (s : ByteArray) (w : World) (modes rules states kinds SK W : Nat) (g2 : modes ≤ 3) (g4 : rules ≤ 8) (g6 : states ≤ 200) (k1 : SK ≤ 51200) (k2 : W ≤ 600000) (z0 : s.size ≤ 1048576)
    (z1 : 13 + 2 * modes + 2 * rules + 256 + 2 * SK + states + (W + 7) / 8 + 4 = s.size) (g7 : 1 ≤ kinds) (g8 : kinds ≤ 256) (okB : Bool) (res : Bool)
    (Hres : Hid (res = (((((okB && okKinds s (13 + 2 * modes + 2 * rules) 256) && decide (metTo s (13 + 2 * modes + 2 * rules) 256 = kinds)) && okNext s (13 + 2 * modes + 2 * rules + 256) states SK) && okEnds s (13 + 2 * modes + 2 * rules + 256 + 2 * SK) rules states) && (decide (W % 8 = 0) || decide (byt s (13 + 2 * modes + 2 * rules + 256 + 2 * SK + states + (W + 7) / 8 - 1) / 2 ^ (W % 8) = 0)))))
    {u1 u2 u3 u4 u5 u6 u7 u12 u13 u14 u23 u24 u25 u27 u28 u29 u30 u31 u32 u33 u34 u35 u36 u37 u38 u39 u40 u41 u42 u43 u44 u45 u46 u47 u48 u49 u50 u51 u52 u53 u54 u55 u56 u57 u58 u59 u60 u61 u62 u63 u64 u65 u66 u67 u68 u69 u70 u71 u72 u73 u74 u75 u76 u77 u78 u79 u80 u81 u82 u83 u84 u85 u86 u87 u88 u89 u90 u91 u92 u93 u94 u95 u96 u97 u98 u99 u100 u101 u102 u103 u104 u105 u106 u107 u108 u109 u110 u111 u112 u113 u114 u115 u116 u117 u118 u119 u120 u121 u122 u123 u124 u125 u126 u127 u128 u129 u130 u131 u132 u133 u134 u135 u136 u137 u138 u139 u140 u141 u142 u143 u144 u145 u146 u147 u148 u149 u150 u151 u152 u153 u154 u155 u156 u157 u158 u159 u160 u161 u162 u163 u164 u165 u166 u167 u168 u169 u170 u171 u172 u173 u174 u175 u176 u177 u178 u179 u180 u181 u182 u183 u184 u185 u186 u187 u188 u189 u190 u191 u192 u193 u194 u195 u196 u197 u198 u199 u200 u201 u202 u203 u204 u205 u206 u207 u208 u209 u210 u211 u212 u213 u214 u215 u216 u217 u218 u219 u220 u221 u222 u223 u224 u225 u226 u227 u228 u229 u230 u231 u232 u233 u234 u235 u236 u237 u238 u239 u240 u241 u242 u243 u244 u245 u246 u247 u248 u249 u250 u251 u252 u253 u254 u255 u256 u257 u258 u259 u260 u261 u262 u263 u264 u265 u266 u267 u268 u269 u270 u271 u272 u273 u274 u275 u276 u277 u278 u279 u280 u281 u282 u283 u284 u285 : Value} :
    Code.wp Try.prog (dropSeq 29 ((Try.f7.body).getD .skip)) (bodyPost Try.prog Try.f7 fun e w' => e = .returned (.bool res) ∧ w' = w)
      ⟨(.string s :: u1 :: u2 :: u3 :: u4 :: u5 :: u6 :: u7 :: .int .i64 (modes : Int) :: .int .i64 (rules : Int) :: .int .i64 (states : Int) :: .int .i64 (kinds : Int) :: u12 :: u13 :: u14 :: .int .i64 (W : Int) :: .int .i64 (13 + 2 * (modes : Int)) :: .int .i64 (13 + 2 * (modes : Int) + 2 * (rules : Int)) :: .int .i64 (13 + 2 * (modes : Int) + 2 * (rules : Int) + 256) :: .int .i64 (13 + 2 * (modes : Int) + 2 * (rules : Int) + 256 + 2 * (SK : Int)) :: .int .i64 (13 + 2 * (modes : Int) + 2 * (rules : Int) + 256 + 2 * (SK : Int) + (states : Int)) :: .int .i64 (13 + 2 * (modes : Int) + 2 * (rules : Int) + 256 + 2 * (SK : Int) + (states : Int) + ((W : Int) + 7) / 8) :: .bool okB :: u23 :: u24 :: u25 :: .int .i64 (-1) :: u27 :: u28 :: u29 :: u30 :: u31 :: u32 :: u33 :: u34 :: u35 :: u36 :: u37 :: u38 :: u39 :: u40 :: u41 :: u42 :: u43 :: u44 :: u45 :: u46 :: u47 :: u48 :: u49 :: u50 :: u51 :: u52 :: u53 :: u54 :: u55 :: u56 :: u57 :: u58 :: u59 :: u60 :: u61 :: u62 :: u63 :: u64 :: u65 :: u66 :: u67 :: u68 :: u69 :: u70 :: u71 :: u72 :: u73 :: u74 :: u75 :: u76 :: u77 :: u78 :: u79 :: u80 :: u81 :: u82 :: u83 :: u84 :: u85 :: u86 :: u87 :: u88 :: u89 :: u90 :: u91 :: u92 :: u93 :: u94 :: u95 :: u96 :: u97 :: u98 :: u99 :: u100 :: u101 :: u102 :: u103 :: u104 :: u105 :: u106 :: u107 :: u108 :: u109 :: u110 :: u111 :: u112 :: u113 :: u114 :: u115 :: u116 :: u117 :: u118 :: u119 :: u120 :: u121 :: u122 :: u123 :: u124 :: u125 :: u126 :: u127 :: u128 :: u129 :: u130 :: u131 :: u132 :: u133 :: u134 :: u135 :: u136 :: u137 :: u138 :: u139 :: u140 :: u141 :: u142 :: u143 :: u144 :: u145 :: u146 :: u147 :: u148 :: u149 :: u150 :: u151 :: u152 :: u153 :: u154 :: u155 :: u156 :: u157 :: u158 :: u159 :: u160 :: u161 :: u162 :: u163 :: u164 :: u165 :: u166 :: u167 :: u168 :: u169 :: u170 :: u171 :: u172 :: u173 :: u174 :: u175 :: u176 :: u177 :: u178 :: u179 :: u180 :: u181 :: u182 :: u183 :: u184 :: u185 :: u186 :: u187 :: u188 :: u189 :: u190 :: u191 :: u192 :: u193 :: u194 :: u195 :: u196 :: u197 :: u198 :: u199 :: u200 :: u201 :: u202 :: u203 :: u204 :: u205 :: u206 :: u207 :: u208 :: u209 :: u210 :: u211 :: u212 :: u213 :: u214 :: u215 :: u216 :: u217 :: u218 :: u219 :: u220 :: u221 :: u222 :: u223 :: u224 :: u225 :: u226 :: u227 :: u228 :: u229 :: u230 :: u231 :: u232 :: u233 :: u234 :: u235 :: u236 :: u237 :: u238 :: u239 :: u240 :: u241 :: u242 :: u243 :: u244 :: u245 :: u246 :: u247 :: u248 :: u249 :: u250 :: u251 :: u252 :: u253 :: u254 :: u255 :: u256 :: u257 :: u258 :: u259 :: u260 :: u261 :: u262 :: u263 :: u264 :: u265 :: u266 :: u267 :: u268 :: u269 :: u270 :: u271 :: u272 :: u273 :: u274 :: u275 :: u276 :: u277 :: u278 :: u279 :: u280 :: u281 :: u282 :: u283 :: u284 :: u285 :: []).toArray, []⟩ w := by
  have z2 : 13 + 2 * modes + 2 * rules + 256 + 2 * SK + states + (W + 7) / 8 + 4 ≤ s.size := by omega
  have Z1 : Hid (13 + 2 * modes + 2 * rules + 256 + 2 * SK + states + (W + 7) / 8 + 4 = s.size) := z1
  clear z1
  conv => arg 2; whnf
  refine wp_seq_k ?_
  intro K hK
  have HK : Hid (∀ a w, _ → K a w) := hK
  clear hK
  go_wp2_with fail
  go_loop [22, 26, 27] (fun ok most i => ∃ k : Nat, k ≤ 256 ∧ i = .int .i64 (13 + 2 * (modes : Int) + 2 * (rules : Int) + (k : Int)) ∧ most = .int .i64 ((metTo s (13 + 2 * modes + 2 * rules) k : Int) - 1) ∧ ok = .bool (okB && okKinds s (13 + 2 * modes + 2 * rules) k)) (fun _ _ i => (13 + 2 * modes + 2 * rules) + 256 - (intOf i).toNat)
  case atStart => exact ⟨0, Nat.zero_le _, congrArg (Value.int IntKind.i64) (by omega), rfl, by simp [okKinds]⟩
  case round =>
    obtain ⟨k, hk, rfl, rfl, rfl⟩ := hrel
    have HO : Hid (okKinds s (13 + 2 * modes + 2 * rules) (k + 1) = (okKinds s (13 + 2 * modes + 2 * rules) k && decide (byt s ((13 + 2 * modes + 2 * rules) + k) ≤ metTo s (13 + 2 * modes + 2 * rules) k))) := okKinds_succ s (13 + 2 * modes + 2 * rules) k
    have HM : Hid (metTo s (13 + 2 * modes + 2 * rules) (k + 1) = max (metTo s (13 + 2 * modes + 2 * rules) k) (byt s ((13 + 2 * modes + 2 * rules) + k) + 1)) := rfl
    have hml := metTo_le s (13 + 2 * modes + 2 * rules) k
    by_cases hlt : k < 256
    · have hbd : 13 + 2 * modes + 2 * rules + k < s.size := by omega
      have v1 : (s[13 + 2 * modes + 2 * rules + k]'(by omega)).toNat < 256 := UInt8.toNat_lt _
      generalize hok : (okB && okKinds s (13 + 2 * modes + 2 * rules) k) = ok at *
      have Hok : Hid ((okB && okKinds s (13 + 2 * modes + 2 * rules) k) = ok) := hok
      clear hok
      rw [← byt_eq s (13 + 2 * modes + 2 * rules + k) hbd] at HO HM
      generalize metTo s (13 + 2 * modes + 2 * rules) k = met at *
      by_cases hmv : met ≤ (s[13 + 2 * modes + 2 * rules + k]'(by omega)).toNat
      all_goals
        cases ok
        · go_wp2_with fail
          exact ⟨⟨k + 1, by omega, congrArg (Value.int IntKind.i64) (by omega), by rw [HM.out]; exact congrArg (Value.int IntKind.i64) (by omega), by rw [HO.out, ← Bool.and_assoc, Hok.out]; rfl⟩, by simp [intOf]; omega⟩
        · go_wp2_with fail
          exact ⟨⟨k + 1, by omega, congrArg (Value.int IntKind.i64) (by omega), by rw [HM.out]; exact congrArg (Value.int IntKind.i64) (by omega), by rw [HO.out, ← Bool.and_assoc, Hok.out]; exact congrArg Value.bool (by rw [Bool.eq_iff_iff]; simp; try omega)⟩, by simp [intOf]; omega⟩
    · have hke : k = 256 := by omega
      subst hke
      generalize hokC : (okB && okKinds s (13 + 2 * modes + 2 * rules) 256) = okC at *
      generalize hmet : metTo s (13 + 2 * modes + 2 * rules) 256 = met at *
      clear hokC HO hlt HM hmet
      go_wp2_with fail
      exact HK.out _ _ (valid_from51 s _ modes rules states kinds SK W g2 g4 g6 k1 k2 z0 Z1.out g7 g8 met okC res Hres)

end Go.Proofs.Yteflpladkmihdaa
