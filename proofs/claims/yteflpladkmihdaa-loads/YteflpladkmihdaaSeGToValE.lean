/- Load and Bytes of a lexer. -/
import Derived.Test.YteflpladkmihdaaSeF
import Derived.Test.YteflpladkmihdaaRefMToTabB
import Derived.Deep.DeepCutAuto
set_option linter.unusedVariables false
set_option linter.unusedSimpArgs false
namespace Go.Proofs.Yteflpladkmihdaa
open Go.RowKit

set_option maxHeartbeats 1000000 in
theorem lexBytes_calls (x p : Nat) (S : Nat → Prop) (t : Tb) (w : World) (hx : w.cell? ⟨x, 0, none⟩ = some (.pointer (some ⟨p, 0, none⟩))) (hT : TabAt w S p t) (hS : ∀ k, S k → k < w.heap.size) (ft : t.Fine) :
    Calls Try.prog 8 #[.pointer (some ⟨x, 0, none⟩)] w fun e w' => (∃ r : ByteArray, e = .returned (.string r) ∧ r.data.toList = sealed t.bytesL) ∧ Keep w.heap.size w.heap.size w w' := by
  have HR : Hid (Calls Try.prog 15 #[.pointer (some ⟨p, 0, none⟩)] w fun e w' => (∃ r : ByteArray, e = .returned (.string r) ∧ r.data.toList = sealed t.bytesL) ∧ Keep w.heap.size w.heap.size w w') := tbytes_calls p S t w hT hS ft.ok ft.nst ft.count ft.long1 ft.long2 ft.rule1 ft.rule2 ft.mode2 ft.act
  clear hT hS
  go_enter Try.func8, Try.ntmps8
  go_wp2_with fail
  refine HR.out.mono ?_
  rintro e w2 ⟨⟨r, rfl, h1⟩, h2⟩
  have H2 : Hid (r.data.toList = sealed t.bytesL ∧ Keep w.heap.size w.heap.size w w2) := ⟨h1, h2⟩
  clear h1 h2
  go_wp2_with fail
  go_ret
  exact ⟨⟨r, rfl, H2.out.1⟩, H2.out.2⟩

/-- A lexer of tables in memory. -/
structure LexAt (w : World) (S : Nat → Prop) (x p : Nat) (t : Tb) : Prop where
  cell : w.cell? ⟨x, 0, none⟩ = some (.pointer (some ⟨p, 0, none⟩))
  lt : x < w.heap.size
  tab : TabAt w S p t
  safe : ∀ k, S k → k < w.heap.size
theorem LexAt.keep {w w' : World} {S : Nat → Prop} {x p : Nat} {t : Tb} (h : LexAt w S x p t) (e : ∀ k, k < w.heap.size → w'.heap[k]? = w.heap[k]?) (hs : w.heap.size ≤ w'.heap.size) : LexAt w' S x p t :=
  ⟨(World.cell?_of_block (e x h.lt)).trans h.cell, Nat.lt_of_lt_of_le h.lt hs, h.tab.keep fun k hk => e k (h.safe k hk), fun k hk => Nat.lt_of_lt_of_le (h.safe k hk) hs⟩
theorem LexAt.grown {w w' : World} {S : Nat → Prop} {x p : Nat} {t : Tb} (h : LexAt w S x p t) (e : Keep w.heap.size w.heap.size w w') : LexAt w' S x p t := h.keep (fun k hk => e.block k hk (by omega)) e.size
theorem LexAt.alloc {w : World} {S : Nat → Prop} {x p : Nat} {t : Tb} (h : LexAt w S x p t) (o : Obj) : LexAt (w.alloc o) S x p t := h.grown (Keep.alloc _ _ (Nat.le_refl _))

set_option maxHeartbeats 1000000 in
theorem load_calls (s : ByteArray) (w : World) (hs : s.size ≤ 1048576) :
    Calls Try.prog 6 #[.string s] w fun e w' => Keep w.heap.size w.heap.size w w' ∧
      (validB s = false → e = .returned (.tuple #[.pointer none, .int .i64 7])) ∧
      (validB s = true → ∃ x p n S, e = .returned (.tuple #[.pointer (some ⟨x, 0, none⟩), .int .i64 0]) ∧ w.heap.size ≤ x ∧ LexAt w' S x p (tabOf s n) ∧ ∀ k, S k → w.heap.size ≤ k) := by
  have HR : Hid (Calls Try.prog 12 #[.string s] w fun e w' => Keep w.heap.size w.heap.size w w' ∧
      (validB s = false → e = .returned (.tuple #[.pointer none, .bool false])) ∧
      (validB s = true → ∃ b H c n, e = .returned (.tuple #[.pointer (some ⟨b, 0, none⟩), .bool true]) ∧ w.heap.size ≤ b ∧ Mem w' H b c ((tbOf s).first.itr n) ∧ (((tbOf s).first.itr n).spreadTo (hStates s)).2 = false)) := tload_calls s w hs
  cases hv : validB s with
  | false =>
    have HV : Hid (validB s = false) := hv
    clear hv
    go_enter Try.func6, Try.ntmps6
    go_wp2_with fail
    refine HR.out.mono ?_
    rintro e w2 ⟨hk, h1, _⟩
    have e1 := h1 HV.out
    subst e1
    have HK : Hid (Keep w.heap.size w.heap.size w w2) := hk
    clear hk h1
    go_wp2_with fail
    go_ret2
    exact ⟨HK.out, fun _ => rfl, fun h => by cases h⟩
  | true =>
    have HV : Hid (validB s = true) := hv
    clear hv
    go_enter Try.func6, Try.ntmps6
    go_wp2_with fail
    refine HR.out.mono ?_
    rintro e w2 ⟨hk, _, h2⟩
    obtain ⟨b, H, c, n, e1, hb, hM, _⟩ := h2 HV.out
    subst e1
    have ft := tabOf_fine s n HV.out
    have HT : Hid (TabAt w2 (Mem.blocks w2 H b) b (tabOf s n) ∧ Keep w.heap.size w.heap.size w w2 ∧ H ≤ w2.heap.size ∧ b < H ∧ w.heap.size ≤ b) := ⟨Mem.tabAt hM ft.ok.nmode ft.rule1 ft.nst ft.count ft.long1, hk, hM.HH, hM.bH, hb⟩
    clear hk h2 hM ft
    go_wp2_with fail
    go_ret2
    refine ⟨HT.out.2.1.trans (Keep.alloc _ _ HT.out.2.1.size), fun h => by (cases h), fun _ => ⟨w2.heap.size, b, n, Mem.blocks w2 H b, rfl, HT.out.2.1.size, ⟨?_, by simp, HT.out.1.keep fun k hk => Below.heap_alloc _ _ _ ?_, fun k hk => ?_⟩, fun k hk => ?_⟩⟩
    · have h := heap_alloc_new w2 (.cells #[.pointer (some ⟨b, 0, none⟩)] 52)
      unfold World.cell?
      rw [h]
      rfl
    · have h3 := HT.out.2.2.1
      have h4 := HT.out.2.2.2
      rcases hk with rfl | hk <;> omega
    · have h3 := HT.out.2.2.1
      have h4 := HT.out.2.2.2
      simp
      rcases hk with rfl | hk <;> omega
    · have h4 := HT.out.2.2.2
      rcases hk with rfl | hk <;> omega
end Go.Proofs.Yteflpladkmihdaa

/- lexerref.Valid: the walk, from a statement on. -/
namespace Go.Proofs.Yteflpladkmihdaa
open Go.RowKit

set_option maxHeartbeats 2000000 in
set_option maxRecDepth 100000 in
theorem valid_from61 (s : ByteArray) (w : World) (modes rules states kinds SK W : Nat) (g2 : modes ≤ 3) (g4 : rules ≤ 8) (g6 : states ≤ 200) (k1 : SK ≤ 51200) (k2 : W ≤ 600000) (z0 : s.size ≤ 1048576)
    (z1 : 13 + 2 * modes + 2 * rules + 256 + 2 * SK + states + (W + 7) / 8 + 4 = s.size) (okE : Bool) (res : Bool)
    (Hres : Hid (res = (okE && (decide (W % 8 = 0) || decide (byt s (13 + 2 * modes + 2 * rules + 256 + 2 * SK + states + (W + 7) / 8 - 1) / 2 ^ (W % 8) = 0)))))
    {u1 u2 u3 u4 u5 u6 u7 u12 u13 u14 u23 u24 u25 u26 u27 u28 u29 u30 u31 u32 u33 u34 u35 u36 u37 u38 u39 u40 u41 u42 u43 u44 u45 u46 u47 u48 u49 u50 u51 u52 u53 u54 u55 u56 u57 u58 u59 u60 u61 u62 u63 u64 u65 u66 u67 u68 u69 u70 u71 u72 u73 u74 u75 u76 u77 u78 u79 u80 u81 u82 u83 u84 u85 u86 u87 u88 u89 u90 u91 u92 u93 u94 u95 u96 u97 u98 u99 u100 u101 u102 u103 u104 u105 u106 u107 u108 u109 u110 u111 u112 u113 u114 u115 u116 u117 u118 u119 u120 u121 u122 u123 u124 u125 u126 u127 u128 u129 u130 u131 u132 u133 u134 u135 u136 u137 u138 u139 u140 u141 u142 u143 u144 u145 u146 u147 u148 u149 u150 u151 u152 u153 u154 u155 u156 u157 u158 u159 u160 u161 u162 u163 u164 u165 u166 u167 u168 u169 u170 u171 u172 u173 u174 u175 u176 u177 u178 u179 u180 u181 u182 u183 u184 u185 u186 u187 u188 u189 u190 u191 u192 u193 u194 u195 u196 u197 u198 u199 u200 u201 u202 u203 u204 u205 u206 u207 u208 u209 u210 u211 u212 u213 u214 u215 u216 u217 u218 u219 u220 u221 u222 u223 u224 u225 u226 u227 u228 u229 u230 u231 u232 u233 u234 u235 u236 u237 u238 u239 u240 u241 u242 u243 u244 u245 u246 u247 u248 u249 u250 u251 u252 u253 u254 u255 u256 u257 u258 u259 u260 u261 u262 u263 u264 u265 u266 u267 u268 u269 u270 u271 u272 u273 u274 u275 u276 u277 u278 u279 u280 u281 u282 u283 u284 u285 : Value} :
    Code.wp Try.prog (dropSeq 33 ((Try.f7.body).getD .skip)) (bodyPost Try.prog Try.f7 fun e w' => e = .returned (.bool res) ∧ w' = w)
      ⟨(.string s :: u1 :: u2 :: u3 :: u4 :: u5 :: u6 :: u7 :: .int .i64 (modes : Int) :: .int .i64 (rules : Int) :: .int .i64 (states : Int) :: .int .i64 (kinds : Int) :: u12 :: u13 :: u14 :: .int .i64 (W : Int) :: .int .i64 (13 + 2 * (modes : Int)) :: .int .i64 (13 + 2 * (modes : Int) + 2 * (rules : Int)) :: .int .i64 (13 + 2 * (modes : Int) + 2 * (rules : Int) + 256) :: .int .i64 (13 + 2 * (modes : Int) + 2 * (rules : Int) + 256 + 2 * (SK : Int)) :: .int .i64 (13 + 2 * (modes : Int) + 2 * (rules : Int) + 256 + 2 * (SK : Int) + (states : Int)) :: .int .i64 (13 + 2 * (modes : Int) + 2 * (rules : Int) + 256 + 2 * (SK : Int) + (states : Int) + ((W : Int) + 7) / 8) :: .bool okE :: u23 :: u24 :: u25 :: u26 :: u27 :: u28 :: u29 :: u30 :: u31 :: u32 :: u33 :: u34 :: u35 :: u36 :: u37 :: u38 :: u39 :: u40 :: u41 :: u42 :: u43 :: u44 :: u45 :: u46 :: u47 :: u48 :: u49 :: u50 :: u51 :: u52 :: u53 :: u54 :: u55 :: u56 :: u57 :: u58 :: u59 :: u60 :: u61 :: u62 :: u63 :: u64 :: u65 :: u66 :: u67 :: u68 :: u69 :: u70 :: u71 :: u72 :: u73 :: u74 :: u75 :: u76 :: u77 :: u78 :: u79 :: u80 :: u81 :: u82 :: u83 :: u84 :: u85 :: u86 :: u87 :: u88 :: u89 :: u90 :: u91 :: u92 :: u93 :: u94 :: u95 :: u96 :: u97 :: u98 :: u99 :: u100 :: u101 :: u102 :: u103 :: u104 :: u105 :: u106 :: u107 :: u108 :: u109 :: u110 :: u111 :: u112 :: u113 :: u114 :: u115 :: u116 :: u117 :: u118 :: u119 :: u120 :: u121 :: u122 :: u123 :: u124 :: u125 :: u126 :: u127 :: u128 :: u129 :: u130 :: u131 :: u132 :: u133 :: u134 :: u135 :: u136 :: u137 :: u138 :: u139 :: u140 :: u141 :: u142 :: u143 :: u144 :: u145 :: u146 :: u147 :: u148 :: u149 :: u150 :: u151 :: u152 :: u153 :: u154 :: u155 :: u156 :: u157 :: u158 :: u159 :: u160 :: u161 :: u162 :: u163 :: u164 :: u165 :: u166 :: u167 :: u168 :: u169 :: u170 :: u171 :: u172 :: u173 :: u174 :: u175 :: u176 :: u177 :: u178 :: u179 :: u180 :: u181 :: u182 :: u183 :: u184 :: u185 :: u186 :: u187 :: u188 :: u189 :: u190 :: u191 :: u192 :: u193 :: u194 :: u195 :: u196 :: u197 :: u198 :: u199 :: u200 :: u201 :: u202 :: u203 :: u204 :: u205 :: u206 :: u207 :: u208 :: u209 :: u210 :: u211 :: u212 :: u213 :: u214 :: u215 :: u216 :: u217 :: u218 :: u219 :: u220 :: u221 :: u222 :: u223 :: u224 :: u225 :: u226 :: u227 :: u228 :: u229 :: u230 :: u231 :: u232 :: u233 :: u234 :: u235 :: u236 :: u237 :: u238 :: u239 :: u240 :: u241 :: u242 :: u243 :: u244 :: u245 :: u246 :: u247 :: u248 :: u249 :: u250 :: u251 :: u252 :: u253 :: u254 :: u255 :: u256 :: u257 :: u258 :: u259 :: u260 :: u261 :: u262 :: u263 :: u264 :: u265 :: u266 :: u267 :: u268 :: u269 :: u270 :: u271 :: u272 :: u273 :: u274 :: u275 :: u276 :: u277 :: u278 :: u279 :: u280 :: u281 :: u282 :: u283 :: u284 :: u285 :: []).toArray, []⟩ w := by
  have z2 : 13 + 2 * modes + 2 * rules + 256 + 2 * SK + states + (W + 7) / 8 + 4 ≤ s.size := by omega
  have Z1 : Hid (13 + 2 * modes + 2 * rules + 256 + 2 * SK + states + (W + 7) / 8 + 4 = s.size) := z1
  clear z1
  conv => arg 2; whnf
  by_cases hw8 : W % 8 = 0
  · have hw9 : ¬ (0 : Int) < (W : Int) % 8 := by omega
    have Hw8 : Hid (W % 8 = 0) := hw8
    clear hw8
    go_wp2_with fail
    go_ret
    exact ⟨by rw [Hres.out, Hw8.out]; simp, rfl⟩
  · have hw9 : (0 : Int) < (W : Int) % 8 := by omega
    have hbd : 13 + 2 * modes + 2 * rules + 256 + 2 * SK + states + (W + 7) / 8 - 1 < s.size := by omega
    have v1 : (s[13 + 2 * modes + 2 * rules + 256 + 2 * SK + states + (W + 7) / 8 - 1]'(by omega)).toNat < 256 := UInt8.toNat_lt _
    cases okE
    · go_wp2_with fail
      go_ret
      exact ⟨by rw [Hres.out]; rfl, rfl⟩
    · go_wp2_with fail
      go_ret
      exact ⟨ret_bool (by rw [Hres.out, ← byt_eq s _ hbd, fin_eq, show decide (W % 8 = 0) = false from decide_eq_false hw8]; rfl), rfl⟩

end Go.Proofs.Yteflpladkmihdaa

/- lexerref.Valid: the walk, from a statement on. -/
namespace Go.Proofs.Yteflpladkmihdaa
open Go.RowKit

set_option maxHeartbeats 2000000 in
set_option maxRecDepth 100000 in
theorem valid_from57 (s : ByteArray) (w : World) (modes rules states kinds SK W : Nat) (g2 : modes ≤ 3) (g4 : rules ≤ 8) (g6 : states ≤ 200) (k1 : SK ≤ 51200) (k2 : W ≤ 600000) (z0 : s.size ≤ 1048576)
    (z1 : 13 + 2 * modes + 2 * rules + 256 + 2 * SK + states + (W + 7) / 8 + 4 = s.size) (okD : Bool) (res : Bool)
    (Hres : Hid (res = ((okD && okEnds s (13 + 2 * modes + 2 * rules + 256 + 2 * SK) rules states) && (decide (W % 8 = 0) || decide (byt s (13 + 2 * modes + 2 * rules + 256 + 2 * SK + states + (W + 7) / 8 - 1) / 2 ^ (W % 8) = 0)))))
    {u1 u2 u3 u4 u5 u6 u7 u12 u13 u14 u23 u24 u25 u26 u27 u28 u29 u30 u31 u32 u33 u34 u35 u36 u37 u38 u39 u40 u41 u42 u43 u44 u45 u46 u47 u48 u49 u50 u51 u52 u53 u54 u55 u56 u57 u58 u59 u60 u61 u62 u63 u64 u65 u66 u67 u68 u69 u70 u71 u72 u73 u74 u75 u76 u77 u78 u79 u80 u81 u82 u83 u84 u85 u86 u87 u88 u89 u90 u91 u92 u93 u94 u95 u96 u97 u98 u99 u100 u101 u102 u103 u104 u105 u106 u107 u108 u109 u110 u111 u112 u113 u114 u115 u116 u117 u118 u119 u120 u121 u122 u123 u124 u125 u126 u127 u128 u129 u130 u131 u132 u133 u134 u135 u136 u137 u138 u139 u140 u141 u142 u143 u144 u145 u146 u147 u148 u149 u150 u151 u152 u153 u154 u155 u156 u157 u158 u159 u160 u161 u162 u163 u164 u165 u166 u167 u168 u169 u170 u171 u172 u173 u174 u175 u176 u177 u178 u179 u180 u181 u182 u183 u184 u185 u186 u187 u188 u189 u190 u191 u192 u193 u194 u195 u196 u197 u198 u199 u200 u201 u202 u203 u204 u205 u206 u207 u208 u209 u210 u211 u212 u213 u214 u215 u216 u217 u218 u219 u220 u221 u222 u223 u224 u225 u226 u227 u228 u229 u230 u231 u232 u233 u234 u235 u236 u237 u238 u239 u240 u241 u242 u243 u244 u245 u246 u247 u248 u249 u250 u251 u252 u253 u254 u255 u256 u257 u258 u259 u260 u261 u262 u263 u264 u265 u266 u267 u268 u269 u270 u271 u272 u273 u274 u275 u276 u277 u278 u279 u280 u281 u282 u283 u284 u285 : Value} :
    Code.wp Try.prog (dropSeq 32 ((Try.f7.body).getD .skip)) (bodyPost Try.prog Try.f7 fun e w' => e = .returned (.bool res) ∧ w' = w)
      ⟨(.string s :: u1 :: u2 :: u3 :: u4 :: u5 :: u6 :: u7 :: .int .i64 (modes : Int) :: .int .i64 (rules : Int) :: .int .i64 (states : Int) :: .int .i64 (kinds : Int) :: u12 :: u13 :: u14 :: .int .i64 (W : Int) :: .int .i64 (13 + 2 * (modes : Int)) :: .int .i64 (13 + 2 * (modes : Int) + 2 * (rules : Int)) :: .int .i64 (13 + 2 * (modes : Int) + 2 * (rules : Int) + 256) :: .int .i64 (13 + 2 * (modes : Int) + 2 * (rules : Int) + 256 + 2 * (SK : Int)) :: .int .i64 (13 + 2 * (modes : Int) + 2 * (rules : Int) + 256 + 2 * (SK : Int) + (states : Int)) :: .int .i64 (13 + 2 * (modes : Int) + 2 * (rules : Int) + 256 + 2 * (SK : Int) + (states : Int) + ((W : Int) + 7) / 8) :: .bool okD :: u23 :: u24 :: u25 :: u26 :: u27 :: u28 :: u29 :: u30 :: u31 :: u32 :: u33 :: u34 :: u35 :: u36 :: u37 :: u38 :: u39 :: u40 :: u41 :: u42 :: u43 :: u44 :: u45 :: u46 :: u47 :: u48 :: u49 :: u50 :: u51 :: u52 :: u53 :: u54 :: u55 :: u56 :: u57 :: u58 :: u59 :: u60 :: u61 :: u62 :: u63 :: u64 :: u65 :: u66 :: u67 :: u68 :: u69 :: u70 :: u71 :: u72 :: u73 :: u74 :: u75 :: u76 :: u77 :: u78 :: u79 :: u80 :: u81 :: u82 :: u83 :: u84 :: u85 :: u86 :: u87 :: u88 :: u89 :: u90 :: u91 :: u92 :: u93 :: u94 :: u95 :: u96 :: u97 :: u98 :: u99 :: u100 :: u101 :: u102 :: u103 :: u104 :: u105 :: u106 :: u107 :: u108 :: u109 :: u110 :: u111 :: u112 :: u113 :: u114 :: u115 :: u116 :: u117 :: u118 :: u119 :: u120 :: u121 :: u122 :: u123 :: u124 :: u125 :: u126 :: u127 :: u128 :: u129 :: u130 :: u131 :: u132 :: u133 :: u134 :: u135 :: u136 :: u137 :: u138 :: u139 :: u140 :: u141 :: u142 :: u143 :: u144 :: u145 :: u146 :: u147 :: u148 :: u149 :: u150 :: u151 :: u152 :: u153 :: u154 :: u155 :: u156 :: u157 :: u158 :: u159 :: u160 :: u161 :: u162 :: u163 :: u164 :: u165 :: u166 :: u167 :: u168 :: u169 :: u170 :: u171 :: u172 :: u173 :: u174 :: u175 :: u176 :: u177 :: u178 :: u179 :: u180 :: u181 :: u182 :: u183 :: u184 :: u185 :: u186 :: u187 :: u188 :: u189 :: u190 :: u191 :: u192 :: u193 :: u194 :: u195 :: u196 :: u197 :: u198 :: u199 :: u200 :: u201 :: u202 :: u203 :: u204 :: u205 :: u206 :: u207 :: u208 :: u209 :: u210 :: u211 :: u212 :: u213 :: u214 :: u215 :: u216 :: u217 :: u218 :: u219 :: u220 :: u221 :: u222 :: u223 :: u224 :: u225 :: u226 :: u227 :: u228 :: u229 :: u230 :: u231 :: u232 :: u233 :: u234 :: u235 :: u236 :: u237 :: u238 :: u239 :: u240 :: u241 :: u242 :: u243 :: u244 :: u245 :: u246 :: u247 :: u248 :: u249 :: u250 :: u251 :: u252 :: u253 :: u254 :: u255 :: u256 :: u257 :: u258 :: u259 :: u260 :: u261 :: u262 :: u263 :: u264 :: u265 :: u266 :: u267 :: u268 :: u269 :: u270 :: u271 :: u272 :: u273 :: u274 :: u275 :: u276 :: u277 :: u278 :: u279 :: u280 :: u281 :: u282 :: u283 :: u284 :: u285 :: []).toArray, []⟩ w := by
  have z2 : 13 + 2 * modes + 2 * rules + 256 + 2 * SK + states + (W + 7) / 8 + 4 ≤ s.size := by omega
  have Z1 : Hid (13 + 2 * modes + 2 * rules + 256 + 2 * SK + states + (W + 7) / 8 + 4 = s.size) := z1
  clear z1
  conv => arg 2; whnf
  refine wp_seq_k ?_
  intro K hK
  have HK : Hid (∀ a w, _ → K a w) := hK
  clear hK
  go_wp2_with fail
  go_loop [22, 31] (fun ok i => ∃ k : Nat, k ≤ states ∧ i = .int .i64 (13 + 2 * (modes : Int) + 2 * (rules : Int) + 256 + 2 * (SK : Int) + (k : Int)) ∧ ok = .bool (okD && okEnds s (13 + 2 * modes + 2 * rules + 256 + 2 * SK) rules k)) (fun _ i => (13 + 2 * modes + 2 * rules + 256 + 2 * SK) + states - (intOf i).toNat)
  case atStart => exact ⟨0, Nat.zero_le _, congrArg (Value.int IntKind.i64) (by omega), by simp [okEnds]⟩
  case round =>
    obtain ⟨k, hk, rfl, rfl⟩ := hrel
    have HO : Hid (okEnds s (13 + 2 * modes + 2 * rules + 256 + 2 * SK) rules (k + 1) = (okEnds s (13 + 2 * modes + 2 * rules + 256 + 2 * SK) rules k && decide (byt s ((13 + 2 * modes + 2 * rules + 256 + 2 * SK) + k) ≤ rules))) := okEnds_succ s (13 + 2 * modes + 2 * rules + 256 + 2 * SK) rules k
    by_cases hlt : k < states
    · have hbd : 13 + 2 * modes + 2 * rules + 256 + 2 * SK + k < s.size := by omega
      have v1 : (s[13 + 2 * modes + 2 * rules + 256 + 2 * SK + k]'(by omega)).toNat < 256 := UInt8.toNat_lt _
      rw [← byt_eq s (13 + 2 * modes + 2 * rules + 256 + 2 * SK + k) hbd] at HO
      generalize hok : (okD && okEnds s (13 + 2 * modes + 2 * rules + 256 + 2 * SK) rules k) = ok at *
      have Hok : Hid ((okD && okEnds s (13 + 2 * modes + 2 * rules + 256 + 2 * SK) rules k) = ok) := hok
      clear hok
      cases ok
      all_goals
        go_wp2_with fail
        exact ⟨⟨k + 1, by omega, congrArg (Value.int IntKind.i64) (by omega), by rw [HO.out, ← Bool.and_assoc, Hok.out]; rfl⟩, by simp [intOf]; omega⟩
    · have hke : states = k := by omega
      subst hke
      generalize hokE : (okD && okEnds s (13 + 2 * modes + 2 * rules + 256 + 2 * SK) rules states) = okE at *
      clear hokE HO hlt
      go_wp2_with fail
      exact HK.out _ _ (valid_from61 s _ modes rules states kinds SK W g2 g4 g6 k1 k2 z0 Z1.out okE res Hres)

end Go.Proofs.Yteflpladkmihdaa
