/- The library's stable sort, as far as numbers change places: symMerge, whole; stable; SortStableFunc. The library's stable sort, as far as numbers change places: stable; SortStableFunc. -/
import Derived.Test.YtbngdlbecdloiaaBrSy
import Derived.Deep.RegionHeld3
import Derived.Deep.DeepCutAuto
set_option maxHeartbeats 16000000
set_option maxRecDepth 20000
namespace Go.Proofs.Ytbngdlbecdloiaa
open Go.RowKit
set_option linter.unusedVariables false
set_option linter.unusedSimpArgs false
/-- the first region of a code -/
def firstReg : Code → Option Nat
  | .region r _ _ => some r
  | .seq a _ => firstReg a
  | .scope c => firstReg c
  | _ => none
/-- a code from a region on -/
def restAt (r : Nat) : Code → Option Code
  | .seq a b => if firstReg a = some r then some (.seq a b) else (restAt r a).orElse fun _ => restAt r b
  | .block _ c => restAt r c
  | .scope c => restAt r c
  | .cond _ a b => (restAt r a).orElse fun _ => restAt r b
  | .loop c => restAt r c
  | _ => none
set_option maxRecDepth 100000 in
set_option maxHeartbeats 4000000 in
theorem symTail3 (lb off n cap : Nat) (N : Int) (pb : Value) (hn : n ≤ 1000) (d : Nat) (ih : ∀ (a m b : Nat) (V : Nat → Int) (w : World), Rwo w lb off n V → (∀ i, i < n → 0 ≤ V i ∧ V i < N) → Cmp lb off n N pb w → lb < w.heap.size → b - a ≤ d → a < m → m < b → b ≤ n →
    Calls Try.prog 104 #[.slice (some ⟨lb, off, none⟩) n cap, .int .i64 a, .int .i64 m, .int .i64 b, .func (.func 82) #[] #[pb]] w fun e w' => e = .returned (.tuple #[]) ∧ Srt lb off n V w w')
    (a m b mid en x : Nat) (V : Nat → Int) (w wr : World) (hV : ∀ i, i < n → 0 ≤ V i ∧ V i < N) (hC : Cmp lb off n N pb w) (hl : lb < w.heap.size) (hd : b - a ≤ d + 1) (ha : a < m) (hm : m < b) (hb : b ≤ n) (hmid : (a + b) / 2 = mid) (hen : mid + m - x = en) (hx1 : a ≤ x) (hx2 : x ≤ m) (hx3 : x ≤ mid) (hx4 : mid + m ≤ x + b) (hSR : Srt lb off n V w wr) (u5 u6 u7 u8 u9 u10 u11 u12 u13 u14 u15 u16 u17 u19 u21 u22 u23 u25 u26 u27 u28 u29 u30 u31 u32 u33 u34 u35 u36 u37 u38 u39 u40 u41 u42 u43 u44 u45 u46 u47 u48 u49 u50 u51 u52 u53 u54 u55 u56 u57 u58 u59 u60 u61 u62 u63 u64 u65 u66 u67 u68 u69 u70 u71 u72 u73 u74 u75 u76 u77 u78 u79 u80 u81 u82 u83 u84 u85 u86 u87 u88 u89 u90 u91 u92 u93 u94 u95 u96 u97 u98 u99 u100 u101 u102 u103 u104 u105 u106 u107 u108 u109 u110 u111 u112 u113 u114 u115 u116 u117 u118 u119 u120 u121 u122 u123 u124 u125 u126 u127 u128 u129 u130 u131 u132 u133 u134 u135 u136 u137 u138 u139 u140 u141 u142 u143 u144 u145 u146 u147 u148 u149 u150 u151 u152 u153 u154 u155 u156 u157 u158 u159 u160 u161 u162 u163 u164 u165 u166 u167 u168 u169 u170 u171 u172 u173 u174 u175 u176 u177 u178 u179 u180 u181 u182 u183 u184 u185 u186 u187 u188 u189 u190 u191 u192 u193 u194 u195 u196 u197 u198 u199 u200 u201 u202 u203 u204 u205 u206 u207 u208 u209 u210 u211 u212 u213 u214 u215 u216 u217 u218 u219 : Value) :
    Code.wp Try.prog ((Try.f104.body.bind (restAt 43)).getD .skip) (bodyPost Try.prog Try.f104 fun e w' => e = .returned (.tuple #[]) ∧ Srt lb off n V w w') ⟨List.toArray ((.slice (some ⟨lb, off, none⟩) n cap) :: (.int .i64 (a : Int)) :: (.int .i64 (m : Int)) :: (.int .i64 (b : Int)) :: (.func (.func 82) #[] #[pb]) :: u5 :: u6 :: u7 :: u8 :: u9 :: u10 :: u11 :: u12 :: u13 :: u14 :: u15 :: u16 :: u17 :: (.int .i64 (mid : Int)) :: u19 :: (.int .i64 (x : Int)) :: u21 :: u22 :: u23 :: (.int .i64 (en : Int)) :: u25 :: u26 :: u27 :: u28 :: u29 :: u30 :: u31 :: u32 :: u33 :: u34 :: u35 :: u36 :: u37 :: u38 :: u39 :: u40 :: u41 :: u42 :: u43 :: u44 :: u45 :: u46 :: u47 :: u48 :: u49 :: u50 :: u51 :: u52 :: u53 :: u54 :: u55 :: u56 :: u57 :: u58 :: u59 :: u60 :: u61 :: u62 :: u63 :: u64 :: u65 :: u66 :: u67 :: u68 :: u69 :: u70 :: u71 :: u72 :: u73 :: u74 :: u75 :: u76 :: u77 :: u78 :: u79 :: u80 :: u81 :: u82 :: u83 :: u84 :: u85 :: u86 :: u87 :: u88 :: u89 :: u90 :: u91 :: u92 :: u93 :: u94 :: u95 :: u96 :: u97 :: u98 :: u99 :: u100 :: u101 :: u102 :: u103 :: u104 :: u105 :: u106 :: u107 :: u108 :: u109 :: u110 :: u111 :: u112 :: u113 :: u114 :: u115 :: u116 :: u117 :: u118 :: u119 :: u120 :: u121 :: u122 :: u123 :: u124 :: u125 :: u126 :: u127 :: u128 :: u129 :: u130 :: u131 :: u132 :: u133 :: u134 :: u135 :: u136 :: u137 :: u138 :: u139 :: u140 :: u141 :: u142 :: u143 :: u144 :: u145 :: u146 :: u147 :: u148 :: u149 :: u150 :: u151 :: u152 :: u153 :: u154 :: u155 :: u156 :: u157 :: u158 :: u159 :: u160 :: u161 :: u162 :: u163 :: u164 :: u165 :: u166 :: u167 :: u168 :: u169 :: u170 :: u171 :: u172 :: u173 :: u174 :: u175 :: u176 :: u177 :: u178 :: u179 :: u180 :: u181 :: u182 :: u183 :: u184 :: u185 :: u186 :: u187 :: u188 :: u189 :: u190 :: u191 :: u192 :: u193 :: u194 :: u195 :: u196 :: u197 :: u198 :: u199 :: u200 :: u201 :: u202 :: u203 :: u204 :: u205 :: u206 :: u207 :: u208 :: u209 :: u210 :: u211 :: u212 :: u213 :: u214 :: u215 :: u216 :: u217 :: u218 :: u219 :: []), []⟩ wr := by
  conv => arg 2; whnf
  go_upto_region 43 with fail
  go_cut [213] (fun s wc => ∃ q : Bool, s = .bool q ∧ (q = true → mid < en ∧ en < b) ∧ Srt lb off n V w wc)
  case first =>
    by_cases hp : mid < en
    · have hp1 : (mid : Int) < (en : Int) := by omega
      have hp2 : decide ((mid : Int) < (en : Int)) = true := decide_eq_true hp1
      go_wp2_with fail
      go_meet
      exact ⟨_, rfl, fun hx => ⟨hp, by have := of_decide_eq_true hx; omega⟩, hSR⟩
    · have hp1 : ¬ ((mid : Int) < (en : Int)) := by omega
      have hp2 : decide ((mid : Int) < (en : Int)) = false := decide_eq_false hp1
      go_wp2_with fail
      go_meet
      exact ⟨_, rfl, fun hx => (by cases hx), hSR⟩
  case rest =>
  clear hSR
  obtain ⟨q, rfl, hq, hSR⟩ := hcut
  cases q with
  | true =>
    obtain ⟨hq1, hq2⟩ := hq rfl
    obtain ⟨⟨U, hS, hR⟩, hT⟩ := hSR
    have hU := hS.all (P := fun v => 0 ≤ v ∧ v < N) hV
    go_wp2_with (go_at_call 104; refine (ih _ _ _ U _ hR hU (hC.on hT) (hT.lt hl) (by omega) (by omega) (by omega) (by omega)).mono ?_; rintro e w1 ⟨rfl, hS1⟩)
    go_end0
    exact ⟨rfl, Srt.trans hT hS hS1⟩
  | false =>
    go_wp2_with fail
    go_end0
    exact ⟨rfl, hSR⟩
set_option maxRecDepth 100000 in
set_option maxHeartbeats 4000000 in
theorem symTail2 (lb off n cap : Nat) (N : Int) (pb : Value) (hn : n ≤ 1000) (d : Nat) (ih : ∀ (a m b : Nat) (V : Nat → Int) (w : World), Rwo w lb off n V → (∀ i, i < n → 0 ≤ V i ∧ V i < N) → Cmp lb off n N pb w → lb < w.heap.size → b - a ≤ d → a < m → m < b → b ≤ n →
    Calls Try.prog 104 #[.slice (some ⟨lb, off, none⟩) n cap, .int .i64 a, .int .i64 m, .int .i64 b, .func (.func 82) #[] #[pb]] w fun e w' => e = .returned (.tuple #[]) ∧ Srt lb off n V w w')
    (a m b mid en x : Nat) (V : Nat → Int) (w wr : World) (hV : ∀ i, i < n → 0 ≤ V i ∧ V i < N) (hC : Cmp lb off n N pb w) (hl : lb < w.heap.size) (hd : b - a ≤ d + 1) (ha : a < m) (hm : m < b) (hb : b ≤ n) (hmid : (a + b) / 2 = mid) (hen : mid + m - x = en) (hx1 : a ≤ x) (hx2 : x ≤ m) (hx3 : x ≤ mid) (hx4 : mid + m ≤ x + b) (hSR : Srt lb off n V w wr) (u5 u6 u7 u8 u9 u10 u11 u12 u13 u14 u15 u16 u17 u19 u21 u22 u23 u25 u26 u27 u28 u29 u30 u31 u32 u33 u34 u35 u36 u37 u38 u39 u40 u41 u42 u43 u44 u45 u46 u47 u48 u49 u50 u51 u52 u53 u54 u55 u56 u57 u58 u59 u60 u61 u62 u63 u64 u65 u66 u67 u68 u69 u70 u71 u72 u73 u74 u75 u76 u77 u78 u79 u80 u81 u82 u83 u84 u85 u86 u87 u88 u89 u90 u91 u92 u93 u94 u95 u96 u97 u98 u99 u100 u101 u102 u103 u104 u105 u106 u107 u108 u109 u110 u111 u112 u113 u114 u115 u116 u117 u118 u119 u120 u121 u122 u123 u124 u125 u126 u127 u128 u129 u130 u131 u132 u133 u134 u135 u136 u137 u138 u139 u140 u141 u142 u143 u144 u145 u146 u147 u148 u149 u150 u151 u152 u153 u154 u155 u156 u157 u158 u159 u160 u161 u162 u163 u164 u165 u166 u167 u168 u169 u170 u171 u172 u173 u174 u175 u176 u177 u178 u179 u180 u181 u182 u183 u184 u185 u186 u187 u188 u189 u190 u191 u192 u193 u194 u195 u196 u197 u198 u199 u200 u201 u202 u203 u204 u205 u206 u207 u208 u209 u210 u211 u212 u213 u214 u215 u216 u217 u218 u219 : Value) :
    Code.wp Try.prog ((Try.f104.body.bind (restAt 41)).getD .skip) (bodyPost Try.prog Try.f104 fun e w' => e = .returned (.tuple #[]) ∧ Srt lb off n V w w') ⟨List.toArray ((.slice (some ⟨lb, off, none⟩) n cap) :: (.int .i64 (a : Int)) :: (.int .i64 (m : Int)) :: (.int .i64 (b : Int)) :: (.func (.func 82) #[] #[pb]) :: u5 :: u6 :: u7 :: u8 :: u9 :: u10 :: u11 :: u12 :: u13 :: u14 :: u15 :: u16 :: u17 :: (.int .i64 (mid : Int)) :: u19 :: (.int .i64 (x : Int)) :: u21 :: u22 :: u23 :: (.int .i64 (en : Int)) :: u25 :: u26 :: u27 :: u28 :: u29 :: u30 :: u31 :: u32 :: u33 :: u34 :: u35 :: u36 :: u37 :: u38 :: u39 :: u40 :: u41 :: u42 :: u43 :: u44 :: u45 :: u46 :: u47 :: u48 :: u49 :: u50 :: u51 :: u52 :: u53 :: u54 :: u55 :: u56 :: u57 :: u58 :: u59 :: u60 :: u61 :: u62 :: u63 :: u64 :: u65 :: u66 :: u67 :: u68 :: u69 :: u70 :: u71 :: u72 :: u73 :: u74 :: u75 :: u76 :: u77 :: u78 :: u79 :: u80 :: u81 :: u82 :: u83 :: u84 :: u85 :: u86 :: u87 :: u88 :: u89 :: u90 :: u91 :: u92 :: u93 :: u94 :: u95 :: u96 :: u97 :: u98 :: u99 :: u100 :: u101 :: u102 :: u103 :: u104 :: u105 :: u106 :: u107 :: u108 :: u109 :: u110 :: u111 :: u112 :: u113 :: u114 :: u115 :: u116 :: u117 :: u118 :: u119 :: u120 :: u121 :: u122 :: u123 :: u124 :: u125 :: u126 :: u127 :: u128 :: u129 :: u130 :: u131 :: u132 :: u133 :: u134 :: u135 :: u136 :: u137 :: u138 :: u139 :: u140 :: u141 :: u142 :: u143 :: u144 :: u145 :: u146 :: u147 :: u148 :: u149 :: u150 :: u151 :: u152 :: u153 :: u154 :: u155 :: u156 :: u157 :: u158 :: u159 :: u160 :: u161 :: u162 :: u163 :: u164 :: u165 :: u166 :: u167 :: u168 :: u169 :: u170 :: u171 :: u172 :: u173 :: u174 :: u175 :: u176 :: u177 :: u178 :: u179 :: u180 :: u181 :: u182 :: u183 :: u184 :: u185 :: u186 :: u187 :: u188 :: u189 :: u190 :: u191 :: u192 :: u193 :: u194 :: u195 :: u196 :: u197 :: u198 :: u199 :: u200 :: u201 :: u202 :: u203 :: u204 :: u205 :: u206 :: u207 :: u208 :: u209 :: u210 :: u211 :: u212 :: u213 :: u214 :: u215 :: u216 :: u217 :: u218 :: u219 :: []), []⟩ wr := by
  conv => arg 2; whnf
  go_upto_region 41 with fail
  go_cut [199] (fun s wc => ∃ q : Bool, s = .bool q ∧ (q = true → a < x ∧ x < mid) ∧ Srt lb off n V w wc)
  case first =>
    by_cases hp : a < x
    · have hp1 : (a : Int) < (x : Int) := by omega
      have hp2 : decide ((a : Int) < (x : Int)) = true := decide_eq_true hp1
      go_wp2_with fail
      go_meet
      exact ⟨_, rfl, fun hx => ⟨hp, by have := of_decide_eq_true hx; omega⟩, hSR⟩
    · have hp1 : ¬ ((a : Int) < (x : Int)) := by omega
      have hp2 : decide ((a : Int) < (x : Int)) = false := decide_eq_false hp1
      go_wp2_with fail
      go_meet
      exact ⟨_, rfl, fun hx => (by cases hx), hSR⟩
  case rest =>
  clear hSR
  obtain ⟨q, rfl, hq, hSR⟩ := hcut
  go_upto_if 199 with fail
  go_cut [] (fun wc => Srt lb off n V w wc)
  case first =>
    cases q with
    | true =>
      obtain ⟨hq1, hq2⟩ := hq rfl
      obtain ⟨⟨U, hS, hR⟩, hT⟩ := hSR
      have hU := hS.all (P := fun v => 0 ≤ v ∧ v < N) hV
      go_wp2_with (go_at_call 104; refine (ih _ _ _ U _ hR hU (hC.on hT) (hT.lt hl) (by omega) (by omega) (by omega) (by omega)).mono ?_; rintro e w1 ⟨rfl, hS1⟩)
      go_meet
      exact Srt.trans hT hS hS1
    | false =>
      go_wp2_with fail
      go_meet
      exact hSR
  case rest =>
  clear hSR hq
  have hSR := hcut
  clear hcut
  rename ∀ (a : Act) (w : World), Code.wp Try.prog _ _ a w → _ => hKK
  refine hKK _ _ ?_
  exact symTail3 lb off n cap N pb hn d ih a m b mid en x V w wc hV hC hl hd ha hm hb hmid hen hx1 hx2 hx3 hx4 hSR _ _ _ _ _ _ _ _ _ _ _ _ _ _ _ _ _ _ _ _ _ _ _ _ _ _ _ _ _ _ _ _ _ _ _ _ _ _ _ _ _ _ _ _ _ _ _ _ _ _ _ _ _ _ _ _ _ _ _ _ _ _ _ _ _ _ _ _ _ _ _ _ _ _ _ _ _ _ _ _ _ _ _ _ _ _ _ _ _ _ _ _ _ _ _ _ _ _ _ _ _ _ _ _ _ _ _ _ _ _ _ _ _ _ _ _ _ _ _ _ _ _ _ _ _ _ _ _ _ _ _ _ _ _ _ _ _ _ _ _ _ _ _ _ _ _ _ _ _ _ _ _ _ _ _ _ _ _ _ _ _ _ _ _ _ _ _ _ _ _ _ _ _ _ _ _ _ _ _ _ _ _ _ _ _ _ _ _ _ _ _ _ _ _ _ _ _ _ _ _ _ _ _ _ _ _ _ _ _ _ _ _
set_option maxRecDepth 100000 in
set_option maxHeartbeats 4000000 in
theorem symTail (lb off n cap : Nat) (N : Int) (pb : Value) (hn : n ≤ 1000) (d : Nat) (ih : ∀ (a m b : Nat) (V : Nat → Int) (w : World), Rwo w lb off n V → (∀ i, i < n → 0 ≤ V i ∧ V i < N) → Cmp lb off n N pb w → lb < w.heap.size → b - a ≤ d → a < m → m < b → b ≤ n →
    Calls Try.prog 104 #[.slice (some ⟨lb, off, none⟩) n cap, .int .i64 a, .int .i64 m, .int .i64 b, .func (.func 82) #[] #[pb]] w fun e w' => e = .returned (.tuple #[]) ∧ Srt lb off n V w w')
    (a m b mid en x : Nat) (V : Nat → Int) (w wr : World) (hV : ∀ i, i < n → 0 ≤ V i ∧ V i < N) (hC : Cmp lb off n N pb w) (hl : lb < w.heap.size) (hd : b - a ≤ d + 1) (ha : a < m) (hm : m < b) (hb : b ≤ n) (hmid : (a + b) / 2 = mid) (hen : mid + m - x = en) (hx1 : a ≤ x) (hx2 : x ≤ m) (hx3 : x ≤ mid) (hx4 : mid + m ≤ x + b) (hSR : Srt lb off n V w wr) (u5 u6 u7 u8 u9 u10 u11 u12 u13 u14 u15 u16 u17 u19 u21 u22 u23 u25 u26 u27 u28 u29 u30 u31 u32 u33 u34 u35 u36 u37 u38 u39 u40 u41 u42 u43 u44 u45 u46 u47 u48 u49 u50 u51 u52 u53 u54 u55 u56 u57 u58 u59 u60 u61 u62 u63 u64 u65 u66 u67 u68 u69 u70 u71 u72 u73 u74 u75 u76 u77 u78 u79 u80 u81 u82 u83 u84 u85 u86 u87 u88 u89 u90 u91 u92 u93 u94 u95 u96 u97 u98 u99 u100 u101 u102 u103 u104 u105 u106 u107 u108 u109 u110 u111 u112 u113 u114 u115 u116 u117 u118 u119 u120 u121 u122 u123 u124 u125 u126 u127 u128 u129 u130 u131 u132 u133 u134 u135 u136 u137 u138 u139 u140 u141 u142 u143 u144 u145 u146 u147 u148 u149 u150 u151 u152 u153 u154 u155 u156 u157 u158 u159 u160 u161 u162 u163 u164 u165 u166 u167 u168 u169 u170 u171 u172 u173 u174 u175 u176 u177 u178 u179 u180 u181 u182 u183 u184 u185 u186 u187 u188 u189 u190 u191 u192 u193 u194 u195 u196 u197 u198 u199 u200 u201 u202 u203 u204 u205 u206 u207 u208 u209 u210 u211 u212 u213 u214 u215 u216 u217 u218 u219 : Value) :
    Code.wp Try.prog ((Try.f104.body.bind (restAt 39)).getD .skip) (bodyPost Try.prog Try.f104 fun e w' => e = .returned (.tuple #[]) ∧ Srt lb off n V w w') ⟨List.toArray ((.slice (some ⟨lb, off, none⟩) n cap) :: (.int .i64 (a : Int)) :: (.int .i64 (m : Int)) :: (.int .i64 (b : Int)) :: (.func (.func 82) #[] #[pb]) :: u5 :: u6 :: u7 :: u8 :: u9 :: u10 :: u11 :: u12 :: u13 :: u14 :: u15 :: u16 :: u17 :: (.int .i64 (mid : Int)) :: u19 :: (.int .i64 (x : Int)) :: u21 :: u22 :: u23 :: (.int .i64 (en : Int)) :: u25 :: u26 :: u27 :: u28 :: u29 :: u30 :: u31 :: u32 :: u33 :: u34 :: u35 :: u36 :: u37 :: u38 :: u39 :: u40 :: u41 :: u42 :: u43 :: u44 :: u45 :: u46 :: u47 :: u48 :: u49 :: u50 :: u51 :: u52 :: u53 :: u54 :: u55 :: u56 :: u57 :: u58 :: u59 :: u60 :: u61 :: u62 :: u63 :: u64 :: u65 :: u66 :: u67 :: u68 :: u69 :: u70 :: u71 :: u72 :: u73 :: u74 :: u75 :: u76 :: u77 :: u78 :: u79 :: u80 :: u81 :: u82 :: u83 :: u84 :: u85 :: u86 :: u87 :: u88 :: u89 :: u90 :: u91 :: u92 :: u93 :: u94 :: u95 :: u96 :: u97 :: u98 :: u99 :: u100 :: u101 :: u102 :: u103 :: u104 :: u105 :: u106 :: u107 :: u108 :: u109 :: u110 :: u111 :: u112 :: u113 :: u114 :: u115 :: u116 :: u117 :: u118 :: u119 :: u120 :: u121 :: u122 :: u123 :: u124 :: u125 :: u126 :: u127 :: u128 :: u129 :: u130 :: u131 :: u132 :: u133 :: u134 :: u135 :: u136 :: u137 :: u138 :: u139 :: u140 :: u141 :: u142 :: u143 :: u144 :: u145 :: u146 :: u147 :: u148 :: u149 :: u150 :: u151 :: u152 :: u153 :: u154 :: u155 :: u156 :: u157 :: u158 :: u159 :: u160 :: u161 :: u162 :: u163 :: u164 :: u165 :: u166 :: u167 :: u168 :: u169 :: u170 :: u171 :: u172 :: u173 :: u174 :: u175 :: u176 :: u177 :: u178 :: u179 :: u180 :: u181 :: u182 :: u183 :: u184 :: u185 :: u186 :: u187 :: u188 :: u189 :: u190 :: u191 :: u192 :: u193 :: u194 :: u195 :: u196 :: u197 :: u198 :: u199 :: u200 :: u201 :: u202 :: u203 :: u204 :: u205 :: u206 :: u207 :: u208 :: u209 :: u210 :: u211 :: u212 :: u213 :: u214 :: u215 :: u216 :: u217 :: u218 :: u219 :: []), []⟩ wr := by
  conv => arg 2; whnf
  go_upto_region 39 with fail
  go_cut [185] (fun s wc => ∃ q : Bool, s = .bool q ∧ (q = true → x < m ∧ m < en) ∧ Srt lb off n V w wc)
  case first =>
    by_cases hp : x < m
    · have hp1 : (x : Int) < (m : Int) := by omega
      have hp2 : decide ((x : Int) < (m : Int)) = true := decide_eq_true hp1
      go_wp2_with fail
      go_meet
      exact ⟨_, rfl, fun hx => ⟨hp, by have := of_decide_eq_true hx; omega⟩, hSR⟩
    · have hp1 : ¬ ((x : Int) < (m : Int)) := by omega
      have hp2 : decide ((x : Int) < (m : Int)) = false := decide_eq_false hp1
      go_wp2_with fail
      go_meet
      exact ⟨_, rfl, fun hx => (by cases hx), hSR⟩
  case rest =>
  clear hSR
  obtain ⟨q, rfl, hq, hSR⟩ := hcut
  go_upto_if 185 with fail
  go_cut [] (fun wc => Srt lb off n V w wc)
  case first =>
    cases q with
    | true =>
      obtain ⟨hq1, hq2⟩ := hq rfl
      obtain ⟨⟨U, hS, hR⟩, hT⟩ := hSR
      have hU := hS.all (P := fun v => 0 ≤ v ∧ v < N) hV
      go_wp2_with (go_at_call 106; refine (rotate_any lb off n cap _ _ _ _ U _ hR (by omega) (by omega) (by omega) (by omega)).mono ?_; rintro e w1 ⟨rfl, hS1⟩)
      go_meet
      exact Srt.trans hT hS hS1
    | false =>
      go_wp2_with fail
      go_meet
      exact hSR
  case rest =>
  clear hSR hq
  have hSR := hcut
  clear hcut
  rename ∀ (a : Act) (w : World), Code.wp Try.prog _ _ a w → _ => hKK
  refine hKK _ _ ?_
  exact symTail2 lb off n cap N pb hn d ih a m b mid en x V w wc hV hC hl hd ha hm hb hmid hen hx1 hx2 hx3 hx4 hSR _ _ _ _ _ _ _ _ _ _ _ _ _ _ _ _ _ _ _ _ _ _ _ _ _ _ _ _ _ _ _ _ _ _ _ _ _ _ _ _ _ _ _ _ _ _ _ _ _ _ _ _ _ _ _ _ _ _ _ _ _ _ _ _ _ _ _ _ _ _ _ _ _ _ _ _ _ _ _ _ _ _ _ _ _ _ _ _ _ _ _ _ _ _ _ _ _ _ _ _ _ _ _ _ _ _ _ _ _ _ _ _ _ _ _ _ _ _ _ _ _ _ _ _ _ _ _ _ _ _ _ _ _ _ _ _ _ _ _ _ _ _ _ _ _ _ _ _ _ _ _ _ _ _ _ _ _ _ _ _ _ _ _ _ _ _ _ _ _ _ _ _ _ _ _ _ _ _ _ _ _ _ _ _ _ _ _ _ _ _ _ _ _ _ _ _ _ _ _ _ _ _ _ _ _ _ _ _ _ _ _ _
set_option maxRecDepth 20000 in
set_option maxHeartbeats 1000000 in
theorem symMerge_any (lb off n cap : Nat) (N : Int) (pb : Value) (hn : n ≤ 1000) (d : Nat) : ∀ (a m b : Nat) (V : Nat → Int) (w : World), Rwo w lb off n V → (∀ i, i < n → 0 ≤ V i ∧ V i < N) → Cmp lb off n N pb w → lb < w.heap.size → b - a ≤ d → a < m → m < b → b ≤ n →
    Calls Try.prog 104 #[.slice (some ⟨lb, off, none⟩) n cap, .int .i64 a, .int .i64 m, .int .i64 b, .func (.func 82) #[] #[pb]] w fun e w' => e = .returned (.tuple #[]) ∧ Srt lb off n V w w' := by
  induction d with
  | zero => intro a m b V w _ _ _ _ h0 h1 h2 _; omega
  | succ d ih =>
    intro a m b V w h hV hC hl hd ha hm hb
    by_cases h1 : m - a = 1
    · exact symMerge_1 lb off n cap N pb V w h hV hC hl hn a m b h1 hm hb
    by_cases h2 : b - m = 1
    · exact symMerge_2 lb off n cap N pb V w h hV hC hl hn a m b (by omega) h2 hb
    have ham : IntKind.i64.wrap ((m : Int) - (a : Int)) = (m : Int) - (a : Int) := i64w (by omega)
    have han : ((m : Int) - (a : Int) == 1) = false := beq_eq_false_iff_ne.2 (by omega)
    have hbm : IntKind.i64.wrap ((b : Int) - (m : Int)) = (b : Int) - (m : Int) := i64w (by omega)
    have hbn : ((b : Int) - (m : Int) == 1) = false := beq_eq_false_iff_ne.2 (by omega)
    obtain ⟨mid, hmid⟩ : ∃ mid : Nat, (a + b) / 2 = mid := ⟨_, rfl⟩
    have hs1 : IntKind.i64.wrap ((a : Int) + (b : Int)) = (a : Int) + (b : Int) := i64w (by omega)
    have hs2 : IntKind.u64.wrap ((a : Int) + (b : Int)) = (a : Int) + (b : Int) := by rw [IntKind.wrap_u64]; omega
    have hs3 : ((a : Int) + (b : Int)) / 2 = (mid : Int) := by omega
    have hs4 : IntKind.u64.wrap (mid : Int) = (mid : Int) := by rw [IntKind.wrap_u64]; omega
    have hs5 : IntKind.i64.wrap (mid : Int) = (mid : Int) := i64w (by omega)
    have hw3 : IntKind.i64.wrap ((mid : Int) + (m : Int)) = (mid : Int) + (m : Int) := i64w (by omega)
    have hw4 : IntKind.i64.wrap ((mid : Int) + (m : Int) - (b : Int)) = (mid : Int) + (m : Int) - (b : Int) := i64w (by omega)
    obtain ⟨p1, hp1⟩ : ∃ p1 : Nat, mid + m - 1 = p1 := ⟨_, rfl⟩
    have hw5 : IntKind.i64.wrap ((mid : Int) + (m : Int) - 1) = (p1 : Int) := by rw [i64w (by omega)]; omega
    go_enter Try.func104, Try.ntmps104
    go_upto_if 140 with fail
    go_cut [20, 21] (fun s t wc => ∃ lo hi : Nat, s = .int .i64 (lo : Int) ∧ t = .int .i64 (hi : Int) ∧ a ≤ lo ∧ lo ≤ hi ∧ hi ≤ m ∧ hi ≤ mid ∧ mid + m ≤ lo + b ∧ Srt lb off n V w wc)
    case first =>
      by_cases hq : mid < m
      · have hq1 : (mid : Int) < (m : Int) := by omega
        go_wp2_with fail
        go_meet
        exact ⟨mid + m - b, mid, congrArg (Value.int .i64) (by omega), rfl, by omega, by omega, by omega, by omega, by omega, Srt.refl h⟩
      · have hq1 : ¬ ((mid : Int) < (m : Int)) := by omega
        go_wp2_with fail
        go_meet
        exact ⟨a, m, rfl, rfl, by omega, by omega, by omega, by omega, by omega, Srt.refl h⟩
    case rest =>
    obtain ⟨lo, hi, rfl, rfl, hlo, hlh, hhm, hhi, hmb, hSR0⟩ := hcut
    clear han hbn ham hbm
    go_wp2
    go_loopg [20, 21] (hi - lo) (fun g vi vj wr => ∃ (x y : Nat), lo ≤ x ∧ x ≤ y ∧ y ≤ hi ∧ y - x ≤ g ∧ vi = .int .i64 (x : Int) ∧ vj = .int .i64 (y : Int) ∧ Srt lb off n V w wr)
    case atStart => exact ⟨lo, hi, by omega, by omega, by omega, by omega, rfl, rfl, hSR0⟩
    case round =>
      obtain ⟨x, y, hmx, hxy, hyb, hg, rfl, rfl, hSR⟩ := hrel
      by_cases hlt : x < y
      · have hlt1 : (x : Int) < (y : Int) := by omega
        obtain ⟨z, hz⟩ : ∃ z : Nat, (x + y) / 2 = z := ⟨_, rfl⟩
        have hs1 : IntKind.i64.wrap ((x : Int) + (y : Int)) = (x : Int) + (y : Int) := i64w (by omega)
        have hs2 : IntKind.u64.wrap ((x : Int) + (y : Int)) = (x : Int) + (y : Int) := by rw [IntKind.wrap_u64]; omega
        have hs3 : ((x : Int) + (y : Int)) / 2 = (z : Int) := by omega
        have hs4 : IntKind.u64.wrap (z : Int) = (z : Int) := by rw [IntKind.wrap_u64]; omega
        have hs5 : IntKind.i64.wrap (z : Int) = (z : Int) := i64w (by omega)
        have hw1 : IntKind.i64.wrap ((z : Int) + (1 : Int)) = ((z + 1 : Nat) : Int) := by rw [i64w (by omega)]; omega
        obtain ⟨e, hhe⟩ : ∃ e : Nat, p1 - z = e := ⟨_, rfl⟩
        have hwz : IntKind.i64.wrap ((p1 : Int) - (z : Int)) = (e : Int) := by rw [i64w (by omega)]; omega
        have i1 : (e : Int) < (n : Int) := by omega
        have i2 : (z : Int) < (n : Int) := by omega
        go_upto_region 35 with fail
        go_cut [171] (fun s wc => ∃ r : Bool, s = .bool r ∧ Srt lb off n V w wc)
        case first =>
          obtain ⟨⟨U, hS, hR⟩, hT⟩ := hSR
          have hU := hS.all (P := fun v => 0 ≤ v ∧ v < N) hV
          have hlw := hT.lt hl
          have ca : wr.cell? ⟨lb, off + e, none⟩ = some (.int .i64 (U e)) := hR.cell e (by omega)
          have cb : wr.cell? ⟨lb, off + z, none⟩ = some (.int .i64 (U z)) := hR.cell z (by omega)
          refine wp_region_held_drew (S := fun w' => w'.cell? ⟨lb, off + e, none⟩ = some (.int .i64 (U e)) ∧ w'.cell? ⟨lb, off + z, none⟩ = some (.int .i64 (U z))) (by kernel_rfl) ?_ (fun hHeld => ?_)
          · (try dsimp only)
            (first | (go_simp; done) | (go_keep; done))
          refine tq 0 hHeld ?_
          refine tq 1 hHeld ?_
          refine tq 2 hHeld ?_
          refine tq 3 hHeld ?_
          refine tq 4 hHeld ?_
          refine tq 5 hHeld ?_
          refine tq 6 hHeld ?_
          refine tq 7 hHeld ?_
          refine tq 8 hHeld ?_
          refine tq 9 hHeld ?_
          refine tq 10 hHeld ?_
          refine tc 11 fun K hK => ?_
          (go_simp; (go_at_call 82; refine (hC.at (by first | exact hT | exact hT.drew) (hU _ (by omega)) (hU _ (by omega))).mono ?_; rintro e w1 ⟨⟨r, rfl⟩, hb1⟩); (try go_wp2_with fail); refine tr hK (fun hHeld => ?_) ⟨(hb1.cell (p := ⟨lb, off + e, none⟩) hlw).trans ca, (hb1.cell (p := ⟨lb, off + z, none⟩) hlw).trans cb⟩; clear hK K)
          refine tq 12 hHeld ?_
          refine tq 13 hHeld ?_
          refine wpAnyH_done (by kernel_rfl) ?_ _
          go_wp2_with fail
          go_meet
          exact ⟨_, rfl, (Srt.below (w' := wr.drew) (Srt.drew ⟨⟨U, hS, hR⟩, hT⟩) hl hb1)⟩
        case rest =>
        clear hSR
        obtain ⟨r, rfl, hSR⟩ := hcut
        cases r with
        | true =>
          go_wp2_with fail
          go_roundg (y - z - 1)
          case measure => omega
          case rel => exact ⟨z + 1, y, by omega, by omega, by omega, by omega, by go_num, rfl, hSR⟩
        | false =>
          go_wp2_with fail
          go_roundg (z - x)
          case measure => omega
          case rel => exact ⟨x, z, by omega, by omega, by omega, by omega, rfl, rfl, hSR⟩
      · obtain rfl : x = y := by omega
        have hlt1 : ¬ ((x : Int) < (x : Int)) := by omega
        clear hxy hlt
        obtain ⟨en, hen⟩ : ∃ en : Nat, mid + m - x = en := ⟨_, rfl⟩
        have hwe : IntKind.i64.wrap ((mid : Int) + (m : Int) - (x : Int)) = (en : Int) := by rw [i64w (by omega)]; omega
        go_upto_region 38 with fail
        go_cut [24] (fun s wc => s = .int .i64 (en : Int) ∧ Srt lb off n V w wc)
        case first =>
          go_wp2_with fail
          go_meet
          exact ⟨rfl, hSR⟩
        case rest =>
        clear hSR
        obtain ⟨rfl, hSR⟩ := hcut
        rename ∀ (a : Act) (w : World), Code.wp Try.prog _ _ a w → _ => hKK
        refine hKK _ _ ?_
        exact symTail lb off n cap N pb hn d ih a m b mid en x V w wc hV hC hl hd ha hm hb hmid hen (by omega) (by omega) (by omega) (by omega) hSR _ _ _ _ _ _ _ _ _ _ _ _ _ _ _ _ _ _ _ _ _ _ _ _ _ _ _ _ _ _ _ _ _ _ _ _ _ _ _ _ _ _ _ _ _ _ _ _ _ _ _ _ _ _ _ _ _ _ _ _ _ _ _ _ _ _ _ _ _ _ _ _ _ _ _ _ _ _ _ _ _ _ _ _ _ _ _ _ _ _ _ _ _ _ _ _ _ _ _ _ _ _ _ _ _ _ _ _ _ _ _ _ _ _ _ _ _ _ _ _ _ _ _ _ _ _ _ _ _ _ _ _ _ _ _ _ _ _ _ _ _ _ _ _ _ _ _ _ _ _ _ _ _ _ _ _ _ _ _ _ _ _ _ _ _ _ _ _ _ _ _ _ _ _ _ _ _ _ _ _ _ _ _ _ _ _ _ _ _ _ _ _ _ _ _ _ _ _ _ _ _ _ _ _ _ _ _ _ _ _ _ _
end Go.Proofs.Ytbngdlbecdloiaa
namespace Go.Proofs.Ytbngdlbecdloiaa
open Go.RowKit
set_option linter.unusedVariables false
set_option linter.unusedSimpArgs false
set_option maxRecDepth 20000 in
set_option maxHeartbeats 1000000 in
theorem stable_any (lb off n cap : Nat) (N : Int) (pb : Value) (V : Nat → Int) (w : World) (h : Rwo w lb off n V) (hV : ∀ i, i < n → 0 ≤ V i ∧ V i < N) (hC : Cmp lb off n N pb w) (hl : lb < w.heap.size) (hn : n ≤ 1000) :
    Calls Try.prog 95 #[.slice (some ⟨lb, off, none⟩) n cap, .int .i64 n, .func (.func 82) #[] #[pb]] w fun e w' => e = .returned (.tuple #[]) ∧ Srt lb off n V w w' := by
  go_enter Try.func95, Try.ntmps95
  go_wp2
  go_loopg [7, 8] n (fun g va vb wr => ∃ (x : Nat), x ≤ n ∧ n - x ≤ g ∧ va = .int .i64 (x : Int) ∧ vb = .int .i64 ((x + 20 : Nat) : Int) ∧ Srt lb off n V w wr)
  case atStart => exact ⟨0, by omega, by omega, rfl, rfl, Srt.refl h⟩
  case round =>
    obtain ⟨x, hxn, hg, rfl, rfl, hSR⟩ := hrel
    obtain ⟨y, hy⟩ : ∃ y : Nat, x + 20 = y := ⟨_, rfl⟩
    rw [hy]
    by_cases hlt : y ≤ n
    · have hlt1 : (y : Int) ≤ (n : Int) := by omega
      have wy : IntKind.i64.wrap ((y : Int) + (20 : Int)) = ((y + 20 : Nat) : Int) := by rw [i64w (by omega)]; omega
      obtain ⟨⟨U, hS, hR⟩, hT⟩ := hSR
      have hU := hS.all (P := fun v => 0 ≤ v ∧ v < N) hV
      go_wp2_with (go_at_call 103; refine (insertion_any lb off n cap N pb U _ hR hU (hC.on hT) (hT.lt hl) hn _ _ (by omega) (by omega)).mono ?_; rintro e w1 ⟨rfl, hS1⟩)
      go_roundg (n - y)
      case measure => omega
      case rel => exact ⟨y, hlt, by omega, rfl, by go_num, Srt.trans hT hS hS1⟩
    · have hlt1 : ¬ ((y : Int) ≤ (n : Int)) := by omega
      go_upto_region 6 with fail
      go_cut [] (fun wc => Srt lb off n V w wc)
      case first =>
        obtain ⟨⟨U, hS, hR⟩, hT⟩ := hSR
        have hU := hS.all (P := fun v => 0 ≤ v ∧ v < N) hV
        go_wp2_with (go_at_call 103; refine (insertion_any lb off n cap N pb U _ hR hU (hC.on hT) (hT.lt hl) hn _ _ (by omega) (by omega)).mono ?_; rintro e w1 ⟨rfl, hS1⟩)
        go_meet
        exact Srt.trans hT hS hS1
      case rest =>
      clear hSR
      go_wp2
      go_loopg [6] n (fun g vs wr => ∃ (s : Nat), 0 < s ∧ s ≤ n + n + 20 ∧ n - s ≤ g ∧ vs = .int .i64 (s : Int) ∧ Srt lb off n V w wr)
      case atStart => exact ⟨20, by omega, by omega, by omega, rfl, hcut⟩
      case round =>
        clear hcut
        obtain ⟨s, hs0, hsn, hg2, rfl, hSR⟩ := hrel
        by_cases hl2 : s < n
        · have hl3 : (s : Int) < (n : Int) := by omega
          obtain ⟨t, ht⟩ : ∃ t : Nat, 2 * s = t := ⟨_, rfl⟩
          have ht1 : IntKind.i64.wrap (2 * (s : Int)) = (t : Int) := by rw [i64w (by omega)]; omega
          have ht2 : IntKind.i64.wrap ((s : Int) * 2) = (t : Int) := by rw [i64w (by omega)]; omega
          go_wp2
          go_loopg [7, 8] n (fun g va vb wr => ∃ (x : Nat), x ≤ n ∧ n - x ≤ g ∧ va = .int .i64 (x : Int) ∧ vb = .int .i64 ((x + t : Nat) : Int) ∧ Srt lb off n V w wr)
          case atStart => exact ⟨0, by omega, by omega, rfl, by go_num, hSR⟩
          case round =>
            clear hSR
            obtain ⟨x2, hxn2, hg3, rfl, rfl, hSR⟩ := hrel
            obtain ⟨y2, hy2⟩ : ∃ y : Nat, x2 + t = y := ⟨_, rfl⟩
            rw [hy2]
            obtain ⟨z2, hz2⟩ : ∃ z : Nat, x2 + s = z := ⟨_, rfl⟩
            have wz : IntKind.i64.wrap ((x2 : Int) + (s : Int)) = (z2 : Int) := by rw [i64w (by omega)]; omega
            by_cases hlt : y2 ≤ n
            · have hlt1 : (y2 : Int) ≤ (n : Int) := by omega
              have wy : IntKind.i64.wrap ((y2 : Int) + (t : Int)) = ((y2 + t : Nat) : Int) := by rw [i64w (by omega)]; omega
              obtain ⟨⟨U, hS, hR⟩, hT⟩ := hSR
              have hU := hS.all (P := fun v => 0 ≤ v ∧ v < N) hV
              go_wp2_with (go_at_call 104; refine (symMerge_any lb off n cap N pb hn n _ _ _ U _ hR hU (hC.on hT) (hT.lt hl) (by omega) (by omega) (by omega) (by omega)).mono ?_; rintro e w1 ⟨rfl, hS1⟩)
              go_roundg (n - y2)
              case measure => omega
              case rel => exact ⟨y2, hlt, by omega, rfl, by go_num, Srt.trans hT hS hS1⟩
            · have hlt1 : ¬ ((y2 : Int) ≤ (n : Int)) := by omega
              by_cases hz : z2 < n
              · have hz1 : (z2 : Int) < (n : Int) := by omega
                obtain ⟨⟨U, hS, hR⟩, hT⟩ := hSR
                have hU := hS.all (P := fun v => 0 ≤ v ∧ v < N) hV
                go_wp2_with (go_at_call 104; refine (symMerge_any lb off n cap N pb hn n _ _ _ U _ hR hU (hC.on hT) (hT.lt hl) (by omega) (by omega) (by omega) (by omega)).mono ?_; rintro e w1 ⟨rfl, hS1⟩)
                go_roundg (n - t)
                case measure => omega
                case rel => exact ⟨t, by omega, by omega, by omega, rfl, Srt.trans hT hS hS1⟩
              · have hz1 : ¬ ((z2 : Int) < (n : Int)) := by omega
                go_wp2_with fail
                go_roundg (n - t)
                case measure => omega
                case rel => exact ⟨t, by omega, by omega, by omega, rfl, hSR⟩
        · have hl3 : ¬ ((s : Int) < (n : Int)) := by omega
          go_wp2
          go_end0
          exact ⟨rfl, hSR⟩
theorem sortStable_any (lb off n cap : Nat) (N : Int) (pb : Value) (V : Nat → Int) (w : World) (h : Rwo w lb off n V) (hV : ∀ i, i < n → 0 ≤ V i ∧ V i < N) (hC : Cmp lb off n N pb w) (hl : lb < w.heap.size) (hn : n ≤ 1000) :
    Calls Try.prog 81 #[.slice (some ⟨lb, off, none⟩) n cap, .func (.func 82) #[] #[pb]] w fun e w' => e = .returned (.tuple #[]) ∧ Srt lb off n V w w' := by
  go_enter Try.func81, Try.ntmps81
  go_wp2_with (go_at_call 95; refine (stable_any lb off n cap N pb V _ h hV hC hl hn).mono ?_; rintro e w1 ⟨rfl, hS1⟩)
  go_end0
  exact ⟨rfl, hS1⟩
end Go.Proofs.Ytbngdlbecdloiaa
