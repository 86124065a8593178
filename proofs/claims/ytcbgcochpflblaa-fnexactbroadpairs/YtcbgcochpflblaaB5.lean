/- The library's stable sort, as far as numbers change places: stable; SortStableFunc. Slices of numbers, so many a thing: what lies where. The contracts of the specification's boxes. The walks of exact laws over boxes. Lists of boxes with their numbers: turned into the program's own. -/
import Derived.Test.YtcbgcochpflblaaB4
import Derived.Deep.RegionHeld3
import Derived.Deep.DeepCutAuto
import Derived.Test.YtcbgcochpflblaaB1
import Derived.Deep.OwnRows
import Derived.Test.YtcbgcochpflblaaBox
import Derived.Deep.QuietTactic
import Derived.BigQuiet
import Derived.Deep.RegionWith
namespace Go.Proofs.Ytcbgcochpflblaa
open Go.RowKit
set_option linter.unusedVariables false
set_option linter.unusedSimpArgs false
set_option maxRecDepth 20000 in
set_option maxHeartbeats 1000000 in
theorem stable_any (lb off n cap : Nat) (N : Int) (pb : Value) (V : Nat → Int) (w : World) (h : Rwo w lb off n V) (hV : ∀ i, i < n → 0 ≤ V i ∧ V i < N) (hC : Cmp lb off n N pb w) (hl : lb < w.heap.size) (hn : n ≤ 1000) :
    Calls Try.prog 64 #[.slice (some ⟨lb, off, none⟩) n cap, .int .i64 n, .func (.func 56) #[] #[pb]] w fun e w' => e = .returned (.tuple #[]) ∧ Srt lb off n V w w' := by
  go_enter Try.func64, Try.ntmps64
  go_wp2
  go_loopg [7, 8] n (fun g va vb wr => ∃ (x : Nat), x ≤ n ∧ n - x ≤ g ∧ va = .int .i64 (x : Int) ∧ vb = .int .i64 ((x + 20 : Nat) : Int) ∧ Srt lb off n V w wr)
  case atStart => exact ⟨0, by omega, by omega, rfl, rfl, Srt.refl h⟩
  case round =>
    obtain ⟨x, hxn, hg, rfl, rfl, hSR⟩ := hrel
    obtain ⟨y, hy⟩ : ∃ y : Nat, x + 20 = y := ⟨_, rfl⟩
    rw [hy]
    by_cases hlt : y ≤ n
    · have hlt1 : (y : Int) ≤ (n : Int) := by omega
      have wy : IntKind.i64.wrap ((y : Int) + (20 : Int)) = ((y + 20 : Nat) : Int) := by rw [i64w (by omega)]; omega
      obtain ⟨⟨U, hS, hR⟩, hT⟩ := hSR
      have hU := hS.all (P := fun v => 0 ≤ v ∧ v < N) hV
      go_wp2_with (go_at_call 78; refine (insertion_any lb off n cap N pb U _ hR hU (hC.on hT) (hT.lt hl) hn _ _ (by omega) (by omega)).mono ?_; rintro e w1 ⟨rfl, hS1⟩)
      go_roundg (n - y)
      case measure => omega
      case rel => exact ⟨y, hlt, by omega, rfl, by go_num, Srt.trans hT hS hS1⟩
    · have hlt1 : ¬ ((y : Int) ≤ (n : Int)) := by omega
      go_upto_region 6 with fail
      go_cut [] (fun wc => Srt lb off n V w wc)
      case first =>
        obtain ⟨⟨U, hS, hR⟩, hT⟩ := hSR
        have hU := hS.all (P := fun v => 0 ≤ v ∧ v < N) hV
        go_wp2_with (go_at_call 78; refine (insertion_any lb off n cap N pb U _ hR hU (hC.on hT) (hT.lt hl) hn _ _ (by omega) (by omega)).mono ?_; rintro e w1 ⟨rfl, hS1⟩)
        go_meet
        exact Srt.trans hT hS hS1
      case rest =>
      clear hSR
      go_wp2
      go_loopg [6] n (fun g vs wr => ∃ (s : Nat), 0 < s ∧ s ≤ n + n + 20 ∧ n - s ≤ g ∧ vs = .int .i64 (s : Int) ∧ Srt lb off n V w wr)
      case atStart => exact ⟨20, by omega, by omega, by omega, rfl, hcut⟩
      case round =>
        clear hcut
        obtain ⟨s, hs0, hsn, hg2, rfl, hSR⟩ := hrel
        by_cases hl2 : s < n
        · have hl3 : (s : Int) < (n : Int) := by omega
          obtain ⟨t, ht⟩ : ∃ t : Nat, 2 * s = t := ⟨_, rfl⟩
          have ht1 : IntKind.i64.wrap (2 * (s : Int)) = (t : Int) := by rw [i64w (by omega)]; omega
          have ht2 : IntKind.i64.wrap ((s : Int) * 2) = (t : Int) := by rw [i64w (by omega)]; omega
          go_wp2
          go_loopg [7, 8] n (fun g va vb wr => ∃ (x : Nat), x ≤ n ∧ n - x ≤ g ∧ va = .int .i64 (x : Int) ∧ vb = .int .i64 ((x + t : Nat) : Int) ∧ Srt lb off n V w wr)
          case atStart => exact ⟨0, by omega, by omega, rfl, by go_num, hSR⟩
          case round =>
            clear hSR
            obtain ⟨x2, hxn2, hg3, rfl, rfl, hSR⟩ := hrel
            obtain ⟨y2, hy2⟩ : ∃ y : Nat, x2 + t = y := ⟨_, rfl⟩
            rw [hy2]
            obtain ⟨z2, hz2⟩ : ∃ z : Nat, x2 + s = z := ⟨_, rfl⟩
            have wz : IntKind.i64.wrap ((x2 : Int) + (s : Int)) = (z2 : Int) := by rw [i64w (by omega)]; omega
            by_cases hlt : y2 ≤ n
            · have hlt1 : (y2 : Int) ≤ (n : Int) := by omega
              have wy : IntKind.i64.wrap ((y2 : Int) + (t : Int)) = ((y2 + t : Nat) : Int) := by rw [i64w (by omega)]; omega
              obtain ⟨⟨U, hS, hR⟩, hT⟩ := hSR
              have hU := hS.all (P := fun v => 0 ≤ v ∧ v < N) hV
              go_wp2_with (go_at_call 79; refine (symMerge_any lb off n cap N pb hn n _ _ _ U _ hR hU (hC.on hT) (hT.lt hl) (by omega) (by omega) (by omega) (by omega)).mono ?_; rintro e w1 ⟨rfl, hS1⟩)
              go_roundg (n - y2)
              case measure => omega
              case rel => exact ⟨y2, hlt, by omega, rfl, by go_num, Srt.trans hT hS hS1⟩
            · have hlt1 : ¬ ((y2 : Int) ≤ (n : Int)) := by omega
              by_cases hz : z2 < n
              · have hz1 : (z2 : Int) < (n : Int) := by omega
                obtain ⟨⟨U, hS, hR⟩, hT⟩ := hSR
                have hU := hS.all (P := fun v => 0 ≤ v ∧ v < N) hV
                go_wp2_with (go_at_call 79; refine (symMerge_any lb off n cap N pb hn n _ _ _ U _ hR hU (hC.on hT) (hT.lt hl) (by omega) (by omega) (by omega) (by omega)).mono ?_; rintro e w1 ⟨rfl, hS1⟩)
                go_roundg (n - t)
                case measure => omega
                case rel => exact ⟨t, by omega, by omega, by omega, rfl, Srt.trans hT hS hS1⟩
              · have hz1 : ¬ ((z2 : Int) < (n : Int)) := by omega
                go_wp2_with fail
                go_roundg (n - t)
                case measure => omega
                case rel => exact ⟨t, by omega, by omega, by omega, rfl, hSR⟩
        · have hl3 : ¬ ((s : Int) < (n : Int)) := by omega
          go_wp2
          go_end0
          exact ⟨rfl, hSR⟩
theorem sortStable_any (lb off n cap : Nat) (N : Int) (pb : Value) (V : Nat → Int) (w : World) (h : Rwo w lb off n V) (hV : ∀ i, i < n → 0 ≤ V i ∧ V i < N) (hC : Cmp lb off n N pb w) (hl : lb < w.heap.size) (hn : n ≤ 1000) :
    Calls Try.prog 55 #[.slice (some ⟨lb, off, none⟩) n cap, .func (.func 56) #[] #[pb]] w fun e w' => e = .returned (.tuple #[]) ∧ Srt lb off n V w w' := by
  go_enter Try.func55, Try.ntmps55
  go_wp2_with (go_at_call 64; refine (stable_any lb off n cap N pb V _ h hV hC hl hn).mono ?_; rintro e w1 ⟨rfl, hS1⟩)
  go_end0
  exact ⟨rfl, hS1⟩
end Go.Proofs.Ytcbgcochpflblaa
namespace Go.Proofs.Ytcbgcochpflblaa
open Go.RowKit
set_option linter.unusedVariables false
set_option linter.unusedSimpArgs false
/-- a slice's cells are the numbers U -/
def Flat (w : World) (a : Option Addr) (m : Nat) (U : Nat → Int) : Prop :=
  0 < m → ∃ b o, a = some ⟨b, o, none⟩ ∧ b < w.heap.size ∧ ∀ q, q < m → w.cell? ⟨b, o + q, none⟩ = some (.int .i64 (U q))
theorem Flat.below {w w' : World} {a : Option Addr} {m : Nat} {U : Nat → Int} (h : Flat w a m U) (hb : Below w.heap.size w w') : Flat w' a m U := by
  intro h0
  obtain ⟨b, o, e, l, c⟩ := h h0
  exact ⟨b, o, e, Nat.lt_of_lt_of_le l hb.size, fun q hq => (hb.cell (p := ⟨b, o + q, none⟩) l).trans (c q hq)⟩
theorem Flat.nil {w : World} {a : Option Addr} {U : Nat → Int} : Flat w a 0 U := fun h => absurd h (Nat.lt_irrefl 0)
/-- a block of m numbers -/
def Row (w : World) (b : Nat) (t : TypeId) (m : Nat) (U : Nat → Int) : Prop := w.rowIs b t m (fun q => .int .i64 (U q))
theorem Row.flat {w : World} {b t m : Nat} {U : Nat → Int} (h : Row w b t m U) : Flat w (some ⟨b, 0, none⟩) m U := by
  intro _
  exact ⟨b, 0, rfl, World.rowIs.lt h, fun q hq => by rw [Nat.zero_add]; exact World.rowIs.cell h hq⟩
theorem Row.cell {w : World} {b t m : Nat} {U : Nat → Int} (h : Row w b t m U) {q : Nat} (hq : q < m) : w.cell? ⟨b, q, none⟩ = some (.int .i64 (U q)) := World.rowIs.cell h hq
theorem Row.fro {w : World} {b t m : Nat} {U : Nat → Int} (h : Row w b t m U) (q : Nat) : w.frozen? ⟨b, q, none⟩ = false := World.rowIs.frozen h q
theorem Row.lt {w : World} {b t m : Nat} {U : Nat → Int} (h : Row w b t m U) : b < w.heap.size := World.rowIs.lt h
theorem Row.congr {w : World} {b t m : Nat} {U V : Nat → Int} (h : Row w b t m U) (e : ∀ q, q < m → U q = V q) : Row w b t m V := World.rowIs.congr h fun q hq => by simp only [e q hq]
theorem Row.below {w w' : World} {b t m : Nat} {U : Nat → Int} (h : Row w b t m U) (hb : Below w.heap.size w w') : Row w' b t m U := World.rowIs.of_block h (hb.block _ h.lt)
theorem Row.set {w : World} {b t m : Nat} {U : Nat → Int} (h : Row w b t m U) (i : Nat) (v : Int) : Row (w.setCell ⟨b, i, none⟩ (.int .i64 v)) b t m (fun q => if q = i then v else U q) :=
  World.rowIs.congr (World.rowIs.set h i (.int .i64 v)) fun q _ => by by_cases e : q = i <;> simp [e]
theorem Row.setO {w : World} {b t m : Nat} {U : Nat → Int} (h : Row w b t m U) {a : Addr} (ha : b ≠ a.block) (v : Value) : Row (w.setCell a v) b t m U := World.rowIs.setOther h ha v
theorem Row.alloc {w : World} {b t m : Nat} {U : Nat → Int} (h : Row w b t m U) (o : Obj) : Row (w.alloc o) b t m U := World.rowIs.alloc h o
theorem Row.drew {w : World} {b t m : Nat} {U : Nat → Int} (h : Row w b t m U) : Row w.drew b t m U := h
/-- what make lays, things of k numbers -/
theorem Row.made (w : World) (z : Array Value) (m : Nat) (t : TypeId) (hz : ∀ q, q < z.size → z[q]? = some (.int .i64 0)) (h0 : 0 < z.size) : Row (w.alloc (.cells (madeCells z m) t)) w.heap.size t m (fun _ => 0) := by
  refine ⟨_, Go.Deep.blk_alloc_new _ _, size_madeCells _ _, fun i hi => ?_⟩
  have hlt : i % z.size < z.size := Nat.mod_lt _ h0
  have h := hz _ hlt
  rw [Array.getElem?_eq_getElem hlt] at h
  simp only [Option.some.injEq] at h
  simp [madeCells, hi, hlt, h]
theorem make_rows {P : Program} (t e : TypeId) (z : Value) (k bytes : Nat) (ht : P.underlying t = some (.slice e)) (hinfo : (P.info? e).map (fun i => (i.zero, i.size, i.bytes)) = some (some z, k, bytes))
    (kl kc : IntKind) (n : Nat) (hbytes : bytes * n ≤ 281474976710656) (h63 : n ≤ 9223372036854775807) (w : World) :
    (Instr.makeSlice t (.int kl (n : Int)) (.int kc (n : Int))).run P w = .ok (.slice (some ⟨w.heap.size, 0, none⟩) n n) (w.alloc (.cells (madeCells z.cells (n * k)) e)) := by
  obtain ⟨i, hi, hzz⟩ := Option.map_eq_some_iff.1 hinfo
  simp only [Prod.mk.injEq] at hzz
  obtain ⟨hz, hs, hb⟩ := hzz
  have hb' : (i.bytes : Int) * (n : Int) ≤ 281474976710656 := by
    have h : ((i.bytes * n : Nat) : Int) ≤ 281474976710656 := by rw [hb]; omega
    rwa [Int.natCast_mul] at h
  have hr := run_make (P := P) w t e i z ht hi hz kl kc n n (by omega) (Int.le_refl _) hb' (by omega)
  simp only [Int.toNat_natCast, hs] at hr
  exact hr
theorem Row.madek (w : World) (z : Array Value) (k m : Nat) (t : TypeId) (hz : z = Array.replicate k (.int .i64 0)) (h0 : 0 < k) (U : Nat → Int) : Row (w.alloc (.cells (madeCells z m) t)) w.heap.size t m (fun q => if q < 0 then U q else 0) := by
  subst hz
  refine (Row.made w _ _ _ (fun q hq => ?_) (by simpa using h0)).congr fun q _ => by simp
  rw [Array.size_replicate] at hq
  simp [hq]
/-- filled up to p -/
abbrev upto (p : Nat) (U : Nat → Int) : Nat → Int := fun q => if q < p then U q else 0
theorem Row.next {w : World} {b t m p : Nat} {U : Nat → Int} (h : Row w b t m (upto p U)) : Row (w.setCell ⟨b, p, none⟩ (.int .i64 (U p))) b t m (upto (p + 1) U) :=
  (h.set p (U p)).congr fun q _ => by
    by_cases e : q = p
    · subst e; simp [upto]
    · simp only [upto, if_neg e]
      by_cases l : q < p
      · rw [if_pos l, if_pos (by omega)]
      · rw [if_neg l, if_neg (by omega)]
theorem Row.full {w : World} {b t m p : Nat} {U : Nat → Int} (h : Row w b t m (upto p U)) (hp : m ≤ p) : Row w b t m U := h.congr fun q hq => by simp only [upto]; rw [if_pos (by omega)]
theorem Row.zero {w : World} {b t m : Nat} {U : Nat → Int} (h : Row w b t m (fun _ => 0)) : Row w b t m (upto 0 U) := h.congr fun q hq => by simp [upto]
theorem Row.cut {w : World} {b t m p r : Nat} {U : Nat → Int} (h : Row w b t m (upto p U)) (e : p = r) : Row w b t m (upto r U) := e ▸ h
end Go.Proofs.Ytcbgcochpflblaa
namespace Go.Proofs.Ytcbgcochpflblaa
open Go.RowKit
set_option linter.unusedVariables false
set_option linter.unusedSimpArgs false

set_option maxHeartbeats 2000000 in
theorem sBoxOk_any (a b c d : Int) (w : World) :
    Calls Try.prog 29 #[b4 a b c d] w fun e w' => e = .returned (.bool (bokB a b c d)) ∧ Below w.heap.size w w' := by
  have hset := cset_map
  go_enter Try.func29, Try.ntmps29
  go_wp2_with (go_at_call 38; refine (sVecOk_any _ _ _).mono ?_; rintro e w1 ⟨rfl, hb1⟩; obtain ⟨hc1, hf1⟩ := bcell hb1; have hl1 := blt hb1; have hz1 := hb1.size; (try simp only [World.size_drew, World.size_alloc, World.size_setCell] at hc1 hf1 hl1 hz1); (try have hq1x0 : w.heap.size < w1.heap.size := (by omega)))
  all_goals
    go_ret
    refine ⟨ret_bool ?_, bel_a⟩
    unfold bokB leB
    first | (simp [*]; done) | (simp at *; simp [*]; done) | (simp at *; omega)

end Go.Proofs.Ytcbgcochpflblaa
namespace Go.Proofs.Ytcbgcochpflblaa
open Go.RowKit
set_option linter.unusedVariables false
set_option linter.unusedSimpArgs false

theorem toVecB_any (x y : Int) (w : World) :
    Calls Try.prog 49 #[vv x y] w fun e w' => e = .returned (vv x y) ∧ Below w.heap.size w w' := by
  have hset := cset_map
  go_enter Try.func49, Try.ntmps49
  go_wp2
  exact bodyPost_ret (v := vv x y) (by simp [results, Try.results49, go_sem, *]) rfl ⟨rfl, bel_a⟩

set_option maxHeartbeats 6000000 in
theorem toBox_any (a b c d : Int) (w : World) :
    Calls Try.prog 39 #[b4 a b c d] w fun e w' => e = .returned (b4 a b c d) ∧ Below w.heap.size w w' := by
  have hset := cset_map
  go_enter Try.func39, Try.ntmps39
  go_wp2_with (go_at_call 49; refine (toVecB_any _ _ _).mono ?_; rintro e w1 ⟨rfl, hb1⟩; obtain ⟨hc1, hf1⟩ := bcell hb1; have hl1 := blt hb1; have hz1 := hb1.size; (try simp only [World.size_drew, World.size_alloc, World.size_setCell] at hc1 hf1 hl1 hz1); (try have hq1x0 : w.heap.size < w1.heap.size := (by omega)); (try have hq1x1 : w.heap.size + 1 < w1.heap.size := (by omega)); (try have hq1x2 : w.heap.size + 1 + 1 < w1.heap.size := (by omega)))
  exact bodyPost_ret (v := b4 a b c d) (by simp [results, Try.results39, go_sem, *]) rfl ⟨rfl, bel_a⟩

end Go.Proofs.Ytcbgcochpflblaa
namespace Go.Proofs.Ytcbgcochpflblaa
open Go.RowKit
set_option linter.unusedVariables false
set_option linter.unusedSimpArgs false
abbrev itemW (V : Nat → Int) : Value := .agg #[.int .i64 (V 0), .int .i64 (V 1), .int .i64 (V 2), .int .i64 (V 3), .int .i64 (V 4)]
abbrev zeroI : Value := .agg #[.int .i64 0, .int .i64 0, .int .i64 0, .int .i64 0, .int .i64 0]
theorem makeItems (n : Nat) (hn : n ≤ 1048576) (w : World) : (Instr.makeSlice 28 (.int .i64 (n : Int)) (.int .i64 (n : Int))).run Try.prog w = .ok (.slice (some ⟨w.heap.size, 0, none⟩) n n) (w.alloc (.cells (madeCells zeroI.cells (n * 5)) 59)) :=
  make_rows _ _ zeroI 5 40 Try.underlying28 (by kernel_rfl) _ _ n (by omega) (by omega) w
set_option maxHeartbeats 2000000 in
theorem toItem_any (V : Nat → Int) (w : World) :
    Calls Try.prog 31 #[itemW V] w fun e w' => e = .returned (itemW V) ∧ Below w.heap.size w w' := by
  have hset := cset_map
  go_enter Try.func31, Try.ntmps31
  go_wp2_with (go_at_call 39; refine (toBox_any _ _ _ _ _).mono ?_; rintro e w1 ⟨rfl, hb1⟩; obtain ⟨hc1, hf1⟩ := bcell hb1; have hl1 := blt hb1; have hz1 := hb1.size; (try simp only [World.size_drew, World.size_alloc, World.size_setCell] at hc1 hf1 hl1 hz1); (try have hq1x0 : w.heap.size < w1.heap.size := (by omega)); (try have hq1x1 : w.heap.size + 1 < w1.heap.size := (by omega)); (try have hq1x2 : w.heap.size + 1 + 1 < w1.heap.size := (by omega)))
  exact bodyPost_ret (v := itemW V) (by simp [results, Try.results31, go_sem, *]) rfl ⟨rfl, bel_a⟩
set_option maxHeartbeats 2000000 in
theorem toItemS_any (a : Option Addr) (n c : Nat) (U : Nat → Int) (w : World) (h : Flat w a (n * 5) U) (hn : n ≤ 1048576) :
    Calls Try.prog 19 #[.slice a n c] w fun e w' => ∃ b, e = .returned (.slice (some ⟨b, 0, none⟩) n n) ∧ w.heap.size ≤ b ∧ Row w' b 59 (n * 5) U ∧ Below w.heap.size w w' := by
  have hmk := makeItems n hn
  go_enter Try.func19, Try.ntmps19
  go_wp2
  clear hmk
  go_loopw [4] (fun i wr => ∃ k : Nat, k ≤ n ∧ i = .int .i64 (k : Int) ∧ Row wr w.heap.size 59 (n * 5) (upto (k * 5) U) ∧ Below w.heap.size w wr) (fun i _ => n - (intOf i).toNat)
  case atStart => exact ⟨0, Nat.zero_le _, rfl, (Row.madek w _ 5 _ _ rfl (by decide) U).cut (by omega), (Below.refl _ _).alloc (Nat.le_refl _) _⟩
  case round =>
    obtain ⟨k, hk, rfl, hr, hbel⟩ := hrel
    have hrl := hr.lt
    by_cases hlt : k < n
    · obtain ⟨b, o, rfl, hbl, hc⟩ := (h.below hbel) (by omega)
      have c0 := hc (k * 5) (by omega)
      have c1 := hc (k * 5 + 1) (by omega)
      have c2 := hc (k * 5 + 2) (by omega)
      have c3 := hc (k * 5 + 3) (by omega)
      have c4 := hc (k * 5 + 4) (by omega)
      simp only [← Nat.add_assoc] at c0 c1 c2 c3 c4
      clear hc h
      go_wp2_with (go_at_call 31; refine (toItem_any (fun j => U (k * 5 + j)) _).mono ?_; rintro e w1 ⟨rfl, hb1⟩; have hr1 := hr.below hb1; have f1 := hr1.fro; (have e0 := hr1.cell (q := k * 5) (by omega)); (have e1 := hr1.cell (q := k * 5 + 1) (by omega)); (have e2 := hr1.cell (q := k * 5 + 2) (by omega)); (have e3 := hr1.cell (q := k * 5 + 3) (by omega)); (have e4 := hr1.cell (q := k * 5 + 4) (by omega)))
      go_roundw
      case rel => exact ⟨k + 1, by omega, by go_num, (((((hr1.next).next).next).next).next).cut (by omega), bel_a⟩
      case measure => simp [intOf]; omega
    · go_wp2
      go_ret
      exact ⟨_, rfl, Nat.le_refl _, hr.full (by omega), hbel⟩
end Go.Proofs.Ytcbgcochpflblaa
