/- What lies where while something is drawn: any number of blocks of numbers, and the reader. What lies where while something is drawn by one that was handed the reader. What lies where behind a call: a block's cells, whether it is frozen, that it is there still. Slices of numbers, so many a thing: what lies where. Rows of numbers of one's own, appended to. A range over a function value with a bound receiver: the laws, whatever the program; and drawn regions within a round. Bodies in columns: n rows; what may change, and what stays. All rows of some columns, told one by one. The contracts of spans. The contracts of the specification's boxes. The contracts of the specification's BoxMeets and BoxHas. The contracts of the specification's VecMul, VecLen and VecUnit. The contracts of places and figures. A step of a drawn region, said shortly. -/
import Derived.Test.YtkblddegfobpaaaGreatB1
import Derived.Deep.RegionHeld3
import Derived.Deep.DeepCutAuto
import Derived.Deep.OwnRows
import Derived.Deep.AppendLies
import Derived.Deep.Upon
import Derived.Maps.AppendAt
import Derived.RangeFuncNested
import Derived.OrdersIn
import Derived.TacticsIn
import Derived.Laws.OwnMore
import Derived.LoopNIn
import Derived.LoopIn
import Derived.OwnWalkIn
import Derived.RangeFuncBound
import Derived.Shelf.Abstract
import Derived.Deep.QuietTactic
import Derived.BigQuiet
import Derived.Deep.RegionWith
namespace Go.Proofs.YtkblddegfobpaaaGreat
open Go.RowKit
set_option linter.unusedVariables false
set_option linter.unusedSimpArgs false
theorem balloc (w : World) (o : Obj) : Below w.heap.size w (w.alloc o) := (Below.refl _ _).alloc (Nat.le_refl _) o
theorem Al.bl {w0 w w' : World} {ab n B : Nat} {V : Nat → Int} (h : Al w0 w ab n V) (k : Below B w w') (hB : ab < B) : Al w0 w' ab n V := by
  obtain ⟨h1, h2, h3, h4⟩ := h
  exact ⟨h1, Nat.lt_of_lt_of_le h2 k.size, fun i hi => (k.cell (p := ⟨ab, i, none⟩) hB).trans (h3 i hi), fun i hi => (k.frozen (p := ⟨ab, i, none⟩) hB).trans (h4 i hi)⟩
theorem Al.ne {rb : Nat} {w0 w w' : World} {ab n : Nat} {V : Nat → Int} (h : Al w0 w ab n V) (hne : ab ≠ rb) (k : But rb w w') : Al w0 w' ab n V := by
  obtain ⟨h1, h2, h3, h4⟩ := h
  exact ⟨h1, Nat.lt_of_lt_of_le h2 k.size, fun i hi => (k.cell (p := ⟨ab, i, none⟩) h2 hne).trans (h3 i hi), fun i hi => (k.frozen (p := ⟨ab, i, none⟩) h2 hne).trans (h4 i hi)⟩
theorem Al.off {w0 w : World} {ab n b k : Nat} {V : Nat → Int} (h : Al w0 w ab n V) (hb : ab ≠ b) (v : Value) : Al w0 (w.setCell ⟨b, k, none⟩ v) ab n V := by
  obtain ⟨h1, h2, h3, h4⟩ := h
  refine ⟨h1, by simpa [World.setCell] using h2, fun i hi => ?_, fun i hi => ?_⟩
  · rw [cset_far (by simp; omega)]; exact h3 i hi
  · rw [World.frozen?_setCell]; exact h4 i hi
abbrev Bls := List (Nat × Nat × (Nat → Int))
/-- blocks of numbers, all younger than w -/
structure AL (w w' : World) (L : Bls) : Prop where
  bel : Below w.heap.size w w'
  al : ∀ x ∈ L, Al w w' x.1 x.2.1 x.2.2
theorem AL.nil (w : World) : AL w w [] := ⟨Below.refl _ _, fun x hx => by cases hx⟩
theorem AL.new {w w' : World} {L : Bls} (h : AL w w' L) (b n : Nat) (V : Nat → Int) {cs : Array Value} {t : TypeId} (hb : b = w'.heap.size) (hc : ∀ i, i < n → cs[i]? = some (.int .i64 (V i))) :
    AL w (w'.alloc (.cells cs t)) ((b, n, V) :: L) := by
  subst hb
  refine ⟨h.bel.alloc h.bel.size _, fun x hx => ?_⟩
  rcases List.mem_cons.mp hx with rfl | hx
  · exact Al.new h.bel.size hc
  · exact (h.al x hx).bl (balloc _ _) (h.al x hx).2.1
theorem AL.call {w w' w1 : World} {L : Bls} (h : AL w w' L) (k : Below w'.heap.size w' w1) : AL w w1 L :=
  ⟨h.bel.trans (k.mono h.bel.size), fun x hx => (h.al x hx).bl k (h.al x hx).2.1⟩
theorem AL.get {w w' : World} {L : Bls} (h : AL w w' L) {x : Nat × Nat × (Nat → Int)} (hx : x ∈ L) : Al w w' x.1 x.2.1 x.2.2 := h.al x hx
theorem AL.sub {w w' : World} {L M : Bls} (h : AL w w' L) (k : ∀ x ∈ M, x ∈ L) : AL w w' M := ⟨h.bel, fun x hx => h.al x (k x hx)⟩
theorem AL.lt {w w' : World} {L : Bls} (h : AL w w' L) {x : Nat × Nat × (Nat → Int)} (hx : x ∈ L) : x.1 < w'.heap.size := (h.al x hx).2.1
theorem AL.drew {w w' : World} {L : Bls} (h : AL w w' L) : AL w w'.drew L := ⟨h.bel.drew, h.al⟩
theorem AL.set {w w' : World} {b n : Nat} {V : Nat → Int} {L : Bls} (h : AL w w' ((b, n, V) :: L)) (hne : ∀ x ∈ L, x.1 ≠ b) (k : Nat) (hk : k < n) (v : Int) :
    AL w (w'.setCell ⟨b, k, none⟩ (.int .i64 v)) ((b, n, fun j => if j = k then v else V j) :: L) := by
  have hb := h.al _ (List.mem_cons_self ..)
  have hlo := hb.1
  dsimp only at hlo
  refine ⟨h.bel.setCell (by simpa using hlo) _, fun x hx => ?_⟩
  rcases List.mem_cons.mp hx with rfl | hx
  · exact hb.set k hk v
  · exact (h.al x (List.mem_cons_of_mem _ hx)).off (hne x hx) _
/-- the same, with the reader -/
structure DL (w w' : World) (rb p : Nat) (L : Bls) : Prop where
  rs : RS w' rb p
  bel : Below w.heap.size w w'
  lo : w.heap.size ≤ rb
  al : ∀ x ∈ L, Al w w' x.1 x.2.1 x.2.2 ∧ x.1 ≠ rb
theorem AL.opened {w w0 w1 : World} {L : Bls} (h : AL w w0 L) (k : Below w0.heap.size w0 w1) (r : RS w1 w0.heap.size 0) : DL w w1 w0.heap.size 0 L :=
  ⟨r, h.bel.trans (k.mono h.bel.size), h.bel.size, fun x hx => ⟨(h.al x hx).bl k (h.al x hx).2.1, by have := (h.al x hx).2.1; omega⟩⟩
theorem DL.call {w w' w1 : World} {rb p p1 : Nat} {L : Bls} (h : DL w w' rb p L) (k : RB w' w1 rb p1) : DL w w1 rb p1 L :=
  ⟨RS.of k, h.bel.trans (k.but.below h.lo h.bel.size), h.lo, fun x hx => ⟨(h.al x hx).1.ne (h.al x hx).2 k.but, (h.al x hx).2⟩⟩
theorem DL.mono {w w' : World} {rb p p1 : Nat} {L : Bls} (h : DL w w' rb p L) (k : p ≤ p1) : DL w w' rb p1 L := ⟨h.rs.mono k, h.bel, h.lo, h.al⟩
theorem DL.drew {w w' : World} {rb p : Nat} {L : Bls} (h : DL w w' rb p L) : DL w w'.drew rb p L := ⟨h.rs.drew, h.bel.drew, h.lo, h.al⟩
theorem DL.new {w w' : World} {rb p : Nat} {L : Bls} (h : DL w w' rb p L) (n : Nat) (V : Nat → Int) {cs : Array Value} {t : TypeId} (hc : ∀ i, i < n → cs[i]? = some (.int .i64 (V i))) :
    DL w (w'.alloc (.cells cs t)) rb p ((w'.heap.size, n, V) :: L) := by
  refine ⟨h.rs.alloc _, h.bel.alloc h.bel.size _, h.lo, fun x hx => ?_⟩
  rcases List.mem_cons.mp hx with rfl | hx
  · exact ⟨Al.new h.bel.size hc, by have := h.rs.lt; dsimp only; omega⟩
  · exact ⟨(h.al x hx).1.bl (balloc _ _) (h.al x hx).1.2.1, (h.al x hx).2⟩
theorem DL.alloc {w w' : World} {rb p : Nat} {L : Bls} (h : DL w w' rb p L) (o : Obj) : DL w (w'.alloc o) rb p L :=
  ⟨h.rs.alloc _, h.bel.alloc h.bel.size _, h.lo, fun x hx => ⟨(h.al x hx).1.bl (balloc _ _) (h.al x hx).1.2.1, (h.al x hx).2⟩⟩
theorem DL.sub {w w' : World} {rb p : Nat} {L M : Bls} (h : DL w w' rb p L) (k : ∀ x ∈ M, x ∈ L) : DL w w' rb p M := ⟨h.rs, h.bel, h.lo, fun x hx => h.al x (k x hx)⟩
theorem DL.get {w w' : World} {rb p : Nat} {L : Bls} (h : DL w w' rb p L) {x : Nat × Nat × (Nat → Int)} (hx : x ∈ L) : Al w w' x.1 x.2.1 x.2.2 := (h.al x hx).1
theorem DL.lt {w w' : World} {rb p : Nat} {L : Bls} (h : DL w w' rb p L) {x : Nat × Nat × (Nat → Int)} (hx : x ∈ L) : x.1 < w'.heap.size := (h.al x hx).1.2.1
theorem DL.headc {w w' : World} {rb p b n : Nat} {V U : Nat → Int} {L : Bls} (h : DL w w' rb p ((b, n, V) :: L)) (k : ∀ i, i < n → V i = U i) : DL w w' rb p ((b, n, U) :: L) := by
  refine ⟨h.rs, h.bel, h.lo, fun x hx => ?_⟩
  rcases List.mem_cons.mp hx with rfl | hx
  · have q := h.al _ (List.mem_cons_self ..)
    exact ⟨q.1.congr k, q.2⟩
  · exact h.al x (List.mem_cons_of_mem _ hx)
theorem DL.toAL {w w' : World} {rb p : Nat} {L : Bls} (h : DL w w' rb p L) : AL w w' L := ⟨h.bel, fun x hx => (h.al x hx).1⟩
/-- a cell of the first block is written -/
theorem DL.set {w w' : World} {rb p b n : Nat} {V : Nat → Int} {L : Bls} (h : DL w w' rb p ((b, n, V) :: L)) (hr : rb < b) (hne : ∀ x ∈ L, x.1 ≠ b) (k : Nat) (hk : k < n) (v : Int) :
    DL w (w'.setCell ⟨b, k, none⟩ (.int .i64 v)) rb p ((b, n, fun j => if j = k then v else V j) :: L) := by
  have hb := (h.al _ (List.mem_cons_self ..)).1
  have hlo := hb.1
  dsimp only at hlo
  refine ⟨h.rs.setNew (by simpa using hr) _, h.bel.setCell (by simpa using hlo) _, h.lo, fun x hx => ?_⟩
  rcases List.mem_cons.mp hx with rfl | hx
  · exact ⟨hb.set k hk v, by dsimp only; omega⟩
  · exact ⟨(h.al x (List.mem_cons_of_mem _ hx)).1.off (hne x hx) _, (h.al x (List.mem_cons_of_mem _ hx)).2⟩
end Go.Proofs.YtkblddegfobpaaaGreat
namespace Go.Proofs.YtkblddegfobpaaaGreat
open Go.RowKit
set_option linter.unusedVariables false
set_option linter.unusedSimpArgs false
structure BL (w w' : World) (rb p : Nat) (L : Bls) : Prop where
  rs : RS w' rb p
  but : But rb w w'
  lo : rb < w.heap.size
  al : ∀ x ∈ L, Al w w' x.1 x.2.1 x.2.2
theorem BL.start {w : World} {rb p : Nat} (h : RS w rb p) : BL w w rb p [] := ⟨h, But.refl _ _, h.lt, fun x hx => by cases hx⟩
theorem BL.call {w w' w1 : World} {rb p p1 : Nat} {L : Bls} (h : BL w w' rb p L) (k : RB w' w1 rb p1) : BL w w1 rb p1 L :=
  ⟨RS.of k, h.but.trans k.but, h.lo, fun x hx => (h.al x hx).up h.lo k.but⟩
theorem BL.calb {w w' w1 : World} {rb p : Nat} {L : Bls} (h : BL w w' rb p L) (k : Below w'.heap.size w' w1) : BL w w1 rb p L := by
  obtain ⟨q, a, b⟩ := h.rs
  exact h.call (RB.mk (But.of_below k) ⟨q, a, b.below k⟩)
theorem BL.mono {w w' : World} {rb p p1 : Nat} {L : Bls} (h : BL w w' rb p L) (k : p ≤ p1) : BL w w' rb p1 L := ⟨h.rs.mono k, h.but, h.lo, h.al⟩
theorem BL.drew {w w' : World} {rb p : Nat} {L : Bls} (h : BL w w' rb p L) : BL w w'.drew rb p L := ⟨h.rs.drew, h.but.drew, h.lo, h.al⟩
theorem BL.new {w w' : World} {rb p : Nat} {L : Bls} (h : BL w w' rb p L) (b n : Nat) (V : Nat → Int) {cs : Array Value} {t : TypeId} (hb : b = w'.heap.size) (hc : ∀ i, i < n → cs[i]? = some (.int .i64 (V i))) :
    BL w (w'.alloc (.cells cs t)) rb p ((b, n, V) :: L) := by
  subst hb
  refine ⟨h.rs.alloc _, h.but.alloc _, h.lo, fun x hx => ?_⟩
  rcases List.mem_cons.mp hx with rfl | hx
  · exact Al.new h.but.size hc
  · exact (h.al x hx).bl (balloc _ _) (h.al x hx).2.1
theorem BL.alloc {w w' : World} {rb p : Nat} {L : Bls} (h : BL w w' rb p L) (o : Obj) : BL w (w'.alloc o) rb p L :=
  ⟨h.rs.alloc _, h.but.alloc _, h.lo, fun x hx => (h.al x hx).bl (balloc _ _) (h.al x hx).2.1⟩
theorem BL.sub {w w' : World} {rb p : Nat} {L M : Bls} (h : BL w w' rb p L) (k : ∀ x ∈ M, x ∈ L) : BL w w' rb p M := ⟨h.rs, h.but, h.lo, fun x hx => h.al x (k x hx)⟩
theorem BL.get {w w' : World} {rb p : Nat} {L : Bls} (h : BL w w' rb p L) {x : Nat × Nat × (Nat → Int)} (hx : x ∈ L) : Al w w' x.1 x.2.1 x.2.2 := h.al x hx
theorem BL.lt {w w' : World} {rb p : Nat} {L : Bls} (h : BL w w' rb p L) {x : Nat × Nat × (Nat → Int)} (hx : x ∈ L) : x.1 < w'.heap.size := (h.al x hx).2.1
theorem BL.set {w w' : World} {rb p b n : Nat} {V : Nat → Int} {L : Bls} (h : BL w w' rb p ((b, n, V) :: L)) (hne : ∀ x ∈ L, x.1 ≠ b) (k : Nat) (hk : k < n) (v : Int) :
    BL w (w'.setCell ⟨b, k, none⟩ (.int .i64 v)) rb p ((b, n, fun j => if j = k then v else V j) :: L) := by
  have hb := h.al _ (List.mem_cons_self ..)
  have hlo := hb.1
  dsimp only at hlo
  have h0 := h.lo
  refine ⟨h.rs.setNew (by dsimp only; omega) _, h.but.setNew (by simpa using hlo) _, h.lo, fun x hx => ?_⟩
  rcases List.mem_cons.mp hx with rfl | hx
  · exact hb.set k hk v
  · exact (h.al x (List.mem_cons_of_mem _ hx)).off (hne x hx) _
theorem BL.headc {w w' : World} {rb p b n : Nat} {V U : Nat → Int} {L : Bls} (h : BL w w' rb p ((b, n, V) :: L)) (k : ∀ i, i < n → V i = U i) : BL w w' rb p ((b, n, U) :: L) := by
  refine ⟨h.rs, h.but, h.lo, fun x hx => ?_⟩
  rcases List.mem_cons.mp hx with rfl | hx
  · exact (h.al _ (List.mem_cons_self ..)).congr k
  · exact h.al x (List.mem_cons_of_mem _ hx)
theorem BL.done {w w' : World} {rb p : Nat} {L : Bls} (h : BL w w' rb p L) : RB w w' rb p := RB.mk h.but h.rs
end Go.Proofs.YtkblddegfobpaaaGreat
namespace Go.Proofs.YtkblddegfobpaaaGreat
open Go.RowKit
set_option linter.unusedVariables false
theorem kfa {W w1 : World} (hb : Below W.heap.size W w1) (b : Nat) (h : b < W.heap.size := by ((try simp only [World.size_drew, World.size_alloc, World.size_setCell]); omega)) :
    (∀ o, w1.cell? ⟨b, o, none⟩ = W.cell? ⟨b, o, none⟩) ∧ (∀ o, w1.frozen? ⟨b, o, none⟩ = W.frozen? ⟨b, o, none⟩) ∧ b < w1.heap.size :=
  ⟨fun o => hb.cell (p := ⟨b, o, none⟩) h, fun o => hb.frozen (p := ⟨b, o, none⟩) h, Nat.lt_of_lt_of_le h hb.size⟩
end Go.Proofs.YtkblddegfobpaaaGreat
namespace Go.Proofs.YtkblddegfobpaaaGreat
open Go.RowKit
set_option linter.unusedVariables false
set_option linter.unusedSimpArgs false
/-- a slice's cells are the numbers U -/
def Flat (w : World) (a : Option Addr) (m : Nat) (U : Nat → Int) : Prop :=
  0 < m → ∃ b o, a = some ⟨b, o, none⟩ ∧ b < w.heap.size ∧ ∀ q, q < m → w.cell? ⟨b, o + q, none⟩ = some (.int .i64 (U q))
theorem Flat.below {w w' : World} {a : Option Addr} {m : Nat} {U : Nat → Int} (h : Flat w a m U) (hb : Below w.heap.size w w') : Flat w' a m U := by
  intro h0
  obtain ⟨b, o, e, l, c⟩ := h h0
  exact ⟨b, o, e, Nat.lt_of_lt_of_le l hb.size, fun q hq => (hb.cell (p := ⟨b, o + q, none⟩) l).trans (c q hq)⟩
theorem Flat.nil {w : World} {a : Option Addr} {U : Nat → Int} : Flat w a 0 U := fun h => absurd h (Nat.lt_irrefl 0)
/-- a block of m numbers -/
def Row (w : World) (b : Nat) (t : TypeId) (m : Nat) (U : Nat → Int) : Prop := w.rowIs b t m (fun q => .int .i64 (U q))
theorem Row.flat {w : World} {b t m : Nat} {U : Nat → Int} (h : Row w b t m U) : Flat w (some ⟨b, 0, none⟩) m U := by
  intro _
  exact ⟨b, 0, rfl, World.rowIs.lt h, fun q hq => by rw [Nat.zero_add]; exact World.rowIs.cell h hq⟩
theorem Row.cell {w : World} {b t m : Nat} {U : Nat → Int} (h : Row w b t m U) {q : Nat} (hq : q < m) : w.cell? ⟨b, q, none⟩ = some (.int .i64 (U q)) := World.rowIs.cell h hq
theorem Row.fro {w : World} {b t m : Nat} {U : Nat → Int} (h : Row w b t m U) (q : Nat) : w.frozen? ⟨b, q, none⟩ = false := World.rowIs.frozen h q
theorem Row.lt {w : World} {b t m : Nat} {U : Nat → Int} (h : Row w b t m U) : b < w.heap.size := World.rowIs.lt h
theorem Row.congr {w : World} {b t m : Nat} {U V : Nat → Int} (h : Row w b t m U) (e : ∀ q, q < m → U q = V q) : Row w b t m V := World.rowIs.congr h fun q hq => by simp only [e q hq]
theorem Row.below {w w' : World} {b t m : Nat} {U : Nat → Int} (h : Row w b t m U) (hb : Below w.heap.size w w') : Row w' b t m U := World.rowIs.of_block h (hb.block _ h.lt)
theorem Row.set {w : World} {b t m : Nat} {U : Nat → Int} (h : Row w b t m U) (i : Nat) (v : Int) : Row (w.setCell ⟨b, i, none⟩ (.int .i64 v)) b t m (fun q => if q = i then v else U q) :=
  World.rowIs.congr (World.rowIs.set h i (.int .i64 v)) fun q _ => by by_cases e : q = i <;> simp [e]
theorem Row.setO {w : World} {b t m : Nat} {U : Nat → Int} (h : Row w b t m U) {a : Addr} (ha : b ≠ a.block) (v : Value) : Row (w.setCell a v) b t m U := World.rowIs.setOther h ha v
theorem Row.alloc {w : World} {b t m : Nat} {U : Nat → Int} (h : Row w b t m U) (o : Obj) : Row (w.alloc o) b t m U := World.rowIs.alloc h o
theorem Row.drew {w : World} {b t m : Nat} {U : Nat → Int} (h : Row w b t m U) : Row w.drew b t m U := h
/-- what make lays, things of k numbers -/
theorem Row.made (w : World) (z : Array Value) (m : Nat) (t : TypeId) (hz : ∀ q, q < z.size → z[q]? = some (.int .i64 0)) (h0 : 0 < z.size) : Row (w.alloc (.cells (madeCells z m) t)) w.heap.size t m (fun _ => 0) := by
  refine ⟨_, Go.Deep.blk_alloc_new _ _, size_madeCells _ _, fun i hi => ?_⟩
  have hlt : i % z.size < z.size := Nat.mod_lt _ h0
  have h := hz _ hlt
  rw [Array.getElem?_eq_getElem hlt] at h
  simp only [Option.some.injEq] at h
  simp [madeCells, hi, hlt, h]
theorem make_rows {P : Program} (t e : TypeId) (z : Value) (k bytes : Nat) (ht : P.underlying t = some (.slice e)) (hinfo : (P.info? e).map (fun i => (i.zero, i.size, i.bytes)) = some (some z, k, bytes))
    (kl kc : IntKind) (n : Nat) (hbytes : bytes * n ≤ 281474976710656) (h63 : n ≤ 9223372036854775807) (w : World) :
    (Instr.makeSlice t (.int kl (n : Int)) (.int kc (n : Int))).run P w = .ok (.slice (some ⟨w.heap.size, 0, none⟩) n n) (w.alloc (.cells (madeCells z.cells (n * k)) e)) := by
  obtain ⟨i, hi, hzz⟩ := Option.map_eq_some_iff.1 hinfo
  simp only [Prod.mk.injEq] at hzz
  obtain ⟨hz, hs, hb⟩ := hzz
  have hb' : (i.bytes : Int) * (n : Int) ≤ 281474976710656 := by
    have h : ((i.bytes * n : Nat) : Int) ≤ 281474976710656 := by rw [hb]; omega
    rwa [Int.natCast_mul] at h
  have hr := run_make (P := P) w t e i z ht hi hz kl kc n n (by omega) (Int.le_refl _) hb' (by omega)
  simp only [Int.toNat_natCast, hs] at hr
  exact hr
theorem Row.madek (w : World) (z : Array Value) (k m : Nat) (t : TypeId) (hz : z = Array.replicate k (.int .i64 0)) (h0 : 0 < k) (U : Nat → Int) : Row (w.alloc (.cells (madeCells z m) t)) w.heap.size t m (fun q => if q < 0 then U q else 0) := by
  subst hz
  refine (Row.made w _ _ _ (fun q hq => ?_) (by simpa using h0)).congr fun q _ => by simp
  rw [Array.size_replicate] at hq
  simp [hq]
/-- filled up to p -/
abbrev upto (p : Nat) (U : Nat → Int) : Nat → Int := fun q => if q < p then U q else 0
theorem Row.next {w : World} {b t m p : Nat} {U : Nat → Int} (h : Row w b t m (upto p U)) : Row (w.setCell ⟨b, p, none⟩ (.int .i64 (U p))) b t m (upto (p + 1) U) :=
  (h.set p (U p)).congr fun q _ => by
    by_cases e : q = p
    · subst e; simp [upto]
    · simp only [upto, if_neg e]
      by_cases l : q < p
      · rw [if_pos l, if_pos (by omega)]
      · rw [if_neg l, if_neg (by omega)]
theorem Row.full {w : World} {b t m p : Nat} {U : Nat → Int} (h : Row w b t m (upto p U)) (hp : m ≤ p) : Row w b t m U := h.congr fun q hq => by simp only [upto]; rw [if_pos (by omega)]
theorem Row.zero {w : World} {b t m : Nat} {U : Nat → Int} (h : Row w b t m (fun _ => 0)) : Row w b t m (upto 0 U) := h.congr fun q hq => by simp [upto]
theorem Row.cut {w : World} {b t m p r : Nat} {U : Nat → Int} (h : Row w b t m (upto p U)) (e : p = r) : Row w b t m (upto r U) := e ▸ h
end Go.Proofs.YtkblddegfobpaaaGreat
namespace Go.Proofs.YtkblddegfobpaaaGreat
open Go.RowKit
set_option linter.unusedVariables false
set_option linter.unusedSimpArgs false
def numL (m : Nat) (U : Nat → Int) : List Value := (List.range m).map fun q => Value.int .i64 (U q)
theorem numL_len (m : Nat) (U : Nat → Int) : (numL m U).length = m := by simp [numL]
theorem numL_get {m : Nat} {U : Nat → Int} {q : Nat} (h : q < m) : (numL m U)[q]? = some (.int .i64 (U q)) := by simp [numL, h]
/-- the one behind the other -/
def cat (p : Nat) (U X : Nat → Int) : Nat → Int := fun q => if q < p then U q else X (q - p)
theorem numL_cat (p r : Nat) (U X : Nat → Int) : numL p U ++ numL r X = numL (p + r) (cat p U X) := by
  apply List.ext_getElem?
  intro q
  by_cases h : q < p
  · rw [List.getElem?_append_left (by rw [numL_len]; exact h), numL_get h, numL_get (by omega)]; simp [cat, h]
  · rw [List.getElem?_append_right (by rw [numL_len]; omega), numL_len]
    by_cases h2 : q < p + r
    · rw [numL_get (by omega), numL_get h2]; simp [cat, h]
    · rw [List.getElem?_eq_none (by rw [numL_len]; omega), List.getElem?_eq_none (by rw [numL_len]; omega)]
/-- a row of n things of k numbers, its block not below base, and nobody else's -/
def OwnL (w : World) (base t k : Nat) (v : Value) (n : Nat) (U : Nat → Int) : Prop := w.ownsRow base t k v n (numL (n * k) U)
theorem OwnL.nil (w : World) (base t k : Nat) (U : Nat → Int) : OwnL w base t k (.slice none 0 0) 0 U := by
  unfold OwnL; rw [Nat.zero_mul]; exact World.ownsRow_nil w base t k
theorem OwnL.flat {w : World} {base t k n : Nat} {a : Option Addr} {c : Nat} {U : Nat → Int} (h : OwnL w base t k (.slice a n c) n U) : Flat w a (n * k) U := by
  intro h0
  rcases h.2 with ⟨hv, hn⟩ | ⟨g, cap, cur, hv, hb, hg, hle, hm, hs, ht⟩
  · subst hn; omega
  · simp only [Value.slice.injEq] at hv
    obtain ⟨rfl, _, rfl⟩ := hv
    have hlt : g < w.heap.size := (Array.getElem?_eq_some_iff.1 hg).1
    refine ⟨g, 0, rfl, hlt, fun q hq => ?_⟩
    have := World.ownsRow.cells h (g := g) rfl q _ (numL_get hq)
    rw [Addr.add_lit] at this
    exact this
theorem OwnL.congr {w : World} {base t k n : Nat} {v : Value} {U V : Nat → Int} (h : OwnL w base t k v n U) (e : ∀ q, q < n * k → U q = V q) : OwnL w base t k v n V := by
  unfold OwnL at *
  rw [show numL (n * k) V = numL (n * k) U from List.map_congr_left fun q hq => by rw [e q (List.mem_range.1 hq)]]
  exact h
theorem OwnL.kept {w w' : World} {base t k n : Nat} {v : Value} {U : Nat → Int} {row : Option Nat} (h : OwnL w base t k v n U) (hg : w.grownBy w' row) (hne : v.ownBlock = none ∨ v.ownBlock ≠ row) : OwnL w' base t k v n U := World.ownsRow.kept h hg hne
theorem below_grown {B : Nat} {w w' : World} (h : Below B w w') : B = w.heap.size → w.grownBy w' none := fun e => ⟨h.os, h.tape, h.output, h.size, fun k hk _ => h.block k (e ▸ hk)⟩
theorem OwnL.below {w w' : World} {base t k n : Nat} {v : Value} {U : Nat → Int} (h : OwnL w base t k v n U) (hb : Below w.heap.size w w') : OwnL w' base t k v n U := by
  have hg := below_grown hb rfl
  cases e : v.ownBlock with
  | none => exact World.ownsRow.kept h hg (.inl e)
  | some b => exact World.ownsRow.kept h hg (.inr (by rw [e]; simp))
theorem OwnL.lt {w : World} {base t k n : Nat} {v : Value} {U : Nat → Int} (h : OwnL w base t k v n U) : ∀ b, v.ownBlock = some b → base ≤ b ∧ b < w.heap.size := World.ownsRow.lt h
theorem OwnL.is {w : World} {base t k n : Nat} {v : Value} {U : Nat → Int} (h : OwnL w base t k v n U) : ∃ a c, v = .slice a n c := by
  rcases h.2 with ⟨hv, hn⟩ | ⟨g, cap, cur, hv, _⟩
  · exact ⟨none, 0, by rw [hv, hn]⟩
  · exact ⟨_, _, hv⟩
theorem OwnL.le {w : World} {base t k n : Nat} {a : Option Addr} {c : Nat} {U : Nat → Int} (h : OwnL w base t k (.slice a n c) n U) : n ≤ c := by
  rcases h.2 with ⟨hv, hn⟩ | ⟨g, cap, cur, hv, _, _, hle, _⟩
  · simp only [Value.slice.injEq] at hv; omega
  · simp only [Value.slice.injEq] at hv; omega
theorem Row.own {w : World} {b t n k base : Nat} {U : Nat → Int} (h : Row w b t (n * k) U) (hb : base ≤ b) (hn : n ≤ maxLen) : OwnL w base t k (.slice (some ⟨b, 0, none⟩) n n) n U := by
  obtain ⟨c, hc, hs, hv⟩ := h
  refine ⟨by rw [numL_len], .inr ⟨b, n, c, rfl, hb, hc, Nat.le_refl _, hn, hs, ?_⟩⟩
  apply List.ext_getElem?
  intro q
  by_cases hq : q < n * k
  · rw [List.getElem?_take, if_pos hq, numL_get hq, ← hv q hq]; simp
  · rw [List.getElem?_eq_none (by simp; omega), List.getElem?_eq_none (by rw [numL_len]; omega)]
theorem OwnL.base {w : World} {base t k n : Nat} {v : Value} {U : Nat → Int} {B : Nat} (h : OwnL w base t k v n U) (hB : B ≤ base) : OwnL w B t k v n U := by
  refine ⟨h.1, ?_⟩
  rcases h.2 with q | ⟨g, cap, cur, hv, hb, rest⟩
  · exact .inl q
  · exact .inr ⟨g, cap, cur, hv, by omega, rest⟩
/-- APPEND -/
theorem run_app {P : Program} (base t ty e k bytes : Nat) (z : Value) (ht : P.underlying t = some (.slice e)) (hinfo : (P.info? e).map (fun i => (i.zero, i.size, i.bytes)) = some (some z, k, bytes)) (hzs : z.cells.size = k) (hk : 0 < k)
    (w : World) (v : Value) (n : Nat) (U : Nat → Int) (h : OwnL w base e k v n U) (a : Option Addr) (m c : Nat) (X : Nat → Int) (hx : Flat w a (m * k) X)
    (h63 : n + m ≤ maxLen) (hbytes : (n + m) * bytes ≤ 140737488355328) (hbase : base ≤ w.heap.size) :
    ∃ a' c' w', (Builtin.append_ #[t, t] ty #[v, .slice a m c]).run P w = .ok (.slice a' (n + m) c') w' ∧ OwnL w' base e k (.slice a' (n + m) c') (n + m) (cat (n * k) U X) ∧ w.grownBy w' v.ownBlock := by
  obtain ⟨i, hi, hzz⟩ := Option.map_eq_some_iff.1 hinfo
  simp only [Prod.mk.injEq] at hzz
  obtain ⟨hz, hs, hb⟩ := hzz
  by_cases h0 : m = 0
  · subst h0
    obtain ⟨a0, c0, rfl⟩ := h.is
    have hle := h.le
    have hnone : Src P i.size t (.slice a 0 c) 0 [] w := by
      cases a with
      | none => exact Src.ofNil w ht c
      | some ad => exact Src.ofSlice w ht ad 0 c [] (by simp) (fun j u hu => by simp at hu) (fun _ hu => by cases hu)
    refine ⟨a0, c0, w, run_append_nothing w t t ty e i ht hi a0 n c0 hle _ hnone, h.congr fun q hq => by simp [cat, hq], ?_⟩
    exact ⟨rfl, rfl, rfl, Nat.le_refl _, fun _ _ _ => rfl⟩
  · obtain ⟨b, o, rfl, hbl, hc⟩ := hx (Nat.mul_pos (by omega) hk)
    obtain ⟨g, cap, w', hr, h2, h3, _⟩ := run_append_lies (P := P) w t ty base e i z k bytes ht hi hz hs hb hzs hk v n (numL (n * k) U) h ⟨b, o, none⟩ m c (numL (m * k) X) (numL_len _ _)
      (fun j u hu => by
        have hj : j < m * k := by have := (List.getElem?_eq_some_iff.1 hu).1; rwa [numL_len] at this
        rw [numL_get hj] at hu
        rw [Addr.add_lit, hc j hj]; exact hu)
      (fun u hu => by obtain ⟨q, _, rfl⟩ := List.mem_map.1 hu; rfl) (by omega) h63 hbytes hbase _ rfl
    refine ⟨_, _, w', hr, ?_, h3⟩
    unfold OwnL
    rw [Nat.add_mul, ← numL_cat]
    exact h2
section
variable {P : Program} {ops : Array Oper} {o : Oper} {a : Act} {Q : Exit → Act → World → Prop} {w : World}
theorem wp_app {K : Act → World → Prop} (s x : Operand) (t : TypeId) (ho : o.op = .call { callee := .builtin .append, args := #[s, x], argTypes := #[t, t] })
    (base e k bytes : Nat) (z : Value) (ht : P.underlying t = some (.slice e)) (hinfo : (P.info? e).map (fun i => (i.zero, i.size, i.bytes)) = some (some z, k, bytes)) (hzs : z.cells.size = k) (hk : 0 < k)
    (v : Value) (n : Nat) (U : Nat → Int) (hs : a.eval s = v) (h : OwnL w base e k v n U) (ad : Option Addr) (m c : Nat) (X : Nat → Int) (hxx : a.eval x = .slice ad m c) (hx : Flat w ad (m * k) X)
    (h63 : n + m ≤ maxLen) (hbytes : (n + m) * bytes ≤ 140737488355328) (hbase : base ≤ w.heap.size)
    (hK : ∀ a' c' w', OwnL w' base e k (.slice a' (n + m) c') (n + m) (cat (n * k) U X) → w.grownBy w' v.ownBlock → K (a.put o.dst (.slice a' (n + m) c')) w') : o.wp P a w K Q := by
  obtain ⟨a', c', w', hr, h2, h3⟩ := run_app (P := P) base t o.type e k bytes z ht hinfo hzs hk w v n U h ad m c X hx h63 hbytes hbase
  unfold Oper.wp execOp
  simp only [ho, resolve, invoke, builtin, Sem.run_bind, Sem.run_pure, Result.andThen_ok, List.map_toArray, List.map_cons, List.map_nil, hs, hxx, hr]
  exact hK _ _ _ h2 h3
theorem wpList_app {rest : List Oper} (hgd : o.guard = none) (s x : Operand) (t : TypeId) (ho : o.op = .call { callee := .builtin .append, args := #[s, x], argTypes := #[t, t] })
    (base e k bytes : Nat) (z : Value) (ht : P.underlying t = some (.slice e)) (hinfo : (P.info? e).map (fun i => (i.zero, i.size, i.bytes)) = some (some z, k, bytes)) (hzs : z.cells.size = k) (hk : 0 < k)
    (v : Value) (n : Nat) (U : Nat → Int) (hs : a.eval s = v) (h : OwnL w base e k v n U) (ad : Option Addr) (m c : Nat) (X : Nat → Int) (hxx : a.eval x = .slice ad m c) (hx : Flat w ad (m * k) X)
    (h63 : n + m ≤ maxLen) (hbytes : (n + m) * bytes ≤ 140737488355328) (hbase : base ≤ w.heap.size)
    (hK : ∀ a' c' w', OwnL w' base e k (.slice a' (n + m) c') (n + m) (cat (n * k) U X) → w.grownBy w' v.ownBlock → wpList P ops Q rest (a.put o.dst (.slice a' (n + m) c')) w') : wpList P ops Q (o :: rest) a w :=
  wpList_plain hgd fun _ hK' => wp_app s x t ho base e k bytes z ht hinfo hzs hk v n U hs h ad m c X hxx hx h63 hbytes hbase fun a' c' w' h2 h3 => hK' _ _ (hK a' c' w' h2 h3)
theorem step_app {K : Act → World → Prop} {E : Prop} (hgd : o.guard = none) (s x : Operand) (t : TypeId) (ho : o.op = .call { callee := .builtin .append, args := #[s, x], argTypes := #[t, t] })
    (base e k bytes : Nat) (z : Value) (ht : P.underlying t = some (.slice e)) (hinfo : (P.info? e).map (fun i => (i.zero, i.size, i.bytes)) = some (some z, k, bytes)) (hzs : z.cells.size = k) (hk : 0 < k)
    (v : Value) (n : Nat) (U : Nat → Int) (hs : a.eval s = v) (h : OwnL w base e k v n U) (ad : Option Addr) (m c : Nat) (X : Nat → Int) (hxx : a.eval x = .slice ad m c) (hx : Flat w ad (m * k) X)
    (h63 : n + m ≤ maxLen) (hbytes : (n + m) * bytes ≤ 140737488355328) (hbase : base ≤ w.heap.size)
    (hK : ∀ a' c' w', OwnL w' base e k (.slice a' (n + m) c') (n + m) (cat (n * k) U X) → w.grownBy w' v.ownBlock → K (a.put o.dst (.slice a' (n + m) c')) w') :
    if Region.wanted o (yielded ops a.tmps) = true then Oper.wp P o a w K Q else E := by
  have hw : Region.wanted o (yielded ops a.tmps) = true := by simp [Region.wanted, hgd]
  rw [if_pos hw]
  exact wp_app s x t ho base e k bytes z ht hinfo hzs hk v n U hs h ad m c X hxx hx h63 hbytes hbase hK
end
end Go.Proofs.YtkblddegfobpaaaGreat
namespace Go.Proofs.YtkblddegfobpaaaGreat
open Go.RowKit
set_option linter.unusedVariables false
section
variable {P : Program} {Q : Exit → Act → World → Prop}
/-- an operation in a round, by what it does anywhere -/
theorem rows_wide {n : Nat} {row : String} {args : Array Value} {w : World} {R : Value → World → Prop} (h : Rows P row args w R) : RowsIn Fence.wide n P row args w R :=
  fun c cs _ => let ⟨v, w', r, s⟩ := h c cs; ⟨v, w', r, stepsIn_wide.2 s⟩
theorem opIn_of {l n : Nat} {o : Oper} (hd : ∀ c, o.op ≠ .defer c) {a : Act} {w : World} {K : Act → World → Prop} (h : o.wp P a w K Q) : o.wpIn (Fence.wide.inRound l) n P a w K Q := by
  unfold Oper.wp at h
  unfold Oper.wpIn
  refine ⟨fun _ _ => trivial, ?_⟩
  rw [Oper.semAt_eq _ _ _ hd]
  generalize (execOp a.eval o).run P w = r at *
  cases r with
  | ok x w' =>
    cases x <;> simp only [Oper.upon, Oper.uponIn] at h ⊢ <;>
      first
        | exact h
        | exact ⟨(fun e => by cases e), CallsIn.inRound l (callsIn_wide.2 h)⟩
        | exact ⟨(fun e => by cases e), rows_wide h⟩
  | halt x w' => cases x <;> simp only [Oper.upon, Oper.uponIn] at h ⊢ <;> exact h
def noDefer (ops : Array Oper) : Bool := ops.toList.all fun o => match o.op with | .defer _ => false | _ => true
theorem noDefer_at {ops : Array Oper} (h : noDefer ops = true) {i : Nat} {o : Oper} (hi : ops[i]? = some o) : ∀ c, o.op ≠ .defer c := by
  intro c e
  have hm : o ∈ ops.toList := List.mem_of_getElem? (by simpa using hi)
  have := List.all_eq_true.1 h o hm
  rw [e] at this
  cases this
theorem wpOpIn_of {l n : Nat} {ops : Array Oper} (hL : ¬ LetsOut Q) (hn : noDefer ops = true) {i : Nat} {K : Act → World → Prop} {a : Act} {w : World} (h : wpOp P ops Q i K a w) : wpOpIn (Fence.wide.inRound l) n P ops Q i K a w := by
  unfold wpOp at h
  unfold wpOpIn
  cases hi : ops[i]? with
  | none => simp only [hi] at h ⊢; exact h
  | some o =>
    simp only [hi] at h ⊢
    split
    · rename_i hw
      rw [if_pos hw] at h
      exact opIn_of (noDefer_at hn hi) (h.resolve_right fun q => hL q.2)
    · rename_i hw
      rw [if_neg hw] at h
      exact ⟨fun _ _ => trivial, h⟩
theorem wpAnyIn_of {l n : Nat} {md : Region.Mode} {ops : Array Oper} (hL : ¬ LetsOut Q) (hn : noDefer ops = true) : ∀ (fuel : Nat) (listed : Array Bool) (a : Act) (w : World),
    wpAny P md ops Q fuel listed a w → wpAnyIn (Fence.wide.inRound l) n P md ops Q fuel listed a w
  | 0, _, _, _, h => h
  | fuel + 1, _, _, _, h => ⟨h.1, fun i hi => wpOpIn_of hL hn (wpOp_mono (fun a' w' h' => wpAnyIn_of hL hn fuel _ a' w' h') (h.2 i hi))⟩
/-- a drawn region within a round, held -/
theorem wpIn_region_held_drew {l n : Nat} {ops : Array Oper} {S : World → Prop} {id : Nat} {a : Act} {w : World} (hm : P.follows .mixedOrders = true) (hL : ¬ LetsOut Q) (hn : noDefer ops = true) (hS : S w.drew)
    (h : S w.drew → wpAnyH P .any ops Q S ops.size (Array.replicate ops.size false) a w.drew) : (Code.region id ops true).wpIn (Fence.wide.inRound l) n P Q a w :=
  wpIn_region_any hm (wpAnyIn_of hL hn _ _ _ _ (wpAny_of_held _ _ _ _ (h hS)))
theorem wpListIn_of {l n : Nat} {ops : Array Oper} (hL : ¬ LetsOut Q) : ∀ (os : List Oper) (hn : noDefer os.toArray = true) (a : Act) (w : World), wpList P ops Q os a w → wpListIn (Fence.wide.inRound l) n P ops Q os a w
  | [], _, _, _, h => h
  | o :: rest, hn, a, w, h => by
    unfold wpList at h
    unfold wpListIn
    have hn' : noDefer rest.toArray = true := by simp [noDefer] at hn ⊢; exact hn.2
    split
    · rename_i hw
      rw [if_pos hw] at h
      refine opIn_of (noDefer_at hn (i := 0) (by simp)) (Oper.wp_mono (fun a' w' h' => wpListIn_of hL rest hn' a' w' h') (h.resolve_right fun q => hL q.2))
    · rename_i hw
      rw [if_neg hw] at h
      exact ⟨fun _ _ => trivial, wpListIn_of hL rest hn' _ _ h⟩
/-- a region within a round that does not draw -/
theorem wpIn_region_plain {l n : Nat} {ops : Array Oper} {id : Nat} {a : Act} {w : World} (hL : ¬ LetsOut Q) (hn : noDefer ops = true) (h : wpList P ops Q ops.toList a w) : (Code.region id ops false).wpIn (Fence.wide.inRound l) n P Q a w :=
  wpIn_region_list (wpListIn_of hL _ (by simpa using hn) _ _ h)
end
/-- what book-keeping leaves: blocks below B as they were, and all cells -/
structure Sm (B : Nat) (W W' : World) : Prop where
  below : Below B W W'
  cells : ∀ (k : Nat) (o : Obj), W.heap[k]? = some o → o.isCells = true → W'.heap[k]? = some o
theorem Sm.refl (B : Nat) (W : World) : Sm B W W := ⟨Below.refl _ _, fun _ _ h _ => h⟩
theorem Sm.trans {B : Nat} {X Y Z : World} (h : Sm B X Y) (k : Sm B Y Z) : Sm B X Z := ⟨h.below.trans k.below, fun i o hi ho => k.cells i o (h.cells i o hi ho) ho⟩
theorem Sm.mono {B B' : Nat} {X Y : World} (h : Sm B X Y) (hB : B' ≤ B) : Sm B' X Y := ⟨h.below.mono hB, h.cells⟩
theorem Sm.of_below {B : Nat} {W W' : World} (h : Below W.heap.size W W') (hB : B ≤ W.heap.size) : Sm B W W' :=
  ⟨h.mono hB, fun k o hk _ => (h.block k (Array.getElem?_eq_some_iff.1 hk).1).trans hk⟩
theorem Sm.putObj {B l : Nat} {W : World} {o : Obj} (o' : Obj) (hl : W.heap[l]? = some o) (ho : o.isCells = false) (hB : B ≤ l) : Sm B W (W.putObj l o') :=
  ⟨⟨rfl, rfl, rfl, by simp, fun k hk => World.putObj_heap_other (by omega)⟩, fun k x hk hx => by
    refine (World.putObj_heap_other (fun e => ?_)).trans hk
    subst e
    rw [hl] at hk
    cases hk
    rw [ho] at hx
    cases hx⟩
theorem isCells_of_cell {W : World} {p : Addr} {v : Value} (h : W.cell? p = some v) : ∃ o : Obj, W.heap[p.block]? = some o ∧ o.isCells = true := by
  unfold World.cell? at h
  cases ho : W.heap[p.block]? with
  | none => simp [ho] at h
  | some o => cases o <;> simp [ho] at h <;> exact ⟨_, rfl, rfl⟩
theorem Sm.block {B : Nat} {W W' : World} (h : Sm B W W') {p : Addr} {v : Value} (hc : W.cell? p = some v) : W'.heap[p.block]? = W.heap[p.block]? := by
  obtain ⟨o, ho, hx⟩ := isCells_of_cell hc
  rw [ho]
  exact h.cells _ _ ho hx
theorem Sm.cell {B : Nat} {W W' : World} (h : Sm B W W') {p : Addr} {v : Value} (hc : W.cell? p = some v) : W'.cell? p = some v := (World.cell?_of_block (h.block hc)).trans hc
theorem Sm.frozen {B : Nat} {W W' : World} (h : Sm B W W') {p : Addr} {v : Value} (hc : W.cell? p = some v) {b : Bool} (hf : W.frozen? p = b) : W'.frozen? p = b := (World.frozen?_of_block (h.block hc)).trans hf
theorem Sm.size {B : Nat} {W W' : World} (h : Sm B W W') : W.heap.size ≤ W'.heap.size := h.below.size
theorem KeepsFrom.of_below {B : Nat} {W W' : World} (h : Below W.heap.size W W') : KeepsFrom B W W' :=
  ⟨h.size, fun k o _ hk _ => (h.block k (Array.getElem?_eq_some_iff.1 hk).1).trans hk⟩
/-- how a round may end -/
def rdPost (B : Nat) (I : World → Prop) (Ix : Code → World → Prop) (W : World) : Exit → Act → World → Prop
  | .normal, _, W' => KeepsFrom B W W' ∧ I W'
  | .ret, _, W' => KeepsFrom B W W' ∧ Ix .ret W'
  | .exit id, _, W' => KeepsFrom B W W' ∧ Ix (.exit id) W'
  | .goto t, _, W' => KeepsFrom B W W' ∧ Ix (.goto t) W'
  | .panic _, _, _ => False
  | .outgrown, _, _ => False
/-- what an iterator is asked: it calls yield at encs 0, encs 1, .. as long as the rounds go on -/
def ItC (P : Program) (gf : Nat) (bound : Array Value) (encs : Nat → Array Value) (nn : Nat) (w : World) : Prop :=
  ∀ (l : Nat) (J : Nat → World → Prop) (Jx : World → Prop) (W : World), Below w.heap.size w W →
    (∀ k A B, J k A → Below A.heap.size A B → J k B) → (∀ A B, Jx A → Below A.heap.size A B → Jx B) →
    (∀ k A, J k A → k < nn → YieldAt Fence.wide 0 P l (encs k) A fun e A' => (e = .returned (.bool true) ∧ J (k + 1) A') ∨ (e = .returned (.bool false) ∧ Jx A')) →
    J 0 W → CallsIn Fence.wide 0 P gf (bound ++ #[.func (.yield l) #[] #[]]) W fun e A => (∃ v, e = .returned v) ∧ (J nn A ∨ Jx A)
/-- one round, of the record and the invariant -/
theorem yield_round {P : Program} {ps : Array Tmp} {assign body : Code} {a : Act} {w : World} {B l dl : Nat} {fn : FuncId} {encs : Nat → Array Value} {k : Nat} (hps : (encs k).size = ps.size)
    {I I' : World → Prop} {Ix : Code → World → Prop} (hI : ∀ A B', I A → Sm B A B' → I B') (hI' : ∀ A B', I' A → Sm B A B' → I' B') (hIx : ∀ c A B', Ix c A → Sm B A B' → Ix c B') {H : World → Prop} (hH : ∀ A B', H A → KeepsFrom B A B' → H B') (hHp : ∀ A o, H A → H (A.putObj l o))
    {rec : LoopState → Option Code → Loop} (hrec : rec = fun st pe => { state := st, pending := pe, fn, tmps := a.tmps, params := ps, assign, body, defers := dl }) (hBl : B ≤ l)
    {W : World} (hi : I W) (hl : W.heap[l]? = some (.loop (rec .ready none))) (hh : H W)
    (hround : assign.wpIn (Fence.wide.inRound l) 0 P (Exit.then (fun a₁ W₁ => KeepsFrom B W W₁ ∧ ∀ W₂, Sm B W₁ W₂ → (∃ r, W₂.heap[l]? = some (.loop r)) → body.wpIn (Fence.wide.inRound l) 0 P (rdPost B I' Ix W₂) a₁ W₂) (fun _ _ _ => False))
      { tmps := (ps.zip (encs k)).foldl (fun t (p, v) => t.setIfInBounds p v) a.tmps, defers := [] } W) :
    YieldAt Fence.wide 0 P l (encs k) W fun e W' => (e = .returned (.bool true) ∧ I' W' ∧ W'.heap[l]? = some (.loop (rec .ready none)) ∧ H W') ∨ (e = .returned (.bool false) ∧ ∃ c, Ix c W' ∧ W'.heap[l]? = some (.loop (rec .done (some c))) ∧ H W') := by
  have hy := run_yield (P := P) (args := encs k) hl (by rw [hrec]; exact hps)
  rw [hrec] at hy
  refine ⟨fn, _, assign, body, hy, roundIn_of_wpIn trivial (wpIn_mono hround ?_)⟩
  intro e a₁ W₁ q
  cases e with
  | normal =>
    obtain ⟨hk1, hb⟩ := q
    have hl1 := hk1.same _ _ hBl hl rfl
    have hh1 := hH _ _ hh hk1
    refine ⟨_, run_beginRound hl1 (by rw [hrec]), ?_⟩
    have hlt : l < W₁.heap.size := (Array.getElem?_eq_some_iff.1 hl1).1
    have hl2 : (W₁.putObj l (.loop { rec .ready none with state := .busy })).heap[l]? = some (.loop { rec .ready none with state := .busy }) := World.putObj_heap_same hlt
    refine wpIn_mono (hb _ (Sm.putObj _ hl1 rfl hBl) ⟨_, hl2⟩) ?_
    have fin : ∀ (jump : Option Code) (W3 : World), KeepsFrom B (W₁.putObj l (.loop { rec .ready none with state := .busy })) W3 →
        (Instr.endRound l jump).run P W3 = .ok (.bool jump.isNone) (W3.putObj l (.loop (rec (if jump.isNone then .ready else .done) jump))) ∧
        Sm B W3 (W3.putObj l (.loop (rec (if jump.isNone then .ready else .done) jump))) ∧
        (W3.putObj l (.loop (rec (if jump.isNone then .ready else .done) jump))).heap[l]? = some (.loop (rec (if jump.isNone then .ready else .done) jump)) ∧
        H (W3.putObj l (.loop (rec (if jump.isNone then .ready else .done) jump))) := fun jump W3 hk3 => by
      have hl3 := hk3.same _ _ hBl hl2 rfl
      have := run_endRound (P := P) jump hl3
      rw [hrec] at this ⊢
      exact ⟨this, Sm.putObj _ hl3 rfl hBl, World.putObj_heap_same (Array.getElem?_eq_some_iff.1 hl3).1, hHp _ _ (hH _ _ (hHp _ _ hh1) (by rw [hrec] at hk3; exact hk3))⟩
    rintro e a3 W3 hp
    cases e with
    | normal =>
      obtain ⟨hk3, hi3⟩ := hp
      obtain ⟨hr, hs, hl4, hh4⟩ := fin none W3 hk3
      exact ⟨_, _, hr, .inl ⟨rfl, hI' _ _ hi3 hs, hl4, hh4⟩⟩
    | ret =>
      obtain ⟨hk3, hi3⟩ := hp
      obtain ⟨hr, hs, hl4, hh4⟩ := fin (some .ret) W3 hk3
      exact ⟨_, _, hr, .inr ⟨rfl, .ret, hIx _ _ _ hi3 hs, hl4, hh4⟩⟩
    | exit id =>
      obtain ⟨hk3, hi3⟩ := hp
      obtain ⟨hr, hs, hl4, hh4⟩ := fin (some (.exit id)) W3 hk3
      exact ⟨_, _, hr, .inr ⟨rfl, .exit id, hIx _ _ _ hi3 hs, hl4, hh4⟩⟩
    | goto t =>
      obtain ⟨hk3, hi3⟩ := hp
      obtain ⟨hr, hs, hl4, hh4⟩ := fin (some (.goto t)) W3 hk3
      exact ⟨_, _, hr, .inr ⟨rfl, .goto t, hIx _ _ _ hi3 hs, hl4, hh4⟩⟩
    | panic ch => exact hp.elim
    | outgrown => exact hp.elim
  | exit id => exact q.elim
  | goto t => exact q.elim
  | ret => exact q.elim
  | panic ch => exact q.elim
  | outgrown => exact q.elim
/-- the statement, not within a round -/
theorem wp_range_out {P : Program} {g : Operand} {ps : Array Tmp} {assign body : Code} {Q : Exit → Act → World → Prop} {a : Act} {w : World} {gf : Nat} {bound : Array Value}
    (hg : a.eval g = .func (.func gf) bound #[]) (eg : ∀ args w, (callFunc gf args).run P w = .ok (.enter gf args) w)
    {encs : Nat → Array Value} {nn : Nat} (hit : ItC P gf bound encs nn w) (hps : ∀ k, (encs k).size = ps.size)
    (I : Nat → World → Prop) (Ix : Code → World → Prop) (hI : ∀ k A B, I k A → Sm w.heap.size A B → I k B) (hIx : ∀ c A B, Ix c A → Sm w.heap.size A B → Ix c B) (h0 : I 0 w)
    (hround : ∀ l k W, w.heap.size ≤ l → I k W → k < nn →
      assign.wpIn (Fence.wide.inRound l) 0 P (Exit.then (fun a₁ W₁ => KeepsFrom w.heap.size W W₁ ∧ ∀ W₂, Sm w.heap.size W₁ W₂ → (∃ r, W₂.heap[l]? = some (.loop r)) → body.wpIn (Fence.wide.inRound l) 0 P (rdPost w.heap.size (I (k + 1)) Ix W₂) a₁ W₂) (fun _ _ _ => False))
      { tmps := (ps.zip (encs k)).foldl (fun t (p, v) => t.setIfInBounds p v) a.tmps, defers := [] } W)
    (hdone : ∀ (D : Nat) (W : World), w.heap.size ≤ D → I nn W → W.heap[D]? = some (.deferred (some [])) → Q .normal { a with defers := { target := .collected D, args := #[] } :: a.defers } W)
    (hstop : ∀ (D : Nat) (c : Code) (W : World), w.heap.size ≤ D → Ix c W → W.heap[D]? = some (.deferred (some [])) → c.wp P Q { a with defers := { target := .collected D, args := #[] } :: a.defers } W) :
    (Code.rangeFunc g ps assign body).wp P Q a w := by
  refine wpIn_wide.1 (wpIn_rangeFunc (n := 0) ?_)
  intro fn _
  obtain ⟨rec, hrec⟩ : ∃ rec : LoopState → Option Code → Loop, rec = fun st pe => { state := st, pending := pe, fn, tmps := a.tmps, params := ps, assign, body, defers := w.heap.size } := ⟨_, rfl⟩
  obtain ⟨W1, hW1⟩ : ∃ W1, (w.alloc (.deferred (some []))).alloc (.loop (rec .ready none)) = W1 := ⟨_, rfl⟩
  have hb1 : Below w.heap.size w W1 := by rw [← hW1]; exact ((Below.refl _ w).alloc (Nat.le_refl _) _).alloc (by simp) _
  have hL1 : W1.heap[w.heap.size + 1]? = some (.loop (rec .ready none)) := by
    rw [← hW1]; have := World.alloc_heap_new (w.alloc (.deferred (some []))) (.loop (rec .ready none)); rwa [World.size_alloc] at this
  have hK1 : W1.heap[w.heap.size]? = some (.deferred (some [])) := by
    rw [← hW1]; exact (Below.heap_alloc _ _ _ (by simp)).trans (World.alloc_heap_new w _)
  refine ⟨w.heap.size + 1, [{ target := .collected w.heap.size, args := #[] }], W1, { target := .fn (.func gf) #[], args := bound ++ #[.func (.yield (w.heap.size + 1)) #[] #[]] }, W1, gf,
    bound ++ #[.func (.yield (w.heap.size + 1)) #[] #[]], W1, ?_, ?_, fun _ _ => trivial, ?_, (fun e => by cases e), ?_⟩
  · rw [← hW1, hrec]; exact run_enterLoop_outer _ _ _ _ _
  · simp only [resolve, hg]
    simp [go_sem]
  · simp [invoke, go_sem, eg]
  · refine (hit (w.heap.size + 1)
      (fun k W => I k W ∧ W.heap[w.heap.size + 1]? = some (.loop (rec .ready none)) ∧ W.heap[w.heap.size]? = some (.deferred (some [])) ∧ w.heap.size ≤ W.heap.size)
      (fun W => ∃ c, Ix c W ∧ W.heap[w.heap.size + 1]? = some (.loop (rec .done (some c))) ∧ W.heap[w.heap.size]? = some (.deferred (some [])) ∧ w.heap.size ≤ W.heap.size)
      W1 hb1 ?_ ?_ ?_ ⟨hI _ _ _ h0 (Sm.of_below hb1 (Nat.le_refl _)), hL1, hK1, hb1.size⟩).mono ?_
    · rintro k A B ⟨h1, h2, h3, h4⟩ hb
      exact ⟨hI _ _ _ h1 (Sm.of_below hb h4), (hb.block _ (Array.getElem?_eq_some_iff.1 h2).1).trans h2, (hb.block _ (Array.getElem?_eq_some_iff.1 h3).1).trans h3, Nat.le_trans h4 hb.size⟩
    · rintro A B ⟨c, h1, h2, h3, h4⟩ hb
      exact ⟨c, hIx _ _ _ h1 (Sm.of_below hb h4), (hb.block _ (Array.getElem?_eq_some_iff.1 h2).1).trans h2, (hb.block _ (Array.getElem?_eq_some_iff.1 h3).1).trans h3, Nat.le_trans h4 hb.size⟩
    · rintro k W ⟨h1, h2, h3, h4⟩ hk
      obtain ⟨fn', tm, as', bo, hy, hR⟩ := yield_round (P := P) (ps := ps) (assign := assign) (body := body) (a := a) (w := w) (B := w.heap.size) (l := w.heap.size + 1) (dl := w.heap.size) (fn := fn) (encs := encs) (k := k) (hps k) (I := I k) (I' := I (k + 1)) (Ix := Ix) (hI k) (hI (k + 1)) hIx
        (H := fun W => W.heap[w.heap.size]? = some (.deferred (some [])) ∧ w.heap.size ≤ W.heap.size) (fun A B h hk => ⟨hk.same _ _ (Nat.le_refl _) h.1 rfl, Nat.le_trans h.2 hk.size⟩) (fun A o h => ⟨(World.putObj_heap_other (by omega)).trans h.1, by simpa using h.2⟩) hrec (by omega) h1 h2 ⟨h3, h4⟩ (hround _ k W (by omega) h1 hk)
      refine ⟨fn', tm, as', bo, hy, hR.mono ?_⟩
      rintro e W' (⟨e1, h1, h2, h3, h4⟩ | ⟨e1, c, h1, h2, h3, h4⟩)
      · exact .inl ⟨e1, h1, h2, h3, h4⟩
      · exact .inr ⟨e1, c, h1, h2, h3, h4⟩
    · rintro e W2 ⟨⟨v, rfl⟩, (⟨hi, hl, hk, _⟩ | ⟨c, hi, hl, hk, _⟩)⟩
      · exact ⟨none, _, by have := run_endLoop (P := P) hl (by rw [hrec]; simp); rw [hrec] at this; exact this, hdone _ _ (Nat.le_refl _) (hI _ _ _ hi (Sm.putObj _ hl rfl (by omega))) ((World.putObj_heap_other (by omega)).trans hk)⟩
      · exact ⟨some c, _, by have := run_endLoop (P := P) hl (by rw [hrec]; simp); rw [hrec] at this; exact this, wpIn_wide.2 (hstop _ c _ (Nat.le_refl _) (hIx _ _ _ hi (Sm.putObj _ hl rfl (by omega))) ((World.putObj_heap_other (by omega)).trans hk))⟩
/-- the statement within a round of loop l₀ -/
theorem wpIn_range_in {P : Program} {g : Operand} {ps : Array Tmp} {assign body : Code} {Q : Exit → Act → World → Prop} {a : Act} {w : World} {l₀ : Nat} {r₀ : Loop} (hr₀ : w.heap[l₀]? = some (.loop r₀)) {gf : Nat} {bound : Array Value}
    (hg : a.eval g = .func (.func gf) bound #[]) (eg : ∀ args w, (callFunc gf args).run P w = .ok (.enter gf args) w)
    {encs : Nat → Array Value} {nn : Nat} (hit : ItC P gf bound encs nn w) (hps : ∀ k, (encs k).size = ps.size)
    (I : Nat → World → Prop) (Ix : Code → World → Prop) (hI : ∀ k A B, I k A → Sm w.heap.size A B → I k B) (hIx : ∀ c A B, Ix c A → Sm w.heap.size A B → Ix c B) (h0 : I 0 w)
    (hround : ∀ l k W, w.heap.size ≤ l → I k W → k < nn →
      assign.wpIn (Fence.wide.inRound l) 0 P (Exit.then (fun a₁ W₁ => KeepsFrom w.heap.size W W₁ ∧ ∀ W₂, Sm w.heap.size W₁ W₂ → (∃ r, W₂.heap[l]? = some (.loop r)) → body.wpIn (Fence.wide.inRound l) 0 P (rdPost w.heap.size (I (k + 1)) Ix W₂) a₁ W₂) (fun _ _ _ => False))
      { tmps := (ps.zip (encs k)).foldl (fun t (p, v) => t.setIfInBounds p v) a.tmps, defers := [] } W)
    (hdone : ∀ (W : World), I nn W → Q .normal a W)
    (hstop : ∀ (c : Code) (W : World), Ix c W → c.wpIn (Fence.wide.inRound l₀) 0 P Q a W) :
    (Code.rangeFunc g ps assign body).wpIn (Fence.wide.inRound l₀) 0 P Q a w := by
  refine wpIn_rangeFunc (n := 0) ?_
  intro fn _
  obtain ⟨rec, hrec⟩ : ∃ rec : LoopState → Option Code → Loop, rec = fun st pe => { state := st, pending := pe, fn, tmps := a.tmps, params := ps, assign, body, defers := r₀.defers } := ⟨_, rfl⟩
  obtain ⟨W1, hW1⟩ : ∃ W1, w.alloc (.loop (rec .ready none)) = W1 := ⟨_, rfl⟩
  have hb1 : Below w.heap.size w W1 := by rw [← hW1]; exact (Below.refl _ w).alloc (Nat.le_refl _) _
  have hL1 : W1.heap[w.heap.size]? = some (.loop (rec .ready none)) := by
    rw [← hW1]; exact World.alloc_heap_new w (.loop (rec .ready none))
  refine ⟨w.heap.size, [], W1, { target := .fn (.func gf) #[], args := bound ++ #[.func (.yield w.heap.size) #[] #[]] }, W1, gf,
    bound ++ #[.func (.yield w.heap.size) #[] #[]], W1, ?_, ?_, fun _ _ => trivial, ?_, (fun e => by cases e), ?_⟩
  · rw [← hW1, hrec]; exact run_enterLoop_inner hr₀ _ _ _ _ _
  · simp only [resolve, hg]
    simp [go_sem]
  · simp [invoke, go_sem, eg]
  · refine CallsIn.inRound l₀ ((hit w.heap.size
      (fun k W => I k W ∧ W.heap[w.heap.size]? = some (.loop (rec .ready none)) ∧ w.heap.size ≤ W.heap.size)
      (fun W => ∃ c, Ix c W ∧ W.heap[w.heap.size]? = some (.loop (rec .done (some c))) ∧ w.heap.size ≤ W.heap.size)
      W1 hb1 ?_ ?_ ?_ ⟨hI _ _ _ h0 (Sm.of_below hb1 (Nat.le_refl _)), hL1, hb1.size⟩).mono ?_)
    · rintro k A B ⟨h1, h2, h4⟩ hb
      exact ⟨hI _ _ _ h1 (Sm.of_below hb h4), (hb.block _ (Array.getElem?_eq_some_iff.1 h2).1).trans h2, Nat.le_trans h4 hb.size⟩
    · rintro A B ⟨c, h1, h2, h4⟩ hb
      exact ⟨c, hIx _ _ _ h1 (Sm.of_below hb h4), (hb.block _ (Array.getElem?_eq_some_iff.1 h2).1).trans h2, Nat.le_trans h4 hb.size⟩
    · rintro k W ⟨h1, h2, h4⟩ hk
      obtain ⟨fn', tm, as', bo, hy, hR⟩ := yield_round (P := P) (ps := ps) (assign := assign) (body := body) (a := a) (w := w) (B := w.heap.size) (l := w.heap.size) (dl := r₀.defers) (fn := fn) (encs := encs) (k := k) (hps k) (I := I k) (I' := I (k + 1)) (Ix := Ix) (hI k) (hI (k + 1)) hIx
        (H := fun W => w.heap.size ≤ W.heap.size) (fun A B h hk => Nat.le_trans h hk.size) (fun A o h => by simpa using h) hrec (Nat.le_refl _) h1 h2 h4 (hround _ k W (Nat.le_refl _) h1 hk)
      refine ⟨fn', tm, as', bo, hy, hR.mono ?_⟩
      rintro e W' (⟨e1, h1, h2, h4⟩ | ⟨e1, c, h1, h2, h4⟩)
      · exact .inl ⟨e1, h1, h2, h4⟩
      · exact .inr ⟨e1, c, h1, h2, h4⟩
    · rintro e W2 ⟨⟨v, rfl⟩, (⟨hi, hl, _⟩ | ⟨c, hi, hl, _⟩)⟩
      · exact ⟨none, _, by have := run_endLoop (P := P) hl (by rw [hrec]; simp); rw [hrec] at this; exact this, hdone _ (hI _ _ _ hi (Sm.putObj _ hl rfl (Nat.le_refl _)))⟩
      · exact ⟨some c, _, by have := run_endLoop (P := P) hl (by rw [hrec]; simp); rw [hrec] at this; exact this, hstop c _ (hIx _ _ _ hi (Sm.putObj _ hl rfl (Nat.le_refl _)))⟩
/-- a function with such a statement: its contract -/
theorem calls_of_wp_marks {P : Program} {f : FuncId} {fn : Func} {c : Code} {args : Array Value} {w : World} {R : Ending → World → Prop} (hf : P.funcs[f]? = some fn) (hb : fn.body = some c)
    (h : c.wp P (bodyPostM Fence.wide 0 P fn R) { tmps := args ++ Array.replicate (fn.ntmps - args.size) undef, defers := [] } w) : Calls P f args w R :=
  callsIn_wide.1 (callsIn_of_wp_marks (n := 0) hf hb trivial (wpIn_wide.2 h))
/-- at its return -/
theorem marks_ret {P : Program} {fn : Func} {R : Ending → World → Prop} {a : Act} {w : World} {B D : Nat} (hB : B ≤ D) (hd : a.defers = [{ target := .collected D, args := #[] }]) (hK : w.heap[D]? = some (.deferred (some [])))
    (h : ∀ W', Sm B w W' → ∃ v, (results fn a.tmps).run P W' = .ok v W' ∧ R (.returned v) W') : bodyPostM Fence.wide 0 P fn R .ret a w := by
  show LeavesInM Fence.wide 0 P fn a.tmps R a.defers .returning w
  rw [hd]
  exact ⟨by simp, .inl ⟨_, _, rfl, run_takeDeferred hK, h _ (Sm.putObj _ hK rfl hB)⟩⟩
theorem marks_ret0 {P : Program} {fn : Func} {R : Ending → World → Prop} {a : Act} {w : World} {v : Value} (hd : a.defers = []) (hr : (results fn a.tmps).run P w = .ok v w) (hR : R (.returned v) w) : bodyPostM Fence.wide 0 P fn R .ret a w := by
  show LeavesInM Fence.wide 0 P fn a.tmps R a.defers .returning w
  rw [hd]
  exact ⟨v, hr, hR⟩
end Go.Proofs.YtkblddegfobpaaaGreat
namespace Go.Proofs.YtkblddegfobpaaaGreat
open Go.RowKit
set_option linter.unusedVariables false
set_option linter.unusedSimpArgs false
theorem _root_.Go.RowKit.Below.ofDr {B : Nat} {w w' : World} (h : Below B w.drew w') : Below B w w' := ⟨h.os, h.tape, h.output, h.size, h.block⟩
/-- all blocks that were there are as they were but those of X, and nothing that is no cells has changed -/
structure Fr (X : Nat → Prop) (w w' : World) : Prop where
  os : w'.os = w.os
  tape : w'.tape = w.tape
  output : w'.output = w.output
  size : w.heap.size ≤ w'.heap.size
  block : ∀ k, k < w.heap.size → ¬ X k → w'.heap[k]? = w.heap[k]?
  kind : ∀ (k : Nat) (o : Obj), w.heap[k]? = some o → o.isCells = false → w'.heap[k]? = some o
theorem Fr.refl (X : Nat → Prop) (w : World) : Fr X w w := ⟨rfl, rfl, rfl, Nat.le_refl _, fun _ _ _ => rfl, fun _ _ h _ => h⟩
theorem Fr.trans' {X Y : Nat → Prop} {a b c : World} (h : Fr X a b) (k : Fr Y b c) (hXY : ∀ i, i < a.heap.size → Y i → X i) : Fr X a c :=
  ⟨k.os.trans h.os, k.tape.trans h.tape, k.output.trans h.output, Nat.le_trans h.size k.size, fun i hi hn => (k.block i (Nat.lt_of_lt_of_le hi h.size) (fun y => hn (hXY i hi y))).trans (h.block i hi hn), fun i o hi ho => k.kind i o (h.kind i o hi ho) ho⟩
theorem Fr.trans {X : Nat → Prop} {a b c : World} (h : Fr X a b) (k : Fr X b c) : Fr X a c := h.trans' k fun _ _ x => x
theorem Fr.of_below {X : Nat → Prop} {w w' : World} (h : Below w.heap.size w w') : Fr X w w' := ⟨h.os, h.tape, h.output, h.size, fun k hk _ => h.block k hk, fun k o hk _ => (h.block k (Array.getElem?_eq_some_iff.1 hk).1).trans hk⟩
theorem Fr.below {X : Nat → Prop} {B : Nat} {w w' : World} (h : Fr X w w') (hB : B ≤ w.heap.size) (hX : ∀ k, X k → B ≤ k) : Below B w w' := ⟨h.os, h.tape, h.output, h.size, fun k hk => h.block k (by omega) (fun x => by have := hX k x; omega)⟩
theorem Fr.others {X : Nat → Prop} {w w' : World} (h : Fr X w w') : KeepsOthers w w' := ⟨h.size, h.kind⟩
theorem Fr.keeps {X : Nat → Prop} {w w' : World} (h : Fr X w w') (B : Nat) : KeepsFrom B w w' := h.others.from B
theorem Fr.cell {X : Nat → Prop} {w w' : World} (h : Fr X w w') {p : Addr} (hp : p.block < w.heap.size) (hn : ¬ X p.block) : w'.cell? p = w.cell? p := World.cell?_of_block (w := w) (h.block p.block hp hn)
theorem Fr.frozen {X : Nat → Prop} {w w' : World} (h : Fr X w w') {p : Addr} (hp : p.block < w.heap.size) (hn : ¬ X p.block) : w'.frozen? p = w.frozen? p := World.frozen?_of_block (w := w) (h.block p.block hp hn)
theorem Fr.mono {X Y : Nat → Prop} {w w' : World} (h : Fr X w w') (hXY : ∀ k, k < w.heap.size → X k → Y k) : Fr Y w w' := ⟨h.os, h.tape, h.output, h.size, fun k hk hn => h.block k hk (fun x => hn (hXY k hk x)), h.kind⟩
theorem Fr.setCell {X : Nat → Prop} {w : World} {p : Addr} (hp : X p.block) (v : Value) : Fr X w (w.setCell p v) :=
  ⟨rfl, rfl, rfl, by simp [World.setCell], fun k _ hn => Below.heap_setCell _ _ _ _ (fun e => hn (by subst e; exact hp)), (KeepsOthers.setCell w p v).same⟩
theorem Fr.grown {X : Nat → Prop} {w w' : World} {row : Option Nat} (hg : w.grownBy w' row) (hX : ∀ b, row = some b → X b) (hc : ∀ b o, row = some b → w.heap[b]? = some o → o.isCells = true) : Fr X w w' :=
  ⟨hg.os, hg.tape, hg.output, hg.size, fun k hk hn => hg.block k hk (fun e => hn (hX k e.symm)), fun k o hk ho => (hg.block k (Array.getElem?_eq_some_iff.1 hk).1 (fun e => by have := hc k o e.symm hk; rw [ho] at this; cases this)).trans hk⟩
theorem Fr.drew {X : Nat → Prop} {w w' : World} (h : Fr X w w') : Fr X w w'.drew := h.trans (Fr.of_below (Below.drew (Below.refl _ _)))
theorem Fr.ofDrew {X : Nat → Prop} {w w' : World} (h : Fr X w.drew w') : Fr X w w' := ⟨h.os, h.tape, h.output, h.size, h.block, h.kind⟩
/-- rows of one's own -/
theorem OwnL.isCells {w : World} {base t k n : Nat} {v : Value} {U : Nat → Int} (h : OwnL w base t k v n U) : ∀ b o, v.ownBlock = some b → w.heap[b]? = some o → o.isCells = true := by
  intro b o hb ho
  rcases h.2 with ⟨hv, _⟩ | ⟨g, cap, cur, hv, _, hg, _⟩
  · subst hv; cases hb
  · subst hv
    simp only [Value.ownBlock, Option.some.injEq] at hb
    subst hb
    rw [hg] at ho
    cases ho
    rfl
theorem OwnL.sm {w w' : World} {B base t k n : Nat} {v : Value} {U : Nat → Int} (h : OwnL w base t k v n U) (hs : Sm B w w') : OwnL w' base t k v n U := by
  refine ⟨h.1, ?_⟩
  rcases h.2 with q | ⟨g, cap, cur, hv, hb, hg, rest⟩
  · exact .inl q
  · exact .inr ⟨g, cap, cur, hv, hb, hs.cells _ _ hg rfl, rest⟩
theorem OwnL.frame {X : Nat → Prop} {w w' : World} {base t k n : Nat} {v : Value} {U : Nat → Int} (h : OwnL w base t k v n U) (hs : Fr X w w') (hX : ∀ b, v.ownBlock = some b → ¬ X b) : OwnL w' base t k v n U := by
  refine ⟨h.1, ?_⟩
  rcases h.2 with q | ⟨g, cap, cur, hv, hb, hg, rest⟩
  · exact .inl q
  · exact .inr ⟨g, cap, cur, hv, hb, (hs.block _ (Array.getElem?_eq_some_iff.1 hg).1 (hX g (by rw [hv]; rfl))).trans hg, rest⟩
theorem OwnL.some {w : World} {base t k n : Nat} {v : Value} {U : Nat → Int} (h : OwnL w base t k v n U) (hn : 0 < n) : ∃ g c, v = .slice (Option.some ⟨g, 0, none⟩) n c := by
  rcases h.2 with ⟨_, e⟩ | ⟨g, cap, cur, hv, _⟩
  · omega
  · exact ⟨g, cap, hv⟩
theorem OwnL.at1 {w : World} {base t n g c : Nat} {U : Nat → Int} (h : OwnL w base t 1 (.slice (Option.some ⟨g, 0, none⟩) n c) n U) {j : Nat} (hj : j < n) : w.cell? ⟨g, j, none⟩ = Option.some (.int .i64 (U j)) := by
  have := World.ownsRow.cellAt h j (by omega)
  rw [this, numL_get (by omega)]
theorem OwnL.fro {w : World} {base t k n g c : Nat} {U : Nat → Int} (h : OwnL w base t k (.slice (Option.some ⟨g, 0, none⟩) n c) n U) (j : Nat) : w.frozen? ⟨g, j, none⟩ = false := World.ownsRow.frozenAt h j
theorem OwnL.put {w : World} {base t n g c : Nat} {U : Nat → Int} (h : OwnL w base t 1 (.slice (Option.some ⟨g, 0, none⟩) n c) n U) {j : Nat} (hj : j < n) (y : Int) : OwnL (w.setCell ⟨g, j, none⟩ (.int .i64 y)) base t 1 (.slice (Option.some ⟨g, 0, none⟩) n c) n (fun q => if q = j then y else U q) := by
  have h1 := (World.ownsRow.stored h j (.int .i64 y)).1
  unfold OwnL
  rw [show numL (n * 1) (fun q => if q = j then y else U q) = (numL (n * 1) U).set j (.int .i64 y) from ?_]
  · exact h1
  · apply List.ext_getElem?
    intro q
    rw [List.getElem?_set, numL_len]
    by_cases hq : q < n * 1
    · rw [numL_get hq]
      by_cases e : j = q
      · subst e; simp; omega
      · rw [if_neg e, numL_get hq]; simp [Ne.symm e]
    · rw [List.getElem?_eq_none (by rw [numL_len]; omega)]
      by_cases e : j = q
      · omega
      · rw [if_neg e, List.getElem?_eq_none (by rw [numL_len]; omega)]
/-- one number more -/
def snoc (n : Nat) (U : Nat → Int) (y : Int) : Nat → Int := fun q => if q = n then y else U q
theorem step_app1 {P : Program} {w : World} {ops : Array Oper} {o : Oper} {a : Act} {K : Act → World → Prop} {Q : Exit → Act → World → Prop} {E : Prop} (hgd : o.guard = none) (s x : Operand) (t : TypeId)
    (ho : o.op = .call { callee := .builtin .append, args := #[s, x], argTypes := #[t, t] })
    (base e : Nat) (z : Value) (ht : P.underlying t = some (.slice e)) (hinfo : (P.info? e).map (fun i => (i.zero, i.size, i.bytes)) = some (some z, 1, 8)) (hzs : z.cells.size = 1)
    (v : Value) (n : Nat) (U : Nat → Int) (hs : a.eval s = v) (h : OwnL w base e 1 v n U) (B c : Nat) (y : Int) (hx : a.eval x = .slice (some ⟨B, 0, none⟩) 1 c) (hv : w.cell? ⟨B, 0, none⟩ = some (.int .i64 y))
    (hn : n ≤ 1048576) (hbase : base ≤ w.heap.size) (H : Nat) (hH : w.heap.size = H)
    (hK : ∀ g cap w', OwnL w' base e 1 (.slice (some ⟨g, 0, none⟩) (n + 1) cap) (n + 1) (snoc n U y) → w.grownBy w' v.ownBlock → (v.ownBlock = some g ∨ g = H) → g < w'.heap.size → K (a.put o.dst (.slice (some ⟨g, 0, none⟩) (n + 1) cap)) w') :
    if Region.wanted o (yielded ops a.tmps) = true then Oper.wp P o a w K Q else E := by
  obtain ⟨i, hi, hzz⟩ := Option.map_eq_some_iff.1 hinfo
  simp only [Prod.mk.injEq] at hzz
  obtain ⟨hz, hsz, hby⟩ := hzz
  refine step_append_lies w hgd s x t ho base e i z 1 8 ht hi hz hsz hby hzs (by omega) v n (numL (n * 1) U) hs h ⟨B, 0, none⟩ 1 c [.int .i64 y] hx (by simp) ?_ (by intro u hu; simp at hu; subst hu; rfl) (by omega) (by unfold maxLen; omega) (by omega) hbase H hH ?_
  · intro j u hu
    cases j with
    | zero => simp at hu; subst hu; simpa [Addr.add] using hv
    | succ n => simp at hu
  · intro g cap w' h2 h3 h4 h5
    refine hK g cap w' ?_ h3 h4 h5
    unfold OwnL
    rw [show numL ((n + 1) * 1) (snoc n U y) = numL (n * 1) U ++ [.int .i64 y] from ?_]
    · exact h2
    · apply List.ext_getElem?
      intro q
      rcases Nat.lt_trichotomy q n with l | l | l
      · rw [List.getElem?_append_left (by rw [numL_len]; omega), numL_get (by omega), numL_get (by omega), snoc, if_neg (by omega)]
      · subst l; rw [List.getElem?_append_right (by rw [numL_len]; omega), numL_len, numL_get (by omega)]; simp [snoc]
      · rw [List.getElem?_append_right (by rw [numL_len]; omega), numL_len, List.getElem?_eq_none (by rw [numL_len]; omega), List.getElem?_eq_none (by simp; omega)]
/-- columns of n rows at cb: number i of row k is C i k -/
structure Cs (w : World) (cb n : Nat) (C : Nat → Nat → Int) (S : Nat → Value) : Prop where
  hd : ∀ i, i < 12 → w.cell? ⟨cb, i, none⟩ = some (S i)
  nf : ∀ i, i < 12 → w.frozen? ⟨cb, i, none⟩ = false
  own : ∀ i, i < 12 → OwnL w cb 50 1 (S i) n (C i)
  ncb : ∀ i, i < 12 → ∀ b, (S i).ownBlock = some b → b ≠ cb
  dis : ∀ i j, i < 12 → j < 12 → i ≠ j → ∀ b, (S i).ownBlock = some b → (S j).ownBlock ≠ some b
/-- the columns' own blocks -/
def Xc (S : Nat → Value) : Nat → Prop := fun k => ∃ i, i < 12 ∧ (S i).ownBlock = some k
theorem Cs.lt {w : World} {cb n : Nat} {C : Nat → Nat → Int} {S : Nat → Value} (h : Cs w cb n C S) : cb < w.heap.size := cell_lt (a := ⟨cb, 0, none⟩) (h.hd 0 (by omega))
theorem Cs.xlt {w : World} {cb n : Nat} {C : Nat → Nat → Int} {S : Nat → Value} (h : Cs w cb n C S) {b : Nat} (hb : Xc S b) : cb < b ∧ b < w.heap.size := by
  obtain ⟨i, hi, e⟩ := hb
  have := (h.own i hi).lt b e
  have := h.ncb i hi b e
  omega
theorem Cs.below {w w' : World} {cb n : Nat} {C : Nat → Nat → Int} {S : Nat → Value} (h : Cs w cb n C S) (hb : Below w.heap.size w w') : Cs w' cb n C S :=
  ⟨fun i hi => (hb.cell (p := ⟨cb, i, none⟩) h.lt).trans (h.hd i hi), fun i hi => (hb.frozen (p := ⟨cb, i, none⟩) h.lt).trans (h.nf i hi), fun i hi => (h.own i hi).below hb, h.ncb, h.dis⟩
theorem Cs.sm {w w' : World} {B cb n : Nat} {C : Nat → Nat → Int} {S : Nat → Value} (h : Cs w cb n C S) (hs : Sm B w w') : Cs w' cb n C S :=
  ⟨fun i hi => hs.cell (h.hd i hi), fun i hi => hs.frozen (h.hd i hi) (h.nf i hi), fun i hi => (h.own i hi).sm hs, h.ncb, h.dis⟩
theorem Cs.frame {X : Nat → Prop} {w w' : World} {cb n : Nat} {C : Nat → Nat → Int} {S : Nat → Value} (h : Cs w cb n C S) (hs : Fr X w w') (h0 : ¬ X cb) (hX : ∀ b, Xc S b → ¬ X b) : Cs w' cb n C S :=
  ⟨fun i hi => (hs.cell (p := ⟨cb, i, none⟩) h.lt h0).trans (h.hd i hi), fun i hi => (hs.frozen (p := ⟨cb, i, none⟩) h.lt h0).trans (h.nf i hi), fun i hi => (h.own i hi).frame hs fun b hb => hX b ⟨i, hi, hb⟩, h.ncb, h.dis⟩
theorem Cs.congr {w : World} {cb n : Nat} {C C' : Nat → Nat → Int} {S : Nat → Value} (h : Cs w cb n C S) (e : ∀ i k, i < 12 → k < n → C i k = C' i k) : Cs w cb n C' S :=
  ⟨h.hd, h.nf, fun i hi => (h.own i hi).congr fun q hq => e i q hi (by omega), h.ncb, h.dis⟩
/-- one number of a row -/
structure Cell1 (w : World) (cb n i k : Nat) (y : Int) (g c : Nat) : Prop where
  hd : w.cell? ⟨cb, i, none⟩ = some (.slice (some ⟨g, 0, none⟩) n c)
  at_ : w.cell? ⟨g, k, none⟩ = some (.int .i64 y)
  fro : w.frozen? ⟨g, k, none⟩ = false
  gl : g < w.heap.size
  cg : cb < g
theorem Cs.at {w : World} {cb n : Nat} {C : Nat → Nat → Int} {S : Nat → Value} (h : Cs w cb n C S) {i k : Nat} (hi : i < 12) (hk : k < n) : ∃ g c, S i = .slice (some ⟨g, 0, none⟩) n c ∧ Cell1 w cb n i k (C i k) g c := by
  obtain ⟨g, c, e⟩ := (h.own i hi).some (by omega)
  have ho := h.own i hi
  have hh := h.hd i hi
  rw [e] at ho hh
  have hl := h.xlt (b := g) ⟨i, hi, by rw [e]; rfl⟩
  exact ⟨g, c, e, hh, ho.at1 hk, ho.fro k, hl.2, hl.1⟩
/-- a number of a row is set -/
def setC (C : Nat → Nat → Int) (i k : Nat) (y : Int) : Nat → Nat → Int := fun i' k' => if i' = i ∧ k' = k then y else C i' k'
theorem Cs.set {w : World} {cb n : Nat} {C : Nat → Nat → Int} {S : Nat → Value} (h : Cs w cb n C S) {i k g c : Nat} (hi : i < 12) (hk : k < n) (e : S i = .slice (some ⟨g, 0, none⟩) n c) (y : Int) : Cs (w.setCell ⟨g, k, none⟩ (.int .i64 y)) cb n (setC C i k y) S := by
  have hx : Xc S g := ⟨i, hi, by rw [e]; rfl⟩
  have hl := h.xlt hx
  have hf : Fr (fun b => b = g) w (w.setCell ⟨g, k, none⟩ (.int .i64 y)) := Fr.setCell (X := fun b => b = g) rfl _
  refine ⟨fun j hj => (hf.cell (p := ⟨cb, j, none⟩) h.lt (by show ¬ cb = g; omega)).trans (h.hd j hj), fun j hj => (hf.frozen (p := ⟨cb, j, none⟩) h.lt (by show ¬ cb = g; omega)).trans (h.nf j hj), fun j hj => ?_, h.ncb, h.dis⟩
  by_cases eij : j = i
  · subst eij
    have ho := h.own j hj
    rw [e] at ho ⊢
    exact (ho.put hk y).congr fun q _ => by by_cases eq : q = k <;> simp [setC, eq]
  · refine ((h.own j hj).frame hf fun b hb eb => ?_).congr fun q _ => by simp [setC, eij]
    subst eb
    exact h.dis i j hi hj (Ne.symm eij) b (by rw [e]; rfl) hb
end Go.Proofs.YtkblddegfobpaaaGreat
namespace Go.Proofs.YtkblddegfobpaaaGreat
open Go.RowKit Go.Shelf
set_option linter.unusedVariables false
set_option linter.unusedSimpArgs false
abbrev hdk (cb k : Nat) : Value := .agg #[.int .i64 (k : Int), .pointer (some ⟨cb, 0, none⟩)]
theorem handle_any (cb k : Nat) (w : World) :
    Calls Tryz.prog 48 #[.pointer (some ⟨cb, 0, none⟩), .int .i64 (k : Int)] w fun e w' => e = .returned (hdk cb k) ∧ Below w.heap.size w w' := by
  go_enter Tryz.func48, Tryz.ntmps48
  go_wp2
  exact bodyPost_ret (v := hdk cb k) (by simp [results, Tryz.results48, go_sem, *]) rfl ⟨rfl, by repeat (first | with_reducible apply Below.refl | (with_reducible apply Below.setCell; rotate_left; focus (first | omega | (simp; done) | (simp; omega))) | (with_reducible apply Below.alloc; rotate_left; focus (first | omega | (simp; done) | (simp; omega))))⟩
theorem each_enters : ∀ args w, (callFunc 23 args).run Tryz.prog w = .ok (.enter 23 args) w := enters_of Tryz.func23 (by kernel_rfl) rfl
set_option maxHeartbeats 4000000 in
theorem each_it (cb nn cc : Nat) (ad : Option Addr) (w : World) (hcb : cb < w.heap.size) (hc : w.cell? ⟨cb, 0, none⟩ = some (.slice ad nn cc)) (hn : nn ≤ 1048576) :
    ItC Tryz.prog 23 #[.pointer (some ⟨cb, 0, none⟩)] (fun k => #[hdk cb k]) nn w := by
  intro l J Jx W hbW hJb hJx hY h0
  have hc' : W.cell? ⟨cb, 0, none⟩ = some (.slice ad nn cc) := (hbW.cell (p := ⟨cb, 0, none⟩) hcb).trans hc
  refine callsIn_of_wp Tryz.func23 rfl trivial ?_ rfl
  simp only [Tryz.ntmps23, List.size_toArray, List.length_cons, List.length_nil, Nat.reduceAdd, Nat.reduceSub, Array.replicate_succ, Array.replicate_zero, List.push_toArray, List.append_toArray, List.nil_append, List.cons_append]
  gi_wp2
  gi_loopw [4, 10] (fun _ i wr => ∃ k : Nat, k ≤ nn ∧ i = .int .i64 (k : Int) ∧ J k wr) (fun _ i _ => nn - (intOf i).toNat)
  case atStart => exact ⟨0, Nat.zero_le _, rfl, h0⟩
  case round =>
    obtain ⟨k, hk, rfl, hJ⟩ := hrel
    by_cases hlt : k < nn
    · gi_wp2_with (refine ⟨trivial, rfl, ?_⟩; gi_at_call 48; refine (callsIn_wide.2 (handle_any cb k _)).mono ?_; rintro e w1 ⟨rfl, hb1⟩; have hJ1 := hJb _ _ _ hJ hb1; obtain ⟨fn, tmps, assign, body, hy, hR⟩ := hY k w1 hJ1 hlt)
      refine ⟨rfl, hR.mono ?_⟩
      rintro e w2 (⟨rfl, hJ2⟩ | ⟨rfl, hJx2⟩)
      · gi_wp2
        go_roundw
        case rel => exact ⟨k + 1, by omega, by go_num, hJ2⟩
        case measure => simp [intOf]; omega
      · gi_wp2
        refine bodyPost_ret (results_none rfl _ _ _) rfl ?_
        exact ⟨⟨_, rfl⟩, .inr hJx2⟩
    · gi_wp2
      go_end0
      obtain rfl : k = nn := by omega
      exact ⟨⟨_, rfl⟩, .inl hJ⟩
end Go.Proofs.YtkblddegfobpaaaGreat
namespace Go.Proofs.YtkblddegfobpaaaGreat
open Go.RowKit
set_option linter.unusedVariables false
set_option linter.unusedSimpArgs false

/-- the lesser, the greater -/
def mn (x y : Int) : Int := if y < x then y else x
def mx (x y : Int) : Int := if x < y then y else x
theorem mn_bd {B x y : Int} (hx : -B ≤ x ∧ x ≤ B) (hy : -B ≤ y ∧ y ≤ B) : -B ≤ mn x y ∧ mn x y ≤ B := by unfold mn; split <;> omega
theorem mx_bd {B x y : Int} (hx : -B ≤ x ∧ x ≤ B) (hy : -B ≤ y ∧ y ≤ B) : -B ≤ mx x y ∧ mx x y ≤ B := by unfold mx; split <;> omega

set_option maxHeartbeats 1000000 in
theorem spanMeets_any (a b c d r s t u : Int) (w : World) :
    Calls Tryz.prog 74 #[b4 a b c d, b4 r s t u] w fun e w' => e = .returned (.bool (leB a b t u && leB r s c d)) ∧ Below w.heap.size w w' := by
  have hset := cset_map
  go_enter Tryz.func74, Tryz.ntmps74
  go_wp2_with (go_at_call 103; refine (noneGreater_any _ _ _ _ _).mono ?_; rintro e w1 ⟨rfl, hb1⟩; obtain ⟨hc1, hf1⟩ := bcell hb1; have hl1 := blt hb1; have hz1 := hb1.size; (try simp only [World.size_drew, World.size_alloc, World.size_setCell] at hc1 hf1 hl1 hz1); (try have hq1x0 : w.heap.size < w1.heap.size := (by omega)); (try have hq1x1 : w.heap.size + 1 < w1.heap.size := (by omega)))
  all_goals
    go_ret
    refine ⟨ret_bool ?_, bel_a⟩
    first | (simp [*]; done) | (simp at *; simp [*]; done) | (simp at *; omega)

set_option maxHeartbeats 1000000 in
theorem spanHas_any (a b c d r s t u : Int) (w : World) :
    Calls Tryz.prog 71 #[b4 a b c d, b4 r s t u] w fun e w' => e = .returned (.bool (leB a b r s && leB t u c d)) ∧ Below w.heap.size w w' := by
  have hset := cset_map
  go_enter Tryz.func71, Tryz.ntmps71
  go_wp2_with (go_at_call 103; refine (noneGreater_any _ _ _ _ _).mono ?_; rintro e w1 ⟨rfl, hb1⟩; obtain ⟨hc1, hf1⟩ := bcell hb1; have hl1 := blt hb1; have hz1 := hb1.size; (try simp only [World.size_drew, World.size_alloc, World.size_setCell] at hc1 hf1 hl1 hz1); (try have hq1x0 : w.heap.size < w1.heap.size := (by omega)); (try have hq1x1 : w.heap.size + 1 < w1.heap.size := (by omega)))
  all_goals
    go_ret
    refine ⟨ret_bool ?_, bel_a⟩
    first | (simp [*]; done) | (simp at *; simp [*]; done) | (simp at *; omega)

set_option maxHeartbeats 1000000 in
theorem least_any (x y u v : Int) (w : World) :
    Calls Tryz.prog 105 #[vv x y, vv u v] w fun e w' => e = .returned (vv (mn x u) (mn y v)) ∧ Below w.heap.size w w' := by
  have hset := cset_map
  go_enter Tryz.func105, Tryz.ntmps105
  go_wp2
  all_goals
    refine bodyPost_ret (v := vv (mn x u) (mn y v)) ?_ rfl ⟨rfl, bel_a⟩
    simp [results, Tryz.results105, go_sem, *]
    try (constructor <;> (unfold mn; split <;> omega))

set_option maxHeartbeats 1000000 in
theorem greatest_any (x y u v : Int) (w : World) :
    Calls Tryz.prog 104 #[vv x y, vv u v] w fun e w' => e = .returned (vv (mx x u) (mx y v)) ∧ Below w.heap.size w w' := by
  have hset := cset_map
  go_enter Tryz.func104, Tryz.ntmps104
  go_wp2
  all_goals
    refine bodyPost_ret (v := vv (mx x u) (mx y v)) ?_ rfl ⟨rfl, bel_a⟩
    simp [results, Tryz.results104, go_sem, *]
    try (constructor <;> (unfold mx; split <;> omega))

end Go.Proofs.YtkblddegfobpaaaGreat
namespace Go.Proofs.YtkblddegfobpaaaGreat
open Go.RowKit
set_option linter.unusedVariables false
set_option linter.unusedSimpArgs false

end Go.Proofs.YtkblddegfobpaaaGreat
namespace Go.Proofs.YtkblddegfobpaaaGreat
open Go.RowKit
set_option linter.unusedVariables false
set_option linter.unusedSimpArgs false

def ptB (a b c d x y : Int) : Bool := decide ((a ≤ x ∧ x ≤ c) ∧ (b ≤ y ∧ y ≤ d))
set_option maxHeartbeats 1000000 in
theorem l3Meets_any (a b c d r s t u : Int) (w : World) :
    Calls Tryz.prog 95 #[b4 a b c d, b4 r s t u] w fun e w' => e = .returned (.bool (leB a b t u && leB r s c d)) ∧ Below w.heap.size w w' := by
  have hset := cset_map
  go_enter Tryz.func95, Tryz.ntmps95
  go_wp2
  all_goals
    go_ret
    refine ⟨ret_bool ?_, bel_a⟩
    unfold leB
    first | (simp [*]; done) | (simp at *; omega) | (simp [*]; omega)

set_option maxHeartbeats 1000000 in
theorem l3Point_any (a b c d x y : Int) (w : World) :
    Calls Tryz.prog 96 #[b4 a b c d, vv x y] w fun e w' => e = .returned (.bool (ptB a b c d x y)) ∧ Below w.heap.size w w' := by
  have hset := cset_map
  go_enter Tryz.func96, Tryz.ntmps96
  go_wp2_with (go_at_call 29; refine (l1In_any _ _ _ _).mono ?_; rintro e w' ⟨rfl, rfl⟩)
  all_goals
    go_ret
    refine ⟨ret_bool ?_, bel_a⟩
    unfold ptB
    first | (simp [*]; done) | (simp at *; omega) | (simp [*]; omega)

end Go.Proofs.YtkblddegfobpaaaGreat
namespace Go.Proofs.YtkblddegfobpaaaGreat
open Go.RowKit
set_option linter.unusedVariables false
set_option linter.unusedSimpArgs false

theorem l2Square_any (x y : Int) (w : World) (hx : -1500000000 ≤ x ∧ x ≤ 1500000000) (hy : -1500000000 ≤ y ∧ y ≤ 1500000000) :
    Calls Tryz.prog 92 #[vv x y] w fun e w' => e = .returned (.int .i64 (x * x + y * y)) ∧ Below w.heap.size w w' := by
  have p := mul_bd (a := x) (b := x) (A := 1500000000) (B := 1500000000) hx hx
  have q := mul_bd (a := y) (b := y) (A := 1500000000) (B := 1500000000) hy hy
  have hset := cset_map
  go_enter Tryz.func92, Tryz.ntmps92
  go_wp2
  go_ret
  exact ⟨rfl, bel_a⟩

set_option maxHeartbeats 1000000 in
theorem sVecLen_any (x y : Int) (w : World) :
    Calls Tryz.prog 94 #[vv x y] w fun e w' => e = .returned (.int .i64 (vl (fc x) (fc y))) ∧ Below w.heap.size w w' := by
  have hx := fc_bd x
  have hy := fc_bd y
  have hs := sq_bd hx hy
  have hset := cset_map
  go_enter Tryz.func94, Tryz.ntmps94
  go_wp2_with (first
    | (go_at_call 113; refine (l2Clamp_any _ _ _).mono ?_; rintro e w1 ⟨rfl, hb1⟩; obtain ⟨hc1, hf1⟩ := bcell hb1; have hz1 := hb1.size; (try simp at hz1); have hq1x0a : w.heap.size < w1.heap.size := (by omega))
    | (go_at_call 92; refine (l2Square_any _ _ _ (by omega) (by omega)).mono ?_; rintro e w2 ⟨rfl, hb2⟩; obtain ⟨hc2, hf2⟩ := bcell hb2; have hz2 := hb2.size; (try simp at hz2); have hq2x0a : w.heap.size < w2.heap.size := (by omega))
    | (go_at_call 115; refine (l1Root_any _ _ (by omega) (by omega)).mono ?_; rintro e w' ⟨rfl, rfl⟩)
    | (go_at_call 114; refine (sFixClamp_any _ _).mono ?_; rintro e w' ⟨rfl, rfl⟩))
  go_ret
  exact ⟨rfl, bel_a⟩

set_option maxHeartbeats 2000000 in
theorem sVecUnit_any (x y : Int) (w : World) :
    Calls Tryz.prog 93 #[vv x y] w fun e w' => e = .returned (vv (ux (fc x) (fc y)) (uy (fc x) (fc y))) ∧ Below w.heap.size w w' := by
  have hx := fc_bd x
  have hy := fc_bd y
  have hl := vl_bd (fc x) (fc y)
  have f1 := fc_fc x
  have f2 := fc_fc y
  by_cases h0 : vl (fc x) (fc y) = 0
  · have e1 : ux (fc x) (fc y) = 0 := if_pos h0
    have e2 : uy (fc x) (fc y) = 256 := if_pos h0
    have hset := cset_map
    go_enter Tryz.func93, Tryz.ntmps93
    go_wp2_with (first
    | (go_at_call 113; refine (l2Clamp_any _ _ _).mono ?_; rintro e w1 ⟨rfl, hb1⟩; obtain ⟨hc1, hf1⟩ := bcell hb1; have hz1 := hb1.size; (try simp at hz1); have hq1x0a : w.heap.size < w1.heap.size := (by omega); have hq1x1a : w.heap.size + 1 < w1.heap.size := (by omega))
    | (go_at_call 94; refine (sVecLen_any _ _ _).mono ?_; rintro e w6 ⟨rfl, hb6⟩; obtain ⟨hc6, hf6⟩ := bcell hb6; have hz6 := hb6.size; (try simp at hz6); have hq6x0a : w.heap.size < w6.heap.size := (by omega); have hq6x1a : w.heap.size + 1 < w6.heap.size := (by omega)))
    exact bodyPost_ret (v := vv 0 256) (by simp [results, Tryz.results93, go_sem, *]) rfl ⟨by rw [e1, e2], bel_a⟩
  · have t1 := w64 (n := (fc x * 256).tdiv (vl (fc x) (fc y))) (by have := tdiv_bd (x := fc x * 256) (B := 256000000000) (vl (fc x) (fc y)) (by omega); omega)
    have t2 := w64 (n := (fc y * 256).tdiv (vl (fc x) (fc y))) (by have := tdiv_bd (x := fc y * 256) (B := 256000000000) (vl (fc x) (fc y)) (by omega); omega)
    have s1 := i64w (n := (fc x * 256).tdiv (vl (fc x) (fc y))) (by have := tdiv_bd (x := fc x * 256) (B := 256000000000) (vl (fc x) (fc y)) (by omega); omega)
    have s2 := i64w (n := (fc y * 256).tdiv (vl (fc x) (fc y))) (by have := tdiv_bd (x := fc y * 256) (B := 256000000000) (vl (fc x) (fc y)) (by omega); omega)
    have E1 : Hid (ux (fc x) (fc y) = (fc x * 256).tdiv (vl (fc x) (fc y))) := if_neg h0
    have E2 : Hid (uy (fc x) (fc y) = (fc y * 256).tdiv (vl (fc x) (fc y))) := if_neg h0
    have hset := cset_map
    go_enter Tryz.func93, Tryz.ntmps93
    go_wp2_with (first
    | (go_at_call 113; refine (l2Clamp_any _ _ _).mono ?_; rintro e w1 ⟨rfl, hb1⟩; obtain ⟨hc1, hf1⟩ := bcell hb1; have hz1 := hb1.size; (try simp at hz1); have hq1x0a : w.heap.size < w1.heap.size := (by omega); have hq1x1a : w.heap.size + 1 < w1.heap.size := (by omega))
    | (go_at_call 94; refine (sVecLen_any _ _ _).mono ?_; rintro e w6 ⟨rfl, hb6⟩; obtain ⟨hc6, hf6⟩ := bcell hb6; have hz6 := hb6.size; (try simp at hz6); have hq6x0a : w.heap.size < w6.heap.size := (by omega); have hq6x1a : w.heap.size + 1 < w6.heap.size := (by omega)))
    go_region
    all_goals
      go_wp2
      exact bodyPost_ret (v := vv ((fc x * 256).tdiv (vl (fc x) (fc y))) ((fc y * 256).tdiv (vl (fc x) (fc y)))) (by simp [results, Tryz.results93, go_sem, *]) rfl ⟨by rw [E1.out, E2.out], bel_a⟩

end Go.Proofs.YtkblddegfobpaaaGreat
namespace Go.Proofs.YtkblddegfobpaaaGreat
open Go.RowKit
set_option linter.unusedVariables false
set_option linter.unusedSimpArgs false

/-- how far up a shape goes -/
def hh (k wd h : Int) : Int := if k = 1 then wd else h
theorem inB_of {l x y : Int} (h : inB l x y = true) : (-l ≤ x ∧ x ≤ l) ∧ (-l ≤ y ∧ y ≤ l) := by
  unfold inB at h; simp only [decide_eq_true_eq] at h; omega

theorem isPlace_any (x y : Int) (w : World) :
    Calls Tryz.prog 34 #[vv x y] w fun e w' => e = .returned (.bool (inB 2560000 x y)) ∧ Below w.heap.size w w' := by
  have hset := cset_map
  go_enter Tryz.func34, Tryz.ntmps34
  go_wp2_with (first
    | (go_at_call 35; refine (wayOf_any _ _ _).mono ?_; rintro e w1 ⟨rfl, hb1⟩; obtain ⟨hc1, hf1⟩ := bcell hb1; have hl1 := blt hb1; have hz1 := hb1.size; (try simp only [World.size_drew, World.size_alloc, World.size_setCell] at hc1 hf1 hl1 hz1); (try have hq1x0 : w.heap.size < w1.heap.size := (by omega)))
    | (go_at_call 53; refine (within2_any _ _ _ _ (by omega) (by omega)).mono ?_; rintro e w2 ⟨rfl, hb2⟩; obtain ⟨hc2, hf2⟩ := bcell hb2; have hl2 := blt hb2; have hz2 := hb2.size; (try simp only [World.size_drew, World.size_alloc, World.size_setCell] at hc2 hf2 hl2 hz2); (try have hq2x0 : w.heap.size < w2.heap.size := (by omega))))
  go_ret
  exact ⟨rfl, bel_a⟩

theorem isPlace_t (x y : Int) (w : World) (h : inB 2560000 x y = true) : Calls Tryz.prog 34 #[vv x y] w fun e w' => e = .returned (.bool true) ∧ Below w.heap.size w w' := by
  have k := isPlace_any x y w
  rw [h] at k
  exact k
theorem isPlace_n (x y : Int) (w : World) (h : inB 2560000 x y = false) : Calls Tryz.prog 34 #[vv x y] w fun e w' => e = .returned (.bool false) ∧ Below w.heap.size w w' := by
  have k := isPlace_any x y w
  rw [h] at k
  exact k
theorem reach_r (wd : Int) (w : World) :
    Calls Tryz.prog 147 #[.agg #[.int .i64 wd]] w fun e w' => e = .returned (vv wd wd) ∧ Below w.heap.size w w' := by
  have hset := cset_map
  go_enter Tryz.func147, Tryz.ntmps147
  go_wp2
  exact bodyPost_ret (v := vv wd wd) (by simp [results, Tryz.results147, go_sem, *]) rfl ⟨rfl, bel_a⟩

theorem reach_b (wd h : Int) (w : World) :
    Calls Tryz.prog 148 #[.agg #[.int .i64 wd, .int .i64 h]] w fun e w' => e = .returned (vv wd h) ∧ Below w.heap.size w w' := by
  have hset := cset_map
  go_enter Tryz.func148, Tryz.ntmps148
  go_wp2
  exact bodyPost_ret (v := vv wd h) (by simp [results, Tryz.results148, go_sem, *]) rfl ⟨rfl, bel_a⟩

theorem as_rr (v : Value) (w : World) : (Instr.typeAssert (.iface 113 v) 83 113 true).run Tryz.prog w = .ok (.tuple #[v, .bool true]) w := by kernel_rfl
theorem as_br (v : Value) (w : World) : (Instr.typeAssert (.iface 115 v) 83 113 true).run Tryz.prog w = .ok (.tuple #[.agg #[.int .i64 0], .bool false]) w := by kernel_rfl
theorem as_bb (v : Value) (w : World) : (Instr.typeAssert (.iface 115 v) 83 115 true).run Tryz.prog w = .ok (.tuple #[v, .bool true]) w := by kernel_rfl
set_option maxHeartbeats 1000000 in
theorem l3Place_any (x y : Int) (w : World) :
    Calls Tryz.prog 31 #[vv x y] w fun e w' => e = .returned (.bool (inB 2560000 x y)) ∧ Below w.heap.size w w' := by
  have hset := cset_map
  go_enter Tryz.func31, Tryz.ntmps31
  go_wp2_with (go_at_call 29; refine (l1In_any _ _ _ _).mono ?_; rintro e w' ⟨rfl, rfl⟩)
  all_goals
    go_ret
    refine ⟨ret_bool ?_, bel_a⟩
    unfold inB
    first | (simp [*]; done) | (simp at *; omega) | (simp [*]; omega)

theorem l3Place_t (x y : Int) (w : World) (h : inB 2560000 x y = true) : Calls Tryz.prog 31 #[vv x y] w fun e w' => e = .returned (.bool true) ∧ Below w.heap.size w w' := by
  have k := l3Place_any x y w
  rw [h] at k
  exact k
theorem sShapeOk_t (k wd h : Int) (w : World) (hs : shB k wd h = true) : Calls Tryz.prog 30 #[s3 k wd h] w fun e w' => e = .returned (.bool true) ∧ Below w.heap.size w w' := by
  have q := sShapeOk_any k wd h w
  rw [hs] at q
  exact q
theorem l3Place_n (x y : Int) (w : World) (h : inB 2560000 x y = false) : Calls Tryz.prog 31 #[vv x y] w fun e w' => e = .returned (.bool false) ∧ Below w.heap.size w w' := by
  have k := l3Place_any x y w
  rw [h] at k
  exact k
theorem sShapeOk_n (k wd h : Int) (w : World) (hs : shB k wd h = false) : Calls Tryz.prog 30 #[s3 k wd h] w fun e w' => e = .returned (.bool false) ∧ Below w.heap.size w w' := by
  have q := sShapeOk_any k wd h w
  rw [hs] at q
  exact q
set_option maxHeartbeats 2000000 in
theorem l3Bounds_r (wd x y : Int) (w : World) (h1 : 1 ≤ wd) (h2 : wd ≤ 25600) (hx : -2560000 ≤ x ∧ x ≤ 2560000) (hy : -2560000 ≤ y ∧ y ≤ 2560000) :
    Calls Tryz.prog 62 #[s3 1 wd 0, vv x y] w fun e w' => e = .returned (b4 (x - wd) (y - wd) (x + wd) (y + wd)) ∧ Below w.heap.size w w' := by
  have hset := cset_map
  go_enter Tryz.func62, Tryz.ntmps62
  go_wp2
  all_goals
    exact bodyPost_ret (v := b4 (x - wd) (y - wd) (x + wd) (y + wd)) (by simp [results, Tryz.results62, go_sem, *]) rfl ⟨rfl, bel_a⟩

set_option maxHeartbeats 2000000 in
theorem l3Bounds_b (wd h x y : Int) (w : World) (h1 : 1 ≤ wd) (h2 : wd ≤ 25600) (h3 : 1 ≤ h) (h4 : h ≤ 25600) (hx : -2560000 ≤ x ∧ x ≤ 2560000) (hy : -2560000 ≤ y ∧ y ≤ 2560000) :
    Calls Tryz.prog 62 #[s3 2 wd h, vv x y] w fun e w' => e = .returned (b4 (x - wd) (y - h) (x + wd) (y + h)) ∧ Below w.heap.size w w' := by
  have hset := cset_map
  go_enter Tryz.func62, Tryz.ntmps62
  go_wp2
  all_goals
    exact bodyPost_ret (v := b4 (x - wd) (y - h) (x + wd) (y + h)) (by simp [results, Tryz.results62, go_sem, *]) rfl ⟨rfl, bel_a⟩

end Go.Proofs.YtkblddegfobpaaaGreat
namespace Go.Proofs.YtkblddegfobpaaaGreat
open Go.RowKit
set_option linter.unusedVariables false
section
variable {P : Program} {md : Region.Mode} {ops : Array Oper} {Q : Exit → Act → World → Prop} {S : World → Prop}
theorem tq (i : Nat) {o1 o2 o3 o4 o5 o6} {v : Value} {fuel : Nat} {listed : Array Bool} {a a' : Act} {w : World} (hS : S w)
    (h : wpAnyH P md ops Q S fuel (listed.setIfInBounds i true) a' w)
    (hi : ops[i]? = some (Oper.mk o1 o2 o3 o4 o5 o6) := by rfl)
    (hc : (Region.noSelect ops && (Region.free md ops listed i && (Region.ready md ops listed).contains i)) = true := by kernel_rfl)
    (hQ : ∀ c a w, Q (.panic c) (a.put (Oper.mk o1 o2 o3 o4 o5 o6).dst v) w → Q (.panic c) a w := by exact fun _ _ _ h => h)
    (hw : Region.wanted (Oper.mk o1 o2 o3 o4 o5 o6) (yielded ops a.tmps) = true := by rfl)
    (hv : ∀ w, S w → (execOp a.eval (Oper.mk o1 o2 o3 o4 o5 o6)).run P w = .ok (.value v) w := by (intro w s; (try dsimp only at s); go_simp; (try with_reducible rfl)))
    (he : a.put (Oper.mk o1 o2 o3 o4 o5 o6).dst v = a' := by ((try simp only [Act.put, List.setIfInBounds_toArray, List.set_cons_zero, List.set_cons_succ]); (try with_reducible rfl))) :
    wpAnyH P md ops Q S (fuel + 1) listed a w := by
  subst he
  simp only [Bool.and_eq_true] at hc
  exact wpAnyH_take hi hc.1 hc.2.1 hc.2.2 hQ (.inl ⟨hw, hv⟩) hS h
theorem tn (i : Nat) {o1 o2 o3 o4 o5 o6} {fuel : Nat} {listed : Array Bool} {a a' : Act} {w : World} (hS : S w)
    (h : wpAnyH P md ops Q S fuel (listed.setIfInBounds i true) a' w)
    (hi : ops[i]? = some (Oper.mk o1 o2 o3 o4 o5 o6) := by rfl)
    (hc : (Region.noSelect ops && (Region.free md ops listed i && (Region.ready md ops listed).contains i)) = true := by kernel_rfl)
    (hQ : ∀ c a w, Q (.panic c) (a.put (Oper.mk o1 o2 o3 o4 o5 o6).dst undef) w → Q (.panic c) a w := by exact fun _ _ _ h => h)
    (hw : Region.wanted (Oper.mk o1 o2 o3 o4 o5 o6) (yielded ops a.tmps) = false := by rfl)
    (he : a.put (Oper.mk o1 o2 o3 o4 o5 o6).dst undef = a' := by ((try simp only [Act.put, List.setIfInBounds_toArray, List.set_cons_zero, List.set_cons_succ]); (try with_reducible rfl))) :
    wpAnyH P md ops Q S (fuel + 1) listed a w := by
  subst he
  simp only [Bool.and_eq_true] at hc
  exact wpAnyH_take hi hc.1 hc.2.1 hc.2.2 hQ (.inr ⟨hw, rfl⟩) hS h
end
section
variable {P : Program} {md : Region.Mode} {ops : Array Oper} {Q : Exit → Act → World → Prop} {S : World → Prop}
/-- one alone may come up: a call, a store -/
theorem tc (i : Nat) {o1 o2 o3 o4 o5 o6} {fuel : Nat} {listed : Array Bool} {a : Act} {w : World}
    (h : ∀ K' : Act → World → Prop, Shut (∀ a w, S w → (S w → wpAnyH P md ops Q S fuel (listed.setIfInBounds i true) a w) → K' a w) → if Region.wanted (Oper.mk o1 o2 o3 o4 o5 o6) (yielded ops a.tmps) = true then Oper.wp P (Oper.mk o1 o2 o3 o4 o5 o6) a w K' Q else K' (a.put (Oper.mk o1 o2 o3 o4 o5 o6).dst undef) w)
    (hr : Region.ready md ops listed = [i] := by kernel_rfl)
    (hi : ops[i]? = some (Oper.mk o1 o2 o3 o4 o5 o6) := by rfl) :
    wpAnyH P md ops Q S (fuel + 1) listed a w := wpAnyH_ready hr (by simp) (AllReadyH.cons hi h AllReadyH.nil)
/-- back into the region behind it -/
theorem tr {K : Act → World → Prop} {fuel : Nat} {listed : Array Bool} (hK : Shut (∀ a w, S w → (S w → wpAnyH P md ops Q S fuel listed a w) → K a w)) {a a' : Act} {w : World}
    (h : S w → wpAnyH P md ops Q S fuel listed a' w)
    (hS : S w := by ((try dsimp only); (first | (go_simp; done) | (go_keep; done))))
    (he : a = a' := by ((try simp only [Act.put, List.setIfInBounds_toArray, List.set_cons_zero, List.set_cons_succ]); (try with_reducible rfl))) : K a w := by
  subst he
  exact hK.out _ _ hS h
end
end Go.Proofs.YtkblddegfobpaaaGreat
