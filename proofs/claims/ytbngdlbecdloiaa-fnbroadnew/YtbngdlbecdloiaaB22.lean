/- What lies where while something is drawn: any number of blocks of numbers, and the reader. What lies where while something is drawn by one that was handed the reader. A list in its own memory, beside others. -/
import Derived.Test.YtbngdlbecdloiaaB16
import Derived.Deep.RegionHeld3
import Derived.Deep.DeepCutAuto
set_option maxHeartbeats 16000000
set_option maxRecDepth 20000
namespace Go.Proofs.Ytbngdlbecdloiaa
open Go.RowKit
set_option linter.unusedVariables false
set_option linter.unusedSimpArgs false
theorem balloc (w : World) (o : Obj) : Below w.heap.size w (w.alloc o) := (Below.refl _ _).alloc (Nat.le_refl _) o
theorem Al.bl {w0 w w' : World} {ab n B : Nat} {V : Nat → Int} (h : Al w0 w ab n V) (k : Below B w w') (hB : ab < B) : Al w0 w' ab n V := by
  obtain ⟨h1, h2, h3, h4⟩ := h
  exact ⟨h1, Nat.lt_of_lt_of_le h2 k.size, fun i hi => (k.cell (p := ⟨ab, i, none⟩) hB).trans (h3 i hi), fun i hi => (k.frozen (p := ⟨ab, i, none⟩) hB).trans (h4 i hi)⟩
theorem Al.ne {rb : Nat} {w0 w w' : World} {ab n : Nat} {V : Nat → Int} (h : Al w0 w ab n V) (hne : ab ≠ rb) (k : But rb w w') : Al w0 w' ab n V := by
  obtain ⟨h1, h2, h3, h4⟩ := h
  exact ⟨h1, Nat.lt_of_lt_of_le h2 k.size, fun i hi => (k.cell (p := ⟨ab, i, none⟩) h2 hne).trans (h3 i hi), fun i hi => (k.frozen (p := ⟨ab, i, none⟩) h2 hne).trans (h4 i hi)⟩
theorem Al.off {w0 w : World} {ab n b k : Nat} {V : Nat → Int} (h : Al w0 w ab n V) (hb : ab ≠ b) (v : Value) : Al w0 (w.setCell ⟨b, k, none⟩ v) ab n V := by
  obtain ⟨h1, h2, h3, h4⟩ := h
  refine ⟨h1, by simpa [World.setCell] using h2, fun i hi => ?_, fun i hi => ?_⟩
  · rw [cset_far (by simp; omega)]; exact h3 i hi
  · rw [World.frozen?_setCell]; exact h4 i hi
abbrev Bls := List (Nat × Nat × (Nat → Int))
/-- blocks of numbers, all younger than w -/
structure AL (w w' : World) (L : Bls) : Prop where
  bel : Below w.heap.size w w'
  al : ∀ x ∈ L, Al w w' x.1 x.2.1 x.2.2
theorem AL.nil (w : World) : AL w w [] := ⟨Below.refl _ _, fun x hx => by cases hx⟩
theorem AL.new {w w' : World} {L : Bls} (h : AL w w' L) (b n : Nat) (V : Nat → Int) {cs : Array Value} {t : TypeId} (hb : b = w'.heap.size) (hc : ∀ i, i < n → cs[i]? = some (.int .i64 (V i))) :
    AL w (w'.alloc (.cells cs t)) ((b, n, V) :: L) := by
  subst hb
  refine ⟨h.bel.alloc h.bel.size _, fun x hx => ?_⟩
  rcases List.mem_cons.mp hx with rfl | hx
  · exact Al.new h.bel.size hc
  · exact (h.al x hx).bl (balloc _ _) (h.al x hx).2.1
theorem AL.call {w w' w1 : World} {L : Bls} (h : AL w w' L) (k : Below w'.heap.size w' w1) : AL w w1 L :=
  ⟨h.bel.trans (k.mono h.bel.size), fun x hx => (h.al x hx).bl k (h.al x hx).2.1⟩
theorem AL.get {w w' : World} {L : Bls} (h : AL w w' L) {x : Nat × Nat × (Nat → Int)} (hx : x ∈ L) : Al w w' x.1 x.2.1 x.2.2 := h.al x hx
theorem AL.sub {w w' : World} {L M : Bls} (h : AL w w' L) (k : ∀ x ∈ M, x ∈ L) : AL w w' M := ⟨h.bel, fun x hx => h.al x (k x hx)⟩
theorem AL.lt {w w' : World} {L : Bls} (h : AL w w' L) {x : Nat × Nat × (Nat → Int)} (hx : x ∈ L) : x.1 < w'.heap.size := (h.al x hx).2.1
theorem AL.drew {w w' : World} {L : Bls} (h : AL w w' L) : AL w w'.drew L := ⟨h.bel.drew, h.al⟩
theorem AL.set {w w' : World} {b n : Nat} {V : Nat → Int} {L : Bls} (h : AL w w' ((b, n, V) :: L)) (hne : ∀ x ∈ L, x.1 ≠ b) (k : Nat) (hk : k < n) (v : Int) :
    AL w (w'.setCell ⟨b, k, none⟩ (.int .i64 v)) ((b, n, fun j => if j = k then v else V j) :: L) := by
  have hb := h.al _ (List.mem_cons_self ..)
  have hlo := hb.1
  dsimp only at hlo
  refine ⟨h.bel.setCell (by simpa using hlo) _, fun x hx => ?_⟩
  rcases List.mem_cons.mp hx with rfl | hx
  · exact hb.set k hk v
  · exact (h.al x (List.mem_cons_of_mem _ hx)).off (hne x hx) _
/-- the same, with the reader -/
structure DL (w w' : World) (rb p : Nat) (L : Bls) : Prop where
  rs : RS w' rb p
  bel : Below w.heap.size w w'
  lo : w.heap.size ≤ rb
  al : ∀ x ∈ L, Al w w' x.1 x.2.1 x.2.2 ∧ x.1 ≠ rb
theorem AL.opened {w w0 w1 : World} {L : Bls} (h : AL w w0 L) (k : Below w0.heap.size w0 w1) (r : RS w1 w0.heap.size 0) : DL w w1 w0.heap.size 0 L :=
  ⟨r, h.bel.trans (k.mono h.bel.size), h.bel.size, fun x hx => ⟨(h.al x hx).bl k (h.al x hx).2.1, by have := (h.al x hx).2.1; omega⟩⟩
theorem DL.call {w w' w1 : World} {rb p p1 : Nat} {L : Bls} (h : DL w w' rb p L) (k : RB w' w1 rb p1) : DL w w1 rb p1 L :=
  ⟨RS.of k, h.bel.trans (k.but.below h.lo h.bel.size), h.lo, fun x hx => ⟨(h.al x hx).1.ne (h.al x hx).2 k.but, (h.al x hx).2⟩⟩
theorem DL.mono {w w' : World} {rb p p1 : Nat} {L : Bls} (h : DL w w' rb p L) (k : p ≤ p1) : DL w w' rb p1 L := ⟨h.rs.mono k, h.bel, h.lo, h.al⟩
theorem DL.drew {w w' : World} {rb p : Nat} {L : Bls} (h : DL w w' rb p L) : DL w w'.drew rb p L := ⟨h.rs.drew, h.bel.drew, h.lo, h.al⟩
theorem DL.new {w w' : World} {rb p : Nat} {L : Bls} (h : DL w w' rb p L) (n : Nat) (V : Nat → Int) {cs : Array Value} {t : TypeId} (hc : ∀ i, i < n → cs[i]? = some (.int .i64 (V i))) :
    DL w (w'.alloc (.cells cs t)) rb p ((w'.heap.size, n, V) :: L) := by
  refine ⟨h.rs.alloc _, h.bel.alloc h.bel.size _, h.lo, fun x hx => ?_⟩
  rcases List.mem_cons.mp hx with rfl | hx
  · exact ⟨Al.new h.bel.size hc, by have := h.rs.lt; dsimp only; omega⟩
  · exact ⟨(h.al x hx).1.bl (balloc _ _) (h.al x hx).1.2.1, (h.al x hx).2⟩
theorem DL.alloc {w w' : World} {rb p : Nat} {L : Bls} (h : DL w w' rb p L) (o : Obj) : DL w (w'.alloc o) rb p L :=
  ⟨h.rs.alloc _, h.bel.alloc h.bel.size _, h.lo, fun x hx => ⟨(h.al x hx).1.bl (balloc _ _) (h.al x hx).1.2.1, (h.al x hx).2⟩⟩
theorem DL.sub {w w' : World} {rb p : Nat} {L M : Bls} (h : DL w w' rb p L) (k : ∀ x ∈ M, x ∈ L) : DL w w' rb p M := ⟨h.rs, h.bel, h.lo, fun x hx => h.al x (k x hx)⟩
theorem DL.get {w w' : World} {rb p : Nat} {L : Bls} (h : DL w w' rb p L) {x : Nat × Nat × (Nat → Int)} (hx : x ∈ L) : Al w w' x.1 x.2.1 x.2.2 := (h.al x hx).1
theorem DL.lt {w w' : World} {rb p : Nat} {L : Bls} (h : DL w w' rb p L) {x : Nat × Nat × (Nat → Int)} (hx : x ∈ L) : x.1 < w'.heap.size := (h.al x hx).1.2.1
theorem DL.headc {w w' : World} {rb p b n : Nat} {V U : Nat → Int} {L : Bls} (h : DL w w' rb p ((b, n, V) :: L)) (k : ∀ i, i < n → V i = U i) : DL w w' rb p ((b, n, U) :: L) := by
  refine ⟨h.rs, h.bel, h.lo, fun x hx => ?_⟩
  rcases List.mem_cons.mp hx with rfl | hx
  · have q := h.al _ (List.mem_cons_self ..)
    exact ⟨q.1.congr k, q.2⟩
  · exact h.al x (List.mem_cons_of_mem _ hx)
theorem DL.toAL {w w' : World} {rb p : Nat} {L : Bls} (h : DL w w' rb p L) : AL w w' L := ⟨h.bel, fun x hx => (h.al x hx).1⟩
/-- a cell of the first block is written -/
theorem DL.set {w w' : World} {rb p b n : Nat} {V : Nat → Int} {L : Bls} (h : DL w w' rb p ((b, n, V) :: L)) (hr : rb < b) (hne : ∀ x ∈ L, x.1 ≠ b) (k : Nat) (hk : k < n) (v : Int) :
    DL w (w'.setCell ⟨b, k, none⟩ (.int .i64 v)) rb p ((b, n, fun j => if j = k then v else V j) :: L) := by
  have hb := (h.al _ (List.mem_cons_self ..)).1
  have hlo := hb.1
  dsimp only at hlo
  refine ⟨h.rs.setNew (by simpa using hr) _, h.bel.setCell (by simpa using hlo) _, h.lo, fun x hx => ?_⟩
  rcases List.mem_cons.mp hx with rfl | hx
  · exact ⟨hb.set k hk v, by dsimp only; omega⟩
  · exact ⟨(h.al x (List.mem_cons_of_mem _ hx)).1.off (hne x hx) _, (h.al x (List.mem_cons_of_mem _ hx)).2⟩
end Go.Proofs.Ytbngdlbecdloiaa
namespace Go.Proofs.Ytbngdlbecdloiaa
open Go.RowKit
set_option linter.unusedVariables false
set_option linter.unusedSimpArgs false
structure BL (w w' : World) (rb p : Nat) (L : Bls) : Prop where
  rs : RS w' rb p
  but : But rb w w'
  lo : rb < w.heap.size
  al : ∀ x ∈ L, Al w w' x.1 x.2.1 x.2.2
theorem BL.start {w : World} {rb p : Nat} (h : RS w rb p) : BL w w rb p [] := ⟨h, But.refl _ _, h.lt, fun x hx => by cases hx⟩
theorem BL.call {w w' w1 : World} {rb p p1 : Nat} {L : Bls} (h : BL w w' rb p L) (k : RB w' w1 rb p1) : BL w w1 rb p1 L :=
  ⟨RS.of k, h.but.trans k.but, h.lo, fun x hx => (h.al x hx).up h.lo k.but⟩
theorem BL.calb {w w' w1 : World} {rb p : Nat} {L : Bls} (h : BL w w' rb p L) (k : Below w'.heap.size w' w1) : BL w w1 rb p L := by
  obtain ⟨q, a, b⟩ := h.rs
  exact h.call (RB.mk (But.of_below k) ⟨q, a, b.below k⟩)
theorem BL.mono {w w' : World} {rb p p1 : Nat} {L : Bls} (h : BL w w' rb p L) (k : p ≤ p1) : BL w w' rb p1 L := ⟨h.rs.mono k, h.but, h.lo, h.al⟩
theorem BL.drew {w w' : World} {rb p : Nat} {L : Bls} (h : BL w w' rb p L) : BL w w'.drew rb p L := ⟨h.rs.drew, h.but.drew, h.lo, h.al⟩
theorem BL.new {w w' : World} {rb p : Nat} {L : Bls} (h : BL w w' rb p L) (b n : Nat) (V : Nat → Int) {cs : Array Value} {t : TypeId} (hb : b = w'.heap.size) (hc : ∀ i, i < n → cs[i]? = some (.int .i64 (V i))) :
    BL w (w'.alloc (.cells cs t)) rb p ((b, n, V) :: L) := by
  subst hb
  refine ⟨h.rs.alloc _, h.but.alloc _, h.lo, fun x hx => ?_⟩
  rcases List.mem_cons.mp hx with rfl | hx
  · exact Al.new h.but.size hc
  · exact (h.al x hx).bl (balloc _ _) (h.al x hx).2.1
theorem BL.alloc {w w' : World} {rb p : Nat} {L : Bls} (h : BL w w' rb p L) (o : Obj) : BL w (w'.alloc o) rb p L :=
  ⟨h.rs.alloc _, h.but.alloc _, h.lo, fun x hx => (h.al x hx).bl (balloc _ _) (h.al x hx).2.1⟩
theorem BL.sub {w w' : World} {rb p : Nat} {L M : Bls} (h : BL w w' rb p L) (k : ∀ x ∈ M, x ∈ L) : BL w w' rb p M := ⟨h.rs, h.but, h.lo, fun x hx => h.al x (k x hx)⟩
theorem BL.get {w w' : World} {rb p : Nat} {L : Bls} (h : BL w w' rb p L) {x : Nat × Nat × (Nat → Int)} (hx : x ∈ L) : Al w w' x.1 x.2.1 x.2.2 := h.al x hx
theorem BL.lt {w w' : World} {rb p : Nat} {L : Bls} (h : BL w w' rb p L) {x : Nat × Nat × (Nat → Int)} (hx : x ∈ L) : x.1 < w'.heap.size := (h.al x hx).2.1
theorem BL.set {w w' : World} {rb p b n : Nat} {V : Nat → Int} {L : Bls} (h : BL w w' rb p ((b, n, V) :: L)) (hne : ∀ x ∈ L, x.1 ≠ b) (k : Nat) (hk : k < n) (v : Int) :
    BL w (w'.setCell ⟨b, k, none⟩ (.int .i64 v)) rb p ((b, n, fun j => if j = k then v else V j) :: L) := by
  have hb := h.al _ (List.mem_cons_self ..)
  have hlo := hb.1
  dsimp only at hlo
  have h0 := h.lo
  refine ⟨h.rs.setNew (by dsimp only; omega) _, h.but.setNew (by simpa using hlo) _, h.lo, fun x hx => ?_⟩
  rcases List.mem_cons.mp hx with rfl | hx
  · exact hb.set k hk v
  · exact (h.al x (List.mem_cons_of_mem _ hx)).off (hne x hx) _
theorem BL.headc {w w' : World} {rb p b n : Nat} {V U : Nat → Int} {L : Bls} (h : BL w w' rb p ((b, n, V) :: L)) (k : ∀ i, i < n → V i = U i) : BL w w' rb p ((b, n, U) :: L) := by
  refine ⟨h.rs, h.but, h.lo, fun x hx => ?_⟩
  rcases List.mem_cons.mp hx with rfl | hx
  · exact (h.al _ (List.mem_cons_self ..)).congr k
  · exact h.al x (List.mem_cons_of_mem _ hx)
theorem BL.done {w w' : World} {rb p : Nat} {L : Bls} (h : BL w w' rb p L) : RB w w' rb p := RB.mk h.but h.rs
end Go.Proofs.Ytbngdlbecdloiaa
namespace Go.Proofs.Ytbngdlbecdloiaa
open Go.RowKit
set_option linter.unusedVariables false
set_option linter.unusedSimpArgs false
structure Lk (w : World) (lo bx : Nat) (a : Option Addr) (n c : Nat) (U : Nat → Int) : Prop where
  own : OwnL w lo 31 5 (.slice a n c) n U
  top : ∀ b, (Value.slice a n c).ownBlock = some b → b < bx
  box : w.cell? ⟨bx, 0, none⟩ = some (.slice a n c)
  lt : bx < w.heap.size
theorem Lk.on {w w' : World} {lo bx : Nat} {a : Option Addr} {n c : Nat} {U : Nat → Int} (h : Lk w lo bx a n c U) (hb : Below w.heap.size w w') : Lk w' lo bx a n c U :=
  ⟨h.own.below hb, h.top, (hb.cell (p := ⟨bx, 0, none⟩) h.lt).trans h.box, Nat.lt_of_lt_of_le h.lt hb.size⟩
theorem Lk.flat {w : World} {lo bx : Nat} {a : Option Addr} {n c : Nat} {U : Nat → Int} (h : Lk w lo bx a n c U) : Flat w a (n * 5) U := h.own.flat
/-- another list is marked -/
theorem Lk.gr {w w' : World} {lo bx lo' bx' n' c' : Nat} {a' : Option Addr} {a : Option Addr} {n c : Nat} {U U' : Nat → Int} (h : Lk w lo bx a n c U) (h' : Lk w lo' bx' a' n' c' U') (hg : w.grownBy w' (Value.slice a' n' c').ownBlock) (hs : bx < lo' ∨ bx' < lo) (hl : lo ≤ bx) : Lk w' lo bx a n c U := by
  have key : ∀ b, (Value.slice a' n' c').ownBlock = some b → lo' ≤ b ∧ b < bx' := fun b e => ⟨(h'.own.lt b e).1, h'.top b e⟩
  refine ⟨?_, h.top, hg.cell h.box (fun e => ?_), Nat.lt_of_lt_of_le h.lt hg.size⟩
  · cases e : (Value.slice a n c).ownBlock with
    | none => exact h.own.kept hg (.inl e)
    | some b => exact h.own.kept hg (.inr (fun q => by
        have k1 := key b (q ▸ e)
        have k2 := (h.own.lt b e).1
        have k3 := h.top b e
        omega))
  · have := key bx e.symm
    omega
/-- itself is marked -/
theorem Lk.me {w w' : World} {lo bx : Nat} {a : Option Addr} {n c : Nat} {U U' : Nat → Int} (h : Lk w lo bx a n c U) (hg : w.grownBy w' (Value.slice a n c).ownBlock) (ho : OwnL w' lo 31 5 (.slice a n c) n U') : Lk w' lo bx a n c U' :=
  ⟨ho, h.top, hg.cell h.box (fun e => by have := h.top bx e.symm; omega), Nat.lt_of_lt_of_le h.lt hg.size⟩
theorem BrR.gr {w wr w' : World} {a : Option Addr} {n c : Nat} {U : Nat → Int} {lo' bx' n' c' : Nat} {a' : Option Addr} {U' : Nat → Int} (h : BrR w a n c U wr) (h' : Lk wr lo' bx' a' n' c' U') (hg : wr.grownBy w' (Value.slice a' n' c').ownBlock) (hl : w.heap.size < lo') : BrR w a n c U w' := by
  have key : ∀ b, (Value.slice a' n' c').ownBlock = some b → lo' ≤ b := fun b e => (h'.own.lt b e).1
  refine ⟨h.bel.grown hg (Nat.le_of_lt h.big) (fun b e => by have := key b e; omega), Nat.lt_of_lt_of_le h.big hg.size, hg.cell h.box (fun e => ?_)⟩
  have := key _ e.symm
  simp at this
  omega
theorem Lk.of {w w' : World} {a : Option Addr} {n c : Nat} {R : Nat → Int} (h : Out w w' a n c R) (t : TypeId) : Lk (w'.alloc (.cells #[.slice a n c] t)) w.heap.size w'.heap.size a n c R :=
  ⟨h.own.below ((Below.refl _ _).alloc (Nat.le_refl _) _), fun b e => (h.own.lt b e).2, by go_simp, by simp⟩
theorem Lk.row {w w' : World} {b n : Nat} {U : Nat → Int} (h : Row w' b 31 (n * 5) U) (hb : w.heap.size ≤ b) (hn : n ≤ 1048576) (t : TypeId) : Lk (w'.alloc (.cells #[.slice (some ⟨b, 0, none⟩) n n] t)) w.heap.size w'.heap.size (some ⟨b, 0, none⟩) n n U :=
  ⟨(h.own hb (by unfold maxLen; omega)).below ((Below.refl _ _).alloc (Nat.le_refl _) _), fun x e => by simp [Value.ownBlock] at e; subst e; exact h.lt, by go_simp, by simp⟩
end Go.Proofs.Ytbngdlbecdloiaa
