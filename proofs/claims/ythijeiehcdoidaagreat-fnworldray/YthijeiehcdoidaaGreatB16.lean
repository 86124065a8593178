/- Texts of a proof. -/
import Derived.Test.YthijeiehcdoidaaGreatB15
import Derived.Test.YthijeiehcdoidaaGreatB1
import Derived.Test.YthijeiehcdoidaaGreatB5
import Derived.Test.YthijeiehcdoidaaGreatB6
import Derived.Test.YthijeiehcdoidaaGreatB14
import Derived.Deep.QuietTactic
import Derived.BigQuiet
import Derived.Deep.RegionWith
import Derived.Deep.RegionHeld3
import Derived.Test.YthijeiehcdoidaaGreatB4
import Derived.Deep.DeepCutAuto
set_option maxHeartbeats 16000000
set_option maxRecDepth 20000
namespace Go.Proofs.YthijeiehcdoidaaGreat
open Go.RowKit
set_option linter.unusedVariables false
set_option linter.unusedSimpArgs false
structure LQ (w wr : World) (t k : Nat) (a : Option Addr) (m c : Nat) : Prop where
 bel : Below w.heap.size w wr
 own : ∃ xs, wr.ownsRow w.heap.size t k (.slice a m c) m xs
theorem LQ.new {w wr : World} (t k : Nat) (h : Below w.heap.size w wr) {s : Nat} (e : wr.heap.size = s) : LQ w (wr.alloc (.cells #[] t)) t k (some ⟨s, 0, none⟩) 0 0 := by
 subst e
 exact ⟨h.alloc h.size _, [], ⟨by simp, .inr ⟨wr.heap.size, 0, #[], rfl, h.size, Go.Deep.blk_alloc_new _ _, Nat.le_refl _, Nat.zero_le _, by simp, by simp⟩⟩⟩
theorem LQ.on {w wr w' : World} {t k m c : Nat} {a : Option Addr} (h : LQ w wr t k a m c) (hb : Below wr.heap.size wr w') : LQ w w' t k a m c := by
 obtain ⟨xs, hx⟩ := h.own
 refine ⟨h.bel.trans (hb.mono h.bel.size), xs, ?_⟩
 cases e : (Value.slice a m c).ownBlock with
 | none => exact World.ownsRow.kept hx (below_grown hb rfl) (.inl e)
 | some b => exact World.ownsRow.kept hx (below_grown hb rfl) (.inr (by rw [e]; simp))
theorem wpList_pushK {P : Program} {ops : Array Oper} {rest : List Oper} {o : Oper} {a : Act} {Q : Exit → Act → World → Prop} {w wx : World} (hgd : o.guard = none) (s x : Operand) (t : TypeId)
 (ho : o.op = .call { callee := .builtin .append, args := #[s, x], argTypes := #[t, t] })
 (e k bytes : Nat) (z : Value) (ht : P.underlying t = some (.slice e)) (hinfo : (P.info? e).map (fun i => (i.zero, i.size, i.bytes)) = some (some z, k, bytes)) (hzs : z.cells.size = k) (hk : 0 < k) (hby : bytes ≤ 1000)
 (a1 : Option Addr) (m c1 : Nat) (hs : a.eval s = .slice a1 m c1) (h : LQ w wx e k a1 m c1) (b : Nat) (hx : a.eval x = .slice (some ⟨b, 0, none⟩) 1 1) (us : List Value) (hl : us.length = k) (hu : ∀ j u, us[j]? = some u → wx.cell? ⟨b, j, none⟩ = some u) (h1 : ∀ u ∈ us, u.oneCell' = true)
 (hm : m ≤ 1048576) (hK : ∀ g c' w', LQ w w' e k (some ⟨g, 0, none⟩) (m + 1) c' → wpList P ops Q rest (a.put o.dst (.slice (some ⟨g, 0, none⟩) (m + 1) c')) w') : wpList P ops Q (o :: rest) a wx := by
 obtain ⟨i, hi, hzz⟩ := Option.map_eq_some_iff.1 hinfo
 simp only [Prod.mk.injEq] at hzz
 obtain ⟨hz, hsz, hb8⟩ := hzz
 obtain ⟨xs, hown⟩ := h.own
 refine wpList_append_lies wx hgd s x t ho w.heap.size e i z k bytes ht hi hz hsz hb8 hzs hk (.slice a1 m c1) m xs hs hown ⟨b, 0, none⟩ 1 1 us hx (by rw [hl, Nat.one_mul]) ?_ h1 (by decide) (by unfold maxLen; omega) ?_ h.bel.size _ rfl ?_
 · intro j v hv
   have := hu j v hv
   rw [Addr.add_lit, Nat.zero_add]
   exact this
 · have : (m + 1) * bytes ≤ (m + 1) * 1000 := Nat.mul_le_mul_left _ hby
   omega
 · intro g' cap' w' r1 r2 r3 r4
   exact hK g' cap' w' ⟨h.bel.grown r2 h.bel.size (fun b e => (World.ownsRow.lt hown b e).1), _, r1⟩
theorem run_eq_pair (n d : Nat) (hn : n = d + 1) (a b x y : Int) (w : World) : (Op.equalIn (n + 1) 58 (.agg #[.int .i64 a, .int .i64 b]) (.agg #[.int .i64 x, .int .i64 y])).run Tryz.prog w = .ok (a == x && b == y) w := by
 have hi : Tryz.prog.underlying 3 = some (.int .i64) := by kernel_rfl
 have hs : Tryz.prog.stoodInHeld 58 = false := by kernel_rfl
 have hp : ∀ w, (program).run Tryz.prog w = .ok Tryz.prog w := fun w => by rfl
 have p0 : ∀ (a b : Int) w, (part 3 #[.int .i64 a, .int .i64 b] 0).run Tryz.prog w = .ok (.int .i64 a) w := fun a b w => by kernel_rfl
 have p1 : ∀ (a b : Int) w, (part 3 #[.int .i64 a, .int .i64 b] 1).run Tryz.prog w = .ok (.int .i64 b) w := fun a b w => by kernel_rfl
 simp only [Op.equalIn, Sem.run_bind, run_underlying Tryz.underlying58, Result.andThen_ok, hp, hs, Bool.false_eq_true, if_false, Sem.run_pure]
 subst hn
 have h0 : ∀ w, (Op.equalIn (d + 1) 3 (.int .i64 a) (.int .i64 x)).run Tryz.prog w = .ok (a == x) w := fun w => run_equalIn_int w d 3 .i64 .i64 a x hi
 have h1 : ∀ w, (Op.equalIn (d + 1) 3 (.int .i64 b) (.int .i64 y)).run Tryz.prog w = .ok (b == y) w := fun w => run_equalIn_int w d 3 .i64 .i64 b y hi
 simp only [List.forIn_toArray, List.forIn_cons, List.forIn_nil, Sem.run_bind, p0, h0, Result.andThen_ok, Sem.run_ite, Sem.run_pure]
 cases hx : (a == x) <;> cases hy : (b == y) <;> simp [Sem.run_bind, p0, p1, h0, h1, Sem.run_ite, hx, hy]
theorem eq_pair0 (a b x y : Int) (w : World) : (Op.equalIn 10000 58 (.agg #[.int .i64 a, .int .i64 b]) (.agg #[.int .i64 x, .int .i64 y])).run Tryz.prog w = .ok (a == x && b == y) w := run_eq_pair 9999 9998 rfl a b x y w
end Go.Proofs.YthijeiehcdoidaaGreat
namespace Go.Proofs.YthijeiehcdoidaaGreat
open Go.RowKit
set_option linter.unusedVariables false
theorem kf2 {W w1 : World} (hb : Below W.heap.size W w1) (b : Nat) (h : b + 1 < W.heap.size := by ((try simp only [zz]); omega)) :
 ((∀ o, w1.cell? ⟨b, o, none⟩ = W.cell? ⟨b, o, none⟩) ∧ (∀ o, w1.frozen? ⟨b, o, none⟩ = W.frozen? ⟨b, o, none⟩) ∧ b < w1.heap.size) ∧ ((∀ o, w1.cell? ⟨b + 1, o, none⟩ = W.cell? ⟨b + 1, o, none⟩) ∧ (∀ o, w1.frozen? ⟨b + 1, o, none⟩ = W.frozen? ⟨b + 1, o, none⟩) ∧ b + 1 < w1.heap.size) :=
 ⟨kfa hb (b) (by omega), kfa hb (b + 1) (by omega)⟩
theorem kf3 {W w1 : World} (hb : Below W.heap.size W w1) (b : Nat) (h : b + 1 + 1 < W.heap.size := by ((try simp only [zz]); omega)) :
 ((∀ o, w1.cell? ⟨b, o, none⟩ = W.cell? ⟨b, o, none⟩) ∧ (∀ o, w1.frozen? ⟨b, o, none⟩ = W.frozen? ⟨b, o, none⟩) ∧ b < w1.heap.size) ∧ ((∀ o, w1.cell? ⟨b + 1, o, none⟩ = W.cell? ⟨b + 1, o, none⟩) ∧ (∀ o, w1.frozen? ⟨b + 1, o, none⟩ = W.frozen? ⟨b + 1, o, none⟩) ∧ b + 1 < w1.heap.size) ∧ ((∀ o, w1.cell? ⟨b + 1 + 1, o, none⟩ = W.cell? ⟨b + 1 + 1, o, none⟩) ∧ (∀ o, w1.frozen? ⟨b + 1 + 1, o, none⟩ = W.frozen? ⟨b + 1 + 1, o, none⟩) ∧ b + 1 + 1 < w1.heap.size) :=
 ⟨kfa hb (b) (by omega), kfa hb (b + 1) (by omega), kfa hb (b + 1 + 1) (by omega)⟩
theorem kf4 {W w1 : World} (hb : Below W.heap.size W w1) (b : Nat) (h : b + 1 + 1 + 1 < W.heap.size := by ((try simp only [zz]); omega)) :
 ((∀ o, w1.cell? ⟨b, o, none⟩ = W.cell? ⟨b, o, none⟩) ∧ (∀ o, w1.frozen? ⟨b, o, none⟩ = W.frozen? ⟨b, o, none⟩) ∧ b < w1.heap.size) ∧ ((∀ o, w1.cell? ⟨b + 1, o, none⟩ = W.cell? ⟨b + 1, o, none⟩) ∧ (∀ o, w1.frozen? ⟨b + 1, o, none⟩ = W.frozen? ⟨b + 1, o, none⟩) ∧ b + 1 < w1.heap.size) ∧ ((∀ o, w1.cell? ⟨b + 1 + 1, o, none⟩ = W.cell? ⟨b + 1 + 1, o, none⟩) ∧ (∀ o, w1.frozen? ⟨b + 1 + 1, o, none⟩ = W.frozen? ⟨b + 1 + 1, o, none⟩) ∧ b + 1 + 1 < w1.heap.size) ∧ ((∀ o, w1.cell? ⟨b + 1 + 1 + 1, o, none⟩ = W.cell? ⟨b + 1 + 1 + 1, o, none⟩) ∧ (∀ o, w1.frozen? ⟨b + 1 + 1 + 1, o, none⟩ = W.frozen? ⟨b + 1 + 1 + 1, o, none⟩) ∧ b + 1 + 1 + 1 < w1.heap.size) :=
 ⟨kfa hb (b) (by omega), kfa hb (b + 1) (by omega), kfa hb (b + 1 + 1) (by omega), kfa hb (b + 1 + 1 + 1) (by omega)⟩
theorem kf5 {W w1 : World} (hb : Below W.heap.size W w1) (b : Nat) (h : b + 1 + 1 + 1 + 1 < W.heap.size := by ((try simp only [zz]); omega)) :
 ((∀ o, w1.cell? ⟨b, o, none⟩ = W.cell? ⟨b, o, none⟩) ∧ (∀ o, w1.frozen? ⟨b, o, none⟩ = W.frozen? ⟨b, o, none⟩) ∧ b < w1.heap.size) ∧ ((∀ o, w1.cell? ⟨b + 1, o, none⟩ = W.cell? ⟨b + 1, o, none⟩) ∧ (∀ o, w1.frozen? ⟨b + 1, o, none⟩ = W.frozen? ⟨b + 1, o, none⟩) ∧ b + 1 < w1.heap.size) ∧ ((∀ o, w1.cell? ⟨b + 1 + 1, o, none⟩ = W.cell? ⟨b + 1 + 1, o, none⟩) ∧ (∀ o, w1.frozen? ⟨b + 1 + 1, o, none⟩ = W.frozen? ⟨b + 1 + 1, o, none⟩) ∧ b + 1 + 1 < w1.heap.size) ∧ ((∀ o, w1.cell? ⟨b + 1 + 1 + 1, o, none⟩ = W.cell? ⟨b + 1 + 1 + 1, o, none⟩) ∧ (∀ o, w1.frozen? ⟨b + 1 + 1 + 1, o, none⟩ = W.frozen? ⟨b + 1 + 1 + 1, o, none⟩) ∧ b + 1 + 1 + 1 < w1.heap.size) ∧ ((∀ o, w1.cell? ⟨b + 1 + 1 + 1 + 1, o, none⟩ = W.cell? ⟨b + 1 + 1 + 1 + 1, o, none⟩) ∧ (∀ o, w1.frozen? ⟨b + 1 + 1 + 1 + 1, o, none⟩ = W.frozen? ⟨b + 1 + 1 + 1 + 1, o, none⟩) ∧ b + 1 + 1 + 1 + 1 < w1.heap.size) :=
 ⟨kfa hb (b) (by omega), kfa hb (b + 1) (by omega), kfa hb (b + 1 + 1) (by omega), kfa hb (b + 1 + 1 + 1) (by omega), kfa hb (b + 1 + 1 + 1 + 1) (by omega)⟩
theorem kf6 {W w1 : World} (hb : Below W.heap.size W w1) (b : Nat) (h : b + 1 + 1 + 1 + 1 + 1 < W.heap.size := by ((try simp only [zz]); omega)) :
 ((∀ o, w1.cell? ⟨b, o, none⟩ = W.cell? ⟨b, o, none⟩) ∧ (∀ o, w1.frozen? ⟨b, o, none⟩ = W.frozen? ⟨b, o, none⟩) ∧ b < w1.heap.size) ∧ ((∀ o, w1.cell? ⟨b + 1, o, none⟩ = W.cell? ⟨b + 1, o, none⟩) ∧ (∀ o, w1.frozen? ⟨b + 1, o, none⟩ = W.frozen? ⟨b + 1, o, none⟩) ∧ b + 1 < w1.heap.size) ∧ ((∀ o, w1.cell? ⟨b + 1 + 1, o, none⟩ = W.cell? ⟨b + 1 + 1, o, none⟩) ∧ (∀ o, w1.frozen? ⟨b + 1 + 1, o, none⟩ = W.frozen? ⟨b + 1 + 1, o, none⟩) ∧ b + 1 + 1 < w1.heap.size) ∧ ((∀ o, w1.cell? ⟨b + 1 + 1 + 1, o, none⟩ = W.cell? ⟨b + 1 + 1 + 1, o, none⟩) ∧ (∀ o, w1.frozen? ⟨b + 1 + 1 + 1, o, none⟩ = W.frozen? ⟨b + 1 + 1 + 1, o, none⟩) ∧ b + 1 + 1 + 1 < w1.heap.size) ∧ ((∀ o, w1.cell? ⟨b + 1 + 1 + 1 + 1, o, none⟩ = W.cell? ⟨b + 1 + 1 + 1 + 1, o, none⟩) ∧ (∀ o, w1.frozen? ⟨b + 1 + 1 + 1 + 1, o, none⟩ = W.frozen? ⟨b + 1 + 1 + 1 + 1, o, none⟩) ∧ b + 1 + 1 + 1 + 1 < w1.heap.size) ∧ ((∀ o, w1.cell? ⟨b + 1 + 1 + 1 + 1 + 1, o, none⟩ = W.cell? ⟨b + 1 + 1 + 1 + 1 + 1, o, none⟩) ∧ (∀ o, w1.frozen? ⟨b + 1 + 1 + 1 + 1 + 1, o, none⟩ = W.frozen? ⟨b + 1 + 1 + 1 + 1 + 1, o, none⟩) ∧ b + 1 + 1 + 1 + 1 + 1 < w1.heap.size) :=
 ⟨kfa hb (b) (by omega), kfa hb (b + 1) (by omega), kfa hb (b + 1 + 1) (by omega), kfa hb (b + 1 + 1 + 1) (by omega), kfa hb (b + 1 + 1 + 1 + 1) (by omega), kfa hb (b + 1 + 1 + 1 + 1 + 1) (by omega)⟩
end Go.Proofs.YthijeiehcdoidaaGreat
namespace Go.Proofs.YthijeiehcdoidaaGreat
open Go.RowKit
set_option linter.unusedVariables false
set_option linter.unusedSimpArgs false
theorem l3Near_any (a b c d x y : Int) (w : World) :
 Calls Tryz.prog 179 #[b4 a b c d, vv x y] w fun e w' => e = .returned (vv (mn (mx x a) c) (mn (mx y b) d)) ∧ Below w.heap.size w w' := by
 have hset := cset_map
 go_enter Tryz.func179, Tryz.ntmps179
 go_wp2
 go_region_held3 (fun w' => w'.cell? ⟨w.heap.size, 0, none⟩ = some (.int .i64 a) ∧ w'.cell? ⟨w.heap.size, 1, none⟩ = some (.int .i64 b) ∧ w'.cell? ⟨w.heap.size, 2, none⟩ = some (.int .i64 c) ∧ w'.cell? ⟨w.heap.size, 3, none⟩ = some (.int .i64 d) ∧ w'.cell? ⟨w.heap.size + 1, 0, none⟩ = some (.int .i64 x) ∧ w'.cell? ⟨w.heap.size + 1, 1, none⟩ = some (.int .i64 y)) (first | (go_simp; done) | (go_keep; done)) (first
  | (go_at_call 117; refine (l3Less_any _ _ _).mono ?_; rintro e w' ⟨rfl, rfl⟩)
  | (go_at_call 116; refine (l3More_any _ _ _).mono ?_; rintro e w' ⟨rfl, rfl⟩))
 all_goals
  go_wp2
  exact bodyPost_ret (v := vv (mn (mx x a) c) (mn (mx y b) d)) (by simp [results, Tryz.results179, go_sem, *]) rfl ⟨rfl, bel_a⟩
def rdT (dx dy g : Int) : (Int × Int × Int) × Bool := if dx * dx + dy * dy ≤ g * g then ((ux dx dy, uy dx dy, g - vl dx dy), true) else ((0, 0, 0), false)
def bsT (s0 s1 s2 s3 : Int) : Int × Int × Int :=
 let m1 : Int × Int × Int := if s1 < s0 then (-256, 0, s1) else (256, 0, s0)
 let m2 : Int × Int × Int := if s2 < m1.2.2 then (0, 256, s2) else m1
 if s3 < m2.2.2 then (0, -256, s3) else m2
def bxT (a b c d r s t u : Int) : (Int × Int × Int) × Bool := if (leB a b t u && leB r s c d) = true then (bsT (c - r) (t - a) (d - s) (u - b), true) else ((0, 0, 0), false)
theorem sunit_q (x y X Y : Int) (w : World) (e1 : ux (fc x) (fc y) = X) (e2 : uy (fc x) (fc y) = Y) :
 Calls Tryz.prog 176 #[vv x y] w fun e w' => e = .returned (vv X Y) ∧ Below w.heap.size w w' := by
 subst e1; subst e2; exact sVecUnit_any x y w
theorem slen_q (x y L : Int) (w : World) (e : vl (fc x) (fc y) = L) :
 Calls Tryz.prog 177 #[vv x y] w fun e w' => e = .returned (.int .i64 L) ∧ Below w.heap.size w w' := by
 subst e; exact sVecLen_any x y w
theorem l5Rounds_q (a b x y g X Y D : Int) (K : Bool) (w : World) (qa : -3000000 ≤ a ∧ a ≤ 3000000) (qb : -3000000 ≤ b ∧ b ≤ 3000000) (qx : -3000000 ≤ x ∧ x ≤ 3000000) (qy : -3000000 ≤ y ∧ y ≤ 3000000) (g0 : 0 ≤ g ∧ g ≤ 100000) (e : rdT (x - a) (y - b) g = ((X, Y, D), K)) :
 Calls Tryz.prog 167 #[vv a b, vv x y, .int .i64 g] w fun e w' => e = .returned (.tuple #[s3 X Y D, .bool K]) ∧ Below w.heap.size w w' := by
 have hset := cset_map
 obtain ⟨dx, ex⟩ : ∃ z, x - a = z := ⟨_, rfl⟩
 obtain ⟨dy, ey⟩ : ∃ z, y - b = z := ⟨_, rfl⟩
 have w1 := i64w (n := x - a) (by omega)
 have w2 := i64w (n := y - b) (by omega)
 rw [ex] at e w1
 rw [ey] at e w2
 have m3 := mul_bd (a := g) (b := g) (A := 100000) (B := 100000) (by omega) (by omega)
 have w3 := i64w (n := g * g) (by omega)
 unfold rdT at e
 cases dd : decide (g * g < dx * dx + dy * dy) with
 | true =>
  have hn := of_decide_eq_true dd
  rw [if_neg (by omega)] at e
  cases e
  clear hn m3
  go_enter Tryz.func167, Tryz.ntmps167
  go_wp2_with (go_at_call 114; refine (l2Square_any _ _ _ (by omega) (by omega)).mono ?_; rintro e w1 ⟨rfl, hb1⟩; have hz1 := hb1.size; (try simp only [zz] at hz1); have := kf4 hb1 w.heap.size)
  exact bodyPost_ret (v := .tuple #[s3 0 0 0, .bool false]) (by simp [results, Tryz.results167, go_sem, *]) rfl ⟨rfl, bel_a⟩
 | false =>
  have hn := of_decide_eq_false dd
  rw [if_pos (by omega)] at e
  obtain ⟨L, eL⟩ : ∃ z, vl dx dy = z := ⟨_, rfl⟩
  have lb := vl_bd dx dy
  rw [eL] at lb
  rw [eL] at e
  simp only [Prod.mk.injEq] at e
  obtain ⟨⟨eX, eY, eD⟩, eK⟩ := e
  subst eD
  subst eK
  have f1 := fc_id (n := dx) (by omega) (by omega)
  have f2 := fc_id (n := dy) (by omega) (by omega)
  have eX : ux (fc dx) (fc dy) = X := by rw [f1, f2]; exact eX
  have eY : uy (fc dx) (fc dy) = Y := by rw [f1, f2]; exact eY
  have eL : vl (fc dx) (fc dy) = L := by rw [f1, f2]; exact eL
  have w4 := i64w (n := g - L) (by omega)
  clear hn m3 f1 f2
  go_enter Tryz.func167, Tryz.ntmps167
  go_upto_region 4 with (go_at_call 114; refine (l2Square_any _ _ _ (by omega) (by omega)).mono ?_; rintro e w1 ⟨rfl, hb1⟩; have hz1 := hb1.size; (try simp only [zz] at hz1); have := kf4 hb1 w.heap.size)
  refine wp_region_held_drew (S := fun w' => w'.cell? ⟨w.heap.size + 1 + 1 + 1, 0, none⟩ = some (.int .i64 dx) ∧ w'.cell? ⟨w.heap.size + 1 + 1 + 1, 1, none⟩ = some (.int .i64 dy)) (by kernel_rfl) ?_ (fun hHeld => ?_)
  · (try dsimp only)
    (first | (go_simp; done) | (go_keep; done))
  refine tq 0 hHeld ?_
  refine tq 2 hHeld ?_
  refine tq 3 hHeld ?_
  (refine tc 1 fun K hK => ?_; go_simp; (go_at_call 176; refine (sunit_q _ _ _ _ _ eX eY).mono ?_; rintro e w2 ⟨rfl, hb2⟩; have hz2 := hb2.size; (try simp only [zz] at hz2); have := kf4 hb2 w.heap.size); (try go_wp2_with fail); refine tr hK (fun hHeld => ?_); clear hK K)
  (refine tc 4 fun K hK => ?_; go_simp; (go_at_call 177; refine (slen_q _ _ _ _ eL).mono ?_; rintro e w3 ⟨rfl, hb3⟩; have hz3 := hb3.size; (try simp only [zz] at hz3); have := kf4 hb3 w.heap.size); (try go_wp2_with fail); refine tr hK (fun hHeld => ?_); clear hK K)
  refine tq 5 hHeld ?_
  refine tq 6 hHeld ?_
  (refine tc 7 fun K hK => ?_; go_simp; refine tr hK (fun hHeld => ?_); clear hK K)
  refine tq 8 hHeld ?_
  refine wpAnyH_done (by kernel_rfl) ?_ _
  go_wp2_with fail
  exact bodyPost_ret (v := .tuple #[s3 X Y (g - L), .bool true]) (by simp [results, Tryz.results167, go_sem, *]) rfl ⟨rfl, bel_a⟩
theorem smeets_q (a b c d r s t u : Int) (z : Bool) (w : World) (e : (leB a b t u && leB r s c d) = z) :
 Calls Tryz.prog 178 #[b4 a b c d, b4 r s t u] w fun e w' => e = .returned (.bool z) ∧ Below w.heap.size w w' := by
 subst e; exact l3Meets_any a b c d r s t u w
theorem l5Boxes_q (a b c d r s t u X Y D : Int) (K : Bool) (w : World) (qa : -3000000 ≤ a ∧ a ≤ 3000000) (qb : -3000000 ≤ b ∧ b ≤ 3000000) (qc : -3000000 ≤ c ∧ c ≤ 3000000) (qd : -3000000 ≤ d ∧ d ≤ 3000000) (qr : -3000000 ≤ r ∧ r ≤ 3000000) (qs : -3000000 ≤ s ∧ s ≤ 3000000) (qt : -3000000 ≤ t ∧ t ≤ 3000000) (qu : -3000000 ≤ u ∧ u ≤ 3000000) (e : bxT a b c d r s t u = ((X, Y, D), K)) :
 Calls Tryz.prog 168 #[b4 a b c d, b4 r s t u] w fun e w' => e = .returned (.tuple #[s3 X Y D, .bool K]) ∧ Below w.heap.size w w' := by
 have hset := cset_map
 unfold bxT at e
 cases eM : (leB a b t u && leB r s c d) with
 | false =>
  rw [if_neg (by simp [eM])] at e
  cases e
  go_enter Tryz.func168, Tryz.ntmps168
  go_wp2_with (go_at_call 178; refine (smeets_q _ _ _ _ _ _ _ _ _ _ eM).mono ?_; rintro e w1 ⟨rfl, hb1⟩; have hz1 := hb1.size; (try simp only [zz] at hz1); have := kf3 hb1 w.heap.size)
  exact bodyPost_ret (v := .tuple #[s3 0 0 0, .bool false]) (by simp [results, Tryz.results168, go_sem, *]) rfl ⟨rfl, bel_a⟩
 | true =>
  rw [if_pos eM] at e
  obtain ⟨s0, es0⟩ : ∃ z, c - r = z := ⟨_, rfl⟩
  have ws0 := i64w (n := c - r) (by omega)
  rw [es0] at e ws0
  obtain ⟨s1, es1⟩ : ∃ z, t - a = z := ⟨_, rfl⟩
  have ws1 := i64w (n := t - a) (by omega)
  rw [es1] at e ws1
  obtain ⟨s2, es2⟩ : ∃ z, d - s = z := ⟨_, rfl⟩
  have ws2 := i64w (n := d - s) (by omega)
  rw [es2] at e ws2
  obtain ⟨s3', es3'⟩ : ∃ z, u - b = z := ⟨_, rfl⟩
  have ws3' := i64w (n := u - b) (by omega)
  rw [es3'] at e ws3'
  unfold bsT at e
  cases d1 : decide (s1 < s0) with
  | true =>
   simp only [if_pos (of_decide_eq_true d1)] at e
   cases d2 : decide (s2 < s1) with
   | true =>
    simp only [if_pos (of_decide_eq_true d2)] at e
    cases d3 : decide (s3' < s2) with
    | true =>
     simp only [if_pos (of_decide_eq_true d3)] at e
     simp only [Prod.mk.injEq] at e
     obtain ⟨⟨eX, eY, eD⟩, eK⟩ := e
     subst eX
     subst eY
     subst eD
     subst eK
     go_enter Tryz.func168, Tryz.ntmps168
     go_wp2_with (go_at_call 178; refine (smeets_q _ _ _ _ _ _ _ _ _ _ eM).mono ?_; rintro e w1 ⟨rfl, hb1⟩; have hz1 := hb1.size; (try simp only [zz] at hz1); have := kf3 hb1 w.heap.size)
     exact bodyPost_ret (v := .tuple #[s3 0 (-256) s3', .bool true]) (by simp [results, Tryz.results168, go_sem, *]) rfl ⟨rfl, bel_a⟩
    | false =>
     simp only [if_neg (of_decide_eq_false d3)] at e
     simp only [Prod.mk.injEq] at e
     obtain ⟨⟨eX, eY, eD⟩, eK⟩ := e
     subst eX
     subst eY
     subst eD
     subst eK
     go_enter Tryz.func168, Tryz.ntmps168
     go_wp2_with (go_at_call 178; refine (smeets_q _ _ _ _ _ _ _ _ _ _ eM).mono ?_; rintro e w1 ⟨rfl, hb1⟩; have hz1 := hb1.size; (try simp only [zz] at hz1); have := kf3 hb1 w.heap.size)
     exact bodyPost_ret (v := .tuple #[s3 0 256 s2, .bool true]) (by simp [results, Tryz.results168, go_sem, *]) rfl ⟨rfl, bel_a⟩
   | false =>
    simp only [if_neg (of_decide_eq_false d2)] at e
    cases d3 : decide (s3' < s1) with
    | true =>
     simp only [if_pos (of_decide_eq_true d3)] at e
     simp only [Prod.mk.injEq] at e
     obtain ⟨⟨eX, eY, eD⟩, eK⟩ := e
     subst eX
     subst eY
     subst eD
     subst eK
     go_enter Tryz.func168, Tryz.ntmps168
     go_wp2_with (go_at_call 178; refine (smeets_q _ _ _ _ _ _ _ _ _ _ eM).mono ?_; rintro e w1 ⟨rfl, hb1⟩; have hz1 := hb1.size; (try simp only [zz] at hz1); have := kf3 hb1 w.heap.size)
     exact bodyPost_ret (v := .tuple #[s3 0 (-256) s3', .bool true]) (by simp [results, Tryz.results168, go_sem, *]) rfl ⟨rfl, bel_a⟩
    | false =>
     simp only [if_neg (of_decide_eq_false d3)] at e
     simp only [Prod.mk.injEq] at e
     obtain ⟨⟨eX, eY, eD⟩, eK⟩ := e
     subst eX
     subst eY
     subst eD
     subst eK
     go_enter Tryz.func168, Tryz.ntmps168
     go_wp2_with (go_at_call 178; refine (smeets_q _ _ _ _ _ _ _ _ _ _ eM).mono ?_; rintro e w1 ⟨rfl, hb1⟩; have hz1 := hb1.size; (try simp only [zz] at hz1); have := kf3 hb1 w.heap.size)
     exact bodyPost_ret (v := .tuple #[s3 (-256) 0 s1, .bool true]) (by simp [results, Tryz.results168, go_sem, *]) rfl ⟨rfl, bel_a⟩
  | false =>
   simp only [if_neg (of_decide_eq_false d1)] at e
   cases d2 : decide (s2 < s0) with
   | true =>
    simp only [if_pos (of_decide_eq_true d2)] at e
    cases d3 : decide (s3' < s2) with
    | true =>
     simp only [if_pos (of_decide_eq_true d3)] at e
     simp only [Prod.mk.injEq] at e
     obtain ⟨⟨eX, eY, eD⟩, eK⟩ := e
     subst eX
     subst eY
     subst eD
     subst eK
     go_enter Tryz.func168, Tryz.ntmps168
     go_wp2_with (go_at_call 178; refine (smeets_q _ _ _ _ _ _ _ _ _ _ eM).mono ?_; rintro e w1 ⟨rfl, hb1⟩; have hz1 := hb1.size; (try simp only [zz] at hz1); have := kf3 hb1 w.heap.size)
     exact bodyPost_ret (v := .tuple #[s3 0 (-256) s3', .bool true]) (by simp [results, Tryz.results168, go_sem, *]) rfl ⟨rfl, bel_a⟩
    | false =>
     simp only [if_neg (of_decide_eq_false d3)] at e
     simp only [Prod.mk.injEq] at e
     obtain ⟨⟨eX, eY, eD⟩, eK⟩ := e
     subst eX
     subst eY
     subst eD
     subst eK
     go_enter Tryz.func168, Tryz.ntmps168
     go_wp2_with (go_at_call 178; refine (smeets_q _ _ _ _ _ _ _ _ _ _ eM).mono ?_; rintro e w1 ⟨rfl, hb1⟩; have hz1 := hb1.size; (try simp only [zz] at hz1); have := kf3 hb1 w.heap.size)
     exact bodyPost_ret (v := .tuple #[s3 0 256 s2, .bool true]) (by simp [results, Tryz.results168, go_sem, *]) rfl ⟨rfl, bel_a⟩
   | false =>
    simp only [if_neg (of_decide_eq_false d2)] at e
    cases d3 : decide (s3' < s0) with
    | true =>
     simp only [if_pos (of_decide_eq_true d3)] at e
     simp only [Prod.mk.injEq] at e
     obtain ⟨⟨eX, eY, eD⟩, eK⟩ := e
     subst eX
     subst eY
     subst eD
     subst eK
     go_enter Tryz.func168, Tryz.ntmps168
     go_wp2_with (go_at_call 178; refine (smeets_q _ _ _ _ _ _ _ _ _ _ eM).mono ?_; rintro e w1 ⟨rfl, hb1⟩; have hz1 := hb1.size; (try simp only [zz] at hz1); have := kf3 hb1 w.heap.size)
     exact bodyPost_ret (v := .tuple #[s3 0 (-256) s3', .bool true]) (by simp [results, Tryz.results168, go_sem, *]) rfl ⟨rfl, bel_a⟩
    | false =>
     simp only [if_neg (of_decide_eq_false d3)] at e
     simp only [Prod.mk.injEq] at e
     obtain ⟨⟨eX, eY, eD⟩, eK⟩ := e
     subst eX
     subst eY
     subst eD
     subst eK
     go_enter Tryz.func168, Tryz.ntmps168
     go_wp2_with (go_at_call 178; refine (smeets_q _ _ _ _ _ _ _ _ _ _ eM).mono ?_; rintro e w1 ⟨rfl, hb1⟩; have hz1 := hb1.size; (try simp only [zz] at hz1); have := kf3 hb1 w.heap.size)
     exact bodyPost_ret (v := .tuple #[s3 256 0 s0, .bool true]) (by simp [results, Tryz.results168, go_sem, *]) rfl ⟨rfl, bel_a⟩
end Go.Proofs.YthijeiehcdoidaaGreat
