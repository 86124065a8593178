/- Texts of a proof. -/
import Derived.Test.YtbdbbdjifgpgeaaGreatB8
import Derived.Test.YtbdbbdjifgpgeaaGreatB2
import Derived.Deep.RegionHeld3
import Derived.Deep.DeepCutAuto
import Derived.Test.YtbdbbdjifgpgeaaGreatB10
import Derived.Test.YtbdbbdjifgpgeaaGreatB5
import Derived.Test.YtbdbbdjifgpgeaaGreatB1
import Derived.Test.YtbdbbdjifgpgeaaGreatB6
import Derived.Test.YtbdbbdjifgpgeaaGreatB3
set_option maxHeartbeats 16000000
set_option maxRecDepth 20000
namespace Go.Proofs.YtbdbbdjifgpgeaaGreat
open Go.RowKit
set_option linter.unusedVariables false
set_option linter.unusedSimpArgs false
structure LsV (w wr:World) (t k:Nat) (a:Option Addr) (m c:Nat) (l:List Int):Prop where
 bel:Below w.heap.size w wr
 len:l.length=m*k
 own:OwnL wr w.heap.size t k (.slice a m c) m (ofL l)
theorem LsV.below {w wr w':World} {t k m c:Nat} {a:Option Addr} {l:List Int} (h:LsV w wr t k a m c l) (hb:Below wr.heap.size wr w'):LsV w w' t k a m c l:=⟨h.bel.trans (hb.mono h.bel.size),h.len,h.own.below hb⟩
theorem LsV.push {w wr w1:World} {t k m c c':Nat} {a a':Option Addr} {l x:List Int} (h:LsV w wr t k a m c l) (hx:x.length=k) (hg:wr.grownBy w1 (Value.slice a m c).ownBlock) (ho:OwnL w1 w.heap.size t k (.slice a' (m+1) c') (m+1) (cat (m*k) (ofL l) (ofL x))):LsV w w1 t k a' (m+1) c' (l++x):=
 ⟨h.bel.grown hg h.bel.size (fun b e=>(h.own.lt b e).1),by rw[List.length_append,h.len,hx,Nat.succ_mul],by rw[←cat_ofL,h.len];exact ho⟩
theorem LsV.new (w:World) (t k:Nat):LsV w (w.alloc (.cells #[] t)) t k (some ⟨w.heap.size,0,none⟩) 0 0 []:=
 ⟨(Below.refl _ _).alloc (Nat.le_refl _) _,by simp,⟨by simp[numL],.inr ⟨w.heap.size,0, #[],rfl,Nat.le_refl _,Go.Deep.blk_alloc_new _ _,Nat.le_refl _,Nat.zero_le _,by simp,by simp[numL]⟩⟩⟩
theorem LsV.nil (w:World) (t k:Nat):LsV w w t k none 0 0 []:=⟨Below.refl _ _,by simp,OwnL.nil _ _ _ _ _⟩
theorem LsV.out {w0 w wr:World} {t k m c:Nat} {a:Option Addr} {l:List Int} (h:LsV w wr t k a m c l) (hb:Below w0.heap.size w0 w):OutL w0 wr t k a m c (ofL l):=⟨hb.trans (h.bel.mono hb.size),h.own.base hb.size⟩
structure Nb (w:World) (b k:Nat) (V:Nat→Int):Prop where
 c:∀ j,j<k→w.cell? ⟨b,j,none⟩=some (.int .i64 (V j))
 f:∀ o,w.frozen? ⟨b,o,none⟩=false
 l:b<w.heap.size
theorem Nb.on {w w':World} {b k:Nat} {V:Nat→Int} (h:Nb w b k V) (hb:Below w.heap.size w w'):Nb w' b k V:=
 ⟨fun j hj=>(hb.cell (p:=⟨b,j,none⟩) h.l).trans (h.c j hj),fun o=>(hb.frozen (p:=⟨b,o,none⟩) h.l).trans (h.f o),Nat.lt_of_lt_of_le h.l hb.size⟩
theorem Nb.fr {w w':World} {b k:Nat} {V:Nat→Int} {X:Nat→Prop} (h:Nb w b k V) (hs:Fr X w w') (hx:¬ X b):Nb w' b k V:=
 ⟨fun j hj=>(hs.cell (p:=⟨b,j,none⟩) h.l hx).trans (h.c j hj),fun o=>(hs.frozen (p:=⟨b,o,none⟩) h.l hx).trans (h.f o),Nat.lt_of_lt_of_le h.l hs.size⟩
theorem Nb.dr {w:World} {b k:Nat} {V:Nat→Int} (h:Nb w b k V):Nb w.drew b k V:=⟨fun j hj=>h.c j hj,fun o=>h.f o,h.l⟩
theorem Nb.congr {w:World} {b k:Nat} {V W:Nat→Int} (h:Nb w b k V) (e:∀ j,j<k→V j=W j):Nb w b k W:=⟨fun j hj=>by rw[←e j hj];exact h.c j hj,h.f,h.l⟩
theorem Nb.set {w:World} {b k:Nat} {V:Nat→Int} (h:Nb w b k V) (j:Nat) (hj:j<k) (x:Int):Nb (w.setCell ⟨b,j,none⟩ (.int .i64 x)) b k (fun i=>if i=j then x else V i):=by
 have h1:=h.c j hj
 refine⟨fun i hi=> ?_,fun o=> ?_,by simp;exact h.l⟩
 · by_cases e:i=j
   · subst e;rw[if_pos rfl];exact World.cell?_setCell_same _ _ _ h1
   · rw[if_neg e,World.cell?_setCell_other _ _ _ _ (by intro h;simp only[Addr.mk.injEq] at h;omega)];exact h.c i hi
 · have:=h.f o;simp[this]
def hitB (x y k:Int):Bool:=inB 256 x y&&decide (0≤k∧k≤102400)
theorem run_eq_vec (n d:Nat) (hn:n=d+1) (a b x y:Int) (w:World):(Op.equalIn (n+1) 34 (.agg #[.int .i64 a,.int .i64 b]) (.agg #[.int .i64 x,.int .i64 y])).run Tryz.prog w= .ok (a==x&&b==y) w:=by
 have hi:Tryz.prog.underlying 3=some (.int .i64):=by kernel_rfl
 have hs:Tryz.prog.stoodInHeld 34=false:=by kernel_rfl
 have hp:∀ w,(program).run Tryz.prog w= .ok Tryz.prog w:=fun w=>by rfl
 have p0:∀ (a b:Int) w,(part 3 #[.int .i64 a,.int .i64 b] 0).run Tryz.prog w= .ok (.int .i64 a) w:=fun a b w=>by kernel_rfl
 have p1:∀ (a b:Int) w,(part 3 #[.int .i64 a,.int .i64 b] 1).run Tryz.prog w= .ok (.int .i64 b) w:=fun a b w=>by kernel_rfl
 simp only[Op.equalIn,Sem.run_bind,run_underlying Tryz.underlying34,Result.andThen_ok,hp,hs,Bool.false_eq_true,if_false,Sem.run_pure]
 subst hn
 have h0:∀ w,(Op.equalIn (d+1) 3 (.int .i64 a) (.int .i64 x)).run Tryz.prog w= .ok (a==x) w:=fun w=>run_equalIn_int w d 3 .i64 .i64 a x hi
 have h1:∀ w,(Op.equalIn (d+1) 3 (.int .i64 b) (.int .i64 y)).run Tryz.prog w= .ok (b==y) w:=fun w=>run_equalIn_int w d 3 .i64 .i64 b y hi
 simp only[List.forIn_toArray,List.forIn_cons,List.forIn_nil,Sem.run_bind,p0,h0,Result.andThen_ok,Sem.run_ite,Sem.run_pure]
 cases hx:(a==x)<;>cases hy:(b==y)<;>simp[Sem.run_bind,p0,p1,h0,h1,Sem.run_ite,hx,hy]
theorem eq_vec0 (a b x y:Int) (w:World):(Op.equalIn 10000 34 (.agg #[.int .i64 a,.int .i64 b]) (.agg #[.int .i64 x,.int .i64 y])).run Tryz.prog w= .ok (a==x&&b==y) w:=run_eq_vec 9999 9998 rfl a b x y w
theorem run_eq_shape (n d:Nat) (hn:n=d+1) (a b c:Int) (w:World):(Op.equalIn (n+1) 32 (.agg #[.int .i64 a,.int .i64 b,.int .i64 c]) (.agg #[.int .i64 a,.int .i64 b,.int .i64 c])).run Tryz.prog w= .ok true w:=by
 have hi:Tryz.prog.underlying 3=some (.int .i64):=by kernel_rfl
 have hs:Tryz.prog.stoodInHeld 32=false:=by kernel_rfl
 have hp:∀ w,(program).run Tryz.prog w= .ok Tryz.prog w:=fun w=>by rfl
 have p0:∀ (a b c:Int) w,(part 3 #[.int .i64 a,.int .i64 b,.int .i64 c] 0).run Tryz.prog w= .ok (.int .i64 a) w:=fun a b c w=>by kernel_rfl
 have p1:∀ (a b c:Int) w,(part 3 #[.int .i64 a,.int .i64 b,.int .i64 c] 1).run Tryz.prog w= .ok (.int .i64 b) w:=fun a b c w=>by kernel_rfl
 have p2:∀ (a b c:Int) w,(part 3 #[.int .i64 a,.int .i64 b,.int .i64 c] 2).run Tryz.prog w= .ok (.int .i64 c) w:=fun a b c w=>by kernel_rfl
 simp only[Op.equalIn,Sem.run_bind,run_underlying Tryz.underlying32,Result.andThen_ok,hp,hs,Bool.false_eq_true,if_false,Sem.run_pure]
 subst hn
 have h0:∀ w,(Op.equalIn (d+1) 3 (.int .i64 a) (.int .i64 a)).run Tryz.prog w= .ok true w:=fun w=>by rw[run_equalIn_int w (d+0) 3 .i64 .i64 a a hi];simp
 have h1:∀ w,(Op.equalIn (d+1) 3 (.int .i64 b) (.int .i64 b)).run Tryz.prog w= .ok true w:=fun w=>by rw[run_equalIn_int w (d+0) 3 .i64 .i64 b b hi];simp
 have h2:∀ w,(Op.equalIn (d+1) 3 (.int .i64 c) (.int .i64 c)).run Tryz.prog w= .ok true w:=fun w=>by rw[run_equalIn_int w (d+0) 3 .i64 .i64 c c hi];simp
 simp only[List.forIn_toArray,List.forIn_cons,List.forIn_nil,Sem.run_bind,p0,h0,Result.andThen_ok,Sem.run_ite,Sem.run_pure]
 simp[Sem.run_bind,p0,h0,p1,h1,p2,h2,Sem.run_ite]
theorem run_eq_body (n d:Nat) (hn:n=d+3) (x0 x1 x2 x3 x4 x5 x6 x7 x8 x9 x10 x11:Int) (w:World):(Op.equalIn (n+1) 36 (.agg #[.int .i64 x0,.int .i64 x1,.int .i64 x2,.int .i64 x3,.int .i64 x4,.int .i64 x5,.int .i64 x6,.int .i64 x7,.int .i64 x8,.int .i64 x9,.int .i64 x10,.int .i64 x11]) (.agg #[.int .i64 x0,.int .i64 x1,.int .i64 x2,.int .i64 x3,.int .i64 x4,.int .i64 x5,.int .i64 x6,.int .i64 x7,.int .i64 x8,.int .i64 x9,.int .i64 x10,.int .i64 x11])).run Tryz.prog w= .ok true w:=by
 have hi:Tryz.prog.underlying 3=some (.int .i64):=by kernel_rfl
 have hs:Tryz.prog.stoodInHeld 36=false:=by kernel_rfl
 have hp:∀ w,(program).run Tryz.prog w= .ok Tryz.prog w:=fun w=>by rfl
 have p0:∀ (x0 x1 x2 x3 x4 x5 x6 x7 x8 x9 x10 x11:Int) w,(part 3 #[.int .i64 x0,.int .i64 x1,.int .i64 x2,.int .i64 x3,.int .i64 x4,.int .i64 x5,.int .i64 x6,.int .i64 x7,.int .i64 x8,.int .i64 x9,.int .i64 x10,.int .i64 x11] 0).run Tryz.prog w= .ok (.int .i64 x0) w:=fun x0 x1 x2 x3 x4 x5 x6 x7 x8 x9 x10 x11 w=>by kernel_rfl
 have p1:∀ (x0 x1 x2 x3 x4 x5 x6 x7 x8 x9 x10 x11:Int) w,(part 32 #[.int .i64 x0,.int .i64 x1,.int .i64 x2,.int .i64 x3,.int .i64 x4,.int .i64 x5,.int .i64 x6,.int .i64 x7,.int .i64 x8,.int .i64 x9,.int .i64 x10,.int .i64 x11] 1).run Tryz.prog w= .ok (.agg #[.int .i64 x1,.int .i64 x2,.int .i64 x3]) w:=fun x0 x1 x2 x3 x4 x5 x6 x7 x8 x9 x10 x11 w=>by kernel_rfl
 have p2:∀ (x0 x1 x2 x3 x4 x5 x6 x7 x8 x9 x10 x11:Int) w,(part 34 #[.int .i64 x0,.int .i64 x1,.int .i64 x2,.int .i64 x3,.int .i64 x4,.int .i64 x5,.int .i64 x6,.int .i64 x7,.int .i64 x8,.int .i64 x9,.int .i64 x10,.int .i64 x11] 4).run Tryz.prog w= .ok (.agg #[.int .i64 x4,.int .i64 x5]) w:=fun x0 x1 x2 x3 x4 x5 x6 x7 x8 x9 x10 x11 w=>by kernel_rfl
 have p3:∀ (x0 x1 x2 x3 x4 x5 x6 x7 x8 x9 x10 x11:Int) w,(part 34 #[.int .i64 x0,.int .i64 x1,.int .i64 x2,.int .i64 x3,.int .i64 x4,.int .i64 x5,.int .i64 x6,.int .i64 x7,.int .i64 x8,.int .i64 x9,.int .i64 x10,.int .i64 x11] 6).run Tryz.prog w= .ok (.agg #[.int .i64 x6,.int .i64 x7]) w:=fun x0 x1 x2 x3 x4 x5 x6 x7 x8 x9 x10 x11 w=>by kernel_rfl
 have p4:∀ (x0 x1 x2 x3 x4 x5 x6 x7 x8 x9 x10 x11:Int) w,(part 3 #[.int .i64 x0,.int .i64 x1,.int .i64 x2,.int .i64 x3,.int .i64 x4,.int .i64 x5,.int .i64 x6,.int .i64 x7,.int .i64 x8,.int .i64 x9,.int .i64 x10,.int .i64 x11] 8).run Tryz.prog w= .ok (.int .i64 x8) w:=fun x0 x1 x2 x3 x4 x5 x6 x7 x8 x9 x10 x11 w=>by kernel_rfl
 have p5:∀ (x0 x1 x2 x3 x4 x5 x6 x7 x8 x9 x10 x11:Int) w,(part 3 #[.int .i64 x0,.int .i64 x1,.int .i64 x2,.int .i64 x3,.int .i64 x4,.int .i64 x5,.int .i64 x6,.int .i64 x7,.int .i64 x8,.int .i64 x9,.int .i64 x10,.int .i64 x11] 9).run Tryz.prog w= .ok (.int .i64 x9) w:=fun x0 x1 x2 x3 x4 x5 x6 x7 x8 x9 x10 x11 w=>by kernel_rfl
 have p6:∀ (x0 x1 x2 x3 x4 x5 x6 x7 x8 x9 x10 x11:Int) w,(part 3 #[.int .i64 x0,.int .i64 x1,.int .i64 x2,.int .i64 x3,.int .i64 x4,.int .i64 x5,.int .i64 x6,.int .i64 x7,.int .i64 x8,.int .i64 x9,.int .i64 x10,.int .i64 x11] 10).run Tryz.prog w= .ok (.int .i64 x10) w:=fun x0 x1 x2 x3 x4 x5 x6 x7 x8 x9 x10 x11 w=>by kernel_rfl
 have p7:∀ (x0 x1 x2 x3 x4 x5 x6 x7 x8 x9 x10 x11:Int) w,(part 3 #[.int .i64 x0,.int .i64 x1,.int .i64 x2,.int .i64 x3,.int .i64 x4,.int .i64 x5,.int .i64 x6,.int .i64 x7,.int .i64 x8,.int .i64 x9,.int .i64 x10,.int .i64 x11] 11).run Tryz.prog w= .ok (.int .i64 x11) w:=fun x0 x1 x2 x3 x4 x5 x6 x7 x8 x9 x10 x11 w=>by kernel_rfl
 simp only[Op.equalIn,Sem.run_bind,run_underlying Tryz.underlying36,Result.andThen_ok,hp,hs,Bool.false_eq_true,if_false,Sem.run_pure]
 subst hn
 have h0:∀ w,(Op.equalIn (d+3) 3 (.int .i64 x0) (.int .i64 x0)).run Tryz.prog w= .ok true w:=fun w=>by rw[run_equalIn_int w (d+2) 3 .i64 .i64 x0 x0 hi];simp
 have h1:∀ w,(Op.equalIn (d+3) 32 (.agg #[.int .i64 x1,.int .i64 x2,.int .i64 x3]) (.agg #[.int .i64 x1,.int .i64 x2,.int .i64 x3])).run Tryz.prog w= .ok true w:=fun w=>run_eq_shape (d+2) (d+1) rfl x1 x2 x3 w
 have h2:∀ w,(Op.equalIn (d+3) 34 (.agg #[.int .i64 x4,.int .i64 x5]) (.agg #[.int .i64 x4,.int .i64 x5])).run Tryz.prog w= .ok true w:=fun w=>by rw[run_eq_vec (d+2) (d+1) rfl];simp
 have h3:∀ w,(Op.equalIn (d+3) 34 (.agg #[.int .i64 x6,.int .i64 x7]) (.agg #[.int .i64 x6,.int .i64 x7])).run Tryz.prog w= .ok true w:=fun w=>by rw[run_eq_vec (d+2) (d+1) rfl];simp
 have h4:∀ w,(Op.equalIn (d+3) 3 (.int .i64 x8) (.int .i64 x8)).run Tryz.prog w= .ok true w:=fun w=>by rw[run_equalIn_int w (d+2) 3 .i64 .i64 x8 x8 hi];simp
 have h5:∀ w,(Op.equalIn (d+3) 3 (.int .i64 x9) (.int .i64 x9)).run Tryz.prog w= .ok true w:=fun w=>by rw[run_equalIn_int w (d+2) 3 .i64 .i64 x9 x9 hi];simp
 have h6:∀ w,(Op.equalIn (d+3) 3 (.int .i64 x10) (.int .i64 x10)).run Tryz.prog w= .ok true w:=fun w=>by rw[run_equalIn_int w (d+2) 3 .i64 .i64 x10 x10 hi];simp
 have h7:∀ w,(Op.equalIn (d+3) 3 (.int .i64 x11) (.int .i64 x11)).run Tryz.prog w= .ok true w:=fun w=>by rw[run_equalIn_int w (d+2) 3 .i64 .i64 x11 x11 hi];simp
 simp only[List.forIn_toArray,List.forIn_cons,List.forIn_nil,Sem.run_bind,p0,h0,Result.andThen_ok,Sem.run_ite,Sem.run_pure]
 simp[Sem.run_bind,p0,h0,p1,h1,p2,h2,p3,h3,p4,h4,p5,h5,p6,h6,p7,h7,Sem.run_ite]
theorem eq_body0 (x0 x1 x2 x3 x4 x5 x6 x7 x8 x9 x10 x11:Int) (w:World):(Op.equalIn 10000 36 (.agg #[.int .i64 x0,.int .i64 x1,.int .i64 x2,.int .i64 x3,.int .i64 x4,.int .i64 x5,.int .i64 x6,.int .i64 x7,.int .i64 x8,.int .i64 x9,.int .i64 x10,.int .i64 x11]) (.agg #[.int .i64 x0,.int .i64 x1,.int .i64 x2,.int .i64 x3,.int .i64 x4,.int .i64 x5,.int .i64 x6,.int .i64 x7,.int .i64 x8,.int .i64 x9,.int .i64 x10,.int .i64 x11])).run Tryz.prog w= .ok true w:=run_eq_body 9999 9996 rfl x0 x1 x2 x3 x4 x5 x6 x7 x8 x9 x10 x11 w
end Go.Proofs.YtbdbbdjifgpgeaaGreat
