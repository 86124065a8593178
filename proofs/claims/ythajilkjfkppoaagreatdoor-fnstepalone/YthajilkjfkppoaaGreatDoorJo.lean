/- Texts of a proof. -/
import Derived.Test.YthajilkjfkppoaaGreatDoorB18
import Derived.Test.YthajilkjfkppoaaGreatDoorB3
import Derived.Test.YthajilkjfkppoaaGreatDoorB39
import Derived.Test.YthajilkjfkppoaaGreatDoorB22
import Derived.Deep.RegionHeld3
import Derived.Deep.DeepCutAuto
set_option maxHeartbeats 16000000
set_option maxRecDepth 20000
namespace Go.Proofs.YthajilkjfkppoaaGreatDoor
open Go.RowKit
set_option linter.unusedVariables false
set_option linter.unusedSimpArgs false
structure Uk (w:World) (ub g n:Nat) (k:Nat):Prop where
 hd:w.cell? ⟨ub,0,none⟩=some (.slice (some ⟨g,0,none⟩) n n)
 row:∀ i,i<n→w.cell? ⟨g,i,none⟩=some (.int .i64 ((if i<k then i else 0:Nat):Int))
 fz:∀ i,w.frozen? ⟨g,i,none⟩=false
 ne:ub≠g
 l1:ub<w.heap.size
 l2:g<w.heap.size
theorem Uk.set {w:World} {ub g n k:Nat} (h:Uk w ub g n k) (hk:k<n):Uk (w.setCell ⟨g,k,none⟩ (.int .i64 (k:Int))) ub g n (k+1):=by
 refine⟨?_,fun i hi=> ?_,fun i=>by rw[World.frozen?_setCell];exact h.fz i,h.ne,by simpa using h.l1,by simpa using h.l2⟩
 · rw[cset_far (by simp;have:=h.ne;omega)];exact h.hd
 · by_cases e:i=k
   · subst e;rw[cset_map,h.row i hi];simp
   · rw[cset_other (by intro q;cases q;exact e rfl),h.row i hi]
     by_cases l:i<k
     · rw[if_pos l,if_pos (by omega)]
     · rw[if_neg l,if_neg (by omega)]
theorem Uk.done {w:World} {ub g n:Nat} (h:Uk w ub g n n):Uf w ub g n n (fun i=>i):=
 ⟨h.hd,fun i hi=>by rw[h.row i hi,if_pos hi],fun i _=>h.fz i,fun _=>Nat.le_refl _,h.ne,h.l1,h.l2⟩
theorem unionsOf_q (n:Nat) (w:World) (hn:n≤1000):Calls Tryz.prog 166 #[.int .i64 (n:Int)] w fun e w'=>∃ ub g:Nat,e= .returned (.pointer (some ⟨ub,0,none⟩))∧w.heap.size≤g∧w.heap.size≤ub∧Uf w' ub g n n (fun i=>i)∧Below w.heap.size w w':=by
 have hset:=cset_map
 have hmk:∀ w,(Instr.makeSlice 224 (.int .i64 (n:Int)) (.int .i64 (n:Int))).run Tryz.prog w= .ok (.slice (some ⟨w.heap.size,0,none⟩) n n) (w.alloc (.cells (madeCells #[.int .i64 0] n) 57)):=fun w=>by have q:=make_rows (P:=Tryz.prog) 224 57 (.int .i64 0) 1 8 Tryz.underlying224 (by kernel_rfl) .i64 .i64 n (by omega) (by omega) w;rw[Nat.mul_one] at q;exact q
 have hE:Below w.heap.size w ((w.alloc (.cells (madeCells #[.int .i64 0] n) 57)).alloc (Obj.cells #[.slice (some ⟨w.heap.size,0,none⟩) n n] 226)):=((Below.refl _ _).alloc (Nat.le_refl _) _).alloc (by simp) _
 have hU0:Uk ((w.alloc (.cells (madeCells #[.int .i64 0] n) 57)).alloc (Obj.cells #[.slice (some ⟨w.heap.size,0,none⟩) n n] 226)) (w.heap.size+1) w.heap.size n 0:=by
  refine⟨by go_simp,fun i hi=> ?_,fun i=>by go_simp,by omega,by simp,by simp;omega⟩
  rw[if_neg (Nat.not_lt_zero _),calloc_old (by simp)]
  have e:(w.alloc (.cells (madeCells #[.int .i64 0] n) 57)).cell? ⟨w.heap.size,i,none⟩=(madeCells #[.int .i64 0] n)[i]? :=by go_simp
  rw[e]
  unfold madeCells
  simp[hi,Value.cells,Nat.mod_one]
 go_enter Tryz.func166,Tryz.ntmps166
 go_upto_region 3 with fail
 generalize ((w.alloc (.cells (madeCells #[.int .i64 0] n) 57)).alloc (Obj.cells #[.slice (some ⟨w.heap.size,0,none⟩) n n] 226))=w2 at hE hU0 ⊢
 go_loopw [14] (fun s wr=>∃ k:Nat,k≤n∧s= .int .i64 (k:Int)∧Uk wr (w.heap.size+1) w.heap.size n k∧Below w.heap.size w wr) (fun s _=>n-(intOf s).toNat)
 case atStart=>exact⟨0,Nat.zero_le _,rfl,hU0,hE⟩
 case round=>
  clear hU0 hE
  obtain⟨k,hk,rfl,hU,hE⟩:=hrel
  have u0:=hU.hd
  have uf:=hU.fz
  by_cases hlt:k<n
  · have hkn:(k:Int)<(n:Int):=by omega
    have uk:=hU.row k hlt
    have hU2:=hU.set hlt
    go_wp2_with fail
    go_roundw
    case rel=>exact⟨k+1,by omega,by go_num,hU2,hE.setCell (Nat.le_refl _) _⟩
    case measure=>simp[intOf];omega
  · obtain rfl:k=n:=by omega
    go_wp2_with fail
    go_ret
    exact⟨_,_,rfl,Nat.le_refl _,by omega,hU.done,hE⟩
def Hb (w:World) (b:Nat) (x:Int) (y:Value):Prop:=w.heap[b]? =some (.cells #[.int .i64 x,y] 59 (0,0))
theorem Hb.lt {w:World} {b:Nat} {x:Int} {y:Value} (h:Hb w b x y):b<w.heap.size:=by
 rcases Nat.lt_or_ge b w.heap.size with q|q
 · exact q
 · unfold Hb at h;rw[Array.getElem?_eq_none q] at h;cases h
theorem Hb.c0 {w:World} {b:Nat} {x:Int} {y:Value} (h:Hb w b x y):w.cell? ⟨b,0,none⟩=some (.int .i64 x):=by unfold Hb at h;simp[World.cell?,h]
theorem Hb.c1 {w:World} {b:Nat} {x:Int} {y:Value} (h:Hb w b x y):w.cell? ⟨b,1,none⟩=some y:=by unfold Hb at h;simp[World.cell?,h]
theorem Hb.f {w:World} {b:Nat} {x:Int} {y:Value} (h:Hb w b x y):∀ o,w.frozen? ⟨b,o,none⟩=false:=by unfold Hb at h;intro o;simp[World.frozen?,h]
theorem Hb.on {w w':World} {b:Nat} {x:Int} {y:Value} (h:Hb w b x y) (k:Below w.heap.size w w'):Hb w' b x y:=(k.block b h.lt).trans h
theorem Hb.new (w:World) (x:Int) (y:Value):Hb (w.alloc (.cells #[.int .i64 x,y] 59)) w.heap.size x y:=by show (w.heap.push _)[w.heap.size]? =_;simp
theorem setBlkJ {w:World} {b i:Nat} {cs:Array Value} {t:TypeId} {fr:Nat×Nat} (h:w.heap[b]? =some (.cells cs t fr)) (v:Value):(w.setCell ⟨b,i,none⟩ v).heap[b]? =some (.cells (cs.setIfInBounds i v) t fr):=by
 show (w.heap.modify b _)[b]? =_
 rw[Array.getElem?_modify,if_pos rfl,h]
 rfl
theorem Hb.put {w:World} {b:Nat} {x:Int} {y:Value} (h:Hb w b x y) (x':Int) (y':Value):Hb ((w.setCell ⟨b,0,none⟩ (.int .i64 x')).setCell ⟨b,1,none⟩ y') b x' y':=setBlkJ (i:=1) (setBlkJ (i:=0) h (.int .i64 x')) y'
theorem Hb.far {w:World} {b b' o:Nat} {x:Int} {y:Value} (h:Hb w b x y) (hn:b≠b') (v:Value):Hb (w.setCell ⟨b',o,none⟩ v) b x y:=(Below.heap_setCell w ⟨b',o,none⟩ v b hn).trans h
structure J5 (w4 w:World) (kb A B:Nat) (om ol:Option Nat) (xm:Int) (ym:Value) (xl:Int) (yl:Value):Prop where
 bel:Below w4.heap.size w4 w
 kl:kb<w4.heap.size
 k0:w.cell? ⟨kb,0,none⟩=some (.int .i64 (A:Int))
 k1:w.cell? ⟨kb,1,none⟩=some (.int .i64 (B:Int))
 m:∀ b,om=some b→Hb w b xm ym∧w4.heap.size≤b
 l:∀ b,ol=some b→Hb w b xl yl∧w4.heap.size≤b
 ne:∀ b b',om=some b→ol=some b'→b≠b'
section
variable {w4 w w':World} {kb A B bm bl:Nat} {om ol:Option Nat} {xm xl:Int} {ym yl:Value}
theorem J5.on (h:J5 w4 w kb A B om ol xm ym xl yl) (k:Below w.heap.size w w'):J5 w4 w' kb A B om ol xm ym xl yl:=
 have hk:kb<w.heap.size:=Nat.lt_of_lt_of_le h.kl h.bel.size
 ⟨h.bel.trans (k.mono h.bel.size),h.kl,(k.cell (p:=⟨kb,0,none⟩) hk).trans h.k0,(k.cell (p:=⟨kb,1,none⟩) hk).trans h.k1,fun b e=>⟨(h.m b e).1.on k,(h.m b e).2⟩,fun b e=>⟨(h.l b e).1.on k,(h.l b e).2⟩,h.ne⟩
theorem J5.dr (h:J5 w4 w kb A B om ol xm ym xl yl):J5 w4 w.drew kb A B om ol xm ym xl yl:=h.on (Below.drew (Below.refl _ _))
theorem J5.newM (h:J5 w4 w kb A B none ol xm ym xl yl):J5 w4 (w.alloc (Obj.cells #[.int .i64 0,.pointer none] 59)) kb A B (some w.heap.size) ol 0 (.pointer none) xl yl:=
 have q:=h.on ((Below.refl _ w).alloc (Nat.le_refl _) (Obj.cells #[.int .i64 0,.pointer none] 59))
 ⟨q.bel,q.kl,q.k0,q.k1,fun b e=>by cases e;exact⟨Hb.new w 0 _,h.bel.size⟩,q.l,fun b b' e e'=>by cases e;exact fun z=>by have:=(h.l _ e').1.lt;omega⟩
theorem J5.newL (h:J5 w4 w kb A B om none xm ym xl yl):J5 w4 (w.alloc (Obj.cells #[.int .i64 0,.pointer none] 59)) kb A B om (some w.heap.size) xm ym 0 (.pointer none):=
 have q:=h.on ((Below.refl _ w).alloc (Nat.le_refl _) (Obj.cells #[.int .i64 0,.pointer none] 59))
 ⟨q.bel,q.kl,q.k0,q.k1,q.m,fun b e=>by cases e;exact⟨Hb.new w 0 _,h.bel.size⟩,fun b b' e e'=>by cases e';exact fun z=>by have:=(h.m _ e).1.lt;omega⟩
theorem J5.putM (h:J5 w4 w kb A B (some bm) (some bl) xm ym xl yl) (x:Int) (y:Value):J5 w4 ((w.setCell ⟨bm,0,none⟩ (.int .i64 x)).setCell ⟨bm,1,none⟩ y) kb A B (some bm) (some bl) x y xl yl:=by
 obtain⟨m1,m2⟩:=h.m _ rfl
 obtain⟨l1,l2⟩:=h.l _ rfl
 have n:=h.ne _ _ rfl rfl
 have kl:=h.kl
 refine⟨(h.bel.setCell (p:=⟨bm,0,none⟩) m2 _).setCell (p:=⟨bm,1,none⟩) m2 _,h.kl,?_,?_,fun b e=>by cases e;exact⟨m1.put x y,m2⟩,fun b e=>by cases e;exact⟨(l1.far (fun z=>n z.symm) _).far (fun z=>n z.symm) _,l2⟩,h.ne⟩
 · rw[cset_far (by simp;omega),cset_far (by simp;omega)];exact h.k0
 · rw[cset_far (by simp;omega),cset_far (by simp;omega)];exact h.k1
theorem J5.putL (h:J5 w4 w kb A B (some bm) (some bl) xm ym xl yl) (x:Int) (y:Value):J5 w4 ((w.setCell ⟨bl,0,none⟩ (.int .i64 x)).setCell ⟨bl,1,none⟩ y) kb A B (some bm) (some bl) xm ym x y:=by
 obtain⟨m1,m2⟩:=h.m _ rfl
 obtain⟨l1,l2⟩:=h.l _ rfl
 have n:=h.ne _ _ rfl rfl
 have kl:=h.kl
 refine⟨(h.bel.setCell (p:=⟨bl,0,none⟩) l2 _).setCell (p:=⟨bl,1,none⟩) l2 _,h.kl,?_,?_,fun b e=>by cases e;exact⟨(m1.far n _).far n _,m2⟩,fun b e=>by cases e;exact⟨l1.put x y,l2⟩,h.ne⟩
 · rw[cset_far (by simp;omega),cset_far (by simp;omega)];exact h.k0
 · rw[cset_far (by simp;omega),cset_far (by simp;omega)];exact h.k1
end
def edg (U C:Nat→Int) (k:Nat):Option (Nat×Nat):=if U ((C (k*5)).toNat*12+8)≠0∧U ((C (k*5+1)).toNat*12+8)≠0 then some ((C (k*5)).toNat,(C (k*5+1)).toNat) else none
theorem joined_q (cb n:Nat) (U:Nat→Int) (S:Nat→Value) (M:Nat) (w:World) (hC:Cs w cb n (colOf U) S) (hn:n≤12) (hM:(conL (colOf U) n).length=M*5) (hMk:M≤1000):
 Calls Tryz.prog 144 #[.pointer (some ⟨cb,0,none⟩)] w fun e w'=>∃ (ub g:Nat) (G:Nat→Nat),e= .returned (.pointer (some ⟨ub,0,none⟩))∧(w.heap.size≤g∧w.heap.size≤ub)∧Uf w' ub g n n G∧(∀ j,rootF G j=lab (edg U (ofL (conL (colOf U) n))) M j)∧Below w.heap.size w w':=by
 have hset:=cset_map
 have hCt:=con_ct (colOf U) hM
 obtain⟨C,hCe⟩:∃ C,ofL (conL (colOf U) n)=C:=⟨_,rfl⟩
 rw[hCe] at hCt ⊢
 obtain⟨ad,cc,hS0⟩:=(hC.own 0 (by omega)).is
 have hd0:=hC.hd 0 (by omega)
 rw[hS0] at hd0
 go_enter Tryz.func144,Tryz.ntmps144
 go_upto_region 3 with(first
  |(have _:=hb1;go_at_call 22;refine(contacts_any cb n (colOf U) S _ (hC.below hb1) hn).mono ?_;rintro e w3 ⟨a2,m2,c2,rfl,hl2,hO2⟩)
  |(go_at_call 166;refine(unionsOf_q n _ (by omega)).mono ?_;rintro e w1 ⟨ub,g,rfl,hg1,hg2,hU1,hb1⟩))
 obtain rfl:m2=M:=by omega
 rw[hCe] at hO2
 have hU3:=hU1.on hO2.bel
 have hB3:=hb1.trans (hO2.bel.mono hb1.size)
 have hC3:=(hC.below hb1).below hO2.bel
 have hgz:=hU1.l2
 have hz3:=hO2.bel.size
 clear hd0 hM hb1 hU1
 go_loopw [17] (fun s wr=>∃ (k:Nat) (G:Nat→Nat),k≤m2∧s= .int .i64 (k:Int)∧Uf wr ub g n n G∧(∀ j,rootF G j=lab (edg U C) k j)∧Fr (fun b=>b=g) w3 wr) (fun s _=>m2-(intOf s).toNat)
 case atStart=>exact⟨0,fun i=>i,Nat.zero_le _,rfl,hU3,fun j=>root_self (Nat.lt_irrefl j),Fr.refl _ _⟩
 case round=>
  obtain⟨k,G,hk,rfl,hU,hG0,hF⟩:=hrel
  have hG:Shut (∀ j,rootF G j=lab (edg U C) k j):=hG0
  clear hG0 hU3
  have hBr:Below w.heap.size w wr:=hB3.trans (hF.below hB3.size (fun b e=>by subst e;exact hg1))
  have hCr:Cs wr cb n (colOf U) S:=hC.below hBr
  by_cases hlt:k<m2
  · have hki:(k:Int)<(m2:Int):=by omega
    have ca:=hCt.a k hlt
    have cb2:=hCt.b k hlt
    have hfl:Flat wr a2 (m2*5) C:=(hO2.own.frame hF (fun b e q=>by subst q;have:=(hO2.own.lt _ e).1;omega)).flat
    obtain⟨b1,o1,e1,hbl1,hc1⟩:=hfl (by omega)
    have r0:=hc1 (k*5) (by omega)
    have r1:=hc1 (k*5+1) (by omega)
    have r2:=hc1 (k*5+2) (by omega)
    have r3:=hc1 (k*5+3) (by omega)
    have r4:=hc1 (k*5+4) (by omega)
    simp only[←Nat.add_assoc] at r0 r1 r2 r3 r4
    clear hc1
    subst e1
    have HL0:edg U C k=if U ((C (k*5)).toNat*12+8)≠0∧U ((C (k*5+1)).toNat*12+8)≠0 then some ((C (k*5)).toNat,(C (k*5+1)).toNat) else none:=rfl
    obtain⟨A,hA⟩:∃ A:Nat,C (k*5)=(A:Int):=⟨(C (k*5)).toNat,by omega⟩
    obtain⟨B,hBB⟩:∃ B:Nat,C (k*5+1)=(B:Int):=⟨(C (k*5+1)).toNat,by omega⟩
    rw[hA,hBB,Int.toNat_natCast,Int.toNat_natCast] at HL0
    have HL:Shut (edg U C k=if U (A*12+8)≠0∧U (B*12+8)≠0 then some (A,B) else none):=HL0
    rw[hA] at ca r0
    rw[hBB] at cb2 r1
    clear hA hBB HL0
    have hAn:A<n:=by omega
    have hBn:B<n:=by omega
    go_upto_region 5 with fail
    have hE:Below wr.heap.size wr (wr.alloc (Obj.cells #[.int .i64 (A:Int),.int .i64 (B:Int),.int .i64 (C (k*5+2)),.int .i64 (C (k*5+3)),.int .i64 (C (k*5+4))] 40)):=(Below.refl _ _).alloc (Nat.le_refl _) _
    have k0w:(wr.alloc (Obj.cells #[.int .i64 (A:Int),.int .i64 (B:Int),.int .i64 (C (k*5+2)),.int .i64 (C (k*5+3)),.int .i64 (C (k*5+4))] 40)).cell? ⟨wr.heap.size,0,none⟩=some (.int .i64 (A:Int)):=by go_simp
    have k1w:(wr.alloc (Obj.cells #[.int .i64 (A:Int),.int .i64 (B:Int),.int .i64 (C (k*5+2)),.int .i64 (C (k*5+3)),.int .i64 (C (k*5+4))] 40)).cell? ⟨wr.heap.size,1,none⟩=some (.int .i64 (B:Int)):=by go_simp
    have hkl:wr.heap.size<(wr.alloc (Obj.cells #[.int .i64 (A:Int),.int .i64 (B:Int),.int .i64 (C (k*5+2)),.int .i64 (C (k*5+3)),.int .i64 (C (k*5+4))] 40)).heap.size:=by simp
    have hC4:=hCr.below hE
    have hU4:=hU.on hE
    have hF4:Fr (fun b=>b=g) w3 (wr.alloc (Obj.cells #[.int .i64 (A:Int),.int .i64 (B:Int),.int .i64 (C (k*5+2)),.int .i64 (C (k*5+3)),.int .i64 (C (k*5+4))] 40)):=hF.trans (Fr.of_below hE)
    clear r0 r1 r2 r3 r4 hfl hbl1 hU hF hCr hBr hE
    generalize (wr.alloc (Obj.cells #[.int .i64 (A:Int),.int .i64 (B:Int),.int .i64 (C (k*5+2)),.int .i64 (C (k*5+3)),.int .i64 (C (k*5+4))] 40))=w4 at k0w k1w hkl hC4 hU4 hF4 ⊢
    generalize wr.heap.size=kb at k0w k1w hkl ⊢
    have hJ:J5 w4 w4 kb A B none none 0 (.pointer none) 0 (.pointer none):=⟨Below.refl _ _,hkl,k0w,k1w,fun b e=>(by cases e),fun b e=>(by cases e),fun b b' e=>(by cases e)⟩
    clear k0w k1w hkl
    have k0:=hJ.k0
    have k1:=hJ.k1
    go_cut [6,7] (fun s6 s7 wz=>∃ bm bl:Nat,s6= .pointer (some ⟨bm,0,none⟩)∧s7= .pointer (some ⟨bl,0,none⟩)∧Hb wz bm (A:Int) (.pointer (some ⟨cb,0,none⟩))∧Hb wz bl (B:Int) (.pointer (some ⟨cb,0,none⟩))∧Below w4.heap.size w4 wz)
    case first=>
     refine wp_region_held_drew (S:=fun w'=>w'.cell? ⟨kb,0,none⟩=some (.int .i64 (A:Int))∧w'.cell? ⟨kb,1,none⟩=some (.int .i64 (B:Int))) (by kernel_rfl) ?_ (fun hHeld=> ?_)
     · (try dsimp only)
       (first|(go_simp;done)|(go_keep;done))
     refine tq 0 hHeld ?_
     refine tq 1 hHeld ?_
     refine tq 2 hHeld ?_
     refine tq 4 hHeld ?_
     refine tq 5 hHeld ?_
     refine tq 6 hHeld ?_
     refine wpAnyH_ready (rs:=[3,8,9]) (by kernel_rfl) (by simp) ?_
     refine AllReadyH.cons rfl (fun K hK=> ?_) (AllReadyH.cons rfl (fun K hK=> ?_) (AllReadyH.cons rfl (fun K hK=> ?_) AllReadyH.nil))
     · (go_simp
        (go_at_call 54;refine(handle_any cb A _).mono ?_;rintro e w3 ⟨rfl,hx⟩)
        replace hJ:=hJ.dr.on hx
        clear k0 k1 hx
        have k0:=hJ.k0
        have k1:=hJ.k1
        (try go_wp2_with fail)
        refine tr hK (fun hHeld=> ?_)
        clear hK K)
       refine wpAnyH_ready (rs:=[7,8,9]) (by kernel_rfl) (by simp) ?_
       refine AllReadyH.cons rfl (fun K hK=> ?_) (AllReadyH.cons rfl (fun K hK=> ?_) (AllReadyH.cons rfl (fun K hK=> ?_) AllReadyH.nil))
       · (go_simp
          (go_at_call 54;refine(handle_any cb B _).mono ?_;rintro e w7 ⟨rfl,hx⟩)
          replace hJ:=hJ.on hx
          clear k0 k1 hx
          have k0:=hJ.k0
          have k1:=hJ.k1
          (try go_wp2_with fail)
          refine tr hK (fun hHeld=> ?_)
          clear hK K)
         refine wpAnyH_ready (rs:=[8,9]) (by kernel_rfl) (by simp) ?_
         refine AllReadyH.cons rfl (fun K hK=> ?_) (AllReadyH.cons rfl (fun K hK=> ?_) AllReadyH.nil)
         · (go_simp
            replace hJ:=hJ.newM
            clear k0 k1
            generalize w7.alloc (Obj.cells #[.int .i64 0,.pointer none] 59)=w8 at hJ ⊢
            generalize w7.heap.size=bm at hJ ⊢
            have k0:=hJ.k0
            have k1:=hJ.k1
            refine tr hK (fun hHeld=> ?_)
            clear hK K)
           refine tc 9 fun K hK=> ?_
           (go_simp
            replace hJ:=hJ.newL
            clear k0 k1
            generalize w8.alloc (Obj.cells #[.int .i64 0,.pointer none] 59)=w9 at hJ ⊢
            generalize w8.heap.size=bl at hJ ⊢
            have k0:=hJ.k0
            have k1:=hJ.k1
            refine tr hK (fun hHeld=> ?_)
            clear hK K)
           refine tc 10 fun K hK=> ?_
           (have q0:=(hJ.m _ rfl).1.c0
            have q1:=(hJ.m _ rfl).1.c1
            have qf:=(hJ.m _ rfl).1.f
            go_simp
            replace hJ:=hJ.putM (A:Int) (.pointer (some ⟨cb,0,none⟩))
            clear k0 k1 q0 q1 qf
            generalize (w9.setCell ⟨bm,0,none⟩ (.int .i64 (A:Int))).setCell ⟨bm,1,none⟩ (.pointer (some ⟨cb,0,none⟩))=w10 at hJ ⊢
            have k0:=hJ.k0
            have k1:=hJ.k1
            refine tr hK (fun hHeld=> ?_)
            clear hK K)
           refine tc 11 fun K hK=> ?_
           (have q0:=(hJ.l _ rfl).1.c0
            have q1:=(hJ.l _ rfl).1.c1
            have qf:=(hJ.l _ rfl).1.f
            go_simp
            replace hJ:=hJ.putL (B:Int) (.pointer (some ⟨cb,0,none⟩))
            clear k0 k1 q0 q1 qf
            generalize (w10.setCell ⟨bl,0,none⟩ (.int .i64 (B:Int))).setCell ⟨bl,1,none⟩ (.pointer (some ⟨cb,0,none⟩))=w11 at hJ ⊢
            have k0:=hJ.k0
            have k1:=hJ.k1
            refine tr hK (fun hHeld=> ?_)
            clear hK K)
           refine wpAnyH_done (by kernel_rfl) ?_ _
           go_wp2_with fail
           go_meet
           exact⟨bm,bl,rfl,rfl,(hJ.m _ rfl).1,(hJ.l _ rfl).1,hJ.bel⟩
         · (go_simp
            replace hJ:=hJ.newL
            clear k0 k1
            generalize w7.alloc (Obj.cells #[.int .i64 0,.pointer none] 59)=w9 at hJ ⊢
            generalize w7.heap.size=bl at hJ ⊢
            have k0:=hJ.k0
            have k1:=hJ.k1
            refine tr hK (fun hHeld=> ?_)
            clear hK K)
           refine tc 8 fun K hK=> ?_
           (go_simp
            replace hJ:=hJ.newM
            clear k0 k1
            generalize w9.alloc (Obj.cells #[.int .i64 0,.pointer none] 59)=w8 at hJ ⊢
            generalize w9.heap.size=bm at hJ ⊢
            have k0:=hJ.k0
            have k1:=hJ.k1
            refine tr hK (fun hHeld=> ?_)
            clear hK K)
           refine tc 10 fun K hK=> ?_
           (have q0:=(hJ.m _ rfl).1.c0
            have q1:=(hJ.m _ rfl).1.c1
            have qf:=(hJ.m _ rfl).1.f
            go_simp
            replace hJ:=hJ.putM (A:Int) (.pointer (some ⟨cb,0,none⟩))
            clear k0 k1 q0 q1 qf
            generalize (w8.setCell ⟨bm,0,none⟩ (.int .i64 (A:Int))).setCell ⟨bm,1,none⟩ (.pointer (some ⟨cb,0,none⟩))=w10 at hJ ⊢
            have k0:=hJ.k0
            have k1:=hJ.k1
            refine tr hK (fun hHeld=> ?_)
            clear hK K)
           refine tc 11 fun K hK=> ?_
           (have q0:=(hJ.l _ rfl).1.c0
            have q1:=(hJ.l _ rfl).1.c1
            have qf:=(hJ.l _ rfl).1.f
            go_simp
            replace hJ:=hJ.putL (B:Int) (.pointer (some ⟨cb,0,none⟩))
            clear k0 k1 q0 q1 qf
            generalize (w10.setCell ⟨bl,0,none⟩ (.int .i64 (B:Int))).setCell ⟨bl,1,none⟩ (.pointer (some ⟨cb,0,none⟩))=w11 at hJ ⊢
            have k0:=hJ.k0
            have k1:=hJ.k1
            refine tr hK (fun hHeld=> ?_)
            clear hK K)
           refine wpAnyH_done (by kernel_rfl) ?_ _
           go_wp2_with fail
           go_meet
           exact⟨bm,bl,rfl,rfl,(hJ.m _ rfl).1,(hJ.l _ rfl).1,hJ.bel⟩
       · (go_simp
          replace hJ:=hJ.newM
          clear k0 k1
          generalize w3.alloc (Obj.cells #[.int .i64 0,.pointer none] 59)=w8 at hJ ⊢
          generalize w3.heap.size=bm at hJ ⊢
          have k0:=hJ.k0
          have k1:=hJ.k1
          refine tr hK (fun hHeld=> ?_)
          clear hK K)
         refine wpAnyH_ready (rs:=[7,9]) (by kernel_rfl) (by simp) ?_
         refine AllReadyH.cons rfl (fun K hK=> ?_) (AllReadyH.cons rfl (fun K hK=> ?_) AllReadyH.nil)
         · (go_simp
            (go_at_call 54;refine(handle_any cb B _).mono ?_;rintro e w7 ⟨rfl,hx⟩)
            replace hJ:=hJ.on hx
            clear k0 k1 hx
            have k0:=hJ.k0
            have k1:=hJ.k1
            (try go_wp2_with fail)
            refine tr hK (fun hHeld=> ?_)
            clear hK K)
           refine tc 9 fun K hK=> ?_
           (go_simp
            replace hJ:=hJ.newL
            clear k0 k1
            generalize w7.alloc (Obj.cells #[.int .i64 0,.pointer none] 59)=w9 at hJ ⊢
            generalize w7.heap.size=bl at hJ ⊢
            have k0:=hJ.k0
            have k1:=hJ.k1
            refine tr hK (fun hHeld=> ?_)
            clear hK K)
           refine tc 10 fun K hK=> ?_
           (have q0:=(hJ.m _ rfl).1.c0
            have q1:=(hJ.m _ rfl).1.c1
            have qf:=(hJ.m _ rfl).1.f
            go_simp
            replace hJ:=hJ.putM (A:Int) (.pointer (some ⟨cb,0,none⟩))
            clear k0 k1 q0 q1 qf
            generalize (w9.setCell ⟨bm,0,none⟩ (.int .i64 (A:Int))).setCell ⟨bm,1,none⟩ (.pointer (some ⟨cb,0,none⟩))=w10 at hJ ⊢
            have k0:=hJ.k0
            have k1:=hJ.k1
            refine tr hK (fun hHeld=> ?_)
            clear hK K)
           refine tc 11 fun K hK=> ?_
           (have q0:=(hJ.l _ rfl).1.c0
            have q1:=(hJ.l _ rfl).1.c1
            have qf:=(hJ.l _ rfl).1.f
            go_simp
            replace hJ:=hJ.putL (B:Int) (.pointer (some ⟨cb,0,none⟩))
            clear k0 k1 q0 q1 qf
            generalize (w10.setCell ⟨bl,0,none⟩ (.int .i64 (B:Int))).setCell ⟨bl,1,none⟩ (.pointer (some ⟨cb,0,none⟩))=w11 at hJ ⊢
            have k0:=hJ.k0
            have k1:=hJ.k1
            refine tr hK (fun hHeld=> ?_)
            clear hK K)
           refine wpAnyH_done (by kernel_rfl) ?_ _
           go_wp2_with fail
           go_meet
           exact⟨bm,bl,rfl,rfl,(hJ.m _ rfl).1,(hJ.l _ rfl).1,hJ.bel⟩
         · (go_simp
            replace hJ:=hJ.newL
            clear k0 k1
            generalize w8.alloc (Obj.cells #[.int .i64 0,.pointer none] 59)=w9 at hJ ⊢
            generalize w8.heap.size=bl at hJ ⊢
            have k0:=hJ.k0
            have k1:=hJ.k1
            refine tr hK (fun hHeld=> ?_)
            clear hK K)
           refine tc 7 fun K hK=> ?_
           (go_simp
            (go_at_call 54;refine(handle_any cb B _).mono ?_;rintro e w7 ⟨rfl,hx⟩)
            replace hJ:=hJ.on hx
            clear k0 k1 hx
            have k0:=hJ.k0
            have k1:=hJ.k1
            (try go_wp2_with fail)
            refine tr hK (fun hHeld=> ?_)
            clear hK K)
           refine tc 10 fun K hK=> ?_
           (have q0:=(hJ.m _ rfl).1.c0
            have q1:=(hJ.m _ rfl).1.c1
            have qf:=(hJ.m _ rfl).1.f
            go_simp
            replace hJ:=hJ.putM (A:Int) (.pointer (some ⟨cb,0,none⟩))
            clear k0 k1 q0 q1 qf
            generalize (w7.setCell ⟨bm,0,none⟩ (.int .i64 (A:Int))).setCell ⟨bm,1,none⟩ (.pointer (some ⟨cb,0,none⟩))=w10 at hJ ⊢
            have k0:=hJ.k0
            have k1:=hJ.k1
            refine tr hK (fun hHeld=> ?_)
            clear hK K)
           refine tc 11 fun K hK=> ?_
           (have q0:=(hJ.l _ rfl).1.c0
            have q1:=(hJ.l _ rfl).1.c1
            have qf:=(hJ.l _ rfl).1.f
            go_simp
            replace hJ:=hJ.putL (B:Int) (.pointer (some ⟨cb,0,none⟩))
            clear k0 k1 q0 q1 qf
            generalize (w10.setCell ⟨bl,0,none⟩ (.int .i64 (B:Int))).setCell ⟨bl,1,none⟩ (.pointer (some ⟨cb,0,none⟩))=w11 at hJ ⊢
            have k0:=hJ.k0
            have k1:=hJ.k1
            refine tr hK (fun hHeld=> ?_)
            clear hK K)
           refine wpAnyH_done (by kernel_rfl) ?_ _
           go_wp2_with fail
           go_meet
           exact⟨bm,bl,rfl,rfl,(hJ.m _ rfl).1,(hJ.l _ rfl).1,hJ.bel⟩
       · (go_simp
          replace hJ:=hJ.newL
          clear k0 k1
          generalize w3.alloc (Obj.cells #[.int .i64 0,.pointer none] 59)=w9 at hJ ⊢
          generalize w3.heap.size=bl at hJ ⊢
          have k0:=hJ.k0
          have k1:=hJ.k1
          refine tr hK (fun hHeld=> ?_)
          clear hK K)
         refine wpAnyH_ready (rs:=[7,8]) (by kernel_rfl) (by simp) ?_
         refine AllReadyH.cons rfl (fun K hK=> ?_) (AllReadyH.cons rfl (fun K hK=> ?_) AllReadyH.nil)
         · (go_simp
            (go_at_call 54;refine(handle_any cb B _).mono ?_;rintro e w7 ⟨rfl,hx⟩)
            replace hJ:=hJ.on hx
            clear k0 k1 hx
            have k0:=hJ.k0
            have k1:=hJ.k1
            (try go_wp2_with fail)
            refine tr hK (fun hHeld=> ?_)
            clear hK K)
           refine tc 8 fun K hK=> ?_
           (go_simp
            replace hJ:=hJ.newM
            clear k0 k1
            generalize w7.alloc (Obj.cells #[.int .i64 0,.pointer none] 59)=w8 at hJ ⊢
            generalize w7.heap.size=bm at hJ ⊢
            have k0:=hJ.k0
            have k1:=hJ.k1
            refine tr hK (fun hHeld=> ?_)
            clear hK K)
           refine tc 10 fun K hK=> ?_
           (have q0:=(hJ.m _ rfl).1.c0
            have q1:=(hJ.m _ rfl).1.c1
            have qf:=(hJ.m _ rfl).1.f
            go_simp
            replace hJ:=hJ.putM (A:Int) (.pointer (some ⟨cb,0,none⟩))
            clear k0 k1 q0 q1 qf
            generalize (w8.setCell ⟨bm,0,none⟩ (.int .i64 (A:Int))).setCell ⟨bm,1,none⟩ (.pointer (some ⟨cb,0,none⟩))=w10 at hJ ⊢
            have k0:=hJ.k0
            have k1:=hJ.k1
            refine tr hK (fun hHeld=> ?_)
            clear hK K)
           refine tc 11 fun K hK=> ?_
           (have q0:=(hJ.l _ rfl).1.c0
            have q1:=(hJ.l _ rfl).1.c1
            have qf:=(hJ.l _ rfl).1.f
            go_simp
            replace hJ:=hJ.putL (B:Int) (.pointer (some ⟨cb,0,none⟩))
            clear k0 k1 q0 q1 qf
            generalize (w10.setCell ⟨bl,0,none⟩ (.int .i64 (B:Int))).setCell ⟨bl,1,none⟩ (.pointer (some ⟨cb,0,none⟩))=w11 at hJ ⊢
            have k0:=hJ.k0
            have k1:=hJ.k1
            refine tr hK (fun hHeld=> ?_)
            clear hK K)
           refine wpAnyH_done (by kernel_rfl) ?_ _
           go_wp2_with fail
           go_meet
           exact⟨bm,bl,rfl,rfl,(hJ.m _ rfl).1,(hJ.l _ rfl).1,hJ.bel⟩
         · (go_simp
            replace hJ:=hJ.newM
            clear k0 k1
            generalize w9.alloc (Obj.cells #[.int .i64 0,.pointer none] 59)=w8 at hJ ⊢
            generalize w9.heap.size=bm at hJ ⊢
            have k0:=hJ.k0
            have k1:=hJ.k1
            refine tr hK (fun hHeld=> ?_)
            clear hK K)
           refine tc 7 fun K hK=> ?_
           (go_simp
            (go_at_call 54;refine(handle_any cb B _).mono ?_;rintro e w7 ⟨rfl,hx⟩)
            replace hJ:=hJ.on hx
            clear k0 k1 hx
            have k0:=hJ.k0
            have k1:=hJ.k1
            (try go_wp2_with fail)
            refine tr hK (fun hHeld=> ?_)
            clear hK K)
           refine tc 10 fun K hK=> ?_
           (have q0:=(hJ.m _ rfl).1.c0
            have q1:=(hJ.m _ rfl).1.c1
            have qf:=(hJ.m _ rfl).1.f
            go_simp
            replace hJ:=hJ.putM (A:Int) (.pointer (some ⟨cb,0,none⟩))
            clear k0 k1 q0 q1 qf
            generalize (w7.setCell ⟨bm,0,none⟩ (.int .i64 (A:Int))).setCell ⟨bm,1,none⟩ (.pointer (some ⟨cb,0,none⟩))=w10 at hJ ⊢
            have k0:=hJ.k0
            have k1:=hJ.k1
            refine tr hK (fun hHeld=> ?_)
            clear hK K)
           refine tc 11 fun K hK=> ?_
           (have q0:=(hJ.l _ rfl).1.c0
            have q1:=(hJ.l _ rfl).1.c1
            have qf:=(hJ.l _ rfl).1.f
            go_simp
            replace hJ:=hJ.putL (B:Int) (.pointer (some ⟨cb,0,none⟩))
            clear k0 k1 q0 q1 qf
            generalize (w10.setCell ⟨bl,0,none⟩ (.int .i64 (B:Int))).setCell ⟨bl,1,none⟩ (.pointer (some ⟨cb,0,none⟩))=w11 at hJ ⊢
            have k0:=hJ.k0
            have k1:=hJ.k1
            refine tr hK (fun hHeld=> ?_)
            clear hK K)
           refine wpAnyH_done (by kernel_rfl) ?_ _
           go_wp2_with fail
           go_meet
           exact⟨bm,bl,rfl,rfl,(hJ.m _ rfl).1,(hJ.l _ rfl).1,hJ.bel⟩
     · (go_simp
        replace hJ:=hJ.newM.dr
        clear k0 k1
        generalize (w4.alloc (Obj.cells #[.int .i64 0,.pointer none] 59)).drew=w8 at hJ ⊢
        generalize w4.heap.size=bm at hJ ⊢
        have k0:=hJ.k0
        have k1:=hJ.k1
        refine tr hK (fun hHeld=> ?_)
        clear hK K)
       refine wpAnyH_ready (rs:=[3,9]) (by kernel_rfl) (by simp) ?_
       refine AllReadyH.cons rfl (fun K hK=> ?_) (AllReadyH.cons rfl (fun K hK=> ?_) AllReadyH.nil)
       · (go_simp
          (go_at_call 54;refine(handle_any cb A _).mono ?_;rintro e w3 ⟨rfl,hx⟩)
          replace hJ:=hJ.on hx
          clear k0 k1 hx
          have k0:=hJ.k0
          have k1:=hJ.k1
          (try go_wp2_with fail)
          refine tr hK (fun hHeld=> ?_)
          clear hK K)
         refine wpAnyH_ready (rs:=[7,9]) (by kernel_rfl) (by simp) ?_
         refine AllReadyH.cons rfl (fun K hK=> ?_) (AllReadyH.cons rfl (fun K hK=> ?_) AllReadyH.nil)
         · (go_simp
            (go_at_call 54;refine(handle_any cb B _).mono ?_;rintro e w7 ⟨rfl,hx⟩)
            replace hJ:=hJ.on hx
            clear k0 k1 hx
            have k0:=hJ.k0
            have k1:=hJ.k1
            (try go_wp2_with fail)
            refine tr hK (fun hHeld=> ?_)
            clear hK K)
           refine tc 9 fun K hK=> ?_
           (go_simp
            replace hJ:=hJ.newL
            clear k0 k1
            generalize w7.alloc (Obj.cells #[.int .i64 0,.pointer none] 59)=w9 at hJ ⊢
            generalize w7.heap.size=bl at hJ ⊢
            have k0:=hJ.k0
            have k1:=hJ.k1
            refine tr hK (fun hHeld=> ?_)
            clear hK K)
           refine tc 10 fun K hK=> ?_
           (have q0:=(hJ.m _ rfl).1.c0
            have q1:=(hJ.m _ rfl).1.c1
            have qf:=(hJ.m _ rfl).1.f
            go_simp
            replace hJ:=hJ.putM (A:Int) (.pointer (some ⟨cb,0,none⟩))
            clear k0 k1 q0 q1 qf
            generalize (w9.setCell ⟨bm,0,none⟩ (.int .i64 (A:Int))).setCell ⟨bm,1,none⟩ (.pointer (some ⟨cb,0,none⟩))=w10 at hJ ⊢
            have k0:=hJ.k0
            have k1:=hJ.k1
            refine tr hK (fun hHeld=> ?_)
            clear hK K)
           refine tc 11 fun K hK=> ?_
           (have q0:=(hJ.l _ rfl).1.c0
            have q1:=(hJ.l _ rfl).1.c1
            have qf:=(hJ.l _ rfl).1.f
            go_simp
            replace hJ:=hJ.putL (B:Int) (.pointer (some ⟨cb,0,none⟩))
            clear k0 k1 q0 q1 qf
            generalize (w10.setCell ⟨bl,0,none⟩ (.int .i64 (B:Int))).setCell ⟨bl,1,none⟩ (.pointer (some ⟨cb,0,none⟩))=w11 at hJ ⊢
            have k0:=hJ.k0
            have k1:=hJ.k1
            refine tr hK (fun hHeld=> ?_)
            clear hK K)
           refine wpAnyH_done (by kernel_rfl) ?_ _
           go_wp2_with fail
           go_meet
           exact⟨bm,bl,rfl,rfl,(hJ.m _ rfl).1,(hJ.l _ rfl).1,hJ.bel⟩
         · (go_simp
            replace hJ:=hJ.newL
            clear k0 k1
            generalize w3.alloc (Obj.cells #[.int .i64 0,.pointer none] 59)=w9 at hJ ⊢
            generalize w3.heap.size=bl at hJ ⊢
            have k0:=hJ.k0
            have k1:=hJ.k1
            refine tr hK (fun hHeld=> ?_)
            clear hK K)
           refine tc 7 fun K hK=> ?_
           (go_simp
            (go_at_call 54;refine(handle_any cb B _).mono ?_;rintro e w7 ⟨rfl,hx⟩)
            replace hJ:=hJ.on hx
            clear k0 k1 hx
            have k0:=hJ.k0
            have k1:=hJ.k1
            (try go_wp2_with fail)
            refine tr hK (fun hHeld=> ?_)
            clear hK K)
           refine tc 10 fun K hK=> ?_
           (have q0:=(hJ.m _ rfl).1.c0
            have q1:=(hJ.m _ rfl).1.c1
            have qf:=(hJ.m _ rfl).1.f
            go_simp
            replace hJ:=hJ.putM (A:Int) (.pointer (some ⟨cb,0,none⟩))
            clear k0 k1 q0 q1 qf
            generalize (w7.setCell ⟨bm,0,none⟩ (.int .i64 (A:Int))).setCell ⟨bm,1,none⟩ (.pointer (some ⟨cb,0,none⟩))=w10 at hJ ⊢
            have k0:=hJ.k0
            have k1:=hJ.k1
            refine tr hK (fun hHeld=> ?_)
            clear hK K)
           refine tc 11 fun K hK=> ?_
           (have q0:=(hJ.l _ rfl).1.c0
            have q1:=(hJ.l _ rfl).1.c1
            have qf:=(hJ.l _ rfl).1.f
            go_simp
            replace hJ:=hJ.putL (B:Int) (.pointer (some ⟨cb,0,none⟩))
            clear k0 k1 q0 q1 qf
            generalize (w10.setCell ⟨bl,0,none⟩ (.int .i64 (B:Int))).setCell ⟨bl,1,none⟩ (.pointer (some ⟨cb,0,none⟩))=w11 at hJ ⊢
            have k0:=hJ.k0
            have k1:=hJ.k1
            refine tr hK (fun hHeld=> ?_)
            clear hK K)
           refine wpAnyH_done (by kernel_rfl) ?_ _
           go_wp2_with fail
           go_meet
           exact⟨bm,bl,rfl,rfl,(hJ.m _ rfl).1,(hJ.l _ rfl).1,hJ.bel⟩
       · (go_simp
          replace hJ:=hJ.newL
          clear k0 k1
          generalize w8.alloc (Obj.cells #[.int .i64 0,.pointer none] 59)=w9 at hJ ⊢
          generalize w8.heap.size=bl at hJ ⊢
          have k0:=hJ.k0
          have k1:=hJ.k1
          refine tr hK (fun hHeld=> ?_)
          clear hK K)
         refine tc 3 fun K hK=> ?_
         (go_simp
          (go_at_call 54;refine(handle_any cb A _).mono ?_;rintro e w3 ⟨rfl,hx⟩)
          replace hJ:=hJ.on hx
          clear k0 k1 hx
          have k0:=hJ.k0
          have k1:=hJ.k1
          (try go_wp2_with fail)
          refine tr hK (fun hHeld=> ?_)
          clear hK K)
         refine tc 7 fun K hK=> ?_
         (go_simp
          (go_at_call 54;refine(handle_any cb B _).mono ?_;rintro e w7 ⟨rfl,hx⟩)
          replace hJ:=hJ.on hx
          clear k0 k1 hx
          have k0:=hJ.k0
          have k1:=hJ.k1
          (try go_wp2_with fail)
          refine tr hK (fun hHeld=> ?_)
          clear hK K)
         refine tc 10 fun K hK=> ?_
         (have q0:=(hJ.m _ rfl).1.c0
          have q1:=(hJ.m _ rfl).1.c1
          have qf:=(hJ.m _ rfl).1.f
          go_simp
          replace hJ:=hJ.putM (A:Int) (.pointer (some ⟨cb,0,none⟩))
          clear k0 k1 q0 q1 qf
          generalize (w7.setCell ⟨bm,0,none⟩ (.int .i64 (A:Int))).setCell ⟨bm,1,none⟩ (.pointer (some ⟨cb,0,none⟩))=w10 at hJ ⊢
          have k0:=hJ.k0
          have k1:=hJ.k1
          refine tr hK (fun hHeld=> ?_)
          clear hK K)
         refine tc 11 fun K hK=> ?_
         (have q0:=(hJ.l _ rfl).1.c0
          have q1:=(hJ.l _ rfl).1.c1
          have qf:=(hJ.l _ rfl).1.f
          go_simp
          replace hJ:=hJ.putL (B:Int) (.pointer (some ⟨cb,0,none⟩))
          clear k0 k1 q0 q1 qf
          generalize (w10.setCell ⟨bl,0,none⟩ (.int .i64 (B:Int))).setCell ⟨bl,1,none⟩ (.pointer (some ⟨cb,0,none⟩))=w11 at hJ ⊢
          have k0:=hJ.k0
          have k1:=hJ.k1
          refine tr hK (fun hHeld=> ?_)
          clear hK K)
         refine wpAnyH_done (by kernel_rfl) ?_ _
         go_wp2_with fail
         go_meet
         exact⟨bm,bl,rfl,rfl,(hJ.m _ rfl).1,(hJ.l _ rfl).1,hJ.bel⟩
     · (go_simp
        replace hJ:=hJ.newL.dr
        clear k0 k1
        generalize (w4.alloc (Obj.cells #[.int .i64 0,.pointer none] 59)).drew=w9 at hJ ⊢
        generalize w4.heap.size=bl at hJ ⊢
        have k0:=hJ.k0
        have k1:=hJ.k1
        refine tr hK (fun hHeld=> ?_)
        clear hK K)
       refine wpAnyH_ready (rs:=[3,8]) (by kernel_rfl) (by simp) ?_
       refine AllReadyH.cons rfl (fun K hK=> ?_) (AllReadyH.cons rfl (fun K hK=> ?_) AllReadyH.nil)
       · (go_simp
          (go_at_call 54;refine(handle_any cb A _).mono ?_;rintro e w3 ⟨rfl,hx⟩)
          replace hJ:=hJ.on hx
          clear k0 k1 hx
          have k0:=hJ.k0
          have k1:=hJ.k1
          (try go_wp2_with fail)
          refine tr hK (fun hHeld=> ?_)
          clear hK K)
         refine wpAnyH_ready (rs:=[7,8]) (by kernel_rfl) (by simp) ?_
         refine AllReadyH.cons rfl (fun K hK=> ?_) (AllReadyH.cons rfl (fun K hK=> ?_) AllReadyH.nil)
         · (go_simp
            (go_at_call 54;refine(handle_any cb B _).mono ?_;rintro e w7 ⟨rfl,hx⟩)
            replace hJ:=hJ.on hx
            clear k0 k1 hx
            have k0:=hJ.k0
            have k1:=hJ.k1
            (try go_wp2_with fail)
            refine tr hK (fun hHeld=> ?_)
            clear hK K)
           refine tc 8 fun K hK=> ?_
           (go_simp
            replace hJ:=hJ.newM
            clear k0 k1
            generalize w7.alloc (Obj.cells #[.int .i64 0,.pointer none] 59)=w8 at hJ ⊢
            generalize w7.heap.size=bm at hJ ⊢
            have k0:=hJ.k0
            have k1:=hJ.k1
            refine tr hK (fun hHeld=> ?_)
            clear hK K)
           refine tc 10 fun K hK=> ?_
           (have q0:=(hJ.m _ rfl).1.c0
            have q1:=(hJ.m _ rfl).1.c1
            have qf:=(hJ.m _ rfl).1.f
            go_simp
            replace hJ:=hJ.putM (A:Int) (.pointer (some ⟨cb,0,none⟩))
            clear k0 k1 q0 q1 qf
            generalize (w8.setCell ⟨bm,0,none⟩ (.int .i64 (A:Int))).setCell ⟨bm,1,none⟩ (.pointer (some ⟨cb,0,none⟩))=w10 at hJ ⊢
            have k0:=hJ.k0
            have k1:=hJ.k1
            refine tr hK (fun hHeld=> ?_)
            clear hK K)
           refine tc 11 fun K hK=> ?_
           (have q0:=(hJ.l _ rfl).1.c0
            have q1:=(hJ.l _ rfl).1.c1
            have qf:=(hJ.l _ rfl).1.f
            go_simp
            replace hJ:=hJ.putL (B:Int) (.pointer (some ⟨cb,0,none⟩))
            clear k0 k1 q0 q1 qf
            generalize (w10.setCell ⟨bl,0,none⟩ (.int .i64 (B:Int))).setCell ⟨bl,1,none⟩ (.pointer (some ⟨cb,0,none⟩))=w11 at hJ ⊢
            have k0:=hJ.k0
            have k1:=hJ.k1
            refine tr hK (fun hHeld=> ?_)
            clear hK K)
           refine wpAnyH_done (by kernel_rfl) ?_ _
           go_wp2_with fail
           go_meet
           exact⟨bm,bl,rfl,rfl,(hJ.m _ rfl).1,(hJ.l _ rfl).1,hJ.bel⟩
         · (go_simp
            replace hJ:=hJ.newM
            clear k0 k1
            generalize w3.alloc (Obj.cells #[.int .i64 0,.pointer none] 59)=w8 at hJ ⊢
            generalize w3.heap.size=bm at hJ ⊢
            have k0:=hJ.k0
            have k1:=hJ.k1
            refine tr hK (fun hHeld=> ?_)
            clear hK K)
           refine tc 7 fun K hK=> ?_
           (go_simp
            (go_at_call 54;refine(handle_any cb B _).mono ?_;rintro e w7 ⟨rfl,hx⟩)
            replace hJ:=hJ.on hx
            clear k0 k1 hx
            have k0:=hJ.k0
            have k1:=hJ.k1
            (try go_wp2_with fail)
            refine tr hK (fun hHeld=> ?_)
            clear hK K)
           refine tc 10 fun K hK=> ?_
           (have q0:=(hJ.m _ rfl).1.c0
            have q1:=(hJ.m _ rfl).1.c1
            have qf:=(hJ.m _ rfl).1.f
            go_simp
            replace hJ:=hJ.putM (A:Int) (.pointer (some ⟨cb,0,none⟩))
            clear k0 k1 q0 q1 qf
            generalize (w7.setCell ⟨bm,0,none⟩ (.int .i64 (A:Int))).setCell ⟨bm,1,none⟩ (.pointer (some ⟨cb,0,none⟩))=w10 at hJ ⊢
            have k0:=hJ.k0
            have k1:=hJ.k1
            refine tr hK (fun hHeld=> ?_)
            clear hK K)
           refine tc 11 fun K hK=> ?_
           (have q0:=(hJ.l _ rfl).1.c0
            have q1:=(hJ.l _ rfl).1.c1
            have qf:=(hJ.l _ rfl).1.f
            go_simp
            replace hJ:=hJ.putL (B:Int) (.pointer (some ⟨cb,0,none⟩))
            clear k0 k1 q0 q1 qf
            generalize (w10.setCell ⟨bl,0,none⟩ (.int .i64 (B:Int))).setCell ⟨bl,1,none⟩ (.pointer (some ⟨cb,0,none⟩))=w11 at hJ ⊢
            have k0:=hJ.k0
            have k1:=hJ.k1
            refine tr hK (fun hHeld=> ?_)
            clear hK K)
           refine wpAnyH_done (by kernel_rfl) ?_ _
           go_wp2_with fail
           go_meet
           exact⟨bm,bl,rfl,rfl,(hJ.m _ rfl).1,(hJ.l _ rfl).1,hJ.bel⟩
       · (go_simp
          replace hJ:=hJ.newM
          clear k0 k1
          generalize w9.alloc (Obj.cells #[.int .i64 0,.pointer none] 59)=w8 at hJ ⊢
          generalize w9.heap.size=bm at hJ ⊢
          have k0:=hJ.k0
          have k1:=hJ.k1
          refine tr hK (fun hHeld=> ?_)
          clear hK K)
         refine tc 3 fun K hK=> ?_
         (go_simp
          (go_at_call 54;refine(handle_any cb A _).mono ?_;rintro e w3 ⟨rfl,hx⟩)
          replace hJ:=hJ.on hx
          clear k0 k1 hx
          have k0:=hJ.k0
          have k1:=hJ.k1
          (try go_wp2_with fail)
          refine tr hK (fun hHeld=> ?_)
          clear hK K)
         refine tc 7 fun K hK=> ?_
         (go_simp
          (go_at_call 54;refine(handle_any cb B _).mono ?_;rintro e w7 ⟨rfl,hx⟩)
          replace hJ:=hJ.on hx
          clear k0 k1 hx
          have k0:=hJ.k0
          have k1:=hJ.k1
          (try go_wp2_with fail)
          refine tr hK (fun hHeld=> ?_)
          clear hK K)
         refine tc 10 fun K hK=> ?_
         (have q0:=(hJ.m _ rfl).1.c0
          have q1:=(hJ.m _ rfl).1.c1
          have qf:=(hJ.m _ rfl).1.f
          go_simp
          replace hJ:=hJ.putM (A:Int) (.pointer (some ⟨cb,0,none⟩))
          clear k0 k1 q0 q1 qf
          generalize (w7.setCell ⟨bm,0,none⟩ (.int .i64 (A:Int))).setCell ⟨bm,1,none⟩ (.pointer (some ⟨cb,0,none⟩))=w10 at hJ ⊢
          have k0:=hJ.k0
          have k1:=hJ.k1
          refine tr hK (fun hHeld=> ?_)
          clear hK K)
         refine tc 11 fun K hK=> ?_
         (have q0:=(hJ.l _ rfl).1.c0
          have q1:=(hJ.l _ rfl).1.c1
          have qf:=(hJ.l _ rfl).1.f
          go_simp
          replace hJ:=hJ.putL (B:Int) (.pointer (some ⟨cb,0,none⟩))
          clear k0 k1 q0 q1 qf
          generalize (w10.setCell ⟨bl,0,none⟩ (.int .i64 (B:Int))).setCell ⟨bl,1,none⟩ (.pointer (some ⟨cb,0,none⟩))=w11 at hJ ⊢
          have k0:=hJ.k0
          have k1:=hJ.k1
          refine tr hK (fun hHeld=> ?_)
          clear hK K)
         refine wpAnyH_done (by kernel_rfl) ?_ _
         go_wp2_with fail
         go_meet
         exact⟨bm,bl,rfl,rfl,(hJ.m _ rfl).1,(hJ.l _ rfl).1,hJ.bel⟩
    case rest=>
    clear k0 k1 hJ
    obtain⟨bm,bl,rfl,rfl,hm,hl,hb⟩:=hcut
    have hCz:=hC4.below hb
    have hUz:=hU4.on hb
    have hFz:=hF4.trans (Fr.of_below hb)
    clear hC4 hU4 hF4 hb
    have m0:=hm.c0
    have m1:=hm.c1
    have mf:=hm.f
    have l0:=hl.c0
    have l1:=hl.c1
    have lf:=hl.f
    obtain⟨fa,hfa⟩:∃ b,decide (colOf U 8 A=0)=b:=⟨_,rfl⟩
    obtain⟨fb,hfb⟩:∃ b,decide (colOf U 8 B=0)=b:=⟨_,rfl⟩
    have hfa':Shut (decide (U (A*12+8)=0)=fa):=hfa
    have hfb':Shut (decide (U (B*12+8)=0)=fb):=hfb
    cases fa with
    | true=>
      have HN:Shut (edg U C k=none):=by
       have e:=of_decide_eq_true hfa'.out
       rw[HL.out,if_neg (fun q=>q.1 e)]
       rfl
      go_wp2_with (go_at_call 51;refine(kFixed_q (Cs.hat hCz hAn (by omega)) hfa).mono ?_;rintro e w11 ⟨rfl,hx1⟩;have hx1':Below wc.heap.size wc w11:=hx1;have n0:=(hm.on hx1').c0;have n1:=(hm.on hx1').c1;have nf:=(hm.on hx1').f;have j0:=(hl.on hx1').c0;have j1:=(hl.on hx1').c1;have jf:=(hl.on hx1').f)
      go_roundw
      case rel=>exact⟨k+1,G,by omega,by go_num,hUz.on hx1',fun j=>by rw[hG.out j,lab,HN.out];rfl,hFz.trans (Fr.of_below hx1')⟩
      case measure=>simp[intOf];omega
    | false=>
      cases fb with
      | true=>
        have HN:Shut (edg U C k=none):=by
         have e:=of_decide_eq_true hfb'.out
         rw[HL.out,if_neg (fun q=>q.2 e)]
         rfl
        go_wp2_with (first|(have _:=hx1';go_at_call 51;refine(kFixed_q (Cs.hat (hCz.below hx1') hBn (by omega)) hfb).mono ?_;rintro e w12 ⟨rfl,hx2⟩;have hx2':Below wc.heap.size wc w12:=hx1'.trans (hx2.mono hx1'.size);have o0:=(hm.on hx2').c0;have o1:=(hm.on hx2').c1;have of:=(hm.on hx2').f;have p0:=(hl.on hx2').c0;have p1:=(hl.on hx2').c1;have pf:=(hl.on hx2').f)|(go_at_call 51;refine(kFixed_q (Cs.hat hCz hAn (by omega)) hfa).mono ?_;rintro e w11 ⟨rfl,hx1⟩;have hx1':Below wc.heap.size wc w11:=hx1;have n0:=(hm.on hx1').c0;have n1:=(hm.on hx1').c1;have nf:=(hm.on hx1').f;have j0:=(hl.on hx1').c0;have j1:=(hl.on hx1').c1;have jf:=(hl.on hx1').f))
        go_roundw
        case rel=>exact⟨k+1,G,by omega,by go_num,hUz.on hx2',fun j=>by rw[hG.out j,lab,HN.out];rfl,hFz.trans (Fr.of_below hx2')⟩
        case measure=>simp[intOf];omega
      | false=>
        have HN:Shut (edg U C k=some (A,B)):=by
         have e:=of_decide_eq_false hfa'.out
         have e':=of_decide_eq_false hfb'.out
         rw[HL.out,if_pos ⟨e,e'⟩]
         rfl
        go_wp2_with (first|(go_at_call 167;refine(join_q ub g n n A B G _ (hUz.on hx2') hAn hBn).mono ?_;rintro e w13 ⟨rfl,⟨G2,hU2,hG2⟩,hF2⟩)|(have _:=hx1';go_at_call 51;refine(kFixed_q (Cs.hat (hCz.below hx1') hBn (by omega)) hfb).mono ?_;rintro e w12 ⟨rfl,hx2⟩;have hx2':Below wc.heap.size wc w12:=hx1'.trans (hx2.mono hx1'.size);have o0:=(hm.on hx2').c0;have o1:=(hm.on hx2').c1;have of:=(hm.on hx2').f;have p0:=(hl.on hx2').c0;have p1:=(hl.on hx2').c1;have pf:=(hl.on hx2').f)|(go_at_call 51;refine(kFixed_q (Cs.hat hCz hAn (by omega)) hfa).mono ?_;rintro e w11 ⟨rfl,hx1⟩;have hx1':Below wc.heap.size wc w11:=hx1;have n0:=(hm.on hx1').c0;have n1:=(hm.on hx1').c1;have nf:=(hm.on hx1').f;have j0:=(hl.on hx1').c0;have j1:=(hl.on hx1').c1;have jf:=(hl.on hx1').f))
        go_roundw
        case rel=>exact⟨k+1,G2,by omega,by go_num,hU2,fun j=>by rw[hG2 j,hG.out j,hG.out A,hG.out B,lab,HN.out];rfl,(hFz.trans (Fr.of_below hx2')).trans hF2⟩
        case measure=>simp[intOf];omega
  · obtain rfl:k=m2:=by omega
    go_wp2_with fail
    go_ret
    exact⟨_,_,G,rfl,⟨hg1,hg2⟩,hU,hG.out,hBr⟩
end Go.Proofs.YthajilkjfkppoaaGreatDoor
