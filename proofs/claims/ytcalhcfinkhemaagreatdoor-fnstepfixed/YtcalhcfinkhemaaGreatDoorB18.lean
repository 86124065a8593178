/- Texts of a proof. -/
import Derived.Test.YtcalhcfinkhemaaGreatDoorB1
import Derived.Test.YtcalhcfinkhemaaGreatDoorB5
import Derived.Test.YtcalhcfinkhemaaGreatDoorB4
import Derived.Test.YtcalhcfinkhemaaGreatDoorB7
import Derived.Deep.RegionHeld3
import Derived.Deep.DeepCutAuto
import Derived.Test.YtcalhcfinkhemaaGreatDoorB14
import Derived.OrdersHeld
set_option maxHeartbeats 16000000
set_option maxRecDepth 20000
namespace Go.Proofs.YtcalhcfinkhemaaGreatDoor
open Go.RowKit
set_option linter.unusedVariables false
set_option linter.unusedSimpArgs false
def hitB (x y k:Int):Bool:=inB 256 x y&&decide (0≤k∧k≤102400)
theorem run_eq_vec (n d:Nat) (hn:n=d+1) (a b x y:Int) (w:World):(Op.equalIn (n+1) 31 (.agg #[.int .i64 a,.int .i64 b]) (.agg #[.int .i64 x,.int .i64 y])).run Tryz.prog w= .ok (a==x&&b==y) w:=by
 have hi:Tryz.prog.underlying 3=some (.int .i64):=by kernel_rfl
 have hs:Tryz.prog.stoodInHeld 31=false:=by kernel_rfl
 have hp:∀ w,(program).run Tryz.prog w= .ok Tryz.prog w:=fun w=>by rfl
 have p0:∀ (a b:Int) w,(part 3 #[.int .i64 a,.int .i64 b] 0).run Tryz.prog w= .ok (.int .i64 a) w:=fun a b w=>by kernel_rfl
 have p1:∀ (a b:Int) w,(part 3 #[.int .i64 a,.int .i64 b] 1).run Tryz.prog w= .ok (.int .i64 b) w:=fun a b w=>by kernel_rfl
 simp only[Op.equalIn,Sem.run_bind,run_underlying Tryz.underlying31,Result.andThen_ok,hp,hs,Bool.false_eq_true,if_false,Sem.run_pure]
 subst hn
 have h0:∀ w,(Op.equalIn (d+1) 3 (.int .i64 a) (.int .i64 x)).run Tryz.prog w= .ok (a==x) w:=fun w=>run_equalIn_int w d 3 .i64 .i64 a x hi
 have h1:∀ w,(Op.equalIn (d+1) 3 (.int .i64 b) (.int .i64 y)).run Tryz.prog w= .ok (b==y) w:=fun w=>run_equalIn_int w d 3 .i64 .i64 b y hi
 simp only[List.forIn_toArray,List.forIn_cons,List.forIn_nil,Sem.run_bind,p0,h0,Result.andThen_ok,Sem.run_ite,Sem.run_pure]
 cases hx:(a==x)<;>cases hy:(b==y)<;>simp[Sem.run_bind,p0,p1,h0,h1,Sem.run_ite,hx,hy]
theorem eq_vec0 (a b x y:Int) (w:World):(Op.equalIn 10000 31 (.agg #[.int .i64 a,.int .i64 b]) (.agg #[.int .i64 x,.int .i64 y])).run Tryz.prog w= .ok (a==x&&b==y) w:=run_eq_vec 9999 9998 rfl a b x y w
theorem dentOf_q (x y k:Int) (b:Bool) (w:World) (e:hitB x y k=b):
 Calls Tryz.prog 173 #[s3 x y k] w fun e w'=>e= .returned (.tuple #[s3 x y k,.bool b])∧Below w.heap.size w w':=by
 have hset:=cset_map
 go_enter Tryz.func173,Tryz.ntmps173
 go_upto_region 1 with fail
 go_cut [4] (fun s wc=>∃ B,s= .pointer (some ⟨B,0,none⟩)∧wc.cell? ⟨B,0,none⟩=some (.int .i64 x)∧wc.cell? ⟨B,1,none⟩=some (.int .i64 y)∧wc.cell? ⟨B,2,none⟩=some (.int .i64 k)∧wc.cell? ⟨w.heap.size+1,0,none⟩=some (.int .i64 0)∧wc.cell? ⟨w.heap.size+1,1,none⟩=some (.int .i64 0)∧wc.cell? ⟨w.heap.size+1,2,none⟩=some (.int .i64 0)∧wc.frozen? ⟨w.heap.size+1,0,none⟩=false∧wc.frozen? ⟨w.heap.size+1,1,none⟩=false∧wc.frozen? ⟨w.heap.size+1,2,none⟩=false∧w.heap.size+1<B∧B<wc.heap.size∧Below w.heap.size w wc)
 case first=>
  refine wp_region_held_drew (S:=fun w'=>w'.cell? ⟨w.heap.size,0,none⟩=some (.int .i64 x)∧w'.cell? ⟨w.heap.size,1,none⟩=some (.int .i64 y)∧w'.cell? ⟨w.heap.size,2,none⟩=some (.int .i64 k)) (by kernel_rfl) ?_ (fun hHeld=> ?_)
  · (try dsimp only)
    (first|(go_simp;done)|(go_keep;done))
  refine tq 0 hHeld ?_
  refine tq 1 hHeld ?_
  refine tq 3 hHeld ?_
  refine tq 4 hHeld ?_
  refine wpAnyH_ready (rs:=[2,6]) (by kernel_rfl) (by simp) ?_
  refine AllReadyH.cons rfl (fun K hK=> ?_) (AllReadyH.cons rfl (fun K hK=> ?_) AllReadyH.nil)
  · (go_simp;(go_at_call 168;refine(wayOf_any _ _ _).mono ?_;rintro e w1 ⟨rfl,hb1⟩;obtain⟨hc1,hf1⟩:=bcell hb1;have hz1:=hb1.size;(try simp only[zz] at hc1 hf1 hz1);have:=kf2 hb1 w.heap.size;(try have q:=kfz hc1 hf1 hz1 (w.heap.size+1+1) (by omega);obtain⟨ht1x0,hu1x0,hv1x0,hw1x0⟩:=q);clear hc1 hf1);(try go_wp2_with fail);refine tr hK (fun hHeld=> ?_);clear hK K)
    refine tq 5 hHeld ?_
    (refine tc 6 fun K hK=> ?_;go_simp;refine tr hK (fun hHeld=> ?_);clear hK K)
    (refine tc 7 fun K hK=> ?_;go_simp;refine tr hK (fun hHeld=> ?_);clear hK K)
    refine wpAnyH_done (by kernel_rfl) ?_ _
    go_wp2_with fail
    go_meet
    exact⟨_,rfl,(by go_simp),(by go_simp),(by go_simp),(by go_simp),(by go_simp),(by go_simp),(by first|(go_simp;done)|(simp;done)),(by first|(go_simp;done)|(simp;done)),(by first|(go_simp;done)|(simp;done)),(by first|omega|(simp;done)|(simp;omega)),(by first|omega|(simp;done)|(simp;omega)),bel_a⟩
  · (go_simp;refine tr hK (fun hHeld=> ?_);clear hK K)
    (refine tc 2 fun K hK=> ?_;go_simp;(go_at_call 168;refine(wayOf_any _ _ _).mono ?_;rintro e w1 ⟨rfl,hb1⟩;obtain⟨hc1,hf1⟩:=bcell hb1;have hz1:=hb1.size;(try simp only[zz] at hc1 hf1 hz1);have:=kf2 hb1 w.heap.size;(try have q:=kfz hc1 hf1 hz1 (w.heap.size+1+1) (by omega);obtain⟨ht1x0,hu1x0,hv1x0,hw1x0⟩:=q);clear hc1 hf1);(try go_wp2_with fail);refine tr hK (fun hHeld=> ?_);clear hK K)
    refine tq 5 hHeld ?_
    (refine tc 7 fun K hK=> ?_;go_simp;refine tr hK (fun hHeld=> ?_);clear hK K)
    refine wpAnyH_done (by kernel_rfl) ?_ _
    go_wp2_with fail
    go_meet
    exact⟨_,rfl,(by go_simp),(by go_simp),(by go_simp),(by go_simp),(by go_simp),(by go_simp),(by first|(go_simp;done)|(simp;done)),(by first|(go_simp;done)|(simp;done)),(by first|(go_simp;done)|(simp;done)),(by first|omega|(simp;done)|(simp;omega)),(by first|omega|(simp;done)|(simp;omega)),bel_a⟩
 case rest=>
 obtain⟨B,rfl,x0,x1,x2,r0,r1,r2,f0,f1,f2,hlo,hhi,hbel⟩:=hcut
 have kz:=hbel.size
 have n1:(w.heap.size+1=B)=False:=eq_false (by omega)
 have n2:(B=w.heap.size+1)=False:=eq_false (by omega)
 have lz:w.heap.size+1<wc.heap.size:=by omega
 unfold hitB at e
 go_upto_region 2 with fail
 cases k1:inB 256 x y with
 | false=>
   rw[k1] at e
   simp only[Bool.false_and] at e
   subst e
   refine wp_region_held_drew (S:=fun w'=>w'.cell? ⟨B,0,none⟩=some (.int .i64 x)∧w'.cell? ⟨B,1,none⟩=some (.int .i64 y)∧w'.cell? ⟨B,2,none⟩=some (.int .i64 k)) (by kernel_rfl) ?_ (fun hHeld=> ?_)
   · (try dsimp only)
     (first|(go_simp;done)|(go_keep;done))
   refine tq 0 hHeld ?_
   refine tq 1 hHeld ?_
   refine tq 2 hHeld ?_
   (refine tc 3 fun K hK=> ?_;go_simp;(go_at_call 85;refine(within2_q _ _ _ _ _ (by omega) (by omega) (by with_reducible assumption)).mono ?_;rintro e w2 ⟨rfl,hb2⟩;have hz2:=hb2.size;(try simp only[zz] at hz2);have:=kfa hb2 (w.heap.size+1);have:=kfa hb2 B);(try go_wp2_with fail);refine tr hK (fun hHeld=> ?_);clear hK K)
   refine tq 4 hHeld ?_
   refine tn 5 hHeld ?_
   refine tn 6 hHeld ?_
   refine tn 7 hHeld ?_
   refine tq 8 hHeld ?_
   (refine tc 9 fun K hK=> ?_;go_simp;refine tr hK (fun hHeld=> ?_);clear hK K)
   refine tq 10 hHeld ?_
   refine wpAnyH_done (by kernel_rfl) ?_ _
   go_wp2_with fail
   exact bodyPost_ret (v:= .tuple #[s3 x y k,.bool false]) (by simp[results,Tryz.results173,go_sem, *]) rfl ⟨rfl,bel_a⟩
 | true=>
   rw[k1] at e
   simp only[Bool.true_and] at e
   refine wp_region_held_drew (S:=fun w'=>w'.cell? ⟨B,0,none⟩=some (.int .i64 x)∧w'.cell? ⟨B,1,none⟩=some (.int .i64 y)∧w'.cell? ⟨B,2,none⟩=some (.int .i64 k)) (by kernel_rfl) ?_ (fun hHeld=> ?_)
   · (try dsimp only)
     (first|(go_simp;done)|(go_keep;done))
   refine tq 0 hHeld ?_
   refine tq 1 hHeld ?_
   refine tq 2 hHeld ?_
   (refine tc 3 fun K hK=> ?_;go_simp;(go_at_call 85;refine(within2_q _ _ _ _ _ (by omega) (by omega) (by with_reducible assumption)).mono ?_;rintro e w2 ⟨rfl,hb2⟩;have hz2:=hb2.size;(try simp only[zz] at hz2);have:=kfa hb2 (w.heap.size+1);have:=kfa hb2 B);(try go_wp2_with fail);refine tr hK (fun hHeld=> ?_);clear hK K)
   refine tq 4 hHeld ?_
   refine tq 5 hHeld ?_
   refine tq 6 hHeld ?_
   (refine tc 7 fun K hK=> ?_;go_simp;(go_at_call 81;refine(upTo_q _ _ _ _ (by with_reducible assumption)).mono ?_;rintro e w3 ⟨rfl,hb3⟩;have hz3:=hb3.size;(try simp only[zz] at hz3);have:=kfa hb3 (w.heap.size+1);have:=kfa hb3 B);(try go_wp2_with fail);refine tr hK (fun hHeld=> ?_);clear hK K)
   refine tq 8 hHeld ?_
   (refine tc 9 fun K hK=> ?_;go_simp;refine tr hK (fun hHeld=> ?_);clear hK K)
   refine tq 10 hHeld ?_
   refine wpAnyH_done (by kernel_rfl) ?_ _
   go_wp2_with fail
   exact bodyPost_ret (v:= .tuple #[s3 x y k,.bool b]) (by simp[results,Tryz.results173,go_sem, *]) rfl ⟨rfl,bel_a⟩
def Al (w0 w:World) (ab n:Nat) (V:Nat→Int):Prop:=w0.heap.size≤ab∧ab<w.heap.size∧(∀ i,i<n→w.cell? ⟨ab,i,none⟩=some (.int .i64 (V i)))∧∀ i,i<n→w.frozen? ⟨ab,i,none⟩=false
theorem Al.up {rb:Nat} {w0 w w':World} {ab n:Nat} {V:Nat→Int} (h:Al w0 w ab n V) (hrb:rb<w0.heap.size) (k:But rb w w'):Al w0 w' ab n V:=by
 obtain⟨h1,h2,h3,h4⟩:=h
 exact⟨h1,Nat.lt_of_lt_of_le h2 k.size,fun i hi=>(k.cell (p:=⟨ab,i,none⟩) h2 (by simp only[ne_eq];omega)).trans (h3 i hi),fun i hi=>(k.frozen (p:=⟨ab,i,none⟩) h2 (by simp only[ne_eq];omega)).trans (h4 i hi)⟩
theorem Al.set {w0 w:World} {ab n:Nat} {V:Nat→Int} (h:Al w0 w ab n V) (k:Nat) (hk:k<n) (v:Int):Al w0 (w.setCell ⟨ab,k,none⟩ (.int .i64 v)) ab n (fun j=>if j=k then v else V j):=by
 obtain⟨h1,h2,h3,h4⟩:=h
 refine⟨h1,by simpa [World.setCell] using h2,fun i hi=> ?_,fun i hi=> ?_⟩
 · by_cases e:i=k
   · subst e;rw[cset_map,h3 i hi];simp
   · rw[cset_other (by intro q;injection q with q1 q2;exact e q2.symm),h3 i hi];simp[e]
 · rw[World.frozen?_setCell];exact h4 i hi
theorem but_alloc (rb:Nat) (w:World) (o:Obj):But rb w (w.alloc o):=(But.refl rb w).alloc o
theorem Al.new {w0 w:World} {cs:Array Value} {t:TypeId} {n:Nat} {V:Nat→Int} (hsz:w0.heap.size≤w.heap.size) (hc:∀ i,i<n→cs[i]? =some (.int .i64 (V i))):Al w0 (w.alloc (.cells cs t)) w.heap.size n V:=
 ⟨hsz,by simp,fun i hi=>by rw[World.cell?_alloc_new];exact hc i hi,fun i hi=>by go_simp⟩
theorem Al.congr {w0 w:World} {ab n:Nat} {V U:Nat→Int} (h:Al w0 w ab n V) (k:∀ i,i<n→V i=U i):Al w0 w ab n U:=
 ⟨h.1,h.2.1,fun i hi=>by rw[h.2.2.1 i hi,k i hi],h.2.2.2⟩
end Go.Proofs.YtcalhcfinkhemaaGreatDoor
namespace Go.Proofs.YtcalhcfinkhemaaGreatDoor
open Go.RowKit
set_option linter.unusedVariables false
set_option linter.unusedSimpArgs false
section
variable {P:Program} {ops:Array Oper} {Q:Exit→Act→World→Prop} {md:Region.Mode}
end
def Li (w0 w:World) (lb len:Nat) (xs:List Int):Prop:=w0.heap.size≤lb∧lb<w.heap.size∧∀ i,i<len→w.cell? ⟨lb,i,none⟩=some (.int .i64 (xs.getD i 0))
theorem Li.up {rb:Nat} {w0 w w':World} {lb len:Nat} {xs:List Int} (h:Li w0 w lb len xs) (hrb:rb<w0.heap.size) (k:But rb w w'):Li w0 w' lb len xs:=by
 obtain⟨h1,h2,h3⟩:=h
 exact⟨h1,Nat.lt_of_lt_of_le h2 k.size,fun i hi=>(k.cell (p:=⟨lb,i,none⟩) h2 (by simp only[ne_eq];omega)).trans (h3 i hi)⟩
abbrev VI (lo hi:Int) (x:Value):Prop:=∃ n,x= .int .i64 n∧lo≤n∧n≤hi
abbrev VP (rb:Nat) (x:Value):Prop:=x= .pointer (some ⟨rb,0,none⟩)
abbrev VN (n:Int) (x:Value):Prop:=x= .int .i64 n
abbrev VV (lo hi:Int) (x:Value):Prop:=∃ a b,x=vv a b∧(lo≤a∧a≤hi)∧lo≤b∧b≤hi
abbrev VS (lo hi:Int) (x:Value):Prop:=∃ a b c,x=s3 a b c∧(lo≤a∧a≤hi)∧(lo≤b∧b≤hi)∧lo≤c∧c≤hi
def VL (w0 w:World) (c:Bool) (len:Nat) (xs:List Int) (x:Value):Prop:=∃ lb,x= .slice (some ⟨lb,0,none⟩) len len∧(c=false→Li w0 w lb len xs)
def VA (w0 w:World) (c:Bool) (n:Nat) (V:Nat→Int) (x:Value):Prop:=∃ ab,x= .pointer (some ⟨ab,0,none⟩)∧(c=false→Al w0 w ab n V)
theorem VL.up {rb:Nat} {w0 w w':World} {c:Bool} {len:Nat} {xs:List Int} {x:Value} (h:VL w0 w c len xs x) (hrb:rb<w0.heap.size) (k:But rb w w'):VL w0 w' c len xs x:=by
 obtain⟨lb,e,h⟩:=h;exact⟨lb,e,fun q=>(h q).up hrb k⟩
theorem VA.up {rb:Nat} {w0 w w':World} {c:Bool} {n:Nat} {V:Nat→Int} {x:Value} (h:VA w0 w c n V x) (hrb:rb<w0.heap.size) (k:But rb w w'):VA w0 w' c n V x:=by
 obtain⟨lb,e,h⟩:=h;exact⟨lb,e,fun q=>(h q).up hrb k⟩
theorem Li.new {w0 w:World} {cs:Array Value} {t:TypeId} {len:Nat} {xs:List Int} (hsz:w0.heap.size≤w.heap.size) (hc:∀ i,i<len→cs[i]? =some (.int .i64 (xs.getD i 0))):Li w0 (w.alloc (.cells cs t)) w.heap.size len xs:=
 ⟨hsz,by simp,fun i hi=>by rw[World.cell?_alloc_new];exact hc i hi⟩
end Go.Proofs.YtcalhcfinkhemaaGreatDoor
namespace Go.Proofs.YtcalhcfinkhemaaGreatDoor
open Go.RowKit
set_option linter.unusedVariables false
set_option linter.unusedSimpArgs false
theorem balloc (w:World) (o:Obj):Below w.heap.size w (w.alloc o):=(Below.refl _ _).alloc (Nat.le_refl _) o
theorem Al.bl {w0 w w':World} {ab n B:Nat} {V:Nat→Int} (h:Al w0 w ab n V) (k:Below B w w') (hB:ab<B):Al w0 w' ab n V:=by
 obtain⟨h1,h2,h3,h4⟩:=h
 exact⟨h1,Nat.lt_of_lt_of_le h2 k.size,fun i hi=>(k.cell (p:=⟨ab,i,none⟩) hB).trans (h3 i hi),fun i hi=>(k.frozen (p:=⟨ab,i,none⟩) hB).trans (h4 i hi)⟩
theorem Al.ne {rb:Nat} {w0 w w':World} {ab n:Nat} {V:Nat→Int} (h:Al w0 w ab n V) (hne:ab≠rb) (k:But rb w w'):Al w0 w' ab n V:=by
 obtain⟨h1,h2,h3,h4⟩:=h
 exact⟨h1,Nat.lt_of_lt_of_le h2 k.size,fun i hi=>(k.cell (p:=⟨ab,i,none⟩) h2 hne).trans (h3 i hi),fun i hi=>(k.frozen (p:=⟨ab,i,none⟩) h2 hne).trans (h4 i hi)⟩
theorem Al.off {w0 w:World} {ab n b k:Nat} {V:Nat→Int} (h:Al w0 w ab n V) (hb:ab≠b) (v:Value):Al w0 (w.setCell ⟨b,k,none⟩ v) ab n V:=by
 obtain⟨h1,h2,h3,h4⟩:=h
 refine⟨h1,by simpa [World.setCell] using h2,fun i hi=> ?_,fun i hi=> ?_⟩
 · rw[cset_far (by simp;omega)];exact h3 i hi
 · rw[World.frozen?_setCell];exact h4 i hi
abbrev Bls:=List (Nat×Nat×(Nat→Int))
structure AL (w w':World) (L:Bls):Prop where
 bel:Below w.heap.size w w'
 al:∀ x∈L,Al w w' x.1 x.2.1 x.2.2
theorem AL.nil (w:World):AL w w []:=⟨Below.refl _ _,fun x hx=>by cases hx⟩
theorem AL.new {w w':World} {L:Bls} (h:AL w w' L) (b n:Nat) (V:Nat→Int) {cs:Array Value} {t:TypeId} (hb:b=w'.heap.size) (hc:∀ i,i<n→cs[i]? =some (.int .i64 (V i))):
 AL w (w'.alloc (.cells cs t)) ((b,n,V)::L):=by
 subst hb
 refine⟨h.bel.alloc h.bel.size _,fun x hx=> ?_⟩
 rcases List.mem_cons.mp hx with rfl|hx
 · exact Al.new h.bel.size hc
 · exact(h.al x hx).bl (balloc _ _) (h.al x hx).2.1
theorem AL.call {w w' w1:World} {L:Bls} (h:AL w w' L) (k:Below w'.heap.size w' w1):AL w w1 L:=
 ⟨h.bel.trans (k.mono h.bel.size),fun x hx=>(h.al x hx).bl k (h.al x hx).2.1⟩
theorem AL.get {w w':World} {L:Bls} (h:AL w w' L) {x:Nat×Nat×(Nat→Int)} (hx:x∈L):Al w w' x.1 x.2.1 x.2.2:=h.al x hx
theorem AL.sub {w w':World} {L M:Bls} (h:AL w w' L) (k:∀ x∈M,x∈L):AL w w' M:=⟨h.bel,fun x hx=>h.al x (k x hx)⟩
theorem AL.lt {w w':World} {L:Bls} (h:AL w w' L) {x:Nat×Nat×(Nat→Int)} (hx:x∈L):x.1<w'.heap.size:=(h.al x hx).2.1
theorem AL.drew {w w':World} {L:Bls} (h:AL w w' L):AL w w'.drew L:=⟨h.bel.drew,h.al⟩
theorem AL.set {w w':World} {b n:Nat} {V:Nat→Int} {L:Bls} (h:AL w w' ((b,n,V)::L)) (hne:∀ x∈L,x.1≠b) (k:Nat) (hk:k<n) (v:Int):
 AL w (w'.setCell ⟨b,k,none⟩ (.int .i64 v)) ((b,n,fun j=>if j=k then v else V j)::L):=by
 have hb:=h.al _ (List.mem_cons_self ..)
 have hlo:=hb.1
 dsimp only at hlo
 refine⟨h.bel.setCell (by simpa using hlo) _,fun x hx=> ?_⟩
 rcases List.mem_cons.mp hx with rfl|hx
 · exact hb.set k hk v
 · exact(h.al x (List.mem_cons_of_mem _ hx)).off (hne x hx) _
structure DL (w w':World) (rb p:Nat) (L:Bls):Prop where
 rs:RS w' rb p
 bel:Below w.heap.size w w'
 lo:w.heap.size≤rb
 al:∀ x∈L,Al w w' x.1 x.2.1 x.2.2∧x.1≠rb
theorem AL.opened {w w0 w1:World} {L:Bls} (h:AL w w0 L) (k:Below w0.heap.size w0 w1) (r:RS w1 w0.heap.size 0):DL w w1 w0.heap.size 0 L:=
 ⟨r,h.bel.trans (k.mono h.bel.size),h.bel.size,fun x hx=>⟨(h.al x hx).bl k (h.al x hx).2.1,by have:=(h.al x hx).2.1;omega⟩⟩
theorem DL.call {w w' w1:World} {rb p p1:Nat} {L:Bls} (h:DL w w' rb p L) (k:RB w' w1 rb p1):DL w w1 rb p1 L:=
 ⟨RS.of k,h.bel.trans (k.but.below h.lo h.bel.size),h.lo,fun x hx=>⟨(h.al x hx).1.ne (h.al x hx).2 k.but,(h.al x hx).2⟩⟩
theorem DL.mono {w w':World} {rb p p1:Nat} {L:Bls} (h:DL w w' rb p L) (k:p≤p1):DL w w' rb p1 L:=⟨h.rs.mono k,h.bel,h.lo,h.al⟩
theorem DL.drew {w w':World} {rb p:Nat} {L:Bls} (h:DL w w' rb p L):DL w w'.drew rb p L:=⟨h.rs.drew,h.bel.drew,h.lo,h.al⟩
theorem DL.new {w w':World} {rb p:Nat} {L:Bls} (h:DL w w' rb p L) (n:Nat) (V:Nat→Int) {cs:Array Value} {t:TypeId} (hc:∀ i,i<n→cs[i]? =some (.int .i64 (V i))):
 DL w (w'.alloc (.cells cs t)) rb p ((w'.heap.size,n,V)::L):=by
 refine⟨h.rs.alloc _,h.bel.alloc h.bel.size _,h.lo,fun x hx=> ?_⟩
 rcases List.mem_cons.mp hx with rfl|hx
 · exact⟨Al.new h.bel.size hc,by have:=h.rs.lt;dsimp only;omega⟩
 · exact⟨(h.al x hx).1.bl (balloc _ _) (h.al x hx).1.2.1,(h.al x hx).2⟩
theorem DL.alloc {w w':World} {rb p:Nat} {L:Bls} (h:DL w w' rb p L) (o:Obj):DL w (w'.alloc o) rb p L:=
 ⟨h.rs.alloc _,h.bel.alloc h.bel.size _,h.lo,fun x hx=>⟨(h.al x hx).1.bl (balloc _ _) (h.al x hx).1.2.1,(h.al x hx).2⟩⟩
theorem DL.sub {w w':World} {rb p:Nat} {L M:Bls} (h:DL w w' rb p L) (k:∀ x∈M,x∈L):DL w w' rb p M:=⟨h.rs,h.bel,h.lo,fun x hx=>h.al x (k x hx)⟩
theorem DL.get {w w':World} {rb p:Nat} {L:Bls} (h:DL w w' rb p L) {x:Nat×Nat×(Nat→Int)} (hx:x∈L):Al w w' x.1 x.2.1 x.2.2:=(h.al x hx).1
theorem DL.lt {w w':World} {rb p:Nat} {L:Bls} (h:DL w w' rb p L) {x:Nat×Nat×(Nat→Int)} (hx:x∈L):x.1<w'.heap.size:=(h.al x hx).1.2.1
theorem DL.headc {w w':World} {rb p b n:Nat} {V U:Nat→Int} {L:Bls} (h:DL w w' rb p ((b,n,V)::L)) (k:∀ i,i<n→V i=U i):DL w w' rb p ((b,n,U)::L):=by
 refine⟨h.rs,h.bel,h.lo,fun x hx=> ?_⟩
 rcases List.mem_cons.mp hx with rfl|hx
 · have q:=h.al _ (List.mem_cons_self ..)
   exact⟨q.1.congr k,q.2⟩
 · exact h.al x (List.mem_cons_of_mem _ hx)
theorem DL.set {w w':World} {rb p b n:Nat} {V:Nat→Int} {L:Bls} (h:DL w w' rb p ((b,n,V)::L)) (hr:rb<b) (hne:∀ x∈L,x.1≠b) (k:Nat) (hk:k<n) (v:Int):
 DL w (w'.setCell ⟨b,k,none⟩ (.int .i64 v)) rb p ((b,n,fun j=>if j=k then v else V j)::L):=by
 have hb:=(h.al _ (List.mem_cons_self ..)).1
 have hlo:=hb.1
 dsimp only at hlo
 refine⟨h.rs.setNew (by simpa using hr) _,h.bel.setCell (by simpa using hlo) _,h.lo,fun x hx=> ?_⟩
 rcases List.mem_cons.mp hx with rfl|hx
 · exact⟨hb.set k hk v,by dsimp only;omega⟩
 · exact⟨(h.al x (List.mem_cons_of_mem _ hx)).1.off (hne x hx) _,(h.al x (List.mem_cons_of_mem _ hx)).2⟩
structure BL (w w':World) (rb p:Nat) (L:Bls):Prop where
 rs:RS w' rb p
 but:But rb w w'
 lo:rb<w.heap.size
 al:∀ x∈L,Al w w' x.1 x.2.1 x.2.2
theorem BL.start {w:World} {rb p:Nat} (h:RS w rb p):BL w w rb p []:=⟨h,But.refl _ _,h.lt,fun x hx=>by cases hx⟩
theorem BL.call {w w' w1:World} {rb p p1:Nat} {L:Bls} (h:BL w w' rb p L) (k:RB w' w1 rb p1):BL w w1 rb p1 L:=
 ⟨RS.of k,h.but.trans k.but,h.lo,fun x hx=>(h.al x hx).up h.lo k.but⟩
theorem BL.calb {w w' w1:World} {rb p:Nat} {L:Bls} (h:BL w w' rb p L) (k:Below w'.heap.size w' w1):BL w w1 rb p L:=by
 obtain⟨q,a,b⟩:=h.rs
 exact h.call (RB.mk (But.of_below k) ⟨q,a,b.below k⟩)
theorem BL.mono {w w':World} {rb p p1:Nat} {L:Bls} (h:BL w w' rb p L) (k:p≤p1):BL w w' rb p1 L:=⟨h.rs.mono k,h.but,h.lo,h.al⟩
theorem BL.drew {w w':World} {rb p:Nat} {L:Bls} (h:BL w w' rb p L):BL w w'.drew rb p L:=⟨h.rs.drew,h.but.drew,h.lo,h.al⟩
theorem BL.new {w w':World} {rb p:Nat} {L:Bls} (h:BL w w' rb p L) (b n:Nat) (V:Nat→Int) {cs:Array Value} {t:TypeId} (hb:b=w'.heap.size) (hc:∀ i,i<n→cs[i]? =some (.int .i64 (V i))):
 BL w (w'.alloc (.cells cs t)) rb p ((b,n,V)::L):=by
 subst hb
 refine⟨h.rs.alloc _,h.but.alloc _,h.lo,fun x hx=> ?_⟩
 rcases List.mem_cons.mp hx with rfl|hx
 · exact Al.new h.but.size hc
 · exact(h.al x hx).bl (balloc _ _) (h.al x hx).2.1
theorem BL.alloc {w w':World} {rb p:Nat} {L:Bls} (h:BL w w' rb p L) (o:Obj):BL w (w'.alloc o) rb p L:=
 ⟨h.rs.alloc _,h.but.alloc _,h.lo,fun x hx=>(h.al x hx).bl (balloc _ _) (h.al x hx).2.1⟩
theorem BL.sub {w w':World} {rb p:Nat} {L M:Bls} (h:BL w w' rb p L) (k:∀ x∈M,x∈L):BL w w' rb p M:=⟨h.rs,h.but,h.lo,fun x hx=>h.al x (k x hx)⟩
theorem BL.get {w w':World} {rb p:Nat} {L:Bls} (h:BL w w' rb p L) {x:Nat×Nat×(Nat→Int)} (hx:x∈L):Al w w' x.1 x.2.1 x.2.2:=h.al x hx
theorem BL.lt {w w':World} {rb p:Nat} {L:Bls} (h:BL w w' rb p L) {x:Nat×Nat×(Nat→Int)} (hx:x∈L):x.1<w'.heap.size:=(h.al x hx).2.1
theorem BL.set {w w':World} {rb p b n:Nat} {V:Nat→Int} {L:Bls} (h:BL w w' rb p ((b,n,V)::L)) (hne:∀ x∈L,x.1≠b) (k:Nat) (hk:k<n) (v:Int):
 BL w (w'.setCell ⟨b,k,none⟩ (.int .i64 v)) rb p ((b,n,fun j=>if j=k then v else V j)::L):=by
 have hb:=h.al _ (List.mem_cons_self ..)
 have hlo:=hb.1
 dsimp only at hlo
 have h0:=h.lo
 refine⟨h.rs.setNew (by dsimp only;omega) _,h.but.setNew (by simpa using hlo) _,h.lo,fun x hx=> ?_⟩
 rcases List.mem_cons.mp hx with rfl|hx
 · exact hb.set k hk v
 · exact(h.al x (List.mem_cons_of_mem _ hx)).off (hne x hx) _
theorem BL.headc {w w':World} {rb p b n:Nat} {V U:Nat→Int} {L:Bls} (h:BL w w' rb p ((b,n,V)::L)) (k:∀ i,i<n→V i=U i):BL w w' rb p ((b,n,U)::L):=by
 refine⟨h.rs,h.but,h.lo,fun x hx=> ?_⟩
 rcases List.mem_cons.mp hx with rfl|hx
 · exact(h.al _ (List.mem_cons_self ..)).congr k
 · exact h.al x (List.mem_cons_of_mem _ hx)
theorem BL.done {w w':World} {rb p:Nat} {L:Bls} (h:BL w w' rb p L):RB w w' rb p:=RB.mk h.but h.rs
def B2 (x:Int):Prop:= -2000000000≤x∧x≤2000000000
def HN (X Y D:Int):Prop:=B2 X∧B2 Y
end Go.Proofs.YtcalhcfinkhemaaGreatDoor
