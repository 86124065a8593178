/- Texts of a proof. -/
import Derived.Test.YtbdbbdjifgpgeaaGreatB6
import Derived.Test.YtbdbbdjifgpgeaaGreatB10
set_option maxHeartbeats 16000000
set_option maxRecDepth 20000
namespace Go.Proofs.YtbdbbdjifgpgeaaGreat
open Go.RowKit
set_option linter.unusedVariables false
set_option linter.unusedSimpArgs false
def Blk (w:World) (b:Nat) (cs:Array Value) (t:TypeId):Prop:=w.heap[b]? =some (.cells cs t (0,0))
theorem Blk.lt {w:World} {b:Nat} {cs:Array Value} {t:TypeId} (h:Blk w b cs t):b<w.heap.size:=by
 rcases Nat.lt_or_ge b w.heap.size with q|q
 · exact q
 · unfold Blk at h;rw[Array.getElem?_eq_none q] at h;cases h
theorem Blk.cell {w:World} {b:Nat} {cs:Array Value} {t:TypeId} (h:Blk w b cs t) (i:Nat) {v:Value} (hv:cs[i]? =some v):w.cell? ⟨b,i,none⟩=some v:=by unfold Blk at h;simp[World.cell?,h,hv]
theorem Blk.f {w:World} {b:Nat} {cs:Array Value} {t:TypeId} (h:Blk w b cs t):∀ o,w.frozen? ⟨b,o,none⟩=false:=by unfold Blk at h;intro o;simp[World.frozen?,h]
theorem Blk.on {w w':World} {b:Nat} {cs:Array Value} {t:TypeId} (h:Blk w b cs t) (hb:Below w.heap.size w w'):Blk w' b cs t:=(hb.block b h.lt).trans h
theorem Blk.but {w w':World} {b rb:Nat} {cs:Array Value} {t:TypeId} (h:Blk w b cs t) (hb:But rb w w') (hn:b≠rb):Blk w' b cs t:=(hb.block b h.lt hn).trans h
theorem Blk.new (w:World) (cs:Array Value) (t:TypeId):Blk (w.alloc (.cells cs t)) w.heap.size cs t:=by show (w.heap.push _)[w.heap.size]? =_;simp
theorem Blk.al {w:World} {b:Nat} {cs:Array Value} {t:TypeId} (h:Blk w b cs t) (o:Obj):Blk (w.alloc o) b cs t:=h.on ((Below.refl _ _).alloc (Nat.le_refl _) o)
theorem Blk.dr {w:World} {b:Nat} {cs:Array Value} {t:TypeId} (h:Blk w b cs t):Blk w.drew b cs t:=h
theorem Blk.far {w:World} {b b' o:Nat} {cs:Array Value} {t:TypeId} (h:Blk w b cs t) (hn:b≠b') (v:Value):Blk (w.setCell ⟨b',o,none⟩ v) b cs t:=(Below.heap_setCell w ⟨b',o,none⟩ v b hn).trans h
theorem Blk.put {w:World} {b:Nat} {cs:Array Value} {t:TypeId} (h:Blk w b cs t) (i:Nat) (v:Value):Blk (w.setCell ⟨b,i,none⟩ v) b (cs.setIfInBounds i v) t:=by
 show (w.heap.modify b _)[b]? =_
 unfold Blk at h
 rw[Array.getElem?_modify,if_pos rfl,h]
 rfl
theorem Blk.ne {w:World} {b base t t' k n:Nat} {cs:Array Value} {v:Value} {U:Nat→Int} (h:Blk w b cs t') (ho:OwnL w base t k v n U) (ht:t≠t'):v.ownBlock≠some b:=by
 intro e
 rcases ho.2 with⟨hv,_⟩|⟨g',cap,cur,hv,hb,hg,_⟩
 · subst hv;simp[Value.ownBlock] at e
 · subst hv
   simp[Value.ownBlock] at e
   subst e
   unfold Blk at h
   rw[h] at hg
   simp only[Option.some.injEq,Obj.cells.injEq] at hg
   exact ht hg.2.1.symm
theorem OwnL.dr {w:World} {base t k n:Nat} {v:Value} {U:Nat→Int} (h:OwnL w base t k v n U):OwnL w.drew base t k v n U:=World.ownsRow.drew h
theorem OwnL.al {w:World} {base t k n:Nat} {v:Value} {U:Nat→Int} (h:OwnL w base t k v n U) (o:Obj):OwnL (w.alloc o) base t k v n U:=h.below ((Below.refl _ _).alloc (Nat.le_refl _) o)
theorem OwnL.btb {w w':World} {rb base t k n:Nat} {v:Value} {U:Nat→Int} (h:OwnL w base t k v n U) (hb:But rb w w') (hr:rb<base):OwnL w' base t k v n U:=by
 have hg:w.grownBy w' (Option.some rb):=⟨hb.os,hb.tape,hb.output,hb.size,fun j hj hne=>hb.block j hj (fun e=>hne (by rw[e]))⟩
 cases e:v.ownBlock with
 |none=>exact World.ownsRow.kept h hg (.inl e)
 |some b=>exact World.ownsRow.kept h hg (.inr (by rw[e];intro q;have:=(h.lt b e).1;simp at q;omega))
theorem RB.al {w0 w:World} {rb p:Nat} (h:RB w0 w rb p) (o:Obj):RB w0 (w.alloc o) rb p:=h.alloc o
theorem RB.rs {w0 w:World} {rb p:Nat} (h:RB w0 w rb p):RS w rb p:=RS.of h
end Go.Proofs.YtbdbbdjifgpgeaaGreat
