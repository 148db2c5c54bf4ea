import Derived.Test.YtjdnmblggdobgaaGreatJLSaLTie
namespace Go.Proofs.YtjdnmblggdobgaaGreat
open Go.RowKit Go.Maps
def setL (w:World) (Q:Nat):Nat->List Value->World
 | _,[]=>w
 | o,c::cs=>setL (w.setCell ⟨Q,o,none⟩ c) Q (o+1) cs
theorem zl9 (Q:Nat):∀(cs:List Value) (w:World) (o:Nat),(∀j,j<cs.length->∃x,w.cell? ⟨Q,o+j,none⟩=some x)->w.grownBy (setL w Q o cs) (some Q)/\(∀j,j<cs.length->(setL w Q o cs).cell? ⟨Q,o+j,none⟩=cs[j]?)/\∀i,i<o->(setL w Q o cs).cell? ⟨Q,i,none⟩=w.cell? ⟨Q,i,none⟩
 | [],w,o,_=>⟨World.grownBy.refl _ _,(fun j hj=>by cases hj),fun _ _=>rfl⟩
 | c::cs,w,o,h=>by
   obtain ⟨x0,h0⟩:=h 0 (by simp)
   have hs:=World.cell?_setCell_same w ⟨Q,o,none⟩ c h0
   have ho:∀i,i≠o->(w.setCell ⟨Q,o,none⟩ c).cell? ⟨Q,i,none⟩=w.cell? ⟨Q,i,none⟩:=fun i hi=>World.cell?_setCell_other _ _ _ _ (fun e=>hi (congrArg Addr.off e).symm)
   obtain ⟨g,hc,hl⟩:=zl9 Q cs (w.setCell ⟨Q,o,none⟩ c) (o+1) (fun j hj=>by
    obtain ⟨x,hx⟩:=h (j+1) (by simpa using hj)
    refine ⟨x,?_⟩
    rw [ho _ (by omega),show o+1+j=o+(j+1) by omega]
    exact hx)
   refine ⟨(za8 (World.grownBy.refl _ _) _ _ (Or.inl rfl)).trans g,fun j hj=>?_,fun i hi=>(hl i (by omega)).trans (ho i (by omega))⟩
   cases j with
   | zero=>rw [Nat.add_zero,setL,hl o (by omega)];exact hs
   | succ j=>
     have:=hc j (by simpa using hj)
     rw [show o+1+j=o+(j+1) by omega]at this
     rw [setL,this]
     rfl
theorem zma {w w':World} {Q:Nat} (h:w.grownBy w' (some Q)) {b j:Nat} (hb:b<w.heap.size) (hne:b≠Q):w'.frozen? ⟨b,j,none⟩=w.frozen? ⟨b,j,none⟩:=
 World.frozen?_of_block (a:=⟨b,j,none⟩) (h.block b hb (by simp<;>omega))
structure AftN (n:Nat) (w w1:World):Prop where
 B:Below w.heap.size w w1
 a:∀j,j<n->∃x,w1.cell? ⟨w.heap.size+1,j,none⟩=some x
 az:∀j,w1.frozen? ⟨w.heap.size+1,j,none⟩=false
 f:∀j,j<2->∃x,w1.cell? ⟨w.heap.size+2,j,none⟩=some x
 fz:∀j,w1.frozen? ⟨w.heap.size+2,j,none⟩=false
 sz:w.heap.size+5<=w1.heap.size
theorem AftN.grown {n:Nat} {w w1 w2:World} (h:AftN n w w1) {q:Nat} (hg:w1.grownBy w2 (some (w.heap.size+q))) (hq:3<=q):AftN n w w2:=
 have hs:=h.sz
 ⟨bg0 h.B hg (by omega),fun j hj=>(h.a j hj).imp fun _ hx=>hg.cell hx (by simp<;>omega),fun j=>(zma hg (by omega) (by omega)).trans (h.az j),fun j hj=>(h.f j hj).imp fun _ hx=>hg.cell hx (by simp<;>omega),fun j=>(zma hg (by omega) (by omega)).trans (h.fz j),Nat.le_trans hs hg.size⟩
theorem finN {n:Nat} {w w2:World} (h:AftN n w w2) (cs:List Value) (hn:cs.length=n) (e p:Int) (o:Obj):∃W9,W9=(setL (setL w2 (w.heap.size+1) 0 cs) (w.heap.size+1+1) 0 [.int .i64 e,.int .i64 p]).alloc o/\Below w.heap.size w W9/\Far w.heap.size (w.heap.size+5) w2 W9/\w.heap.size+5<=W9.heap.size/\
 (∀j,j<n->W9.cell? ⟨w.heap.size+1,j,none⟩=cs[j]?)/\W9.cell? ⟨w.heap.size+1+1,0,none⟩=some (.int .i64 e)/\W9.cell? ⟨w.heap.size+1+1,1,none⟩=some (.int .i64 p):=by
 have hs:=h.sz
 obtain ⟨G1,p1,-⟩:=zl9 (w.heap.size+1) cs w2 0 (fun j hj=>by rw [Nat.zero_add];exact h.a j (by omega))
 have s1:=G1.size
 generalize setL w2 (w.heap.size+1) 0 cs=W1 at*
 obtain ⟨G2,p2,-⟩:=zl9 (w.heap.size+1+1) [.int .i64 e,.int .i64 p] W1 0 (fun j hj=>by
  rw [Nat.zero_add]
  obtain ⟨x,hx⟩:=h.f j (by simpa using hj)
  exact ⟨x,G1.cell hx (by simp)⟩)
 have s2:=G2.size
 have hB:Below w.heap.size w _:=bg0 (bg0 h.B G1 (by omega)) G2 (by omega)
 have hF:Far w.heap.size (w.heap.size+5) w2 _:=(Far.grown G1 (by omega) (by omega)).trans (Far.grown G2 (by omega) (by omega))
 have p3:∀j,j<n->(setL W1 (w.heap.size+1+1) 0 [.int .i64 e,.int .i64 p]).cell? ⟨w.heap.size+1,j,none⟩=cs[j]? :=fun j hj=>by
  have hx:=p1 j (by omega)
  rw [Nat.zero_add]at hx
  have:cs[j]? =some (cs[j]'(by omega)):=List.getElem?_eq_getElem (by omega)
  rw [this]at hx ⊢
  exact G2.cell hx (by simp)
 generalize setL W1 (w.heap.size+1+1) 0 [.int .i64 e,.int .i64 p]=W2 at*
 have hA:Below W2.heap.size W2 (W2.alloc o):=(Below.refl _ _).alloc (Nat.le_refl _) _
 refine ⟨_,rfl,hB.trans (hA.mono hB.size),hF.trans (Far.below hA),by have:=hA.size;omega,fun j hj=>(hA.cell (p:=⟨w.heap.size+1,j,none⟩) (by show w.heap.size+1<_;omega)).trans (p3 j hj),?_,?_⟩
 ·
  exact (hA.cell (p:=⟨w.heap.size+1+1,0,none⟩) (by show w.heap.size+1+1<_;omega)).trans (p2 0 (by simp))
 exact (hA.cell (p:=⟨w.heap.size+1+1,1,none⟩) (by show w.heap.size+1+1<_;omega)).trans (p2 1 (by simp))
theorem setN {w:World} {R T:Nat} {zs:List Value} (h:w.heap[R]? =some (.cells zs.toArray T (0,0))) (cs:List Value) (hl:cs.length=zs.length):
 ∃W9,setL w R 0 cs=W9/\w.grownBy W9 (some R)/\(∀k c,cs[k]? =some c->W9.cell? ⟨R,k,none⟩=some c)/\(∀k z,zs[k]? =some z->w.cell? ⟨R,k,none⟩=some z)/\(∀j,w.frozen? ⟨R,j,none⟩=false)/\R<w.heap.size:=by
 have hr:∀k z,zs[k]? =some z->w.cell? ⟨R,k,none⟩=some z:=fun k z hz=>cl0 h k (by simpa using hz)
 obtain ⟨hg,hc,-⟩:=zl9 R cs w 0 (fun j hj=>by
  rw [Nat.zero_add]
  exact ⟨zs[j]'(by omega),hr j _ (List.getElem?_eq_getElem (by omega))⟩)
 refine ⟨_,rfl,hg,fun k c hk=>?_,hr,fun j=>zcf h j,lt0 h⟩
 have hkl:k<cs.length:=(List.getElem?_eq_some_iff.1 hk).1
 have:=hc k hkl
 rw [Nat.zero_add]at this
 rw [this,hk]
theorem zmb {w W:World} {s:Nat} (hB:Below w.heap.size w W) (hs:W.heap.size=s) (c:Array Value) (t:Nat):∃W0,W0=W.alloc (.cells c t)/\Below w.heap.size w W0/\W0.heap.size=s+1/\W0.heap[s]? =some (.cells c t (0,0))/\∀(b:Nat) (ob:Obj),W.heap[b]? =some ob->W0.heap[b]? =some ob:=by
 have hb:Below W.heap.size W (W.alloc (.cells c t)):=(Below.refl _ _).alloc (Nat.le_refl _) _
 refine ⟨_,rfl,hB.trans (hb.mono hB.size),by rw [<-hs];simp,by rw [<-hs];exact heap_alloc_new W _,fun b ob e=>(hb.block b ?_).trans e⟩
 rcases Nat.lt_or_ge b W.heap.size with hlt | hge
 ·
  exact hlt
 rw [Array.getElem?_eq_none hge]at e;cases e
theorem boxes1 (w:World) (c0:Array Value) (t0:Nat):∃W0,W0=(w.alloc (.cells c0 t0))/\Below w.heap.size w W0/\W0.heap.size=w.heap.size+1/\W0.heap[w.heap.size]? =some (.cells c0 t0 (0,0)):=by
 obtain ⟨W0,h0,hB0,hs0,k,-⟩:=zmb (Below.refl w.heap.size w) rfl c0 t0
 exact ⟨W0,h0,hB0,hs0,k⟩
theorem boxes2 (w:World) (c0 c1:Array Value) (t0 t1:Nat):∃W0,W0=((w.alloc (.cells c0 t0)).alloc (.cells c1 t1))/\Below w.heap.size w W0/\W0.heap.size=w.heap.size+1+1/\W0.heap[w.heap.size]? =some (.cells c0 t0 (0,0))/\W0.heap[w.heap.size+1]? =some (.cells c1 t1 (0,0)):=by
 obtain ⟨W,hW,hB,hs,k0⟩:=boxes1 w c0 t0
 obtain ⟨W0,h0,hB0,hs0,k,hk⟩:=zmb hB hs c1 t1
 exact ⟨W0,by rw [h0,hW],hB0,hs0,hk _ _ k0,k⟩
theorem boxes3 (w:World) (c0 c1 c2:Array Value) (t0 t1 t2:Nat):∃W0,W0=(((w.alloc (.cells c0 t0)).alloc (.cells c1 t1)).alloc (.cells c2 t2))/\Below w.heap.size w W0/\W0.heap.size=w.heap.size+1+1+1/\W0.heap[w.heap.size]? =some (.cells c0 t0 (0,0))/\W0.heap[w.heap.size+1]? =some (.cells c1 t1 (0,0))/\W0.heap[w.heap.size+1+1]? =some (.cells c2 t2 (0,0)):=by
 obtain ⟨W,hW,hB,hs,k0,k1⟩:=boxes2 w c0 c1 t0 t1
 obtain ⟨W0,h0,hB0,hs0,k,hk⟩:=zmb hB hs c2 t2
 exact ⟨W0,by rw [h0,hW],hB0,hs0,hk _ _ k0,hk _ _ k1,k⟩
theorem boxes4 (w:World) (c0 c1 c2 c3:Array Value) (t0 t1 t2 t3:Nat):∃W0,W0=((((w.alloc (.cells c0 t0)).alloc (.cells c1 t1)).alloc (.cells c2 t2)).alloc (.cells c3 t3))/\Below w.heap.size w W0/\W0.heap.size=w.heap.size+1+1+1+1/\W0.heap[w.heap.size]? =some (.cells c0 t0 (0,0))/\W0.heap[w.heap.size+1]? =some (.cells c1 t1 (0,0))/\W0.heap[w.heap.size+1+1]? =some (.cells c2 t2 (0,0))/\W0.heap[w.heap.size+1+1+1]? =some (.cells c3 t3 (0,0)):=by
 obtain ⟨W,hW,hB,hs,k0,k1,k2⟩:=boxes3 w c0 c1 c2 t0 t1 t2
 obtain ⟨W0,h0,hB0,hs0,k,hk⟩:=zmb hB hs c3 t3
 exact ⟨W0,by rw [h0,hW],hB0,hs0,hk _ _ k0,hk _ _ k1,hk _ _ k2,k⟩
theorem boxes5 (w:World) (c0 c1 c2 c3 c4:Array Value) (t0 t1 t2 t3 t4:Nat):∃W0,W0=(((((w.alloc (.cells c0 t0)).alloc (.cells c1 t1)).alloc (.cells c2 t2)).alloc (.cells c3 t3)).alloc (.cells c4 t4))/\Below w.heap.size w W0/\W0.heap.size=w.heap.size+1+1+1+1+1/\W0.heap[w.heap.size]? =some (.cells c0 t0 (0,0))/\W0.heap[w.heap.size+1]? =some (.cells c1 t1 (0,0))/\W0.heap[w.heap.size+1+1]? =some (.cells c2 t2 (0,0))/\W0.heap[w.heap.size+1+1+1]? =some (.cells c3 t3 (0,0))/\W0.heap[w.heap.size+1+1+1+1]? =some (.cells c4 t4 (0,0)):=by
 obtain ⟨W,hW,hB,hs,k0,k1,k2,k3⟩:=boxes4 w c0 c1 c2 c3 t0 t1 t2 t3
 obtain ⟨W0,h0,hB0,hs0,k,hk⟩:=zmb hB hs c4 t4
 exact ⟨W0,by rw [h0,hW],hB0,hs0,hk _ _ k0,hk _ _ k1,hk _ _ k2,hk _ _ k3,k⟩
theorem boxes6 (w:World) (c0 c1 c2 c3 c4 c5:Array Value) (t0 t1 t2 t3 t4 t5:Nat):∃W0,W0=((((((w.alloc (.cells c0 t0)).alloc (.cells c1 t1)).alloc (.cells c2 t2)).alloc (.cells c3 t3)).alloc (.cells c4 t4)).alloc (.cells c5 t5))/\Below w.heap.size w W0/\W0.heap.size=w.heap.size+1+1+1+1+1+1/\W0.heap[w.heap.size]? =some (.cells c0 t0 (0,0))/\W0.heap[w.heap.size+1]? =some (.cells c1 t1 (0,0))/\W0.heap[w.heap.size+1+1]? =some (.cells c2 t2 (0,0))/\W0.heap[w.heap.size+1+1+1]? =some (.cells c3 t3 (0,0))/\W0.heap[w.heap.size+1+1+1+1]? =some (.cells c4 t4 (0,0))/\W0.heap[w.heap.size+1+1+1+1+1]? =some (.cells c5 t5 (0,0)):=by
 obtain ⟨W,hW,hB,hs,k0,k1,k2,k3,k4⟩:=boxes5 w c0 c1 c2 c3 c4 t0 t1 t2 t3 t4
 obtain ⟨W0,h0,hB0,hs0,k,hk⟩:=zmb hB hs c5 t5
 exact ⟨W0,by rw [h0,hW],hB0,hs0,hk _ _ k0,hk _ _ k1,hk _ _ k2,hk _ _ k3,hk _ _ k4,k⟩
end Go.Proofs.YtjdnmblggdobgaaGreat
