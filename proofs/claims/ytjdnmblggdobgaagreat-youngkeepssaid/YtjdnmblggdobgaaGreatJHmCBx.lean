import Derived.Test.YtjdnmblggdobgaaGreatJLSaLTie
namespace Go.Proofs.YtjdnmblggdobgaaGreat
open Go.RowKit Go.Maps
def i9 (w:World) (Q:Nat):Nat->List Value->World
 | _,[]=>w
 | o,c::cs=>i9 (w.setCell ⟨Q,o,none⟩ c) Q (o+1) cs
theorem zlg (Q:Nat):∀(cs:List Value) (w:World) (o:Nat),(∀j,j<cs.length->∃x,w.cell? ⟨Q,o+j,none⟩=some x)->w.grownBy (i9 w Q o cs) (some Q)/\(∀j,j<cs.length->(i9 w Q o cs).cell? ⟨Q,o+j,none⟩=cs[j]?)/\∀i,i<o->(i9 w Q o cs).cell? ⟨Q,i,none⟩=w.cell? ⟨Q,i,none⟩
 | [],w,o,_=>⟨World.grownBy.refl _ _,(fun j A=>by cases A),fun _ _=>rfl⟩
 | c::cs,w,o,h=>by
   obtain ⟨J,h0⟩:=h 0 (by simp);have G:=World.cell?_setCell_same w ⟨Q,o,none⟩ c h0;have F:∀i,i≠o->(w.setCell ⟨Q,o,none⟩ c).cell? ⟨Q,i,none⟩=w.cell? ⟨Q,i,none⟩:=fun i D=>World.cell?_setCell_other _ _ _ _ (fun e=>D (congrArg Addr.off e).symm);obtain ⟨g,hc,E⟩:=zlg Q cs (w.setCell ⟨Q,o,none⟩ c) (o+1) (fun j A=>by
    obtain ⟨x,I⟩:=h (j+1) (by simpa using A);refine ⟨x,?_⟩;rw [F _ (by omega),show o+1+j=o+(j+1) by omega];exact I)
   refine ⟨(mf (World.grownBy.refl _ _) _ _ (Or.inl rfl)).trans g,fun j A=>?_,fun i D=>(E i (by omega)).trans (F i (by omega))⟩;cases j with
   | zero=>rw [Nat.add_zero,i9,E o (by omega)];exact G
   | succ j=>
     have:=hc j (by simpa using A);rw [show o+1+j=o+(j+1) by omega]at this;rw [i9,this];rfl
theorem zlh {w w':World} {Q:Nat} (h:w.grownBy w' (some Q)) {b j:Nat} (A:b<w.heap.size) (D:b≠Q):w'.frozen? ⟨b,j,none⟩=w.frozen? ⟨b,j,none⟩:=
 World.frozen?_of_block (a:=⟨b,j,none⟩) (h.block b A (by simp<;>omega))
structure AftN (n:Nat) (w w1:World):Prop where
 B:Below w.heap.size w w1
 a:∀j,j<n->∃x,w1.cell? ⟨w.heap.size+1,j,none⟩=some x
 az:∀j,w1.frozen? ⟨w.heap.size+1,j,none⟩=false
 f:∀j,j<2->∃x,w1.cell? ⟨w.heap.size+2,j,none⟩=some x
 fz:∀j,w1.frozen? ⟨w.heap.size+2,j,none⟩=false
 sz:w.heap.size+5<=w1.heap.size
theorem AftN.grown {n:Nat} {w F G:World} (h:AftN n w F) {q:Nat} (A:F.grownBy G (some (w.heap.size+q))) (J:3<=q):AftN n w G:=
 have I:=h.sz
 ⟨me h.B A (by omega),fun j D=>(h.a j D).imp fun _ E=>A.cell E (by simp<;>omega),fun j=>(zlh A (by omega) (by omega)).trans (h.az j),fun j D=>(h.f j D).imp fun _ E=>A.cell E (by simp<;>omega),fun j=>(zlh A (by omega) (by omega)).trans (h.fz j),lt3 I A.size⟩
theorem finN {n:Nat} {w E:World} (h:AftN n w E) (A:List Value) (X:A.length=n) (e p:Int) (o:Obj):∃W9,W9=(i9 (i9 E (w.heap.size+1) 0 A) (w.heap.size+1+1) 0 [.int .i64 e,.int .i64 p]).alloc o/\Below w.heap.size w W9/\Far w.heap.size (w.heap.size+5) E W9/\w.heap.size+5<=W9.heap.size/\
 (∀j,j<n->W9.cell? ⟨w.heap.size+1,j,none⟩=A[j]?)/\W9.cell? ⟨w.heap.size+1+1,0,none⟩=some (.int .i64 e)/\W9.cell? ⟨w.heap.size+1+1,1,none⟩=some (.int .i64 p):=by
 have Y:=h.sz;obtain ⟨I,V,-⟩:=zlg (w.heap.size+1) A E 0 (fun j F=>by rw [Nat.zero_add];exact h.a j (by omega));have Z:=I.size;generalize i9 E (w.heap.size+1) 0 A=W1 at*;obtain ⟨J,N,-⟩:=zlg (w.heap.size+1+1) [.int .i64 e,.int .i64 p] W1 0 (fun j F=>by
  rw [Nat.zero_add];obtain ⟨x,G⟩:=h.f j (by simpa using F);exact ⟨x,I.cell G (by simp)⟩)
 have s2:=J.size;have L:Below w.heap.size w _:=me (me h.B I (by omega)) J (by omega);have O:Far w.heap.size (w.heap.size+5) E _:=(Far.grown I (by omega) (by omega)).trans (Far.grown J (by omega) (by omega));have W:∀j,j<n->(i9 W1 (w.heap.size+1+1) 0 [.int .i64 e,.int .i64 p]).cell? ⟨w.heap.size+1,j,none⟩=A[j]? :=fun j F=>by have G:=V j (by omega);rw [Nat.zero_add]at G;have:A[j]? =some (A[j]'(by omega)):=List.getElem?_eq_getElem (by omega);rw [this]at G ⊢;exact J.cell G (by simp)
 generalize i9 W1 (w.heap.size+1+1) 0 [.int .i64 e,.int .i64 p]=W2 at*;have D:Below W2.heap.size W2 (W2.alloc o):=(br _ _).alloc (nlq _) _;refine ⟨_,rfl,L.trans (D.mono L.size),O.trans (Far.below D),by have:=D.size;omega,fun j F=>(D.cell (p:=⟨w.heap.size+1,j,none⟩) (by show w.heap.size+1<_;omega)).trans (W j F),?_,?_⟩
 ·exact (D.cell (p:=⟨w.heap.size+1+1,0,none⟩) (by show w.heap.size+1+1<_;omega)).trans (N 0 (by simp))
 exact (D.cell (p:=⟨w.heap.size+1+1,1,none⟩) (by show w.heap.size+1+1<_;omega)).trans (N 1 (by simp))
theorem setN {w:World} {R T:Nat} {zs:List Value} (h:w.heap[R]? =some (.cells zs.toArray T (0,0))) (A:List Value) (L:A.length=zs.length):
 ∃W9,i9 w R 0 A=W9/\w.grownBy W9 (some R)/\(∀k c,A[k]? =some c->W9.cell? ⟨R,k,none⟩=some c)/\(∀k z,zs[k]? =some z->w.cell? ⟨R,k,none⟩=some z)/\(∀j,w.frozen? ⟨R,j,none⟩=false)/\R<w.heap.size:=by
 have F:∀k z,zs[k]? =some z->w.cell? ⟨R,k,none⟩=some z:=fun k z I=>aw h k (by simpa using I);obtain ⟨G,hc,-⟩:=zlg R A w 0 (fun j J=>by
  rw [Nat.zero_add];exact ⟨zs[j]'(by omega),F j _ (List.getElem?_eq_getElem (by omega))⟩)
 refine ⟨_,rfl,G,fun k c E=>?_,F,fun j=>lj h j,bk h⟩;have D:k<A.length:=(List.getElem?_eq_some_iff.1 E).1;have:=hc k D;rw [Nat.zero_add]at this;rw [this,E]
theorem zli {w W:World} {s:Nat} (F:Below w.heap.size w W) (I:W.heap.size=s) (c:Array Value) (t:Nat):∃W0,W0=W.alloc (.cells c t)/\Below w.heap.size w W0/\W0.heap.size=s+1/\W0.heap[s]? =some (.cells c t (0,0))/\∀(b:Nat) (E:Obj),W.heap[b]? =some E->W0.heap[b]? =some E:=by
 have G:Below W.heap.size W (W.alloc (.cells c t)):=(br _ _).alloc (nlq _) _;refine ⟨_,rfl,F.trans (G.mono F.size),by rw [<-I];simp,by rw [<-I];exact heap_alloc_new W _,fun b E e=>(G.block b ?_).trans e⟩;rcases Nat.lt_or_ge b W.heap.size with D | A
 ·exact D
 rw [Array.getElem?_eq_none A]at e;cases e
theorem jw (w:World) (D:Array Value) (G:Nat):∃A,A=(w.alloc (.cells D G))/\Below w.heap.size w A/\A.heap.size=w.heap.size+1/\A.heap[w.heap.size]? =some (.cells D G (0,0)):=by obtain ⟨A,h0,E,F,k,-⟩:=zli (br w.heap.size w) rfl D G;exact ⟨A,h0,E,F,k⟩
theorem j7 (w:World) (D E:Array Value) (I J:Nat):∃A,A=((w.alloc (.cells D I)).alloc (.cells E J))/\Below w.heap.size w A/\A.heap.size=w.heap.size+1+1/\A.heap[w.heap.size]? =some (.cells D I (0,0))/\A.heap[w.heap.size+1]? =some (.cells E J (0,0)):=by obtain ⟨W,N,L,V,X⟩:=jw w D I;obtain ⟨A,h0,F,G,k,O⟩:=zli L V E J;exact ⟨A,by rw [h0,N],F,G,O _ _ X,k⟩
theorem boxes3 (w:World) (D E F:Array Value) (J L N:Nat):∃A,A=(((w.alloc (.cells D J)).alloc (.cells E L)).alloc (.cells F N))/\Below w.heap.size w A/\A.heap.size=w.heap.size+1+1+1/\A.heap[w.heap.size]? =some (.cells D J (0,0))/\A.heap[w.heap.size+1]? =some (.cells E L (0,0))/\A.heap[w.heap.size+1+1]? =some (.cells F N (0,0)):=by obtain ⟨W,X,V,Y,Z,k1⟩:=j7 w D E J L;obtain ⟨A,h0,G,I,k,O⟩:=zli V Y F N;exact ⟨A,by rw [h0,X],G,I,O _ _ Z,O _ _ k1,k⟩
theorem boxes4 (w:World) (D E F G:Array Value) (N O V X:Nat):∃A,A=((((w.alloc (.cells D N)).alloc (.cells E O)).alloc (.cells F V)).alloc (.cells G X))/\Below w.heap.size w A/\A.heap.size=w.heap.size+1+1+1+1/\A.heap[w.heap.size]? =some (.cells D N (0,0))/\A.heap[w.heap.size+1]? =some (.cells E O (0,0))/\A.heap[w.heap.size+1+1]? =some (.cells F V (0,0))/\A.heap[w.heap.size+1+1+1]? =some (.cells G X (0,0)):=by obtain ⟨W,Z,Y,hs,k0,k1,k2⟩:=boxes3 w D E F N O V;obtain ⟨A,h0,I,L,k,J⟩:=zli Y hs G X;exact ⟨A,by rw [h0,Z],I,L,J _ _ k0,J _ _ k1,J _ _ k2,k⟩
theorem boxes5 (w:World) (E F G I J:Array Value) (O V X Y Z:Nat):∃A,A=(((((w.alloc (.cells E O)).alloc (.cells F V)).alloc (.cells G X)).alloc (.cells I Y)).alloc (.cells J Z))/\Below w.heap.size w A/\A.heap.size=w.heap.size+1+1+1+1+1/\A.heap[w.heap.size]? =some (.cells E O (0,0))/\A.heap[w.heap.size+1]? =some (.cells F V (0,0))/\A.heap[w.heap.size+1+1]? =some (.cells G X (0,0))/\A.heap[w.heap.size+1+1+1]? =some (.cells I Y (0,0))/\A.heap[w.heap.size+1+1+1+1]? =some (.cells J Z (0,0)):=by obtain ⟨W,hW,hB,hs,k0,k1,k2,k3⟩:=boxes4 w E F G I O V X Y;obtain ⟨A,h0,L,N,k,D⟩:=zli hB hs J Z;exact ⟨A,by rw [h0,hW],L,N,D _ _ k0,D _ _ k1,D _ _ k2,D _ _ k3,k⟩
theorem boxes6 (w:World) (E F G I J L:Array Value) (V X Y Z t4 t5:Nat):∃A,A=((((((w.alloc (.cells E V)).alloc (.cells F X)).alloc (.cells G Y)).alloc (.cells I Z)).alloc (.cells J t4)).alloc (.cells L t5))/\Below w.heap.size w A/\A.heap.size=w.heap.size+1+1+1+1+1+1/\A.heap[w.heap.size]? =some (.cells E V (0,0))/\A.heap[w.heap.size+1]? =some (.cells F X (0,0))/\A.heap[w.heap.size+1+1]? =some (.cells G Y (0,0))/\A.heap[w.heap.size+1+1+1]? =some (.cells I Z (0,0))/\A.heap[w.heap.size+1+1+1+1]? =some (.cells J t4 (0,0))/\A.heap[w.heap.size+1+1+1+1+1]? =some (.cells L t5 (0,0)):=by obtain ⟨W,hW,hB,hs,k0,k1,k2,k3,k4⟩:=boxes5 w E F G I J V X Y Z t4;obtain ⟨A,h0,N,O,k,D⟩:=zli hB hs L t5;exact ⟨A,by rw [h0,hW],N,O,D _ _ k0,D _ _ k1,D _ _ k2,D _ _ k3,D _ _ k4,k⟩
end Go.Proofs.YtjdnmblggdobgaaGreat
