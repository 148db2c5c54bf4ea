import Derived.Test.YtjdnmblggdobgaaGreatJLSaLTie
namespace Go.Proofs.YtjdnmblggdobgaaGreat
open Go.RowKit Go.Maps
def kv (w:World) (Q:Nat):Nat->List Value->World
 | _,[]=>w
 | o,c::cs=>kv (w.setCell ⟨Q,o,none⟩ c) Q (o+1) cs
theorem zlg (Q:Nat):∀(cs:List Value) (w:World) (o:Nat),(∀j,j<cs.length->∃x,w.cell? ⟨Q,o+j,none⟩=some x)->w.grownBy (kv w Q o cs) (some Q)/\(∀j,j<cs.length->(kv w Q o cs).cell? ⟨Q,o+j,none⟩=cs[j]?)/\∀i,i<o->(kv w Q o cs).cell? ⟨Q,i,none⟩=w.cell? ⟨Q,i,none⟩
 | [],w,o,_=>⟨World.grownBy.refl _ _,(fun j u=>by cases u),fun _ _=>rfl⟩
 | c::cs,w,o,h=>by
   obtain ⟨G,h0⟩:=h 0 (by simp);have E:=World.cell?_setCell_same w ⟨Q,o,none⟩ c h0;have D:∀i,i≠o->(w.setCell ⟨Q,o,none⟩ c).cell? ⟨Q,i,none⟩=w.cell? ⟨Q,i,none⟩:=fun i hi=>World.cell?_setCell_other _ _ _ _ (fun e=>hi (congrArg Addr.off e).symm);obtain ⟨g,hc,A⟩:=zlg Q cs (w.setCell ⟨Q,o,none⟩ c) (o+1) (fun j u=>by
    obtain ⟨x,F⟩:=h (j+1) (by simpa using u);refine ⟨x,?_⟩;rw [D _ (by omega),show o+1+j=o+(j+1) by omega];exact F)
   refine ⟨(nh (World.grownBy.refl _ _) _ _ (Or.inl rfl)).trans g,fun j u=>?_,fun i hi=>(A i (by omega)).trans (D i (by omega))⟩;cases j with
   | zero=>rw [Nat.add_zero,kv,A o (by omega)];exact E
   | succ j=>
     have:=hc j (by simpa using u);rw [show o+1+j=o+(j+1) by omega]at this;rw [kv,this];rfl
theorem zlh {w w':World} {Q:Nat} (h:w.grownBy w' (some Q)) {b j:Nat} (u:b<w.heap.size) (A:b≠Q):w'.frozen? ⟨b,j,none⟩=w.frozen? ⟨b,j,none⟩:=
 World.frozen?_of_block (a:=⟨b,j,none⟩) (h.block b u (by simp<;>omega))
structure AftN (n:Nat) (w w1:World):Prop where
 B:Below w.heap.size w w1
 a:∀j,j<n->∃x,w1.cell? ⟨w.heap.size+1,j,none⟩=some x
 az:∀j,w1.frozen? ⟨w.heap.size+1,j,none⟩=false
 f:∀j,j<2->∃x,w1.cell? ⟨w.heap.size+2,j,none⟩=some x
 fz:∀j,w1.frozen? ⟨w.heap.size+2,j,none⟩=false
 sz:w.heap.size+5<=w1.heap.size
theorem AftN.grown {n:Nat} {w E F:World} (h:AftN n w E) {q:Nat} (u:E.grownBy F (some (w.heap.size+q))) (I:3<=q):AftN n w F:=
 have G:=h.sz
 ⟨nt h.B u (by omega),fun j A=>(h.a j A).imp fun _ D=>u.cell D (by simp<;>omega),fun j=>(zlh u (by omega) (by omega)).trans (h.az j),fun j A=>(h.f j A).imp fun _ D=>u.cell D (by simp<;>omega),fun j=>(zlh u (by omega) (by omega)).trans (h.fz j),lt3 G u.size⟩
theorem finN {n:Nat} {w D:World} (h:AftN n w D) (u:List Value) (W:u.length=n) (e p:Int) (o:Obj):∃W9,W9=(kv (kv D (w.heap.size+1) 0 u) (w.heap.size+1+1) 0 [.int .i64 e,.int .i64 p]).alloc o/\Below w.heap.size w W9/\Far w.heap.size (w.heap.size+5) D W9/\w.heap.size+5<=W9.heap.size/\
 (∀j,j<n->W9.cell? ⟨w.heap.size+1,j,none⟩=u[j]?)/\W9.cell? ⟨w.heap.size+1+1,0,none⟩=some (.int .i64 e)/\W9.cell? ⟨w.heap.size+1+1,1,none⟩=some (.int .i64 p):=by
 have X:=h.sz;obtain ⟨G,O,-⟩:=zlg (w.heap.size+1) u D 0 (fun j E=>by rw [Nat.zero_add];exact h.a j (by omega));have Y:=G.size;generalize kv D (w.heap.size+1) 0 u=W1 at*;obtain ⟨I,L,-⟩:=zlg (w.heap.size+1+1) [.int .i64 e,.int .i64 p] W1 0 (fun j E=>by
  rw [Nat.zero_add];obtain ⟨x,F⟩:=h.f j (by simpa using E);exact ⟨x,G.cell F (by simp)⟩)
 have Z:=I.size;have J:Below w.heap.size w _:=nt (nt h.B G (by omega)) I (by omega);have N:Far w.heap.size (w.heap.size+5) D _:=(Far.grown G (by omega) (by omega)).trans (Far.grown I (by omega) (by omega));have V:∀j,j<n->(kv W1 (w.heap.size+1+1) 0 [.int .i64 e,.int .i64 p]).cell? ⟨w.heap.size+1,j,none⟩=u[j]? :=fun j E=>by have F:=O j (by omega);rw [Nat.zero_add]at F;have:u[j]? =some (u[j]'(by omega)):=List.getElem?_eq_getElem (by omega);rw [this]at F ⊢;exact I.cell F (by simp)
 generalize kv W1 (w.heap.size+1+1) 0 [.int .i64 e,.int .i64 p]=W2 at*;have A:Below W2.heap.size W2 (W2.alloc o):=(br _ _).alloc (nlq _) _;refine ⟨_,rfl,J.trans (A.mono J.size),N.trans (Far.below A),by have:=A.size;omega,fun j E=>(A.cell (p:=⟨w.heap.size+1,j,none⟩) (by show w.heap.size+1<_;omega)).trans (V j E),?_,?_⟩
 ·exact (A.cell (p:=⟨w.heap.size+1+1,0,none⟩) (by show w.heap.size+1+1<_;omega)).trans (L 0 (by simp))
 exact (A.cell (p:=⟨w.heap.size+1+1,1,none⟩) (by show w.heap.size+1+1<_;omega)).trans (L 1 (by simp))
theorem setN {w:World} {R T:Nat} {zs:List Value} (h:w.heap[R]? =some (.cells zs.toArray T (0,0))) (u:List Value) (J:u.length=zs.length):
 ∃W9,kv w R 0 u=W9/\w.grownBy W9 (some R)/\(∀k c,u[k]? =some c->W9.cell? ⟨R,k,none⟩=some c)/\(∀k z,zs[k]? =some z->w.cell? ⟨R,k,none⟩=some z)/\(∀j,w.frozen? ⟨R,j,none⟩=false)/\R<w.heap.size:=by
 have E:∀k z,zs[k]? =some z->w.cell? ⟨R,k,none⟩=some z:=fun k z G=>ba h k (by simpa using G);obtain ⟨F,hc,-⟩:=zlg R u w 0 (fun j I=>by
  rw [Nat.zero_add];exact ⟨zs[j]'(by omega),E j _ (List.getElem?_eq_getElem (by omega))⟩)
 refine ⟨_,rfl,F,fun k c D=>?_,E,fun j=>nu h j,bz h⟩;have A:k<u.length:=(List.getElem?_eq_some_iff.1 D).1;have:=hc k A;rw [Nat.zero_add]at this;rw [this,D]
theorem zli {w W:World} {s:Nat} (E:Below w.heap.size w W) (G:W.heap.size=s) (c:Array Value) (t:Nat):∃W0,W0=W.alloc (.cells c t)/\Below w.heap.size w W0/\W0.heap.size=s+1/\W0.heap[s]? =some (.cells c t (0,0))/\∀(b:Nat) (D:Obj),W.heap[b]? =some D->W0.heap[b]? =some D:=by
 have F:Below W.heap.size W (W.alloc (.cells c t)):=(br _ _).alloc (nlq _) _;refine ⟨_,rfl,E.trans (F.mono E.size),by rw [<-G];simp,by rw [<-G];exact heap_alloc_new W _,fun b D e=>(F.block b ?_).trans e⟩;rcases Nat.lt_or_ge b W.heap.size with A | u
 ·exact A
 rw [Array.getElem?_eq_none u]at e;cases e
theorem kj (w:World) (A:Array Value) (F:Nat):∃u,u=(w.alloc (.cells A F))/\Below w.heap.size w u/\u.heap.size=w.heap.size+1/\u.heap[w.heap.size]? =some (.cells A F (0,0)):=by obtain ⟨u,h0,D,E,k,-⟩:=zli (br w.heap.size w) rfl A F;exact ⟨u,h0,D,E,k⟩
theorem nk (w:World) (A D:Array Value) (G I:Nat):∃u,u=((w.alloc (.cells A G)).alloc (.cells D I))/\Below w.heap.size w u/\u.heap.size=w.heap.size+1+1/\u.heap[w.heap.size]? =some (.cells A G (0,0))/\u.heap[w.heap.size+1]? =some (.cells D I (0,0)):=by obtain ⟨W,L,J,O,V⟩:=kj w A G;obtain ⟨u,h0,E,F,k,N⟩:=zli J O D I;exact ⟨u,by rw [h0,L],E,F,N _ _ V,k⟩
theorem boxes3 (w:World) (A D E:Array Value) (I J L:Nat):∃u,u=(((w.alloc (.cells A I)).alloc (.cells D J)).alloc (.cells E L))/\Below w.heap.size w u/\u.heap.size=w.heap.size+1+1+1/\u.heap[w.heap.size]? =some (.cells A I (0,0))/\u.heap[w.heap.size+1]? =some (.cells D J (0,0))/\u.heap[w.heap.size+1+1]? =some (.cells E L (0,0)):=by obtain ⟨W,V,O,X,Y,Z⟩:=nk w A D I J;obtain ⟨u,h0,F,G,k,N⟩:=zli O X E L;exact ⟨u,by rw [h0,V],F,G,N _ _ Y,N _ _ Z,k⟩
theorem boxes4 (w:World) (A D E F:Array Value) (L N O V:Nat):∃u,u=((((w.alloc (.cells A L)).alloc (.cells D N)).alloc (.cells E O)).alloc (.cells F V))/\Below w.heap.size w u/\u.heap.size=w.heap.size+1+1+1+1/\u.heap[w.heap.size]? =some (.cells A L (0,0))/\u.heap[w.heap.size+1]? =some (.cells D N (0,0))/\u.heap[w.heap.size+1+1]? =some (.cells E O (0,0))/\u.heap[w.heap.size+1+1+1]? =some (.cells F V (0,0)):=by obtain ⟨W,Y,X,Z,k0,k1,k2⟩:=boxes3 w A D E L N O;obtain ⟨u,h0,G,J,k,I⟩:=zli X Z F V;exact ⟨u,by rw [h0,Y],G,J,I _ _ k0,I _ _ k1,I _ _ k2,k⟩
theorem boxes5 (w:World) (D E F G I:Array Value) (N O V X Y:Nat):∃u,u=(((((w.alloc (.cells D N)).alloc (.cells E O)).alloc (.cells F V)).alloc (.cells G X)).alloc (.cells I Y))/\Below w.heap.size w u/\u.heap.size=w.heap.size+1+1+1+1+1/\u.heap[w.heap.size]? =some (.cells D N (0,0))/\u.heap[w.heap.size+1]? =some (.cells E O (0,0))/\u.heap[w.heap.size+1+1]? =some (.cells F V (0,0))/\u.heap[w.heap.size+1+1+1]? =some (.cells G X (0,0))/\u.heap[w.heap.size+1+1+1+1]? =some (.cells I Y (0,0)):=by obtain ⟨W,hW,Z,hs,k0,k1,k2,k3⟩:=boxes4 w D E F G N O V X;obtain ⟨u,h0,J,L,k,A⟩:=zli Z hs I Y;exact ⟨u,by rw [h0,hW],J,L,A _ _ k0,A _ _ k1,A _ _ k2,A _ _ k3,k⟩
theorem boxes6 (w:World) (D E F G I J:Array Value) (O V X Y Z t5:Nat):∃u,u=((((((w.alloc (.cells D O)).alloc (.cells E V)).alloc (.cells F X)).alloc (.cells G Y)).alloc (.cells I Z)).alloc (.cells J t5))/\Below w.heap.size w u/\u.heap.size=w.heap.size+1+1+1+1+1+1/\u.heap[w.heap.size]? =some (.cells D O (0,0))/\u.heap[w.heap.size+1]? =some (.cells E V (0,0))/\u.heap[w.heap.size+1+1]? =some (.cells F X (0,0))/\u.heap[w.heap.size+1+1+1]? =some (.cells G Y (0,0))/\u.heap[w.heap.size+1+1+1+1]? =some (.cells I Z (0,0))/\u.heap[w.heap.size+1+1+1+1+1]? =some (.cells J t5 (0,0)):=by obtain ⟨W,hW,hB,hs,k0,k1,k2,k3,k4⟩:=boxes5 w D E F G I O V X Y Z;obtain ⟨u,h0,L,N,k,A⟩:=zli hB hs J t5;exact ⟨u,by rw [h0,hW],L,N,A _ _ k0,A _ _ k1,A _ _ k2,A _ _ k3,A _ _ k4,k⟩
theorem afterG {n G A:Nat} {zs:List Value} (w D:World) (x:Value) (O:zs.length=n) (h:(((((w.alloc (.cells #[x] G)).alloc (.cells zs.toArray A)).alloc (.cells #[.int .i64 0,.int .i64 0] 84)).alloc (.cells zs.toArray A)).alloc (.cells #[.int .i64 0,.int .i64 0] 84)).grownBy D (some (w.heap.size+3))):D.heap[w.heap.size+4]? =some (.cells #[.int .i64 0,.int .i64 0] 84 (0,0))/\AftN n w D:=by
 subst O;obtain ⟨V,N,L,X,-,h1,I,-,J⟩:=boxes5 w #[x] zs.toArray #[.int .i64 0,.int .i64 0] zs.toArray #[.int .i64 0,.int .i64 0] G A 84 A 84;rw [<-N]at h;have E:=(h.block (w.heap.size+1) (by omega) (by simp)).trans h1;have F:=(h.block (w.heap.size+2) (by omega) (by simp)).trans I;have W:=h.size;refine ⟨(h.block (w.heap.size+4) (by omega) (by simp)).trans J,nt L h (by omega),fun j u=>?_,fun j=>nu E j,fun j u=>?_,fun j=>nu F j,by omega⟩
 ·exact ⟨_,ba E j (x:=zs[j]) (by rw [<-p2q (by simpa using u)];exact Array.getElem?_eq_getElem (by simpa using u))⟩
 exact ⟨_,ba F j (x:=[Value.int .i64 0,.int .i64 0][j]'(by simpa using u)) (by rw [<-p2q (by simpa using u)];exact Array.getElem?_eq_getElem (by simpa using u))⟩
end Go.Proofs.YtjdnmblggdobgaaGreat
