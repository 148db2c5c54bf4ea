import Derived.Test.YtjdnmblggdobgaaGreatJHsLHpT
import Derived.Test.YtjdnmblggdobgaaGreatJLLkLBas
set_option maxHeartbeats 4000000
set_option maxRecDepth 100000
namespace Go.Proofs.YtjdnmblggdobgaaGreat
open Go.RowKit Go.Maps
def btw (n a b:Int):Bool:=decide (a<=n)&&decide (n<=b)
theorem zkv (w:World) (n a b:Int):Calls Tryz.prog 78 #[.int .i64 n,.int .i64 a,.int .i64 b] w fun r w'=>r=.returned (.bool (btw n a b))/\w'=w:=by
 by_cases h0:a<=n
 ·by_cases h1:n<=b
  ·have u:Hid (btw n a b=true):=by show btw n a b=true;simp [btw,h0,h1]
   go_enter Tryz.func78,Tryz.ntmps78;go_wp2_with fail;go_ret;exact ⟨by rw [u.o];rfl,rfl⟩
  have u:Hid (btw n a b=false):=by show btw n a b=false;simp [btw,h1]
  go_enter Tryz.func78,Tryz.ntmps78;go_wp2_with fail;go_ret;exact ⟨by rw [u.o];rfl,rfl⟩
 have u:Hid (btw n a b=false):=by show btw n a b=false;simp [btw,h0]
 go_enter Tryz.func78,Tryz.ntmps78;go_wp2_with fail;go_ret;exact ⟨by rw [u.o];rfl,rfl⟩
theorem zkw (w:World) (B:Nat) (G L I J N:Value) (d:be) (F:ma (· <B) w G L I J N d) (u:Int) (hn:d.aj.length<=1000):
 Calls Tryz.prog 59 #[.agg #[G,L,I,J,N],.int .i64 u] w fun r w'=>r=.returned (.bool (eo d.aj.length u))/\Below w.heap.size w w':=by
 have D:∀o,Hid (Below w.heap.size w (w.alloc o)):=fun o=>(br _ _).alloc (nlq _) _;obtain ⟨O,Z,X,cS,V,cF,W,cN,Y,cT,rfl,rfl,rfl,rfl,rfl⟩:=F.agg;clear F;by_cases h1:1<=u
 ·have wn:IntKind.i64.wrap (3+(d.aj.length:Int))=3+d.aj.length:=ge _ (by omega) (by omega);by_cases E:u<3+d.aj.length
  ·have A:Hid (eo d.aj.length u=true):=by show eo _ _=true;simp [eo,h1,E]
   go_enter Tryz.func59,Tryz.ntmps59;go_wp2_with fail;go_ret;exact ⟨by rw [A.o];rfl,(D _).o⟩
  have A:Hid (eo d.aj.length u=false):=by show eo _ _=false;simp [eo,E]
  go_enter Tryz.func59,Tryz.ntmps59;go_wp2_with fail;go_ret;exact ⟨by rw [A.o];rfl,(D _).o⟩
 have A:Hid (eo d.aj.length u=false):=by show eo _ _=false;simp [eo,h1]
 go_enter Tryz.func59,Tryz.ntmps59;go_wp2_with fail;go_ret;exact ⟨by rw [A.o];rfl,(D _).o⟩
def rLenB (fs:List (List bo)) (tag n:Int):Bool:=btw n 0 500&&(decide (tag<3)||decide (n=(gw fs tag).length))
theorem zkx (w:World) (B:Nat) (kC kS kF kN kT:Value) (d:be) (G:ma (· <B) w kC kS kF kN kT d) (hB:B<=w.heap.size) (u n:Int) (ht:u<3+d.fields.length):
 Calls Tryz.prog 60 #[.agg #[kC,kS,kF,kN,kT],.int .i64 u,.int .i64 n] w fun r w'=>r=.returned (.bool (rLenB d.fields u n))/\Below w.heap.size w w':=by
 have J:∀o,Hid (Below w.heap.size w (w.alloc o)):=fun o=>(br _ _).alloc (nlq _) _;obtain ⟨aC,cC,aS,cS,aF,cF,aN,cN,aT,cT,rfl,rfl,rfl,rfl,rfl⟩:=G.agg;have A:Hid (∀W,Calls Tryz.prog 78 #[.int .i64 n,.int .i64 0,.int .i64 500] W fun r w'=>r=.returned (.bool (btw n 0 500))/\w'=W):=fun W=>zkv W n 0 500;have D:Hid (rLenB d.fields u n=(btw n 0 500&&(decide (u<3)||decide (n=(gw d.fields u).length)))):=rfl;cases hb:btw n 0 500 with
 | false=>
   rw [hb]at A D;have E:Hid (rLenB d.fields u n=false):=D.o.trans (by simp);clear G D hb;go_enter Tryz.func60,Tryz.ntmps60;go_wp2_with fail;refine (A.o _).mono ?_;rintro r _ ⟨rfl,rfl⟩;go_wp2_with fail;go_ret;exact ⟨by rw [E.o];rfl,(J _).o⟩
 | true=>
   rw [hb]at A D;by_cases h3:u<3
   ·have E:Hid (rLenB d.fields u n=true):=D.o.trans (by simp [h3]);clear G D hb;go_enter Tryz.func60,Tryz.ntmps60;go_wp2_with fail;refine (A.o _).mono ?_;rintro r _ ⟨rfl,rfl⟩;go_wp2_with fail;go_ret;exact ⟨by rw [E.o];rfl,(J _).o⟩
   obtain ⟨k,Y⟩:∃k:Nat,u=3+k:=⟨(u - 3).toNat,by omega⟩;subst Y;have I:k<d.fields.length:=by omega
   have O:=G.kept (Kp.below (((J (.cells #[.slice aC d.aj.length cC,.slice aS d.ax.length cS,.slice aF d.fields.length cF,.slice aN d.names.length cN,.slice aT d.aq.length cT] 36)).o.mono hB)));obtain ⟨bF,oF,aV,cV,rfl,ae,e1,sV⟩:=G.F.atSl k I;obtain ⟨ac,ai,aa,ad,ee,L,V,Z⟩:=O.F.atSl k I;have N:gw d.fields (3+k)=d.fields[k]:=by unfold gw;rw [show ((3+(k:Int)) - 3).toNat=k by omega];simp [I]
   rw [N]at D;have q1:(0:Int)<=k:=by omega
   have q2:(k:Int)<d.fields.length:=by omega
   have q3:3+(k:Int) - 3=k:=by omega
   have ah:d.fields[k].length<=9223372036854775807:=by obtain ⟨_,_,-,-,h,-⟩:=sV;unfold maxLen at h;omega
   have af:d.fields.length<=9223372036854775807:=by obtain ⟨_,_,-,-,h,-⟩:=G.F;unfold maxLen at h;omega
   clear sV Z N G O hb V ee L;generalize d.fields[k].length=fl at*;by_cases X:n=fl
   ·subst X;have E:Hid (rLenB d.fields (3+k) fl=true):=D.o.trans (by simp);clear D;go_enter Tryz.func60,Tryz.ntmps60;go_wp2_with fail;refine (A.o _).mono ?_;rintro r _ ⟨rfl,rfl⟩;go_wp2_with fail;go_ret;exact ⟨by rw [E.o];simp<;>omega,(J _).o⟩
   have h4:(n==(fl:Int))=false:=beq_eq_false_iff_ne.2 X;have E:Hid (rLenB d.fields (3+k) n=false):=D.o.trans (by simp [X];omega);clear D;go_enter Tryz.func60,Tryz.ntmps60;go_wp2_with fail;refine (A.o _).mono ?_;rintro r _ ⟨rfl,rfl⟩;go_wp2_with fail;go_ret;exact ⟨by rw [E.o];simp<;>omega,(J _).o⟩
theorem zky (w:World) (B:Nat) (X kS Y Z kT:Value) (d:be) (I:ma (· <B) w X kS Y Z kT d) (t:bp) (O:FitT d t) (n:Nat) (hn:(n:Int)<t.len):
 Calls Tryz.prog 31 #[.agg #[X,kS,Y,Z,kT],.int .i64 t.tag,.int .i64 (n:Int)] w fun r w'=>r=.returned (.bool (jh d.fields t n))/\Below w.heap.size w w':=by
 have u:=ag (fun o=>(br w.heap.size w).alloc (nlq _) o);obtain ⟨aC,cC,aS,cS,aF,cF,aN,cN,aT,cT,rfl,rfl,rfl,rfl,rfl⟩:=I.agg;obtain ⟨_,_,-,-,hm,-⟩:=I.F;unfold maxLen at hm;by_cases h1:3<=t.tag
 ·obtain ⟨G,W⟩:=O.tag h1;obtain ⟨k,J⟩:∃k:Nat,t.tag=3+k:=⟨(t.tag - 3).toNat,by omega⟩;have L:k<d.fields.length:=by omega
  obtain ⟨bF,oF,aV,cV,rfl,aa,e1,V⟩:=I.F.atSl k L;have A:gw d.fields t.tag=d.fields[k]:=by unfold gw;rw [J,show ((3+(k:Int)) - 3).toNat=k by omega];simp [L]
  rw [A]at W;have N:n<d.fields[k].length:=by omega
  obtain ⟨bV,oV,rfl,ac,-,e2,-⟩:=V.atF n N;have E:Hid (jh d.fields t n=decide (d.fields[k][n].kind.kind≠1)):=by show jh d.fields t n=_;rw [jh,if_pos h1,A];simp [N]
  have q1:(0:Int)<=k:=by omega
  have q2:(k:Int)<d.fields.length:=by omega
  have q4:(0:Int)<=n:=by omega
  have q6:((3:Int)+k==2)=false:=beq_eq_false_iff_ne.2 (by omega);have wk:IntKind.i64.wrap (k:Int)=k:=ge _ (by omega) (by omega);have af:IntKind.i64.wrap (3+(k:Int) - 3)=k:=(by rw [show 3+(k:Int) - 3=k by omega];exact wk);have q5:(n:Int)<d.fields[k].length:=by omega
  have ae:d.fields[k].length<=9223372036854775807:=by obtain ⟨_,_,-,-,h,-⟩:=V;unfold maxLen at h;omega
  generalize d.fields[k][n].kind.kind=kk at*;generalize d.fields[k].length=fl at*;clear V A I O W hn;rw [J]at*;by_cases D:kk=1
  ·subst D;go_enter Tryz.func31,Tryz.ntmps31;go_wp2_with fail;go_ret;exact ⟨by rw [E.o];rfl,u.o _⟩
  have ad:(kk==1)=false:=beq_eq_false_iff_ne.2 D;go_enter Tryz.func31,Tryz.ntmps31;go_wp2_with fail;go_ret;exact ⟨by rw [E.o];simp [D],u.o _⟩
 have E:Hid (jh d.fields t n=decide (t.tag=2)):=by show jh d.fields t n=_;rw [jh,if_neg h1]
 clear I O;by_cases G:t.tag=2
 ·have hb:(t.tag==2)=true:=beq_iff_eq.2 G;go_enter Tryz.func31,Tryz.ntmps31;go_wp2_with fail;go_ret;exact ⟨by rw [E.o];simp [G],u.o _⟩
 have hb:(t.tag==2)=false:=beq_eq_false_iff_ne.2 G;go_enter Tryz.func31,Tryz.ntmps31;go_wp2_with fail;go_ret;exact ⟨by rw [E.o];simp [G],u.o _⟩
theorem zkz (w:World) (M:Nat->Prop) (v:Value) (l:List Int) (I:SL 1 RI M w v l) (n:Int):
 Calls Tryz.prog 74 #[v,.int .i64 n] w fun r w'=>r=.returned (.bool (l.contains n))/\w'=w:=by
 have L:=ag I;obtain ⟨O,V,rfl,-,N,-⟩:=I;unfold maxLen at N;go_enter Tryz.func74,Tryz.ntmps74;go_wp2_with fail;go_loopw [5] (fun i wr=>∃k:Nat,k<=l.length/\i=.int .i64 k/\wr=w/\Hid ((l.take k).contains n=false)) (fun i _=>l.length - (intOf i).toNat)
 case atStart=>exact ⟨0,n0q _,rfl,rfl,by show (l.take 0).contains n=false;simp⟩
 case round=>
  obtain ⟨k,X,rfl,rfl,G⟩:=hrel;by_cases u:k<l.length
  ·obtain ⟨b,off,rfl,W,e⟩:=L.o.atI k u;have q1:(0:Int)<=k:=by omega
   have q2:(k:Int)<l.length:=by omega
   by_cases D:l[k]=n
   ·have F:(l[k]==n)=true:=beq_iff_eq.2 D;have J:Hid (l.contains n=true):=List.contains_iff_mem.2 (D ▸ gm u);generalize l[k]=x at*;go_wp2_with fail;go_ret;exact ⟨by rw [J.o];rfl,rfl⟩
   have F:(l[k]==n)=false:=beq_eq_false_iff_ne.2 D;have E:Hid ((l.take (k+1)).contains n=false):=by
    show (l.take (k+1)).contains n=false;have h0:=G.o;rw [List.take_succ_eq_append_getElem u];rw [<-Bool.not_eq_true,List.contains_iff_mem]at h0 ⊢;intro A;rcases List.mem_append.1 A with A | A
    ·exact h0 A
    simp at A;exact D A.symm
   generalize l[k]=x at*;go_wp2_with fail;go_roundw
   case rel=>exact ⟨k+1,by omega,by go_num,trivial,E.o⟩
   case measure=>simp [intOf];omega
  have E:Hid (l.contains n=false):=by have h0:=G.o;rw [List.take_of_length_le (by omega)]at h0;exact h0
  go_wp2_with fail;go_ret;exact ⟨by rw [E.o];rfl,rfl⟩
structure Rd (P B:Nat) (w:World) (vW vO kC kS kF kN kT:Value) (h:bd) (d:be):Prop where
 le:B<=P
 b0:w.heap[P]? =some (.cells #[vW,.int .i64 h.ae,.int .i64 h.old,.int .i64 h.bg,.int .i64 h.bk,vO,.int .i64 h.next] 24 (0,0))
 b1:w.heap[P+1]? =some (.cells #[kC,kS,kF,kN,kT] 36 (0,0))
 sW:SL 1 RI (· <B) w vW h.ab
 sO:SL 1 RI (· <B) w vO h.ap
 lk:ma (· <B) w kC kS kF kN kT d
theorem Rd.below {P B:Nat} {w w':World} {L J D G E F I:Value} {h:bd} {d:be} (r:Rd P B w L J D G E F I h d) (u:Below w.heap.size w w'):Rd P B w' L J D G E F I h d:=
 have N:=bz r.b0;have A:=Kp.below (u.mono (by have:=r.le;omega:B<=w.heap.size))
 ⟨r.le,(u.block _ N).trans r.b0,(u.block _ (bz r.b1)).trans r.b1,r.sW.keptI A,r.sO.keptI A,r.lk.kept A⟩
theorem Rd.new (w:World) (B:Nat) (I G u E A D F:Value) (h:bd) (d:be) (L:B<=w.heap.size) (W:SL 1 RI (· <B) w I h.ab) (V:SL 1 RI (· <B) w G h.ap) (O:ma (· <B) w u E A D F d):
 Rd w.heap.size B ((w.alloc (.cells #[I,.int .i64 h.ae,.int .i64 h.old,.int .i64 h.bg,.int .i64 h.bk,G,.int .i64 h.next] 24)).alloc (.cells #[u,E,A,D,F] 36)) I G u E A D F h d:=by
 have N:Below w.heap.size w ((w.alloc (.cells #[I,.int .i64 h.ae,.int .i64 h.old,.int .i64 h.bg,.int .i64 h.bk,G,.int .i64 h.next] 24)).alloc (.cells #[u,E,A,D,F] 36)):=((br _ _).alloc (nlq _) _).alloc (by simp) _;have J:=Kp.below (N.mono L);refine ⟨L,(Below.heap_alloc _ _ _ (by simp)).trans (heap_alloc_new w _),?_,W.keptI J,V.keptI J,O.kept J⟩;have:=heap_alloc_new (w.alloc (.cells #[I,.int .i64 h.ae,.int .i64 h.old,.int .i64 h.bg,.int .i64 h.bk,G,.int .i64 h.next] 24)) (.cells #[u,E,A,D,F] 36);simpa using this
theorem zk0 {fs:List (List bo)} {u n:Int} (A:∀f∈fs,f.length<=500):rLenB fs u n=dh fs u n:=by
 unfold rLenB dh btw;by_cases D:3<=u
 ·rw [if_pos D];have E:(gw fs u).length<=500:=by
   unfold gw;cases hx:fs[(u - 3).toNat]? with
   | none=>simp
   | some f=>exact A f (List.mem_of_getElem? hx)
  rw [Bool.eq_iff_iff];simp;omega
 rw [if_neg D];rw [Bool.eq_iff_iff];simp;omega
def FromOut (w:World) (o:Option (List bp)) (r:Ending) (w':World):Prop:=
 (∃ts v,o=some ts/\r=.returned (.tuple #[v,.bool true])/\w'.ownsRow w.heap.size 3 1 v (ts.map bp.loc).length (bv (ts.map bp.loc)))\/(o=none/\∃a n c,r=.returned (.tuple #[.slice a n c,.bool false]))
theorem zk1 (w:World) (B:Nat) (vW vO kC kS kF kN kT:Value) (h:bd) (d:be) (sW:SL 1 RI (· <B) w vW h.ab) (sO:SL 1 RI (· <B) w vO h.ap) (lk:ma (· <B) w kC kS kF kN kT d) (hB:B<=w.heap.size)
 (E:Nat) (D:Int) (ct:(E:Int)<=D) (c8:D<=5000) (ht:D<=h.ab.length) (b4:d.fields.length=d.aj.length) (b5:∀f∈d.fields,f.length<=500) (co:d.aj.length<=1000):
 Calls Tryz.prog 129 #[.agg #[vW,.int .i64 h.ae,.int .i64 h.old,.int .i64 h.bg,.int .i64 h.bk,vO,.int .i64 h.next],.agg #[kC,kS,kF,kN,kT],.int .i64 (E:Int),.int .i64 D] w fun r w'=>Below w.heap.size w w'/\FromOut w (b9 d.aj.length d.fields h.ab E D) r w':=by
 obtain ⟨iI,cs,cc,ce,cf⟩:=info_parts Tryz.infoInt;obtain ⟨G,an⟩:∃G,G=(w.alloc (.cells #[vW,.int .i64 h.ae,.int .i64 h.old,.int .i64 h.bg,.int .i64 h.bk,vO,.int .i64 h.next] 24)).alloc (.cells #[kC,kS,kF,kN,kT] 36):=⟨_,rfl⟩;have b6:Rd w.heap.size B G vW vO kC kS kF kN kT h d:=an ▸ Rd.new w B _ _ _ _ _ _ _ h d hB sW sO lk;have bx:Below w.heap.size w G:=an ▸ ((br _ _).alloc (nlq _) _).alloc (by simp) _;have bi:G.heap.size=w.heap.size+2:=by rw [an];simp
 have a7:=ag b6;have bn:=ag bx;have ch:=ag an;have az:=ag bi;have av:=ag (And.intro b4 (And.intro b5 co));obtain ⟨aC,cC,aS,cS,aF,cF,aN,cN,aT,cT,rfl,rfl,rfl,rfl,rfl⟩:=lk.agg;have HM:Hid (∃a c,vW=.slice a h.ab.length c/\h.ab.length<=9223372036854775807):=by obtain ⟨a,c,e,-,hm,-⟩:=sW;exact ⟨a,c,e,by unfold maxLen at hm;omega⟩
 clear b6 bx an sW sO lk b4 b5 bi;go_enter Tryz.func129,Tryz.ntmps129;go_wp2_with fail;rw [<-ch.o];go_loopw [2,10] (fun i v wr=>∃(A:Nat) (F:List bp),i=.int .i64 A/\A<=10000/\F.length<=A/\Hid (wr.ownsRow G.heap.size 3 1 v (F.map bp.loc).length (bv (F.map bp.loc))/\Below G.heap.size G wr/\
  (((A:Int)<=D/\b9 d.aj.length d.fields h.ab E D=(b9 d.aj.length d.fields h.ab A D).map (F++ ·))\/(D<A/\b9 d.aj.length d.fields h.ab E D=none)))) (fun i _ _=>(D - intOf i).toNat)
 case atStart=>exact ⟨E,[],rfl,by omega,n0q _,World.ownsRow_nil _ _ _ _,br _ _,Or.inl ⟨ct,by cases b9 d.aj.length d.fields h.ab E D<;>rfl⟩⟩
 case round=>
  obtain ⟨A,F,rfl,hl,c7,J⟩:=hrel;by_cases af:(A:Int)<D
  ·have ca:b9 d.aj.length d.fields h.ab E D=(b9 d.aj.length d.fields h.ab A D).map (F++ ·):=by
    rcases J.o.2.2 with hx | hx
    ·exact hx.2
    exact absurd hx.1 (by omega)
   have I:=ag ca;clear ca;have N:=a7.o.below J.o.2.1;obtain ⟨aW,cW,rfl,c3⟩:=HM.o;have b7:=J.o.2.1.size;have aa:Hid (∀V,Below wr.heap.size wr V->Below w.heap.size w V):=fun V hV=>bn.o.trans ((J.o.2.1.trans (hV.mono b7)).mono (by have:=az.o;omega));by_cases h3:(A:Int)+3<=D
   ·have c2:A+2<h.ab.length:=by omega
    obtain ⟨W,oW,rfl,bf,e0⟩:=N.sW.atI A (by omega);obtain ⟨c0,dd,ee,-,e1⟩:=N.sW.atI (A+1) (by omega);cases ee;have cm:W<wr.heap.size:=bf;have q0:(0:Int)<=A:=by omega
    have q1:(A:Int)<h.ab.length:=by omega
    have q2:(0:Int)<=(A:Int)+1:=by omega
    have q3:(A:Int)+1<h.ab.length:=by omega
    have q6:((A:Int)+1).toNat=A+1:=by omega
    have w1:IntKind.i64.wrap ((A:Int)+1)=(A:Int)+1:=ge _ (by omega) (by omega);have w3:IntKind.i64.wrap ((A:Int)+3)=(A:Int)+3:=ge _ (by omega) (by omega);have cp:decide (D<(A:Int)+3)=false:=by simp;omega
    have a0:Hid (h.ab[A]=wd h.ab A/\h.ab[A+1]=wd h.ab ((A:Int)+1)):=⟨(zen (by omega)).symm,by rw [show (A:Int)+1=((A+1:Nat):Int) by omega];exact (zen (by omega)).symm⟩;have ao:Nonempty (Gr wr.heap.size wr):=⟨⟨wr,br _ _⟩⟩;have l0:=bz N.b0;have l1:=bz N.b1;have k0:∀g:Gr wr.heap.size wr,g.w.cell? ⟨w.heap.size,0,none⟩=some (.slice (some ⟨W,oW,none⟩) h.ab.length cW):=fun g=>(g.ok.cell (p:=⟨w.heap.size,0,none⟩) l0).trans (ba N.b0 0 rfl);have y0:∀g:Gr wr.heap.size wr,g.w.cell? ⟨w.heap.size+1,0,none⟩=some (.slice aC d.aj.length cC):=fun g=>(g.ok.cell (p:=⟨w.heap.size+1,0,none⟩) l1).trans (ba N.b1 0 rfl);have y1:∀g:Gr wr.heap.size wr,g.w.cell? ⟨w.heap.size+1,1,none⟩=some (.slice aS d.ax.length cS):=fun g=>(g.ok.cell (p:=⟨w.heap.size+1,1,none⟩) l1).trans (ba N.b1 1 rfl);have y2:∀g:Gr wr.heap.size wr,g.w.cell? ⟨w.heap.size+1,2,none⟩=some (.slice aF d.fields.length cF):=fun g=>(g.ok.cell (p:=⟨w.heap.size+1,2,none⟩) l1).trans (ba N.b1 2 rfl);have y3:∀g:Gr wr.heap.size wr,g.w.cell? ⟨w.heap.size+1,3,none⟩=some (.slice aN d.names.length cN):=fun g=>(g.ok.cell (p:=⟨w.heap.size+1,3,none⟩) l1).trans (ba N.b1 3 rfl);have y4:∀g:Gr wr.heap.size wr,g.w.cell? ⟨w.heap.size+1,4,none⟩=some (.slice aT d.aq.length cT):=fun g=>(g.ok.cell (p:=⟨w.heap.size+1,4,none⟩) l1).trans (ba N.b1 4 rfl);have a9:∀g:Gr wr.heap.size wr,g.w.cell? ⟨W,oW+A,none⟩=some (.int .i64 h.ab[A]):=fun g=>(g.ok.cell (p:=⟨W,oW+A,none⟩) bf).trans e0;have bb:∀g:Gr wr.heap.size wr,g.w.cell? ⟨W,oW+(A+1),none⟩=some (.int .i64 h.ab[A+1]):=fun g=>(g.ok.cell (p:=⟨W,oW+(A+1),none⟩) bf).trans e1;have lb:∀g:Gr wr.heap.size wr,w.heap.size<g.w.heap.size:=fun g=>ll3 l0 g.ok.size;have bl:∀g:Gr wr.heap.size wr,w.heap.size+1<g.w.heap.size:=fun g=>ll3 l1 g.ok.size;have L:Hid (∀g:Gr wr.heap.size wr,Calls Tryz.prog 59 #[.agg #[.slice aC d.aj.length cC,.slice aS d.ax.length cS,.slice aF d.fields.length cF,.slice aN d.names.length cN,.slice aT d.aq.length cT],.int .i64 h.ab[A]] g.w fun e bm=>e=.returned (.bool (eo d.aj.length h.ab[A]))/\∃g':Gr wr.heap.size wr,bm=g'.w):=fun g=>Gr.calls g (nlq _) (zkw g.w B _ _ _ _ _ d (N.below g.ok).lk _ av.o.2.2);have a6:Hid (eo d.aj.length h.ab[A]=true->∀g:Gr wr.heap.size wr,Calls Tryz.prog 60 #[.agg #[.slice aC d.aj.length cC,.slice aS d.ax.length cS,.slice aF d.fields.length cF,.slice aN d.names.length cN,.slice aT d.aq.length cT],.int .i64 h.ab[A],.int .i64 h.ab[A+1]] g.w fun e bm=>e=.returned (.bool (dh d.fields h.ab[A] h.ab[A+1]))/\∃g':Gr wr.heap.size wr,bm=g'.w):=fun hb g=>by
     have cv:h.ab[A]<3+(d.fields.length:Int):=by unfold eo at hb;rw [Bool.and_eq_true]at hb;rw [av.o.1];exact of_decide_eq_true hb.2
     rw [<-zk0 av.o.2.1];exact Gr.calls g (nlq _) (zkx g.w B _ _ _ _ _ d (N.below g.ok).lk (by have:=(N.below g.ok).le;have:=bz (N.below g.ok).b0;omega) _ _ cv)
    have O:Hid (ip d.aj.length d.fields h.ab A D=(eo d.aj.length h.ab[A]&&dh d.fields h.ab[A] h.ab[A+1]&&decide ((bj h.ab A).fin<=D))):=by show ip _ _ _ _ _=_;rw [ip,a0.o.1,a0.o.2,decide_eq_true h3,Bool.true_and]
    have ac:Hid ((bj h.ab A).fin=A+3+h.ab[A+1]):=by show A+3+wd h.ab ((A:Int)+1)=_;rw [a0.o.2]
    have bu:Hid ((bj h.ab A).loc=A):=rfl;have aw:Hid (dh d.fields h.ab[A] h.ab[A+1]=true->0<=h.ab[A+1]/\h.ab[A+1]<=500):=fun hb=>by rw [<-zk0 av.o.2.1]at hb;unfold rLenB btw at hb;simp only [Bool.and_eq_true,decide_eq_true_eq]at hb;exact hb.1
    have ay:=ag (ba N.b0 0 (x:=.slice (some ⟨W,oW,none⟩) h.ab.length cW) rfl);clear N e0 a0;generalize h.ab[A]=x0 at*;generalize h.ab[A+1]=x1 at*;cases hT:eo d.aj.length x0 with
    | false=>
      have ak:Hid (b9 d.aj.length d.fields h.ab E D=none):=by show _=_;rw [I.o,zeu af (by rw [O.o,hT];simp)];rfl
      rw [hT]at L;clear a6 O ac aw J I e1 ay bu;go_wp2_with fail;refine zev wr.heap.size wr (by kernel_rfl) (by kernel_rfl) (br _ _) ?_
      repeat (go_big_quiet_step (first | (go_at_call 59;exact L.o _)))
      refine wpQuiet_nil ?_;intro _ Z;obtain ⟨g,rfl⟩:=Z;have ai:=ag (aa.o _ g.ok);generalize g.w=w2 at*;clear k0 y0 y1 y2 y3 y4 a9 bb lb bl ao L;go_wp2_with fail
      go_ret2
      exact ⟨ai.o,Or.inr ⟨ak.o,_,_,_,rfl⟩⟩
    | true=>
      rw [hT]at L;have ad:=ag (a6.o hT);clear a6;cases hM:dh d.fields x0 x1 with
      | false=>
        have ak:Hid (b9 d.aj.length d.fields h.ab E D=none):=by show _=_;rw [I.o,zeu af (by rw [O.o,hM];simp)];rfl
        rw [hM]at ad;clear O ac aw J I e1 ay bu;go_wp2_with fail;refine zev wr.heap.size wr (by kernel_rfl) (by kernel_rfl) (br _ _) ?_
        repeat (go_big_quiet_step (first | (go_at_call 59;exact L.o _) | (go_at_call 60;exact ad.o _)))
        refine wpQuiet_nil ?_;intro _ Z;obtain ⟨g,rfl⟩:=Z;have ai:=ag (aa.o _ g.ok);generalize g.w=w2 at*;clear k0 y0 y1 y2 y3 y4 a9 bb lb bl ao L ad;go_wp2_with fail
        go_ret2
        exact ⟨ai.o,Or.inr ⟨ak.o,_,_,_,rfl⟩⟩
      | true=>
        rw [hM]at ad;obtain ⟨c9,da⟩:=aw.o hM;have cj:Hid (((A:Int)+3+x1<=D/\b9 d.aj.length d.fields h.ab E D=(b9 d.aj.length d.fields h.ab (A+3+x1) D).map ((F++ [bj h.ab A])++ ·))\/(D<(A:Int)+3+x1/\b9 d.aj.length d.fields h.ab E D=none)):=by
         by_cases bh:(A:Int)+3+x1<=D
         ·refine Or.inl ⟨bh,?_⟩;rw [I.o,zet af (by rw [O.o,hT,hM,ac.o];simp [bh]),ac.o];cases b9 d.aj.length d.fields h.ab (A+3+x1) D with
          | none=>rfl
          | some l=>simp
         refine Or.inr ⟨by omega,?_⟩;rw [I.o,zeu af (by rw [O.o,hT,hM,ac.o];simp [bh])];rfl
        have a4:=ag (And.intro J.o.1 J.o.2.1);have bq:=ag e1;clear O ac aw J I e1;go_wp2_with fail;refine zev wr.heap.size wr (by kernel_rfl) (by kernel_rfl) (br _ _) ?_
        repeat (go_big_quiet_step (first | (go_at_call 59;exact L.o _) | (go_at_call 60;exact ad.o _)))
        refine wpQuiet_nil ?_;intro _ Z;obtain ⟨g,rfl⟩:=Z;have hg:=g.ok;generalize g.w=w2 at*;clear k0 y0 y1 y2 y3 y4 a9 bb lb bl ao L ad;have Y:=kg a4.o.1 hg;have bc:Below G.heap.size G w2:=a4.o.2.trans (hg.mono b7);have c4:=hg.size;have r0:=(hg.cell (p:=⟨w.heap.size,0,none⟩) l0).trans ay.o;have r1:=(hg.cell (p:=⟨W,oW+(A+1),none⟩) cm).trans bq.o;have l2:w.heap.size<w2.heap.size:=by omega
        have l3:W<w2.heap.size:=by omega
        have w4:IntKind.i64.wrap (3+x1)=3+x1:=ge _ (by omega) (by omega);have w5:IntKind.i64.wrap ((A:Int)+(3+x1))=(A:Int)+(3+x1):=ge _ (by omega) (by omega);generalize hlc:F.map bp.loc=acc at*;have b2:acc.length=F.length:=by rw [<-hlc];simp
        obtain ⟨a5,c5,rfl⟩:=kh Y;have al:=ag Y;have ah:=ag bc;have a1:=ag (And.intro r0 r1);have au:Hid (acc.length+1<=maxLen/\(acc.length+1)*8<=140737488355328/\G.heap.size<=(w2.alloc (.cells #[.int .i64 A] 3)).heap.size):=⟨by unfold maxLen;omega,by omega,by have:=bc.size;simp;omega⟩;have cy:=ag b2;have ci:=ag hlc;have bs:Hid (∀(w3:World),(w2.alloc (.cells #[.int .i64 A] 3)).grownBy w3 (Value.slice a5 acc.length c5).ownBlock->w3.cell? ⟨w.heap.size,0,none⟩=some (.slice (some ⟨W,oW,none⟩) h.ab.length cW)/\w3.cell? ⟨W,oW+(A+1),none⟩=some (.int .i64 x1)/\w.heap.size<w3.heap.size/\W<w3.heap.size/\Below G.heap.size G w3):=fun w3 cr=>by
         have cu:∀k,(Value.slice a5 acc.length c5).ownBlock=some k->G.heap.size<=k:=fun k e=>(al.o.lt k e).1;have X:Below G.heap.size G w3:=(ah.o.alloc (by have:=ah.o.size;omega) _).grown cr (by have:=ah.o.size;simp;omega) (fun k e=>cu k e);have c6:=X.size;have bi:=az.o;have a2:W<G.heap.size:=by obtain ⟨_,_,e,-,-,hh⟩:=a7.o.sW;obtain ⟨b',_,_,e',c1,cl,_⟩:=hh A (by omega);cases e;cases e';exact cl
         refine ⟨(X.cell (p:=⟨w.heap.size,0,none⟩) (by show w.heap.size<_;omega)).trans (ba a7.o.b0 0 rfl),?_,by omega,by omega,X⟩;exact (X.cell (p:=⟨W,oW+(A+1),none⟩) a2).trans ((ah.o.cell (p:=⟨W,oW+(A+1),none⟩) a2).symm.trans a1.o.2)
        clear r0 r1 Y bc hg b2 hlc a4 bq ay;go_wp2_with (at_builtin;refine wpList_append_lies _ rfl _ _ 22 rfl G.heap.size 3 iI (.int .i64 0) 1 8 Tryz.underlying22 cs cc ce cf rfl (by decide) (.slice a5 acc.length c5) acc.length (bv acc) rfl (al.o.alloc _) ⟨w2.heap.size,0,none⟩ 1 1 [.int .i64 A] rfl rfl (World.news_of_block (heap_alloc_new w2 _)) (by intro u hu;simp at hu;subst hu;rfl) (by omega) au.o.1 au.o.2.1 au.o.2.2 _ rfl ?_);intro gA cA w3 ar a3 _ cx;obtain ⟨r0,r1,l4,l5,X⟩:=bs.o w3 a3;have HF:Hid (w3.ownsRow G.heap.size 3 1 (.slice (some ⟨gA,0,none⟩) (acc.length+1) cA) ((F++ [bj h.ab A]).map bp.loc).length (bv ((F++ [bj h.ab A]).map bp.loc))/\Below G.heap.size G w3):=by rw [List.map_append,ci.o,List.length_append,ziq];exact ⟨ar,X⟩
        clear ar a3 X bs al ah au a1;go_wp2_with fail;go_roundw
        case rel=>
         refine ⟨(A+3+x1.toNat),F++ [bj h.ab A],?_,by omega,by simp;omega,HF.o.1,HF.o.2,?_⟩
         ·have:((A+3+x1.toNat:Nat):Int)=(A:Int)+(3+x1):=by omega
          rw [this]
         have e:((A+3+x1.toNat:Nat):Int)=(A:Int)+3+x1:=by omega
         rw [e];exact cj.o
        case measure=>simp [intOf];omega
   have ak:Hid (b9 d.aj.length d.fields h.ab E D=none):=by show _=_;rw [I.o,zeu af (by rw [ip,decide_eq_false h3];simp)];rfl
   have w3:IntKind.i64.wrap ((A:Int)+3)=(A:Int)+3:=ge _ (by omega) (by omega);have cp:decide (D<(A:Int)+3)=true:=by simp;omega
   have ao:Nonempty (Gr wr.heap.size wr):=⟨⟨wr,br _ _⟩⟩;clear J I N;go_wp2_with fail;refine zev wr.heap.size wr (by kernel_rfl) (by kernel_rfl) (br _ _) ?_
   repeat (go_big_quiet_step (fail))
   refine wpQuiet_nil ?_;intro _ Z;obtain ⟨g,rfl⟩:=Z;have ai:=ag (aa.o _ g.ok);generalize g.w=w2 at*;clear ao;go_wp2_with fail
   go_ret2
   exact ⟨ai.o,Or.inr ⟨ak.o,_,_,_,rfl⟩⟩
  have aa:Hid (Below w.heap.size w wr):=bn.o.trans (J.o.2.1.mono (by have:=az.o;omega));by_cases b3:(A:Int)=D
  ·have a8:Hid (b9 d.aj.length d.fields h.ab E D=some F):=by
    rcases J.o.2.2 with hx | hx
    ·show _=_;rw [hx.2,zes af];simp
    exact absurd hx.1 (by omega)
   have al:=ag J.o.1;have cn:((A:Int)==D)=true:=beq_iff_eq.2 b3;clear J;go_wp2_with fail
   go_ret2
   exact ⟨aa.o,Or.inl ⟨F,_,a8.o,rfl,zhp al.o (by have:=az.o;omega)⟩⟩
  have a8:Hid (b9 d.aj.length d.fields h.ab E D=none):=by
   rcases J.o.2.2 with hx | hx
   ·exact absurd hx.1 (by omega)
   exact hx.2
  have cn:((A:Int)==D)=false:=beq_eq_false_iff_ne.2 b3;obtain ⟨a5,c5,rfl⟩:=kh J.o.1;clear J;go_wp2_with fail
  go_ret2
  exact ⟨aa.o,Or.inr ⟨a8.o,_,_,_,rfl⟩⟩
theorem znq (w:World) (B:Nat) (vW vO kC kS kF kN kT:Value) (h:bd) (d:be) (sW:SL 1 RI (· <B) w vW h.ab) (sO:SL 1 RI (· <B) w vO h.ap) (lk:ma (· <B) w kC kS kF kN kT d) (hB:B<=w.heap.size)
 (A:Nat) (hl:A+2<h.ab.length) (bx:h.ab.length<=100000) (hf:FitT d (bj h.ab A)):
 Calls Tryz.prog 87 #[.agg #[vW,.int .i64 h.ae,.int .i64 h.old,.int .i64 h.bg,.int .i64 h.bk,vO,.int .i64 h.next],.agg #[kC,kS,kF,kN,kT],.int .i64 (A:Int)] w fun r w'=>Below w.heap.size w w'/\∃v,r=.returned v/\w'.ownsRow w.heap.size 3 1 v (refsOf d.fields (bj h.ab A)).length (bv (refsOf d.fields (bj h.ab A))):=by
 obtain ⟨iI,bh,ay,az,a0⟩:=info_parts Tryz.infoInt;obtain ⟨D,W⟩:∃D,D=(w.alloc (.cells #[vW,.int .i64 h.ae,.int .i64 h.old,.int .i64 h.bg,.int .i64 h.bk,vO,.int .i64 h.next] 24)).alloc (.cells #[kC,kS,kF,kN,kT] 36):=⟨_,rfl⟩;have ai:Rd w.heap.size B D vW vO kC kS kF kN kT h d:=W ▸ Rd.new w B _ _ _ _ _ _ _ h d hB sW sO lk;have ar:Below w.heap.size w D:=W ▸ ((br _ _).alloc (nlq _) _).alloc (by simp) _;have aw:D.heap.size=w.heap.size+2:=by rw [W];simp
 have ad:=ag ai;have a3:=ag ar;have a4:=ag W;have ao:=ag aw;have a6:=ag hf;obtain ⟨aC,cC,aS,cS,aF,cF,aN,cN,aT,cT,rfl,rfl,rfl,rfl,rfl⟩:=lk.agg;obtain ⟨aW,cW,rfl,-,hm,-⟩:=sW;unfold maxLen at hm;obtain ⟨bW,oW,rfl,bf,-⟩:=ai.sW.atI A (by omega);have af:Hid (h.ab[A]=(bj h.ab A).tag/\h.ab[A+1]=(bj h.ab A).len):=⟨(zen (by omega)).symm,by show _=wd h.ab ((A:Int)+1);rw [show (A:Int)+1=((A+1:Nat):Int) by omega];exact (zen (by omega)).symm⟩;have a9:Hid ((bj h.ab A).loc=A):=rfl;have a8:Hid (refsOf d.fields (bj h.ab A)=jx d.fields (bj h.ab A) (bj h.ab A).len.toNat):=rfl;have bq:=hf.lo;have bn:=hf.hi;have q0:(0:Int)<=A:=by omega
 have q1:(A:Int)<h.ab.length:=by omega
 have q2:(0:Int)<=(A:Int)+1:=by omega
 have q3:(A:Int)+1<h.ab.length:=by omega
 have q6:((A:Int)+1).toNat=A+1:=by omega
 have w1:IntKind.i64.wrap ((A:Int)+1)=(A:Int)+1:=ge _ (by omega) (by omega);have w3:IntKind.i64.wrap ((A:Int)+3)=(A:Int)+3:=ge _ (by omega) (by omega);have N:Hid (∀V,Below D.heap.size D V->V.cell? ⟨w.heap.size,0,none⟩=some (.slice (some ⟨bW,oW,none⟩) h.ab.length cW)/\V.cell? ⟨bW,oW+A,none⟩=some (.int .i64 (bj h.ab A).tag)/\V.cell? ⟨bW,oW+(A+1),none⟩=some (.int .i64 (bj h.ab A).len)/\w.heap.size<V.heap.size/\bW<V.heap.size):=fun V hV=>by have F:=ad.o.below hV;obtain ⟨b1,o1,e1,bc,c1⟩:=F.sW.atI A (by omega);obtain ⟨b2,o2,e2,bs,c2⟩:=F.sW.atI (A+1) (by omega);cases e1;cases e2;rw [af.o.1]at c1;rw [af.o.2]at c2;exact ⟨ba F.b0 0 rfl,c1,c2,bz F.b0,bc⟩
 have G:Hid (∀V,Below D.heap.size D V->V.cell? ⟨w.heap.size+1,0,none⟩=some (.slice aC d.aj.length cC)/\V.cell? ⟨w.heap.size+1,1,none⟩=some (.slice aS d.ax.length cS)/\V.cell? ⟨w.heap.size+1,2,none⟩=some (.slice aF d.fields.length cF)/\V.cell? ⟨w.heap.size+1,3,none⟩=some (.slice aN d.names.length cN)/\V.cell? ⟨w.heap.size+1,4,none⟩=some (.slice aT d.aq.length cT)/\w.heap.size+1<V.heap.size):=fun V hV=>by have F:=ad.o.below hV;exact ⟨ba F.b1 0 rfl,ba F.b1 1 rfl,ba F.b1 2 rfl,ba F.b1 3 rfl,ba F.b1 4 rfl,bz F.b1⟩
 have bb:Hid (∀V (n:Nat),Below D.heap.size D V->(n:Int)<(bj h.ab A).len->Calls Tryz.prog 31 #[.agg #[.slice aC d.aj.length cC,.slice aS d.ax.length cS,.slice aF d.fields.length cF,.slice aN d.names.length cN,.slice aT d.aq.length cT],.int .i64 (bj h.ab A).tag,.int .i64 (n:Int)] V fun r w'=>r=.returned (.bool (jh d.fields (bj h.ab A) n))/\Below V.heap.size V w'):=fun V n hV hn=>zky V B _ _ _ _ _ d (ad.o.below hV).lk (bj h.ab A) a6.o n hn;clear ai ar W sO lk hf af bf aw;generalize bj h.ab A=t at*;generalize htl:t.len=tl at*;clear htl;go_enter Tryz.func87,Tryz.ntmps87;go_wp2_with fail;rw [<-a4.o];go_loopw [7,8] (fun v i wr=>∃n:Nat,i=.int .i64 n/\(n:Int)<=tl/\Hid (wr.ownsRow D.heap.size 3 1 v (jx d.fields t n).length (bv (jx d.fields t n))/\Below D.heap.size D wr)) (fun _ i _=>(tl - intOf i).toNat)
 case atStart=>exact ⟨0,rfl,by omega,World.ownsRow_nil _ _ _ _,br _ _⟩
 case round=>
  obtain ⟨n,rfl,hn,HI⟩:=hrel;obtain ⟨k0,k1,k2,k3,k4⟩:=N.o wr HI.o.2;have ak:=HI.o.2.size;by_cases bi:(n:Int)<tl
  ·have O:=ag (zhq d.fields t n);have Y:Nonempty (Gr wr.heap.size wr):=⟨⟨wr,br _ _⟩⟩;have L:∀g:Gr wr.heap.size wr,Below D.heap.size D g.w:=fun g=>HI.o.2.trans (g.ok.mono ak);have c0:∀g:Gr wr.heap.size wr,g.w.cell? ⟨w.heap.size,0,none⟩=some (.slice (some ⟨bW,oW,none⟩) h.ab.length cW):=fun g=>(N.o g.w (L g)).1;have c1:∀g:Gr wr.heap.size wr,g.w.cell? ⟨bW,oW+A,none⟩=some (.int .i64 t.tag):=fun g=>(N.o g.w (L g)).2.1;have y0:∀g:Gr wr.heap.size wr,g.w.cell? ⟨w.heap.size+1,0,none⟩=some (.slice aC d.aj.length cC):=fun g=>(G.o g.w (L g)).1;have y1:∀g:Gr wr.heap.size wr,g.w.cell? ⟨w.heap.size+1,1,none⟩=some (.slice aS d.ax.length cS):=fun g=>(G.o g.w (L g)).2.1;have y2:∀g:Gr wr.heap.size wr,g.w.cell? ⟨w.heap.size+1,2,none⟩=some (.slice aF d.fields.length cF):=fun g=>(G.o g.w (L g)).2.2.1;have y3:∀g:Gr wr.heap.size wr,g.w.cell? ⟨w.heap.size+1,3,none⟩=some (.slice aN d.names.length cN):=fun g=>(G.o g.w (L g)).2.2.2.1;have y4:∀g:Gr wr.heap.size wr,g.w.cell? ⟨w.heap.size+1,4,none⟩=some (.slice aT d.aq.length cT):=fun g=>(G.o g.w (L g)).2.2.2.2.1;have lb:∀g:Gr wr.heap.size wr,w.heap.size<g.w.heap.size:=fun g=>(N.o g.w (L g)).2.2.2.1;have a1:∀g:Gr wr.heap.size wr,w.heap.size+1<g.w.heap.size:=fun g=>(G.o g.w (L g)).2.2.2.2.2;have a2:∀g:Gr wr.heap.size wr,bW<g.w.heap.size:=fun g=>(N.o g.w (L g)).2.2.2.2;have I:Hid (∀g:Gr wr.heap.size wr,Calls Tryz.prog 31 #[.agg #[.slice aC d.aj.length cC,.slice aS d.ax.length cS,.slice aF d.fields.length cF,.slice aN d.names.length cN,.slice aT d.aq.length cT],.int .i64 t.tag,.int .i64 (n:Int)] g.w fun e bl=>e=.returned (.bool (jh d.fields t n))/\∃g':Gr wr.heap.size wr,bl=g'.w):=fun g=>Gr.calls g (nlq _) (bb.o g.w n (L g) bi);have J:=ag HI.o;clear HI L;cases F:jh d.fields t n with
   | false=>
     rw [F]at O I;go_wp2_with fail;refine zev wr.heap.size wr (by kernel_rfl) (by kernel_rfl) (br _ _) ?_
     repeat (go_big_quiet_step (first | (go_at_call 31;exact I.o _)))
     refine wpQuiet_nil ?_;intro _ al;obtain ⟨g,rfl⟩:=al;have HF:Hid (g.w.ownsRow D.heap.size 3 1 u7 (jx d.fields t (n+1)).length (bv (jx d.fields t (n+1)))/\Below D.heap.size D g.w):=by rw [O.o];simp only [Bool.false_eq_true,if_false,List.append_nil];exact ⟨kg J.o.1 g.ok,J.o.2.trans (g.ok.mono ak)⟩
     generalize g.w=w2 at*;clear c0 c1 y0 y1 y2 y3 y4 lb a1 a2 Y I J O k0 k1 k2;go_wp2_with fail;go_roundw
     case rel=>exact ⟨n+1,by simp,by omega,HF.o⟩
     case measure=>simp [intOf];omega
   | true=>
     rw [F]at O I;go_wp2_with fail;refine zev wr.heap.size wr (by kernel_rfl) (by kernel_rfl) (br _ _) ?_
     repeat (go_big_quiet_step (first | (go_at_call 31;exact I.o _)))
     refine wpQuiet_nil ?_;intro _ al;obtain ⟨g,rfl⟩:=al;have E:=kg J.o.1 g.ok;have ah:Below D.heap.size D g.w:=J.o.2.trans (g.ok.mono ak);generalize g.w=w2 at*;clear c0 c1 y0 y1 y2 y3 y4 lb a1 a2 Y I J k0 k1 k2;have bu:=zhr d.fields t n;generalize hrn:jx d.fields t n=acc at*;obtain ⟨a5,c5,rfl⟩:=kh E;have an:=ag E;have aa:=ag ah;have w4:IntKind.i64.wrap ((A:Int)+3+(n:Int))=(A:Int)+3+(n:Int):=ge _ (by omega) (by omega);generalize hlx:(A:Int)+3+(n:Int)=lx at*;have ac:Hid (acc.length+1<=maxLen/\(acc.length+1)*8<=140737488355328/\D.heap.size<=(w2.alloc (.cells #[.int .i64 lx] 3)).heap.size):=⟨by unfold maxLen;omega,by omega,by have:=ah.size;simp;omega⟩;have a7:Hid (t.loc+3+(n:Int)=lx):=by rw [a9.o];exact hlx
     clear E ah hrn;go_wp2_with (at_builtin;refine wpList_append_lies _ rfl _ _ 22 rfl D.heap.size 3 iI (.int .i64 0) 1 8 Tryz.underlying22 bh ay az a0 rfl (by decide) (.slice a5 acc.length c5) acc.length (bv acc) rfl (an.o.alloc _) ⟨w2.heap.size,0,none⟩ 1 1 [.int .i64 lx] rfl rfl (World.news_of_block (heap_alloc_new w2 _)) (by intro u hu;simp at hu;subst hu;rfl) (by omega) ac.o.1 ac.o.2.1 ac.o.2.2 _ rfl ?_);intro gA cA w3 X Z _ bm;have av:∀k,(Value.slice a5 acc.length c5).ownBlock=some k->D.heap.size<=k:=fun k e=>(an.o.lt k e).1;have au:Below D.heap.size D w3:=(aa.o.alloc aa.o.size _).grown Z (by have:=aa.o.size;simp;omega) (fun k e=>av k e);have HF:Hid (w3.ownsRow D.heap.size 3 1 (.slice (some ⟨gA,0,none⟩) (acc.length+1) cA) (jx d.fields t (n+1)).length (bv (jx d.fields t (n+1)))/\Below D.heap.size D w3):=by rw [O.o,a7.o,if_pos trivial,List.length_append,zhs];exact ⟨X,au⟩
     clear X Z au av;go_wp2_with fail;go_roundw
     case rel=>exact ⟨n+1,by simp,by omega,HF.o⟩
     case measure=>simp [intOf];omega
  have Y:tl.toNat=n:=by omega
  have HF:Hid (Below w.heap.size w wr/\wr.ownsRow w.heap.size 3 1 u7 (refsOf d.fields t).length (bv (refsOf d.fields t))):=by rw [a8.o,Y];exact ⟨a3.o.trans (HI.o.2.mono (by have:=ao.o;omega)),zhp HI.o.1 (by have:=ao.o;omega)⟩
  go_wp2_with fail;go_ret;exact ⟨HF.o.1,_,rfl,HF.o.2⟩
def BothOut (w:World) (h:bd) (d:be) (r:Ending) (w':World):Prop:=
 (∃ys os vy vo,b9 d.aj.length d.fields h.ab 1 h.bg=some ys/\b9 d.aj.length d.fields h.ab (h.ae+1) h.bk=some os/\r=.returned (.tuple #[vy,vo,.bool true])/\w'.ownsRow w.heap.size 3 1 vy (ys.map bp.loc).length (bv (ys.map bp.loc))/\w'.ownsRow w.heap.size 3 1 vo (os.map bp.loc).length (bv (os.map bp.loc)))\/
  (im d h=none/\∃a n c a' n' c',r=.returned (.tuple #[.slice a n c,.slice a' n' c',.bool false]))
theorem znr (w:World) (B:Nat) (vW vO kC kS kF kN kT:Value) (h:bd) (d:be) (sW:SL 1 RI (· <B) w vW h.ab) (sO:SL 1 RI (· <B) w vO h.ap) (lk:ma (· <B) w kC kS kF kN kT d) (hB:B<=w.heap.size) (N:mf d h) (a0:∀f∈d.fields,f.length<=500):
 Calls Tryz.prog 73 #[.agg #[vW,.int .i64 h.ae,.int .i64 h.old,.int .i64 h.bg,.int .i64 h.bk,vO,.int .i64 h.next],.agg #[kC,kS,kF,kN,kT]] w fun r w'=>Below w.heap.size w w'/\BothOut w h d r w':=by
 obtain ⟨W,J⟩:∃W,W=(w.alloc (.cells #[vW,.int .i64 h.ae,.int .i64 h.old,.int .i64 h.bg,.int .i64 h.bk,vO,.int .i64 h.next] 24)).alloc (.cells #[kC,kS,kF,kN,kT] 36):=⟨_,rfl⟩;have G:Rd w.heap.size B W vW vO kC kS kF kN kT h d:=J ▸ Rd.new w B _ _ _ _ _ _ _ h d hB sW sO lk;have az:Below w.heap.size w W:=J ▸ ((br _ _).alloc (nlq _) _).alloc (by simp) _;have a1:W.heap.size=w.heap.size+2:=by rw [J];simp
 have z1:=N.ae;have z2:=N.old;have z3:=N.len;have z4:=N.bg;have z5:=N.bk;obtain ⟨X,ad⟩:∃X:Nat,h.ae+1=X:=⟨(h.ae+1).toNat,by omega⟩;have bb:IntKind.i64.wrap (h.ae+1)=(X:Int):=(ge _ (by omega) (by omega)).trans ad;have HY:Hid (h.ae+1=X):=ad;have Y:=ag (zk1 W B _ _ _ _ _ _ _ h d G.sW G.sO G.lk (by omega) 1 h.bg (by omega) (by omega) (by omega) N.fl a0 N.cn);have av:Hid (∀V,Below W.heap.size W V->Calls Tryz.prog 129 #[.agg #[vW,.int .i64 h.ae,.int .i64 h.old,.int .i64 h.bg,.int .i64 h.bk,vO,.int .i64 h.next],.agg #[kC,kS,kF,kN,kT],.int .i64 (X:Int),.int .i64 h.bk] V fun r w'=>Below V.heap.size V w'/\FromOut V (b9 d.aj.length d.fields h.ab X h.bk) r w'):=fun V hV=>by have hr:=G.below hV;exact zk1 V B _ _ _ _ _ _ _ h d hr.sW hr.sO hr.lk (by have:=hr.le;have:=bz hr.b0;omega) X h.bk (by omega) (by omega) (by omega) N.fl a0 N.cn
 have a5:=ag G;have af:=ag az;have ak:=ag J;have au:=ag a1;obtain ⟨aC,cC,aS,cS,aF,cF,aN,cN,aT,cT,rfl,rfl,rfl,rfl,rfl⟩:=lk.agg;obtain ⟨aW,cW,rfl,-⟩:=sW;obtain ⟨aO,cO,rfl,-⟩:=sO;have al:Hid (b9 d.aj.length d.fields h.ab 1 h.bg=none->im d h=none):=fun e=>by unfold im;rw [e]
 have an:Hid (b9 d.aj.length d.fields h.ab X h.bk=none->im d h=none):=fun e=>by unfold im;rw [HY.o,e];cases b9 d.aj.length d.fields h.ab 1 h.bg<;>rfl
 rw [ak.o]at Y;clear G az J a1 lk z1 z2 z3 z4 z5 N ad;go_enter Tryz.func73,Tryz.ntmps73;go_wp2_with fail;refine Y.o.mono ?_;rw [<-ak.o];rintro r w1 ⟨L,a8⟩;have u:=a5.o.below L;have l0:=bz u.b0;have l1:=bz u.b1;have x0:=ba u.b0 0 (x:=.slice aW h.ab.length cW) rfl;have x1:=ba u.b0 1 (x:=.int .i64 h.ae) rfl;have x2:=ba u.b0 2 (x:=.int .i64 h.old) rfl;have x3:=ba u.b0 3 (x:=.int .i64 h.bg) rfl;have x4:=ba u.b0 4 (x:=.int .i64 h.bk) rfl;have x5:=ba u.b0 5 (x:=.slice aO h.ap.length cO) rfl;have x6:=ba u.b0 6 (x:=.int .i64 h.next) rfl;have y0:=ba u.b1 0 (x:=.slice aC d.aj.length cC) rfl;have y1:=ba u.b1 1 (x:=.slice aS d.ax.length cS) rfl;have y2:=ba u.b1 2 (x:=.slice aF d.fields.length cF) rfl;have y3:=ba u.b1 3 (x:=.slice aN d.names.length cN) rfl;have y4:=ba u.b1 4 (x:=.slice aT d.aq.length cT) rfl;have aw:=ag (av.o w1 L);have ah:=ag L;have a9:=L.size;have ai:Hid (∀V,Below w1.heap.size w1 V->Below w.heap.size w V):=fun V hV=>af.o.trans ((ah.o.trans (hV.mono ah.o.size)).mono af.o.size);clear u L av Y;rcases a8 with ⟨ys,vy,D,rfl,O⟩ | ⟨D,a,n,c,rfl⟩
 ·obtain ⟨ay,cy,rfl⟩:=kh O;have a7:=ag D;obtain ⟨yl,ac⟩:∃yl,ys.map bp.loc=yl:=⟨_,rfl⟩;rw [ac]at O ⊢;have a6:=ag ac;have a4:=ag O;clear D O ac;go_wp2_with fail;refine aw.o.mono ?_;rintro r w2 ⟨F,Z⟩;have I:=ag (ai.o w2 F);have ar:=ag (kg a4.o F);clear F x0 x1 x2 x3 x4 x5 x6 y0 y1 y2 y3 y4;rcases Z with ⟨os,vo,D,rfl,A⟩ | ⟨D,a,n,c,rfl⟩
  ·obtain ⟨ao,co,rfl⟩:=kh A;have E:=ag D;obtain ⟨ol,aa⟩:∃ol,os.map bp.loc=ol:=⟨_,rfl⟩;rw [aa]at A ⊢;have a2:=ag aa;have a3:=ag A;clear D A aa;go_wp2_with fail
   go_ret3
   exact ⟨I.o,Or.inl ⟨ys,os,_,_,a7.o,by rw [HY.o];exact E.o,rfl,by rw [a6.o];exact zhp ar.o (by have:=au.o;omega),by rw [a2.o];exact zhp a3.o (by have:=au.o;omega)⟩⟩
  have E:=ag (an.o D);clear D;go_wp2_with fail
  go_ret3
  exact ⟨I.o,Or.inr ⟨E.o,_,_,_,_,_,_,rfl⟩⟩
 have E:=ag (al.o D);clear D;go_wp2_with fail;refine aw.o.mono ?_;rintro r w2 ⟨F,Z⟩;have I:=ag (ai.o w2 F);clear F x0 x1 x2 x3 x4 x5 x6 y0 y1 y2 y3 y4;rcases Z with ⟨os,vo,D,rfl,A⟩ | ⟨D,a,n,c,rfl⟩
 ·obtain ⟨ao,co,rfl⟩:=kh A;clear D A;go_wp2_with fail
  go_ret3
  exact ⟨I.o,Or.inr ⟨E.o,_,_,_,_,_,_,rfl⟩⟩
 clear D;go_wp2_with fail
 go_ret3
 exact ⟨I.o,Or.inr ⟨E.o,_,_,_,_,_,_,rfl⟩⟩
end Go.Proofs.YtjdnmblggdobgaaGreat
