import Derived.Test.YtjdnmblggdobgaaGreatJHsLHpT
import Derived.Test.YtjdnmblggdobgaaGreatJLLkLBas
set_option maxHeartbeats 4000000
set_option maxRecDepth 100000
namespace Go.Proofs.YtjdnmblggdobgaaGreat
open Go.RowKit Go.Maps Tryz
def qd (n a b:Int):Bool:=decide (a<=n)&&decide (n<=b)
theorem Fm (w:World) (n a b:Int):Calls prog 78 #[.i n,.i a,.i b] w fun r w'=>r=.returned (.bool (qd n a b))/\w'=w:=by
 by_cases h0:a<=n
 ·by_cases h1:n<=b
  ·have A:Hid (qd n a b=true):=by show qd n a b=true;simp [qd,h0,h1]
   go_enter func78,ntmps78;go_wp2_with fail;go_ret;exact ⟨by rw [A.o];rfl,rfl⟩
  have A:Hid (qd n a b=false):=by show qd n a b=false;simp [qd,h1]
  go_enter func78,ntmps78;go_wp2_with fail;go_ret;exact ⟨by rw [A.o];rfl,rfl⟩
 have A:Hid (qd n a b=false):=by show qd n a b=false;simp [qd,h0]
 go_enter func78,ntmps78;go_wp2_with fail;go_ret;exact ⟨by rw [A.o];rfl,rfl⟩
theorem zkw (w:World) (B:Nat) (I N J L O:Value) (d:bd) (G:mt (· <B) w I N J L O d) (A:Int) (hn:d.aj.length<=1000):
 Calls prog 59 #[.agg #[I,N,J,L,O],.i A] w fun r w'=>r=.returned (.bool (dq d.aj.length A))/\Bl w w':=by
 have E:∀o,Hid (Bl w (w.alloc o)):=fun o=>(br _ _).alloc (nlq _) _;obtain ⟨V,cC,Y,cS,W,cF,X,cN,Z,cT,rfl,rfl,rfl,rfl,rfl⟩:=G.agg;clear G;by_cases h1:1<=A
 ·have wn:IntKind.i64.wrap (3+(d.aj.length:Int))=3+d.aj.length:=gp _ (by omega) (by omega);by_cases F:A<3+d.aj.length
  ·have D:Hid (dq d.aj.length A=true):=by show dq _ _=true;simp [dq,h1,F]
   go_enter func59,ntmps59;go_wp2_with fail;go_ret;exact ⟨by rw [D.o];rfl,(E _).o⟩
  have D:Hid (dq d.aj.length A=false):=by show dq _ _=false;simp [dq,F]
  go_enter func59,ntmps59;go_wp2_with fail;go_ret;exact ⟨by rw [D.o];rfl,(E _).o⟩
 have D:Hid (dq d.aj.length A=false):=by show dq _ _=false;simp [dq,h1]
 go_enter func59,ntmps59;go_wp2_with fail;go_ret;exact ⟨by rw [D.o];rfl,(E _).o⟩
def tb (fs:List (List bq)) (tag n:Int):Bool:=qd n 0 500&&(decide (tag<3)||decide (n=(gz fs tag).length))
theorem zkx (w:World) (B:Nat) (kC kS kF kN kT:Value) (d:bd) (I:mt (· <B) w kC kS kF kN kT d) (hB:B<=w.heap.size) (A n:Int) (ht:A<3+d.fields.length):
 Calls prog 60 #[.agg #[kC,kS,kF,kN,kT],.i A,.i n] w fun r w'=>r=.returned (.bool (tb d.fields A n))/\Bl w w':=by
 have L:∀o,Hid (Bl w (w.alloc o)):=fun o=>(br _ _).alloc (nlq _) _;obtain ⟨aC,cC,aS,cS,aF,cF,aN,cN,aT,cT,rfl,rfl,rfl,rfl,rfl⟩:=I.agg;have D:Hid (∀W,Calls prog 78 #[.i n,.i 0,.i 500] W fun r w'=>r=.returned (.bool (qd n 0 500))/\w'=W):=fun W=>Fm W n 0 500;have E:Hid (tb d.fields A n=(qd n 0 500&&(decide (A<3)||decide (n=(gz d.fields A).length)))):=rfl;cases hb:qd n 0 500 with
 | false=>
   rw [hb]at D E;have G:Hid (tb d.fields A n=false):=E.o.trans (by simp);clear I E hb;go_enter func60,ntmps60;go_wp2_with fail;refine (D.o _).mono ?_;rintro r _ ⟨rfl,rfl⟩;go_wp2_with fail;go_ret;exact ⟨by rw [G.o];rfl,(L _).o⟩
 | true=>
   rw [hb]at D E;by_cases h3:A<3
   ·have G:Hid (tb d.fields A n=true):=E.o.trans (by simp [h3]);clear I E hb;go_enter func60,ntmps60;go_wp2_with fail;refine (D.o _).mono ?_;rintro r _ ⟨rfl,rfl⟩;go_wp2_with fail;go_ret;exact ⟨by rw [G.o];rfl,(L _).o⟩
   obtain ⟨k,Z⟩:∃k:Nat,A=3+k:=⟨(A - 3).toNat,by omega⟩;subst Z;have J:k<d.fields.length:=by omega
   have V:=I.kept (Kp.below (((L (.cells #[.slice aC d.aj.length cC,.slice aS d.bg.length cS,.slice aF d.fields.length cF,.slice aN d.names.length cN,.slice aT d.ax.length cT] 36)).o.mono hB)));obtain ⟨bF,oF,aV,cV,rfl,ah,e1,sV⟩:=I.F.atSl k J;obtain ⟨ad,al,ac,af,ee,N,X,aa⟩:=V.F.atSl k J;have O:gz d.fields (3+k)=d.fields[k]:=by unfold gz;rw [show ((3+(k:Int)) - 3).toNat=k by omega];simp [J]
   rw [O]at E;have q1:(0:Int)<=k:=by omega
   have q2:(k:Int)<d.fields.length:=by omega
   have q3:3+(k:Int) - 3=k:=by omega
   have ak:d.fields[k].length<=9223372036854775807:=by obtain ⟨_,_,-,-,h,-⟩:=sV;unfold maxLen at h;omega
   have ai:d.fields.length<=9223372036854775807:=by obtain ⟨_,_,-,-,h,-⟩:=I.F;unfold maxLen at h;omega
   clear sV aa O I V hb X ee N;generalize d.fields[k].length=fl at*;by_cases Y:n=fl
   ·subst Y;have G:Hid (tb d.fields (3+k) fl=true):=E.o.trans (by simp);clear E;go_enter func60,ntmps60;go_wp2_with fail;refine (D.o _).mono ?_;rintro r _ ⟨rfl,rfl⟩;go_wp2_with fail;go_ret;exact ⟨by rw [G.o];simp<;>omega,(L _).o⟩
   have h4:(n==(fl:Int))=false:=beq_eq_false_iff_ne.2 Y;have G:Hid (tb d.fields (3+k) n=false):=E.o.trans (by simp [Y];omega);clear E;go_enter func60,ntmps60;go_wp2_with fail;refine (D.o _).mono ?_;rintro r _ ⟨rfl,rfl⟩;go_wp2_with fail;go_ret;exact ⟨by rw [G.o];simp<;>omega,(L _).o⟩
theorem zky (w:World) (B:Nat) (Y kS Z kN kT:Value) (d:bd) (J:mt (· <B) w Y kS Z kN kT d) (t:bk) (V:pm d t) (n:Nat) (hn:(n:Int)<t.len):
 Calls prog 31 #[.agg #[Y,kS,Z,kN,kT],.i t.tag,.i (n:Int)] w fun r w'=>r=.returned (.bool (jp d.fields t n))/\Bl w w':=by
 have A:=ag (fun o=>(br w.heap.size w).alloc (nlq _) o);obtain ⟨aC,cC,aS,cS,aF,cF,aN,cN,aT,cT,rfl,rfl,rfl,rfl,rfl⟩:=J.agg;obtain ⟨_,_,-,-,hm,-⟩:=J.F;unfold maxLen at hm;by_cases h1:3<=t.tag
 ·obtain ⟨I,X⟩:=V.tag h1;obtain ⟨k,L⟩:∃k:Nat,t.tag=3+k:=⟨(t.tag - 3).toNat,by omega⟩;have N:k<d.fields.length:=by omega
  obtain ⟨bF,oF,aV,cV,rfl,aa,e1,W⟩:=J.F.atSl k N;have D:gz d.fields t.tag=d.fields[k]:=by unfold gz;rw [L,show ((3+(k:Int)) - 3).toNat=k by omega];simp [N]
  rw [D]at X;have O:n<d.fields[k].length:=by omega
  obtain ⟨bV,oV,rfl,ac,-,e2,-⟩:=W.atF n O;have G:Hid (jp d.fields t n=decide (d.fields[k][n].kind.kind≠1)):=by show jp d.fields t n=_;rw [jp,if_pos h1,D];simp [O]
  have q1:(0:Int)<=k:=by omega
  have q2:(k:Int)<d.fields.length:=by omega
  have q4:(0:Int)<=n:=by omega
  have q6:((3:Int)+k==2)=false:=beq_eq_false_iff_ne.2 (by omega);have wk:IntKind.i64.wrap (k:Int)=k:=gp _ (by omega) (by omega);have ah:IntKind.i64.wrap (3+(k:Int) - 3)=k:=(by rw [show 3+(k:Int) - 3=k by omega];exact wk);have q5:(n:Int)<d.fields[k].length:=by omega
  have af:d.fields[k].length<=9223372036854775807:=by obtain ⟨_,_,-,-,h,-⟩:=W;unfold maxLen at h;omega
  generalize d.fields[k][n].kind.kind=kk at*;generalize d.fields[k].length=fl at*;clear W D J V X hn;rw [L]at*;by_cases E:kk=1
  ·subst E;go_enter func31,ntmps31;go_wp2_with fail;go_ret;exact ⟨by rw [G.o];rfl,A.o _⟩
  have ad:(kk==1)=false:=beq_eq_false_iff_ne.2 E;go_enter func31,ntmps31;go_wp2_with fail;go_ret;exact ⟨by rw [G.o];simp [E],A.o _⟩
 have G:Hid (jp d.fields t n=decide (t.tag=2)):=by show jp d.fields t n=_;rw [jp,if_neg h1]
 clear J V;by_cases I:t.tag=2
 ·have hb:(t.tag==2)=true:=beq_iff_eq.2 I;go_enter func31,ntmps31;go_wp2_with fail;go_ret;exact ⟨by rw [G.o];simp [I],A.o _⟩
 have hb:(t.tag==2)=false:=beq_eq_false_iff_ne.2 I;go_enter func31,ntmps31;go_wp2_with fail;go_ret;exact ⟨by rw [G.o];simp [I],A.o _⟩
theorem Fo (w:World) (M:Nat->Prop) (v:Value) (l:List Int) (J:SL 1 RI M w v l) (n:Int):
 Calls prog 74 #[v,.i n] w fun r w'=>r=.returned (.bool (l.contains n))/\w'=w:=by
 have N:=ag J;obtain ⟨V,W,rfl,-,O,-⟩:=J;unfold maxLen at O;go_enter func74,ntmps74;go_wp2_with fail;go_loopw [5] (fun i wr=>∃k:Nat,k<=l.length/\i=.i k/\wr=w/\Hid ((l.take k).contains n=false)) (fun i _=>l.length - (intOf i).toNat)
 case atStart=>exact ⟨0,n0q _,rfl,rfl,by show (l.take 0).contains n=false;simp⟩
 case round=>
  obtain ⟨k,Y,rfl,rfl,I⟩:=hrel;by_cases A:k<l.length
  ·obtain ⟨b,off,rfl,X,e⟩:=N.o.atI k A;have q1:(0:Int)<=k:=by omega
   have q2:(k:Int)<l.length:=by omega
   by_cases E:l[k]=n
   ·have G:(l[k]==n)=true:=beq_iff_eq.2 E;have L:Hid (l.contains n=true):=List.contains_iff_mem.2 (E ▸ gm A);generalize l[k]=x at*;go_wp2_with fail;go_ret;exact ⟨by rw [L.o];rfl,rfl⟩
   have G:(l[k]==n)=false:=beq_eq_false_iff_ne.2 E;have F:Hid ((l.take (k+1)).contains n=false):=by
    show (l.take (k+1)).contains n=false;have h0:=I.o;rw [List.take_succ_eq_append_getElem A];rw [<-Bool.not_eq_true,List.contains_iff_mem]at h0 ⊢;intro D;rcases List.mem_append.1 D with D | D
    ·exact h0 D
    simp at D;exact E D.symm
   generalize l[k]=x at*;go_wp2_with fail;go_roundw
   case rel=>exact ⟨k+1,by omega,by go_num,trivial,F.o⟩
   case measure=>simp [intOf];omega
  have F:Hid (l.contains n=false):=by have h0:=I.o;rw [List.take_of_length_le (by omega)]at h0;exact h0
  go_wp2_with fail;go_ret;exact ⟨by rw [F.o];rfl,rfl⟩
structure Rd (P B:Nat) (w:World) (vW vO kC kS kF kN kT:Value) (h:ar) (d:bd):Prop where
 le:B<=P
 b0:w.heap[P]? =some (.cells #[vW,.i h.ae,.i h.old,.i h.bo,.i h.ba,vO,.i h.next] 24 (0,0))
 b1:w.heap[P+1]? =some (.cells #[kC,kS,kF,kN,kT] 36 (0,0))
 sW:SL 1 RI (· <B) w vW h.ab
 sO:SL 1 RI (· <B) w vO h.am
 lk:mt (· <B) w kC kS kF kN kT d
theorem Rd.below {P B:Nat} {w w':World} {N L E I F G J:Value} {h:ar} {d:bd} (r:Rd P B w N L E I F G J h d) (A:Bl w w'):Rd P B w' N L E I F G J h d:=
 have O:=bz r.b0;have D:=Kp.below (A.mono (by have:=r.le;omega:B<=w.heap.size))
 ⟨r.le,(A.block _ O).trans r.b0,(A.block _ (bz r.b1)).trans r.b1,r.sW.keptI D,r.sO.keptI D,r.lk.kept D⟩
theorem Rd.new (w:World) (B:Nat) (J I A F D E G:Value) (h:ar) (d:bd) (N:B<=w.heap.size) (X:SL 1 RI (· <B) w J h.ab) (W:SL 1 RI (· <B) w I h.am) (V:mt (· <B) w A F D E G d):
 Rd w.heap.size B ((w.alloc (.cells #[J,.i h.ae,.i h.old,.i h.bo,.i h.ba,I,.i h.next] 24)).alloc (.cells #[A,F,D,E,G] 36)) J I A F D E G h d:=by
 have O:Bl w ((w.alloc (.cells #[J,.i h.ae,.i h.old,.i h.bo,.i h.ba,I,.i h.next] 24)).alloc (.cells #[A,F,D,E,G] 36)):=((br _ _).alloc (nlq _) _).alloc (by simp) _;have L:=Kp.below (O.mono N);refine ⟨N,(Below.heap_alloc _ _ _ (by simp)).trans (heap_alloc_new w _),?_,X.keptI L,W.keptI L,V.kept L⟩;have:=heap_alloc_new (w.alloc (.cells #[J,.i h.ae,.i h.old,.i h.bo,.i h.ba,I,.i h.next] 24)) (.cells #[A,F,D,E,G] 36);simpa using this
theorem zk0 {fs:List (List bq)} {A n:Int} (D:∀f∈fs,f.length<=500):tb fs A n=cg fs A n:=by
 unfold tb cg qd;by_cases E:3<=A
 ·rw [if_pos E];have F:(gz fs A).length<=500:=by
   unfold gz;cases hx:fs[(A - 3).toNat]? with
   | none=>simp
   | some f=>exact D f (List.mem_of_getElem? hx)
  rw [Bool.eq_iff_iff];simp;omega
 rw [if_neg E];rw [Bool.eq_iff_iff];simp;omega
def zu (w:World) (o:Option (List bk)) (r:Ending) (w':World):Prop:=
 (∃ts v,o=some ts/\r=.returned (.tuple #[v,.bool true])/\w'.ownsRow w.heap.size 3 1 v (ts.map bk.loc).length (bw (ts.map bk.loc)))\/(o=none/\∃a n c,r=.returned (.tuple #[.slice a n c,.bool false]))
theorem zk1 (w:World) (B:Nat) (vW vO kC kS kF kN kT:Value) (h:ar) (d:bd) (sW:SL 1 RI (· <B) w vW h.ab) (sO:SL 1 RI (· <B) w vO h.am) (lk:mt (· <B) w kC kS kF kN kT d) (hB:B<=w.heap.size)
 (E:Nat) (D:Int) (cr:(E:Int)<=D) (c6:D<=5000) (ht:D<=h.ab.length) (b3:d.fields.length=d.aj.length) (b4:∀f∈d.fields,f.length<=500) (cm:d.aj.length<=1000):
 Calls prog 129 #[.agg #[vW,.i h.ae,.i h.old,.i h.bo,.i h.ba,vO,.i h.next],.agg #[kC,kS,kF,kN,kT],.i (E:Int),.i D] w fun r w'=>Bl w w'/\zu w (b9 d.aj.length d.fields h.ab E D) r w':=by
 obtain ⟨iI,cp,ca,cc,ce⟩:=info_parts jy;obtain ⟨N,an⟩:∃N,N=(w.alloc (.cells #[vW,.i h.ae,.i h.old,.i h.bo,.i h.ba,vO,.i h.next] 24)).alloc (.cells #[kC,kS,kF,kN,kT] 36):=⟨_,rfl⟩;have b5:Rd w.heap.size B N vW vO kC kS kF kN kT h d:=an ▸ Rd.new w B _ _ _ _ _ _ _ h d hB sW sO lk;have bv:Bl w N:=an ▸ ((br _ _).alloc (nlq _) _).alloc (by simp) _;have bh:N.heap.size=w.heap.size+2:=by rw [an];simp
 have a7:=ag b5;have bm:=ag bv;have cf:=ag an;have az:=ag bh;have av:=ag (And.intro b3 (And.intro b4 cm));obtain ⟨aC,cC,aS,cS,aF,cF,aN,cN,aT,cT,rfl,rfl,rfl,rfl,rfl⟩:=lk.agg;have HM:Hid (∃a c,vW=.slice a h.ab.length c/\h.ab.length<=9223372036854775807):=by obtain ⟨a,c,e,-,hm,-⟩:=sW;exact ⟨a,c,e,by unfold maxLen at hm;omega⟩
 clear b5 bv an sW sO lk b3 b4 bh;go_enter func129,ntmps129;go_wp2_with fail;rw [<-cf.o];go_loopw [2,10] (fun i v wr=>∃(A:Nat) (F:List bk),i=.i A/\A<=10000/\F.length<=A/\Hid (wr.ownsRow N.heap.size 3 1 v (F.map bk.loc).length (bw (F.map bk.loc))/\Bl N wr/\
  (((A:Int)<=D/\b9 d.aj.length d.fields h.ab E D=(b9 d.aj.length d.fields h.ab A D).map (F++ ·))\/(D<A/\b9 d.aj.length d.fields h.ab E D=none)))) (fun i _ _=>(D - intOf i).toNat)
 case atStart=>exact ⟨E,[],rfl,by omega,n0q _,World.ownsRow_nil _ _ _ _,br _ _,Or.inl ⟨cr,by cases b9 d.aj.length d.fields h.ab E D<;>rfl⟩⟩
 case round=>
  obtain ⟨A,F,rfl,hl,c4,I⟩:=hrel;by_cases af:(A:Int)<D
  ·have b7:b9 d.aj.length d.fields h.ab E D=(b9 d.aj.length d.fields h.ab A D).map (F++ ·):=by
    rcases I.o.2.2 with hx | hx
    ·exact hx.2
    exact absurd hx.1 (by omega)
   have G:=ag b7;clear b7;have L:=a7.o.below I.o.2.1;obtain ⟨aW,cW,rfl,c1⟩:=HM.o;have b6:=I.o.2.1.size;have aa:Hid (∀V,Bl wr V->Bl w V):=fun V hV=>bm.o.trans ((I.o.2.1.trans (hV.mono b6)).mono (by have:=az.o;omega));by_cases h3:(A:Int)+3<=D
   ·have c0:A+2<h.ab.length:=by omega
    obtain ⟨W,oW,rfl,be,e0⟩:=L.sW.atI A (by omega);obtain ⟨cx,c9,ee,-,e1⟩:=L.sW.atI (A+1) (by omega);cases ee;have ck:W<wr.heap.size:=be;have q0:(0:Int)<=A:=by omega
    have q1:(A:Int)<h.ab.length:=by omega
    have q2:(0:Int)<=(A:Int)+1:=by omega
    have q3:(A:Int)+1<h.ab.length:=by omega
    have q6:((A:Int)+1).toNat=A+1:=by omega
    have w1:IntKind.i64.wrap ((A:Int)+1)=(A:Int)+1:=gp _ (by omega) (by omega);have w3:IntKind.i64.wrap ((A:Int)+3)=(A:Int)+3:=gp _ (by omega) (by omega);have cn:decide (D<(A:Int)+3)=false:=by simp;omega
    have a0:Hid (h.ab[A]=wd h.ab A/\h.ab[A+1]=wd h.ab ((A:Int)+1)):=⟨(pi (by omega)).symm,by rw [show (A:Int)+1=((A+1:Nat):Int) by omega];exact (pi (by omega)).symm⟩;have ao:Nonempty (Gr wr.heap.size wr):=⟨⟨wr,br _ _⟩⟩;have l0:=bz L.b0;have l1:=bz L.b1;have k0:∀g:Gr wr.heap.size wr,g.w.cell? ⟨w.heap.size,0,none⟩=some (.slice (some ⟨W,oW,none⟩) h.ab.length cW):=fun g=>(g.ok.cell (p:=⟨w.heap.size,0,none⟩) l0).trans (bp L.b0 0 rfl);have y0:∀g:Gr wr.heap.size wr,g.w.cell? ⟨w.heap.size+1,0,none⟩=some (.slice aC d.aj.length cC):=fun g=>(g.ok.cell (p:=⟨w.heap.size+1,0,none⟩) l1).trans (bp L.b1 0 rfl);have y1:∀g:Gr wr.heap.size wr,g.w.cell? ⟨w.heap.size+1,1,none⟩=some (.slice aS d.bg.length cS):=fun g=>(g.ok.cell (p:=⟨w.heap.size+1,1,none⟩) l1).trans (bp L.b1 1 rfl);have y2:∀g:Gr wr.heap.size wr,g.w.cell? ⟨w.heap.size+1,2,none⟩=some (.slice aF d.fields.length cF):=fun g=>(g.ok.cell (p:=⟨w.heap.size+1,2,none⟩) l1).trans (bp L.b1 2 rfl);have y3:∀g:Gr wr.heap.size wr,g.w.cell? ⟨w.heap.size+1,3,none⟩=some (.slice aN d.names.length cN):=fun g=>(g.ok.cell (p:=⟨w.heap.size+1,3,none⟩) l1).trans (bp L.b1 3 rfl);have y4:∀g:Gr wr.heap.size wr,g.w.cell? ⟨w.heap.size+1,4,none⟩=some (.slice aT d.ax.length cT):=fun g=>(g.ok.cell (p:=⟨w.heap.size+1,4,none⟩) l1).trans (bp L.b1 4 rfl);have a9:∀g:Gr wr.heap.size wr,g.w.cell? ⟨W,oW+A,none⟩=some (.i h.ab[A]):=fun g=>(g.ok.cell (p:=⟨W,oW+A,none⟩) be).trans e0;have bb:∀g:Gr wr.heap.size wr,g.w.cell? ⟨W,oW+(A+1),none⟩=some (.i h.ab[A+1]):=fun g=>(g.ok.cell (p:=⟨W,oW+(A+1),none⟩) be).trans e1;have lb:∀g:Gr wr.heap.size wr,w.heap.size<g.w.heap.size:=fun g=>ll3 l0 g.ok.size;have bi:∀g:Gr wr.heap.size wr,w.heap.size+1<g.w.heap.size:=fun g=>ll3 l1 g.ok.size;have J:Hid (∀g:Gr wr.heap.size wr,Calls prog 59 #[.agg #[.slice aC d.aj.length cC,.slice aS d.bg.length cS,.slice aF d.fields.length cF,.slice aN d.names.length cN,.slice aT d.ax.length cT],.i h.ab[A]] g.w fun e bl=>e=.returned (.bool (dq d.aj.length h.ab[A]))/\∃g':Gr wr.heap.size wr,bl=g'.w):=fun g=>Gr.calls g (nlq _) (zkw g.w B _ _ _ _ _ d (L.below g.ok).lk _ av.o.2.2);have a6:Hid (dq d.aj.length h.ab[A]=true->∀g:Gr wr.heap.size wr,Calls prog 60 #[.agg #[.slice aC d.aj.length cC,.slice aS d.bg.length cS,.slice aF d.fields.length cF,.slice aN d.names.length cN,.slice aT d.ax.length cT],.i h.ab[A],.i h.ab[A+1]] g.w fun e bl=>e=.returned (.bool (cg d.fields h.ab[A] h.ab[A+1]))/\∃g':Gr wr.heap.size wr,bl=g'.w):=fun hb g=>by
     have ct:h.ab[A]<3+(d.fields.length:Int):=by unfold dq at hb;rw [Bool.and_eq_true]at hb;rw [av.o.1];exact of_decide_eq_true hb.2
     rw [<-zk0 av.o.2.1];exact Gr.calls g (nlq _) (zkx g.w B _ _ _ _ _ d (L.below g.ok).lk (by have:=(L.below g.ok).le;have:=bz (L.below g.ok).b0;omega) _ _ ct)
    have O:Hid (gr d.aj.length d.fields h.ab A D=(dq d.aj.length h.ab[A]&&cg d.fields h.ab[A] h.ab[A+1]&&decide ((bj h.ab A).fin<=D))):=by show gr _ _ _ _ _=_;rw [gr,a0.o.1,a0.o.2,decide_eq_true h3,Bool.true_and]
    have ac:Hid ((bj h.ab A).fin=A+3+h.ab[A+1]):=by show A+3+wd h.ab ((A:Int)+1)=_;rw [a0.o.2]
    have bu:Hid ((bj h.ab A).loc=A):=rfl;have aw:Hid (cg d.fields h.ab[A] h.ab[A+1]=true->0<=h.ab[A+1]/\h.ab[A+1]<=500):=fun hb=>by rw [<-zk0 av.o.2.1]at hb;unfold tb qd at hb;simp only [Bool.and_eq_true,decide_eq_true_eq]at hb;exact hb.1
    have ay:=ag (bp L.b0 0 (x:=.slice (some ⟨W,oW,none⟩) h.ab.length cW) rfl);clear L e0 a0;generalize h.ab[A]=x0 at*;generalize h.ab[A+1]=x1 at*;cases hT:dq d.aj.length x0 with
    | false=>
      have ak:Hid (b9 d.aj.length d.fields h.ab E D=none):=by show _=_;rw [G.o,Cc af (by rw [O.o,hT];simp)];rfl
      rw [hT]at J;clear a6 O ac aw I G e1 ay bu;go_wp2_with fail;refine Ch wr.heap.size wr (by kernel_rfl) (by kernel_rfl) (br _ _) ?_
      repeat (go_big_quiet_step (first | (go_at_call 59;exact J.o _)))
      refine wpQuiet_nil ?_;intro _ Z;obtain ⟨g,rfl⟩:=Z;have ai:=ag (aa.o _ g.ok);generalize g.w=w2 at*;clear k0 y0 y1 y2 y3 y4 a9 bb lb bi ao J;go_wp2_with fail
      go_ret2
      exact ⟨ai.o,Or.inr ⟨ak.o,_,_,_,rfl⟩⟩
    | true=>
      rw [hT]at J;have ad:=ag (a6.o hT);clear a6;cases hM:cg d.fields x0 x1 with
      | false=>
        have ak:Hid (b9 d.aj.length d.fields h.ab E D=none):=by show _=_;rw [G.o,Cc af (by rw [O.o,hM];simp)];rfl
        rw [hM]at ad;clear O ac aw I G e1 ay bu;go_wp2_with fail;refine Ch wr.heap.size wr (by kernel_rfl) (by kernel_rfl) (br _ _) ?_
        repeat (go_big_quiet_step (first | (go_at_call 59;exact J.o _) | (go_at_call 60;exact ad.o _)))
        refine wpQuiet_nil ?_;intro _ Z;obtain ⟨g,rfl⟩:=Z;have ai:=ag (aa.o _ g.ok);generalize g.w=w2 at*;clear k0 y0 y1 y2 y3 y4 a9 bb lb bi ao J ad;go_wp2_with fail
        go_ret2
        exact ⟨ai.o,Or.inr ⟨ak.o,_,_,_,rfl⟩⟩
      | true=>
        rw [hM]at ad;obtain ⟨c7,c8⟩:=aw.o hM;have ci:Hid (((A:Int)+3+x1<=D/\b9 d.aj.length d.fields h.ab E D=(b9 d.aj.length d.fields h.ab (A+3+x1) D).map ((F++ [bj h.ab A])++ ·))\/(D<(A:Int)+3+x1/\b9 d.aj.length d.fields h.ab E D=none)):=by
         by_cases bf:(A:Int)+3+x1<=D
         ·refine Or.inl ⟨bf,?_⟩;rw [G.o,Cb af (by rw [O.o,hT,hM,ac.o];simp [bf]),ac.o];cases b9 d.aj.length d.fields h.ab (A+3+x1) D with
          | none=>rfl
          | some l=>simp
         refine Or.inr ⟨by omega,?_⟩;rw [G.o,Cc af (by rw [O.o,hT,hM,ac.o];simp [bf])];rfl
        have a4:=ag (And.intro I.o.1 I.o.2.1);have bn:=ag e1;clear O ac aw I G e1;go_wp2_with fail;refine Ch wr.heap.size wr (by kernel_rfl) (by kernel_rfl) (br _ _) ?_
        repeat (go_big_quiet_step (first | (go_at_call 59;exact J.o _) | (go_at_call 60;exact ad.o _)))
        refine wpQuiet_nil ?_;intro _ Z;obtain ⟨g,rfl⟩:=Z;have hg:=g.ok;generalize g.w=w2 at*;clear k0 y0 y1 y2 y3 y4 a9 bb lb bi ao J ad;have Y:=mf a4.o.1 hg;have bc:Bl N w2:=a4.o.2.trans (hg.mono b6);have c2:=hg.size;have r0:=(hg.cell (p:=⟨w.heap.size,0,none⟩) l0).trans ay.o;have r1:=(hg.cell (p:=⟨W,oW+(A+1),none⟩) ck).trans bn.o;have l2:w.heap.size<w2.heap.size:=by omega
        have l3:W<w2.heap.size:=by omega
        have w4:IntKind.i64.wrap (3+x1)=3+x1:=gp _ (by omega) (by omega);have w5:IntKind.i64.wrap ((A:Int)+(3+x1))=(A:Int)+(3+x1):=gp _ (by omega) (by omega);generalize hlc:F.map bk.loc=acc at*;have bx:acc.length=F.length:=by rw [<-hlc];simp
        obtain ⟨a5,c5,rfl⟩:=kq Y;have al:=ag Y;have ah:=ag bc;have a1:=ag (And.intro r0 r1);have au:Hid (acc.length+1<=maxLen/\(acc.length+1)*8<=140737488355328/\N.heap.size<=(w2.alloc (.cells #[.i A] 3)).heap.size):=⟨by unfold maxLen;omega,by omega,by have:=bc.size;simp;omega⟩;have cv:=ag bx;have ch:=ag hlc;have bs:Hid (∀(w3:World),(w2.alloc (.cells #[.i A] 3)).grownBy w3 (Value.slice a5 acc.length c5).ownBlock->w3.cell? ⟨w.heap.size,0,none⟩=some (.slice (some ⟨W,oW,none⟩) h.ab.length cW)/\w3.cell? ⟨W,oW+(A+1),none⟩=some (.i x1)/\w.heap.size<w3.heap.size/\W<w3.heap.size/\Bl N w3):=fun w3 co=>by
         have cs:∀k,(Value.slice a5 acc.length c5).ownBlock=some k->N.heap.size<=k:=fun k e=>(al.o.lt k e).1;have X:Bl N w3:=(ah.o.alloc (by have:=ah.o.size;omega) _).grown co (by have:=ah.o.size;simp;omega) (fun k e=>cs k e);have c3:=X.size;have bh:=az.o;have a2:W<N.heap.size:=by obtain ⟨_,_,e,-,-,hh⟩:=a7.o.sW;obtain ⟨b',_,_,e',cy,cj,_⟩:=hh A (by omega);cases e;cases e';exact cj
         refine ⟨(X.cell (p:=⟨w.heap.size,0,none⟩) (by show w.heap.size<_;omega)).trans (bp a7.o.b0 0 rfl),?_,by omega,by omega,X⟩;exact (X.cell (p:=⟨W,oW+(A+1),none⟩) a2).trans ((ah.o.cell (p:=⟨W,oW+(A+1),none⟩) a2).symm.trans a1.o.2)
        clear r0 r1 Y bc hg bx hlc a4 bn ay;go_wp2_with (at_builtin;refine wpList_append_lies _ rfl _ _ 22 rfl N.heap.size 3 iI (.i 0) 1 8 underlying22 cp ca cc ce rfl (by decide) (.slice a5 acc.length c5) acc.length (bw acc) rfl (al.o.alloc _) ⟨w2.heap.size,0,none⟩ 1 1 [.i A] rfl rfl (World.news_of_block (heap_alloc_new w2 _)) (by intro u hu;simp at hu;subst hu;rfl) (by omega) au.o.1 au.o.2.1 au.o.2.2 _ rfl ?_);intro gA cA w3 ap a3 _ cu;obtain ⟨r0,r1,l4,l5,X⟩:=bs.o w3 a3;have HF:Hid (w3.ownsRow N.heap.size 3 1 (.slice (some ⟨gA,0,none⟩) (acc.length+1) cA) ((F++ [bj h.ab A]).map bk.loc).length (bw ((F++ [bj h.ab A]).map bk.loc))/\Bl N w3):=by rw [List.map_append,ch.o,List.length_append,Fk];exact ⟨ap,X⟩
        clear ap a3 X bs al ah au a1;go_wp2_with fail;go_roundw
        case rel=>
         refine ⟨(A+3+x1.toNat),F++ [bj h.ab A],?_,by omega,by simp;omega,HF.o.1,HF.o.2,?_⟩
         ·have:((A+3+x1.toNat:Nat):Int)=(A:Int)+(3+x1):=by omega
          rw [this]
         have e:((A+3+x1.toNat:Nat):Int)=(A:Int)+3+x1:=by omega
         rw [e];exact ci.o
        case measure=>simp [intOf];omega
   have ak:Hid (b9 d.aj.length d.fields h.ab E D=none):=by show _=_;rw [G.o,Cc af (by rw [gr,decide_eq_false h3];simp)];rfl
   have w3:IntKind.i64.wrap ((A:Int)+3)=(A:Int)+3:=gp _ (by omega) (by omega);have cn:decide (D<(A:Int)+3)=true:=by simp;omega
   have ao:Nonempty (Gr wr.heap.size wr):=⟨⟨wr,br _ _⟩⟩;clear I G L;go_wp2_with fail;refine Ch wr.heap.size wr (by kernel_rfl) (by kernel_rfl) (br _ _) ?_
   repeat (go_big_quiet_step (fail))
   refine wpQuiet_nil ?_;intro _ Z;obtain ⟨g,rfl⟩:=Z;have ai:=ag (aa.o _ g.ok);generalize g.w=w2 at*;clear ao;go_wp2_with fail
   go_ret2
   exact ⟨ai.o,Or.inr ⟨ak.o,_,_,_,rfl⟩⟩
  have aa:Hid (Bl w wr):=bm.o.trans (I.o.2.1.mono (by have:=az.o;omega));by_cases b2:(A:Int)=D
  ·have a8:Hid (b9 d.aj.length d.fields h.ab E D=some F):=by
    rcases I.o.2.2 with hx | hx
    ·show _=_;rw [hx.2,A6 af];simp
    exact absurd hx.1 (by omega)
   have al:=ag I.o.1;have cl:((A:Int)==D)=true:=beq_iff_eq.2 b2;clear I;go_wp2_with fail
   go_ret2
   exact ⟨aa.o,Or.inl ⟨F,_,a8.o,rfl,yy al.o (by have:=az.o;omega)⟩⟩
  have a8:Hid (b9 d.aj.length d.fields h.ab E D=none):=by
   rcases I.o.2.2 with hx | hx
   ·exact absurd hx.1 (by omega)
   exact hx.2
  have cl:((A:Int)==D)=false:=beq_eq_false_iff_ne.2 b2;obtain ⟨a5,c5,rfl⟩:=kq I.o.1;clear I;go_wp2_with fail
  go_ret2
  exact ⟨aa.o,Or.inr ⟨a8.o,_,_,_,rfl⟩⟩
theorem znq (w:World) (B:Nat) (vW vO kC kS kF kN kT:Value) (h:ar) (d:bd) (sW:SL 1 RI (· <B) w vW h.ab) (sO:SL 1 RI (· <B) w vO h.am) (lk:mt (· <B) w kC kS kF kN kT d) (hB:B<=w.heap.size)
 (A:Nat) (hl:A+2<h.ab.length) (bv:h.ab.length<=100000) (hf:pm d (bj h.ab A)):
 Calls prog 87 #[.agg #[vW,.i h.ae,.i h.old,.i h.bo,.i h.ba,vO,.i h.next],.agg #[kC,kS,kF,kN,kT],.i (A:Int)] w fun r w'=>Bl w w'/\∃v,r=.returned v/\w'.ownsRow w.heap.size 3 1 v (refsOf d.fields (bj h.ab A)).length (bw (refsOf d.fields (bj h.ab A))):=by
 obtain ⟨iI,bf,ay,az,a0⟩:=info_parts jy;obtain ⟨D,W⟩:∃D,D=(w.alloc (.cells #[vW,.i h.ae,.i h.old,.i h.bo,.i h.ba,vO,.i h.next] 24)).alloc (.cells #[kC,kS,kF,kN,kT] 36):=⟨_,rfl⟩;have ai:Rd w.heap.size B D vW vO kC kS kF kN kT h d:=W ▸ Rd.new w B _ _ _ _ _ _ _ h d hB sW sO lk;have ap:Bl w D:=W ▸ ((br _ _).alloc (nlq _) _).alloc (by simp) _;have aw:D.heap.size=w.heap.size+2:=by rw [W];simp
 have ad:=ag ai;have a3:=ag ap;have a4:=ag W;have ao:=ag aw;have a6:=ag hf;obtain ⟨aC,cC,aS,cS,aF,cF,aN,cN,aT,cT,rfl,rfl,rfl,rfl,rfl⟩:=lk.agg;obtain ⟨aW,cW,rfl,-,hm,-⟩:=sW;unfold maxLen at hm;obtain ⟨bW,oW,rfl,be,-⟩:=ai.sW.atI A (by omega);have af:Hid (h.ab[A]=(bj h.ab A).tag/\h.ab[A+1]=(bj h.ab A).len):=⟨(pi (by omega)).symm,by show _=wd h.ab ((A:Int)+1);rw [show (A:Int)+1=((A+1:Nat):Int) by omega];exact (pi (by omega)).symm⟩;have a9:Hid ((bj h.ab A).loc=A):=rfl;have a8:Hid (refsOf d.fields (bj h.ab A)=lh d.fields (bj h.ab A) (bj h.ab A).len.toNat):=rfl;have bn:=hf.lo;have bm:=hf.hi;have q0:(0:Int)<=A:=by omega
 have q1:(A:Int)<h.ab.length:=by omega
 have q2:(0:Int)<=(A:Int)+1:=by omega
 have q3:(A:Int)+1<h.ab.length:=by omega
 have q6:((A:Int)+1).toNat=A+1:=by omega
 have w1:IntKind.i64.wrap ((A:Int)+1)=(A:Int)+1:=gp _ (by omega) (by omega);have w3:IntKind.i64.wrap ((A:Int)+3)=(A:Int)+3:=gp _ (by omega) (by omega);have N:Hid (∀V,Bl D V->V.cell? ⟨w.heap.size,0,none⟩=some (.slice (some ⟨bW,oW,none⟩) h.ab.length cW)/\V.cell? ⟨bW,oW+A,none⟩=some (.i (bj h.ab A).tag)/\V.cell? ⟨bW,oW+(A+1),none⟩=some (.i (bj h.ab A).len)/\w.heap.size<V.heap.size/\bW<V.heap.size):=fun V hV=>by have F:=ad.o.below hV;obtain ⟨b1,o1,e1,bc,c1⟩:=F.sW.atI A (by omega);obtain ⟨b2,o2,e2,bs,c2⟩:=F.sW.atI (A+1) (by omega);cases e1;cases e2;rw [af.o.1]at c1;rw [af.o.2]at c2;exact ⟨bp F.b0 0 rfl,c1,c2,bz F.b0,bc⟩
 have G:Hid (∀V,Bl D V->V.cell? ⟨w.heap.size+1,0,none⟩=some (.slice aC d.aj.length cC)/\V.cell? ⟨w.heap.size+1,1,none⟩=some (.slice aS d.bg.length cS)/\V.cell? ⟨w.heap.size+1,2,none⟩=some (.slice aF d.fields.length cF)/\V.cell? ⟨w.heap.size+1,3,none⟩=some (.slice aN d.names.length cN)/\V.cell? ⟨w.heap.size+1,4,none⟩=some (.slice aT d.ax.length cT)/\w.heap.size+1<V.heap.size):=fun V hV=>by have F:=ad.o.below hV;exact ⟨bp F.b1 0 rfl,bp F.b1 1 rfl,bp F.b1 2 rfl,bp F.b1 3 rfl,bp F.b1 4 rfl,bz F.b1⟩
 have bb:Hid (∀V (n:Nat),Bl D V->(n:Int)<(bj h.ab A).len->Calls prog 31 #[.agg #[.slice aC d.aj.length cC,.slice aS d.bg.length cS,.slice aF d.fields.length cF,.slice aN d.names.length cN,.slice aT d.ax.length cT],.i (bj h.ab A).tag,.i (n:Int)] V fun r w'=>r=.returned (.bool (jp d.fields (bj h.ab A) n))/\Bl V w'):=fun V n hV hn=>zky V B _ _ _ _ _ d (ad.o.below hV).lk (bj h.ab A) a6.o n hn;clear ai ap W sO lk hf af be aw;generalize bj h.ab A=t at*;generalize htl:t.len=tl at*;clear htl;go_enter func87,ntmps87;go_wp2_with fail;rw [<-a4.o];go_loopw [7,8] (fun v i wr=>∃n:Nat,i=.i n/\(n:Int)<=tl/\Hid (wr.ownsRow D.heap.size 3 1 v (lh d.fields t n).length (bw (lh d.fields t n))/\Bl D wr)) (fun _ i _=>(tl - intOf i).toNat)
 case atStart=>exact ⟨0,rfl,by omega,World.ownsRow_nil _ _ _ _,br _ _⟩
 case round=>
  obtain ⟨n,rfl,hn,HI⟩:=hrel;obtain ⟨k0,k1,k2,k3,k4⟩:=N.o wr HI.o.2;have ak:=HI.o.2.size;by_cases bh:(n:Int)<tl
  ·have O:=ag (zhq d.fields t n);have Y:Nonempty (Gr wr.heap.size wr):=⟨⟨wr,br _ _⟩⟩;have L:∀g:Gr wr.heap.size wr,Bl D g.w:=fun g=>HI.o.2.trans (g.ok.mono ak);have c0:∀g:Gr wr.heap.size wr,g.w.cell? ⟨w.heap.size,0,none⟩=some (.slice (some ⟨bW,oW,none⟩) h.ab.length cW):=fun g=>(N.o g.w (L g)).1;have c1:∀g:Gr wr.heap.size wr,g.w.cell? ⟨bW,oW+A,none⟩=some (.i t.tag):=fun g=>(N.o g.w (L g)).2.1;have y0:∀g:Gr wr.heap.size wr,g.w.cell? ⟨w.heap.size+1,0,none⟩=some (.slice aC d.aj.length cC):=fun g=>(G.o g.w (L g)).1;have y1:∀g:Gr wr.heap.size wr,g.w.cell? ⟨w.heap.size+1,1,none⟩=some (.slice aS d.bg.length cS):=fun g=>(G.o g.w (L g)).2.1;have y2:∀g:Gr wr.heap.size wr,g.w.cell? ⟨w.heap.size+1,2,none⟩=some (.slice aF d.fields.length cF):=fun g=>(G.o g.w (L g)).2.2.1;have y3:∀g:Gr wr.heap.size wr,g.w.cell? ⟨w.heap.size+1,3,none⟩=some (.slice aN d.names.length cN):=fun g=>(G.o g.w (L g)).2.2.2.1;have y4:∀g:Gr wr.heap.size wr,g.w.cell? ⟨w.heap.size+1,4,none⟩=some (.slice aT d.ax.length cT):=fun g=>(G.o g.w (L g)).2.2.2.2.1;have lb:∀g:Gr wr.heap.size wr,w.heap.size<g.w.heap.size:=fun g=>(N.o g.w (L g)).2.2.2.1;have a1:∀g:Gr wr.heap.size wr,w.heap.size+1<g.w.heap.size:=fun g=>(G.o g.w (L g)).2.2.2.2.2;have a2:∀g:Gr wr.heap.size wr,bW<g.w.heap.size:=fun g=>(N.o g.w (L g)).2.2.2.2;have I:Hid (∀g:Gr wr.heap.size wr,Calls prog 31 #[.agg #[.slice aC d.aj.length cC,.slice aS d.bg.length cS,.slice aF d.fields.length cF,.slice aN d.names.length cN,.slice aT d.ax.length cT],.i t.tag,.i (n:Int)] g.w fun e bi=>e=.returned (.bool (jp d.fields t n))/\∃g':Gr wr.heap.size wr,bi=g'.w):=fun g=>Gr.calls g (nlq _) (bb.o g.w n (L g) bh);have J:=ag HI.o;clear HI L;cases F:jp d.fields t n with
   | false=>
     rw [F]at O I;go_wp2_with fail;refine Ch wr.heap.size wr (by kernel_rfl) (by kernel_rfl) (br _ _) ?_
     repeat (go_big_quiet_step (first | (go_at_call 31;exact I.o _)))
     refine wpQuiet_nil ?_;intro _ al;obtain ⟨g,rfl⟩:=al;have HF:Hid (g.w.ownsRow D.heap.size 3 1 u7 (lh d.fields t (n+1)).length (bw (lh d.fields t (n+1)))/\Bl D g.w):=by rw [O.o];simp only [Bool.false_eq_true,if_false,List.append_nil];exact ⟨mf J.o.1 g.ok,J.o.2.trans (g.ok.mono ak)⟩
     generalize g.w=w2 at*;clear c0 c1 y0 y1 y2 y3 y4 lb a1 a2 Y I J O k0 k1 k2;go_wp2_with fail;go_roundw
     case rel=>exact ⟨n+1,by simp,by omega,HF.o⟩
     case measure=>simp [intOf];omega
   | true=>
     rw [F]at O I;go_wp2_with fail;refine Ch wr.heap.size wr (by kernel_rfl) (by kernel_rfl) (br _ _) ?_
     repeat (go_big_quiet_step (first | (go_at_call 31;exact I.o _)))
     refine wpQuiet_nil ?_;intro _ al;obtain ⟨g,rfl⟩:=al;have E:=mf J.o.1 g.ok;have ah:Bl D g.w:=J.o.2.trans (g.ok.mono ak);generalize g.w=w2 at*;clear c0 c1 y0 y1 y2 y3 y4 lb a1 a2 Y I J k0 k1 k2;have bu:=Ek d.fields t n;generalize hrn:lh d.fields t n=acc at*;obtain ⟨a5,c5,rfl⟩:=kq E;have an:=ag E;have aa:=ag ah;have w4:IntKind.i64.wrap ((A:Int)+3+(n:Int))=(A:Int)+3+(n:Int):=gp _ (by omega) (by omega);generalize hlx:(A:Int)+3+(n:Int)=lx at*;have ac:Hid (acc.length+1<=maxLen/\(acc.length+1)*8<=140737488355328/\D.heap.size<=(w2.alloc (.cells #[.i lx] 3)).heap.size):=⟨by unfold maxLen;omega,by omega,by have:=ah.size;simp;omega⟩;have a7:Hid (t.loc+3+(n:Int)=lx):=by rw [a9.o];exact hlx
     clear E ah hrn;go_wp2_with (at_builtin;refine wpList_append_lies _ rfl _ _ 22 rfl D.heap.size 3 iI (.i 0) 1 8 underlying22 bf ay az a0 rfl (by decide) (.slice a5 acc.length c5) acc.length (bw acc) rfl (an.o.alloc _) ⟨w2.heap.size,0,none⟩ 1 1 [.i lx] rfl rfl (World.news_of_block (heap_alloc_new w2 _)) (by intro u hu;simp at hu;subst hu;rfl) (by omega) ac.o.1 ac.o.2.1 ac.o.2.2 _ rfl ?_);intro gA cA w3 X Z _ bl;have av:∀k,(Value.slice a5 acc.length c5).ownBlock=some k->D.heap.size<=k:=fun k e=>(an.o.lt k e).1;have au:Bl D w3:=(aa.o.alloc aa.o.size _).grown Z (by have:=aa.o.size;simp;omega) (fun k e=>av k e);have HF:Hid (w3.ownsRow D.heap.size 3 1 (.slice (some ⟨gA,0,none⟩) (acc.length+1) cA) (lh d.fields t (n+1)).length (bw (lh d.fields t (n+1)))/\Bl D w3):=by rw [O.o,a7.o,if_pos trivial,List.length_append,El];exact ⟨X,au⟩
     clear X Z au av;go_wp2_with fail;go_roundw
     case rel=>exact ⟨n+1,by simp,by omega,HF.o⟩
     case measure=>simp [intOf];omega
  have Y:tl.toNat=n:=by omega
  have HF:Hid (Bl w wr/\wr.ownsRow w.heap.size 3 1 u7 (refsOf d.fields t).length (bw (refsOf d.fields t))):=by rw [a8.o,Y];exact ⟨a3.o.trans (HI.o.2.mono (by have:=ao.o;omega)),yy HI.o.1 (by have:=ao.o;omega)⟩
  go_wp2_with fail;go_ret;exact ⟨HF.o.1,_,rfl,HF.o.2⟩
def Ct (w:World) (h:ar) (d:bd) (r:Ending) (w':World):Prop:=
 (∃ys os vy vo,b9 d.aj.length d.fields h.ab 1 h.bo=some ys/\b9 d.aj.length d.fields h.ab (h.ae+1) h.ba=some os/\r=.returned (.tuple #[vy,vo,.bool true])/\w'.ownsRow w.heap.size 3 1 vy (ys.map bk.loc).length (bw (ys.map bk.loc))/\w'.ownsRow w.heap.size 3 1 vo (os.map bk.loc).length (bw (os.map bk.loc)))\/
  (io d h=none/\∃a n c a' n' c',r=.returned (.tuple #[.slice a n c,.slice a' n' c',.bool false]))
theorem znr (w:World) (B:Nat) (vW vO kC kS kF kN kT:Value) (h:ar) (d:bd) (sW:SL 1 RI (· <B) w vW h.ab) (sO:SL 1 RI (· <B) w vO h.am) (lk:mt (· <B) w kC kS kF kN kT d) (hB:B<=w.heap.size) (O:nj d h) (a0:∀f∈d.fields,f.length<=500):
 Calls prog 73 #[.agg #[vW,.i h.ae,.i h.old,.i h.bo,.i h.ba,vO,.i h.next],.agg #[kC,kS,kF,kN,kT]] w fun r w'=>Bl w w'/\Ct w h d r w':=by
 obtain ⟨Z,J⟩:∃Z,Z=(w.alloc (.cells #[vW,.i h.ae,.i h.old,.i h.bo,.i h.ba,vO,.i h.next] 24)).alloc (.cells #[kC,kS,kF,kN,kT] 36):=⟨_,rfl⟩;have G:Rd w.heap.size B Z vW vO kC kS kF kN kT h d:=J ▸ Rd.new w B _ _ _ _ _ _ _ h d hB sW sO lk;have az:Bl w Z:=J ▸ ((br _ _).alloc (nlq _) _).alloc (by simp) _;have a1:Z.heap.size=w.heap.size+2:=by rw [J];simp
 have z1:=O.ae;have z2:=O.old;have z3:=O.len;have z4:=O.bo;have z5:=O.ba;obtain ⟨X,af⟩:∃X:Nat,h.ae+1=X:=⟨(h.ae+1).toNat,by omega⟩;have bb:IntKind.i64.wrap (h.ae+1)=(X:Int):=(gp _ (by omega) (by omega)).trans af;have HY:Hid (h.ae+1=X):=af;have Y:=ag (zk1 Z B _ _ _ _ _ _ _ h d G.sW G.sO G.lk (by omega) 1 h.bo (by omega) (by omega) (by omega) O.fl a0 O.cn);have aw:Hid (∀V,Bl Z V->Calls prog 129 #[.agg #[vW,.i h.ae,.i h.old,.i h.bo,.i h.ba,vO,.i h.next],.agg #[kC,kS,kF,kN,kT],.i (X:Int),.i h.ba] V fun r w'=>Bl V w'/\zu V (b9 d.aj.length d.fields h.ab X h.ba) r w'):=fun V hV=>by have hr:=G.below hV;exact zk1 V B _ _ _ _ _ _ _ h d hr.sW hr.sO hr.lk (by have:=hr.le;have:=bz hr.b0;omega) X h.ba (by omega) (by omega) (by omega) O.fl a0 O.cn
 have a5:=ag G;have ah:=ag az;have al:=ag J;have av:=ag a1;obtain ⟨aC,cC,aS,cS,aF,cF,aN,cN,aT,cT,rfl,rfl,rfl,rfl,rfl⟩:=lk.agg;obtain ⟨aW,cW,rfl,-⟩:=sW;obtain ⟨aO,cO,rfl,-⟩:=sO;have an:Hid (b9 d.aj.length d.fields h.ab 1 h.bo=none->io d h=none):=fun e=>by unfold io;rw [e]
 have ap:Hid (b9 d.aj.length d.fields h.ab X h.ba=none->io d h=none):=fun e=>by unfold io;rw [HY.o,e];cases b9 d.aj.length d.fields h.ab 1 h.bo<;>rfl
 rw [al.o]at Y;clear G az J a1 lk z1 z2 z3 z4 z5 O af;go_enter func73,ntmps73;go_wp2_with fail;refine Y.o.mono ?_;rw [<-al.o];rintro r w1 ⟨L,a8⟩;have N:=a5.o.below L;have l0:=bz N.b0;have l1:=bz N.b1;have xk:=ip N.b0;have yk:=cells5 N.b1;have ax:=ag (aw.o w1 L);have ai:=ag L;have a9:=L.size;have ak:Hid (∀V,Bl w1 V->Bl w V):=fun V hV=>ah.o.trans ((ai.o.trans (hV.mono ai.o.size)).mono ah.o.size);clear N L aw Y;rcases a8 with ⟨ys,vy,D,rfl,W⟩ | ⟨D,a,n,c,rfl⟩
 ·obtain ⟨ay,cy,rfl⟩:=kq W;have a7:=ag D;obtain ⟨yl,ad⟩:∃yl,ys.map bk.loc=yl:=⟨_,rfl⟩;rw [ad]at W ⊢;have a6:=ag ad;have a4:=ag W;clear D W ad;go_wp2_with fail;refine ax.o.mono ?_;rintro r w2 ⟨F,aa⟩;have I:=ag (ak.o w2 F);have au:=ag (mf a4.o F);clear F xk yk;rcases aa with ⟨os,vo,D,rfl,A⟩ | ⟨D,a,n,c,rfl⟩
  ·obtain ⟨ao,co,rfl⟩:=kq A;have E:=ag D;obtain ⟨ol,ac⟩:∃ol,os.map bk.loc=ol:=⟨_,rfl⟩;rw [ac]at A ⊢;have a2:=ag ac;have a3:=ag A;clear D A ac;go_wp2_with fail
   go_ret3
   exact ⟨I.o,Or.inl ⟨ys,os,_,_,a7.o,by rw [HY.o];exact E.o,rfl,by rw [a6.o];exact yy au.o (by have:=av.o;omega),by rw [a2.o];exact yy a3.o (by have:=av.o;omega)⟩⟩
  have E:=ag (ap.o D);clear D;go_wp2_with fail
  go_ret3
  exact ⟨I.o,Or.inr ⟨E.o,_,_,_,_,_,_,rfl⟩⟩
 have E:=ag (an.o D);clear D;go_wp2_with fail;refine ax.o.mono ?_;rintro r w2 ⟨F,aa⟩;have I:=ag (ak.o w2 F);clear F xk yk;rcases aa with ⟨os,vo,D,rfl,A⟩ | ⟨D,a,n,c,rfl⟩
 ·obtain ⟨ao,co,rfl⟩:=kq A;clear D A;go_wp2_with fail
  go_ret3
  exact ⟨I.o,Or.inr ⟨E.o,_,_,_,_,_,_,rfl⟩⟩
 clear D;go_wp2_with fail
 go_ret3
 exact ⟨I.o,Or.inr ⟨E.o,_,_,_,_,_,_,rfl⟩⟩
end Go.Proofs.YtjdnmblggdobgaaGreat
