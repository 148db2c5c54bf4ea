import Derived.Test.YtjdnmblggdobgaaGreatJHsLHpT
import Derived.Test.YtjdnmblggdobgaaGreatJLLkLBas
set_option maxHeartbeats 4000000
set_option maxRecDepth 100000
namespace Go.Proofs.YtjdnmblggdobgaaGreat
open Go.Maps Go.RowKit Tryz List Or World
variable (w:World) (B:Nat) (Y J I A F D E G vW vO kC kS Z kF kN kT:Value) (h:ar) (d:ax)
def rh (n a b:Int):Bool:=decide (a<=n)&&decide (n<=b)
theorem Fv (n a b:Int):Calls prog 78 #[.i n,.i a,.i b] w fun r w'=>r=.returned (.bool (rh n a b))/\w'=w:=by
 by_cases h0:a<=n
 ·by_cases h1:n<=b
  ·have A:Hid (rh n a b=true):=by show rh n a b=true;simp [rh,h0,h1]
   go_enter func78,ntmps78;go_wp2_with fail;go_ret;exact ⟨by rw [A.o];rfl,rfl⟩
  have A:Hid (rh n a b=false):=by show rh n a b=false;simp [rh,h1]
  go_enter func78,ntmps78;go_wp2_with fail;go_ret;exact ⟨by rw [A.o];rfl,rfl⟩
 have A:Hid (rh n a b=false):=by show rh n a b=false;simp [rh,h0]
 go_enter func78,ntmps78;go_wp2_with fail;go_ret;exact ⟨by rw [A.o];rfl,rfl⟩
theorem zkn (N J L O:Value) (d:ax) (G:nh (· <B) w I N J L O d) (A:Int) (hn:d.am.length<=1000):
 Calls prog 59 #[.agg #[I,N,J,L,O],.i A] w fun r w'=>r=.returned (.bool (dx d.am.length A))/\Bl w w':=by
 have E:∀o,Hid (Bl w (w.alloc o)):=fun o=>(br _ _).alloc (nlq _) _;obtain ⟨V,cC,Y,cS,W,cF,X,cN,Z,cT,rfl,rfl,rfl,rfl,rfl⟩:=G.agg;clear G;by_cases h1:1<=A
 ·have wn:IntKind.i64.wrap (3+(d.am.length:Int))=3+d.am.length:=gw _ (by omega) (by omega);by_cases F:A<3+d.am.length
  ·have D:Hid (dx d.am.length A=true):=by show dx _ _=true;simp [dx,h1,F]
   go_enter func59,ntmps59;go_wp2_with fail;go_ret;exact ⟨by rw [D.o];rfl,(E _).o⟩
  have D:Hid (dx d.am.length A=false):=by show dx _ _=false;simp [dx,F]
  go_enter func59,ntmps59;go_wp2_with fail;go_ret;exact ⟨by rw [D.o];rfl,(E _).o⟩
 have D:Hid (dx d.am.length A=false):=by show dx _ _=false;simp [dx,h1]
 go_enter func59,ntmps59;go_wp2_with fail;go_ret;exact ⟨by rw [D.o];rfl,(E _).o⟩
def tm (fs:List (List bv)) (tag n:Int):Bool:=rh n 0 500&&(decide (tag<3)||decide (n=(iu fs tag).length))
theorem zko (I:nh (· <B) w kC kS kF kN kT d) (hB:B<=w.heap.size) (A n:Int) (ht:A<3+d.fields.length):
 Calls prog 60 #[.agg #[kC,kS,kF,kN,kT],.i A,.i n] w fun r w'=>r=.returned (.bool (tm d.fields A n))/\Bl w w':=by
 have L:∀o,Hid (Bl w (w.alloc o)):=fun o=>(br _ _).alloc (nlq _) _;obtain ⟨aC,cC,aS,cS,aF,cF,aN,cN,aT,cT,rfl,rfl,rfl,rfl,rfl⟩:=I.agg;have D:Hid (∀W,Calls prog 78 #[.i n,.i 0,.i 500] W fun r w'=>r=.returned (.bool (rh n 0 500))/\w'=W):=fun W=>Fv W n 0 500;have E:Hid (tm d.fields A n=(rh n 0 500&&(decide (A<3)||decide (n=(iu d.fields A).length)))):=rfl;cases hb:rh n 0 500
 ·rw [hb]at D E;have G:Hid (tm d.fields A n=false):=E.o.trans (by simp);clear I E hb;go_enter func60,ntmps60;go_wp2_with fail;refine (D.o _).mono ?_;rintro r _ ⟨rfl,rfl⟩;go_wp2_with fail;go_ret;exact ⟨by rw [G.o];rfl,(L _).o⟩
 rw [hb]at D E;by_cases h3:A<3
 ·have G:Hid (tm d.fields A n=true):=E.o.trans (by simp [h3]);clear I E hb;go_enter func60,ntmps60;go_wp2_with fail;refine (D.o _).mono ?_;rintro r _ ⟨rfl,rfl⟩;go_wp2_with fail;go_ret;exact ⟨by rw [G.o];rfl,(L _).o⟩
 obtain ⟨k,Z⟩:∃k:Nat,A=3+k:=⟨(A - 3).toNat,by omega⟩;subst Z;have J:k<d.fields.length:=by omega
 have V:=I.kept (Kp.below (((L (.cells (K5 aC cC aS cS aF cF aN cN aT cT d) 36)).o.mono hB)));obtain ⟨bF,oF,aV,cV,rfl,af,e1,sV⟩:=I.F.atSl k J;obtain ⟨ad,ak,ac,ae,ee,N,X,aa⟩:=V.F.atSl k J;have O:iu d.fields (3+k)=d.fields[k]:=by unfold iu;rw [show ((3+(k:Int)) - 3).toNat=k by omega];simp [J]
 rw [O]at E;have q1:(0:Int)<=k:=by omega
 have q2:(k:Int)<d.fields.length:=by omega
 have q3:3+(k:Int) - 3=k:=by omega
 have ai:d.fields[k].length<=9223372036854775807:=by obtain ⟨_,_,-,-,h,-⟩:=sV;unfold maxLen at h;omega
 have ah:d.fields.length<=9223372036854775807:=by obtain ⟨_,_,-,-,h,-⟩:=I.F;unfold maxLen at h;omega
 clear sV aa O I V hb X ee N;generalize d.fields[k].length=fl at*;by_cases Y:n=fl
 ·subst Y;have G:Hid (tm d.fields (3+k) fl=true):=E.o.trans (by simp);clear E;go_enter func60,ntmps60;go_wp2_with fail;refine (D.o _).mono ?_;rintro r _ ⟨rfl,rfl⟩;go_wp2_with fail;go_ret;exact ⟨by rw [G.o];simp<;>omega,(L _).o⟩
 have h4:(n==(fl:Int))=false:=beq_eq_false_iff_ne.2 Y;have G:Hid (tm d.fields (3+k) n=false):=E.o.trans (by simp [Y];omega);clear E;go_enter func60,ntmps60;go_wp2_with fail;refine (D.o _).mono ?_;rintro r _ ⟨rfl,rfl⟩;go_wp2_with fail;go_ret;exact ⟨by rw [G.o];simp<;>omega,(L _).o⟩
theorem zkp (J:nh (· <B) w Y kS Z kN kT d) (t:bq) (V:qf d t) (n:Nat) (hn:(n:Int)<t.len):
 Calls prog 31 #[.agg #[Y,kS,Z,kN,kT],.i t.tag,.i (n:Int)] w fun r w'=>r=.returned (.bool (jw d.fields t n))/\Bl w w':=by
 have A:=aj (fun o=>(br w.heap.size w).alloc (nlq _) o);obtain ⟨aC,cC,aS,cS,aF,cF,aN,cN,aT,cT,rfl,rfl,rfl,rfl,rfl⟩:=J.agg;obtain ⟨_,_,-,-,hm,-⟩:=J.F;unfold maxLen at hm;by_cases h1:3<=t.tag
 ·obtain ⟨I,X⟩:=V.tag h1;obtain ⟨k,L⟩:∃k:Nat,t.tag=3+k:=⟨(t.tag - 3).toNat,by omega⟩;have N:k<d.fields.length:=by omega
  obtain ⟨bF,oF,aV,cV,rfl,aa,e1,W⟩:=J.F.atSl k N;have D:iu d.fields t.tag=d.fields[k]:=by unfold iu;rw [L,show ((3+(k:Int)) - 3).toNat=k by omega];simp [N]
  rw [D]at X;have O:n<d.fields[k].length:=by omega
  obtain ⟨bV,oV,rfl,ac,-,e2,-⟩:=W.atF n O;have G:Hid (jw d.fields t n=decide (d.fields[k][n].kind.kind≠1)):=by show jw d.fields t n=_;rw [jw,if_pos h1,D];simp [O]
  have q1:(0:Int)<=k:=by omega
  have q2:(k:Int)<d.fields.length:=by omega
  have q4:(0:Int)<=n:=by omega
  have q6:((3:Int)+k==2)=false:=beq_eq_false_iff_ne.2 (by omega);have wk:IntKind.i64.wrap (k:Int)=k:=gw _ (by omega) (by omega);have af:IntKind.i64.wrap (3+(k:Int) - 3)=k:=(by rw [show 3+(k:Int) - 3=k by omega];exact wk);have q5:(n:Int)<d.fields[k].length:=by omega
  have ae:d.fields[k].length<=9223372036854775807:=by obtain ⟨_,_,-,-,h,-⟩:=W;unfold maxLen at h;omega
  generalize d.fields[k][n].kind.kind=kk at*;generalize d.fields[k].length=fl at*;clear W D J V X hn;rw [L]at*;by_cases E:kk=1
  ·subst E;go_enter func31,ntmps31;go_wp2_with fail;go_ret;exact ⟨by rw [G.o];rfl,A.o _⟩
  have ad:(kk==1)=false:=beq_eq_false_iff_ne.2 E;go_enter func31,ntmps31;go_wp2_with fail;go_ret;exact ⟨by rw [G.o];simp [E],A.o _⟩
 have G:Hid (jw d.fields t n=decide (t.tag=2)):=by show jw d.fields t n=_;rw [jw,if_neg h1]
 clear J V;by_cases I:t.tag=2
 ·have hb:(t.tag==2)=true:=beq_iff_eq.2 I;go_enter func31,ntmps31;go_wp2_with fail;go_ret;exact ⟨by rw [G.o];simp [I],A.o _⟩
 have hb:(t.tag==2)=false:=beq_eq_false_iff_ne.2 I;go_enter func31,ntmps31;go_wp2_with fail;go_ret;exact ⟨by rw [G.o];simp [I],A.o _⟩
theorem zkq (M:Nat->Prop) (v:Value) (l:List Int) (J:SL 1 RI M w v l) (n:Int):
 Calls prog 74 #[v,.i n] w fun r w'=>r=.returned (.bool (l.contains n))/\w'=w:=by
 have N:=aj J;obtain ⟨ao,cl,rfl,-,O,-⟩:=J;unfold maxLen at O;go_enter func74,ntmps74;go_wp2_with fail;go_loopw [5] (fun i wr=>∃k:Nat,k<=l.length/\i=.i k/\wr=w/\Hid ((l.take k).contains n=false)) (fun i _=>l.length - (intOf i).toNat)
 case atStart=>exact ⟨0,n0q _,rfl,rfl,by show (l.take 0).contains n=false;simp⟩
 case round=>
  obtain ⟨k,W,rfl,rfl,I⟩:=hrel;by_cases A:k<l.length
  ·obtain ⟨b,off,rfl,V,e⟩:=N.o.atI k A;have q1:(0:Int)<=k:=by omega
   have q2:(k:Int)<l.length:=by omega
   by_cases E:l[k]=n
   ·have G:(l[k]==n)=true:=beq_iff_eq.2 E;have L:Hid (l.contains n=true):=contains_iff_mem.2 (E ▸ gm A);generalize l[k]=x at*;go_wp2_with fail;go_ret;exact ⟨by rw [L.o];rfl,rfl⟩
   have G:(l[k]==n)=false:=beq_eq_false_iff_ne.2 E;have F:Hid ((l.take (k+1)).contains n=false):=by
    show (l.take (k+1)).contains n=false;have h0:=I.o;rw [take_succ_eq_append_getElem A];rw [<-Bool.not_eq_true,contains_iff_mem]at h0 ⊢;intro D;rcases mem_append.1 D with D | D
    ·exact h0 D
    simp at D;exact E D.symm
   generalize l[k]=x at*;go_wp2_with fail;go_roundw
   case rel=>exact ⟨k+1,by omega,by go_num,trivial,F.o⟩
   case measure=>simp [intOf];omega
  have F:Hid (l.contains n=false):=by have h0:=I.o;rw [take_of_length_le (by omega)]at h0;exact h0
  go_wp2_with fail;go_ret;exact ⟨by rw [F.o];rfl,rfl⟩
structure Rd (P B:Nat) (w:World) (vW vO kC kS kF kN kT:Value) (h:ar) (d:ax):Prop where
 le:B<=P
 b0:w.heap[P]? =some (.cells #[vW,.i h.ae,.i h.old,.i h.bk,.i h.be,vO,.i h.next] 24 (0,0))
 b1:w.heap[P+1]? =some (.cells #[kC,kS,kF,kN,kT] 36 (0,0))
 sW:SL 1 RI (· <B) w vW h.ab
 sO:SL 1 RI (· <B) w vO h.ap
 lk:nh (· <B) w kC kS kF kN kT d
theorem Rd.below {P B:Nat} {w w':World} {N L E I F G J:Value} {h:ar} {d:ax} (r:Rd P B w N L E I F G J h d) (A:Bl w w'):Rd P B w' N L E I F G J h d:=
 have O:=bz r.b0;have D:=Kp.below (A.mono (by have:=r.le;omega:B<=w.heap.size))
 ⟨r.le,(A.block _ O).trans r.b0,(A.block _ (bz r.b1)).trans r.b1,r.sW.keptI D,r.sO.keptI D,r.lk.kept D⟩
theorem Rd.new (N:B<=w.heap.size) (X:SL 1 RI (· <B) w J h.ab) (W:SL 1 RI (· <B) w I h.ap) (V:nh (· <B) w A F D E G d):
 Rd w.heap.size B ((w.alloc (.cells #[J,.i h.ae,.i h.old,.i h.bk,.i h.be,I,.i h.next] 24)).alloc (.cells #[A,F,D,E,G] 36)) J I A F D E G h d:=by
 have O:Bl w ((w.alloc (.cells #[J,.i h.ae,.i h.old,.i h.bk,.i h.be,I,.i h.next] 24)).alloc (.cells #[A,F,D,E,G] 36)):=((br _ _).alloc (nlq _) _).alloc (by simp) _;have L:=Kp.below (O.mono N);refine ⟨N,(Below.heap_alloc _ _ _ (by simp)).trans (heap_alloc_new w _),?_,X.keptI L,W.keptI L,V.kept L⟩;have:=heap_alloc_new (w.alloc (.cells #[J,.i h.ae,.i h.old,.i h.bk,.i h.be,I,.i h.next] 24)) (.cells #[A,F,D,E,G] 36);simpa using this
theorem zkr {fs:List (List bv)} {A n:Int} (D:∀f∈fs,f.length<=500):tm fs A n=da fs A n:=by
 unfold tm da rh;by_cases E:3<=A
 ·rw [if_pos E];have F:(iu fs A).length<=500:=by
   unfold iu;cases hx:fs[(A - 3).toNat]? with
   | none=>simp
   | some f=>exact D f (mem_of_getElem? hx)
  rw [Bool.eq_iff_iff];simp;omega
 rw [if_neg E];rw [Bool.eq_iff_iff];simp;omega
def Aw (w:World) (o:Option (List bq)) (r:Ending) (w':World):Prop:=
 (∃ts v,o=some ts/\r=.returned (.tuple #[v,.bool true])/\w'.ownsRow w.heap.size 3 1 v (ts.map bq.loc).length (b8 (ts.map bq.loc)))\/(o=none/\∃a n c,r=.returned (.tuple #[.slice a n c,.bool false]))
theorem zks (sW:SL 1 RI (· <B) w vW h.ab) (sO:SL 1 RI (· <B) w vO h.ap) (lk:nh (· <B) w kC kS kF kN kT d) (hB:B<=w.heap.size) (E:Nat) (D:Int) (ct:(E:Int)<=D) (c8:D<=5000) (ht:D<=h.ab.length) (b5:d.fields.length=d.am.length) (b6:∀f∈d.fields,f.length<=500) (co:d.am.length<=1000):
 Calls prog 129 #[.agg #[vW,.i h.ae,.i h.old,.i h.bk,.i h.be,vO,.i h.next],.agg #[kC,kS,kF,kN,kT],.i (E:Int),.i D] w fun r w'=>Bl w w'/\Aw w (cw d.am.length d.fields h.ab E D) r w':=by
 obtain ⟨iI,cs,cc,ce,cf⟩:=info_parts kh;obtain ⟨N,an⟩:∃N,N=(w.alloc (.cells #[vW,.i h.ae,.i h.old,.i h.bk,.i h.be,vO,.i h.next] 24)).alloc (.cells #[kC,kS,kF,kN,kT] 36):=⟨_,rfl⟩;have b7:Rd w.heap.size B N vW vO kC kS kF kN kT h d:=an ▸ Rd.new w B _ _ _ _ _ _ _ h d hB sW sO lk;have b2:Bl w N:=an ▸ ((br _ _).alloc (nlq _) _).alloc (by simp) _;have bl:N.heap.size=w.heap.size+2:=by rw [an];simp
 have a9:=aj b7;have bo:=aj b2;have ch:=aj an;have a1:=aj bl;have ay:=aj (And.intro b5 (And.intro b6 co));obtain ⟨aC,cC,aS,cS,aF,cF,aN,cN,aT,cT,rfl,rfl,rfl,rfl,rfl⟩:=lk.agg;have HM:Hid (∃a c,vW=.slice a h.ab.length c/\h.ab.length<=9223372036854775807):=by obtain ⟨a,c,e,-,hm,-⟩:=sW;exact ⟨a,c,e,by unfold maxLen at hm;omega⟩
 clear b7 b2 an sW sO lk b5 b6 bl;go_enter func129,ntmps129;go_wp2_with fail;rw [<-ch.o];go_loopw [2,10] (fun i v wr=>∃(A:Nat) (F:List bq),i=.i A/\A<=10000/\F.length<=A/\Hid (wr.ownsRow N.heap.size 3 1 v (F.map bq.loc).length (b8 (F.map bq.loc))/\Bl N wr/\
  (((A:Int)<=D/\cw d.am.length d.fields h.ab E D=(cw d.am.length d.fields h.ab A D).map (F++ ·))\/(D<A/\cw d.am.length d.fields h.ab E D=none)))) (fun i _ _=>(D - intOf i).toNat)
 case atStart=>exact ⟨E,[],rfl,by omega,n0q _,ownsRow_nil _ _ _ _,br _ _,inl ⟨ct,by cases cw d.am.length d.fields h.ab E D<;>rfl⟩⟩
 case round=>
  obtain ⟨A,F,rfl,hl,c7,I⟩:=hrel;by_cases af:(A:Int)<D
  ·have ca:cw d.am.length d.fields h.ab E D=(cw d.am.length d.fields h.ab A D).map (F++ ·):=by
    rcases I.o.2.2 with hx | hx
    ·exact hx.2
    exact absurd hx.1 (by omega)
   have G:=aj ca;clear ca;have L:=a9.o.below I.o.2.1;obtain ⟨aW,cW,rfl,c3⟩:=HM.o;have b9:=I.o.2.1.size;have aa:Hid (∀V,Bl wr V->Bl w V):=fun V hV=>bo.o.trans ((I.o.2.1.trans (hV.mono b9)).mono (by have:=a1.o;omega));by_cases h3:(A:Int)+3<=D;rotate_left
   ·have ak:Hid (cw d.am.length d.fields h.ab E D=none):=by
     show _=_;rw [G.o,Cy af (by rw [je,decide_eq_false h3];simp)];rfl
    have w3:IntKind.i64.wrap ((A:Int)+3)=(A:Int)+3:=gw _ (by omega) (by omega);have cp:decide (D<(A:Int)+3)=true:=by simp;omega
    have au:Nonempty (Gr wr.heap.size wr):=⟨⟨wr,br _ _⟩⟩;clear I G L;go_wp2_with fail;refine Cz wr.heap.size wr (by kernel_rfl) (by kernel_rfl) (br _ _) ?_
    repeat (go_big_quiet_step (fail))
    refine wpQuiet_nil ?_;intro _ Z;obtain ⟨g,rfl⟩:=Z;have ai:=aj (aa.o _ g.ok);generalize g.w=w2 at*;clear au;go_wp2_with fail
    go_ret2
    exact ⟨ai.o,inr ⟨ak.o,_,_,_,rfl⟩⟩
   have c2:A+2<h.ab.length:=by omega
   obtain ⟨W,oW,rfl,bh,e0⟩:=L.sW.atI A (by omega);obtain ⟨c0,df,ee,-,e1⟩:=L.sW.atI (A+1) (by omega);cases ee;have cm:W<wr.heap.size:=bh;have q0:(0:Int)<=A:=by omega
   have q1:(A:Int)<h.ab.length:=by omega
   have q2:(0:Int)<=(A:Int)+1:=by omega
   have q3:(A:Int)+1<h.ab.length:=by omega
   have q6:((A:Int)+1).toNat=A+1:=by omega
   have w1:IntKind.i64.wrap ((A:Int)+1)=(A:Int)+1:=gw _ (by omega) (by omega);have w3:IntKind.i64.wrap ((A:Int)+3)=(A:Int)+3:=gw _ (by omega) (by omega);have cp:decide (D<(A:Int)+3)=false:=by simp;omega
   have a2:Hid (h.ab[A]=wd h.ab A/\h.ab[A+1]=wd h.ab ((A:Int)+1)):=⟨(qm (by omega)).symm,by rw [show (A:Int)+1=((A+1:Nat):Int) by omega];exact (qm (by omega)).symm⟩;have au:Nonempty (Gr wr.heap.size wr):=⟨⟨wr,br _ _⟩⟩;have l0:=bz L.b0;have l1:=bz L.b1;have k0:∀g:Gr wr.heap.size wr,g.w.cell? ⟨w.heap.size,0,none⟩=some (.slice (some ⟨W,oW,none⟩) h.ab.length cW):=fun g=>(g.ok.cell (p:=⟨w.heap.size,0,none⟩) l0).trans (bg L.b0 0 rfl);have y0:∀g:Gr wr.heap.size wr,g.w.cell? ⟨w.heap.size+1,0,none⟩=some (.slice aC d.am.length cC):=fun g=>(g.ok.cell (p:=⟨w.heap.size+1,0,none⟩) l1).trans (bg L.b1 0 rfl);have y1:∀g:Gr wr.heap.size wr,g.w.cell? ⟨w.heap.size+1,1,none⟩=some (.slice aS d.bj.length cS):=fun g=>(g.ok.cell (p:=⟨w.heap.size+1,1,none⟩) l1).trans (bg L.b1 1 rfl);have y2:∀g:Gr wr.heap.size wr,g.w.cell? ⟨w.heap.size+1,2,none⟩=some (.slice aF d.fields.length cF):=fun g=>(g.ok.cell (p:=⟨w.heap.size+1,2,none⟩) l1).trans (bg L.b1 2 rfl);have y3:∀g:Gr wr.heap.size wr,g.w.cell? ⟨w.heap.size+1,3,none⟩=some (.slice aN d.names.length cN):=fun g=>(g.ok.cell (p:=⟨w.heap.size+1,3,none⟩) l1).trans (bg L.b1 3 rfl);have y4:∀g:Gr wr.heap.size wr,g.w.cell? ⟨w.heap.size+1,4,none⟩=some (.slice aT d.ba.length cT):=fun g=>(g.ok.cell (p:=⟨w.heap.size+1,4,none⟩) l1).trans (bg L.b1 4 rfl);have bc:∀g:Gr wr.heap.size wr,g.w.cell? ⟨W,oW+A,none⟩=some (.i h.ab[A]):=fun g=>(g.ok.cell (p:=⟨W,oW+A,none⟩) bh).trans e0;have bd:∀g:Gr wr.heap.size wr,g.w.cell? ⟨W,oW+(A+1),none⟩=some (.i h.ab[A+1]):=fun g=>(g.ok.cell (p:=⟨W,oW+(A+1),none⟩) bh).trans e1;have lb:∀g:Gr wr.heap.size wr,w.heap.size<g.w.heap.size:=fun g=>ll3 l0 g.ok.size;have bm:∀g:Gr wr.heap.size wr,w.heap.size+1<g.w.heap.size:=fun g=>ll3 l1 g.ok.size;have J:Hid (∀g:Gr wr.heap.size wr,Calls prog 59 #[.agg (K5 aC cC aS cS aF cF aN cN aT cT d),.i h.ab[A]] g.w fun e bn=>e=.returned (.bool (dx d.am.length h.ab[A]))/\∃g':Gr wr.heap.size wr,bn=g'.w):=fun g=>Gr.calls g (nlq _) (zkn g.w B _ _ _ _ _ d (L.below g.ok).lk _ ay.o.2.2);have a8:Hid (dx d.am.length h.ab[A]=true->∀g:Gr wr.heap.size wr,Calls prog 60 #[.agg (K5 aC cC aS cS aF cF aN cN aT cT d),.i h.ab[A],.i h.ab[A+1]] g.w fun e bn=>e=.returned (.bool (da d.fields h.ab[A] h.ab[A+1]))/\∃g':Gr wr.heap.size wr,bn=g'.w):=fun hb g=>by
    have cv:h.ab[A]<3+(d.fields.length:Int):=by unfold dx at hb;rw [Bool.and_eq_true]at hb;rw [ay.o.1];exact of_decide_eq_true hb.2
    rw [<-zkr ay.o.2.1];exact Gr.calls g (nlq _) (zko g.w B _ _ _ _ _ d (L.below g.ok).lk (by have:=(L.below g.ok).le;have:=bz (L.below g.ok).b0;omega) _ _ cv)
   have O:Hid (je d.am.length d.fields h.ab A D=(dx d.am.length h.ab[A]&&da d.fields h.ab[A] h.ab[A+1]&&decide ((bp h.ab A).fin<=D))):=by show je _ _ _ _ _=_;rw [je,a2.o.1,a2.o.2,decide_eq_true h3,Bool.true_and]
   have ac:Hid ((bp h.ab A).fin=A+3+h.ab[A+1]):=by show A+3+wd h.ab ((A:Int)+1)=_;rw [a2.o.2]
   have bx:Hid ((bp h.ab A).loc=A):=rfl;have az:Hid (da d.fields h.ab[A] h.ab[A+1]=true->0<=h.ab[A+1]/\h.ab[A+1]<=500):=fun hb=>by rw [<-zkr ay.o.2.1]at hb;unfold tm rh at hb;simp only [Bool.and_eq_true,decide_eq_true_eq]at hb;exact hb.1
   have a0:=aj (bg L.b0 0 (x:=.slice (some ⟨W,oW,none⟩) h.ab.length cW) rfl);clear L e0 a2;generalize h.ab[A]=x0 at*;generalize h.ab[A+1]=x1 at*;cases hT:dx d.am.length x0
   ·have ak:Hid (cw d.am.length d.fields h.ab E D=none):=by
     show _=_;rw [G.o,Cy af (by rw [O.o,hT];simp)];rfl
    rw [hT]at J;clear a8 O ac az I G e1 a0 bx;go_wp2_with fail;refine Cz wr.heap.size wr (by kernel_rfl) (by kernel_rfl) (br _ _) ?_
    repeat (go_big_quiet_step (first | (go_at_call 59;exact J.o _)))
    refine wpQuiet_nil ?_;intro _ Z;obtain ⟨g,rfl⟩:=Z;have ai:=aj (aa.o _ g.ok);generalize g.w=w2 at*;clear k0 y0 y1 y2 y3 y4 bc bd lb bm au J;go_wp2_with fail
    go_ret2
    exact ⟨ai.o,inr ⟨ak.o,_,_,_,rfl⟩⟩
   rw [hT]at J;have ad:=aj (a8.o hT);clear a8;cases hM:da d.fields x0 x1
   ·have ak:Hid (cw d.am.length d.fields h.ab E D=none):=by
     show _=_;rw [G.o,Cy af (by rw [O.o,hM];simp)];rfl
    rw [hM]at ad;clear O ac az I G e1 a0 bx;go_wp2_with fail;refine Cz wr.heap.size wr (by kernel_rfl) (by kernel_rfl) (br _ _) ?_
    repeat (go_big_quiet_step (first | (go_at_call 59;exact J.o _) | (go_at_call 60;exact ad.o _)))
    refine wpQuiet_nil ?_;intro _ Z;obtain ⟨g,rfl⟩:=Z;have ai:=aj (aa.o _ g.ok);generalize g.w=w2 at*;clear k0 y0 y1 y2 y3 y4 bc bd lb bm au J ad;go_wp2_with fail
    go_ret2
    exact ⟨ai.o,inr ⟨ak.o,_,_,_,rfl⟩⟩
   rw [hM]at ad;obtain ⟨c9,dd⟩:=az.o hM;have cj:Hid (((A:Int)+3+x1<=D/\cw d.am.length d.fields h.ab E D=(cw d.am.length d.fields h.ab (A+3+x1) D).map ((F++ [bp h.ab A])++ ·))\/(D<(A:Int)+3+x1/\cw d.am.length d.fields h.ab E D=none)):=by
    by_cases bi:(A:Int)+3+x1<=D
    ·refine inl ⟨bi,?_⟩;rw [G.o,Ep af (by rw [O.o,hT,hM,ac.o];simp [bi]),ac.o];cases cw d.am.length d.fields h.ab (A+3+x1) D with
     | none=>rfl
     | some l=>simp
    refine inr ⟨by omega,?_⟩;rw [G.o,Cy af (by rw [O.o,hT,hM,ac.o];simp [bi])];rfl
   have a7:=aj (And.intro I.o.1 I.o.2.1);have bs:=aj e1;clear O ac az I G e1;go_wp2_with fail;refine Cz wr.heap.size wr (by kernel_rfl) (by kernel_rfl) (br _ _) ?_
   repeat (go_big_quiet_step (first | (go_at_call 59;exact J.o _) | (go_at_call 60;exact ad.o _)))
   refine wpQuiet_nil ?_;intro _ Z;obtain ⟨g,rfl⟩:=Z;have hg:=g.ok;generalize g.w=w2 at*;clear k0 y0 y1 y2 y3 y4 bc bd lb bm au J ad;have Y:=km a7.o.1 hg;have bf:Bl N w2:=a7.o.2.trans (hg.mono b9);have c4:=hg.size;have r0:=(hg.cell (p:=⟨w.heap.size,0,none⟩) l0).trans a0.o;have r1:=(hg.cell (p:=⟨W,oW+(A+1),none⟩) cm).trans bs.o;have l2:w.heap.size<w2.heap.size:=by omega
   have l3:W<w2.heap.size:=by omega
   have w4:IntKind.i64.wrap (3+x1)=3+x1:=gw _ (by omega) (by omega);have w5:IntKind.i64.wrap ((A:Int)+(3+x1))=(A:Int)+(3+x1):=gw _ (by omega) (by omega);generalize hlc:F.map bq.loc=acc at*;have b3:acc.length=F.length:=by rw [<-hlc];simp
   obtain ⟨a5,c5,rfl⟩:=ku Y;have al:=aj Y;have ah:=aj bf;have a3:=aj (And.intro r0 r1);have aw:Hid (acc.length+1<=maxLen/\(acc.length+1)*8<=140737488355328/\N.heap.size<=(w2.alloc (.cells #[.i A] 3)).heap.size):=⟨by unfold maxLen;omega,by omega,by have:=bf.size;simp;omega⟩;have cy:=aj b3;have ci:=aj hlc;have bu:Hid (∀(w3:World),(w2.alloc (.cells #[.i A] 3)).grownBy w3 (Value.slice a5 acc.length c5).ownBlock->w3.cell? ⟨w.heap.size,0,none⟩=some (.slice (some ⟨W,oW,none⟩) h.ab.length cW)/\w3.cell? ⟨W,oW+(A+1),none⟩=some (.i x1)/\w.heap.size<w3.heap.size/\W<w3.heap.size/\Bl N w3):=fun w3 cr=>by
    have cu:∀k,(Value.slice a5 acc.length c5).ownBlock=some k->N.heap.size<=k:=fun k e=>(al.o.lt k e).1;have X:Bl N w3:=(ah.o.alloc (by have:=ah.o.size;omega) _).grown cr (by have:=ah.o.size;simp;omega) (fun k e=>cu k e);have c6:=X.size;have bl:=a1.o;have a4:W<N.heap.size:=by obtain ⟨_,_,e,-,-,hh⟩:=a9.o.sW;obtain ⟨b',_,_,e',c1,ck,_⟩:=hh A (by omega);cases e;cases e';exact ck
    refine ⟨(X.cell (p:=⟨w.heap.size,0,none⟩) (by show w.heap.size<_;omega)).trans (bg a9.o.b0 0 rfl),?_,by omega,by omega,X⟩;exact (X.cell (p:=⟨W,oW+(A+1),none⟩) a4).trans ((ah.o.cell (p:=⟨W,oW+(A+1),none⟩) a4).symm.trans a3.o.2)
   clear r0 r1 Y bf hg b3 hlc a7 bs a0;go_wp2_with (at_builtin;refine wpList_append_lies _ rfl _ _ 22 rfl N.heap.size 3 iI (.i 0) 1 8 underlying22 cs cc ce cf rfl (by decide) (.slice a5 acc.length c5) acc.length (b8 acc) rfl (al.o.alloc _) ⟨w2.heap.size,0,none⟩ 1 1 [.i A] rfl rfl (news_of_block (heap_alloc_new w2 _)) (by intro u hu;simp at hu;subst hu;rfl) (by omega) aw.o.1 aw.o.2.1 aw.o.2.2 _ rfl ?_);intro gA cA w3 av a6 _ cx;obtain ⟨r0,r1,l4,l5,X⟩:=bu.o w3 a6;have HF:Hid (w3.ownsRow N.heap.size 3 1 (.slice (some ⟨gA,0,none⟩) (acc.length+1) cA) ((F++ [bp h.ab A]).map bq.loc).length (b8 ((F++ [bp h.ab A]).map bq.loc))/\Bl N w3):=by rw [map_append,ci.o,length_append,zig];exact ⟨av,X⟩
   clear av a6 X bu al ah aw a3;go_wp2_with fail;go_roundw
   case rel=>
    refine ⟨(A+3+x1.toNat),F++ [bp h.ab A],?_,by omega,by simp;omega,HF.o.1,HF.o.2,?_⟩
    ·have:((A+3+x1.toNat:Nat):Int)=(A:Int)+(3+x1):=by omega
     rw [this]
    have e:((A+3+x1.toNat:Nat):Int)=(A:Int)+3+x1:=by omega
    rw [e];exact cj.o
   case measure=>simp [intOf];omega
  have aa:Hid (Bl w wr):=bo.o.trans (I.o.2.1.mono (by have:=a1.o;omega));by_cases b4:(A:Int)=D
  ·have bb:Hid (cw d.am.length d.fields h.ab E D=some F):=by
    rcases I.o.2.2 with hx | hx
    ·show _=_;rw [hx.2,Dw af];simp
    exact absurd hx.1 (by omega)
   have al:=aj I.o.1;have cn:((A:Int)==D)=true:=beq_iff_eq.2 b4;clear I;go_wp2_with fail
   go_ret2
   exact ⟨aa.o,inl ⟨F,_,bb.o,rfl,vb al.o (by have:=a1.o;omega)⟩⟩
  have bb:Hid (cw d.am.length d.fields h.ab E D=none):=by
   rcases I.o.2.2 with hx | hx
   ·exact absurd hx.1 (by omega)
   exact hx.2
  have cn:((A:Int)==D)=false:=beq_eq_false_iff_ne.2 b4;obtain ⟨a5,c5,rfl⟩:=ku I.o.1;clear I;go_wp2_with fail
  go_ret2
  exact ⟨aa.o,inr ⟨bb.o,_,_,_,rfl⟩⟩
theorem zng (sW:SL 1 RI (· <B) w vW h.ab) (sO:SL 1 RI (· <B) w vO h.ap) (lk:nh (· <B) w kC kS kF kN kT d) (hB:B<=w.heap.size) (A:Nat) (hl:A+2<h.ab.length) (b3:h.ab.length<=100000) (hf:qf d (bp h.ab A)):
 Calls prog 87 #[.agg #[vW,.i h.ae,.i h.old,.i h.bk,.i h.be,vO,.i h.next],.agg #[kC,kS,kF,kN,kT],.i (A:Int)] w fun r w'=>Bl w w'/\∃v,r=.returned v/\w'.ownsRow w.heap.size 3 1 v (refsOf d.fields (bp h.ab A)).length (b8 (refsOf d.fields (bp h.ab A))):=by
 obtain ⟨iI,bi,a0,a1,a2⟩:=info_parts kh;obtain ⟨D,W⟩:∃D,D=(w.alloc (.cells #[vW,.i h.ae,.i h.old,.i h.bk,.i h.be,vO,.i h.next] 24)).alloc (.cells #[kC,kS,kF,kN,kT] 36):=⟨_,rfl⟩;have ai:Rd w.heap.size B D vW vO kC kS kF kN kT h d:=W ▸ Rd.new w B _ _ _ _ _ _ _ h d hB sW sO lk;have av:Bl w D:=W ▸ ((br _ _).alloc (nlq _) _).alloc (by simp) _;have az:D.heap.size=w.heap.size+2:=by rw [W];simp
 have ad:=aj ai;have a6:=aj av;have a7:=aj W;have au:=aj az;have a8:=aj hf;obtain ⟨aC,cC,aS,cS,aF,cF,aN,cN,aT,cT,rfl,rfl,rfl,rfl,rfl⟩:=lk.agg;obtain ⟨aW,cW,rfl,-,hm,-⟩:=sW;unfold maxLen at hm;obtain ⟨bW,oW,rfl,bh,-⟩:=ai.sW.atI A (by omega);have af:Hid (h.ab[A]=(bp h.ab A).tag/\h.ab[A+1]=(bp h.ab A).len):=⟨(qm (by omega)).symm,by show _=wd h.ab ((A:Int)+1);rw [show (A:Int)+1=((A+1:Nat):Int) by omega];exact (qm (by omega)).symm⟩;have bc:Hid ((bp h.ab A).loc=A):=rfl;have bb:Hid (refsOf d.fields (bp h.ab A)=mf d.fields (bp h.ab A) (bp h.ab A).len.toNat):=rfl;have bs:=hf.lo;have bo:=hf.hi;have q0:(0:Int)<=A:=by omega
 have q1:(A:Int)<h.ab.length:=by omega
 have q2:(0:Int)<=(A:Int)+1:=by omega
 have q3:(A:Int)+1<h.ab.length:=by omega
 have q6:((A:Int)+1).toNat=A+1:=by omega
 have w1:IntKind.i64.wrap ((A:Int)+1)=(A:Int)+1:=gw _ (by omega) (by omega);have w3:IntKind.i64.wrap ((A:Int)+3)=(A:Int)+3:=gw _ (by omega) (by omega);have N:Hid (∀V,Bl D V->V.cell? ⟨w.heap.size,0,none⟩=some (.slice (some ⟨bW,oW,none⟩) h.ab.length cW)/\V.cell? ⟨bW,oW+A,none⟩=some (.i (bp h.ab A).tag)/\V.cell? ⟨bW,oW+(A+1),none⟩=some (.i (bp h.ab A).len)/\w.heap.size<V.heap.size/\bW<V.heap.size):=fun V hV=>by have F:=ad.o.below hV;obtain ⟨b1,o1,e1,bf,c1⟩:=F.sW.atI A (by omega);obtain ⟨b2,o2,e2,bu,c2⟩:=F.sW.atI (A+1) (by omega);cases e1;cases e2;rw [af.o.1]at c1;rw [af.o.2]at c2;exact ⟨bg F.b0 0 rfl,c1,c2,bz F.b0,bf⟩
 have G:Hid (∀V,Bl D V->V.cell? ⟨w.heap.size+1,0,none⟩=some (.slice aC d.am.length cC)/\V.cell? ⟨w.heap.size+1,1,none⟩=some (.slice aS d.bj.length cS)/\V.cell? ⟨w.heap.size+1,2,none⟩=some (.slice aF d.fields.length cF)/\V.cell? ⟨w.heap.size+1,3,none⟩=some (.slice aN d.names.length cN)/\V.cell? ⟨w.heap.size+1,4,none⟩=some (.slice aT d.ba.length cT)/\w.heap.size+1<V.heap.size):=fun V hV=>by have F:=ad.o.below hV;exact ⟨bg F.b1 0 rfl,bg F.b1 1 rfl,bg F.b1 2 rfl,bg F.b1 3 rfl,bg F.b1 4 rfl,bz F.b1⟩
 have bd:Hid (∀V (n:Nat),Bl D V->(n:Int)<(bp h.ab A).len->Calls prog 31 #[.agg (K5 aC cC aS cS aF cF aN cN aT cT d),.i (bp h.ab A).tag,.i (n:Int)] V fun r w'=>r=.returned (.bool (jw d.fields (bp h.ab A) n))/\Bl V w'):=fun V n hV hn=>zkp V B _ _ _ _ _ d (ad.o.below hV).lk (bp h.ab A) a8.o n hn;clear ai av W sO lk hf af bh az;generalize bp h.ab A=t at*;generalize htl:t.len=tl at*;clear htl;go_enter func87,ntmps87;go_wp2_with fail;rw [<-a7.o];go_loopw [7,8] (fun v i wr=>∃n:Nat,i=.i n/\(n:Int)<=tl/\Hid (wr.ownsRow D.heap.size 3 1 v (mf d.fields t n).length (b8 (mf d.fields t n))/\Bl D wr)) (fun _ i _=>(tl - intOf i).toNat)
 case atStart=>exact ⟨0,rfl,by omega,ownsRow_nil _ _ _ _,br _ _⟩
 case round=>
  obtain ⟨n,rfl,hn,HI⟩:=hrel;obtain ⟨k0,k1,k2,k3,k4⟩:=N.o wr HI.o.2;have ak:=HI.o.2.size;by_cases bl:(n:Int)<tl;rotate_left
  ·have Y:tl.toNat=n:=by omega
   have HF:Hid (Bl w wr/\wr.ownsRow w.heap.size 3 1 u7 (refsOf d.fields t).length (b8 (refsOf d.fields t))):=by rw [bb.o,Y];exact ⟨a6.o.trans (HI.o.2.mono (by have:=au.o;omega)),vb HI.o.1 (by have:=au.o;omega)⟩
   go_wp2_with fail;go_ret;exact ⟨HF.o.1,_,rfl,HF.o.2⟩
  have O:=aj (zhh d.fields t n);have Y:Nonempty (Gr wr.heap.size wr):=⟨⟨wr,br _ _⟩⟩;have L:∀g:Gr wr.heap.size wr,Bl D g.w:=fun g=>HI.o.2.trans (g.ok.mono ak);have c0:∀g:Gr wr.heap.size wr,g.w.cell? ⟨w.heap.size,0,none⟩=some (.slice (some ⟨bW,oW,none⟩) h.ab.length cW):=fun g=>(N.o g.w (L g)).1;have c1:∀g:Gr wr.heap.size wr,g.w.cell? ⟨bW,oW+A,none⟩=some (.i t.tag):=fun g=>(N.o g.w (L g)).2.1;have y0:∀g:Gr wr.heap.size wr,g.w.cell? ⟨w.heap.size+1,0,none⟩=some (.slice aC d.am.length cC):=fun g=>(G.o g.w (L g)).1;have y1:∀g:Gr wr.heap.size wr,g.w.cell? ⟨w.heap.size+1,1,none⟩=some (.slice aS d.bj.length cS):=fun g=>(G.o g.w (L g)).2.1;have y2:∀g:Gr wr.heap.size wr,g.w.cell? ⟨w.heap.size+1,2,none⟩=some (.slice aF d.fields.length cF):=fun g=>(G.o g.w (L g)).2.2.1;have y3:∀g:Gr wr.heap.size wr,g.w.cell? ⟨w.heap.size+1,3,none⟩=some (.slice aN d.names.length cN):=fun g=>(G.o g.w (L g)).2.2.2.1;have y4:∀g:Gr wr.heap.size wr,g.w.cell? ⟨w.heap.size+1,4,none⟩=some (.slice aT d.ba.length cT):=fun g=>(G.o g.w (L g)).2.2.2.2.1;have lb:∀g:Gr wr.heap.size wr,w.heap.size<g.w.heap.size:=fun g=>(N.o g.w (L g)).2.2.2.1;have a3:∀g:Gr wr.heap.size wr,w.heap.size+1<g.w.heap.size:=fun g=>(G.o g.w (L g)).2.2.2.2.2;have a4:∀g:Gr wr.heap.size wr,bW<g.w.heap.size:=fun g=>(N.o g.w (L g)).2.2.2.2;have I:Hid (∀g:Gr wr.heap.size wr,Calls prog 31 #[.agg (K5 aC cC aS cS aF cF aN cN aT cT d),.i t.tag,.i (n:Int)] g.w fun e bm=>e=.returned (.bool (jw d.fields t n))/\∃g':Gr wr.heap.size wr,bm=g'.w):=fun g=>Gr.calls g (nlq _) (bd.o g.w n (L g) bl);have J:=aj HI.o;clear HI L;cases F:jw d.fields t n
  ·rw [F]at O I;go_wp2_with fail;refine Cz wr.heap.size wr (by kernel_rfl) (by kernel_rfl) (br _ _) ?_
   repeat (go_big_quiet_step (first | (go_at_call 31;exact I.o _)))
   refine wpQuiet_nil ?_;intro _ al;obtain ⟨g,rfl⟩:=al;have HF:Hid (g.w.ownsRow D.heap.size 3 1 u7 (mf d.fields t (n+1)).length (b8 (mf d.fields t (n+1)))/\Bl D g.w):=by rw [O.o];simp only [Bool.false_eq_true,if_false,append_nil];exact ⟨km J.o.1 g.ok,J.o.2.trans (g.ok.mono ak)⟩
   generalize g.w=w2 at*;clear c0 c1 y0 y1 y2 y3 y4 lb a3 a4 Y I J O k0 k1 k2;go_wp2_with fail;go_roundw
   case rel=>exact ⟨n+1,by simp,by omega,HF.o⟩
   case measure=>simp [intOf];omega
  rw [F]at O I;go_wp2_with fail;refine Cz wr.heap.size wr (by kernel_rfl) (by kernel_rfl) (br _ _) ?_
  repeat (go_big_quiet_step (first | (go_at_call 31;exact I.o _)))
  refine wpQuiet_nil ?_;intro _ al;obtain ⟨g,rfl⟩:=al;have E:=km J.o.1 g.ok;have ah:Bl D g.w:=J.o.2.trans (g.ok.mono ak);generalize g.w=w2 at*;clear c0 c1 y0 y1 y2 y3 y4 lb a3 a4 Y I J k0 k1 k2;have bx:=Et d.fields t n;generalize hrn:mf d.fields t n=acc at*;obtain ⟨a5,c5,rfl⟩:=ku E;have an:=aj E;have aa:=aj ah;have w4:IntKind.i64.wrap ((A:Int)+3+(n:Int))=(A:Int)+3+(n:Int):=gw _ (by omega) (by omega);generalize hlx:(A:Int)+3+(n:Int)=lx at*;have ac:Hid (acc.length+1<=maxLen/\(acc.length+1)*8<=140737488355328/\D.heap.size<=(w2.alloc (.cells #[.i lx] 3)).heap.size):=⟨by unfold maxLen;omega,by omega,by have:=ah.size;simp;omega⟩;have a9:Hid (t.loc+3+(n:Int)=lx):=by rw [bc.o];exact hlx
  clear E ah hrn;go_wp2_with (at_builtin;refine wpList_append_lies _ rfl _ _ 22 rfl D.heap.size 3 iI (.i 0) 1 8 underlying22 bi a0 a1 a2 rfl (by decide) (.slice a5 acc.length c5) acc.length (b8 acc) rfl (an.o.alloc _) ⟨w2.heap.size,0,none⟩ 1 1 [.i lx] rfl rfl (news_of_block (heap_alloc_new w2 _)) (by intro u hu;simp at hu;subst hu;rfl) (by omega) ac.o.1 ac.o.2.1 ac.o.2.2 _ rfl ?_);intro gA cA w3 X Z _ bn;have ay:∀k,(Value.slice a5 acc.length c5).ownBlock=some k->D.heap.size<=k:=fun k e=>(an.o.lt k e).1;have aw:Bl D w3:=(aa.o.alloc aa.o.size _).grown Z (by have:=aa.o.size;simp;omega) (fun k e=>ay k e);have HF:Hid (w3.ownsRow D.heap.size 3 1 (.slice (some ⟨gA,0,none⟩) (acc.length+1) cA) (mf d.fields t (n+1)).length (b8 (mf d.fields t (n+1)))/\Bl D w3):=by rw [O.o,a9.o,if_pos trivial,length_append,Eu];exact ⟨X,aw⟩
  clear X Z aw ay;go_wp2_with fail;go_roundw
  case rel=>exact ⟨n+1,by simp,by omega,HF.o⟩
  case measure=>simp [intOf];omega
def Da (w:World) (h:ar) (d:ax) (r:Ending) (w':World):Prop:=
 (∃ys os vy vo,cw d.am.length d.fields h.ab 1 h.bk=some ys/\cw d.am.length d.fields h.ab (h.ae+1) h.be=some os/\r=.returned (.tuple #[vy,vo,.bool true])/\w'.ownsRow w.heap.size 3 1 vy (ys.map bq.loc).length (b8 (ys.map bq.loc))/\w'.ownsRow w.heap.size 3 1 vo (os.map bq.loc).length (b8 (os.map bq.loc)))\/
  (jh d h=none/\∃a n c a' n' c',r=.returned (.tuple #[.slice a n c,.slice a' n' c',.bool false]))
theorem znh (sW:SL 1 RI (· <B) w vW h.ab) (sO:SL 1 RI (· <B) w vO h.ap) (lk:nh (· <B) w kC kS kF kN kT d) (hB:B<=w.heap.size) (O:na d h) (a2:∀f∈d.fields,f.length<=500):
 Calls prog 73 #[.agg #[vW,.i h.ae,.i h.old,.i h.bk,.i h.be,vO,.i h.next],.agg #[kC,kS,kF,kN,kT]] w fun r w'=>Bl w w'/\Da w h d r w':=by
 obtain ⟨Z,J⟩:∃Z,Z=(w.alloc (.cells #[vW,.i h.ae,.i h.old,.i h.bk,.i h.be,vO,.i h.next] 24)).alloc (.cells #[kC,kS,kF,kN,kT] 36):=⟨_,rfl⟩;have G:Rd w.heap.size B Z vW vO kC kS kF kN kT h d:=J ▸ Rd.new w B _ _ _ _ _ _ _ h d hB sW sO lk;have a1:Bl w Z:=J ▸ ((br _ _).alloc (nlq _) _).alloc (by simp) _;have a3:Z.heap.size=w.heap.size+2:=by rw [J];simp
 have z1:=O.ae;have z2:=O.old;have z3:=O.len;have z4:=O.bk;have z5:=O.be;obtain ⟨X,af⟩:∃X:Nat,h.ae+1=X:=⟨(h.ae+1).toNat,by omega⟩;have bc:IntKind.i64.wrap (h.ae+1)=(X:Int):=(gw _ (by omega) (by omega)).trans af;have HY:Hid (h.ae+1=X):=af;have Y:=aj (zks Z B _ _ _ _ _ _ _ h d G.sW G.sO G.lk (by omega) 1 h.bk (by omega) (by omega) (by omega) O.fl a2 O.cn);have az:Hid (∀V,Bl Z V->Calls prog 129 #[.agg #[vW,.i h.ae,.i h.old,.i h.bk,.i h.be,vO,.i h.next],.agg #[kC,kS,kF,kN,kT],.i (X:Int),.i h.be] V fun r w'=>Bl V w'/\Aw V (cw d.am.length d.fields h.ab X h.be) r w'):=fun V hV=>by have hr:=G.below hV;exact zks V B _ _ _ _ _ _ _ h d hr.sW hr.sO hr.lk (by have:=hr.le;have:=bz hr.b0;omega) X h.be (by omega) (by omega) (by omega) O.fl a2 O.cn
 have a7:=aj G;have ah:=aj a1;have al:=aj J;have aw:=aj a3;obtain ⟨aC,cC,aS,cS,aF,cF,aN,cN,aT,cT,rfl,rfl,rfl,rfl,rfl⟩:=lk.agg;obtain ⟨aW,cW,rfl,-⟩:=sW;obtain ⟨aO,cO,rfl,-⟩:=sO;have an:Hid (cw d.am.length d.fields h.ab 1 h.bk=none->jh d h=none):=fun e=>by unfold jh;rw [e]
 have au:Hid (cw d.am.length d.fields h.ab X h.be=none->jh d h=none):=fun e=>by unfold jh;rw [HY.o,e];cases cw d.am.length d.fields h.ab 1 h.bk<;>rfl
 rw [al.o]at Y;clear G a1 J a3 lk z1 z2 z3 z4 z5 O af;go_enter func73,ntmps73;go_wp2_with fail;refine Y.o.mono ?_;rw [<-al.o];rintro r w1 ⟨L,ba⟩;have N:=a7.o.below L;have l0:=bz N.b0;have l1:=bz N.b1;have xk:=il N.b0;have yk:=cells5 N.b1;have a0:=aj (az.o w1 L);have ai:=aj L;have bb:=L.size;have ak:Hid (∀V,Bl w1 V->Bl w V):=fun V hV=>ah.o.trans ((ai.o.trans (hV.mono ai.o.size)).mono ah.o.size);clear N L az Y;rcases ba with ⟨ys,vy,D,rfl,W⟩ | ⟨D,a,n,c,rfl⟩
 ·obtain ⟨ay,cy,rfl⟩:=ku W;have a9:=aj D;obtain ⟨yl,ad⟩:∃yl,ys.map bq.loc=yl:=⟨_,rfl⟩;rw [ad]at W ⊢;have a8:=aj ad;have a6:=aj W;clear D W ad;go_wp2_with fail;refine a0.o.mono ?_;rintro r w2 ⟨F,aa⟩;have I:=aj (ak.o w2 F);have av:=aj (km a6.o F);clear F xk yk;rcases aa with ⟨os,vo,D,rfl,A⟩ | ⟨D,a,n,c,rfl⟩
  ·obtain ⟨ao,co,rfl⟩:=ku A;have E:=aj D;obtain ⟨ol,ac⟩:∃ol,os.map bq.loc=ol:=⟨_,rfl⟩;rw [ac]at A ⊢;have a4:=aj ac;have a5:=aj A;clear D A ac;go_wp2_with fail
   go_ret3
   exact ⟨I.o,inl ⟨ys,os,_,_,a9.o,by rw [HY.o];exact E.o,rfl,by rw [a8.o];exact vb av.o (by have:=aw.o;omega),by rw [a4.o];exact vb a5.o (by have:=aw.o;omega)⟩⟩
  have E:=aj (au.o D);clear D;go_wp2_with fail
  go_ret3
  exact ⟨I.o,inr ⟨E.o,_,_,_,_,_,_,rfl⟩⟩
 have E:=aj (an.o D);clear D;go_wp2_with fail;refine a0.o.mono ?_;rintro r w2 ⟨F,aa⟩;have I:=aj (ak.o w2 F);clear F xk yk;rcases aa with ⟨os,vo,D,rfl,A⟩ | ⟨D,a,n,c,rfl⟩
 ·obtain ⟨ao,co,rfl⟩:=ku A;clear D A;go_wp2_with fail
  go_ret3
  exact ⟨I.o,inr ⟨E.o,_,_,_,_,_,_,rfl⟩⟩
 clear D;go_wp2_with fail
 go_ret3
 exact ⟨I.o,inr ⟨E.o,_,_,_,_,_,_,rfl⟩⟩
end Go.Proofs.YtjdnmblggdobgaaGreat
