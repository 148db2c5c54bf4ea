import Derived.Test.YtjdnmblggdobgaaGreatJHsLHpT
import Derived.Test.YtjdnmblggdobgaaGreatJLLkLBas
set_option maxHeartbeats 4000000
set_option maxRecDepth 100000
namespace Go.Proofs.YtjdnmblggdobgaaGreat
open Go.RowKit Go.Maps
def mx (n a b:Int):Bool:=decide (a<=n)&&decide (n<=b)
theorem zkv (w:World) (n a b:Int):Calls Tryz.prog 78 #[.int .i64 n,.int .i64 a,.int .i64 b] w fun r w'=>r=.returned (.bool (mx n a b))/\w'=w:=by
 by_cases h0:a<=n
 ·by_cases h1:n<=b
  ·have A:Hid (mx n a b=true):=by show mx n a b=true;simp [mx,h0,h1]
   go_enter Tryz.func78,Tryz.ntmps78;go_wp2_with fail;go_ret;exact ⟨by rw [A.o];rfl,rfl⟩
  have A:Hid (mx n a b=false):=by show mx n a b=false;simp [mx,h1]
  go_enter Tryz.func78,Tryz.ntmps78;go_wp2_with fail;go_ret;exact ⟨by rw [A.o];rfl,rfl⟩
 have A:Hid (mx n a b=false):=by show mx n a b=false;simp [mx,h0]
 go_enter Tryz.func78,Tryz.ntmps78;go_wp2_with fail;go_ret;exact ⟨by rw [A.o];rfl,rfl⟩
theorem zkw (w:World) (B:Nat) (I N J L O:Value) (d:bd) (G:j9 (· <B) w I N J L O d) (A:Int) (hn:d.aj.length<=1000):
 Calls Tryz.prog 59 #[.agg #[I,N,J,L,O],.int .i64 A] w fun r w'=>r=.returned (.bool (dw d.aj.length A))/\Below w.heap.size w w':=by
 have E:∀o,Hid (Below w.heap.size w (w.alloc o)):=fun o=>(br _ _).alloc (nlq _) _;obtain ⟨V,cC,Y,cS,W,cF,X,cN,Z,cT,rfl,rfl,rfl,rfl,rfl⟩:=G.agg;clear G;by_cases h1:1<=A
 ·have wn:IntKind.i64.wrap (3+(d.aj.length:Int))=3+d.aj.length:=fy _ (by omega) (by omega);by_cases F:A<3+d.aj.length
  ·have D:Hid (dw d.aj.length A=true):=by show dw _ _=true;simp [dw,h1,F]
   go_enter Tryz.func59,Tryz.ntmps59;go_wp2_with fail;go_ret;exact ⟨by rw [D.o];rfl,(E _).o⟩
  have D:Hid (dw d.aj.length A=false):=by show dw _ _=false;simp [dw,F]
  go_enter Tryz.func59,Tryz.ntmps59;go_wp2_with fail;go_ret;exact ⟨by rw [D.o];rfl,(E _).o⟩
 have D:Hid (dw d.aj.length A=false):=by show dw _ _=false;simp [dw,h1]
 go_enter Tryz.func59,Tryz.ntmps59;go_wp2_with fail;go_ret;exact ⟨by rw [D.o];rfl,(E _).o⟩
def rLenB (fs:List (List bg)) (tag n:Int):Bool:=mx n 0 500&&(decide (tag<3)||decide (n=(gr fs tag).length))
theorem zkx (w:World) (B:Nat) (kC kS kF kN kT:Value) (d:bd) (I:j9 (· <B) w kC kS kF kN kT d) (hB:B<=w.heap.size) (A n:Int) (ht:A<3+d.fields.length):
 Calls Tryz.prog 60 #[.agg #[kC,kS,kF,kN,kT],.int .i64 A,.int .i64 n] w fun r w'=>r=.returned (.bool (rLenB d.fields A n))/\Below w.heap.size w w':=by
 have L:∀o,Hid (Below w.heap.size w (w.alloc o)):=fun o=>(br _ _).alloc (nlq _) _;obtain ⟨aC,cC,aS,cS,aF,cF,aN,cN,aT,cT,rfl,rfl,rfl,rfl,rfl⟩:=I.agg;have D:Hid (∀W,Calls Tryz.prog 78 #[.int .i64 n,.int .i64 0,.int .i64 500] W fun r w'=>r=.returned (.bool (mx n 0 500))/\w'=W):=fun W=>zkv W n 0 500;have E:Hid (rLenB d.fields A n=(mx n 0 500&&(decide (A<3)||decide (n=(gr d.fields A).length)))):=rfl;cases hb:mx n 0 500 with
 | false=>
   rw [hb]at D E;have G:Hid (rLenB d.fields A n=false):=E.o.trans (by simp);clear I E hb;go_enter Tryz.func60,Tryz.ntmps60;go_wp2_with fail;refine (D.o _).mono ?_;rintro r _ ⟨rfl,rfl⟩;go_wp2_with fail;go_ret;exact ⟨by rw [G.o];rfl,(L _).o⟩
 | true=>
   rw [hb]at D E;by_cases h3:A<3
   ·have G:Hid (rLenB d.fields A n=true):=E.o.trans (by simp [h3]);clear I E hb;go_enter Tryz.func60,Tryz.ntmps60;go_wp2_with fail;refine (D.o _).mono ?_;rintro r _ ⟨rfl,rfl⟩;go_wp2_with fail;go_ret;exact ⟨by rw [G.o];rfl,(L _).o⟩
   obtain ⟨k,Z⟩:∃k:Nat,A=3+k:=⟨(A - 3).toNat,by omega⟩;subst Z;have J:k<d.fields.length:=by omega
   have V:=I.kept (Kp.below (((L (.cells #[.slice aC d.aj.length cC,.slice aS d.ax.length cS,.slice aF d.fields.length cF,.slice aN d.names.length cN,.slice aT d.aq.length cT] 36)).o.mono hB)));obtain ⟨bF,oF,aV,cV,rfl,ag,e1,sV⟩:=I.F.atSl k J;obtain ⟨ad,ak,ac,af,ee,N,X,aa⟩:=V.F.atSl k J;have O:gr d.fields (3+k)=d.fields[k]:=by unfold gr;rw [show ((3+(k:Int)) - 3).toNat=k by omega];simp [J]
   rw [O]at E;have q1:(0:Int)<=k:=by omega
   have q2:(k:Int)<d.fields.length:=by omega
   have q3:3+(k:Int) - 3=k:=by omega
   have ai:d.fields[k].length<=9223372036854775807:=by obtain ⟨_,_,-,-,h,-⟩:=sV;unfold maxLen at h;omega
   have ah:d.fields.length<=9223372036854775807:=by obtain ⟨_,_,-,-,h,-⟩:=I.F;unfold maxLen at h;omega
   clear sV aa O I V hb X ee N;generalize d.fields[k].length=fl at*;by_cases Y:n=fl
   ·subst Y;have G:Hid (rLenB d.fields (3+k) fl=true):=E.o.trans (by simp);clear E;go_enter Tryz.func60,Tryz.ntmps60;go_wp2_with fail;refine (D.o _).mono ?_;rintro r _ ⟨rfl,rfl⟩;go_wp2_with fail;go_ret;exact ⟨by rw [G.o];simp<;>omega,(L _).o⟩
   have h4:(n==(fl:Int))=false:=beq_eq_false_iff_ne.2 Y;have G:Hid (rLenB d.fields (3+k) n=false):=E.o.trans (by simp [Y];omega);clear E;go_enter Tryz.func60,Tryz.ntmps60;go_wp2_with fail;refine (D.o _).mono ?_;rintro r _ ⟨rfl,rfl⟩;go_wp2_with fail;go_ret;exact ⟨by rw [G.o];simp<;>omega,(L _).o⟩
theorem zky (w:World) (B:Nat) (Y kS Z kN kT:Value) (d:bd) (J:j9 (· <B) w Y kS Z kN kT d) (t:bp) (V:lg d t) (n:Nat) (hn:(n:Int)<t.len):
 Calls Tryz.prog 31 #[.agg #[Y,kS,Z,kN,kT],.int .i64 t.tag,.int .i64 (n:Int)] w fun r w'=>r=.returned (.bool (je d.fields t n))/\Below w.heap.size w w':=by
 have A:=ae (fun o=>(br w.heap.size w).alloc (nlq _) o);obtain ⟨aC,cC,aS,cS,aF,cF,aN,cN,aT,cT,rfl,rfl,rfl,rfl,rfl⟩:=J.agg;obtain ⟨_,_,-,-,hm,-⟩:=J.F;unfold maxLen at hm;by_cases h1:3<=t.tag
 ·obtain ⟨I,X⟩:=V.tag h1;obtain ⟨k,L⟩:∃k:Nat,t.tag=3+k:=⟨(t.tag - 3).toNat,by omega⟩;have N:k<d.fields.length:=by omega
  obtain ⟨bF,oF,aV,cV,rfl,aa,e1,W⟩:=J.F.atSl k N;have D:gr d.fields t.tag=d.fields[k]:=by unfold gr;rw [L,show ((3+(k:Int)) - 3).toNat=k by omega];simp [N]
  rw [D]at X;have O:n<d.fields[k].length:=by omega
  obtain ⟨bV,oV,rfl,ac,-,e2,-⟩:=W.atF n O;have G:Hid (je d.fields t n=decide (d.fields[k][n].kind.kind≠1)):=by show je d.fields t n=_;rw [je,if_pos h1,D];simp [O]
  have q1:(0:Int)<=k:=by omega
  have q2:(k:Int)<d.fields.length:=by omega
  have q4:(0:Int)<=n:=by omega
  have q6:((3:Int)+k==2)=false:=beq_eq_false_iff_ne.2 (by omega);have wk:IntKind.i64.wrap (k:Int)=k:=fy _ (by omega) (by omega);have ag:IntKind.i64.wrap (3+(k:Int) - 3)=k:=(by rw [show 3+(k:Int) - 3=k by omega];exact wk);have q5:(n:Int)<d.fields[k].length:=by omega
  have af:d.fields[k].length<=9223372036854775807:=by obtain ⟨_,_,-,-,h,-⟩:=W;unfold maxLen at h;omega
  generalize d.fields[k][n].kind.kind=kk at*;generalize d.fields[k].length=fl at*;clear W D J V X hn;rw [L]at*;by_cases E:kk=1
  ·subst E;go_enter Tryz.func31,Tryz.ntmps31;go_wp2_with fail;go_ret;exact ⟨by rw [G.o];rfl,A.o _⟩
  have ad:(kk==1)=false:=beq_eq_false_iff_ne.2 E;go_enter Tryz.func31,Tryz.ntmps31;go_wp2_with fail;go_ret;exact ⟨by rw [G.o];simp [E],A.o _⟩
 have G:Hid (je d.fields t n=decide (t.tag=2)):=by show je d.fields t n=_;rw [je,if_neg h1]
 clear J V;by_cases I:t.tag=2
 ·have hb:(t.tag==2)=true:=beq_iff_eq.2 I;go_enter Tryz.func31,Tryz.ntmps31;go_wp2_with fail;go_ret;exact ⟨by rw [G.o];simp [I],A.o _⟩
 have hb:(t.tag==2)=false:=beq_eq_false_iff_ne.2 I;go_enter Tryz.func31,Tryz.ntmps31;go_wp2_with fail;go_ret;exact ⟨by rw [G.o];simp [I],A.o _⟩
theorem zkz (w:World) (M:Nat->Prop) (v:Value) (l:List Int) (J:SL 1 RI M w v l) (n:Int):
 Calls Tryz.prog 74 #[v,.int .i64 n] w fun r w'=>r=.returned (.bool (l.contains n))/\w'=w:=by
 have N:=ae J;obtain ⟨V,W,rfl,-,O,-⟩:=J;unfold maxLen at O;go_enter Tryz.func74,Tryz.ntmps74;go_wp2_with fail;go_loopw [5] (fun i wr=>∃k:Nat,k<=l.length/\i=.int .i64 k/\wr=w/\Hid ((l.take k).contains n=false)) (fun i _=>l.length - (intOf i).toNat)
 case atStart=>exact ⟨0,n0q _,rfl,rfl,by show (l.take 0).contains n=false;simp⟩
 case round=>
  obtain ⟨k,Y,rfl,rfl,I⟩:=hrel;by_cases A:k<l.length
  ·obtain ⟨b,off,rfl,X,e⟩:=N.o.atI k A;have q1:(0:Int)<=k:=by omega
   have q2:(k:Int)<l.length:=by omega
   by_cases E:l[k]=n
   ·have G:(l[k]==n)=true:=beq_iff_eq.2 E;have L:Hid (l.contains n=true):=List.contains_iff_mem.2 (E ▸ gm A);generalize l[k]=x at*;go_wp2_with fail;go_ret;exact ⟨by rw [L.o];rfl,rfl⟩
   have G:(l[k]==n)=false:=beq_eq_false_iff_ne.2 E;have F:Hid ((l.take (k+1)).contains n=false):=by
    show (l.take (k+1)).contains n=false;have h0:=I.o;rw [List.take_succ_eq_append_getElem A];rw [<-Bool.not_eq_true,List.contains_iff_mem]at h0 ⊢;intro D;rcases List.mem_append.1 D with D | D
    ·exact h0 D
    simp at D;exact E D.symm
   generalize l[k]=x at*;go_wp2_with fail;go_roundw
   case rel=>exact ⟨k+1,by omega,by go_num,trivial,F.o⟩
   case measure=>simp [intOf];omega
  have F:Hid (l.contains n=false):=by have h0:=I.o;rw [List.take_of_length_le (by omega)]at h0;exact h0
  go_wp2_with fail;go_ret;exact ⟨by rw [F.o];rfl,rfl⟩
structure Rd (P B:Nat) (w:World) (vW vO kC kS kF kN kT:Value) (h:bb) (d:bd):Prop where
 le:B<=P
 b0:w.heap[P]? =some (.cells #[vW,.int .i64 h.ag,.int .i64 h.old,.int .i64 h.be,.int .i64 h.ar,vO,.int .i64 h.next] 24 (0,0))
 b1:w.heap[P+1]? =some (.cells #[kC,kS,kF,kN,kT] 36 (0,0))
 sW:SL 1 RI (· <B) w vW h.ab
 sO:SL 1 RI (· <B) w vO h.am
 lk:j9 (· <B) w kC kS kF kN kT d
theorem Rd.below {P B:Nat} {w w':World} {N L E I F G J:Value} {h:bb} {d:bd} (r:Rd P B w N L E I F G J h d) (A:Below w.heap.size w w'):Rd P B w' N L E I F G J h d:=
 have O:=bk r.b0;have D:=Kp.below (A.mono (by have:=r.le;omega:B<=w.heap.size))
 ⟨r.le,(A.block _ O).trans r.b0,(A.block _ (bk r.b1)).trans r.b1,r.sW.keptI D,r.sO.keptI D,r.lk.kept D⟩
theorem Rd.new (w:World) (B:Nat) (J I A F D E G:Value) (h:bb) (d:bd) (N:B<=w.heap.size) (X:SL 1 RI (· <B) w J h.ab) (W:SL 1 RI (· <B) w I h.am) (V:j9 (· <B) w A F D E G d):
 Rd w.heap.size B ((w.alloc (.cells #[J,.int .i64 h.ag,.int .i64 h.old,.int .i64 h.be,.int .i64 h.ar,I,.int .i64 h.next] 24)).alloc (.cells #[A,F,D,E,G] 36)) J I A F D E G h d:=by
 have O:Below w.heap.size w ((w.alloc (.cells #[J,.int .i64 h.ag,.int .i64 h.old,.int .i64 h.be,.int .i64 h.ar,I,.int .i64 h.next] 24)).alloc (.cells #[A,F,D,E,G] 36)):=((br _ _).alloc (nlq _) _).alloc (by simp) _;have L:=Kp.below (O.mono N);refine ⟨N,(Below.heap_alloc _ _ _ (by simp)).trans (heap_alloc_new w _),?_,X.keptI L,W.keptI L,V.kept L⟩;have:=heap_alloc_new (w.alloc (.cells #[J,.int .i64 h.ag,.int .i64 h.old,.int .i64 h.be,.int .i64 h.ar,I,.int .i64 h.next] 24)) (.cells #[A,F,D,E,G] 36);simpa using this
theorem zk0 {fs:List (List bg)} {A n:Int} (D:∀f∈fs,f.length<=500):rLenB fs A n=cq fs A n:=by
 unfold rLenB cq mx;by_cases E:3<=A
 ·rw [if_pos E];have F:(gr fs A).length<=500:=by
   unfold gr;cases hx:fs[(A - 3).toNat]? with
   | none=>simp
   | some f=>exact D f (List.mem_of_getElem? hx)
  rw [Bool.eq_iff_iff];simp;omega
 rw [if_neg E];rw [Bool.eq_iff_iff];simp;omega
def FromOut (w:World) (o:Option (List bp)) (r:Ending) (w':World):Prop:=
 (∃ts v,o=some ts/\r=.returned (.tuple #[v,.bool true])/\w'.ownsRow w.heap.size 3 1 v (ts.map bp.loc).length (b8 (ts.map bp.loc)))\/(o=none/\∃a n c,r=.returned (.tuple #[.slice a n c,.bool false]))
theorem zk1 (w:World) (B:Nat) (vW vO kC kS kF kN kT:Value) (h:bb) (d:bd) (sW:SL 1 RI (· <B) w vW h.ab) (sO:SL 1 RI (· <B) w vO h.am) (lk:j9 (· <B) w kC kS kF kN kT d) (hB:B<=w.heap.size)
 (E:Nat) (D:Int) (ct:(E:Int)<=D) (c8:D<=5000) (ht:D<=h.ab.length) (b4:d.fields.length=d.aj.length) (b5:∀f∈d.fields,f.length<=500) (co:d.aj.length<=1000):
 Calls Tryz.prog 129 #[.agg #[vW,.int .i64 h.ag,.int .i64 h.old,.int .i64 h.be,.int .i64 h.ar,vO,.int .i64 h.next],.agg #[kC,kS,kF,kN,kT],.int .i64 (E:Int),.int .i64 D] w fun r w'=>Below w.heap.size w w'/\FromOut w (cb d.aj.length d.fields h.ab E D) r w':=by
 obtain ⟨iI,cs,cc,ce,cf⟩:=info_parts Tryz.infoInt;obtain ⟨G,an⟩:∃G,G=(w.alloc (.cells #[vW,.int .i64 h.ag,.int .i64 h.old,.int .i64 h.be,.int .i64 h.ar,vO,.int .i64 h.next] 24)).alloc (.cells #[kC,kS,kF,kN,kT] 36):=⟨_,rfl⟩;have b6:Rd w.heap.size B G vW vO kC kS kF kN kT h d:=an ▸ Rd.new w B _ _ _ _ _ _ _ h d hB sW sO lk;have bz:Below w.heap.size w G:=an ▸ ((br _ _).alloc (nlq _) _).alloc (by simp) _;have bm:G.heap.size=w.heap.size+2:=by rw [an];simp
 have a9:=ae b6;have bs:=ae bz;have ch:=ae an;have a1:=ae bm;have ay:=ae (And.intro b4 (And.intro b5 co));obtain ⟨aC,cC,aS,cS,aF,cF,aN,cN,aT,cT,rfl,rfl,rfl,rfl,rfl⟩:=lk.agg;have HM:Hid (∃a c,vW=.slice a h.ab.length c/\h.ab.length<=9223372036854775807):=by obtain ⟨a,c,e,-,hm,-⟩:=sW;exact ⟨a,c,e,by unfold maxLen at hm;omega⟩
 clear b6 bz an sW sO lk b4 b5 bm;go_enter Tryz.func129,Tryz.ntmps129;go_wp2_with fail;rw [<-ch.o];go_loopw [2,10] (fun i v wr=>∃(A:Nat) (F:List bp),i=.int .i64 A/\A<=10000/\F.length<=A/\Hid (wr.ownsRow G.heap.size 3 1 v (F.map bp.loc).length (b8 (F.map bp.loc))/\Below G.heap.size G wr/\
  (((A:Int)<=D/\cb d.aj.length d.fields h.ab E D=(cb d.aj.length d.fields h.ab A D).map (F++ ·))\/(D<A/\cb d.aj.length d.fields h.ab E D=none)))) (fun i _ _=>(D - intOf i).toNat)
 case atStart=>exact ⟨E,[],rfl,by omega,n0q _,World.ownsRow_nil _ _ _ _,br _ _,Or.inl ⟨ct,by cases cb d.aj.length d.fields h.ab E D<;>rfl⟩⟩
 case round=>
  obtain ⟨A,F,rfl,hl,c7,J⟩:=hrel;by_cases af:(A:Int)<D
  ·have ca:cb d.aj.length d.fields h.ab E D=(cb d.aj.length d.fields h.ab A D).map (F++ ·):=by
    rcases J.o.2.2 with hx | hx
    ·exact hx.2
    exact absurd hx.1 (by omega)
   have I:=ae ca;clear ca;have N:=a9.o.below J.o.2.1;obtain ⟨aW,cW,rfl,c3⟩:=HM.o;have b7:=J.o.2.1.size;have aa:Hid (∀V,Below wr.heap.size wr V->Below w.heap.size w V):=fun V hV=>bs.o.trans ((J.o.2.1.trans (hV.mono b7)).mono (by have:=a1.o;omega));by_cases h3:(A:Int)+3<=D
   ·have c2:A+2<h.ab.length:=by omega
    obtain ⟨W,oW,rfl,bi,e0⟩:=N.sW.atI A (by omega);obtain ⟨c0,dd,ee,-,e1⟩:=N.sW.atI (A+1) (by omega);cases ee;have cm:W<wr.heap.size:=bi;have q0:(0:Int)<=A:=by omega
    have q1:(A:Int)<h.ab.length:=by omega
    have q2:(0:Int)<=(A:Int)+1:=by omega
    have q3:(A:Int)+1<h.ab.length:=by omega
    have q6:((A:Int)+1).toNat=A+1:=by omega
    have w1:IntKind.i64.wrap ((A:Int)+1)=(A:Int)+1:=fy _ (by omega) (by omega);have w3:IntKind.i64.wrap ((A:Int)+3)=(A:Int)+3:=fy _ (by omega) (by omega);have cp:decide (D<(A:Int)+3)=false:=by simp;omega
    have a2:Hid (h.ab[A]=wd h.ab A/\h.ab[A+1]=wd h.ab ((A:Int)+1)):=⟨(mw (by omega)).symm,by rw [show (A:Int)+1=((A+1:Nat):Int) by omega];exact (mw (by omega)).symm⟩;have ao:Nonempty (Gr wr.heap.size wr):=⟨⟨wr,br _ _⟩⟩;have l0:=bk N.b0;have l1:=bk N.b1;have k0:∀g:Gr wr.heap.size wr,g.w.cell? ⟨w.heap.size,0,none⟩=some (.slice (some ⟨W,oW,none⟩) h.ab.length cW):=fun g=>(g.ok.cell (p:=⟨w.heap.size,0,none⟩) l0).trans (aw N.b0 0 rfl);have y0:∀g:Gr wr.heap.size wr,g.w.cell? ⟨w.heap.size+1,0,none⟩=some (.slice aC d.aj.length cC):=fun g=>(g.ok.cell (p:=⟨w.heap.size+1,0,none⟩) l1).trans (aw N.b1 0 rfl);have y1:∀g:Gr wr.heap.size wr,g.w.cell? ⟨w.heap.size+1,1,none⟩=some (.slice aS d.ax.length cS):=fun g=>(g.ok.cell (p:=⟨w.heap.size+1,1,none⟩) l1).trans (aw N.b1 1 rfl);have y2:∀g:Gr wr.heap.size wr,g.w.cell? ⟨w.heap.size+1,2,none⟩=some (.slice aF d.fields.length cF):=fun g=>(g.ok.cell (p:=⟨w.heap.size+1,2,none⟩) l1).trans (aw N.b1 2 rfl);have y3:∀g:Gr wr.heap.size wr,g.w.cell? ⟨w.heap.size+1,3,none⟩=some (.slice aN d.names.length cN):=fun g=>(g.ok.cell (p:=⟨w.heap.size+1,3,none⟩) l1).trans (aw N.b1 3 rfl);have y4:∀g:Gr wr.heap.size wr,g.w.cell? ⟨w.heap.size+1,4,none⟩=some (.slice aT d.aq.length cT):=fun g=>(g.ok.cell (p:=⟨w.heap.size+1,4,none⟩) l1).trans (aw N.b1 4 rfl);have bc:∀g:Gr wr.heap.size wr,g.w.cell? ⟨W,oW+A,none⟩=some (.int .i64 h.ab[A]):=fun g=>(g.ok.cell (p:=⟨W,oW+A,none⟩) bi).trans e0;have bf:∀g:Gr wr.heap.size wr,g.w.cell? ⟨W,oW+(A+1),none⟩=some (.int .i64 h.ab[A+1]):=fun g=>(g.ok.cell (p:=⟨W,oW+(A+1),none⟩) bi).trans e1;have lb:∀g:Gr wr.heap.size wr,w.heap.size<g.w.heap.size:=fun g=>ll3 l0 g.ok.size;have bn:∀g:Gr wr.heap.size wr,w.heap.size+1<g.w.heap.size:=fun g=>ll3 l1 g.ok.size;have L:Hid (∀g:Gr wr.heap.size wr,Calls Tryz.prog 59 #[.agg #[.slice aC d.aj.length cC,.slice aS d.ax.length cS,.slice aF d.fields.length cF,.slice aN d.names.length cN,.slice aT d.aq.length cT],.int .i64 h.ab[A]] g.w fun e bo=>e=.returned (.bool (dw d.aj.length h.ab[A]))/\∃g':Gr wr.heap.size wr,bo=g'.w):=fun g=>Gr.calls g (nlq _) (zkw g.w B _ _ _ _ _ d (N.below g.ok).lk _ ay.o.2.2);have a8:Hid (dw d.aj.length h.ab[A]=true->∀g:Gr wr.heap.size wr,Calls Tryz.prog 60 #[.agg #[.slice aC d.aj.length cC,.slice aS d.ax.length cS,.slice aF d.fields.length cF,.slice aN d.names.length cN,.slice aT d.aq.length cT],.int .i64 h.ab[A],.int .i64 h.ab[A+1]] g.w fun e bo=>e=.returned (.bool (cq d.fields h.ab[A] h.ab[A+1]))/\∃g':Gr wr.heap.size wr,bo=g'.w):=fun hb g=>by
     have cv:h.ab[A]<3+(d.fields.length:Int):=by unfold dw at hb;rw [Bool.and_eq_true]at hb;rw [ay.o.1];exact of_decide_eq_true hb.2
     rw [<-zk0 ay.o.2.1];exact Gr.calls g (nlq _) (zkx g.w B _ _ _ _ _ d (N.below g.ok).lk (by have:=(N.below g.ok).le;have:=bk (N.below g.ok).b0;omega) _ _ cv)
    have O:Hid (io d.aj.length d.fields h.ab A D=(dw d.aj.length h.ab[A]&&cq d.fields h.ab[A] h.ab[A+1]&&decide ((bj h.ab A).fin<=D))):=by show io _ _ _ _ _=_;rw [io,a2.o.1,a2.o.2,decide_eq_true h3,Bool.true_and]
    have ac:Hid ((bj h.ab A).fin=A+3+h.ab[A+1]):=by show A+3+wd h.ab ((A:Int)+1)=_;rw [a2.o.2]
    have bx:Hid ((bj h.ab A).loc=A):=rfl;have az:Hid (cq d.fields h.ab[A] h.ab[A+1]=true->0<=h.ab[A+1]/\h.ab[A+1]<=500):=fun hb=>by rw [<-zk0 ay.o.2.1]at hb;unfold rLenB mx at hb;simp only [Bool.and_eq_true,decide_eq_true_eq]at hb;exact hb.1
    have a0:=ae (aw N.b0 0 (x:=.slice (some ⟨W,oW,none⟩) h.ab.length cW) rfl);clear N e0 a2;generalize h.ab[A]=x0 at*;generalize h.ab[A+1]=x1 at*;cases hT:dw d.aj.length x0 with
    | false=>
      have ak:Hid (cb d.aj.length d.fields h.ab E D=none):=by show _=_;rw [I.o,zeu af (by rw [O.o,hT];simp)];rfl
      rw [hT]at L;clear a8 O ac az J I e1 a0 bx;go_wp2_with fail;refine zev wr.heap.size wr (by kernel_rfl) (by kernel_rfl) (br _ _) ?_
      repeat (go_big_quiet_step (first | (go_at_call 59;exact L.o _)))
      refine wpQuiet_nil ?_;intro _ Z;obtain ⟨g,rfl⟩:=Z;have ai:=ae (aa.o _ g.ok);generalize g.w=w2 at*;clear k0 y0 y1 y2 y3 y4 bc bf lb bn ao L;go_wp2_with fail
      go_ret2
      exact ⟨ai.o,Or.inr ⟨ak.o,_,_,_,rfl⟩⟩
    | true=>
      rw [hT]at L;have ad:=ae (a8.o hT);clear a8;cases hM:cq d.fields x0 x1 with
      | false=>
        have ak:Hid (cb d.aj.length d.fields h.ab E D=none):=by show _=_;rw [I.o,zeu af (by rw [O.o,hM];simp)];rfl
        rw [hM]at ad;clear O ac az J I e1 a0 bx;go_wp2_with fail;refine zev wr.heap.size wr (by kernel_rfl) (by kernel_rfl) (br _ _) ?_
        repeat (go_big_quiet_step (first | (go_at_call 59;exact L.o _) | (go_at_call 60;exact ad.o _)))
        refine wpQuiet_nil ?_;intro _ Z;obtain ⟨g,rfl⟩:=Z;have ai:=ae (aa.o _ g.ok);generalize g.w=w2 at*;clear k0 y0 y1 y2 y3 y4 bc bf lb bn ao L ad;go_wp2_with fail
        go_ret2
        exact ⟨ai.o,Or.inr ⟨ak.o,_,_,_,rfl⟩⟩
      | true=>
        rw [hM]at ad;obtain ⟨c9,da⟩:=az.o hM;have cj:Hid (((A:Int)+3+x1<=D/\cb d.aj.length d.fields h.ab E D=(cb d.aj.length d.fields h.ab (A+3+x1) D).map ((F++ [bj h.ab A])++ ·))\/(D<(A:Int)+3+x1/\cb d.aj.length d.fields h.ab E D=none)):=by
         by_cases bl:(A:Int)+3+x1<=D
         ·refine Or.inl ⟨bl,?_⟩;rw [I.o,zet af (by rw [O.o,hT,hM,ac.o];simp [bl]),ac.o];cases cb d.aj.length d.fields h.ab (A+3+x1) D with
          | none=>rfl
          | some l=>simp
         refine Or.inr ⟨by omega,?_⟩;rw [I.o,zeu af (by rw [O.o,hT,hM,ac.o];simp [bl])];rfl
        have a7:=ae (And.intro J.o.1 J.o.2.1);have bu:=ae e1;clear O ac az J I e1;go_wp2_with fail;refine zev wr.heap.size wr (by kernel_rfl) (by kernel_rfl) (br _ _) ?_
        repeat (go_big_quiet_step (first | (go_at_call 59;exact L.o _) | (go_at_call 60;exact ad.o _)))
        refine wpQuiet_nil ?_;intro _ Z;obtain ⟨g,rfl⟩:=Z;have hg:=g.ok;generalize g.w=w2 at*;clear k0 y0 y1 y2 y3 y4 bc bf lb bn ao L ad;have Y:=kv a7.o.1 hg;have bh:Below G.heap.size G w2:=a7.o.2.trans (hg.mono b7);have c4:=hg.size;have r0:=(hg.cell (p:=⟨w.heap.size,0,none⟩) l0).trans a0.o;have r1:=(hg.cell (p:=⟨W,oW+(A+1),none⟩) cm).trans bu.o;have l2:w.heap.size<w2.heap.size:=by omega
        have l3:W<w2.heap.size:=by omega
        have w4:IntKind.i64.wrap (3+x1)=3+x1:=fy _ (by omega) (by omega);have w5:IntKind.i64.wrap ((A:Int)+(3+x1))=(A:Int)+(3+x1):=fy _ (by omega) (by omega);generalize hlc:F.map bp.loc=acc at*;have b2:acc.length=F.length:=by rw [<-hlc];simp
        obtain ⟨a5,c5,rfl⟩:=kh Y;have al:=ae Y;have ah:=ae bh;have a3:=ae (And.intro r0 r1);have av:Hid (acc.length+1<=maxLen/\(acc.length+1)*8<=140737488355328/\G.heap.size<=(w2.alloc (.cells #[.int .i64 A] 3)).heap.size):=⟨by unfold maxLen;omega,by omega,by have:=bh.size;simp;omega⟩;have cy:=ae b2;have ci:=ae hlc;have bw:Hid (∀(w3:World),(w2.alloc (.cells #[.int .i64 A] 3)).grownBy w3 (Value.slice a5 acc.length c5).ownBlock->w3.cell? ⟨w.heap.size,0,none⟩=some (.slice (some ⟨W,oW,none⟩) h.ab.length cW)/\w3.cell? ⟨W,oW+(A+1),none⟩=some (.int .i64 x1)/\w.heap.size<w3.heap.size/\W<w3.heap.size/\Below G.heap.size G w3):=fun w3 cr=>by
         have cu:∀k,(Value.slice a5 acc.length c5).ownBlock=some k->G.heap.size<=k:=fun k e=>(al.o.lt k e).1;have X:Below G.heap.size G w3:=(ah.o.alloc (by have:=ah.o.size;omega) _).grown cr (by have:=ah.o.size;simp;omega) (fun k e=>cu k e);have c6:=X.size;have bm:=a1.o;have a4:W<G.heap.size:=by obtain ⟨_,_,e,-,-,hh⟩:=a9.o.sW;obtain ⟨b',_,_,e',c1,cl,_⟩:=hh A (by omega);cases e;cases e';exact cl
         refine ⟨(X.cell (p:=⟨w.heap.size,0,none⟩) (by show w.heap.size<_;omega)).trans (aw a9.o.b0 0 rfl),?_,by omega,by omega,X⟩;exact (X.cell (p:=⟨W,oW+(A+1),none⟩) a4).trans ((ah.o.cell (p:=⟨W,oW+(A+1),none⟩) a4).symm.trans a3.o.2)
        clear r0 r1 Y bh hg b2 hlc a7 bu a0;go_wp2_with (at_builtin;refine wpList_append_lies _ rfl _ _ 22 rfl G.heap.size 3 iI (.int .i64 0) 1 8 Tryz.underlying22 cs cc ce cf rfl (by decide) (.slice a5 acc.length c5) acc.length (b8 acc) rfl (al.o.alloc _) ⟨w2.heap.size,0,none⟩ 1 1 [.int .i64 A] rfl rfl (World.news_of_block (heap_alloc_new w2 _)) (by intro u hu;simp at hu;subst hu;rfl) (by omega) av.o.1 av.o.2.1 av.o.2.2 _ rfl ?_);intro gA cA w3 au a6 _ cx;obtain ⟨r0,r1,l4,l5,X⟩:=bw.o w3 a6;have HF:Hid (w3.ownsRow G.heap.size 3 1 (.slice (some ⟨gA,0,none⟩) (acc.length+1) cA) ((F++ [bj h.ab A]).map bp.loc).length (b8 ((F++ [bj h.ab A]).map bp.loc))/\Below G.heap.size G w3):=by rw [List.map_append,ci.o,List.length_append,ziq];exact ⟨au,X⟩
        clear au a6 X bw al ah av a3;go_wp2_with fail;go_roundw
        case rel=>
         refine ⟨(A+3+x1.toNat),F++ [bj h.ab A],?_,by omega,by simp;omega,HF.o.1,HF.o.2,?_⟩
         ·have:((A+3+x1.toNat:Nat):Int)=(A:Int)+(3+x1):=by omega
          rw [this]
         have e:((A+3+x1.toNat:Nat):Int)=(A:Int)+3+x1:=by omega
         rw [e];exact cj.o
        case measure=>simp [intOf];omega
   have ak:Hid (cb d.aj.length d.fields h.ab E D=none):=by show _=_;rw [I.o,zeu af (by rw [io,decide_eq_false h3];simp)];rfl
   have w3:IntKind.i64.wrap ((A:Int)+3)=(A:Int)+3:=fy _ (by omega) (by omega);have cp:decide (D<(A:Int)+3)=true:=by simp;omega
   have ao:Nonempty (Gr wr.heap.size wr):=⟨⟨wr,br _ _⟩⟩;clear J I N;go_wp2_with fail;refine zev wr.heap.size wr (by kernel_rfl) (by kernel_rfl) (br _ _) ?_
   repeat (go_big_quiet_step (fail))
   refine wpQuiet_nil ?_;intro _ Z;obtain ⟨g,rfl⟩:=Z;have ai:=ae (aa.o _ g.ok);generalize g.w=w2 at*;clear ao;go_wp2_with fail
   go_ret2
   exact ⟨ai.o,Or.inr ⟨ak.o,_,_,_,rfl⟩⟩
  have aa:Hid (Below w.heap.size w wr):=bs.o.trans (J.o.2.1.mono (by have:=a1.o;omega));by_cases b3:(A:Int)=D
  ·have ba:Hid (cb d.aj.length d.fields h.ab E D=some F):=by
    rcases J.o.2.2 with hx | hx
    ·show _=_;rw [hx.2,zes af];simp
    exact absurd hx.1 (by omega)
   have al:=ae J.o.1;have cn:((A:Int)==D)=true:=beq_iff_eq.2 b3;clear J;go_wp2_with fail
   go_ret2
   exact ⟨aa.o,Or.inl ⟨F,_,ba.o,rfl,zhp al.o (by have:=a1.o;omega)⟩⟩
  have ba:Hid (cb d.aj.length d.fields h.ab E D=none):=by
   rcases J.o.2.2 with hx | hx
   ·exact absurd hx.1 (by omega)
   exact hx.2
  have cn:((A:Int)==D)=false:=beq_eq_false_iff_ne.2 b3;obtain ⟨a5,c5,rfl⟩:=kh J.o.1;clear J;go_wp2_with fail
  go_ret2
  exact ⟨aa.o,Or.inr ⟨ba.o,_,_,_,rfl⟩⟩
theorem znq (w:World) (B:Nat) (vW vO kC kS kF kN kT:Value) (h:bb) (d:bd) (sW:SL 1 RI (· <B) w vW h.ab) (sO:SL 1 RI (· <B) w vO h.am) (lk:j9 (· <B) w kC kS kF kN kT d) (hB:B<=w.heap.size)
 (A:Nat) (hl:A+2<h.ab.length) (bz:h.ab.length<=100000) (hf:lg d (bj h.ab A)):
 Calls Tryz.prog 87 #[.agg #[vW,.int .i64 h.ag,.int .i64 h.old,.int .i64 h.be,.int .i64 h.ar,vO,.int .i64 h.next],.agg #[kC,kS,kF,kN,kT],.int .i64 (A:Int)] w fun r w'=>Below w.heap.size w w'/\∃v,r=.returned v/\w'.ownsRow w.heap.size 3 1 v (refsOf d.fields (bj h.ab A)).length (b8 (refsOf d.fields (bj h.ab A))):=by
 obtain ⟨iI,bl,a0,a1,a2⟩:=info_parts Tryz.infoInt;obtain ⟨D,W⟩:∃D,D=(w.alloc (.cells #[vW,.int .i64 h.ag,.int .i64 h.old,.int .i64 h.be,.int .i64 h.ar,vO,.int .i64 h.next] 24)).alloc (.cells #[kC,kS,kF,kN,kT] 36):=⟨_,rfl⟩;have ai:Rd w.heap.size B D vW vO kC kS kF kN kT h d:=W ▸ Rd.new w B _ _ _ _ _ _ _ h d hB sW sO lk;have au:Below w.heap.size w D:=W ▸ ((br _ _).alloc (nlq _) _).alloc (by simp) _;have az:D.heap.size=w.heap.size+2:=by rw [W];simp
 have ad:=ae ai;have a6:=ae au;have a7:=ae W;have ao:=ae az;have a8:=ae hf;obtain ⟨aC,cC,aS,cS,aF,cF,aN,cN,aT,cT,rfl,rfl,rfl,rfl,rfl⟩:=lk.agg;obtain ⟨aW,cW,rfl,-,hm,-⟩:=sW;unfold maxLen at hm;obtain ⟨bW,oW,rfl,bi,-⟩:=ai.sW.atI A (by omega);have af:Hid (h.ab[A]=(bj h.ab A).tag/\h.ab[A+1]=(bj h.ab A).len):=⟨(mw (by omega)).symm,by show _=wd h.ab ((A:Int)+1);rw [show (A:Int)+1=((A+1:Nat):Int) by omega];exact (mw (by omega)).symm⟩;have bc:Hid ((bj h.ab A).loc=A):=rfl;have ba:Hid (refsOf d.fields (bj h.ab A)=jp d.fields (bj h.ab A) (bj h.ab A).len.toNat):=rfl;have bu:=hf.lo;have bs:=hf.hi;have q0:(0:Int)<=A:=by omega
 have q1:(A:Int)<h.ab.length:=by omega
 have q2:(0:Int)<=(A:Int)+1:=by omega
 have q3:(A:Int)+1<h.ab.length:=by omega
 have q6:((A:Int)+1).toNat=A+1:=by omega
 have w1:IntKind.i64.wrap ((A:Int)+1)=(A:Int)+1:=fy _ (by omega) (by omega);have w3:IntKind.i64.wrap ((A:Int)+3)=(A:Int)+3:=fy _ (by omega) (by omega);have N:Hid (∀V,Below D.heap.size D V->V.cell? ⟨w.heap.size,0,none⟩=some (.slice (some ⟨bW,oW,none⟩) h.ab.length cW)/\V.cell? ⟨bW,oW+A,none⟩=some (.int .i64 (bj h.ab A).tag)/\V.cell? ⟨bW,oW+(A+1),none⟩=some (.int .i64 (bj h.ab A).len)/\w.heap.size<V.heap.size/\bW<V.heap.size):=fun V hV=>by have F:=ad.o.below hV;obtain ⟨b1,o1,e1,bh,c1⟩:=F.sW.atI A (by omega);obtain ⟨b2,o2,e2,bw,c2⟩:=F.sW.atI (A+1) (by omega);cases e1;cases e2;rw [af.o.1]at c1;rw [af.o.2]at c2;exact ⟨aw F.b0 0 rfl,c1,c2,bk F.b0,bh⟩
 have G:Hid (∀V,Below D.heap.size D V->V.cell? ⟨w.heap.size+1,0,none⟩=some (.slice aC d.aj.length cC)/\V.cell? ⟨w.heap.size+1,1,none⟩=some (.slice aS d.ax.length cS)/\V.cell? ⟨w.heap.size+1,2,none⟩=some (.slice aF d.fields.length cF)/\V.cell? ⟨w.heap.size+1,3,none⟩=some (.slice aN d.names.length cN)/\V.cell? ⟨w.heap.size+1,4,none⟩=some (.slice aT d.aq.length cT)/\w.heap.size+1<V.heap.size):=fun V hV=>by have F:=ad.o.below hV;exact ⟨aw F.b1 0 rfl,aw F.b1 1 rfl,aw F.b1 2 rfl,aw F.b1 3 rfl,aw F.b1 4 rfl,bk F.b1⟩
 have bf:Hid (∀V (n:Nat),Below D.heap.size D V->(n:Int)<(bj h.ab A).len->Calls Tryz.prog 31 #[.agg #[.slice aC d.aj.length cC,.slice aS d.ax.length cS,.slice aF d.fields.length cF,.slice aN d.names.length cN,.slice aT d.aq.length cT],.int .i64 (bj h.ab A).tag,.int .i64 (n:Int)] V fun r w'=>r=.returned (.bool (je d.fields (bj h.ab A) n))/\Below V.heap.size V w'):=fun V n hV hn=>zky V B _ _ _ _ _ d (ad.o.below hV).lk (bj h.ab A) a8.o n hn;clear ai au W sO lk hf af bi az;generalize bj h.ab A=t at*;generalize htl:t.len=tl at*;clear htl;go_enter Tryz.func87,Tryz.ntmps87;go_wp2_with fail;rw [<-a7.o];go_loopw [7,8] (fun v i wr=>∃n:Nat,i=.int .i64 n/\(n:Int)<=tl/\Hid (wr.ownsRow D.heap.size 3 1 v (jp d.fields t n).length (b8 (jp d.fields t n))/\Below D.heap.size D wr)) (fun _ i _=>(tl - intOf i).toNat)
 case atStart=>exact ⟨0,rfl,by omega,World.ownsRow_nil _ _ _ _,br _ _⟩
 case round=>
  obtain ⟨n,rfl,hn,HI⟩:=hrel;obtain ⟨k0,k1,k2,k3,k4⟩:=N.o wr HI.o.2;have ak:=HI.o.2.size;by_cases bm:(n:Int)<tl
  ·have O:=ae (zhq d.fields t n);have Y:Nonempty (Gr wr.heap.size wr):=⟨⟨wr,br _ _⟩⟩;have L:∀g:Gr wr.heap.size wr,Below D.heap.size D g.w:=fun g=>HI.o.2.trans (g.ok.mono ak);have c0:∀g:Gr wr.heap.size wr,g.w.cell? ⟨w.heap.size,0,none⟩=some (.slice (some ⟨bW,oW,none⟩) h.ab.length cW):=fun g=>(N.o g.w (L g)).1;have c1:∀g:Gr wr.heap.size wr,g.w.cell? ⟨bW,oW+A,none⟩=some (.int .i64 t.tag):=fun g=>(N.o g.w (L g)).2.1;have y0:∀g:Gr wr.heap.size wr,g.w.cell? ⟨w.heap.size+1,0,none⟩=some (.slice aC d.aj.length cC):=fun g=>(G.o g.w (L g)).1;have y1:∀g:Gr wr.heap.size wr,g.w.cell? ⟨w.heap.size+1,1,none⟩=some (.slice aS d.ax.length cS):=fun g=>(G.o g.w (L g)).2.1;have y2:∀g:Gr wr.heap.size wr,g.w.cell? ⟨w.heap.size+1,2,none⟩=some (.slice aF d.fields.length cF):=fun g=>(G.o g.w (L g)).2.2.1;have y3:∀g:Gr wr.heap.size wr,g.w.cell? ⟨w.heap.size+1,3,none⟩=some (.slice aN d.names.length cN):=fun g=>(G.o g.w (L g)).2.2.2.1;have y4:∀g:Gr wr.heap.size wr,g.w.cell? ⟨w.heap.size+1,4,none⟩=some (.slice aT d.aq.length cT):=fun g=>(G.o g.w (L g)).2.2.2.2.1;have lb:∀g:Gr wr.heap.size wr,w.heap.size<g.w.heap.size:=fun g=>(N.o g.w (L g)).2.2.2.1;have a3:∀g:Gr wr.heap.size wr,w.heap.size+1<g.w.heap.size:=fun g=>(G.o g.w (L g)).2.2.2.2.2;have a4:∀g:Gr wr.heap.size wr,bW<g.w.heap.size:=fun g=>(N.o g.w (L g)).2.2.2.2;have I:Hid (∀g:Gr wr.heap.size wr,Calls Tryz.prog 31 #[.agg #[.slice aC d.aj.length cC,.slice aS d.ax.length cS,.slice aF d.fields.length cF,.slice aN d.names.length cN,.slice aT d.aq.length cT],.int .i64 t.tag,.int .i64 (n:Int)] g.w fun e bn=>e=.returned (.bool (je d.fields t n))/\∃g':Gr wr.heap.size wr,bn=g'.w):=fun g=>Gr.calls g (nlq _) (bf.o g.w n (L g) bm);have J:=ae HI.o;clear HI L;cases F:je d.fields t n with
   | false=>
     rw [F]at O I;go_wp2_with fail;refine zev wr.heap.size wr (by kernel_rfl) (by kernel_rfl) (br _ _) ?_
     repeat (go_big_quiet_step (first | (go_at_call 31;exact I.o _)))
     refine wpQuiet_nil ?_;intro _ al;obtain ⟨g,rfl⟩:=al;have HF:Hid (g.w.ownsRow D.heap.size 3 1 u7 (jp d.fields t (n+1)).length (b8 (jp d.fields t (n+1)))/\Below D.heap.size D g.w):=by rw [O.o];simp only [Bool.false_eq_true,if_false,List.append_nil];exact ⟨kv J.o.1 g.ok,J.o.2.trans (g.ok.mono ak)⟩
     generalize g.w=w2 at*;clear c0 c1 y0 y1 y2 y3 y4 lb a3 a4 Y I J O k0 k1 k2;go_wp2_with fail;go_roundw
     case rel=>exact ⟨n+1,by simp,by omega,HF.o⟩
     case measure=>simp [intOf];omega
   | true=>
     rw [F]at O I;go_wp2_with fail;refine zev wr.heap.size wr (by kernel_rfl) (by kernel_rfl) (br _ _) ?_
     repeat (go_big_quiet_step (first | (go_at_call 31;exact I.o _)))
     refine wpQuiet_nil ?_;intro _ al;obtain ⟨g,rfl⟩:=al;have E:=kv J.o.1 g.ok;have ah:Below D.heap.size D g.w:=J.o.2.trans (g.ok.mono ak);generalize g.w=w2 at*;clear c0 c1 y0 y1 y2 y3 y4 lb a3 a4 Y I J k0 k1 k2;have bx:=zhr d.fields t n;generalize hrn:jp d.fields t n=acc at*;obtain ⟨a5,c5,rfl⟩:=kh E;have an:=ae E;have aa:=ae ah;have w4:IntKind.i64.wrap ((A:Int)+3+(n:Int))=(A:Int)+3+(n:Int):=fy _ (by omega) (by omega);generalize hlx:(A:Int)+3+(n:Int)=lx at*;have ac:Hid (acc.length+1<=maxLen/\(acc.length+1)*8<=140737488355328/\D.heap.size<=(w2.alloc (.cells #[.int .i64 lx] 3)).heap.size):=⟨by unfold maxLen;omega,by omega,by have:=ah.size;simp;omega⟩;have a9:Hid (t.loc+3+(n:Int)=lx):=by rw [bc.o];exact hlx
     clear E ah hrn;go_wp2_with (at_builtin;refine wpList_append_lies _ rfl _ _ 22 rfl D.heap.size 3 iI (.int .i64 0) 1 8 Tryz.underlying22 bl a0 a1 a2 rfl (by decide) (.slice a5 acc.length c5) acc.length (b8 acc) rfl (an.o.alloc _) ⟨w2.heap.size,0,none⟩ 1 1 [.int .i64 lx] rfl rfl (World.news_of_block (heap_alloc_new w2 _)) (by intro u hu;simp at hu;subst hu;rfl) (by omega) ac.o.1 ac.o.2.1 ac.o.2.2 _ rfl ?_);intro gA cA w3 X Z _ bo;have ay:∀k,(Value.slice a5 acc.length c5).ownBlock=some k->D.heap.size<=k:=fun k e=>(an.o.lt k e).1;have av:Below D.heap.size D w3:=(aa.o.alloc aa.o.size _).grown Z (by have:=aa.o.size;simp;omega) (fun k e=>ay k e);have HF:Hid (w3.ownsRow D.heap.size 3 1 (.slice (some ⟨gA,0,none⟩) (acc.length+1) cA) (jp d.fields t (n+1)).length (b8 (jp d.fields t (n+1)))/\Below D.heap.size D w3):=by rw [O.o,a9.o,if_pos trivial,List.length_append,zhs];exact ⟨X,av⟩
     clear X Z av ay;go_wp2_with fail;go_roundw
     case rel=>exact ⟨n+1,by simp,by omega,HF.o⟩
     case measure=>simp [intOf];omega
  have Y:tl.toNat=n:=by omega
  have HF:Hid (Below w.heap.size w wr/\wr.ownsRow w.heap.size 3 1 u7 (refsOf d.fields t).length (b8 (refsOf d.fields t))):=by rw [ba.o,Y];exact ⟨a6.o.trans (HI.o.2.mono (by have:=ao.o;omega)),zhp HI.o.1 (by have:=ao.o;omega)⟩
  go_wp2_with fail;go_ret;exact ⟨HF.o.1,_,rfl,HF.o.2⟩
def BothOut (w:World) (h:bb) (d:bd) (r:Ending) (w':World):Prop:=
 (∃ys os vy vo,cb d.aj.length d.fields h.ab 1 h.be=some ys/\cb d.aj.length d.fields h.ab (h.ag+1) h.ar=some os/\r=.returned (.tuple #[vy,vo,.bool true])/\w'.ownsRow w.heap.size 3 1 vy (ys.map bp.loc).length (b8 (ys.map bp.loc))/\w'.ownsRow w.heap.size 3 1 vo (os.map bp.loc).length (b8 (os.map bp.loc)))\/
  (im d h=none/\∃a n c a' n' c',r=.returned (.tuple #[.slice a n c,.slice a' n' c',.bool false]))
theorem znr (w:World) (B:Nat) (vW vO kC kS kF kN kT:Value) (h:bb) (d:bd) (sW:SL 1 RI (· <B) w vW h.ab) (sO:SL 1 RI (· <B) w vO h.am) (lk:j9 (· <B) w kC kS kF kN kT d) (hB:B<=w.heap.size) (O:jy d h) (a3:∀f∈d.fields,f.length<=500):
 Calls Tryz.prog 73 #[.agg #[vW,.int .i64 h.ag,.int .i64 h.old,.int .i64 h.be,.int .i64 h.ar,vO,.int .i64 h.next],.agg #[kC,kS,kF,kN,kT]] w fun r w'=>Below w.heap.size w w'/\BothOut w h d r w':=by
 obtain ⟨X,L⟩:∃X,X=(w.alloc (.cells #[vW,.int .i64 h.ag,.int .i64 h.old,.int .i64 h.be,.int .i64 h.ar,vO,.int .i64 h.next] 24)).alloc (.cells #[kC,kS,kF,kN,kT] 36):=⟨_,rfl⟩;have I:Rd w.heap.size B X vW vO kC kS kF kN kT h d:=L ▸ Rd.new w B _ _ _ _ _ _ _ h d hB sW sO lk;have a2:Below w.heap.size w X:=L ▸ ((br _ _).alloc (nlq _) _).alloc (by simp) _;have a4:X.heap.size=w.heap.size+2:=by rw [L];simp
 have z1:=O.ag;have z2:=O.old;have z3:=O.len;have z4:=O.be;have z5:=O.ar;obtain ⟨Y,af⟩:∃Y:Nat,h.ag+1=Y:=⟨(h.ag+1).toNat,by omega⟩;have bh:IntKind.i64.wrap (h.ag+1)=(Y:Int):=(fy _ (by omega) (by omega)).trans af;have HY:Hid (h.ag+1=Y):=af;have Z:=ae (zk1 X B _ _ _ _ _ _ _ h d I.sW I.sO I.lk (by omega) 1 h.be (by omega) (by omega) (by omega) O.fl a3 O.cn);have a0:Hid (∀V,Below X.heap.size X V->Calls Tryz.prog 129 #[.agg #[vW,.int .i64 h.ag,.int .i64 h.old,.int .i64 h.be,.int .i64 h.ar,vO,.int .i64 h.next],.agg #[kC,kS,kF,kN,kT],.int .i64 (Y:Int),.int .i64 h.ar] V fun r w'=>Below V.heap.size V w'/\FromOut V (cb d.aj.length d.fields h.ab Y h.ar) r w'):=fun V hV=>by have hr:=I.below hV;exact zk1 V B _ _ _ _ _ _ _ h d hr.sW hr.sO hr.lk (by have:=hr.le;have:=bk hr.b0;omega) Y h.ar (by omega) (by omega) (by omega) O.fl a3 O.cn
 have a8:=ae I;have ah:=ae a2;have al:=ae L;have az:=ae a4;obtain ⟨aC,cC,aS,cS,aF,cF,aN,cN,aT,cT,rfl,rfl,rfl,rfl,rfl⟩:=lk.agg;obtain ⟨aW,cW,rfl,-⟩:=sW;obtain ⟨aO,cO,rfl,-⟩:=sO;have an:Hid (cb d.aj.length d.fields h.ab 1 h.be=none->im d h=none):=fun e=>by unfold im;rw [e]
 have au:Hid (cb d.aj.length d.fields h.ab Y h.ar=none->im d h=none):=fun e=>by unfold im;rw [HY.o,e];cases cb d.aj.length d.fields h.ab 1 h.be<;>rfl
 rw [al.o]at Z;clear I a2 L a4 lk z1 z2 z3 z4 z5 O af;go_enter Tryz.func73,Tryz.ntmps73;go_wp2_with fail;refine Z.o.mono ?_;rw [<-al.o];rintro r w1 ⟨N,bc⟩;have A:=a8.o.below N;have l0:=bk A.b0;have l1:=bk A.b1;have x0:=aw A.b0 0 (x:=.slice aW h.ab.length cW) rfl;have x1:=aw A.b0 1 (x:=.int .i64 h.ag) rfl;have x2:=aw A.b0 2 (x:=.int .i64 h.old) rfl;have x3:=aw A.b0 3 (x:=.int .i64 h.be) rfl;have x4:=aw A.b0 4 (x:=.int .i64 h.ar) rfl;have x5:=aw A.b0 5 (x:=.slice aO h.am.length cO) rfl;have x6:=aw A.b0 6 (x:=.int .i64 h.next) rfl;have y0:=aw A.b1 0 (x:=.slice aC d.aj.length cC) rfl;have y1:=aw A.b1 1 (x:=.slice aS d.ax.length cS) rfl;have y2:=aw A.b1 2 (x:=.slice aF d.fields.length cF) rfl;have y3:=aw A.b1 3 (x:=.slice aN d.names.length cN) rfl;have y4:=aw A.b1 4 (x:=.slice aT d.aq.length cT) rfl;have a1:=ae (a0.o w1 N);have ai:=ae N;have bf:=N.size;have ak:Hid (∀V,Below w1.heap.size w1 V->Below w.heap.size w V):=fun V hV=>ah.o.trans ((ai.o.trans (hV.mono ai.o.size)).mono ah.o.size);clear A N a0 Z;rcases bc with ⟨ys,vy,E,rfl,W⟩ | ⟨E,a,n,c,rfl⟩
 ·obtain ⟨ay,cy,rfl⟩:=kh W;have ba:=ae E;obtain ⟨yl,ad⟩:∃yl,ys.map bp.loc=yl:=⟨_,rfl⟩;rw [ad]at W ⊢;have a9:=ae ad;have a7:=ae W;clear E W ad;go_wp2_with fail;refine a1.o.mono ?_;rintro r w2 ⟨G,aa⟩;have J:=ae (ak.o w2 G);have av:=ae (kv a7.o G);clear G x0 x1 x2 x3 x4 x5 x6 y0 y1 y2 y3 y4;rcases aa with ⟨os,vo,E,rfl,D⟩ | ⟨E,a,n,c,rfl⟩
  ·obtain ⟨ao,co,rfl⟩:=kh D;have F:=ae E;obtain ⟨ol,ac⟩:∃ol,os.map bp.loc=ol:=⟨_,rfl⟩;rw [ac]at D ⊢;have a5:=ae ac;have a6:=ae D;clear E D ac;go_wp2_with fail
   go_ret3
   exact ⟨J.o,Or.inl ⟨ys,os,_,_,ba.o,by rw [HY.o];exact F.o,rfl,by rw [a9.o];exact zhp av.o (by have:=az.o;omega),by rw [a5.o];exact zhp a6.o (by have:=az.o;omega)⟩⟩
  have F:=ae (au.o E);clear E;go_wp2_with fail
  go_ret3
  exact ⟨J.o,Or.inr ⟨F.o,_,_,_,_,_,_,rfl⟩⟩
 have F:=ae (an.o E);clear E;go_wp2_with fail;refine a1.o.mono ?_;rintro r w2 ⟨G,aa⟩;have J:=ae (ak.o w2 G);clear G x0 x1 x2 x3 x4 x5 x6 y0 y1 y2 y3 y4;rcases aa with ⟨os,vo,E,rfl,D⟩ | ⟨E,a,n,c,rfl⟩
 ·obtain ⟨ao,co,rfl⟩:=kh D;clear E D;go_wp2_with fail
  go_ret3
  exact ⟨J.o,Or.inr ⟨F.o,_,_,_,_,_,_,rfl⟩⟩
 clear E;go_wp2_with fail
 go_ret3
 exact ⟨J.o,Or.inr ⟨F.o,_,_,_,_,_,_,rfl⟩⟩
end Go.Proofs.YtjdnmblggdobgaaGreat
