import Derived.Test.YtjdnmblggdobgaaGreatHqA
import Derived.Test.YtjdnmblggdobgaaGreatJHrAHrC
set_option maxHeartbeats 1000000
set_option maxRecDepth 100000
namespace Go.Proofs.YtjdnmblggdobgaaGreat
open Go.Maps Go.RowKit Tryz List Or World
variable (args:Array Value) (w:World) (t X B P Q:Nat) (V O G L I J N vW vO W kC kS Y Z kF kN kT D:Value) (h:ar) (d:ax)
def Cr (first:Array Value) (qs:List QD):List Value:=qs.flatMap fun q=>[.func (.func q.g) first #[],.i q.e]
theorem Dt (first:Array Value) (A:List QD) (I:A.length<=1000):SL 2 (RQ first) (· <w.heap.size+1) (w.alloc (.cells (Cr first A).toArray t)) (.slice (some ⟨w.heap.size,0,none⟩) A.length A.length) A:=by
 refine ⟨_,A.length,rfl,nlq _,by unfold maxLen;omega,fun k F=>?_⟩;refine ⟨w.heap.size,0,[.func (.func A[k].g) first #[],.i A[k].e],rfl,Nat.lt_succ_self _,by simp,rfl,fun j E=>?_,rfl⟩;have D:=B3 (n:=2) (fun q:QD=>[Value.func (.func q.g) first #[],.i q.e]) A k j (fun _ _=>rfl) F E;obtain ⟨x,G⟩:∃x,[Value.func (.func A[k].g) first #[],.i A[k].e][j]? =some x:=by
  match j,E with
  | 0,_=>exact ⟨_,rfl⟩
  | 1,_=>exact ⟨_,rfl⟩
 rw [G]at D ⊢;rw [Nat.zero_add];exact bg (heap_alloc_new w _) _ (by simpa [Cr]using D)
def ke (h:ar):List QD:=[⟨106,3,kj h⟩,⟨107,1,ju h⟩,⟨108,3,lq h⟩]
def kq (d:ax) (h:ar) (ts:List bq):List QD:=[⟨110,3,!ts.any (jx h)⟩,⟨111,6,decide ((ts.map bq.hash).Nodup)⟩,⟨112,5,!ts.any fun x=>fx d.fields h.ab x fun n=>!cq ts n⟩,⟨113,1,!(lj h).any (· != 0)⟩,⟨114,4,pv h.ap⟩,⟨115,4,!h.ap.any (ib d h ts)⟩,⟨116,4,!ts.any (iv d h)⟩]
theorem zkt:d9 (ke h)=if kj h then (if ju h then (if lq h then 0 else 3) else 1) else 3:=by unfold ke;simp only [d9]
theorem zku (h:ar) (ts:List bq):d9 (kq d h ts)=mc d h ts:=by unfold kq mc;simp only [d9];cases ts.any (jx h)<;>cases decide ((ts.map bq.hash).Nodup)<;>cases (ts.any fun x=>fx d.fields h.ab x fun n=>!cq ts n)<;>cases (lj h).any (· != 0)<;>cases pv h.ap<;>cases h.ap.any (ib d h ts)<;>cases ts.any (iv d h)<;>rfl
theorem zkv:∀q∈ke h,∀args w,(callFunc q.g args).run prog w=.ok (.enter q.g args) w:=by intro q A args w;simp [ke]at A;rcases A with rfl | rfl | rfl<;>kernel_rfl
theorem zkw:∀q∈ke h,q.e≠0:=by intro q A;simp [ke]at A;rcases A with rfl | rfl | rfl<;>simp
theorem zkx (h:ar) (ts:List bq):∀q∈kq d h ts,∀args w,(callFunc q.g args).run prog w=.ok (.enter q.g args) w:=by intro q A args w;simp only [kq,mem_cons,not_mem_nil,or_false]at A;rcases A with rfl | rfl | rfl | rfl | rfl | rfl | rfl<;>kernel_rfl
theorem zky (h:ar) (ts:List bq):∀q∈kq d h ts,q.e≠0:=by intro q A;simp only [kq,mem_cons,not_mem_nil,or_false]at A;rcases A with rfl | rfl | rfl | rfl | rfl | rfl | rfl<;>simp
theorem zkz (F:Option Addr) (G:Nat) (E:Value) (h:ar) (k:Nat) (I:k<(ke h).length) (A:∀(j:Nat) (hj:j<(ke h).length),j<k->(ke h)[j].ans=true):
 Calls prog (ke h)[k].g #[.agg #[.slice F h.ab.length G,.i h.ae,.i h.old,.i h.bk,.i h.be,E,.i h.next]] w fun r w'=>r=.returned (.bool (ke h)[k].ans)/\Bl w w':=by
 have D:0<k->(3<=h.ae/\h.ae<=2000)/\(3<=h.old/\h.old<=2000):=fun h0=>by have:=A 0 (by simp [ke]) h0;simp only [ke,p5q,kj,jd,Bool.and_eq_true,decide_eq_true_eq]at this;exact ⟨⟨by omega,by omega⟩,⟨by omega,by omega⟩⟩
 match k,I with
 | 0,_=>exact zh2 w _ E h
 | 1,_=>exact zh3 w F G E h (D (by omega)).1 (D (by omega)).2
 | 2,_=>exact zh4 w _ E h (D (by omega)).1 (D (by omega)).2
theorem zk0 (ts:List bq) (hc:qc X B w vW vO W kS Y Z kT D h d ts) (V:na d h) (E:vw d h ts) (F:∀t∈ts,(Lit.int .i64 t.hash).wf=true) (G:∀x∈h.ap,(Lit.int .i64 x).wf=true) (k:Nat) (N:k<(kq d h ts).length) (A:∀(j:Nat) (hj:j<(kq d h ts).length),j<k->(kq d h ts)[j].ans=true):
 Calls prog (kq d h ts)[k].g #[.agg #[.p (X+1)]] w fun r w'=>r=.returned (.bool (kq d h ts)[k].ans)/\Bl w w':=by
 match k,N with
 | 0,_=>exact zhw w X B _ _ _ _ _ _ _ D h d ts hc E.len
 | 1,_=>exact zib w X B _ _ _ _ _ _ _ D h d ts hc E.len F
 | 2,_=>exact zhz w X B _ _ _ _ _ _ _ D h d ts hc E
 | 3,_=>exact zio w X B _ _ _ _ _ _ _ D h d ts hc V
 | 4,_=>
   refine (zh1 w X B _ _ _ _ _ _ _ D h d ts hc).mono ?_;rintro r w' ⟨⟨b,rfl,L⟩,O⟩;refine ⟨?_,O⟩;have:b=pv h.ap:=by rw [Bool.eq_iff_iff,L,zka]
   rw [this];rfl
 | 5,_=>exact zh7 w X B _ _ _ _ _ _ _ D h d ts hc E G
 | 6,_=>
   have I:pv h.ap=true:=A 4 (by simp [kq]) (by omega);have J:(!h.ap.any (ib d h ts))=true:=A 5 (by simp [kq]) (by omega);exact zif w X B _ _ _ _ _ _ _ D h d ts hc E (zkj E I (by simpa using J)) ((zka _).1 I)
theorem zk1 {h:ar} (hc:d9 (ke h)=0):kj h=true/\ju h=true/\lq h=true:=by rw [zkt]at hc;cases h1:kj h<;>cases h2:ju h<;>cases h3:lq h<;>simp_all
theorem zk2 {d:ax} {h:ar} (hc:d9 (ke h)≠0):oa d h=d9 (ke h):=by rw [zkt]at hc ⊢;unfold oa;cases h1:kj h<;>cases h2:ju h<;>cases h3:lq h<;>simp_all
theorem qc.grown {X B b:Nat} {w w':World} {O N E I F G J L:Value} {h:ar} {d:ax} {ts:List bq} (c:qc X B w O N E I F G J L h d ts) (A:w.grownBy w' (some b)) (h1:B<=b) (W:b<X):qc X B w' O N E I F G J L h d ts:=
 have D:Kp (· <B) w w':=⟨A.size,fun k D V=>A.block k V (by intro e;injection e;omega)⟩
 ⟨c.le,(A.block (X+1) (bz c.blk) (by intro e;injection e;omega)).trans c.blk,c.sW.keptI D,c.sO.keptI D,c.lk.kept D,c.row.kept A (inr fun e=>by have:=(c.row.lt b e).1;omega),c.pl.kept A (by intro e;injection e;omega)⟩
def ye (w:World) (B:Nat) (vW vO kC kS kF kN kT:Value) (h:ar) (d:ax) (r:Ending) (w':World):Prop:=
 (cg d h=0/\∃X vA ts,r=.returned (.agg #[.p (X+1)])/\jh d h=some ts/\w.heap.size<=X/\qc X B w' vW vO kC kS kF kN kT vA h d ts)\/(cg d h≠0/\r=.panicked [wrongV (cg d h) 0])
theorem zk3 (sW:SL 1 RI (· <B) w vW h.ab) (sO:SL 1 RI (· <B) w vO h.ap) (lk:nh (· <B) w kC kS kF kN kT d) (hB:B<=w.heap.size) (ce:∀x∈h.ab,(Lit.int .i64 x).wf=true) (cc:∀x∈h.ap,(Lit.int .i64 x).wf=true):
 Calls prog 53 #[.agg #[vW,.i h.ae,.i h.old,.i h.bk,.i h.be,vO,.i h.next],.agg #[kC,kS,kF,kN,kT]] w fun r w'=>Bl w w'/\ye w B vW vO kC kS kF kN kT h d r w':=by
 have dg:=ri prog;obtain ⟨W0,L⟩:∃W0,W0=(((w.alloc (.cells #[vW,.i h.ae,.i h.old,.i h.bk,.i h.be,vO,.i h.next] 24)).alloc (.cells #[kC,kS,kF,kN,kT] 36)).alloc (.cells #[.pointer none] 88)):=⟨_,rfl⟩;have b5:Bl w W0:=L ▸ (((br _ _).alloc (nlq _) _).alloc (by simp) _).alloc (by simp;omega) _;have ca:W0.heap.size=w.heap.size+3:=by rw [L];simp
 have bc:Rd w.heap.size B W0 vW vO kC kS kF kN kT h d:=L ▸ (Rd.new w B _ _ _ _ _ _ _ h d hB sW sO lk).below ((br _ _).alloc (nlq _) _);have G:W0.heap[w.heap.size+2]? =some (.cells #[.pointer none] 88 (0,0)):=by have:=heap_alloc_new ((w.alloc (.cells #[vW,.i h.ae,.i h.old,.i h.bk,.i h.be,vO,.i h.next] 24)).alloc (.cells #[kC,kS,kF,kN,kT] 36)) (.cells #[.pointer none] 88);rw [<-L]at this;simpa using this
 have J:=aj (zkl W0 B kC kS kF kN kT d bc.lk (by omega));have bs:=aj bc;have I:=aj b5;have bh:=aj G;have a2:=aj L;have bx:=aj (And.intro ce cc);have ck:=aj ca;obtain ⟨aC,cC,aS,cS,aF,cF,aN,cN,aT,cT,rfl,rfl,rfl,rfl,rfl⟩:=lk.agg;obtain ⟨aW,cW,rfl,-⟩:=sW;obtain ⟨aO,cO,rfl,-⟩:=sO;clear G b5 bc L lk ce cc ca;rw [a2.o]at J;cases hok:qw d
 ·have a7:iq d []=4:=by unfold iq;rw [hok];rfl
  have HR:Hid (cg d h=4):=by show cg d h=4;unfold cg;rw [hok];rfl
  rw [a7]at J;go_enter func53,ntmps53
  go_wp21
  refine J.o.mono ?_;rintro r w1 ⟨rfl,F⟩
  go_wp21
  refine (oz _ _ _).mono ?_;rintro r w3 ⟨rfl,⟨N,rfl⟩ | ⟨N,rfl⟩⟩
  ·rw [<-a2.o]at F;exact ⟨rfl,I.o.trans (F.mono I.o.size),inr ⟨by rw [HR.o];decide,by rw [HR.o]⟩⟩
  exact absurd N (by simp)
 have a7:iq d []=0:=by unfold iq;rw [hok];rfl
 have HE:Hid (cg d h=oa d h):=by show cg d h=_;unfold cg;rw [hok];rfl
 have bm:=aj (Fu hok);rw [a7]at J;go_enter func53,ntmps53
 go_wp21
 refine J.o.mono ?_;rintro r w1 ⟨rfl,F⟩;rw [<-a2.o]at F;have af:=aj F;have ak:=bs.o.below F;have cs:=F.size;have l0:=bz ak.b0;have xk:=il ak.b0;have cj:=aj ak;obtain ⟨W2,ai⟩:∃W2,W2=w1.alloc (.cells (H7 aW cW aO cO h) 167):=⟨_,rfl⟩;have b4:Bl w1 W2:=ai ▸ (br _ _).alloc (nlq _) _;have a3:=aj ai;have av:=aj b4;have an:W2.heap.size=w1.heap.size+1:=by rw [ai];simp
 have HQ:Hid (SL 2 (RQ #[.agg (H7 aW cW aO cO h)]) (· <w1.heap.size+1+1) (W2.alloc (.cells #[.func (.func 106) #[.agg (H7 aW cW aO cO h)] #[],.i 3,.func (.func 107) #[.agg (H7 aW cW aO cO h)] #[],.i 1,.func (.func 108) #[.agg (H7 aW cW aO cO h)] #[],.i 3] 170)) (.slice (some ⟨w1.heap.size+1,0,none⟩) 3 3) (ke h)):=by rw [<-an];exact Dt W2 170 #[.agg (H7 aW cW aO cO h)] (ke h) (by simp [ke])
 have aw:=aj (fun o=>(br W2.heap.size W2).alloc (nlq _) o);clear ak F b4 J an
 go_wp21
 refine (oz _ _ _).mono ?_;rintro r w3 ⟨rfl,⟨N,rfl⟩ | ⟨N,rfl⟩⟩
 ·exact absurd N (by simp)
 clear N
 go_wp21
 rw [<-a3.o];refine (zi6 _ (w3.heap.size+1+1) _ _ (ke h) HQ.o (by rw [a3.o];simp) (zkv h) (zkw h) ?_).mono ?_
 ·intro k hk ac V hV;exact zkz V aW cW _ h k hk ac
 have az:Hid (∀(V:World) (o:Obj),Below (W2.alloc o).heap.size (W2.alloc o) V->Bl w3 V):=fun V o hV=>av.o.trans (((aw.o o).trans (hV.mono (aw.o o).size)).mono av.o.size);rintro r w4 ⟨⟨hc,rfl⟩ | ⟨hc,rfl⟩,a5⟩
 ·have D:=az.o _ _ a5;have b7:=zk2 (d:=d) hc;exact ⟨rfl,I.o.trans ((af.o.trans (D.mono af.o.size)).mono I.o.size),inr ⟨by rw [HE.o,b7];exact hc,by rw [HE.o,b7]⟩⟩
 have D:=az.o _ _ a5;obtain ⟨a8,a9,bb⟩:=zk1 hc;have HZ:=aj (zkb bm.o a8 a9 bb);have bn:Hid (cg d h=match jh d h with | none=>1 | some ts=>mc d h ts):=by show cg d h=_;rw [HE.o];unfold oa;rw [a8,a9,bb];rfl
 have A:=cj.o.below D;have c9:=aj A;have Y:Hid (Bl W0 w4):=af.o.trans (D.mono af.o.size);have bl:=aj (zhf w4 B _ _ _ _ _ _ _ h d (by have:=A.le;have:=bz A.b0;omega) A.sW A.sO A.lk HZ.o);have ct:=bz A.b0;have cv:=bg A.b0 0 (x:=.slice aW h.ab.length cW) rfl;have cx:=bg A.b0 1 (x:=.i h.ae) rfl;have cy:=bg A.b0 2 (x:=.i h.old) rfl;have c0:=bg A.b0 3 (x:=.i h.bk) rfl;have c1:=bg A.b0 4 (x:=.i h.be) rfl;have c2:=bg A.b0 5 (x:=.slice aO h.ap.length cO) rfl;have c3:=bg A.b0 6 (x:=.i h.next) rfl;have cu:=bz A.b1;have c4:=bg A.b1 0 (x:=.slice aC d.am.length cC) rfl;have c5:=bg A.b1 1 (x:=.slice aS d.bj.length cS) rfl;have c6:=bg A.b1 2 (x:=.slice aF d.fields.length cF) rfl;have c7:=bg A.b1 3 (x:=.slice aN d.names.length cN) rfl;have c8:=bg A.b1 4 (x:=.slice aT d.ba.length cT) rfl;clear A a5 D hc a8 a9 bb HQ aw av az a3 ai xk l0 cs
 go_wp21
 refine bl.o.mono ?_;rintro r w5 ⟨D,cr⟩;have Z:Hid (Bl W0 w5):=Y.o.trans (D.mono Y.o.size);have E:Hid (Bl w w5):=I.o.trans (Z.o.mono I.o.size);have dj:=D.size;clear D cv cx cy c0 c1 c2 c3 c4 c5 c6 c7 c8 ct cu bl;rcases cr with ⟨ts,vA,ad,rfl,al⟩ | ⟨b9,rfl⟩
 ·have a1:Hid (cg d h=d9 (kq d h ts)):=by show cg d h=_;rw [bn.o,ad,zku]
  have HL:=aj (zkh bm.o HZ.o bx.o.1 ad);have cn:=aj ad;have a0:=aj al;have co:Hid (∀t∈ts,(Lit.int .i64 t.hash).wf=true):=fun t ht=>by
   obtain ⟨ys,os,e1,e2,rfl⟩:=Ab ad;have e:t=bp h.ab t.loc:=by
    rcases mem_append.1 ht with ht | ht
    ·exact (td e1 t ht).2.2.1
    exact (td e2 t ht).2.2.1
   rw [e];exact HL.o.wdf _
  obtain ⟨X,hX⟩:∃X,X=w4.heap.size+1+1:=⟨_,rfl⟩;have df:w.heap.size+3<=X:=by have:=Y.o.size;have:=ck.o;omega
  rw [<-hX]at a0 ⊢;clear al ad hX;obtain ⟨W,aa⟩:∃W,W=w5.alloc (.cells #[.p (X+1)] 88):=⟨_,rfl⟩;have bf:Hid (Bl w5 W):=aa ▸ (br _ _).alloc (nlq _) _;have bu:=aj aa;have b2:W.heap[w5.heap.size]? =some (.cells #[.p (X+1)] 88 (0,0)):=aa ▸ heap_alloc_new w5 _;have au:W.heap.size=w5.heap.size+1:=by rw [aa];simp
  have bo:Hid (SL 2 (RQ #[.agg #[.p (X+1)]]) (· <w5.heap.size+1+1) (W.alloc (.cells #[.func (.func 110) #[.agg #[.p (X+1)]] #[],.i 3,.func (.func 111) #[.agg #[.p (X+1)]] #[],.i 6,.func (.func 112) #[.agg #[.p (X+1)]] #[],.i 5,.func (.func 113) #[.agg #[.p (X+1)]] #[],.i 1,.func (.func 114) #[.agg #[.p (X+1)]] #[],.i 4,.func (.func 115) #[.agg #[.p (X+1)]] #[],.i 4,.func (.func 116) #[.agg #[.p (X+1)]] #[],.i 4] 170)) (.slice (some ⟨w5.heap.size+1,0,none⟩) 7 7) (kq d h ts)):=by rw [<-au];exact Dt W 170 #[.agg #[.p (X+1)]] (kq d h ts) (by simp [kq])
  have ay:=aj (fun o=>(br W.heap.size W).alloc (nlq _) o);have bd:=aj b2;have ah:Hid (∀(V:World) (o:Obj),Below (W.alloc o).heap.size (W.alloc o) V->Bl w5 V/\V.heap[w5.heap.size]? =some (.cells #[.p (X+1)] 88 (0,0))):=fun V o hV=>by have b3:Bl W V:=(ay.o o).trans (hV.mono (ay.o o).size);exact ⟨bf.o.trans (b3.mono bf.o.size),(b3.block _ (bz bd.o)).trans bd.o⟩
  clear aa b2 au
  go_wp21
  refine (oz _ _ _).mono ?_;rintro r w7 ⟨rfl,⟨N,rfl⟩ | ⟨N,rfl⟩⟩
  ·exact absurd N (by simp)
  clear N
  go_wp21
  rw [<-bu.o];refine (zi6 _ (w7.heap.size+1+1) _ _ (kq d h ts) bo.o (by rw [bu.o];simp) (zkx d h ts) (zky d h ts) ?_).mono ?_
  ·intro k hk ac V hV;exact zk0 V X B _ _ _ _ _ _ _ vA h d ts (a0.o.below (ah.o _ _ hV).1) HZ.o HL.o co.o bx.o.2 k hk ac
  rintro r w8 ⟨⟨hc,rfl⟩ | ⟨hc,rfl⟩,a6⟩
  ·have O:=(ah.o _ _ a6).1;exact ⟨rfl,E.o.trans (O.mono E.o.size),inr ⟨by rw [a1.o];exact hc,by rw [a1.o]⟩⟩
  obtain ⟨O,a4⟩:=ah.o _ _ a6;have b6:Bl w w8:=E.o.trans (O.mono E.o.size);have G:w8.heap[w.heap.size+2]? =some (.cells #[.pointer none] 88 (0,0)):=((Z.o.trans (O.mono Z.o.size)).block (w.heap.size+2) (bz bh.o)).trans bh.o;have dd:=bg a4 0 (x:=.p (X+1)) rfl;have dk:=bz a4;have cp:=bg G 0 (x:=.pointer none) rfl;have ds:=pq G 0;have dl:=bz G;have ch:=aj (a0.o.below O);have bi:Hid (cg d h=0):=a1.o.trans hc;have hg:=pi (grownBy.refl w8 (some (w.heap.size+2))) ⟨w.heap.size+2,0,none⟩ (.p (X+1)) (inl rfl);have ci:=aj (ch.o.grown hg (by have:=bs.o.le;omega) (by omega));have cf:=aj (pf b6 hg (by omega));have cm:=aj (cell?_setCell_same w8 ⟨w.heap.size+2,0,none⟩ (.p (X+1)) cp);clear a6 O a4 b6 G hc hg bo ay ah
  go_wp21
  exact bodyPost_ret (v:=.agg #[.p (X+1)]) (by simp [results,results53,go_sem,cm.o]) rfl ⟨cf.o,inl ⟨bi.o,X,vA,ts,rfl,cn.o,by omega,ci.o⟩⟩
 have HR:Hid (cg d h=1):=by show cg d h=1;rw [bn.o,b9]
 clear b9
 go_wp21
 refine (oz _ _ _).mono ?_;rintro r w7 ⟨rfl,⟨N,rfl⟩ | ⟨N,rfl⟩⟩
 ·exact ⟨rfl,E.o,inr ⟨by rw [HR.o];decide,by rw [HR.o]⟩⟩
 exact absurd N (by simp)
structure Hd (B:Nat) (w:World) (vW vO kC kS kF kN kT:Value) (h:ar) (d:ax):Prop where
 sW:SL 1 RI (· <B) w vW h.ab
 sO:SL 1 RI (· <B) w vO h.ap
 lk:nh (· <B) w kC kS kF kN kT d
 le:B<=w.heap.size
 ww:∀x∈h.ab,(Lit.int .i64 x).wf=true
 wn:∀x∈h.ap,(Lit.int .i64 x).wf=true
theorem Hd.below {B:Nat} {w w':World} {N L E I F G J:Value} {h:ar} {d:ax} (g:Hd B w N L E I F G J h d) (D:Below B w w'):Hd B w' N L E I F G J h d:=
 have A:=Kp.below D
 ⟨g.sW.keptI A,g.sO.keptI A,g.lk.kept A,lt3 g.le D.size,g.ww,g.wn⟩
theorem Hd.agg {B:Nat} {w:World} {vW vO Z kS kF kN kT:Value} {h:ar} {d:ax} (g:Hd B w vW vO Z kS kF kN kT h d):∃J Y F V A L G W D N E O I X,vW=.slice J h.ab.length Y/\vO=.slice F h.ap.length V/\Z=.slice A d.am.length L/\kS=.slice G d.bj.length W/\kF=.slice D d.fields.length N/\kN=.slice E d.names.length O/\kT=.slice I d.ba.length X:=by obtain ⟨A,L,G,W,D,N,E,O,I,X,e1,e2,e3,e4,e5⟩:=g.lk.agg;obtain ⟨J,Y,e6,-⟩:=g.sW;obtain ⟨F,V,e7,-⟩:=g.sO;exact ⟨_,_,_,_,_,_,_,_,_,_,_,_,_,_,e6,e7,e1,e2,e3,e4,e5⟩
theorem zk4 {B:Nat} {w:World} {J I A F D E G:Value} {h:ar} {d:ax} (g:Hd B w J I A F D E G h d):
 Calls prog 53 #[.agg #[J,.i h.ae,.i h.old,.i h.bk,.i h.be,I,.i h.next],.agg #[A,F,D,E,G]] w fun r w'=>Bl w w'/\ye w B J I A F D E G h d r w':=zk3 w B _ _ _ _ _ _ _ h d g.sW g.sO g.lk g.le g.ww g.wn
theorem zk5 (g:Hd B w V O G L I J N h d) (D:w.heap[P]? =some (.cells #[V,.i h.ae,.i h.old,.i h.bk,.i h.be,O,.i h.next] 24 (0,0))) (E:w.heap[Q]? =some (.cells #[G,L,I,J,N] 36 (0,0))):
 Calls prog 52 #[.p P,.p Q] w fun r w'=>pr (cg d h) r/\Bl w w':=by
 have A:=aj (zk4 g);have aa:=bz D;have ac:=bz E;have Z:=il D;have ek:=cells5 E;obtain ⟨aW,cW,aO,cO,aC,cC,aS,cS,aF,cF,aN,cN,aT,cT,rfl,rfl,rfl,rfl,rfl,rfl,rfl⟩:=g.agg;clear g D E;go_enter func52,ntmps52
 go_wp21
 refine A.o.mono ?_;rintro r w1 ⟨F,⟨h0,X,vA,ts,rfl,-⟩ | ⟨h0,rfl⟩⟩
 ·have Y:=aj h0;have W:=aj F;clear h0 F Z ek
  go_wp21
  go_end0;exact ⟨inr ⟨Y.o,rfl⟩,W.o⟩
 exact ⟨rfl,inl ⟨h0,rfl⟩,F⟩
theorem zm:(callFunc 52 args).run prog w=.ok (.enter 52 args) w:=by kernel_rfl
theorem zk6 (g:Hd B w vW vO kC kS kF kN kT h d):
 Calls prog 20 #[.agg #[vW,.i h.ae,.i h.old,.i h.bk,.i h.be,vO,.i h.next],.agg #[kC,kS,kF,kN,kT]] w fun r w'=>r=.returned (.i (cg d h))/\Bl w w':=by
 have ai:=ri prog;have HG:=aj g;obtain ⟨L,Z,G,W,D,N,I,X,E,O,F,V,J,Y,rfl,rfl,rfl,rfl,rfl,rfl,rfl⟩:=g.agg;clear g;have aa:=(br w.heap.size w).alloc (nlq _) (.cells (H7 L Z G W h) 24);have ac:=aa.alloc aa.size (.cells (K5 D N I X E O F V J Y d) 36);have A:=ac.alloc ac.size (.cells #[.i 0,.i 0] 84);have ak:(((w.alloc (.cells (H7 L Z G W h) 24)).alloc (.cells (K5 D N I X E O F V J Y d) 36)).alloc (.cells #[.i 0,.i 0] 84)).heap[w.heap.size]? =some (.cells (H7 L Z G W h) 24 (0,0)):=(Below.heap_alloc _ _ _ (by simp;omega)).trans ((Below.heap_alloc _ _ _ (by simp)).trans (heap_alloc_new w _));have al:(((w.alloc (.cells (H7 L Z G W h) 24)).alloc (.cells (K5 D N I X E O F V J Y d) 36)).alloc (.cells #[.i 0,.i 0] 84)).heap[w.heap.size+1]? =some (.cells (K5 D N I X E O F V J Y d) 36 (0,0)):=(Below.heap_alloc _ _ _ (by simp)).trans (by
  have:=heap_alloc_new (w.alloc (.cells (H7 L Z G W h) 24)) (.cells (K5 D N I X E O F V J Y d) 36);simpa using this)
 have ad:=aj ak;have af:=aj al;clear ak al;go_enter func20,ntmps20
 go_wp21
 refine (Ek 52 _ _ (fun w1=>cg d h=0/\Bl w w1) (fun e p w1=>cg d h=e/\Bl w w1) (zm _) ?hc).mono ?_
 case hc=>
  refine (zk5 _ B w.heap.size (w.heap.size+1) _ _ _ _ _ _ _ h d (HG.o.below (A.mono HG.o.le)) ad.o af.o).mono ?_;rintro r w1 ⟨hr,hb⟩;have ah:=A.trans (hb.mono A.size);refine ⟨?_,?_⟩
  ·rw [hb.block ((w.alloc (.cells (H7 L Z G W h) 24)).alloc (.cells (K5 D N I X E O F V J Y d) 36)).heap.size (by simp)];exact heap_alloc_new _ _
  rcases hr with ⟨hc,rfl⟩ | ⟨hc,rfl⟩
  ·exact inr ⟨_,_,rfl,rfl,ah⟩
  exact inl ⟨rfl,hc,ah⟩
 rintro r w2 ⟨w1,hg,hr⟩;have hz:((w.alloc (.cells (H7 L Z G W h) 24)).alloc (.cells (K5 D N I X E O F V J Y d) 36)).heap.size=w.heap.size+2:=by simp
 rw [hz]at hg;clear aa ac A hz ad af;rcases hr with ⟨rfl,hc,hB⟩ | ⟨e,p,rfl,hc,hB⟩
 ·have HC:=aj hc;have HB:=aj (pf hB hg (by omega));clear hc hg hB ai HG;have am:=qv;go_wp2
  go_ret;exact ⟨by rw [HC.o];rfl,HB.o⟩
 have HC:=aj hc;have HB:=aj (pf hB hg (by omega));clear hc hg hB ai HG;have am:=qv;go_wp2
 go_ret;exact ⟨by rw [HC.o];rfl,HB.o⟩
end Go.Proofs.YtjdnmblggdobgaaGreat
