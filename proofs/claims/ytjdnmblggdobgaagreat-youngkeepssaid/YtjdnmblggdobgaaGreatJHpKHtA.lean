import Derived.Test.YtjdnmblggdobgaaGreatJTk2Dies
import Derived.Test.YtjdnmblggdobgaaGreatHqA
import Derived.Test.YtjdnmblggdobgaaGreatJLLkLBas
import Derived.Test.YtjdnmblggdobgaaGreatJHrAHrC
set_option maxHeartbeats 1000000
set_option maxRecDepth 100000
namespace Go.Proofs.YtjdnmblggdobgaaGreat
open Go.RowKit Go.Maps
def qCells (first:Array Value) (qs:List QD):List Value:=qs.flatMap fun q=>[.func (.func q.g) first #[],.int .i64 q.e]
theorem qsSL (w:World) (t:Nat) (first:Array Value) (A:List QD) (I:A.length<=1000):SL 2 (RQ first) (· <w.heap.size+1) (w.alloc (.cells (qCells first A).toArray t)) (.slice (some ⟨w.heap.size,0,none⟩) A.length A.length) A:=by
 refine ⟨_,A.length,rfl,nlq _,by unfold maxLen;omega,fun k F=>?_⟩;refine ⟨w.heap.size,0,[.func (.func A[k].g) first #[],.int .i64 A[k].e],rfl,Nat.lt_succ_self _,by simp,rfl,fun j E=>?_,rfl⟩;have D:=ze3 (n:=2) (fun q:QD=>[Value.func (.func q.g) first #[],.int .i64 q.e]) A k j (fun _ _=>rfl) F E;obtain ⟨x,G⟩:∃x,[Value.func (.func A[k].g) first #[],.int .i64 A[k].e][j]? =some x:=by
  match j,E with
  | 0,_=>exact ⟨_,rfl⟩
  | 1,_=>exact ⟨_,rfl⟩
 rw [G]at D ⊢;rw [Nat.zero_add];exact aw (heap_alloc_new w _) _ (by simpa [qCells]using D)
def i1 (h:bb):List QD:=[⟨106,3,jd h⟩,⟨107,1,i2 h⟩,⟨108,3,ju h⟩]
def jf (d:bd) (h:bb) (ts:List bp):List QD:=[⟨110,3,!ts.any (i4 h)⟩,⟨111,6,decide ((ts.map bp.hash).Nodup)⟩,⟨112,5,!ts.any fun x=>gc d.fields h.ab x fun n=>!dh ts n⟩,⟨113,1,!(jq h).any (· != 0)⟩,⟨114,4,lu h.am⟩,⟨115,4,!h.am.any (ga d h ts)⟩,⟨116,4,!ts.any (iq d h)⟩]
theorem zk2 (h:bb):dr (i1 h)=if jd h then (if i2 h then (if ju h then 0 else 3) else 1) else 3:=by unfold i1;simp only [dr]
theorem zk3 (d:bd) (h:bb) (ts:List bp):dr (jf d h ts)=jo d h ts:=by unfold jf jo;simp only [dr];cases ts.any (i4 h)<;>cases decide ((ts.map bp.hash).Nodup)<;>cases (ts.any fun x=>gc d.fields h.ab x fun n=>!dh ts n)<;>cases (jq h).any (· != 0)<;>cases lu h.am<;>cases h.am.any (ga d h ts)<;>cases ts.any (iq d h)<;>rfl
theorem zk4 (h:bb):∀q∈i1 h,∀args w,(callFunc q.g args).run Tryz.prog w=.ok (.enter q.g args) w:=by intro q A args w;simp [i1]at A;rcases A with rfl | rfl | rfl<;>kernel_rfl
theorem zk5 (h:bb):∀q∈i1 h,q.e≠0:=by intro q A;simp [i1]at A;rcases A with rfl | rfl | rfl<;>simp
theorem zk6 (d:bd) (h:bb) (ts:List bp):∀q∈jf d h ts,∀args w,(callFunc q.g args).run Tryz.prog w=.ok (.enter q.g args) w:=by intro q A args w;simp only [jf,List.mem_cons,List.not_mem_nil,or_false]at A;rcases A with rfl | rfl | rfl | rfl | rfl | rfl | rfl<;>kernel_rfl
theorem zk7 (d:bd) (h:bb) (ts:List bp):∀q∈jf d h ts,q.e≠0:=by intro q A;simp only [jf,List.mem_cons,List.not_mem_nil,or_false]at A;rcases A with rfl | rfl | rfl | rfl | rfl | rfl | rfl<;>simp
theorem zk8 (w:World) (F:Option Addr) (G:Nat) (E:Value) (h:bb) (k:Nat) (I:k<(i1 h).length) (A:∀(j:Nat) (hj:j<(i1 h).length),j<k->(i1 h)[j].ans=true):
 Calls Tryz.prog (i1 h)[k].g #[.agg #[.slice F h.ab.length G,.int .i64 h.ag,.int .i64 h.old,.int .i64 h.be,.int .i64 h.ar,E,.int .i64 h.next]] w fun r w'=>r=.returned (.bool (i1 h)[k].ans)/\Below w.heap.size w w':=by
 have D:0<k->(3<=h.ag/\h.ag<=2000)/\(3<=h.old/\h.old<=2000):=fun h0=>by have:=A 0 (by simp [i1]) h0;simp only [i1,p5q,jd,ie,Bool.and_eq_true,decide_eq_true_eq]at this;exact ⟨⟨by omega,by omega⟩,⟨by omega,by omega⟩⟩
 match k,I with
 | 0,_=>exact zib w _ E h
 | 1,_=>exact zic w F G E h (D (by omega)).1 (D (by omega)).2
 | 2,_=>exact zid w _ E h (D (by omega)).1 (D (by omega)).2
theorem zk9 (w:World) (X B:Nat) (vW vO W kS Y Z kT D:Value) (h:bb) (d:bd) (ts:List bp) (hc:mc X B w vW vO W kS Y Z kT D h d ts) (V:jy d h) (E:Lain d h ts) (F:∀t∈ts,(Lit.int .i64 t.hash).wf=true) (G:∀x∈h.am,(Lit.int .i64 x).wf=true) (k:Nat) (N:k<(jf d h ts).length) (A:∀(j:Nat) (hj:j<(jf d h ts).length),j<k->(jf d h ts)[j].ans=true):
 Calls Tryz.prog (jf d h ts)[k].g #[.agg #[.pointer (some ⟨X+1,0,none⟩)]] w fun r w'=>r=.returned (.bool (jf d h ts)[k].ans)/\Below w.heap.size w w':=by
 match k,N with
 | 0,_=>exact zh5 w X B _ _ _ _ _ _ _ D h d ts hc E.len
 | 1,_=>exact zik w X B _ _ _ _ _ _ _ D h d ts hc E.len F
 | 2,_=>exact zh8 w X B _ _ _ _ _ _ _ D h d ts hc E
 | 3,_=>exact ziy w X B _ _ _ _ _ _ _ D h d ts hc V
 | 4,_=>
   refine (zia w X B _ _ _ _ _ _ _ D h d ts hc).mono ?_;rintro r w' ⟨⟨b,rfl,L⟩,O⟩;refine ⟨?_,O⟩;have:b=lu h.am:=by rw [Bool.eq_iff_iff,L,zkj]
   rw [this];rfl
 | 5,_=>exact zig w X B _ _ _ _ _ _ _ D h d ts hc E G
 | 6,_=>
   have I:lu h.am=true:=A 4 (by simp [jf]) (by omega);have J:(!h.am.any (ga d h ts))=true:=A 5 (by simp [jf]) (by omega);exact zio w X B _ _ _ _ _ _ _ D h d ts hc E (zks E I (by simpa using J)) ((zkj _).1 I)
theorem zla {h:bb} (hc:dr (i1 h)=0):jd h=true/\i2 h=true/\ju h=true:=by rw [zk2]at hc;cases h1:jd h<;>cases h2:i2 h<;>cases h3:ju h<;>simp_all
theorem zlb {d:bd} {h:bb} (hc:dr (i1 h)≠0):kj d h=dr (i1 h):=by rw [zk2]at hc ⊢;unfold kj;cases h1:jd h<;>cases h2:i2 h<;>cases h3:ju h<;>simp_all
theorem mc.grown {X B b:Nat} {w w':World} {O N E I F G J L:Value} {h:bb} {d:bd} {ts:List bp} (c:mc X B w O N E I F G J L h d ts) (A:w.grownBy w' (some b)) (h1:B<=b) (W:b<X):mc X B w' O N E I F G J L h d ts:=
 have D:Kp (· <B) w w':=⟨A.size,fun k D V=>A.block k V (by intro e;injection e;omega)⟩
 ⟨c.le,(A.block (X+1) (bk c.blk) (by intro e;injection e;omega)).trans c.blk,c.sW.keptI D,c.sO.keptI D,c.lk.kept D,c.row.kept A (Or.inr fun e=>by have:=(c.row.lt b e).1;omega),c.pl.kept A (by intro e;injection e;omega)⟩
def HeapOut (w:World) (B:Nat) (vW vO kC kS kF kN kT:Value) (h:bb) (d:bd) (r:Ending) (w':World):Prop:=
 (bq d h=0/\∃X vA ts,r=.returned (.agg #[.pointer (some ⟨X+1,0,none⟩)])/\im d h=some ts/\w.heap.size<=X/\mc X B w' vW vO kC kS kF kN kT vA h d ts)\/(bq d h≠0/\r=.panicked [wrongV (bq d h) 0])
theorem zlc (w:World) (B:Nat) (vW vO kC kS kF kN kT:Value) (h:bb) (d:bd) (sW:SL 1 RI (· <B) w vW h.ab) (sO:SL 1 RI (· <B) w vO h.am) (lk:j9 (· <B) w kC kS kF kN kT d) (hB:B<=w.heap.size)
 (cf:∀x∈h.ab,(Lit.int .i64 x).wf=true) (ce:∀x∈h.am,(Lit.int .i64 x).wf=true):
 Calls Tryz.prog 53 #[.agg #[vW,.int .i64 h.ag,.int .i64 h.old,.int .i64 h.be,.int .i64 h.ar,vO,.int .i64 h.next],.agg #[kC,kS,kF,kN,kT]] w fun r w'=>Below w.heap.size w w'/\HeapOut w B vW vO kC kS kF kN kT h d r w':=by
 have dk:=mm Tryz.prog;obtain ⟨W0,O⟩:∃W0,W0=(((w.alloc (.cells #[vW,.int .i64 h.ag,.int .i64 h.old,.int .i64 h.be,.int .i64 h.ar,vO,.int .i64 h.next] 24)).alloc (.cells #[kC,kS,kF,kN,kT] 36)).alloc (.cells #[.pointer none] 88)):=⟨_,rfl⟩;have b5:Below w.heap.size w W0:=O ▸ (((br _ _).alloc (nlq _) _).alloc (by simp) _).alloc (by simp;omega) _;have cc:W0.heap.size=w.heap.size+3:=by rw [O];simp
 have bf:Rd w.heap.size B W0 vW vO kC kS kF kN kT h d:=O ▸ (Rd.new w B _ _ _ _ _ _ _ h d hB sW sO lk).below ((br _ _).alloc (nlq _) _);have I:W0.heap[w.heap.size+2]? =some (.cells #[.pointer none] 88 (0,0)):=by have:=heap_alloc_new ((w.alloc (.cells #[vW,.int .i64 h.ag,.int .i64 h.old,.int .i64 h.be,.int .i64 h.ar,vO,.int .i64 h.next] 24)).alloc (.cells #[kC,kS,kF,kN,kT] 36)) (.cells #[.pointer none] 88);rw [<-O]at this;simpa using this
 have L:=ae (zku W0 B kC kS kF kN kT d bf.lk (by omega));have bw:=ae bf;have J:=ae b5;have bl:=ae I;have a3:=ae O;have bz:=ae (And.intro cf ce);have cm:=ae cc;obtain ⟨aC,cC,aS,cS,aF,cF,aN,cN,aT,cT,rfl,rfl,rfl,rfl,rfl⟩:=lk.agg;obtain ⟨aW,cW,rfl,-⟩:=sW;obtain ⟨aO,cO,rfl,-⟩:=sO;clear I b5 bf O lk cf ce cc;rw [a3.o]at L;cases hok:nh d with
 | false=>
   have a8:gn d []=4:=by unfold gn;rw [hok];rfl
   have HR:Hid (bq d h=4):=by show bq d h=4;unfold bq;rw [hok];rfl
   rw [a8]at L;go_enter Tryz.func53,Tryz.ntmps53;go_wp2_with fail;refine L.o.mono ?_;rintro r w1 ⟨rfl,G⟩;go_wp2_with fail;refine (ll _ _ _).mono ?_;rintro r w3 ⟨rfl,⟨W,rfl⟩ | ⟨W,rfl⟩⟩
   ·rw [<-a3.o]at G;exact ⟨rfl,J.o.trans (G.mono J.o.size),Or.inr ⟨by rw [HR.o];decide,by rw [HR.o]⟩⟩
   exact absurd W (by simp)
 | true=>
   have a8:gn d []=0:=by unfold gn;rw [hok];rfl
   have HE:Hid (bq d h=kj d h):=by show bq d h=_;unfold bq;rw [hok];rfl
   have bo:=ae (zki hok);rw [a8]at L;go_enter Tryz.func53,Tryz.ntmps53;go_wp2_with fail;refine L.o.mono ?_;rintro r w1 ⟨rfl,G⟩;rw [<-a3.o]at G;have ai:=ae G;have D:=bw.o.below G;have ct:=G.size;have l0:=bk D.b0;have x0:=aw D.b0 0 (x:=.slice aW h.ab.length cW) rfl;have x1:=aw D.b0 1 (x:=.int .i64 h.ag) rfl;have x2:=aw D.b0 2 (x:=.int .i64 h.old) rfl;have x3:=aw D.b0 3 (x:=.int .i64 h.be) rfl;have x4:=aw D.b0 4 (x:=.int .i64 h.ar) rfl;have x5:=aw D.b0 5 (x:=.slice aO h.am.length cO) rfl;have x6:=aw D.b0 6 (x:=.int .i64 h.next) rfl;have cl:=ae D;obtain ⟨W2,al⟩:∃W2,W2=w1.alloc (.cells #[.slice aW h.ab.length cW,.int .i64 h.ag,.int .i64 h.old,.int .i64 h.be,.int .i64 h.ar,.slice aO h.am.length cO,.int .i64 h.next] 167):=⟨_,rfl⟩;have b4:Below w1.heap.size w1 W2:=al ▸ (br _ _).alloc (nlq _) _;have a4:=ae al;have av:=ae b4;have ao:W2.heap.size=w1.heap.size+1:=by rw [al];simp
   have HQ:Hid (SL 2 (RQ #[.agg #[.slice aW h.ab.length cW,.int .i64 h.ag,.int .i64 h.old,.int .i64 h.be,.int .i64 h.ar,.slice aO h.am.length cO,.int .i64 h.next]]) (· <w1.heap.size+1+1) (W2.alloc (.cells #[.func (.func 106) #[.agg #[.slice aW h.ab.length cW,.int .i64 h.ag,.int .i64 h.old,.int .i64 h.be,.int .i64 h.ar,.slice aO h.am.length cO,.int .i64 h.next]] #[],.int .i64 3,.func (.func 107) #[.agg #[.slice aW h.ab.length cW,.int .i64 h.ag,.int .i64 h.old,.int .i64 h.be,.int .i64 h.ar,.slice aO h.am.length cO,.int .i64 h.next]] #[],.int .i64 1,.func (.func 108) #[.agg #[.slice aW h.ab.length cW,.int .i64 h.ag,.int .i64 h.old,.int .i64 h.be,.int .i64 h.ar,.slice aO h.am.length cO,.int .i64 h.next]] #[],.int .i64 3] 170)) (.slice (some ⟨w1.heap.size+1,0,none⟩) 3 3) (i1 h)):=by rw [<-ao];exact qsSL W2 170 #[.agg #[.slice aW h.ab.length cW,.int .i64 h.ag,.int .i64 h.old,.int .i64 h.be,.int .i64 h.ar,.slice aO h.am.length cO,.int .i64 h.next]] (i1 h) (by simp [i1])
   have ay:=ae (fun o=>(br W2.heap.size W2).alloc (nlq _) o);clear D G b4 L ao;go_wp2_with fail;refine (ll _ _ _).mono ?_;rintro r w3 ⟨rfl,⟨W,rfl⟩ | ⟨W,rfl⟩⟩
   ·exact absurd W (by simp)
   clear W;go_wp2_with fail;rw [<-a4.o];refine (zjf _ (w3.heap.size+1+1) _ _ (i1 h) HQ.o (by rw [a4.o];simp) (zk4 h) (zk5 h) ?_).mono ?_
   ·intro k hk af V hV;exact zk8 V aW cW _ h k hk af
   have a0:Hid (∀(V:World) (o:Obj),Below (W2.alloc o).heap.size (W2.alloc o) V->Below w3.heap.size w3 V):=fun V o hV=>av.o.trans (((ay.o o).trans (hV.mono (ay.o o).size)).mono av.o.size);rintro r w4 ⟨⟨hc,rfl⟩ | ⟨hc,rfl⟩,a6⟩
   ·have E:=a0.o _ _ a6;have b7:=zlb (d:=d) hc;exact ⟨rfl,J.o.trans ((ai.o.trans (E.mono ai.o.size)).mono J.o.size),Or.inr ⟨by rw [HE.o,b7];exact hc,by rw [HE.o,b7]⟩⟩
   have E:=a0.o _ _ a6;obtain ⟨a9,ba,bc⟩:=zla hc;have HZ:=ae (zkk bo.o a9 ba bc);have bs:Hid (bq d h=match im d h with | none=>1 | some ts=>jo d h ts):=by show bq d h=_;rw [HE.o];unfold kj;rw [a9,ba,bc];rfl
   have A:=cl.o.below E;have da:=ae A;have aa:Hid (Below W0.heap.size W0 w4):=ai.o.trans (E.mono ai.o.size);have bn:=ae (zho w4 B _ _ _ _ _ _ _ h d (by have:=A.le;have:=bk A.b0;omega) A.sW A.sO A.lk HZ.o);have cu:=bk A.b0;have cx:=aw A.b0 0 (x:=.slice aW h.ab.length cW) rfl;have cy:=aw A.b0 1 (x:=.int .i64 h.ag) rfl;have c0:=aw A.b0 2 (x:=.int .i64 h.old) rfl;have c1:=aw A.b0 3 (x:=.int .i64 h.be) rfl;have c2:=aw A.b0 4 (x:=.int .i64 h.ar) rfl;have c3:=aw A.b0 5 (x:=.slice aO h.am.length cO) rfl;have c4:=aw A.b0 6 (x:=.int .i64 h.next) rfl;have cv:=bk A.b1;have c5:=aw A.b1 0 (x:=.slice aC d.aj.length cC) rfl;have c6:=aw A.b1 1 (x:=.slice aS d.ax.length cS) rfl;have c7:=aw A.b1 2 (x:=.slice aF d.fields.length cF) rfl;have c8:=aw A.b1 3 (x:=.slice aN d.names.length cN) rfl;have c9:=aw A.b1 4 (x:=.slice aT d.aq.length cT) rfl;clear A a6 E hc a9 ba bc HQ ay av a0 a4 al x0 x1 x2 x3 x4 x5 x6 l0 ct;go_wp2_with fail;refine bn.o.mono ?_;rintro r Z ⟨E,cs⟩;have ac:Hid (Below W0.heap.size W0 Z):=aa.o.trans (E.mono aa.o.size);have F:Hid (Below w.heap.size w Z):=J.o.trans (ac.o.mono J.o.size);have dl:=E.size;clear E cx cy c0 c1 c2 c3 c4 c5 c6 c7 c8 c9 cu cv bn;rcases cs with ⟨ts,vA,ah,rfl,an⟩ | ⟨ca,rfl⟩
   ·have a2:Hid (bq d h=dr (jf d h ts)):=by show bq d h=_;rw [bs.o,ah,zk3]
    have HL:=ae (zkq bo.o HZ.o bz.o.1 ah);have co:=ae ah;have a1:=ae an;have cp:Hid (∀t∈ts,(Lit.int .i64 t.hash).wf=true):=fun t ht=>by
     obtain ⟨ys,os,e1,e2,rfl⟩:=zko ah;have e:t=bj h.ab t.loc:=by
      rcases List.mem_append.1 ht with ht | ht
      ·exact (zkn e1 t ht).2.2.1
      exact (zkn e2 t ht).2.2.1
     rw [e];exact HL.o.wdf _
    obtain ⟨X,hX⟩:∃X,X=w4.heap.size+1+1:=⟨_,rfl⟩;have dg:w.heap.size+3<=X:=by have:=aa.o.size;have:=cm.o;omega
    rw [<-hX]at a1 ⊢;clear an ah hX;obtain ⟨N,ad⟩:∃N,N=Z.alloc (.cells #[.pointer (some ⟨X+1,0,none⟩)] 88):=⟨_,rfl⟩;have bi:Hid (Below Z.heap.size Z N):=ad ▸ (br _ _).alloc (nlq _) _;have bx:=ae ad;have b2:N.heap[Z.heap.size]? =some (.cells #[.pointer (some ⟨X+1,0,none⟩)] 88 (0,0)):=ad ▸ heap_alloc_new Z _;have au:N.heap.size=Z.heap.size+1:=by rw [ad];simp
    have bu:Hid (SL 2 (RQ #[.agg #[.pointer (some ⟨X+1,0,none⟩)]]) (· <Z.heap.size+1+1) (N.alloc (.cells #[.func (.func 110) #[.agg #[.pointer (some ⟨X+1,0,none⟩)]] #[],.int .i64 3,.func (.func 111) #[.agg #[.pointer (some ⟨X+1,0,none⟩)]] #[],.int .i64 6,.func (.func 112) #[.agg #[.pointer (some ⟨X+1,0,none⟩)]] #[],.int .i64 5,.func (.func 113) #[.agg #[.pointer (some ⟨X+1,0,none⟩)]] #[],.int .i64 1,.func (.func 114) #[.agg #[.pointer (some ⟨X+1,0,none⟩)]] #[],.int .i64 4,.func (.func 115) #[.agg #[.pointer (some ⟨X+1,0,none⟩)]] #[],.int .i64 4,.func (.func 116) #[.agg #[.pointer (some ⟨X+1,0,none⟩)]] #[],.int .i64 4] 170)) (.slice (some ⟨Z.heap.size+1,0,none⟩) 7 7) (jf d h ts)):=by rw [<-au];exact qsSL N 170 #[.agg #[.pointer (some ⟨X+1,0,none⟩)]] (jf d h ts) (by simp [jf])
    have az:=ae (fun o=>(br N.heap.size N).alloc (nlq _) o);have bh:=ae b2;have ak:Hid (∀(V:World) (o:Obj),Below (N.alloc o).heap.size (N.alloc o) V->Below Z.heap.size Z V/\V.heap[Z.heap.size]? =some (.cells #[.pointer (some ⟨X+1,0,none⟩)] 88 (0,0))):=fun V o hV=>by have b3:Below N.heap.size N V:=(az.o o).trans (hV.mono (az.o o).size);exact ⟨bi.o.trans (b3.mono bi.o.size),(b3.block _ (bk bh.o)).trans bh.o⟩
    clear ad b2 au;go_wp2_with fail;refine (ll _ _ _).mono ?_;rintro r w7 ⟨rfl,⟨W,rfl⟩ | ⟨W,rfl⟩⟩
    ·exact absurd W (by simp)
    clear W;go_wp2_with fail;rw [<-bx.o];refine (zjf _ (w7.heap.size+1+1) _ _ (jf d h ts) bu.o (by rw [bx.o];simp) (zk6 d h ts) (zk7 d h ts) ?_).mono ?_
    ·intro k hk af V hV;exact zk9 V X B _ _ _ _ _ _ _ vA h d ts (a1.o.below (ak.o _ _ hV).1) HZ.o HL.o cp.o bz.o.2 k hk af
    rintro r w8 ⟨⟨hc,rfl⟩ | ⟨hc,rfl⟩,a7⟩
    ·have Y:=(ak.o _ _ a7).1;exact ⟨rfl,F.o.trans (Y.mono F.o.size),Or.inr ⟨by rw [a2.o];exact hc,by rw [a2.o]⟩⟩
    obtain ⟨Y,a5⟩:=ak.o _ _ a7;have b6:Below w.heap.size w w8:=F.o.trans (Y.mono F.o.size);have I:w8.heap[w.heap.size+2]? =some (.cells #[.pointer none] 88 (0,0)):=((ac.o.trans (Y.mono ac.o.size)).block (w.heap.size+2) (bk bl.o)).trans bl.o;have dd:=aw a5 0 (x:=.pointer (some ⟨X+1,0,none⟩)) rfl;have ds:=bk a5;have cr:=aw I 0 (x:=.pointer none) rfl;have dz:=lj I 0;have du:=bk I;have ci:=ae (a1.o.below Y);have bm:Hid (bq d h=0):=a2.o.trans hc;have hg:=mf (World.grownBy.refl w8 (some (w.heap.size+2))) ⟨w.heap.size+2,0,none⟩ (.pointer (some ⟨X+1,0,none⟩)) (Or.inl rfl);have cj:=ae (ci.o.grown hg (by have:=bw.o.le;omega) (by omega));have ch:=ae (me b6 hg (by omega));have cn:=ae (World.cell?_setCell_same w8 ⟨w.heap.size+2,0,none⟩ (.pointer (some ⟨X+1,0,none⟩)) cr);clear a7 Y a5 b6 I hc hg bu az ak;go_wp2_with fail;exact bodyPost_ret (v:=.agg #[.pointer (some ⟨X+1,0,none⟩)]) (by simp [results,Tryz.results53,go_sem,cn.o]) rfl ⟨ch.o,Or.inl ⟨bm.o,X,vA,ts,rfl,co.o,by omega,cj.o⟩⟩
   have HR:Hid (bq d h=1):=by show bq d h=1;rw [bs.o,ca]
   clear ca;go_wp2_with fail;refine (ll _ _ _).mono ?_;rintro r w7 ⟨rfl,⟨W,rfl⟩ | ⟨W,rfl⟩⟩
   ·exact ⟨rfl,F.o,Or.inr ⟨by rw [HR.o];decide,by rw [HR.o]⟩⟩
   exact absurd W (by simp)
structure Hd (B:Nat) (w:World) (vW vO kC kS kF kN kT:Value) (h:bb) (d:bd):Prop where
 sW:SL 1 RI (· <B) w vW h.ab
 sO:SL 1 RI (· <B) w vO h.am
 lk:j9 (· <B) w kC kS kF kN kT d
 le:B<=w.heap.size
 ww:∀x∈h.ab,(Lit.int .i64 x).wf=true
 wn:∀x∈h.am,(Lit.int .i64 x).wf=true
theorem Hd.below {B:Nat} {w w':World} {N L E I F G J:Value} {h:bb} {d:bd} (g:Hd B w N L E I F G J h d) (D:Below B w w'):Hd B w' N L E I F G J h d:=
 have A:=Kp.below D
 ⟨g.sW.keptI A,g.sO.keptI A,g.lk.kept A,lt3 g.le D.size,g.ww,g.wn⟩
theorem Hd.agg {B:Nat} {w:World} {vW vO Z kS kF kN kT:Value} {h:bb} {d:bd} (g:Hd B w vW vO Z kS kF kN kT h d):∃J Y F V A L G W D N E O I X,vW=.slice J h.ab.length Y/\vO=.slice F h.am.length V/\Z=.slice A d.aj.length L/\kS=.slice G d.ax.length W/\kF=.slice D d.fields.length N/\kN=.slice E d.names.length O/\kT=.slice I d.aq.length X:=by obtain ⟨A,L,G,W,D,N,E,O,I,X,e1,e2,e3,e4,e5⟩:=g.lk.agg;obtain ⟨J,Y,e6,-⟩:=g.sW;obtain ⟨F,V,e7,-⟩:=g.sO;exact ⟨_,_,_,_,_,_,_,_,_,_,_,_,_,_,e6,e7,e1,e2,e3,e4,e5⟩
theorem zld {B:Nat} {w:World} {J I A F D E G:Value} {h:bb} {d:bd} (g:Hd B w J I A F D E G h d):
 Calls Tryz.prog 53 #[.agg #[J,.int .i64 h.ag,.int .i64 h.old,.int .i64 h.be,.int .i64 h.ar,I,.int .i64 h.next],.agg #[A,F,D,E,G]] w fun r w'=>Below w.heap.size w w'/\HeapOut w B J I A F D E G h d r w':=zlc w B _ _ _ _ _ _ _ h d g.sW g.sO g.lk g.le g.ww g.wn
theorem zle (w:World) (B P Q:Nat) (V O G L I J N:Value) (h:bb) (d:bd) (g:Hd B w V O G L I J N h d) (A:w.heap[P]? =some (.cells #[V,.int .i64 h.ag,.int .i64 h.old,.int .i64 h.be,.int .i64 h.ar,O,.int .i64 h.next] 24 (0,0))) (D:w.heap[Q]? =some (.cells #[G,L,I,J,N] 36 (0,0))):
 Calls Tryz.prog 52 #[.pointer (some ⟨P,0,none⟩),.pointer (some ⟨Q,0,none⟩)] w fun r w'=>lr (bq d h) r/\Below w.heap.size w w':=by
 have E:=ae (zld g);have aa:=bk A;have ac:=bk D;have Z:=aw A 0 (x:=V) rfl;have c1:=aw A 1 (x:=.int .i64 h.ag) rfl;have c2:=aw A 2 (x:=.int .i64 h.old) rfl;have c3:=aw A 3 (x:=.int .i64 h.be) rfl;have c4:=aw A 4 (x:=.int .i64 h.ar) rfl;have c5:=aw A 5 (x:=O) rfl;have c6:=aw A 6 (x:=.int .i64 h.next) rfl;have e0:=aw D 0 (x:=G) rfl;have e1:=aw D 1 (x:=L) rfl;have e2:=aw D 2 (x:=I) rfl;have e3:=aw D 3 (x:=J) rfl;have e4:=aw D 4 (x:=N) rfl;obtain ⟨aW,cW,aO,cO,aC,cC,aS,cS,aF,cF,aN,cN,aT,cT,rfl,rfl,rfl,rfl,rfl,rfl,rfl⟩:=g.agg;clear g A D;go_enter Tryz.func52,Tryz.ntmps52;go_wp2_with fail;refine E.o.mono ?_;rintro r w1 ⟨F,⟨h0,X,vA,ts,rfl,-⟩ | ⟨h0,rfl⟩⟩
 ·have Y:=ae h0;have W:=ae F;clear h0 F Z c1 c2 c3 c4 c5 c6 e0 e1 e2 e3 e4;go_wp2_with fail;go_end0;exact ⟨Or.inr ⟨Y.o,rfl⟩,W.o⟩
 exact ⟨rfl,Or.inl ⟨h0,rfl⟩,F⟩
theorem callHCheck1 (args:Array Value) (w:World):(callFunc 52 args).run Tryz.prog w=.ok (.enter 52 args) w:=by kernel_rfl
theorem zlf (w:World) (B:Nat) (vW vO kC kS kF kN kT:Value) (h:bb) (d:bd) (g:Hd B w vW vO kC kS kF kN kT h d):
 Calls Tryz.prog 20 #[.agg #[vW,.int .i64 h.ag,.int .i64 h.old,.int .i64 h.be,.int .i64 h.ar,vO,.int .i64 h.next],.agg #[kC,kS,kF,kN,kT]] w fun r w'=>r=.returned (.int .i64 (bq d h))/\Below w.heap.size w w':=by
 have ai:=mm Tryz.prog;have HG:=ae g;obtain ⟨L,Z,G,W,D,N,I,X,E,O,F,V,J,Y,rfl,rfl,rfl,rfl,rfl,rfl,rfl⟩:=g.agg;clear g;have aa:=(br w.heap.size w).alloc (nlq _) (.cells #[.slice L h.ab.length Z,.int .i64 h.ag,.int .i64 h.old,.int .i64 h.be,.int .i64 h.ar,.slice G h.am.length W,.int .i64 h.next] 24);have ac:=aa.alloc aa.size (.cells #[.slice D d.aj.length N,.slice I d.ax.length X,.slice E d.fields.length O,.slice F d.names.length V,.slice J d.aq.length Y] 36);have A:=ac.alloc ac.size (.cells #[.int .i64 0,.int .i64 0] 84);have ak:(((w.alloc (.cells #[.slice L h.ab.length Z,.int .i64 h.ag,.int .i64 h.old,.int .i64 h.be,.int .i64 h.ar,.slice G h.am.length W,.int .i64 h.next] 24)).alloc (.cells #[.slice D d.aj.length N,.slice I d.ax.length X,.slice E d.fields.length O,.slice F d.names.length V,.slice J d.aq.length Y] 36)).alloc (.cells #[.int .i64 0,.int .i64 0] 84)).heap[w.heap.size]? =some (.cells #[.slice L h.ab.length Z,.int .i64 h.ag,.int .i64 h.old,.int .i64 h.be,.int .i64 h.ar,.slice G h.am.length W,.int .i64 h.next] 24 (0,0)):=(Below.heap_alloc _ _ _ (by simp;omega)).trans ((Below.heap_alloc _ _ _ (by simp)).trans (heap_alloc_new w _));have al:(((w.alloc (.cells #[.slice L h.ab.length Z,.int .i64 h.ag,.int .i64 h.old,.int .i64 h.be,.int .i64 h.ar,.slice G h.am.length W,.int .i64 h.next] 24)).alloc (.cells #[.slice D d.aj.length N,.slice I d.ax.length X,.slice E d.fields.length O,.slice F d.names.length V,.slice J d.aq.length Y] 36)).alloc (.cells #[.int .i64 0,.int .i64 0] 84)).heap[w.heap.size+1]? =some (.cells #[.slice D d.aj.length N,.slice I d.ax.length X,.slice E d.fields.length O,.slice F d.names.length V,.slice J d.aq.length Y] 36 (0,0)):=(Below.heap_alloc _ _ _ (by simp)).trans (by
  have:=heap_alloc_new (w.alloc (.cells #[.slice L h.ab.length Z,.int .i64 h.ag,.int .i64 h.old,.int .i64 h.be,.int .i64 h.ar,.slice G h.am.length W,.int .i64 h.next] 24)) (.cells #[.slice D d.aj.length N,.slice I d.ax.length X,.slice E d.fields.length O,.slice F d.names.length V,.slice J d.aq.length Y] 36);simpa using this)
 have ad:=ae ak;have af:=ae al;clear ak al;go_enter Tryz.func20,Tryz.ntmps20;go_wp2_with fail;refine (zb6 52 _ _ (fun w1=>bq d h=0/\Below w.heap.size w w1) (fun e p w1=>bq d h=e/\Below w.heap.size w w1) (callHCheck1 _) ?hc).mono ?_
 case hc=>
  refine (zle _ B w.heap.size (w.heap.size+1) _ _ _ _ _ _ _ h d (HG.o.below (A.mono HG.o.le)) ad.o af.o).mono ?_;rintro r w1 ⟨hr,hb⟩;have ah:=A.trans (hb.mono A.size);refine ⟨?_,?_⟩
  ·rw [hb.block ((w.alloc (.cells #[.slice L h.ab.length Z,.int .i64 h.ag,.int .i64 h.old,.int .i64 h.be,.int .i64 h.ar,.slice G h.am.length W,.int .i64 h.next] 24)).alloc (.cells #[.slice D d.aj.length N,.slice I d.ax.length X,.slice E d.fields.length O,.slice F d.names.length V,.slice J d.aq.length Y] 36)).heap.size (by simp)];exact heap_alloc_new _ _
  rcases hr with ⟨hc,rfl⟩ | ⟨hc,rfl⟩
  ·exact Or.inr ⟨_,_,rfl,rfl,ah⟩
  exact Or.inl ⟨rfl,hc,ah⟩
 rintro r w2 ⟨w1,hg,hr⟩;have hz:((w.alloc (.cells #[.slice L h.ab.length Z,.int .i64 h.ag,.int .i64 h.old,.int .i64 h.be,.int .i64 h.ar,.slice G h.am.length W,.int .i64 h.next] 24)).alloc (.cells #[.slice D d.aj.length N,.slice I d.ax.length X,.slice E d.fields.length O,.slice F d.names.length V,.slice J d.aq.length Y] 36)).heap.size=w.heap.size+2:=by simp
 rw [hz]at hg;clear aa ac A hz ad af;rcases hr with ⟨rfl,hc,hB⟩ | ⟨e,p,rfl,hc,hB⟩
 ·have HC:=ae hc;have HB:=ae (me hB hg (by omega));clear hc hg hB ai HG;have an:=my;go_wp2
  go_ret;exact ⟨by rw [HC.o];rfl,HB.o⟩
 have HC:=ae hc;have HB:=ae (me hB hg (by omega));clear hc hg hB ai HG;have an:=my;go_wp2
 go_ret;exact ⟨by rw [HC.o];rfl,HB.o⟩
end Go.Proofs.YtjdnmblggdobgaaGreat
