import Derived.Test.YtjdnmblggdobgaaGreatJTk2Dies
import Derived.Test.YtjdnmblggdobgaaGreatHqA
import Derived.Test.YtjdnmblggdobgaaGreatJLLkLBas
import Derived.Test.YtjdnmblggdobgaaGreatJHrAHrC
set_option maxHeartbeats 1000000
set_option maxRecDepth 100000
namespace Go.Proofs.YtjdnmblggdobgaaGreat
open Go.RowKit Go.Maps
def qCells (first:Array Value) (qs:List QD):List Value:=qs.flatMap fun q=>[.func (.func q.g) first #[],.int .i64 q.e]
theorem qsSL (w:World) (t:Nat) (first:Array Value) (u:List QD) (G:u.length<=1000):SL 2 (RQ first) (· <w.heap.size+1) (w.alloc (.cells (qCells first u).toArray t)) (.slice (some ⟨w.heap.size,0,none⟩) u.length u.length) u:=by
 refine ⟨_,u.length,rfl,nlq _,by unfold maxLen;omega,fun k E=>?_⟩;refine ⟨w.heap.size,0,[.func (.func u[k].g) first #[],.int .i64 u[k].e],rfl,Nat.lt_succ_self _,by simp,rfl,fun j D=>?_,rfl⟩;have A:=ze3 (n:=2) (fun q:QD=>[Value.func (.func q.g) first #[],.int .i64 q.e]) u k j (fun _ _=>rfl) E D;obtain ⟨x,F⟩:∃x,[Value.func (.func u[k].g) first #[],.int .i64 u[k].e][j]? =some x:=by
  match j,D with
  | 0,_=>exact ⟨_,rfl⟩
  | 1,_=>exact ⟨_,rfl⟩
 rw [F]at A ⊢;rw [Nat.zero_add];exact ba (heap_alloc_new w _) _ (by simpa [qCells]using A)
def jd (h:bd):List QD:=[⟨106,3,jg h⟩,⟨107,1,iv h⟩,⟨108,3,ju h⟩]
def jl (d:be) (h:bd) (ts:List bp):List QD:=[⟨110,3,!ts.any (iy h)⟩,⟨111,6,decide ((ts.map bp.hash).Nodup)⟩,⟨112,5,!ts.any fun x=>fq d.fields h.ab x fun n=>!cw ts n⟩,⟨113,1,!(kf h).any (· != 0)⟩,⟨114,4,nb h.ap⟩,⟨115,4,!h.ap.any (gi d h ts)⟩,⟨116,4,!ts.any (il d h)⟩]
theorem zk2 (h:bd):dv (jd h)=if jg h then (if iv h then (if ju h then 0 else 3) else 1) else 3:=by unfold jd;simp only [dv]
theorem zk3 (d:be) (h:bd) (ts:List bp):dv (jl d h ts)=jw d h ts:=by unfold jl jw;simp only [dv];cases ts.any (iy h)<;>cases decide ((ts.map bp.hash).Nodup)<;>cases (ts.any fun x=>fq d.fields h.ab x fun n=>!cw ts n)<;>cases (kf h).any (· != 0)<;>cases nb h.ap<;>cases h.ap.any (gi d h ts)<;>cases ts.any (il d h)<;>rfl
theorem zk4 (h:bd):∀q∈jd h,∀args w,(callFunc q.g args).run Tryz.prog w=.ok (.enter q.g args) w:=by intro q u args w;simp [jd]at u;rcases u with rfl | rfl | rfl<;>kernel_rfl
theorem zk5 (h:bd):∀q∈jd h,q.e≠0:=by intro q u;simp [jd]at u;rcases u with rfl | rfl | rfl<;>simp
theorem zk6 (d:be) (h:bd) (ts:List bp):∀q∈jl d h ts,∀args w,(callFunc q.g args).run Tryz.prog w=.ok (.enter q.g args) w:=by intro q u args w;simp only [jl,List.mem_cons,List.not_mem_nil,or_false]at u;rcases u with rfl | rfl | rfl | rfl | rfl | rfl | rfl<;>kernel_rfl
theorem zk7 (d:be) (h:bd) (ts:List bp):∀q∈jl d h ts,q.e≠0:=by intro q u;simp only [jl,List.mem_cons,List.not_mem_nil,or_false]at u;rcases u with rfl | rfl | rfl | rfl | rfl | rfl | rfl<;>simp
theorem zk8 (w:World) (E:Option Addr) (F:Nat) (D:Value) (h:bd) (k:Nat) (G:k<(jd h).length) (u:∀(j:Nat) (hj:j<(jd h).length),j<k->(jd h)[j].ans=true):
 Calls Tryz.prog (jd h)[k].g #[.agg #[.slice E h.ab.length F,.int .i64 h.ae,.int .i64 h.old,.int .i64 h.bg,.int .i64 h.bk,D,.int .i64 h.next]] w fun r w'=>r=.returned (.bool (jd h)[k].ans)/\Below w.heap.size w w':=by
 have A:0<k->(3<=h.ae/\h.ae<=2000)/\(3<=h.old/\h.old<=2000):=fun h0=>by have:=u 0 (by simp [jd]) h0;simp only [jd,p5q,jg,ij,Bool.and_eq_true,decide_eq_true_eq]at this;exact ⟨⟨by omega,by omega⟩,⟨by omega,by omega⟩⟩
 match k,G with
 | 0,_=>exact zib w _ D h
 | 1,_=>exact zic w E F D h (A (by omega)).1 (A (by omega)).2
 | 2,_=>exact zid w _ D h (A (by omega)).1 (A (by omega)).2
theorem zk9 (w:World) (X B:Nat) (vW vO V Z W Y kT A:Value) (h:bd) (d:be) (ts:List bp) (hc:oo X B w vW vO V Z W Y kT A h d ts) (O:mf d h) (D:Lain d h ts) (E:∀t∈ts,(Lit.int .i64 t.hash).wf=true) (F:∀x∈h.ap,(Lit.int .i64 x).wf=true) (k:Nat) (L:k<(jl d h ts).length) (u:∀(j:Nat) (hj:j<(jl d h ts).length),j<k->(jl d h ts)[j].ans=true):
 Calls Tryz.prog (jl d h ts)[k].g #[.agg #[.pointer (some ⟨X+1,0,none⟩)]] w fun r w'=>r=.returned (.bool (jl d h ts)[k].ans)/\Below w.heap.size w w':=by
 match k,L with
 | 0,_=>exact zh5 w X B _ _ _ _ _ _ _ A h d ts hc D.len
 | 1,_=>exact zik w X B _ _ _ _ _ _ _ A h d ts hc D.len E
 | 2,_=>exact zh8 w X B _ _ _ _ _ _ _ A h d ts hc D
 | 3,_=>exact ziy w X B _ _ _ _ _ _ _ A h d ts hc O
 | 4,_=>
   refine (zia w X B _ _ _ _ _ _ _ A h d ts hc).mono ?_;rintro r w' ⟨⟨b,rfl,J⟩,N⟩;refine ⟨?_,N⟩;have:b=nb h.ap:=by rw [Bool.eq_iff_iff,J,zkj]
   rw [this];rfl
 | 5,_=>exact zig w X B _ _ _ _ _ _ _ A h d ts hc D F
 | 6,_=>
   have G:nb h.ap=true:=u 4 (by simp [jl]) (by omega);have I:(!h.ap.any (gi d h ts))=true:=u 5 (by simp [jl]) (by omega);exact zio w X B _ _ _ _ _ _ _ A h d ts hc D (zks D G (by simpa using I)) ((zkj _).1 G)
theorem zla {h:bd} (hc:dv (jd h)=0):jg h=true/\iv h=true/\ju h=true:=by rw [zk2]at hc;cases h1:jg h<;>cases h2:iv h<;>cases h3:ju h<;>simp_all
theorem zlb {d:be} {h:bd} (hc:dv (jd h)≠0):lq d h=dv (jd h):=by rw [zk2]at hc ⊢;unfold lq;cases h1:jg h<;>cases h2:iv h<;>cases h3:ju h<;>simp_all
theorem oo.grown {X B b:Nat} {w w':World} {N L D G E F I J:Value} {h:bd} {d:be} {ts:List bp} (c:oo X B w N L D G E F I J h d ts) (u:w.grownBy w' (some b)) (h1:B<=b) (V:b<X):oo X B w' N L D G E F I J h d ts:=
 have A:Kp (· <B) w w':=⟨u.size,fun k A O=>u.block k O (by intro e;injection e;omega)⟩
 ⟨c.le,(u.block (X+1) (bz c.blk) (by intro e;injection e;omega)).trans c.blk,c.sW.keptI A,c.sO.keptI A,c.lk.kept A,c.row.kept u (Or.inr fun e=>by have:=(c.row.lt b e).1;omega),c.pl.kept u (by intro e;injection e;omega)⟩
def HeapOut (w:World) (B:Nat) (vW vO kC kS kF kN kT:Value) (h:bd) (d:be) (r:Ending) (w':World):Prop:=
 (dm d h=0/\∃X vA ts,r=.returned (.agg #[.pointer (some ⟨X+1,0,none⟩)])/\im d h=some ts/\w.heap.size<=X/\oo X B w' vW vO kC kS kF kN kT vA h d ts)\/(dm d h≠0/\r=.panicked [wrongV (dm d h) 0])
theorem zlc (w:World) (B:Nat) (vW vO kC kS kF kN kT:Value) (h:bd) (d:be) (sW:SL 1 RI (· <B) w vW h.ab) (sO:SL 1 RI (· <B) w vO h.ap) (lk:ma (· <B) w kC kS kF kN kT d) (hB:B<=w.heap.size)
 (ce:∀x∈h.ab,(Lit.int .i64 x).wf=true) (cc:∀x∈h.ap,(Lit.int .i64 x).wf=true):
 Calls Tryz.prog 53 #[.agg #[vW,.int .i64 h.ae,.int .i64 h.old,.int .i64 h.bg,.int .i64 h.bk,vO,.int .i64 h.next],.agg #[kC,kS,kF,kN,kT]] w fun r w'=>Below w.heap.size w w'/\HeapOut w B vW vO kC kS kF kN kT h d r w':=by
 have df:=np Tryz.prog;obtain ⟨W0,N⟩:∃W0,W0=(((w.alloc (.cells #[vW,.int .i64 h.ae,.int .i64 h.old,.int .i64 h.bg,.int .i64 h.bk,vO,.int .i64 h.next] 24)).alloc (.cells #[kC,kS,kF,kN,kT] 36)).alloc (.cells #[.pointer none] 88)):=⟨_,rfl⟩;have b4:Below w.heap.size w W0:=N ▸ (((br _ _).alloc (nlq _) _).alloc (by simp) _).alloc (by simp;omega) _;have ca:W0.heap.size=w.heap.size+3:=by rw [N];simp
 have a9:Rd w.heap.size B W0 vW vO kC kS kF kN kT h d:=N ▸ (Rd.new w B _ _ _ _ _ _ _ h d hB sW sO lk).below ((br _ _).alloc (nlq _) _);have G:W0.heap[w.heap.size+2]? =some (.cells #[.pointer none] 88 (0,0)):=by have:=heap_alloc_new ((w.alloc (.cells #[vW,.int .i64 h.ae,.int .i64 h.old,.int .i64 h.bg,.int .i64 h.bk,vO,.int .i64 h.next] 24)).alloc (.cells #[kC,kS,kF,kN,kT] 36)) (.cells #[.pointer none] 88);rw [<-N]at this;simpa using this
 have J:=ag (zku W0 B kC kS kF kN kT d a9.lk (by omega));have bq:=ag a9;have I:=ag b4;have bf:=ag G;have a0:=ag N;have bu:=ag (And.intro ce cc);have cl:=ag ca;obtain ⟨aC,cC,aS,cS,aF,cF,aN,cN,aT,cT,rfl,rfl,rfl,rfl,rfl⟩:=lk.agg;obtain ⟨aW,cW,rfl,-⟩:=sW;obtain ⟨aO,cO,rfl,-⟩:=sO;clear G b4 a9 N lk ce cc ca;rw [a0.o]at J;cases hok:o7 d with
 | false=>
   have a5:gu d []=4:=by unfold gu;rw [hok];rfl
   have HR:Hid (dm d h=4):=by show dm d h=4;unfold dm;rw [hok];rfl
   rw [a5]at J;go_enter Tryz.func53,Tryz.ntmps53;go_wp2_with fail;refine J.o.mono ?_;rintro r w1 ⟨rfl,F⟩;go_wp2_with fail;refine (mh _ _ _).mono ?_;rintro r w3 ⟨rfl,⟨O,rfl⟩ | ⟨O,rfl⟩⟩
   ·rw [<-a0.o]at F;exact ⟨rfl,I.o.trans (F.mono I.o.size),Or.inr ⟨by rw [HR.o];decide,by rw [HR.o]⟩⟩
   exact absurd O (by simp)
 | true=>
   have a5:gu d []=0:=by unfold gu;rw [hok];rfl
   have HE:Hid (dm d h=lq d h):=by show dm d h=_;unfold dm;rw [hok];rfl
   have bl:=ag (zki hok);rw [a5]at J;go_enter Tryz.func53,Tryz.ntmps53;go_wp2_with fail;refine J.o.mono ?_;rintro r w1 ⟨rfl,F⟩;rw [<-a0.o]at F;have ah:=ag F;have A:=bq.o.below F;have cs:=F.size;have l0:=bz A.b0;have x0:=ba A.b0 0 (x:=.slice aW h.ab.length cW) rfl;have x1:=ba A.b0 1 (x:=.int .i64 h.ae) rfl;have x2:=ba A.b0 2 (x:=.int .i64 h.old) rfl;have x3:=ba A.b0 3 (x:=.int .i64 h.bg) rfl;have x4:=ba A.b0 4 (x:=.int .i64 h.bk) rfl;have x5:=ba A.b0 5 (x:=.slice aO h.ap.length cO) rfl;have x6:=ba A.b0 6 (x:=.int .i64 h.next) rfl;have cj:=ag A;obtain ⟨W2,ak⟩:∃W2,W2=w1.alloc (.cells #[.slice aW h.ab.length cW,.int .i64 h.ae,.int .i64 h.old,.int .i64 h.bg,.int .i64 h.bk,.slice aO h.ap.length cO,.int .i64 h.next] 167):=⟨_,rfl⟩;have b3:Below w1.heap.size w1 W2:=ak ▸ (br _ _).alloc (nlq _) _;have a1:=ag ak;have ar:=ag b3;have an:W2.heap.size=w1.heap.size+1:=by rw [ak];simp
   have HQ:Hid (SL 2 (RQ #[.agg #[.slice aW h.ab.length cW,.int .i64 h.ae,.int .i64 h.old,.int .i64 h.bg,.int .i64 h.bk,.slice aO h.ap.length cO,.int .i64 h.next]]) (· <w1.heap.size+1+1) (W2.alloc (.cells #[.func (.func 106) #[.agg #[.slice aW h.ab.length cW,.int .i64 h.ae,.int .i64 h.old,.int .i64 h.bg,.int .i64 h.bk,.slice aO h.ap.length cO,.int .i64 h.next]] #[],.int .i64 3,.func (.func 107) #[.agg #[.slice aW h.ab.length cW,.int .i64 h.ae,.int .i64 h.old,.int .i64 h.bg,.int .i64 h.bk,.slice aO h.ap.length cO,.int .i64 h.next]] #[],.int .i64 1,.func (.func 108) #[.agg #[.slice aW h.ab.length cW,.int .i64 h.ae,.int .i64 h.old,.int .i64 h.bg,.int .i64 h.bk,.slice aO h.ap.length cO,.int .i64 h.next]] #[],.int .i64 3] 170)) (.slice (some ⟨w1.heap.size+1,0,none⟩) 3 3) (jd h)):=by rw [<-an];exact qsSL W2 170 #[.agg #[.slice aW h.ab.length cW,.int .i64 h.ae,.int .i64 h.old,.int .i64 h.bg,.int .i64 h.bk,.slice aO h.ap.length cO,.int .i64 h.next]] (jd h) (by simp [jd])
   have au:=ag (fun o=>(br W2.heap.size W2).alloc (nlq _) o);clear A F b3 J an;go_wp2_with fail;refine (mh _ _ _).mono ?_;rintro r w3 ⟨rfl,⟨O,rfl⟩ | ⟨O,rfl⟩⟩
   ·exact absurd O (by simp)
   clear O;go_wp2_with fail;rw [<-a1.o];refine (zjf _ (w3.heap.size+1+1) _ _ (jd h) HQ.o (by rw [a1.o];simp) (zk4 h) (zk5 h) ?_).mono ?_
   ·intro k hk ad V hV;exact zk8 V aW cW _ h k hk ad
   have aw:Hid (∀(V:World) (o:Obj),Below (W2.alloc o).heap.size (W2.alloc o) V->Below w3.heap.size w3 V):=fun V o hV=>ar.o.trans (((au.o o).trans (hV.mono (au.o o).size)).mono ar.o.size);rintro r w4 ⟨⟨hc,rfl⟩ | ⟨hc,rfl⟩,a3⟩
   ·have D:=aw.o _ _ a3;have b6:=zlb (d:=d) hc;exact ⟨rfl,I.o.trans ((ah.o.trans (D.mono ah.o.size)).mono I.o.size),Or.inr ⟨by rw [HE.o,b6];exact hc,by rw [HE.o,b6]⟩⟩
   have D:=aw.o _ _ a3;obtain ⟨a6,a7,a8⟩:=zla hc;have HZ:=ag (zkk bl.o a6 a7 a8);have bm:Hid (dm d h=match im d h with | none=>1 | some ts=>jw d h ts):=by show dm d h=_;rw [HE.o];unfold lq;rw [a6,a7,a8];rfl
   have u:=cj.o.below D;have c9:=ag u;have Z:Hid (Below W0.heap.size W0 w4):=ah.o.trans (D.mono ah.o.size);have bi:=ag (zho w4 B _ _ _ _ _ _ _ h d (by have:=u.le;have:=bz u.b0;omega) u.sW u.sO u.lk HZ.o);have ct:=bz u.b0;have cv:=ba u.b0 0 (x:=.slice aW h.ab.length cW) rfl;have cx:=ba u.b0 1 (x:=.int .i64 h.ae) rfl;have cy:=ba u.b0 2 (x:=.int .i64 h.old) rfl;have c0:=ba u.b0 3 (x:=.int .i64 h.bg) rfl;have c1:=ba u.b0 4 (x:=.int .i64 h.bk) rfl;have c2:=ba u.b0 5 (x:=.slice aO h.ap.length cO) rfl;have c3:=ba u.b0 6 (x:=.int .i64 h.next) rfl;have cu:=bz u.b1;have c4:=ba u.b1 0 (x:=.slice aC d.aj.length cC) rfl;have c5:=ba u.b1 1 (x:=.slice aS d.ax.length cS) rfl;have c6:=ba u.b1 2 (x:=.slice aF d.fields.length cF) rfl;have c7:=ba u.b1 3 (x:=.slice aN d.names.length cN) rfl;have c8:=ba u.b1 4 (x:=.slice aT d.aq.length cT) rfl;clear u a3 D hc a6 a7 a8 HQ au ar aw a1 ak x0 x1 x2 x3 x4 x5 x6 l0 cs;go_wp2_with fail;refine bi.o.mono ?_;rintro r Y ⟨D,cr⟩;have aa:Hid (Below W0.heap.size W0 Y):=Z.o.trans (D.mono Z.o.size);have E:Hid (Below w.heap.size w Y):=I.o.trans (aa.o.mono I.o.size);have dg:=D.size;clear D cv cx cy c0 c1 c2 c3 c4 c5 c6 c7 c8 ct cu bi;rcases cr with ⟨ts,vA,af,rfl,al⟩ | ⟨b7,rfl⟩
   ·have az:Hid (dm d h=dv (jl d h ts)):=by show dm d h=_;rw [bm.o,af,zk3]
    have HL:=ag (zkq bl.o HZ.o bu.o.1 af);have cn:=ag af;have ay:=ag al;have co:Hid (∀t∈ts,(Lit.int .i64 t.hash).wf=true):=fun t ht=>by
     obtain ⟨ys,os,e1,e2,rfl⟩:=zko af;have e:t=bj h.ab t.loc:=by
      rcases List.mem_append.1 ht with ht | ht
      ·exact (zkn e1 t ht).2.2.1
      exact (zkn e2 t ht).2.2.1
     rw [e];exact HL.o.wdf _
    obtain ⟨X,hX⟩:∃X,X=w4.heap.size+1+1:=⟨_,rfl⟩;have dd:w.heap.size+3<=X:=by have:=Z.o.size;have:=cl.o;omega
    rw [<-hX]at ay ⊢;clear al af hX;obtain ⟨L,ac⟩:∃L,L=Y.alloc (.cells #[.pointer (some ⟨X+1,0,none⟩)] 88):=⟨_,rfl⟩;have bc:Hid (Below Y.heap.size Y L):=ac ▸ (br _ _).alloc (nlq _) _;have bs:=ag ac;have bx:L.heap[Y.heap.size]? =some (.cells #[.pointer (some ⟨X+1,0,none⟩)] 88 (0,0)):=ac ▸ heap_alloc_new Y _;have ao:L.heap.size=Y.heap.size+1:=by rw [ac];simp
    have bn:Hid (SL 2 (RQ #[.agg #[.pointer (some ⟨X+1,0,none⟩)]]) (· <Y.heap.size+1+1) (L.alloc (.cells #[.func (.func 110) #[.agg #[.pointer (some ⟨X+1,0,none⟩)]] #[],.int .i64 3,.func (.func 111) #[.agg #[.pointer (some ⟨X+1,0,none⟩)]] #[],.int .i64 6,.func (.func 112) #[.agg #[.pointer (some ⟨X+1,0,none⟩)]] #[],.int .i64 5,.func (.func 113) #[.agg #[.pointer (some ⟨X+1,0,none⟩)]] #[],.int .i64 1,.func (.func 114) #[.agg #[.pointer (some ⟨X+1,0,none⟩)]] #[],.int .i64 4,.func (.func 115) #[.agg #[.pointer (some ⟨X+1,0,none⟩)]] #[],.int .i64 4,.func (.func 116) #[.agg #[.pointer (some ⟨X+1,0,none⟩)]] #[],.int .i64 4] 170)) (.slice (some ⟨Y.heap.size+1,0,none⟩) 7 7) (jl d h ts)):=by rw [<-ao];exact qsSL L 170 #[.agg #[.pointer (some ⟨X+1,0,none⟩)]] (jl d h ts) (by simp [jl])
    have av:=ag (fun o=>(br L.heap.size L).alloc (nlq _) o);have bb:=ag bx;have ai:Hid (∀(V:World) (o:Obj),Below (L.alloc o).heap.size (L.alloc o) V->Below Y.heap.size Y V/\V.heap[Y.heap.size]? =some (.cells #[.pointer (some ⟨X+1,0,none⟩)] 88 (0,0))):=fun V o hV=>by have b2:Below L.heap.size L V:=(av.o o).trans (hV.mono (av.o o).size);exact ⟨bc.o.trans (b2.mono bc.o.size),(b2.block _ (bz bb.o)).trans bb.o⟩
    clear ac bx ao;go_wp2_with fail;refine (mh _ _ _).mono ?_;rintro r w7 ⟨rfl,⟨O,rfl⟩ | ⟨O,rfl⟩⟩
    ·exact absurd O (by simp)
    clear O;go_wp2_with fail;rw [<-bs.o];refine (zjf _ (w7.heap.size+1+1) _ _ (jl d h ts) bn.o (by rw [bs.o];simp) (zk6 d h ts) (zk7 d h ts) ?_).mono ?_
    ·intro k hk ad V hV;exact zk9 V X B _ _ _ _ _ _ _ vA h d ts (ay.o.below (ai.o _ _ hV).1) HZ.o HL.o co.o bu.o.2 k hk ad
    rintro r w8 ⟨⟨hc,rfl⟩ | ⟨hc,rfl⟩,a4⟩
    ·have W:=(ai.o _ _ a4).1;exact ⟨rfl,E.o.trans (W.mono E.o.size),Or.inr ⟨by rw [az.o];exact hc,by rw [az.o]⟩⟩
    obtain ⟨W,a2⟩:=ai.o _ _ a4;have b5:Below w.heap.size w w8:=E.o.trans (W.mono E.o.size);have G:w8.heap[w.heap.size+2]? =some (.cells #[.pointer none] 88 (0,0)):=((aa.o.trans (W.mono aa.o.size)).block (w.heap.size+2) (bz bf.o)).trans bf.o;have da:=ba a2 0 (x:=.pointer (some ⟨X+1,0,none⟩)) rfl;have dk:=bz a2;have cp:=ba G 0 (x:=.pointer none) rfl;have ds:=nu G 0;have dl:=bz G;have ch:=ag (ay.o.below W);have bh:Hid (dm d h=0):=az.o.trans hc;have hg:=nh (World.grownBy.refl w8 (some (w.heap.size+2))) ⟨w.heap.size+2,0,none⟩ (.pointer (some ⟨X+1,0,none⟩)) (Or.inl rfl);have ci:=ag (ch.o.grown hg (by have:=bq.o.le;omega) (by omega));have cf:=ag (nt b5 hg (by omega));have cm:=ag (World.cell?_setCell_same w8 ⟨w.heap.size+2,0,none⟩ (.pointer (some ⟨X+1,0,none⟩)) cp);clear a4 W a2 b5 G hc hg bn av ai;go_wp2_with fail;exact bodyPost_ret (v:=.agg #[.pointer (some ⟨X+1,0,none⟩)]) (by simp [results,Tryz.results53,go_sem,cm.o]) rfl ⟨cf.o,Or.inl ⟨bh.o,X,vA,ts,rfl,cn.o,by omega,ci.o⟩⟩
   have HR:Hid (dm d h=1):=by show dm d h=1;rw [bm.o,b7]
   clear b7;go_wp2_with fail;refine (mh _ _ _).mono ?_;rintro r w7 ⟨rfl,⟨O,rfl⟩ | ⟨O,rfl⟩⟩
   ·exact ⟨rfl,E.o,Or.inr ⟨by rw [HR.o];decide,by rw [HR.o]⟩⟩
   exact absurd O (by simp)
structure Hd (B:Nat) (w:World) (vW vO kC kS kF kN kT:Value) (h:bd) (d:be):Prop where
 sW:SL 1 RI (· <B) w vW h.ab
 sO:SL 1 RI (· <B) w vO h.ap
 lk:ma (· <B) w kC kS kF kN kT d
 le:B<=w.heap.size
 ww:∀x∈h.ab,(Lit.int .i64 x).wf=true
 wn:∀x∈h.ap,(Lit.int .i64 x).wf=true
theorem Hd.below {B:Nat} {w w':World} {L J D G E F I:Value} {h:bd} {d:be} (g:Hd B w L J D G E F I h d) (A:Below B w w'):Hd B w' L J D G E F I h d:=
 have u:=Kp.below A
 ⟨g.sW.keptI u,g.sO.keptI u,g.lk.kept u,lt3 g.le A.size,g.ww,g.wn⟩
theorem Hd.agg {B:Nat} {w:World} {vW vO Y kS Z kN kT:Value} {h:bd} {d:be} (g:Hd B w vW vO Y kS Z kN kT h d):∃I X E O u J F V A L D N G W,vW=.slice I h.ab.length X/\vO=.slice E h.ap.length O/\Y=.slice u d.aj.length J/\kS=.slice F d.ax.length V/\Z=.slice A d.fields.length L/\kN=.slice D d.names.length N/\kT=.slice G d.aq.length W:=by obtain ⟨u,J,F,V,A,L,D,N,G,W,e1,e2,e3,e4,e5⟩:=g.lk.agg;obtain ⟨I,X,e6,-⟩:=g.sW;obtain ⟨E,O,e7,-⟩:=g.sO;exact ⟨_,_,_,_,_,_,_,_,_,_,_,_,_,_,e6,e7,e1,e2,e3,e4,e5⟩
theorem zld {B:Nat} {w:World} {I G u E A D F:Value} {h:bd} {d:be} (g:Hd B w I G u E A D F h d):
 Calls Tryz.prog 53 #[.agg #[I,.int .i64 h.ae,.int .i64 h.old,.int .i64 h.bg,.int .i64 h.bk,G,.int .i64 h.next],.agg #[u,E,A,D,F]] w fun r w'=>Below w.heap.size w w'/\HeapOut w B I G u E A D F h d r w':=zlc w B _ _ _ _ _ _ _ h d g.sW g.sO g.lk g.le g.ww g.wn
theorem zle (w:World) (B P Q:Nat) (O N F J G I L:Value) (h:bd) (d:be) (g:Hd B w O N F J G I L h d) (u:w.heap[P]? =some (.cells #[O,.int .i64 h.ae,.int .i64 h.old,.int .i64 h.bg,.int .i64 h.bk,N,.int .i64 h.next] 24 (0,0))) (A:w.heap[Q]? =some (.cells #[F,J,G,I,L] 36 (0,0))):
 Calls Tryz.prog 52 #[.pointer (some ⟨P,0,none⟩),.pointer (some ⟨Q,0,none⟩)] w fun r w'=>my (dm d h) r/\Below w.heap.size w w':=by
 have D:=ag (zld g);have aa:=bz u;have ac:=bz A;have Y:=ba u 0 (x:=O) rfl;have Z:=ba u 1 (x:=.int .i64 h.ae) rfl;have c2:=ba u 2 (x:=.int .i64 h.old) rfl;have c3:=ba u 3 (x:=.int .i64 h.bg) rfl;have c4:=ba u 4 (x:=.int .i64 h.bk) rfl;have c5:=ba u 5 (x:=N) rfl;have c6:=ba u 6 (x:=.int .i64 h.next) rfl;have e0:=ba A 0 (x:=F) rfl;have e1:=ba A 1 (x:=J) rfl;have e2:=ba A 2 (x:=G) rfl;have e3:=ba A 3 (x:=I) rfl;have e4:=ba A 4 (x:=L) rfl;obtain ⟨aW,cW,aO,cO,aC,cC,aS,cS,aF,cF,aN,cN,aT,cT,rfl,rfl,rfl,rfl,rfl,rfl,rfl⟩:=g.agg;clear g u A;go_enter Tryz.func52,Tryz.ntmps52;go_wp2_with fail;refine D.o.mono ?_;rintro r w1 ⟨E,⟨h0,X,vA,ts,rfl,-⟩ | ⟨h0,rfl⟩⟩
 ·have W:=ag h0;have V:=ag E;clear h0 E Y Z c2 c3 c4 c5 c6 e0 e1 e2 e3 e4;go_wp2_with fail;go_end0;exact ⟨Or.inr ⟨W.o,rfl⟩,V.o⟩
 exact ⟨rfl,Or.inl ⟨h0,rfl⟩,E⟩
theorem callHCheck1 (args:Array Value) (w:World):(callFunc 52 args).run Tryz.prog w=.ok (.enter 52 args) w:=by kernel_rfl
theorem zlf (w:World) (B:Nat) (vW vO kC kS kF kN kT:Value) (h:bd) (d:be) (g:Hd B w vW vO kC kS kF kN kT h d):
 Calls Tryz.prog 20 #[.agg #[vW,.int .i64 h.ae,.int .i64 h.old,.int .i64 h.bg,.int .i64 h.bk,vO,.int .i64 h.next],.agg #[kC,kS,kF,kN,kT]] w fun r w'=>r=.returned (.int .i64 (dm d h))/\Below w.heap.size w w':=by
 have ah:=np Tryz.prog;have HG:=ag g;obtain ⟨J,Y,F,V,A,L,G,W,D,N,E,O,I,X,rfl,rfl,rfl,rfl,rfl,rfl,rfl⟩:=g.agg;clear g;have Z:=(br w.heap.size w).alloc (nlq _) (.cells #[.slice J h.ab.length Y,.int .i64 h.ae,.int .i64 h.old,.int .i64 h.bg,.int .i64 h.bk,.slice F h.ap.length V,.int .i64 h.next] 24);have aa:=Z.alloc Z.size (.cells #[.slice A d.aj.length L,.slice G d.ax.length W,.slice D d.fields.length N,.slice E d.names.length O,.slice I d.aq.length X] 36);have u:=aa.alloc aa.size (.cells #[.int .i64 0,.int .i64 0] 84);have ai:(((w.alloc (.cells #[.slice J h.ab.length Y,.int .i64 h.ae,.int .i64 h.old,.int .i64 h.bg,.int .i64 h.bk,.slice F h.ap.length V,.int .i64 h.next] 24)).alloc (.cells #[.slice A d.aj.length L,.slice G d.ax.length W,.slice D d.fields.length N,.slice E d.names.length O,.slice I d.aq.length X] 36)).alloc (.cells #[.int .i64 0,.int .i64 0] 84)).heap[w.heap.size]? =some (.cells #[.slice J h.ab.length Y,.int .i64 h.ae,.int .i64 h.old,.int .i64 h.bg,.int .i64 h.bk,.slice F h.ap.length V,.int .i64 h.next] 24 (0,0)):=(Below.heap_alloc _ _ _ (by simp;omega)).trans ((Below.heap_alloc _ _ _ (by simp)).trans (heap_alloc_new w _));have ak:(((w.alloc (.cells #[.slice J h.ab.length Y,.int .i64 h.ae,.int .i64 h.old,.int .i64 h.bg,.int .i64 h.bk,.slice F h.ap.length V,.int .i64 h.next] 24)).alloc (.cells #[.slice A d.aj.length L,.slice G d.ax.length W,.slice D d.fields.length N,.slice E d.names.length O,.slice I d.aq.length X] 36)).alloc (.cells #[.int .i64 0,.int .i64 0] 84)).heap[w.heap.size+1]? =some (.cells #[.slice A d.aj.length L,.slice G d.ax.length W,.slice D d.fields.length N,.slice E d.names.length O,.slice I d.aq.length X] 36 (0,0)):=(Below.heap_alloc _ _ _ (by simp)).trans (by
  have:=heap_alloc_new (w.alloc (.cells #[.slice J h.ab.length Y,.int .i64 h.ae,.int .i64 h.old,.int .i64 h.bg,.int .i64 h.bk,.slice F h.ap.length V,.int .i64 h.next] 24)) (.cells #[.slice A d.aj.length L,.slice G d.ax.length W,.slice D d.fields.length N,.slice E d.names.length O,.slice I d.aq.length X] 36);simpa using this)
 have ac:=ag ai;have ad:=ag ak;clear ai ak;go_enter Tryz.func20,Tryz.ntmps20;go_wp2_with fail;refine (zb6 52 _ _ (fun w1=>dm d h=0/\Below w.heap.size w w1) (fun e p w1=>dm d h=e/\Below w.heap.size w w1) (callHCheck1 _) ?hc).mono ?_
 case hc=>
  refine (zle _ B w.heap.size (w.heap.size+1) _ _ _ _ _ _ _ h d (HG.o.below (u.mono HG.o.le)) ac.o ad.o).mono ?_;rintro r w1 ⟨hr,hb⟩;have af:=u.trans (hb.mono u.size);refine ⟨?_,?_⟩
  ·rw [hb.block ((w.alloc (.cells #[.slice J h.ab.length Y,.int .i64 h.ae,.int .i64 h.old,.int .i64 h.bg,.int .i64 h.bk,.slice F h.ap.length V,.int .i64 h.next] 24)).alloc (.cells #[.slice A d.aj.length L,.slice G d.ax.length W,.slice D d.fields.length N,.slice E d.names.length O,.slice I d.aq.length X] 36)).heap.size (by simp)];exact heap_alloc_new _ _
  rcases hr with ⟨hc,rfl⟩ | ⟨hc,rfl⟩
  ·exact Or.inr ⟨_,_,rfl,rfl,af⟩
  exact Or.inl ⟨rfl,hc,af⟩
 rintro r w2 ⟨w1,hg,hr⟩;have hz:((w.alloc (.cells #[.slice J h.ab.length Y,.int .i64 h.ae,.int .i64 h.old,.int .i64 h.bg,.int .i64 h.bk,.slice F h.ap.length V,.int .i64 h.next] 24)).alloc (.cells #[.slice A d.aj.length L,.slice G d.ax.length W,.slice D d.fields.length N,.slice E d.names.length O,.slice I d.aq.length X] 36)).heap.size=w.heap.size+2:=by simp
 rw [hz]at hg;clear Z aa u hz ac ad;rcases hr with ⟨rfl,hc,hB⟩ | ⟨e,p,rfl,hc,hB⟩
 ·have HC:=ag hc;have HB:=ag (nt hB hg (by omega));clear hc hg hB ah HG;have al:=ny;go_wp2
  go_ret;exact ⟨by rw [HC.o];rfl,HB.o⟩
 have HC:=ag hc;have HB:=ag (nt hB hg (by omega));clear hc hg hB ah HG;have al:=ny;go_wp2
 go_ret;exact ⟨by rw [HC.o];rfl,HB.o⟩
end Go.Proofs.YtjdnmblggdobgaaGreat
