import Derived.Test.YtjdnmblggdobgaaGreatHqA
import Derived.Test.YtjdnmblggdobgaaGreatJHrAHrC
set_option maxHeartbeats 1000000
set_option maxRecDepth 100000
namespace Go.Proofs.YtjdnmblggdobgaaGreat
open Go.RowKit Go.Maps Tryz
def Bz (first:Array Value) (qs:List QD):List Value:=qs.flatMap fun q=>[.func (.func q.g) first #[],.i q.e]
theorem Fe (w:World) (t:Nat) (first:Array Value) (A:List QD) (I:A.length<=1000):SL 2 (RQ first) (· <w.heap.size+1) (w.alloc (.cells (Bz first A).toArray t)) (.slice (some ⟨w.heap.size,0,none⟩) A.length A.length) A:=by
 refine ⟨_,A.length,rfl,nlq _,by unfold maxLen;omega,fun k F=>?_⟩;refine ⟨w.heap.size,0,[.func (.func A[k].g) first #[],.i A[k].e],rfl,Nat.lt_succ_self _,by simp,rfl,fun j E=>?_,rfl⟩;have D:=A5 (n:=2) (fun q:QD=>[Value.func (.func q.g) first #[],.i q.e]) A k j (fun _ _=>rfl) F E;obtain ⟨x,G⟩:∃x,[Value.func (.func A[k].g) first #[],.i A[k].e][j]? =some x:=by
  match j,E with
  | 0,_=>exact ⟨_,rfl⟩
  | 1,_=>exact ⟨_,rfl⟩
 rw [G]at D ⊢;rw [Nat.zero_add];exact bp (heap_alloc_new w _) _ (by simpa [Bz]using D)
def jw (h:ar):List QD:=[⟨106,3,j6 h⟩,⟨107,1,jg h⟩,⟨108,3,jx h⟩]
def kc (d:bd) (h:ar) (ts:List bk):List QD:=[⟨110,3,!ts.any (jd h)⟩,⟨111,6,decide ((ts.map bk.hash).Nodup)⟩,⟨112,5,!ts.any fun x=>ep d.fields h.ab x fun n=>!b8 ts n⟩,⟨113,1,!(km h).any (· != 0)⟩,⟨114,4,pd h.am⟩,⟨115,4,!h.am.any (fh d h ts)⟩,⟨116,4,!ts.any (ia d h)⟩]
theorem zk2 (h:ar):dx (jw h)=if j6 h then (if jg h then (if jx h then 0 else 3) else 1) else 3:=by unfold jw;simp only [dx]
theorem zk3 (d:bd) (h:ar) (ts:List bk):dx (kc d h ts)=kw d h ts:=by unfold kc kw;simp only [dx];cases ts.any (jd h)<;>cases decide ((ts.map bk.hash).Nodup)<;>cases (ts.any fun x=>ep d.fields h.ab x fun n=>!b8 ts n)<;>cases (km h).any (· != 0)<;>cases pd h.am<;>cases h.am.any (fh d h ts)<;>cases ts.any (ia d h)<;>rfl
theorem zk4 (h:ar):∀q∈jw h,∀args w,(callFunc q.g args).run prog w=.ok (.enter q.g args) w:=by intro q A args w;simp [jw]at A;rcases A with rfl | rfl | rfl<;>kernel_rfl
theorem zk5 (h:ar):∀q∈jw h,q.e≠0:=by intro q A;simp [jw]at A;rcases A with rfl | rfl | rfl<;>simp
theorem zk6 (d:bd) (h:ar) (ts:List bk):∀q∈kc d h ts,∀args w,(callFunc q.g args).run prog w=.ok (.enter q.g args) w:=by intro q A args w;simp only [kc,List.mem_cons,List.not_mem_nil,or_false]at A;rcases A with rfl | rfl | rfl | rfl | rfl | rfl | rfl<;>kernel_rfl
theorem zk7 (d:bd) (h:ar) (ts:List bk):∀q∈kc d h ts,q.e≠0:=by intro q A;simp only [kc,List.mem_cons,List.not_mem_nil,or_false]at A;rcases A with rfl | rfl | rfl | rfl | rfl | rfl | rfl<;>simp
theorem zk8 (w:World) (F:Option Addr) (G:Nat) (E:Value) (h:ar) (k:Nat) (I:k<(jw h).length) (A:∀(j:Nat) (hj:j<(jw h).length),j<k->(jw h)[j].ans=true):
 Calls prog (jw h)[k].g #[.agg #[.slice F h.ab.length G,.i h.ae,.i h.old,.i h.bo,.i h.ba,E,.i h.next]] w fun r w'=>r=.returned (.bool (jw h)[k].ans)/\Bl w w':=by
 have D:0<k->(3<=h.ae/\h.ae<=2000)/\(3<=h.old/\h.old<=2000):=fun h0=>by have:=A 0 (by simp [jw]) h0;simp only [jw,p5q,j6,jb,Bool.and_eq_true,decide_eq_true_eq]at this;exact ⟨⟨by omega,by omega⟩,⟨by omega,by omega⟩⟩
 match k,I with
 | 0,_=>exact zib w _ E h
 | 1,_=>exact zic w F G E h (D (by omega)).1 (D (by omega)).2
 | 2,_=>exact zid w _ E h (D (by omega)).1 (D (by omega)).2
theorem zk9 (w:World) (X B:Nat) (vW vO W kS Y Z kT D:Value) (h:ar) (d:bd) (ts:List bk) (hc:qr X B w vW vO W kS Y Z kT D h d ts) (V:nj d h) (E:ul d h ts) (F:∀t∈ts,(Lit.int .i64 t.hash).wf=true) (G:∀x∈h.am,(Lit.int .i64 x).wf=true) (k:Nat) (N:k<(kc d h ts).length) (A:∀(j:Nat) (hj:j<(kc d h ts).length),j<k->(kc d h ts)[j].ans=true):
 Calls prog (kc d h ts)[k].g #[.agg #[.p (X+1)]] w fun r w'=>r=.returned (.bool (kc d h ts)[k].ans)/\Bl w w':=by
 match k,N with
 | 0,_=>exact zh5 w X B _ _ _ _ _ _ _ D h d ts hc E.len
 | 1,_=>exact zik w X B _ _ _ _ _ _ _ D h d ts hc E.len F
 | 2,_=>exact zh8 w X B _ _ _ _ _ _ _ D h d ts hc E
 | 3,_=>exact ziy w X B _ _ _ _ _ _ _ D h d ts hc V
 | 4,_=>
   refine (zia w X B _ _ _ _ _ _ _ D h d ts hc).mono ?_;rintro r w' ⟨⟨b,rfl,L⟩,O⟩;refine ⟨?_,O⟩;have:b=pd h.am:=by rw [Bool.eq_iff_iff,L,zkj]
   rw [this];rfl
 | 5,_=>exact zig w X B _ _ _ _ _ _ _ D h d ts hc E G
 | 6,_=>
   have I:pd h.am=true:=A 4 (by simp [kc]) (by omega);have J:(!h.am.any (fh d h ts))=true:=A 5 (by simp [kc]) (by omega);exact zio w X B _ _ _ _ _ _ _ D h d ts hc E (zks E I (by simpa using J)) ((zkj _).1 I)
theorem zla {h:ar} (hc:dx (jw h)=0):j6 h=true/\jg h=true/\jx h=true:=by rw [zk2]at hc;cases h1:j6 h<;>cases h2:jg h<;>cases h3:jx h<;>simp_all
theorem zlb {d:bd} {h:ar} (hc:dx (jw h)≠0):ng d h=dx (jw h):=by rw [zk2]at hc ⊢;unfold ng;cases h1:j6 h<;>cases h2:jg h<;>cases h3:jx h<;>simp_all
theorem qr.grown {X B b:Nat} {w w':World} {O N E I F G J L:Value} {h:ar} {d:bd} {ts:List bk} (c:qr X B w O N E I F G J L h d ts) (A:w.grownBy w' (some b)) (h1:B<=b) (W:b<X):qr X B w' O N E I F G J L h d ts:=
 have D:Kp (· <B) w w':=⟨A.size,fun k D V=>A.block k V (by intro e;injection e;omega)⟩
 ⟨c.le,(A.block (X+1) (bz c.blk) (by intro e;injection e;omega)).trans c.blk,c.sW.keptI D,c.sO.keptI D,c.lk.kept D,c.row.kept A (Or.inr fun e=>by have:=(c.row.lt b e).1;omega),c.pl.kept A (by intro e;injection e;omega)⟩
def zv (w:World) (B:Nat) (vW vO kC kS kF kN kT:Value) (h:ar) (d:bd) (r:Ending) (w':World):Prop:=
 (dt d h=0/\∃X vA ts,r=.returned (.agg #[.p (X+1)])/\io d h=some ts/\w.heap.size<=X/\qr X B w' vW vO kC kS kF kN kT vA h d ts)\/(dt d h≠0/\r=.panicked [wrongV (dt d h) 0])
theorem zlc (w:World) (B:Nat) (vW vO kC kS kF kN kT:Value) (h:ar) (d:bd) (sW:SL 1 RI (· <B) w vW h.ab) (sO:SL 1 RI (· <B) w vO h.am) (lk:mt (· <B) w kC kS kF kN kT d) (hB:B<=w.heap.size)
 (cc:∀x∈h.ab,(Lit.int .i64 x).wf=true) (ca:∀x∈h.am,(Lit.int .i64 x).wf=true):
 Calls prog 53 #[.agg #[vW,.i h.ae,.i h.old,.i h.bo,.i h.ba,vO,.i h.next],.agg #[kC,kS,kF,kN,kT]] w fun r w'=>Bl w w'/\zv w B vW vO kC kS kF kN kT h d r w':=by
 have dd:=qj prog;obtain ⟨W0,L⟩:∃W0,W0=(((w.alloc (.cells #[vW,.i h.ae,.i h.old,.i h.bo,.i h.ba,vO,.i h.next] 24)).alloc (.cells #[kC,kS,kF,kN,kT] 36)).alloc (.cells #[.pointer none] 88)):=⟨_,rfl⟩;have b3:Bl w W0:=L ▸ (((br _ _).alloc (nlq _) _).alloc (by simp) _).alloc (by simp;omega) _;have b7:W0.heap.size=w.heap.size+3:=by rw [L];simp
 have a9:Rd w.heap.size B W0 vW vO kC kS kF kN kT h d:=L ▸ (Rd.new w B _ _ _ _ _ _ _ h d hB sW sO lk).below ((br _ _).alloc (nlq _) _);have G:W0.heap[w.heap.size+2]? =some (.cells #[.pointer none] 88 (0,0)):=by have:=heap_alloc_new ((w.alloc (.cells #[vW,.i h.ae,.i h.old,.i h.bo,.i h.ba,vO,.i h.next] 24)).alloc (.cells #[kC,kS,kF,kN,kT] 36)) (.cells #[.pointer none] 88);rw [<-L]at this;simpa using this
 have J:=ag (zku W0 B kC kS kF kN kT d a9.lk (by omega));have bn:=ag a9;have I:=ag b3;have be:=ag G;have a0:=ag L;have bu:=ag (And.intro cc ca);have cj:=ag b7;obtain ⟨aC,cC,aS,cS,aF,cF,aN,cN,aT,cT,rfl,rfl,rfl,rfl,rfl⟩:=lk.agg;obtain ⟨aW,cW,rfl,-⟩:=sW;obtain ⟨aO,cO,rfl,-⟩:=sO;clear G b3 a9 L lk cc ca b7;rw [a0.o]at J;cases hok:ql d with
 | false=>
   have a5:il d []=4:=by unfold il;rw [hok];rfl
   have HR:Hid (dt d h=4):=by show dt d h=4;unfold dt;rw [hok];rfl
   rw [a5]at J;go_enter func53,ntmps53;go_wp2_with fail;refine J.o.mono ?_;rintro r w1 ⟨rfl,F⟩;go_wp2_with fail;refine (od _ _ _).mono ?_;rintro r w3 ⟨rfl,⟨N,rfl⟩ | ⟨N,rfl⟩⟩
   ·rw [<-a0.o]at F;exact ⟨rfl,I.o.trans (F.mono I.o.size),Or.inr ⟨by rw [HR.o];decide,by rw [HR.o]⟩⟩
   exact absurd N (by simp)
 | true=>
   have a5:il d []=0:=by unfold il;rw [hok];rfl
   have HE:Hid (dt d h=ng d h):=by show dt d h=_;unfold dt;rw [hok];rfl
   have bi:=ag (Ds hok);rw [a5]at J;go_enter func53,ntmps53;go_wp2_with fail;refine J.o.mono ?_;rintro r w1 ⟨rfl,F⟩;rw [<-a0.o]at F;have af:=ag F;have ak:=bn.o.below F;have cp:=F.size;have l0:=bz ak.b0;have xk:=ip ak.b0;have ci:=ag ak;obtain ⟨W2,ai⟩:∃W2,W2=w1.alloc (.cells #[.slice aW h.ab.length cW,.i h.ae,.i h.old,.i h.bo,.i h.ba,.slice aO h.am.length cO,.i h.next] 167):=⟨_,rfl⟩;have b2:Bl w1 W2:=ai ▸ (br _ _).alloc (nlq _) _;have a1:=ag ai;have ap:=ag b2;have an:W2.heap.size=w1.heap.size+1:=by rw [ai];simp
   have HQ:Hid (SL 2 (RQ #[.agg #[.slice aW h.ab.length cW,.i h.ae,.i h.old,.i h.bo,.i h.ba,.slice aO h.am.length cO,.i h.next]]) (· <w1.heap.size+1+1) (W2.alloc (.cells #[.func (.func 106) #[.agg #[.slice aW h.ab.length cW,.i h.ae,.i h.old,.i h.bo,.i h.ba,.slice aO h.am.length cO,.i h.next]] #[],.i 3,.func (.func 107) #[.agg #[.slice aW h.ab.length cW,.i h.ae,.i h.old,.i h.bo,.i h.ba,.slice aO h.am.length cO,.i h.next]] #[],.i 1,.func (.func 108) #[.agg #[.slice aW h.ab.length cW,.i h.ae,.i h.old,.i h.bo,.i h.ba,.slice aO h.am.length cO,.i h.next]] #[],.i 3] 170)) (.slice (some ⟨w1.heap.size+1,0,none⟩) 3 3) (jw h)):=by rw [<-an];exact Fe W2 170 #[.agg #[.slice aW h.ab.length cW,.i h.ae,.i h.old,.i h.bo,.i h.ba,.slice aO h.am.length cO,.i h.next]] (jw h) (by simp [jw])
   have au:=ag (fun o=>(br W2.heap.size W2).alloc (nlq _) o);clear ak F b2 J an;go_wp2_with fail;refine (od _ _ _).mono ?_;rintro r w3 ⟨rfl,⟨N,rfl⟩ | ⟨N,rfl⟩⟩
   ·exact absurd N (by simp)
   clear N;go_wp2_with fail;rw [<-a1.o];refine (zjf _ (w3.heap.size+1+1) _ _ (jw h) HQ.o (by rw [a1.o];simp) (zk4 h) (zk5 h) ?_).mono ?_
   ·intro k hk ac V hV;exact zk8 V aW cW _ h k hk ac
   have aw:Hid (∀(V:World) (o:Obj),Below (W2.alloc o).heap.size (W2.alloc o) V->Bl w3 V):=fun V o hV=>ap.o.trans (((au.o o).trans (hV.mono (au.o o).size)).mono ap.o.size);rintro r w4 ⟨⟨hc,rfl⟩ | ⟨hc,rfl⟩,a3⟩
   ·have D:=aw.o _ _ a3;have b5:=zlb (d:=d) hc;exact ⟨rfl,I.o.trans ((af.o.trans (D.mono af.o.size)).mono I.o.size),Or.inr ⟨by rw [HE.o,b5];exact hc,by rw [HE.o,b5]⟩⟩
   have D:=aw.o _ _ a3;obtain ⟨a6,a7,a8⟩:=zla hc;have HZ:=ag (zkk bi.o a6 a7 a8);have bl:Hid (dt d h=match io d h with | none=>1 | some ts=>kw d h ts):=by show dt d h=_;rw [HE.o];unfold ng;rw [a6,a7,a8];rfl
   have A:=ci.o.below D;have c7:=ag A;have Y:Hid (Bl W0 w4):=af.o.trans (D.mono af.o.size);have bh:=ag (zho w4 B _ _ _ _ _ _ _ h d (by have:=A.le;have:=bz A.b0;omega) A.sW A.sO A.lk HZ.o);have cr:=bz A.b0;have ct:=bp A.b0 0 (x:=.slice aW h.ab.length cW) rfl;have cu:=bp A.b0 1 (x:=.i h.ae) rfl;have cv:=bp A.b0 2 (x:=.i h.old) rfl;have cx:=bp A.b0 3 (x:=.i h.bo) rfl;have cy:=bp A.b0 4 (x:=.i h.ba) rfl;have c0:=bp A.b0 5 (x:=.slice aO h.am.length cO) rfl;have c1:=bp A.b0 6 (x:=.i h.next) rfl;have cs:=bz A.b1;have c2:=bp A.b1 0 (x:=.slice aC d.aj.length cC) rfl;have c3:=bp A.b1 1 (x:=.slice aS d.bg.length cS) rfl;have c4:=bp A.b1 2 (x:=.slice aF d.fields.length cF) rfl;have c5:=bp A.b1 3 (x:=.slice aN d.names.length cN) rfl;have c6:=bp A.b1 4 (x:=.slice aT d.ax.length cT) rfl;clear A a3 D hc a6 a7 a8 HQ au ap aw a1 ai xk l0 cp;go_wp2_with fail;refine bh.o.mono ?_;rintro r w5 ⟨D,co⟩;have Z:Hid (Bl W0 w5):=Y.o.trans (D.mono Y.o.size);have E:Hid (Bl w w5):=I.o.trans (Z.o.mono I.o.size);have de:=D.size;clear D ct cu cv cx cy c0 c1 c2 c3 c4 c5 c6 cr cs bh;rcases co with ⟨ts,vA,ad,rfl,al⟩ | ⟨b6,rfl⟩
   ·have az:Hid (dt d h=dx (kc d h ts)):=by show dt d h=_;rw [bl.o,ad,zk3]
    have HL:=ag (zkq bi.o HZ.o bu.o.1 ad);have cl:=ag ad;have ay:=ag al;have cm:Hid (∀t∈ts,(Lit.int .i64 t.hash).wf=true):=fun t ht=>by
     obtain ⟨ys,os,e1,e2,rfl⟩:=xu ad;have e:t=bj h.ab t.loc:=by
      rcases List.mem_append.1 ht with ht | ht
      ·exact (sc e1 t ht).2.2.1
      exact (sc e2 t ht).2.2.1
     rw [e];exact HL.o.wdf _
    obtain ⟨X,hX⟩:∃X,X=w4.heap.size+1+1:=⟨_,rfl⟩;have c9:w.heap.size+3<=X:=by have:=Y.o.size;have:=cj.o;omega
    rw [<-hX]at ay ⊢;clear al ad hX;obtain ⟨W,aa⟩:∃W,W=w5.alloc (.cells #[.p (X+1)] 88):=⟨_,rfl⟩;have bc:Hid (Bl w5 W):=aa ▸ (br _ _).alloc (nlq _) _;have bs:=ag aa;have bv:W.heap[w5.heap.size]? =some (.cells #[.p (X+1)] 88 (0,0)):=aa ▸ heap_alloc_new w5 _;have ao:W.heap.size=w5.heap.size+1:=by rw [aa];simp
    have bm:Hid (SL 2 (RQ #[.agg #[.p (X+1)]]) (· <w5.heap.size+1+1) (W.alloc (.cells #[.func (.func 110) #[.agg #[.p (X+1)]] #[],.i 3,.func (.func 111) #[.agg #[.p (X+1)]] #[],.i 6,.func (.func 112) #[.agg #[.p (X+1)]] #[],.i 5,.func (.func 113) #[.agg #[.p (X+1)]] #[],.i 1,.func (.func 114) #[.agg #[.p (X+1)]] #[],.i 4,.func (.func 115) #[.agg #[.p (X+1)]] #[],.i 4,.func (.func 116) #[.agg #[.p (X+1)]] #[],.i 4] 170)) (.slice (some ⟨w5.heap.size+1,0,none⟩) 7 7) (kc d h ts)):=by rw [<-ao];exact Fe W 170 #[.agg #[.p (X+1)]] (kc d h ts) (by simp [kc])
    have av:=ag (fun o=>(br W.heap.size W).alloc (nlq _) o);have bb:=ag bv;have ah:Hid (∀(V:World) (o:Obj),Below (W.alloc o).heap.size (W.alloc o) V->Bl w5 V/\V.heap[w5.heap.size]? =some (.cells #[.p (X+1)] 88 (0,0))):=fun V o hV=>by have bx:Bl W V:=(av.o o).trans (hV.mono (av.o o).size);exact ⟨bc.o.trans (bx.mono bc.o.size),(bx.block _ (bz bb.o)).trans bb.o⟩
    clear aa bv ao;go_wp2_with fail;refine (od _ _ _).mono ?_;rintro r w7 ⟨rfl,⟨N,rfl⟩ | ⟨N,rfl⟩⟩
    ·exact absurd N (by simp)
    clear N;go_wp2_with fail;rw [<-bs.o];refine (zjf _ (w7.heap.size+1+1) _ _ (kc d h ts) bm.o (by rw [bs.o];simp) (zk6 d h ts) (zk7 d h ts) ?_).mono ?_
    ·intro k hk ac V hV;exact zk9 V X B _ _ _ _ _ _ _ vA h d ts (ay.o.below (ah.o _ _ hV).1) HZ.o HL.o cm.o bu.o.2 k hk ac
    rintro r w8 ⟨⟨hc,rfl⟩ | ⟨hc,rfl⟩,a4⟩
    ·have O:=(ah.o _ _ a4).1;exact ⟨rfl,E.o.trans (O.mono E.o.size),Or.inr ⟨by rw [az.o];exact hc,by rw [az.o]⟩⟩
    obtain ⟨O,a2⟩:=ah.o _ _ a4;have b4:Bl w w8:=E.o.trans (O.mono E.o.size);have G:w8.heap[w.heap.size+2]? =some (.cells #[.pointer none] 88 (0,0)):=((Z.o.trans (O.mono Z.o.size)).block (w.heap.size+2) (bz be.o)).trans be.o;have c8:=bp a2 0 (x:=.p (X+1)) rfl;have df:=bz a2;have cn:=bp G 0 (x:=.pointer none) rfl;have dk:=pj G 0;have dg:=bz G;have cf:=ag (ay.o.below O);have bf:Hid (dt d h=0):=az.o.trans hc;have hg:=ow (World.grownBy.refl w8 (some (w.heap.size+2))) ⟨w.heap.size+2,0,none⟩ (.p (X+1)) (Or.inl rfl);have ch:=ag (cf.o.grown hg (by have:=bn.o.le;omega) (by omega));have ce:=ag (rn b4 hg (by omega));have ck:=ag (World.cell?_setCell_same w8 ⟨w.heap.size+2,0,none⟩ (.p (X+1)) cn);clear a4 O a2 b4 G hc hg bm av ah;go_wp2_with fail;exact bodyPost_ret (v:=.agg #[.p (X+1)]) (by simp [results,results53,go_sem,ck.o]) rfl ⟨ce.o,Or.inl ⟨bf.o,X,vA,ts,rfl,cl.o,by omega,ch.o⟩⟩
   have HR:Hid (dt d h=1):=by show dt d h=1;rw [bl.o,b6]
   clear b6;go_wp2_with fail;refine (od _ _ _).mono ?_;rintro r w7 ⟨rfl,⟨N,rfl⟩ | ⟨N,rfl⟩⟩
   ·exact ⟨rfl,E.o,Or.inr ⟨by rw [HR.o];decide,by rw [HR.o]⟩⟩
   exact absurd N (by simp)
structure Hd (B:Nat) (w:World) (vW vO kC kS kF kN kT:Value) (h:ar) (d:bd):Prop where
 sW:SL 1 RI (· <B) w vW h.ab
 sO:SL 1 RI (· <B) w vO h.am
 lk:mt (· <B) w kC kS kF kN kT d
 le:B<=w.heap.size
 ww:∀x∈h.ab,(Lit.int .i64 x).wf=true
 wn:∀x∈h.am,(Lit.int .i64 x).wf=true
theorem Hd.below {B:Nat} {w w':World} {N L E I F G J:Value} {h:ar} {d:bd} (g:Hd B w N L E I F G J h d) (D:Below B w w'):Hd B w' N L E I F G J h d:=
 have A:=Kp.below D
 ⟨g.sW.keptI A,g.sO.keptI A,g.lk.kept A,lt3 g.le D.size,g.ww,g.wn⟩
theorem Hd.agg {B:Nat} {w:World} {vW vO Z kS kF kN kT:Value} {h:ar} {d:bd} (g:Hd B w vW vO Z kS kF kN kT h d):∃J Y F V A L G W D N E O I X,vW=.slice J h.ab.length Y/\vO=.slice F h.am.length V/\Z=.slice A d.aj.length L/\kS=.slice G d.bg.length W/\kF=.slice D d.fields.length N/\kN=.slice E d.names.length O/\kT=.slice I d.ax.length X:=by obtain ⟨A,L,G,W,D,N,E,O,I,X,e1,e2,e3,e4,e5⟩:=g.lk.agg;obtain ⟨J,Y,e6,-⟩:=g.sW;obtain ⟨F,V,e7,-⟩:=g.sO;exact ⟨_,_,_,_,_,_,_,_,_,_,_,_,_,_,e6,e7,e1,e2,e3,e4,e5⟩
theorem zld {B:Nat} {w:World} {J I A F D E G:Value} {h:ar} {d:bd} (g:Hd B w J I A F D E G h d):
 Calls prog 53 #[.agg #[J,.i h.ae,.i h.old,.i h.bo,.i h.ba,I,.i h.next],.agg #[A,F,D,E,G]] w fun r w'=>Bl w w'/\zv w B J I A F D E G h d r w':=zlc w B _ _ _ _ _ _ _ h d g.sW g.sO g.lk g.le g.ww g.wn
theorem zle (w:World) (B P Q:Nat) (V O G L I J N:Value) (h:ar) (d:bd) (g:Hd B w V O G L I J N h d) (D:w.heap[P]? =some (.cells #[V,.i h.ae,.i h.old,.i h.bo,.i h.ba,O,.i h.next] 24 (0,0))) (E:w.heap[Q]? =some (.cells #[G,L,I,J,N] 36 (0,0))):
 Calls prog 52 #[.p P,.p Q] w fun r w'=>pc (dt d h) r/\Bl w w':=by
 have A:=ag (zld g);have aa:=bz D;have ac:=bz E;have Z:=ip D;have ek:=cells5 E;obtain ⟨aW,cW,aO,cO,aC,cC,aS,cS,aF,cF,aN,cN,aT,cT,rfl,rfl,rfl,rfl,rfl,rfl,rfl⟩:=g.agg;clear g D E;go_enter func52,ntmps52;go_wp2_with fail;refine A.o.mono ?_;rintro r w1 ⟨F,⟨h0,X,vA,ts,rfl,-⟩ | ⟨h0,rfl⟩⟩
 ·have Y:=ag h0;have W:=ag F;clear h0 F Z ek;go_wp2_with fail;go_end0;exact ⟨Or.inr ⟨Y.o,rfl⟩,W.o⟩
 exact ⟨rfl,Or.inl ⟨h0,rfl⟩,F⟩
theorem yf (args:Array Value) (w:World):(callFunc 52 args).run prog w=.ok (.enter 52 args) w:=by kernel_rfl
theorem zlf (w:World) (B:Nat) (vW vO kC kS kF kN kT:Value) (h:ar) (d:bd) (g:Hd B w vW vO kC kS kF kN kT h d):
 Calls prog 20 #[.agg #[vW,.i h.ae,.i h.old,.i h.bo,.i h.ba,vO,.i h.next],.agg #[kC,kS,kF,kN,kT]] w fun r w'=>r=.returned (.i (dt d h))/\Bl w w':=by
 have ai:=qj prog;have HG:=ag g;obtain ⟨L,Z,G,W,D,N,I,X,E,O,F,V,J,Y,rfl,rfl,rfl,rfl,rfl,rfl,rfl⟩:=g.agg;clear g;have aa:=(br w.heap.size w).alloc (nlq _) (.cells #[.slice L h.ab.length Z,.i h.ae,.i h.old,.i h.bo,.i h.ba,.slice G h.am.length W,.i h.next] 24);have ac:=aa.alloc aa.size (.cells #[.slice D d.aj.length N,.slice I d.bg.length X,.slice E d.fields.length O,.slice F d.names.length V,.slice J d.ax.length Y] 36);have A:=ac.alloc ac.size (.cells #[.i 0,.i 0] 84);have ak:(((w.alloc (.cells #[.slice L h.ab.length Z,.i h.ae,.i h.old,.i h.bo,.i h.ba,.slice G h.am.length W,.i h.next] 24)).alloc (.cells #[.slice D d.aj.length N,.slice I d.bg.length X,.slice E d.fields.length O,.slice F d.names.length V,.slice J d.ax.length Y] 36)).alloc (.cells #[.i 0,.i 0] 84)).heap[w.heap.size]? =some (.cells #[.slice L h.ab.length Z,.i h.ae,.i h.old,.i h.bo,.i h.ba,.slice G h.am.length W,.i h.next] 24 (0,0)):=(Below.heap_alloc _ _ _ (by simp;omega)).trans ((Below.heap_alloc _ _ _ (by simp)).trans (heap_alloc_new w _));have al:(((w.alloc (.cells #[.slice L h.ab.length Z,.i h.ae,.i h.old,.i h.bo,.i h.ba,.slice G h.am.length W,.i h.next] 24)).alloc (.cells #[.slice D d.aj.length N,.slice I d.bg.length X,.slice E d.fields.length O,.slice F d.names.length V,.slice J d.ax.length Y] 36)).alloc (.cells #[.i 0,.i 0] 84)).heap[w.heap.size+1]? =some (.cells #[.slice D d.aj.length N,.slice I d.bg.length X,.slice E d.fields.length O,.slice F d.names.length V,.slice J d.ax.length Y] 36 (0,0)):=(Below.heap_alloc _ _ _ (by simp)).trans (by
  have:=heap_alloc_new (w.alloc (.cells #[.slice L h.ab.length Z,.i h.ae,.i h.old,.i h.bo,.i h.ba,.slice G h.am.length W,.i h.next] 24)) (.cells #[.slice D d.aj.length N,.slice I d.bg.length X,.slice E d.fields.length O,.slice F d.names.length V,.slice J d.ax.length Y] 36);simpa using this)
 have ad:=ag ak;have af:=ag al;clear ak al;go_enter func20,ntmps20;go_wp2_with fail;refine (zb6 52 _ _ (fun w1=>dt d h=0/\Bl w w1) (fun e p w1=>dt d h=e/\Bl w w1) (yf _) ?hc).mono ?_
 case hc=>
  refine (zle _ B w.heap.size (w.heap.size+1) _ _ _ _ _ _ _ h d (HG.o.below (A.mono HG.o.le)) ad.o af.o).mono ?_;rintro r w1 ⟨hr,hb⟩;have ah:=A.trans (hb.mono A.size);refine ⟨?_,?_⟩
  ·rw [hb.block ((w.alloc (.cells #[.slice L h.ab.length Z,.i h.ae,.i h.old,.i h.bo,.i h.ba,.slice G h.am.length W,.i h.next] 24)).alloc (.cells #[.slice D d.aj.length N,.slice I d.bg.length X,.slice E d.fields.length O,.slice F d.names.length V,.slice J d.ax.length Y] 36)).heap.size (by simp)];exact heap_alloc_new _ _
  rcases hr with ⟨hc,rfl⟩ | ⟨hc,rfl⟩
  ·exact Or.inr ⟨_,_,rfl,rfl,ah⟩
  exact Or.inl ⟨rfl,hc,ah⟩
 rintro r w2 ⟨w1,hg,hr⟩;have hz:((w.alloc (.cells #[.slice L h.ab.length Z,.i h.ae,.i h.old,.i h.bo,.i h.ba,.slice G h.am.length W,.i h.next] 24)).alloc (.cells #[.slice D d.aj.length N,.slice I d.bg.length X,.slice E d.fields.length O,.slice F d.names.length V,.slice J d.ax.length Y] 36)).heap.size=w.heap.size+2:=by simp
 rw [hz]at hg;clear aa ac A hz ad af;rcases hr with ⟨rfl,hc,hB⟩ | ⟨e,p,rfl,hc,hB⟩
 ·have HC:=ag hc;have HB:=ag (rn hB hg (by omega));clear hc hg hB ai HG;have an:=qh;go_wp2
  go_ret;exact ⟨by rw [HC.o];rfl,HB.o⟩
 have HC:=ag hc;have HB:=ag (rn hB hg (by omega));clear hc hg hB ai HG;have an:=qh;go_wp2
 go_ret;exact ⟨by rw [HC.o];rfl,HB.o⟩
end Go.Proofs.YtjdnmblggdobgaaGreat
