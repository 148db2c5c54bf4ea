import Derived.Test.YtjdnmblggdobgaaGreatJHxWHxX
set_option maxHeartbeats 8000000
set_option maxRecDepth 100000
namespace Go.Proofs.YtjdnmblggdobgaaGreat
open Go.RowKit Go.Maps Tryz
def vr:ar:=ir rm 1 5 false
section
theorem z2q:gu (qi baseD) rm [0] 1 5=0:=by kernel_rfl
theorem z2r:kd rm false 5=true:=by kernel_rfl
theorem z2s:dv (qi baseD) vr [1]=0:=by kernel_rfl
theorem z2t:dp (qi baseD) vr [1]=8:=by kernel_rfl
theorem z2u:wfL vr.ab=true:=by kernel_rfl
theorem z2v:vr.am= []:=by kernel_rfl
theorem z2w:vr.ab.length=41:=by kernel_rfl
end
theorem z2x (w:World) (B:Nat) (vW vO W Z X Y kT:Value) (d:bd) (hd:d=qi baseD) (g:Hd B w vW vO W Z X Y kT rm d) (O:Value) (hs:SL 1 RI (· <B) w O [0]):
 Calls prog 46 #[.agg #[vW,.i 20,.i 20,.i 1,.i 21,vO,.i 1],.agg #[W,Z,X,Y,kT],O,.i 1,.i 5] w fun r w'=>Bl w w'/\∃F D E A N G,r=.returned (.tuple #[.agg #[.slice F 41 D,.i 20,.i 20,.i 9,.i 21,.slice E 0 A,.i 2],.slice N 1 G,.i 1,.bool true,.i 0])/\ni w.heap.size w' (.slice F 41 D) (.slice E 0 A) vr:=by
 subst hd;refine (z2p w B _ _ _ _ _ _ _ rm (qi baseD) g O [0] hs (by intro x V;rw [List.mem_singleton]at V;subst V;decide) 1 5).mono ?_;rintro r w' ⟨hb,y,l,aa,ok,e,F,D,E,A,N,G,rfl,ho⟩;rcases ho with ⟨rfl,-,L,J,-⟩ | ⟨-,I,-⟩
 ·obtain ⟨rfl,rfl,rfl,rfl⟩:=L.room z2r;exact ⟨hb,F,D,E,A,N,G,by kernel_rfl,J⟩
 exact absurd z2q I
theorem z2y (w:World) (B:Nat) (N L E I F G J:Value) (d:bd) (V:d=qi baseD) (g:Hd B w N L E I F G J vr d) (A:Value) (W:SL 1 RI (· <B) w A [1]):
 Calls prog 40 #[.agg #[N,.i 20,.i 20,.i 9,.i 21,L,.i 2],.agg #[E,I,F,G,J],A] w fun r w'=>Bl w w'/\r=.returned (.tuple #[.i 8,.i 0]):=by
 subst V;refine (zyw w B _ _ _ _ _ _ _ vr (qi baseD) g A [1] W (by intro x D;rw [List.mem_singleton]at D;subst D;decide)).mono ?_;rintro r w' ⟨O,⟨-,rfl⟩ | ⟨hc,rfl⟩⟩
 ·exact ⟨O,by rw [z2t]⟩
 exact absurd z2s hc
theorem z2z (w:World):Calls prog 42 #[] w fun r w'=>r=.returned (.bool true)/\Bl w w':=by
 go_enter func42,ntmps42;go_wp2_with fail;refine (zm6 w).mono ?_;rintro r w1 ⟨bi,v,rfl,hv⟩;have HL:=ag (zkc w1 w1.heap.size baseD v hv (nlq _));obtain ⟨ao,cl,rfl,-⟩:=hv;have aw:=ag bi;clear bi;go_wp2_with fail;refine HL.o.mono ?_;rintro r L ⟨bl,⟨-,kC,kS,kF,kN,kT,rfl,ak⟩ | ⟨h0,rfl⟩⟩
 rotate_left
 ·exact absurd zm4 h0
 obtain ⟨A,a4⟩:∃A,A=qi baseD:=⟨_,rfl⟩;rw [<-a4]at ak;have bm:=ak.mono (M':=(· <L.heap.size)) (fun _ W=>W.2);obtain ⟨aC,cC,aS,cS,aF,cF,aN,cN,aT,cT,rfl,rfl,rfl,rfl,rfl⟩:=ak.agg;have HD:=ag a4;have ay:Hid (Bl w L):=aw.o.trans (bl.mono aw.o.size);obtain ⟨W3,af⟩:∃W3,W3=L.alloc (.cells #[.slice aC A.aj.length cC,.slice aS A.bg.length cS,.slice aF A.fields.length cF,.slice aN A.names.length cN,.slice aT A.ax.length cT] 36):=⟨_,rfl⟩;have a1:Bl L W3:=af ▸ (br _ _).alloc (nlq _) _;have k3:W3.heap[L.heap.size]? =some (.cells #[.slice aC A.aj.length cC,.slice aS A.bg.length cS,.slice aF A.fields.length cF,.slice aN A.names.length cN,.slice aT A.ax.length cT] 36 (0,0)):=af ▸ heap_alloc_new L _;have bb:=ag (bm.kept (Kp.below a1));have G:=ag k3;have az:Hid (Bl w W3):=ay.o.trans (a1.mono ay.o.size);have b1:=ag af;clear HL bl ak bm a4 a1 k3 af aw;go_wp2_with fail;rw [<-b1.o];refine (znl W3).mono ?_;rintro r w4 ⟨F,n4,c4,rfl,av⟩;have b6:=F.size;obtain ⟨D,Y⟩:∃D,D=w4.alloc (.cells #[.slice n4 41 c4,.i 20,.i 20,.i 1,.i 21,.nl,.i 1] 24):=⟨_,rfl⟩;have a2:Bl w4 D:=Y ▸ (br _ _).alloc (nlq _) _;have k5:D.heap[w4.heap.size]? =some (.cells #[.slice n4 41 c4,.i 20,.i 20,.i 1,.i 21,.nl,.i 1] 24 (0,0)):=Y ▸ heap_alloc_new w4 _;have b7:D.heap.size=w4.heap.size+1:=by rw [Y];simp
 have E:Bl W3 D:=F.trans (a2.mono b6);have C8:=bz G.o;have bn:=(E.block _ C8).trans G.o;have g5:Hd D.heap.size D (.slice n4 41 c4) (.nl) (.slice aC A.aj.length cC) (.slice aS A.bg.length cS) (.slice aF A.fields.length cF) (.slice aN A.names.length cN) (.slice aT A.ax.length cT) rm A:=Hd.of_own (av.below a2) (bb.o.kept (Kp.below (E.mono (by omega)))) (by omega) (by rw [znj.1];omega) (by rw [zni.1];simp) (zne znf) (by rw [zni.1];simp);obtain ⟨I,Z⟩:∃I,I=D.alloc (.cells #[.i 0] 3):=⟨_,rfl⟩;have bf:Bl D I:=Z ▸ (br _ _).alloc (nlq _) _;have bs:I.heap[D.heap.size]? =some (.cells #[.i 0] 3 (0,0)):=Z ▸ heap_alloc_new D _;have cm:I.heap.size=D.heap.size+1:=by rw [Z];simp
 have X:SL 1 RI (· <I.heap.size) I (.slice (some ⟨D.heap.size,0,none⟩) 1 1) [0]:=by have ho:I.ownsRow 0 3 1 (.slice (some ⟨D.heap.size,0,none⟩) 1 1) 1 (bw [0]):=⟨rfl,Or.inr ⟨D.heap.size,1,_,rfl,n0q _,bs,nlq _,by unfold maxLen;omega,rfl,rfl⟩⟩;exact (ru (ns:=[0]) ho (by simp)).monoI fun _ W=>W.lt
 rw [b7]at X;have O:=g5.below bf;have bc:=ag (z2x I _ _ _ _ _ _ _ _ A HD.o ⟨O.sW.monoI fun _ W=>by have:_<D.heap.size:=W;show _<I.heap.size;omega,O.sO.monoI fun _ W=>by have:_<D.heap.size:=W;show _<I.heap.size;omega,O.lk.mono fun _ W=>by have:_<D.heap.size:=W;show _<I.heap.size;omega,nlq _,O.ww,O.wn⟩ _ X);have b3:=ag Z;have a6:=ag bf;clear Z bs X O;have l4:L.heap.size<w4.heap.size:=by omega
 have e0:=(F.cell (p:=⟨L.heap.size,0,none⟩) C8).trans (bp G.o 0 (x:=.slice aC A.aj.length cC) rfl);have e1:=(F.cell (p:=⟨L.heap.size,1,none⟩) C8).trans (bp G.o 1 (x:=.slice aS A.bg.length cS) rfl);have e2:=(F.cell (p:=⟨L.heap.size,2,none⟩) C8).trans (bp G.o 2 (x:=.slice aF A.fields.length cF) rfl);have e3:=(F.cell (p:=⟨L.heap.size,3,none⟩) C8).trans (bp G.o 3 (x:=.slice aN A.names.length cN) rfl);have e4:=(F.cell (p:=⟨L.heap.size,4,none⟩) C8).trans (bp G.o 4 (x:=.slice aT A.ax.length cT) rfl);have a9:=ag k5;have a8:Hid (Bl w D):=az.o.trans (E.mono az.o.size);have ca:=ag E;have b0:=ag (bb.o.kept (Kp.below (E.mono (by omega))));have al:=ag bn;have b2:=ag Y;clear F av a2 k5 E bn g5 Y;go_wp2_with fail;rw [<-b2.o,<-b3.o];refine bc.o.mono ?_;rintro r w6 ⟨au,nW,dW,nO,dO,nR,dR,rfl,J⟩;have V:Bl D w6:=a6.o.trans (au.mono a6.o.size);have ci:=V.size;have k6:=(V.block _ (bz a9.o)).trans a9.o;have bo:=(V.block _ (bz al.o)).trans al.o;have bh:Bl w w6:=a8.o.trans (V.mono a8.o.size);have ck:=az.o.size;have ce:=ay.o.size;obtain ⟨N,h9,ah,hq,hr,rz,rl⟩:=B7 k6 [.slice nW 41 dW,.i 20,.i 20,.i 9,.i 21,.slice nO 0 dO,.i 2] rfl;have rk:=Cy hr;have qk:=Cy hq;have cj:=ah.size;have a0:=ag (rn (bh) ah (by omega));have ad:=ag ah;simp only [pf,Nat.reduceAdd]at h9;have H9:=ag h9;clear ah hq hr h9;have a5:ni I.heap.size N (.slice nW 41 dW) (.slice nO 0 dO) vr:=J.grown ad.o (fun e=>by have:=(J.rW.lt _ e).1;omega) (fun e=>by have:=(J.rO.lt _ e).1;omega);have ai:=(b0.o.kept (Kp.below (V.mono (by omega)))).kept (M:=(· <L.heap.size)) ⟨ad.o.size,fun k W hl=>ad.o.block k hl (by have:=W;intro e;injection e;omega)⟩;have k9:=(ad.o.block L.heap.size (by omega) (by intro e;injection e;omega)).trans bo;have g9:Hd N.heap.size N (.slice nW 41 dW) (.slice nO 0 dO) (.slice aC A.aj.length cC) (.slice aS A.bg.length cS) (.slice aF A.fields.length cF) (.slice aN A.names.length cN) (.slice aT A.ax.length cT) vr A:=Hd.of_own a5 ai (by omega) (by rw [z2w];omega) (by rw [z2v];simp) (zne z2u) (by rw [z2v];simp);obtain ⟨WB,aa⟩:∃I,I=N.alloc (.cells #[.i 1] 3):=⟨_,rfl⟩;have a3:Bl N WB:=aa ▸ (br _ _).alloc (nlq _) _;have bu:WB.heap[N.heap.size]? =some (.cells #[.i 1] 3 (0,0)):=aa ▸ heap_alloc_new N _;have cn:WB.heap.size=N.heap.size+1:=by rw [aa];simp
 have an:SL 1 RI (· <WB.heap.size) WB (.slice (some ⟨N.heap.size,0,none⟩) 1 1) [1]:=by have ho:WB.ownsRow 0 3 1 (.slice (some ⟨N.heap.size,0,none⟩) 1 1) 1 (bw [1]):=⟨rfl,Or.inr ⟨N.heap.size,1,_,rfl,n0q _,bu,nlq _,by unfold maxLen;omega,rfl,rfl⟩⟩;exact (ru (ns:=[1]) ho (by simp)).monoI fun _ W=>W.lt
 have gB:=Hd.of_own (a5.below a3) (ai.kept (Kp.below (a3.mono (by omega)))) (by omega) (by rw [z2w];omega) (by rw [z2v];simp) (zne z2u) (by rw [z2v];simp);have be:=ag (z2y WB _ _ _ _ _ _ _ _ A HD.o gB _ an);have b4:=ag aa;have a7:=ag a3;clear aa bu an gB;have ok:=cells5 k9;have co:∀j,N.frozen? ⟨w4.heap.size,j,none⟩=false:=by rw [<-H9.o];exact znk _ [.slice nW 41 dW,.i 20,.i 20,.i 9,.i 21,.slice nO 0 dO,.i 2] w6 0 rz
 have cc:=ag k9;have ch:=ag ai;have cf:=a0.o.size;have b5:=H9.o;clear V au J k6 bo bh a5 ai k9 g9 bc e0 e1 e2 e3 e4;go_wp2_with fail;rw [<-b4.o];refine be.o.mono ?_;rintro r bv ⟨ac,rfl⟩;have ap:Bl N bv:=a7.o.trans (ac.mono a7.o.size);have bx:Hid (Bl w bv):=a0.o.trans (ap.mono a0.o.size);clear ap ac be b5;go_wp2_with fail;go_ret;exact ⟨rfl,bx.o⟩
structure SpT (d:bd) (h:ar) (rs:List Int) (tag ln:Int) (y:ar) (l:List Int) (at1:Int) (ok:Bool) (ty:List bk):Prop where
 right:Right d y ty
 lead:∀v∈l,b8 ty v=true
 len:l.length=rs.length
 shape:ii d y l=ii d h rs
 ww:∀v∈y.ab,(Lit.int .i64 v).wf=true
 wn:∀v∈y.am,(Lit.int .i64 v).wf=true
 nx:y.next<=9223372036854775807
 yes:ok=true->⟨at1,tag,ln,h.next⟩∈ty/\at1∉l/\1<=at1
 no:ok=false->at1=0/\h.old<dp d h rs+3+ln
theorem Ey.told {d:bd} {h y:ar} {rs l:List Int} {A len D:Int} {ok:Bool} (s:Ey d h rs A len y l D ok) (I:dq d.aj.length A=true) (F:cg d.fields A len=true) (N:h.next<=4611686018427387904) (G:(Lit.int .i64 h.next).wf=true) (O:(Lit.int .i64 A).wf=true) (E:(Lit.int .i64 len).wf=true):∃J,SpT d h rs A len y l D ok J:=by
 obtain ⟨x,tx,a,⟨L,h1,rfl,rfl,rfl,-⟩ | ⟨h1,rfl,rfl,rfl,-⟩⟩:=s
 ·obtain ⟨J,m⟩:=a.make I F h1 N G O E;exact ⟨J,m.right,m.lead,m.len,m.shape,m.ww,m.wn,m.nx,fun _=>⟨m.th,m.new,m.pos⟩,fun e=>by cases e⟩
 exact ⟨tx,a.right,a.lead,a.len,a.shape,a.ww,a.wn,(by rw [a.nx];omega),fun e=>(by cases e),fun _=>⟨rfl,h1⟩⟩
theorem z20 {d:bd} {h:ar} {rs:List Int} {A len:Int} (h0:gu d h rs A len=0):dv d h rs=0/\dq d.aj.length A=true/\cg d.fields A len=true:=by
 unfold gu at h0;by_cases h1:dv d h rs=0
 ·rw [if_pos h1]at h0;cases h2:dq d.aj.length A with
  | false=>rw [h2]at h0;simp at h0
  | true=>
    cases h3:cg d.fields A len with
    | false=>rw [h2,h3]at h0;simp at h0
    | true=>exact ⟨h1,rfl,rfl⟩
 rw [if_neg h1]at h0;exact absurd h0 h1
theorem z21 {l:List Int} {v:Int} (h:v∉l):jv l v<0:=by
 rcases zxe l v with ⟨-,A⟩ | ⟨k,h1,-⟩
 ·omega
 exact absurd (List.mem_of_getElem? h1) h
theorem z23 {d:bd} {h:ar} {ts:List bk} (r:Right d h ts) {rs:List Int} (E:∀v∈rs,b8 ts v=true):0<=dp d h rs/\dp d h rs<=1000000:=by
 obtain ⟨N,O⟩:=Fs r E;have F:∀v∈cz d h rs,∃t∈ts,t.loc=v:=fun v A=>Fr r E ((O v).1 A);have h1:=z1f r N F;have W:=r.sized.ae;have X:=r.sized.old;have Y:=r.sized.len;have h0:∀(l:List Int),(∀v∈l,∃t∈ts,t.loc=v)->0<=(l.map fun a=>3+wd h.ab (a+1)).sum:=by
  intro l;induction l with
  | nil=>intro _;exact Int.le_refl _
  | cons a l ih=>
    intro D;have i:=ih fun v A=>D v (List.mem_cons_of_mem _ A);obtain ⟨t,G,e⟩:=D a (List.mem_cons_self ..);have I:t.len=wd h.ab (t.loc+1):=congrArg bk.len (pg r G);have J:=wv r.sized r.both t G;have L:t.fin=t.loc+3+t.len:=rfl;rw [List.map_cons,List.sum_cons,<-e,<-I];omega
 have V:=h0 _ F;unfold dp;omega
theorem ut (w:World) (B:Nat) (vW vO kC kS kF kN kT:Value) (h:ar) (d:bd) (g:Hd B w vW vO kC kS kF kN kT h d) (vR:Value) (rs:List Int) (hs:SL 1 RI (· <B) w vR rs) (b2:∀x∈rs,(Lit.int .i64 x).wf=true) (G len:Int) (cy:(Lit.int .i64 h.next).wf=true) (c2:(Lit.int .i64 G).wf=true) (cv:(Lit.int .i64 len).wf=true):
 Calls prog 15 #[.agg #[vW,.i h.ae,.i h.old,.i h.bo,.i h.ba,vO,.i h.next],.agg #[kC,kS,kF,kN,kT],vR,.i G,.i len] w fun r w'=>r=.returned (.bool true)/\Bl w w':=by
 have HG:=ag g;have cn:=ag hs;obtain ⟨aW,cW,aO,cO,aC,cC,aS,cS,aF,cF,aN,cN,aT,cT,rfl,rfl,rfl,rfl,rfl,rfl,rfl⟩:=g.agg;obtain ⟨aR,cR,rfl,-⟩:=hs;clear g;obtain ⟨W0,b7,a0,c0,k0,k1⟩:=ro w #[.slice aW h.ab.length cW,.i h.ae,.i h.old,.i h.bo,.i h.ba,.slice aO h.am.length cO,.i h.next] #[.slice aC d.aj.length cC,.slice aS d.bg.length cS,.slice aF d.fields.length cF,.slice aN d.names.length cN,.slice aT d.ax.length cT] 24 36;have ah:=bz k0;have xn:=bz k1;have W:=ag a0;have a3:=ag b7;have F:=ag (And.intro k0 k1);have a7:Hid (∀V,Bl W0 V->Hd B V (.slice aW h.ab.length cW) (.slice aO h.am.length cO) (.slice aC d.aj.length cC) (.slice aS d.bg.length cS) (.slice aF d.fields.length cF) (.slice aN d.names.length cN) (.slice aT d.ax.length cT) h d):=fun V I=>HG.o.below ((a0.trans (I.mono a0.size)).mono HG.o.le);have bs:Hid (∀V,Bl W0 V->SL 1 RI (· <B) V (.slice aR rs.length cR) rs):=fun V I=>cn.o.keptI (Kp.below ((a0.trans (I.mono a0.size)).mono HG.o.le));have aw:=ag fun V (I:Bl W0 V)=>zyw V B _ _ _ _ _ _ _ h d (a7.o V I) _ rs (bs.o V I) b2;have ay:=ag fun V (I:Bl W0 V)=>z2p V B _ _ _ _ _ _ _ h d (a7.o V I) _ rs (bs.o V I) b2 G len;have ao:=ag (z2z W0);rw [a3.o]at ao;clear a0 b7 c0 k0 k1 b2;by_cases a5:4611686018427387904<h.next
 ·have ct:decide (4611686018427387904<h.next)=true:=decide_eq_true a5;clear aw ay a5;go_enter func15,ntmps15;go_wp2_with fail;refine ao.o.mono ?_;rw [<-a3.o];rintro r w1 ⟨rfl,D⟩;have N:=(D.block _ ah).trans F.o.1;have O:=(D.block _ xn).trans F.o.2;have ac:=ip N;have bc:=cells5 O;have af:=ag D;have bm:Hid (Bl w w1):=W.o.trans (D.mono W.o.size);clear D N O;go_wp2_with fail;go_ret;exact ⟨by simp,bm.o⟩
 have ct:decide (4611686018427387904<h.next)=false:=decide_eq_false a5;by_cases hS:gu d h rs G len=0
 ·obtain ⟨hE,b1,bx⟩:=z20 hS;obtain ⟨ts,rt,cj,b0⟩:=z0m hE;have ak:Hid (∀V,Bl W0 V->Calls prog 46 #[.agg #[.slice aW h.ab.length cW,.i h.ae,.i h.old,.i h.bo,.i h.ba,.slice aO h.am.length cO,.i h.next],.agg #[.slice aC d.aj.length cC,.slice aS d.bg.length cS,.slice aF d.fields.length cF,.slice aN d.names.length cN,.slice aT d.ax.length cT],.slice aR rs.length cR,.i G,.i len] V fun r w'=>Bl V w'/\∃(y:ar) (l:List Int) (L:Int) (ok:Bool) (nW:Option Addr) (Y:Nat) (nO:Option Addr) (dO:Nat) (nR:Option Addr) (dR:Nat) (ty:List bk),r=.returned (.tuple #[.agg #[.slice nW y.ab.length Y,.i y.ae,.i y.old,.i y.bo,.i y.ba,.slice nO y.am.length dO,.i y.next],.slice nR l.length dR,.i L,.bool ok,.i 0])/\SpT d h rs G len y l L ok ty/\ni V.heap.size w' (.slice nW y.ab.length Y) (.slice nO y.am.length dO) y/\w'.ownsRow V.heap.size 3 1 (.slice nR l.length dR) l.length (bw l)):=fun V I=>(ay.o V I).mono fun r w' ⟨hb,q⟩=>by
   obtain ⟨y,l,L,ok,e,nW,Y,nO,dO,nR,dR,q1,⟨q0,q2,q3,q4,q5⟩ | ⟨-,q2,-⟩⟩:=q
   ·subst q0;obtain ⟨ty,hst⟩:=q3.told b1 bx (by omega) cy c2 cv;exact ⟨hb,y,l,L,ok,nW,Y,nO,dO,nR,dR,ty,q1,hst,q4,q5⟩
   exact absurd hS q2
  have an:Hid (∀V,Bl W0 V->Calls prog 40 #[.agg #[.slice aW h.ab.length cW,.i h.ae,.i h.old,.i h.bo,.i h.ba,.slice aO h.am.length cO,.i h.next],.agg #[.slice aC d.aj.length cC,.slice aS d.bg.length cS,.slice aF d.fields.length cF,.slice aN d.names.length cN,.slice aT d.ax.length cT],.slice aR rs.length cR] V fun r w'=>Bl V w'/\r=.returned (.tuple #[.i (dp d h rs),.i 0])):=fun V I=>(aw.o V I).mono fun r w' ⟨hb,q⟩=>by
   rcases q with ⟨q0,q⟩ | ⟨q0,q⟩
   ·exact ⟨hb,q⟩
   exact absurd hE q0
  have a8:=ag (And.intro rt (And.intro cj b0));have dk:0<=dp d h rs/\dp d h rs<=1000000:=z23 rt b0;have c4:0<=len/\len<=1000000:=z2n rt b1 bx;have dz:IntKind.i64.wrap (dp d h rs+3)=dp d h rs+3:=by rw [IntKind.wrap_i64];omega
  have d0:IntKind.i64.wrap (dp d h rs+3+len)=dp d h rs+3+len:=by rw [IntKind.wrap_i64];omega
  have dd:=ag rt.sized.old;clear ay aw hS hE rt b0 cj b1 bx;go_enter func15,ntmps15;go_wp2_with fail;refine ao.o.mono ?_;rw [<-a3.o];rintro r w1 ⟨rfl,D⟩;have N:=(D.block _ ah).trans F.o.1;have O:=(D.block _ xn).trans F.o.2;have ac:=ip N;have bc:=cells5 O;have af:=ag D;have al:=ag (an.o w1 D);clear D N O ao an;go_wp2_with fail;refine al.o.mono ?_;rintro r w2 ⟨au,rfl⟩;clear al;clear ac;clear bc;have A:Bl W0 w2:=af.o.trans (au.mono af.o.size);have N:=(A.block _ ah).trans F.o.1;have O:=(A.block _ xn).trans F.o.2;have ac:=ip N;have bc:=cells5 O;have aa:=ag A;have ai:=ag (ak.o w2 A);clear A au N O ak;go_wp2_with fail;refine ai.o.mono ?_;rintro r w3 ⟨av,y,l,L,ok,nW,Y,nO,dO,nR,dR,ty,rfl,hst,cf,ce⟩;clear ai;clear ac;clear bc;have ap:Bl W0 w3:=aa.o.trans (av.mono aa.o.size);obtain ⟨W4,ca,a9,c1,kx⟩:=mi w3 #[.slice nW y.ab.length Y,.i y.ae,.i y.old,.i y.bo,.i y.ba,.slice nO y.am.length dO,.i y.next] 24;have J:Bl W0 W4:=ap.trans (a9.mono ap.size);have az:=(cf.below a9).mono aa.o.size;have bh:=yy (mf ce a9) aa.o.size;have a4:Hid (∀V,Bl W4 V->Hd V.heap.size V (.slice nW y.ab.length Y) (.slice nO y.am.length dO) (.slice aC d.aj.length cC) (.slice aS d.bg.length cS) (.slice aF d.fields.length cF) (.slice aN d.names.length cN) (.slice aT d.ax.length cT) y d/\SL 1 RI (· <V.heap.size) V (.slice nR l.length dR) l):=fun V I=>by
   have z1:=hst.right.sized.ae;have z2:=hst.right.sized.old;have z3:=hst.right.sized.len;have z6:=(Fp hst.right.err hst.right.both hst.ww).2.2;have hl:=hst.len;have cp:B<=V.heap.size:=lt3 HG.o.le (W.o.trans ((J.trans (I.mono J.size)).mono W.o.size)).size;have hm:∀k,k<B->k<V.heap.size:=fun k hk=>by omega
   have g1:=a7.o V (J.trans (I.mono J.size));exact ⟨⟨(ru (az.below I).rW (by omega)).monoI fun _ hk=>hk.lt,(ru (az.below I).rO (by omega)).monoI fun _ hk=>hk.lt,g1.lk.mono hm,nlq _,hst.ww,hst.wn⟩,(ru (mf bh I) (by have:=a8.o.2.1;omega)).monoI fun _ hk=>hk.lt⟩
  have bi:Hid (Calls prog 39 #[.agg #[.slice aW h.ab.length cW,.i h.ae,.i h.old,.i h.bo,.i h.ba,.slice aO h.am.length cO,.i h.next],.agg #[.slice aC d.aj.length cC,.slice aS d.bg.length cS,.slice aF d.fields.length cF,.slice aN d.names.length cN,.slice aT d.ax.length cT],.slice aR rs.length cR,.agg #[.slice nW y.ab.length Y,.i y.ae,.i y.old,.i y.bo,.i y.ba,.slice nO y.am.length dO,.i y.next],.slice nR l.length dR] W4 fun r w'=>r=.returned (.bool true)/\Bl W4 w'):=by
   have cp:B<=W4.heap.size:=lt3 HG.o.le (W.o.trans (J.mono W.o.size)).size;have hm:∀k,k<B->k<W4.heap.size:=fun k hk=>by omega
   have g1:=a7.o W4 J;have g2:Hd W4.heap.size W4 (.slice aW h.ab.length cW) (.slice aO h.am.length cO) (.slice aC d.aj.length cC) (.slice aS d.bg.length cS) (.slice aF d.fields.length cF) (.slice aN d.names.length cN) (.slice aT d.ax.length cT) h d:=⟨g1.sW.monoI hm,g1.sO.monoI hm,g1.lk.mono hm,nlq _,g1.ww,g1.wn⟩;obtain ⟨gy,sl⟩:=a4.o W4 (br _ _);exact z14 W4 W4.heap.size _ _ _ _ _ _ _ _ _ h y d g2 gy ts ty a8.o.1 hst.right hst.nx _ rs ((bs.o W4 J).monoI hm) a8.o.2.2 a8.o.2.1 _ l sl hst.lead hst.len hst.shape
  have X:=ag hst;have cl:=ag az;have N:=(ap.block _ ah).trans F.o.1;have O:=(ap.block _ xn).trans F.o.2;have ac:=ip N;have bc:=cells5 O;have co:=ag ca;have b5:=ag kx;have b4:=ag J;have c6:w3.heap.size<W4.heap.size:=by omega
  clear ca c1 kx J N O a9 cf ce av ap az bh hst;go_wp2_with fail;rw [<-co.o];refine bi.o.mono ?_;rintro r w5 ⟨rfl,ad⟩;clear ac;clear bc;have b3:=(ad.block _ (bz b5.o)).trans b5.o;have Z:Bl W0 w5:=b4.o.trans (ad.mono b4.o.size);have bl:Hid (Bl w w5):=W.o.trans (Z.mono W.o.size);have N:=(Z.block _ ah).trans F.o.1;have O:=(Z.block _ xn).trans F.o.2;have xc:=ip b3;have ac:=ip N;have bc:=cells5 O;cases ok with
  | false=>
    obtain ⟨h0,h1⟩:=X.o.no rfl;subst h0;have dl:decide (h.old<dp d h rs+3+len)=true:=decide_eq_true h1;generalize dp d h rs=lf at*;clear h1 b3 N O ad Z bi a4;go_wp2_with fail;go_ret;exact ⟨by simp,bl.o⟩
  | true=>
    obtain ⟨be,bf,ci⟩:=X.o.yes rfl;have cc:=wv X.o.right.sized X.o.right.both _ be;have cu:bk.fin ⟨L,G,len,h.next⟩=L+3+len:=rfl;have a1:=pg X.o.right be;have a1:(⟨L,G,len,h.next⟩:bk)=bj y.ab L:=a1;obtain ⟨m,hm⟩:∃m:Nat,L=(m:Int):=⟨L.toNat,by omega⟩;subst hm;have z1:=X.o.right.sized.ae;have z2:=X.o.right.sized.old;have z3:=X.o.right.sized.len;have c3:m+2<y.ab.length:=by have:=cc.2.2;omega
    have e0:y.ab[m]=G:=by rw [<-pi (by omega)];exact (congrArg bk.tag a1).symm
    have e1:y.ab[m+1]=len:=by rw [<-pi (by omega)];exact (congrArg bk.len a1).symm
    have e2:y.ab[m+2]=h.next:=by rw [<-pi (by omega)];exact (congrArg bk.hash a1).symm
    have a6:=(cl.o.below ad).rW;obtain ⟨g,rfl,dg⟩:∃g,nW=some ⟨g,0,none⟩/\g<w5.heap.size:=by
     rcases a6.2 with ⟨e,h0⟩ | ⟨g,cap,df,e,-,hg,-⟩
     ·omega
     injection e with e3 e4 e5;exact ⟨g,e3,bz hg⟩
    have q0:w5.cell? ⟨g,m,none⟩=some (.i G):=by have:=a6.cellAt m (by rw [Nat.mul_one];omega);rw [A8 (by omega),e0]at this;exact this
    have q1:w5.cell? ⟨g,m+1,none⟩=some (.i len):=by have:=a6.cellAt (m+1) (by rw [Nat.mul_one];omega);rw [A8 (by omega),e1]at this;exact this
    have q2:w5.cell? ⟨g,m+2,none⟩=some (.i h.next):=by have:=a6.cellAt (m+2) (by rw [Nat.mul_one];omega);rw [A8 (by omega),e2]at this;exact this
    have ck:Hid (∀V,Bl w5 V->Calls prog 28 #[.agg #[.slice (some ⟨g,0,none⟩) y.ab.length Y,.i y.ae,.i y.old,.i y.bo,.i y.ba,.slice nO y.am.length dO,.i y.next],.agg #[.slice aC d.aj.length cC,.slice aS d.bg.length cS,.slice aF d.fields.length cF,.slice aN d.names.length cN,.slice aT d.ax.length cT],.i (m:Int)] V fun r w'=>r=.returned (.bool true)/\Bl V w'):=fun V I=>by
     obtain ⟨gy,sl⟩:=a4.o V (ad.trans (I.mono ad.size));have:=zri V V.heap.size _ _ _ _ _ _ _ y d gy X.o.right.sized (Ds X.o.right.ok) ty X.o.right.both (m:Int);have ch:(j9 ty (m:Int)).isSome=true:=by rw [Cd];exact List.contains_iff_mem.2 (List.mem_map.2 ⟨_,be,rfl⟩)
     rw [ch]at this;exact this
    have cm:Hid (∀V,Bl w5 V->Calls prog 47 #[.slice nR l.length dR,.i (m:Int)] V fun r w'=>r=.returned (.i (jv l (m:Int)))/\w'=V):=fun V I=>zwa V _ _ l (a4.o V (ad.trans (I.mono ad.size))).2 (m:Int);have ch:decide (jv l (m:Int)<0)=true:=decide_eq_true (z21 bf);generalize jv l (m:Int)=pn at*;obtain ⟨m1,bu⟩:∃m1,m1=m+1:=⟨_,rfl⟩;obtain ⟨m2,bv⟩:∃m2,m2=m+2:=⟨_,rfl⟩;have d1:IntKind.i64.wrap ((m:Int)+1)=(m1:Int):=by rw [bu,IntKind.wrap_i64];omega
    have d2:IntKind.i64.wrap ((m:Int)+2)=(m2:Int):=by rw [bv,IntKind.wrap_i64];omega
    have ds:m<y.ab.length:=by omega
    have du:m1<y.ab.length:=by omega
    have c3:m2<y.ab.length:=by omega
    rw [<-bu]at q1;rw [<-bv]at q2;have bn:Hid (Bl w5 w5.drew):=(br _ _).drew;have c7:w.heap.size<w5.heap.size:=by have:=Z.size;have:=bz F.o.1;omega
    have c8:w.heap.size+1<w5.heap.size:=by have:=Z.size;have:=bz F.o.2;omega
    have c9:w3.heap.size<w5.heap.size:=by have:=ad.size;omega
    clear bu bv e0 e1 e2 a6 be bf ci cc cu a1 z1 z2 z3 b3 N O ad Z bi a4;go_wp2_with fail;refine wp_region_held_drew (S:=fun W'=>∀p:Addr,p.block<w5.heap.size->W'.cell? p=w5.cell? p) (by kernel_rfl) (fun p hp=>rfl) fun E=>?_;refine ta 0 (.agg #[.slice (some ⟨g,0,none⟩) y.ab.length Y,.i y.ae,.i y.old,.i y.bo,.i y.ba,.slice nO y.am.length dO,.i y.next]) rfl E ?_;refine ta 1 (.agg #[.slice aC d.aj.length cC,.slice aS d.bg.length cS,.slice aF d.fields.length cF,.slice aN d.names.length cN,.slice aT d.ax.length cT]) rfl E ?_;refine ta 2 (.i (m:Int)) rfl E ?_;refine wpAnyH_ready (rs:=[3]) (by kernel_rfl) (by simp) ?_;refine AllReadyH.cons rfl (fun K3 cr=>?_) AllReadyH.nil;go_simp;refine (ck.o _ bn.o).mono ?_;rintro r w6 ⟨rfl,cs⟩;have bb:Bl w5 w6:=bn.o.trans (cs.mono bn.o.size);refine cr.o _ _ (fun p hp=>bb.cell hp) fun E=>?_;refine ta 4 (.bool true) rfl E ?_;refine ta 5 (.p w3.heap.size) rfl E ?_;refine ta 6 (.slice (some ⟨g,0,none⟩) y.ab.length Y) rfl E ?_;refine ta 7 (.i (m:Int)) rfl E ?_;refine ta 8 (.pointer (some ⟨g,m,none⟩)) rfl E ?_;refine ta 9 (.i G) rfl E ?_;refine ta 10 (.i G) rfl E ?_;refine ta 11 (.bool true) rfl E ?_;refine ta 12 (.bool true) rfl E ?_;refine ta 13 (.bool true) rfl E ?_;refine ta 14 (.p w3.heap.size) rfl E ?_;refine ta 15 (.slice (some ⟨g,0,none⟩) y.ab.length Y) rfl E ?_;refine ta 16 (.i (m:Int)) rfl E ?_;refine ta 17 (.i (m1:Int)) rfl E ?_;refine ta 18 (.pointer (some ⟨g,m1,none⟩)) rfl E ?_;refine ta 19 (.i len) rfl E ?_;refine ta 20 (.i len) rfl E ?_;refine ta 21 (.bool true) rfl E ?_;refine ta 22 (.bool true) rfl E ?_;refine ta 23 (.bool true) rfl E ?_;refine ta 24 (.p w3.heap.size) rfl E ?_;refine ta 25 (.slice (some ⟨g,0,none⟩) y.ab.length Y) rfl E ?_;refine ta 26 (.i (m:Int)) rfl E ?_;refine ta 27 (.i (m2:Int)) rfl E ?_;refine ta 28 (.pointer (some ⟨g,m2,none⟩)) rfl E ?_;refine ta 29 (.i h.next) rfl E ?_;refine ta 30 (.pointer (some ⟨w.heap.size,6,none⟩)) rfl E ?_;refine ta 31 (.i h.next) rfl E ?_;refine ta 32 (.bool true) rfl E ?_;refine ta 33 (.bool true) rfl E ?_;refine ta 34 (.bool true) rfl E ?_;refine ta 35 (.slice nR l.length dR) rfl E ?_;refine ta 36 (.i (m:Int)) rfl E ?_;refine wpAnyH_ready (rs:=[37]) (by kernel_rfl) (by simp) ?_;refine AllReadyH.cons rfl (fun de b6=>?_) AllReadyH.nil;go_simp;refine (cm.o _ bb).mono ?_;rintro r w7 ⟨rfl,rfl⟩;refine b6.o _ _ (fun p hp=>bb.cell hp) fun E=>?_;refine ta 38 (.bool true) rfl E ?_;refine ta 39 (.bool true) rfl E ?_;refine ta 40 (.bool true) rfl E ?_;refine wpAnyH_done (by kernel_rfl) ?_ _;clear E;try simp only [Act.put,p1q,p4q,p3q,p2q,p5q,p6q]
    have bm:Hid (Bl w w7):=bl.o.trans (bb.mono bl.o.size);go_wp2_with fail;go_ret;exact ⟨rfl,bm.o⟩
 by_cases hE:dv d h rs=0
 ·have ak:Hid (∀V,Bl W0 V->Calls prog 46 #[.agg #[.slice aW h.ab.length cW,.i h.ae,.i h.old,.i h.bo,.i h.ba,.slice aO h.am.length cO,.i h.next],.agg #[.slice aC d.aj.length cC,.slice aS d.bg.length cS,.slice aF d.fields.length cF,.slice aN d.names.length cN,.slice aT d.ax.length cT],.slice aR rs.length cR,.i G,.i len] V fun r w'=>Bl V w'/\∃(y:ar) (l:List Int) (nW:Option Addr) (Y:Nat) (nO:Option Addr) (dO:Nat) (nR:Option Addr) (dR:Nat),r=.returned (.tuple #[.agg #[.slice nW y.ab.length Y,.i y.ae,.i y.old,.i y.bo,.i y.ba,.slice nO y.am.length dO,.i y.next],.slice nR l.length dR,.i 0,.bool false,.i (gu d h rs G len)])):=fun V I=>(ay.o V I).mono fun r w' ⟨hb,q⟩=>by
   obtain ⟨y,l,L,ok,e,nW,Y,nO,dO,nR,dR,q1,⟨-,q2,-⟩ | ⟨q2,-,q3,q4⟩⟩:=q
   ·exact absurd q2 hS
   subst q2 q3 q4;exact ⟨hb,y,l,nW,Y,nO,dO,nR,dR,q1⟩
  have an:Hid (∀V,Bl W0 V->Calls prog 40 #[.agg #[.slice aW h.ab.length cW,.i h.ae,.i h.old,.i h.bo,.i h.ba,.slice aO h.am.length cO,.i h.next],.agg #[.slice aC d.aj.length cC,.slice aS d.bg.length cS,.slice aF d.fields.length cF,.slice aN d.names.length cN,.slice aT d.ax.length cT],.slice aR rs.length cR] V fun r w'=>Bl V w'/\r=.returned (.tuple #[.i (dp d h rs),.i 0])):=fun V I=>(aw.o V I).mono fun r w' ⟨hb,q⟩=>by
   rcases q with ⟨q0,q⟩ | ⟨q0,q⟩
   ·exact ⟨hb,q⟩
   exact absurd hE q0
  have cx:(gu d h rs G len==0)=false:=by simpa using hS
  clear hE;generalize dp d h rs=lf at*;generalize gu d h rs G len=er at*;clear ay aw;go_enter func15,ntmps15;go_wp2_with fail;refine ao.o.mono ?_;rw [<-a3.o];rintro r w1 ⟨rfl,D⟩;have N:=(D.block _ ah).trans F.o.1;have O:=(D.block _ xn).trans F.o.2;have ac:=ip N;have bc:=cells5 O;have af:=ag D;have al:=ag (an.o w1 D);clear D N O ao an;go_wp2_with fail;refine al.o.mono ?_;rintro r w2 ⟨au,rfl⟩;clear al;clear ac;clear bc;have A:Bl W0 w2:=af.o.trans (au.mono af.o.size);have N:=(A.block _ ah).trans F.o.1;have O:=(A.block _ xn).trans F.o.2;have ac:=ip N;have bc:=cells5 O;have aa:=ag A;have ai:=ag (ak.o w2 A);clear A au N O ak;go_wp2_with fail;refine ai.o.mono ?_;rintro r w3 ⟨av,y,l,nW,Y,nO,dO,nR,dR,rfl⟩;clear ai;clear ac;clear bc;have a2:Hid (Bl w w3):=W.o.trans ((aa.o.trans (av.mono aa.o.size)).mono W.o.size);clear av;go_wp2_with fail;go_ret;exact ⟨(by first | (simp;done) | (simp;exact hS)),a2.o.alloc a2.o.size _⟩
 have ak:Hid (∀V,Bl W0 V->Calls prog 46 #[.agg #[.slice aW h.ab.length cW,.i h.ae,.i h.old,.i h.bo,.i h.ba,.slice aO h.am.length cO,.i h.next],.agg #[.slice aC d.aj.length cC,.slice aS d.bg.length cS,.slice aF d.fields.length cF,.slice aN d.names.length cN,.slice aT d.ax.length cT],.slice aR rs.length cR,.i G,.i len] V fun r w'=>Bl V w'/\∃(y:ar) (l:List Int) (nW:Option Addr) (Y:Nat) (nO:Option Addr) (dO:Nat) (nR:Option Addr) (dR:Nat),r=.returned (.tuple #[.agg #[.slice nW y.ab.length Y,.i y.ae,.i y.old,.i y.bo,.i y.ba,.slice nO y.am.length dO,.i y.next],.slice nR l.length dR,.i 0,.bool false,.i (gu d h rs G len)])):=fun V I=>(ay.o V I).mono fun r w' ⟨hb,q⟩=>by
  obtain ⟨y,l,L,ok,e,nW,Y,nO,dO,nR,dR,q1,⟨-,q2,-⟩ | ⟨q2,-,q3,q4⟩⟩:=q
  ·exact absurd q2 hS
  subst q2 q3 q4;exact ⟨hb,y,l,nW,Y,nO,dO,nR,dR,q1⟩
 have an:Hid (∀V,Bl W0 V->Calls prog 40 #[.agg #[.slice aW h.ab.length cW,.i h.ae,.i h.old,.i h.bo,.i h.ba,.slice aO h.am.length cO,.i h.next],.agg #[.slice aC d.aj.length cC,.slice aS d.bg.length cS,.slice aF d.fields.length cF,.slice aN d.names.length cN,.slice aT d.ax.length cT],.slice aR rs.length cR] V fun r w'=>Bl V w'/\r=.returned (.tuple #[.i 0,.i (dv d h rs)])):=fun V I=>(aw.o V I).mono fun r w' ⟨hb,q⟩=>by
  rcases q with ⟨q0,q⟩ | ⟨q0,q⟩
  ·exact absurd q0 hE
  exact ⟨hb,q⟩
 have cx:(gu d h rs G len==0)=false:=by simpa using hS
 have c5:(dv d h rs==0)=false:=by simpa using hE
 generalize dv d h rs=oe at*;generalize gu d h rs G len=er at*;clear ay aw;go_enter func15,ntmps15;go_wp2_with fail;refine ao.o.mono ?_;rw [<-a3.o];rintro r w1 ⟨rfl,D⟩;have N:=(D.block _ ah).trans F.o.1;have O:=(D.block _ xn).trans F.o.2;have ac:=ip N;have bc:=cells5 O;have af:=ag D;have al:=ag (an.o w1 D);clear D N O ao an;go_wp2_with fail;refine al.o.mono ?_;rintro r w2 ⟨au,rfl⟩;clear al;clear ac;clear bc;have A:Bl W0 w2:=af.o.trans (au.mono af.o.size);have N:=(A.block _ ah).trans F.o.1;have O:=(A.block _ xn).trans F.o.2;have ac:=ip N;have bc:=cells5 O;have aa:=ag A;have ai:=ag (ak.o w2 A);clear A au N O ak;go_wp2_with fail;refine ai.o.mono ?_;rintro r w3 ⟨av,y,l,nW,Y,nO,dO,nR,dR,rfl⟩;clear ai;clear ac;clear bc;have a2:Hid (Bl w w3):=W.o.trans ((aa.o.trans (av.mono aa.o.size)).mono W.o.size);clear av;go_wp2_with fail;go_ret;exact ⟨(by first | (simp;done) | (simp;exact hS)),a2.o.alloc a2.o.size _⟩
end Go.Proofs.YtjdnmblggdobgaaGreat
