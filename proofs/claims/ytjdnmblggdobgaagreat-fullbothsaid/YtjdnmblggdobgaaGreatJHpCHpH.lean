import Derived.Test.YtjdnmblggdobgaaGreatJHpRHpW
import Derived.Test.YtjdnmblggdobgaaGreatJLNoneLSaD
import Derived.Deep.DeepCutAuto
import Derived.Deep.RegionLaw
set_option maxHeartbeats 4000000
set_option maxRecDepth 100000
namespace Go.Proofs.YtjdnmblggdobgaaGreat
open Go.Maps Go.RowKit Tryz List Or World
variable {M:Nat->Prop} (W w:World) (X B c:Nat) (vW vO Z kC kS kF kN kT vA D A E I F G J:Value) (h:ar) (d:ax) (ts:List bq) (v:Value) (l:List Int)
theorem um:(prog.info? 101).map (fun i=>(i.zero,i.size,i.bytes))=some (some (.agg #[.i 0,.i 0,.i 0,.i 0]),4,32):=by kernel_rfl
def fy (ts:List bq):List Value:=ts.flatMap fun t=>[.i t.loc,.i t.tag,.i t.len,.i t.hash]
theorem zhb (t:bq):fy (ts++ [t])=fy ts++ [.i t.loc,.i t.tag,.i t.len,.i t.hash]:=by simp [fy]
structure qc (X B:Nat) (w:World) (vW vO kC kS kF kN kT vA:Value) (h:ar) (d:ax) (ts:List bq):Prop where
 le:B<=X
 blk:w.heap[X+1]? =some (.cells #[vW,.i h.ae,.i h.old,.i h.bk,.i h.be,vO,.i h.next,kC,kS,kF,kN,kT,vA,.map (some X)] 185 (0,0))
 sW:SL 1 RI (· <B) w vW h.ab
 sO:SL 1 RI (· <B) w vO h.ap
 lk:nh (· <B) w kC kS kF kN kT d
 row:w.ownsRow (X+2) 101 4 vA ts.length (fy ts)
 pl:kc w X ts
theorem qc.gd {X B:Nat} {w:World} {J I A F D E G N:Value} {h:ar} {d:ax} {ts:List bq} (c:qc X B w J I A F D E G N h d ts):Gd B w (X+1) J I A F D E G h d:=
 have L:=bz c.blk;have O:=c.le
 ⟨L,by omega,bg c.blk 0 rfl,bg c.blk 1 rfl,bg c.blk 2 rfl,bg c.blk 3 rfl,bg c.blk 4 rfl,bg c.blk 5 rfl,bg c.blk 6 rfl,bg c.blk 7 rfl,bg c.blk 8 rfl,bg c.blk 9 rfl,bg c.blk 10 rfl,bg c.blk 11 rfl,c.sW,c.sO,c.lk⟩
theorem qc.below {X B:Nat} {w w':World} {O N E I F G J L:Value} {h:ar} {d:ax} {ts:List bq} (c:qc X B w O N E I F G J L h d ts) (A:Bl w w'):qc X B w' O N E I F G J L h d ts:=
 have V:=bz c.blk;have W:=c.le;have D:=Kp.below (A.mono (by omega:B<=w.heap.size))
 ⟨c.le,(A.block _ V).trans c.blk,c.sW.keptI D,c.sO.keptI D,c.lk.kept D,km c.row A,c.pl.below A c.pl.lt⟩
def yh (X B:Nat) (vW vO kC kS kF kN kT:Value) (h:ar) (d:ax) (ts:List bq) (o:Option (List bq)) (r:Ending) (w':World):Prop:=
 (∃ts2 vA',o=some ts2/\r=.returned (.bool true)/\qc X B w' vW vO kC kS kF kN kT vA' h d (ts++ts2))\/(o=none/\r=.returned (.bool false))
theorem zhc (hc:qc X B w vW vO kC kS kF kN kT vA h d ts) (J:Nat) (F:Int) (cv:J<=5000) (dj:F<=5000) (ht:F<=h.ab.length) (cy:ts.length<=J) (cs:d.fields.length=d.am.length) (ct:∀f∈d.fields,f.length<=1000) (cp:d.am.length<=1000):
 Calls prog 167 #[.p (X+1),.i (J:Int),.i F] w fun r w'=>Below X w w'/\
  yh X B vW vO kC kS kF kN kT h d ts (cw d.am.length d.fields h.ab J F) r w':=by
 obtain ⟨iT,cu,b6,b7,b9⟩:=info_parts um;have ci:Hid (∀(W:World) (al:Value) (E:List bq) (A:Nat),A<=1000000->qc X B W vW vO kC kS kF kN kT al h d E->Calls prog 217 #[.p (X+1),.i (A:Int),.i F] W fun r w'=>Bl W w'/\∃t,r=.returned (.tuple #[nw t,.bool (je d.am.length d.fields h.ab A F)])/\(je d.am.length d.fields h.ab A F=true->t=bp h.ab A)):=
  fun W al E A hl co=>ze3 W B (X+1) _ _ _ _ _ _ _ h d co.gd A F hl ht cs ct cp
 have HC:=aj hc;have c7:X+1<w.heap.size:=bz hc.blk;clear hc;go_enter func167,ntmps167
 go_wp21
 go_loopw [1] (fun i wr=>∃(A:Nat) (E:List bq) (al:Value),i=.i A/\A<=5000/\(ts++E).length<=A/\Hid (Below X w wr/\qc X B wr vW vO kC kS kF kN kT al h d (ts++E)/\cw d.am.length d.fields h.ab J F=(cw d.am.length d.fields h.ab A F).map (E++ ·))) (fun i _=>(F - intOf i).toNat)
 case atStart=>exact ⟨J,[],vA,rfl,cv,by simpa using cy,br _ _,by simpa using HC.o,by cases cw d.am.length d.fields h.ab J F<;>rfl⟩
 case round=>
  obtain ⟨A,E,al,rfl,hl,dg,HI⟩:=hrel;by_cases bj:(A:Int)<F;rotate_left
  ·have HE:=aj (Dw (n:=d.am.length) (fs:=d.fields) (ws:=h.ab) bj)
   go_wp21
   go_ret;exact ⟨HI.o.1,inl ⟨E,al,by rw [HI.o.2.2,HE.o];simp,rfl,HI.o.2.1⟩⟩
  have HR:=aj (ci.o wr al (ts++E) A (by omega) HI.o.2.1)
  go_wp21
  refine HR.o.mono ?_;rintro r w1 ⟨ai,t,rfl,bl⟩;unfold nw;cases hrb:je d.am.length d.fields h.ab A F
  ·have HN:=aj (Cy bj (by rw [hrb];decide));have ce:=aj (fun o=>(HI.o.1.trans (ai.mono (by have:=HI.o.1.size;omega))).alloc (by have:=HI.o.1.size;have:=ai.size;omega) o);clear ai bl HR
   go_wp21
   go_ret;exact ⟨ce.o _,inr ⟨by rw [HI.o.2.2,HN.o];rfl,rfl⟩⟩
  have b5:=bl hrb;have af:=Cs hrb;have bc:(bp h.ab A).len<=5000:=by have h1:=af.2.1;have h2:(bp h.ab A).fin=A+3+(bp h.ab A).len:=rfl;omega
  have a0:=yb af.2.2.2;have cr:(bp h.ab A).fin=A+3+(bp h.ab A).len:=rfl;have ck:=aj (Ep bj hrb);have ac:Hid ((A:Int)+3<=t.fin/\t.fin<=F/\t.loc=A/\0<=t.len/\t.len<=5000/\t=bp h.ab A):=by rw [b5];exact ⟨af.1,af.2.1,rfl,a0,bc,rfl⟩
  have dd:=ai.size;have df:=HI.o.1.size;have b1:Below X w w1:=HI.o.1.trans (ai.mono (by omega));have b2:=HI.o.2.1.below ai;obtain ⟨I,a7⟩:∃I,I=w1.alloc (.cells #[.i t.loc,.i t.tag,.i t.len,.i t.hash] 101):=⟨_,rfl⟩;have bh:Bl w1 I:=a7 ▸ (br _ _).alloc (nlq _) _;have au:=b2.below bh;have bx:Below X w I:=b1.trans (bh.mono (by omega));have h7:I.heap[w1.heap.size]? =some (.cells #[.i t.loc,.i t.tag,.i t.len,.i t.hash] 101 (0,0)):=a7 ▸ heap_alloc_new w1 _;obtain ⟨a5,c5,rfl⟩:=ku au.row;have dl:=bg au.blk 12 (x:=.slice a5 (ts++E).length c5) rfl;have ml:=bz au.blk;have s0:=bg h7 0 (x:=.i t.loc) rfl;have s1:=bg h7 1 (x:=.i t.tag) rfl;have s2:=bg h7 2 (x:=.i t.len) rfl;have s3:=bg h7 3 (x:=.i t.hash) rfl;have l7:=bz h7;have aa:=aj au;have cf:=aj bx;have H7:=aj h7;have a4:Hid (I.drew.ownsRow (X+2) 101 4 (.slice a5 (ts++E).length c5) (ts++E).length (fy (ts++E))):=km au.row (br _ _).drew;have bf:Hid ((ts++E).length+1<=maxLen/\((ts++E).length+1)*32<=140737488355328/\X+2<=(I.drew.alloc (.cells #[.i t.loc,.i t.tag,.i t.len,.i t.hash] 101)).heap.size):=⟨by unfold maxLen;omega,by omega,by show X+2<=(I.alloc _).heap.size;simp;omega⟩;have c6:w1.heap.size<I.heap.size:=l7;have cm:=aj a7;have cj:Hid (∀q,(Value.slice a5 (ts++E).length c5).ownBlock=some q->q<wr.heap.size):=fun q e=>(HI.o.2.1.row.lt q e).2;have bm:Hid (∀W,Calls prog 72 #[.agg #[.i t.loc,.i t.tag,.i t.len,.i t.hash]] W fun r w'=>r=.returned (.i t.fin)/\Bl W w'):=fun W=>Er W t (by have:=ac.o.2.2.1;unfold small;omega) (by have:=ac.o.2.2.2.1;have:=ac.o.2.2.2.2.1;unfold small;omega);clear ai bl HR b5 af bc a0 cr b1 b2 bh au bx h7 a7;generalize hn:(ts++E).length=n at*
  go_upto_region 5 with fail
  rw [<-cm.o]
  go_region_law (first
   | (refine step_append_lies _ (by rfl) (.tmp 25) (.tmp 27) 182 (by rfl) (X+2) 101 iT (.agg #[.i 0,.i 0,.i 0,.i 0]) 4 32 underlying182 cu b6 b7 b9 rfl (by decide) (.slice a5 n c5) n (fy (ts++E)) (by rfl) (a4.o.alloc _) ⟨I.drew.heap.size,0,none⟩ 1 1 [.i t.loc,.i t.tag,.i t.len,.i t.hash] (by rfl) rfl (news_of_block (heap_alloc_new I.drew _)) (by intro u hu;simp at hu;rcases hu with rfl | rfl | rfl | rfl<;>rfl) (by decide) bf.o.1 bf.o.2.1 bf.o.2.2 _ rfl ?_;intro gA cA w9 O G _ c4;have V:∀q,(Value.slice a5 n c5).ownBlock=some q->X+2<=q:=fun q e=>(a4.o.lt q e).1;have ad:=(G.block (X+1) (by show X+1<(I.alloc _).heap.size;simp;omega) (fun e=>by have:=V _ e.symm;omega)).trans ((Below.heap_alloc _ _ _ ml).trans aa.o.blk);have m9:=bg ad 12 (x:=.slice a5 n c5) rfl;have z9:=pq ad 12;have du:=bz ad;have bo:=aj (And.intro O (And.intro G ad));clear O G ad V)
   | go_simp)
  all_goals
   obtain ⟨O,G,ad⟩:=bo.o;have V:∀q,(Value.slice a5 n c5).ownBlock=some q->X+2<=q:=fun q e=>(a4.o.lt q e).1;have c0:(I.drew.alloc (.cells #[.i t.loc,.i t.tag,.i t.len,.i t.hash] 101)).heap.size=I.heap.size+1:=by show (I.alloc _).heap.size=_;simp
   have c1:(I.alloc (.cells #[.i t.loc,.i t.tag,.i t.len,.i t.hash] 101)).drew.heap.size=I.heap.size+1:=by show (I.alloc _).heap.size=_;simp
   have cx:=G.size;have b0:Below X w w9:=((cf.o.drew).alloc (by show X<=I.heap.size;omega) (.cells #[.i t.loc,.i t.tag,.i t.len,.i t.hash] 101)).grown G (by omega) (fun q e=>by have:=V q e;omega);obtain ⟨L,N⟩:∃L,L=w9.setCell ⟨X+1,12,none⟩ (.slice (some ⟨gA,0,none⟩) (n+1) cA):=⟨_,rfl⟩;have ay:w9.grownBy L (some (X+1)):=N ▸ pi (grownBy.refl _ _) _ _ (inl rfl);have a9:Below X w L:=N ▸ b0.setCell (by simp) _;have a6:L.heap[X+1]? =some (.cells #[vW,.i h.ae,.i h.old,.i h.bk,.i h.be,vO,.i h.next,kC,kS,kF,kN,kT,.slice (some ⟨gA,0,none⟩) (n+1) cA,.map (some X)] 185 (0,0)):=N ▸ s9 ad _;have ak:L.ownsRow (X+2) 101 4 (.slice (some ⟨gA,0,none⟩) (n+1) cA) (n+1) (fy (ts++E)++ [.i t.loc,.i t.tag,.i t.len,.i t.hash]):=N ▸ ownsRow_setCell_below O (by simp) _;have ca:kc L X (ts++E):=(((aa.o.pl.below (br I.heap.size I).drew aa.o.pl.lt).kept (row:=none) (grownBy_alloc I.drew (.cells #[.i t.loc,.i t.tag,.i t.len,.i t.hash] 101) _) (by simp)).kept G (fun e=>by have:=V _ e.symm;omega)).kept ay (by simp);have e9:=(G.block w1.heap.size (by omega) (fun e=>by have:=cj.o _ e.symm;omega)).trans ((Below.heap_alloc _ _ _ (by show w1.heap.size<I.heap.size;omega)).trans H7.o);have ah:=(ay.block w1.heap.size (by omega) (by simp;omega)).trans e9;have ds:=bg a6 13 (x:=.map (some X)) rfl;have u0:=bg ah 0 (x:=.i t.loc) rfl;have u1:=bg ah 1 (x:=.i t.tag) rfl;have u2:=bg ah 2 (x:=.i t.len) rfl;have u3:=bg ah 3 (x:=.i t.hash) rfl;have c2:=bz a6;have c3:=bz ah;obtain ⟨D,a1,hD⟩:=ca;have bb:keyOf prog 3 (.i (A:Int))=some (jt A):=keyOf_int_mk underlying3 (WalkArith.wf_i64 (by omega));obtain ⟨av,bd,Z,Y⟩:=ownsMap.update (w:=L.drew) a1.drew qq underlying183 (by rw [hn];unfold maxLen;omega) bb (ze4 t);unfold nw at bd;have bi:=zfa hD (a1.tidy qq) t;rw [ac.o.2.2.1]at bi;have ba:Below X w av:=(a9.drew).grown Y (by show X<=L.heap.size;omega) (fun q e=>by cases e;exact nlq _);have bu:=(Y.block (X+1) c2 (by simp)).trans a6;have an:=(Y.block w1.heap.size c3 (by simp;omega)).trans ah;have a2:av.ownsRow (X+2) 101 4 (.slice (some ⟨gA,0,none⟩) (n+1) cA) (n+1) (fy (ts++E)++ [.i t.loc,.i t.tag,.i t.len,.i t.hash]):=(km ak (br _ _).drew).kept Y (inr fun e=>by have:=((km ak (br _ _).drew).lt X e).1;omega);have a3:Hid (Below X w av/\qc X B av vW vO kC kS kF kN kT (.slice (some ⟨gA,0,none⟩) (n+1) cA) h d (ts++(E++ [t]))):=by
    have b4:=aa.o.le;have az:Kp (· <B) I av:=by
     have hb:Below X I av:=by have q1:Below X I w9:=(((br X I).drew).alloc (by show X<=I.heap.size;omega) (.cells #[.i t.loc,.i t.tag,.i t.len,.i t.hash] 101)).grown G (by omega) (fun q e=>by have:=V q e;omega);have q2:Below X I L:=N ▸ q1.setCell (by simp) _;exact (q2.drew).grown Y (by show X<=L.heap.size;omega) (fun q e=>by cases e;exact nlq _)
     exact Kp.below (hb.mono b4)
    have b3:(ts++(E++ [t])).length=n+1:=by rw [<-append_assoc,length_append,hn];rfl
    refine ⟨ba,b4,bu,aa.o.sW.keptI az,aa.o.sO.keptI az,aa.o.lk.kept az,?_,D.put (jt A) (mg t),?_,?_⟩
    ·rw [b3,<-append_assoc,zhb];exact a2
    ·rw [b3];rw [hn]at Z;exact Z
    rw [<-append_assoc];exact bi
   have v0:=bg an 0 (x:=.i t.loc) rfl;have v1:=bg an 1 (x:=.i t.tag) rfl;have v2:=bg an 2 (x:=.i t.len) rfl;have v3:=bg an 3 (x:=.i t.hash) rfl;have dk:=bz an;have bs:=aj N;clear O G ad V b0 ay a9 a6 ak e9 ah a1 hD bb Z Y bi ba bu an a2 bo m9 z9 c0 c1 cx N;rw [<-bs.o]
   go_wp21
   go_region
   all_goals
    go_wp21
    refine (bm.o _).mono ?_;rintro r cc ⟨rfl,aw⟩;have bn:Hid (Below X w cc/\qc X B cc vW vO kC kS kF kN kT (.slice (some ⟨gA,0,none⟩) (n+1) cA) h d (ts++(E++ [t]))):=⟨a3.o.1.trans (aw.mono (by have:=a3.o.1.size;omega)),a3.o.2.below aw⟩;obtain ⟨fn,a8⟩:∃fn:Nat,t.fin=fn:=⟨t.fin.toNat,by have:=ac.o.1;omega⟩;have c8:(A:Int)+3<=fn:=a8 ▸ ac.o.1;have c9:(fn:Int)<=F:=a8 ▸ ac.o.2.1;have cn:Hid (cw d.am.length d.fields h.ab J F=(cw d.am.length d.fields h.ab fn F).map ((E++ [t])++ ·)):=by show _=_;rw [HI.o.2.2,ck.o,<-ac.o.2.2.2.2.2,a8];cases cw d.am.length d.fields h.ab fn F<;>simp
    have ch:Hid ((ts++(E++ [t])).length<=fn):=by show _<=_;rw [<-append_assoc,length_append,hn];simp;omega
    rw [a8];clear aw v0 v1 v2 v3 u0 u1 u2 u3 bd bm a3 aa a4 HI
    go_wp21
    go_roundw
    case rel=>exact ⟨fn,E++ [t],_,rfl,by omega,ch.o,bn.o.1,bn.o.2,cn.o⟩
    case measure=>simp [intOf];omega
theorem zhd (n:Nat) (fs:List (List bv)) (ws:List Int) (A:Int):∀(f:Nat) (loc:Int) (ts:List bq),loc<=A->jp n fs ws A f loc=some ts->loc+3*(ts.length:Int)<=A
 | 0,loc,ts,hl,h=>by rw [jp]at h;cases h;simpa using hl
 | f+1,loc,ts,hl,h=>by
   rw [jp]at h;split at h
   ·split at h
    ·rename_i hr;have h1:=Cs hr;cases hx:jp n fs ws A f (bp ws loc).fin with
     | none=>rw [hx]at h;cases h
     | some ts'=>
       rw [hx]at h;have D:=zhd n fs ws A f _ ts' h1.2.1 hx;cases h;simp only [length_cons];omega
    cases h
   cases h;simpa using hl
theorem Fs {n:Nat} {fs:List (List bv)} {ws:List Int} {A D:Int} {ts:List bq} (E:A<=D) (h:cw n fs ws A D=some ts):A+3*(ts.length:Int)<=D:=zhd n fs ws D _ A ts E h
def jh (d:ax) (h:ar):Option (List bq):=
 match cw d.am.length d.fields h.ab 1 h.bk with
 | none=>none
 | some ys=>(cw d.am.length d.fields h.ab (h.ae+1) h.be).map (ys++ ·)
structure na (d:ax) (h:ar):Prop where
 ae:3<=h.ae/\h.ae<=2000
 old:3<=h.old/\h.old<=2000
 len:(h.ab.length:Int)=1+h.ae+h.old
 bk:1<=h.bk/\h.bk<=h.ae+1
 be:h.ae+1<=h.be/\h.be<=h.ae+h.old+1
 fl:d.fields.length=d.am.length
 fs:∀f∈d.fields,f.length<=1000
 cn:d.am.length<=1000
def Dc (X B:Nat) (vW vO kC kS kF kN kT:Value) (h:ar) (d:ax) (r:Ending) (w':World):Prop:=
 (∃ts vA,jh d h=some ts/\r=.returned (.tuple #[.p (X+1),.bool true])/\qc X B w' vW vO kC kS kF kN kT vA h d ts)\/(jh d h=none/\r=.returned (.tuple #[.p (X+1),.bool false]))
theorem zhf (hB:B<=w.heap.size) (sW:SL 1 RI (· <B) w D h.ab) (sO:SL 1 RI (· <B) w A h.ap) (lk:nh (· <B) w E I F G J d) (L:na d h):
 Calls prog 109 #[.agg #[D,.i h.ae,.i h.old,.i h.bk,.i h.be,A,.i h.next],.agg #[E,I,F,G,J]] w fun r w'=>Bl w w'/\Dc (w.heap.size+1+1) B D A E I F G J h d r w':=by
 obtain ⟨X,hW⟩:∃X,X=((((w.alloc (.cells #[D,.i h.ae,.i h.old,.i h.bk,.i h.be,A,.i h.next] 24)).alloc (.cells #[E,I,F,G,J] 36)).alloc (.map #[] 0)).alloc (.cells #[D,.i h.ae,.i h.old,.i h.bk,.i h.be,A,.i h.next,E,I,F,G,J,.nl,.map (some (w.heap.size+1+1))] 185)):=⟨_,rfl⟩;have ak:Bl w X:=hW ▸ ((((br _ _).alloc (nlq _) _).alloc (by simp) _).alloc (by simp;omega) _).alloc (by simp;omega) _;have hk:=Kp.below (ak.mono hB);have O:X.heap[w.heap.size+1+1+1]? =some (.cells #[D,.i h.ae,.i h.old,.i h.bk,.i h.be,A,.i h.next,E,I,F,G,J,.nl,.map (some (w.heap.size+1+1))] 185 (0,0)):=by have h1:=heap_alloc_new (((w.alloc (.cells #[D,.i h.ae,.i h.old,.i h.bk,.i h.be,A,.i h.next] 24)).alloc (.cells #[E,I,F,G,J] 36)).alloc (.map #[] 0)) (.cells #[D,.i h.ae,.i h.old,.i h.bk,.i h.be,A,.i h.next,E,I,F,G,J,.nl,.map (some (w.heap.size+1+1))] 185);rw [<-hW]at h1;simpa using h1
 have az:kc X (w.heap.size+1+1) []:=by have h1:=(ownsMap_made ((w.alloc (.cells #[D,.i h.ae,.i h.old,.i h.bk,.i h.be,A,.i h.next] 24)).alloc (.cells #[E,I,F,G,J] 36)) prog 3 ll).alloc (.cells #[D,.i h.ae,.i h.old,.i h.bk,.i h.be,A,.i h.next,E,I,F,G,J,.nl,.map (some (w.heap.size+1+1))] 185);rw [<-hW]at h1;refine ⟨.map [],?_,ze9⟩;simpa using h1
 have hc:qc (w.heap.size+1+1) B X D A E I F G J (.nl) h d []:=⟨by omega,O,sW.keptI hk,sO.keptI hk,lk.kept hk,ownsRow_nil _ _ _ _,az⟩;have aa:X.heap[w.heap.size]? =some (.cells #[D,.i h.ae,.i h.old,.i h.bk,.i h.be,A,.i h.next] 24 (0,0)):=by rw [hW];exact (Below.heap_alloc _ _ _ (by simp;omega)).trans ((Below.heap_alloc _ _ _ (by simp;omega)).trans ((Below.heap_alloc _ _ _ (by simp)).trans (heap_alloc_new w _)))
 obtain ⟨yn,an⟩:∃yn:Nat,h.ae+1=yn:=⟨(h.ae+1).toNat,by have:=L.ae;omega⟩;have a6:=L.ae;have bj:IntKind.i64.wrap (h.ae+1)=(yn:Int):=(gw _ (by omega) (by omega)).trans an;have HY:Hid (h.ae+1=yn):=an;have a0:=L.bk;have a7:=L.be;have a8:=L.old;have a9:=L.len;have ah:Hid (Calls prog 167 #[.p (w.heap.size+1+1+1),.i 1,.i h.bk] ((((w.alloc (.cells #[D,.i h.ae,.i h.old,.i h.bk,.i h.be,A,.i h.next] 24)).alloc (.cells #[E,I,F,G,J] 36)).alloc (.map #[] 0)).alloc (.cells #[D,.i h.ae,.i h.old,.i h.bk,.i h.be,A,.i h.next,E,I,F,G,J,.nl,.map (some (w.heap.size+1+1))] 185)) fun r w'=>Below (w.heap.size+1+1) X w'/\
  yh (w.heap.size+1+1) B D A E I F G J h d [] (cw d.am.length d.fields h.ab 1 h.bk) r w'):=by
  have:=zhc X (w.heap.size+1+1) B _ _ _ _ _ _ _ _ h d [] hc 1 h.bk (by omega) (by omega) (by omega) (by simp) L.fl L.fs L.cn;rw [<-hW];exact this
 have ai:Hid (∀W vA ts,qc (w.heap.size+1+1) B W D A E I F G J vA h d ts->cw d.am.length d.fields h.ab 1 h.bk=some ts->Calls prog 167 #[.p (w.heap.size+1+1+1),.i (yn:Int),.i h.be] W fun r w'=>Below (w.heap.size+1+1) W w'/\
  yh (w.heap.size+1+1) B D A E I F G J h d ts (cw d.am.length d.fields h.ab yn h.be) r w'):=fun W vA ts Z a5=>by
  have bd:=Fs a0.1 a5;exact zhc W (w.heap.size+1+1) B _ _ _ _ _ _ _ _ h d ts Z yn h.be (by omega) (by omega) (by omega) (by omega) L.fl L.fs L.cn
 have bf:=@run_makeMap prog;have a1:=aj ak;have a2:=aj aa;have bi:w.heap.size+1+1+1<X.heap.size:=bz O;clear hW hc aa ak L hk O az an a6 a0 a7 a8 a9 sW sO lk;go_enter func109,ntmps109
 go_wp21
 refine ah.o.mono ?_;rintro r w1 ⟨N,ho⟩;have Y:Bl w w1:=a1.o.trans (N.mono (by omega));rcases ho with ⟨ba,bl,ho,rfl,Z⟩ | ⟨ho,rfl⟩
 ·have al:=(N.block w.heap.size (by omega)).trans a2.o;have b1:=bg al 1 (x:=.i h.ae) rfl;have b4:=bg al 4 (x:=.i h.be) rfl;have a3:=aj Z;have ac:=aj Y;have HO:=aj ho;have bh:=N.size;clear al Z Y ho N ah
  go_wp21
  refine (ai.o _ _ _ a3.o HO.o).mono ?_;rintro r w2 ⟨av,ay⟩;have au:Hid (Bl w w2):=ac.o.trans (av.mono (by omega));have ad:=aj ay;clear av ay ai;rcases ad.o with ⟨bb,bc,V,rfl,aw⟩ | ⟨V,rfl⟩
  ·have a4:=aj aw;have af:=aj V;clear aw V ad
   go_wp21
   refine bodyPost_ret (v:=.tuple #[.p (w.heap.size+1+1+1),.bool true]) (by simp [results,results109,go_sem]) rfl ⟨au.o,inl ⟨ba++bb,bc,?_,rfl,a4.o⟩⟩;rw [jh,HO.o,HY.o,af.o];rfl
  have af:=aj V;clear V ad
  go_wp21
  refine bodyPost_ret (v:=.tuple #[.p (w.heap.size+1+1+1),.bool false]) (by simp [results,results109,go_sem]) rfl ⟨au.o,inr ⟨?_,rfl⟩⟩;rw [jh,HO.o,HY.o,af.o];rfl
 have HO:=aj ho;have ac:=aj Y;clear ho Y N ah ai
 go_wp21
 refine bodyPost_ret (v:=.tuple #[.p (w.heap.size+1+1+1),.bool false]) (by simp [results,results109,go_sem]) rfl ⟨ac.o,inr ⟨?_,rfl⟩⟩;rw [jh,HO.o]
theorem vb {w:World} {B B' e n len:Nat} {v:Value} {xs:List Value} (h:w.ownsRow B e n v len xs) (I:B'<=B):w.ownsRow B' e n v len xs:=by obtain ⟨h1,G⟩:=h;refine ⟨h1,G.imp id ?_⟩;rintro ⟨g,cap,A,D,E,F⟩;exact ⟨g,cap,A,D,lt3 I E,F⟩
def mf (fs:List (List bv)) (t:bq) (n:Nat):List Int:=((range n).filter (jw fs t)).map fun (n:Nat)=>t.loc+3+(n:Int)
theorem zhh (fs:List (List bv)) (t:bq) (n:Nat):mf fs t (n+1)=mf fs t n++if jw fs t n then [t.loc+3+(n:Int)] else []:=by unfold mf;rw [range_succ,filter_append,map_append];cases hr:jw fs t n<;>simp [hr]
theorem Et (fs:List (List bv)) (t:bq) (n:Nat):(mf fs t n).length<=n:=by unfold mf;rw [length_map];exact lt3 (length_filter_le _ _) (by simp)
theorem Eu (x:Int):b8 (l++ [x])=b8 l++ [.i x]:=by simp [b8]
theorem zhk (g:Gd B w c vW vO kC kS kF kN kT h d) (t:bq) (hf:qf d t) (bb:0<=t.loc/\t.loc<=100000) (ba:t.len<=100000):
 Calls prog 178 #[.p c,nw t] w fun r w'=>Bl w w'/\∃v,r=.returned v/\w'.ownsRow w.heap.size 3 1 v (refsOf d.fields t).length (b8 (refsOf d.fields t)):=by
 obtain ⟨iI,a4,au,av,aw⟩:=info_parts kh;obtain ⟨D,O⟩:∃D,D=w.alloc (.cells #[.i t.loc,.i t.tag,.i t.len,.i t.hash] 101):=⟨_,rfl⟩;have ad:Bl w D:=O ▸ (br _ _).alloc (nlq _) _;have X:D.heap[w.heap.size]? =some (.cells #[.i t.loc,.i t.tag,.i t.len,.i t.hash] 101 (0,0)):=O ▸ heap_alloc_new w _;have al:=bz X;have HG:Hid (Gd B D c vW vO kC kS kF kN kT h d):=g.below ad;have a1:Hid (∀W n,Bl D W->((n:Nat):Int)<t.len->Calls prog 131 #[.p c,.agg #[.i t.loc,.i t.tag,.i t.len,.i t.hash],.i (n:Int)] W fun r w'=>r=.returned (.bool (jw d.fields t n))/\Bl W w'):=fun W n hW hn=>ze1 W B c _ _ _ _ _ _ _ h d (HG.o.below hW) t hf n hn;have a3:Hid (∀W n,((n:Nat):Int)<t.len->Calls prog 68 #[.agg #[.i t.loc,.i t.tag,.i t.len,.i t.hash],.i (n:Int)] W fun r w'=>r=.returned (.i (t.loc+3+n))/\Bl W w'):=fun W n hn=>zes W t n (by unfold small;omega) (by unfold small;omega);have a0:=aj O;have ay:=aj ad;have ae:=aj X;have a2:Hid (refsOf d.fields t=mf d.fields t t.len.toNat):=rfl;have a9:=hf.lo;clear g ad O hf;generalize hth:t.len=tl at*;unfold nw;rw [hth];clear hth;have a8:=bg X 2 (x:=.i tl) rfl;clear X;go_enter func178,ntmps178
 go_wp21
 rw [<-a0.o];go_loopw [5,9] (fun v i wr=>∃n:Nat,i=.i n/\(n:Int)<=tl/\Hid (wr.ownsRow D.heap.size 3 1 v (mf d.fields t n).length (b8 (mf d.fields t n))/\Bl D wr)) (fun _ i _=>(tl - intOf i).toNat)
 case atStart=>exact ⟨0,rfl,by omega,ownsRow_nil _ _ _ _,br _ _⟩
 case round=>
  obtain ⟨n,rfl,hn,N⟩:=hrel;by_cases am:(n:Int)<tl;rotate_left
  ·have a6:tl.toNat=n:=by omega
   have HF:Hid (Bl w wr/\wr.ownsRow w.heap.size 3 1 u5 (refsOf d.fields t).length (b8 (refsOf d.fields t))):=by rw [a2.o,a6];exact ⟨ay.o.trans (N.o.2.mono (by omega)),vb N.o.1 (by omega)⟩
   go_wp21
   go_ret;exact ⟨HF.o.1,_,rfl,HF.o.2⟩
  have F:=(N.o.2.block _ al).trans ae.o;have s0:=bg F 0 (x:=.i t.loc) rfl;have s1:=bg F 1 (x:=.i t.tag) rfl;have s2:=bg F 2 (x:=.i tl) rfl;have s3:=bg F 3 (x:=.i t.hash) rfl;have ls:=bz F;clear F;have aa:=aj (a1.o wr n N.o.2 am)
  go_wp21
  refine aa.o.mono ?_;rintro r w1 ⟨rfl,J⟩;have bd:=J.size;have bh:=N.o.2.size;have I:Bl D w1:=N.o.2.trans (J.mono (by omega));have A:=km N.o.1 J;have G:=aj (zhh d.fields t n);cases hr:jw d.fields t n
  ·rw [hr]at G;have HF:Hid (w1.ownsRow D.heap.size 3 1 u5 (mf d.fields t (n+1)).length (b8 (mf d.fields t (n+1)))/\Bl D w1):=by
    rw [G.o];simp only [Bool.false_eq_true,if_false,append_nil];exact ⟨A,I⟩
   clear A I J aa N G
   go_wp21
   go_roundw
   case rel=>exact ⟨n+1,by simp,by omega,HF.o⟩
   case measure=>simp [intOf];omega
  rw [hr]at G;have F:=(I.block _ al).trans ae.o;have s0:=bg F 0 (x:=.i t.loc) rfl;have s1:=bg F 1 (x:=.i t.tag) rfl;have s2:=bg F 2 (x:=.i tl) rfl;have s3:=bg F 3 (x:=.i t.hash) rfl;have ls:=bz F;have ah:=aj (a3.o w1 n am);have ac:=aj (And.intro A I);clear F A I J aa N
  go_wp21
  refine ah.o.mono ?_;rintro r w2 ⟨rfl,V⟩;have bf:=V.size;have ai:Bl D w2:=ac.o.2.trans (V.mono (by omega));have E:=km ac.o.1 V;have bc:=Et d.fields t n;generalize hrn:mf d.fields t n=acc at*;obtain ⟨a5,c5,rfl⟩:=ku E;have af:=aj E;have az:=aj ai;generalize hlx:t.loc+3+(n:Int)=lx at*;have Z:Hid (acc.length+1<=maxLen/\(acc.length+1)*8<=140737488355328/\D.heap.size<=(w2.alloc (.cells #[.i lx] 3)).heap.size):=⟨by unfold maxLen;omega,by omega,by simp;omega⟩;clear V ai E ac ah;go_wp2_with (at_builtin;refine wpList_append_lies _ rfl _ _ 22 rfl D.heap.size 3 iI (.i 0) 1 8 underlying22 a4 au av aw rfl (by decide) (.slice a5 acc.length c5) acc.length (b8 acc) rfl (af.o.alloc _) ⟨w2.heap.size,0,none⟩ 1 1 [.i lx] rfl rfl (news_of_block (heap_alloc_new w2 _)) (by intro u hu;simp at hu;subst hu;rfl) (by omega) Z.o.1 Z.o.2.1 Z.o.2.2 _ rfl ?_);intro gA cA w3 L Y _ a7;have an:∀k,(Value.slice a5 acc.length c5).ownBlock=some k->D.heap.size<=k:=fun k e=>(af.o.lt k e).1;have ak:Bl D w3:=(az.o.alloc (by omega) _).grown Y (by simp;omega) (fun k e=>an k e);have HF:Hid (w3.ownsRow D.heap.size 3 1 (.slice (some ⟨gA,0,none⟩) (acc.length+1) cA) (mf d.fields t (n+1)).length (b8 (mf d.fields t (n+1)))/\Bl D w3):=by rw [G.o];simp only [if_true,length_append,Eu];exact ⟨L,ak⟩
  clear L Y ak an
  go_wp21
  go_roundw
  case rel=>exact ⟨n+1,by simp,by omega,HF.o⟩
  case measure=>simp [intOf];omega
def qp (ts:List bq) (n:Int):bq:=(mw ts n).getD ⟨0,0,0,0⟩
theorem zhl (hc:qc X B w vW vO Z kS kF kN kT vA h d ts) (n:Int) (W:(Lit.int .i64 n).wf=true):
 Calls prog 126 #[.p (X+1),.i n] w fun r w'=>r=.returned (.tuple #[nw (qp ts n),.bool (mw ts n).isSome])/\Bl w w':=by
 have N:Bl w (w.alloc (.cells #[.i 0,.i 0,.i 0,.i 0] 101)):=(br _ _).alloc (nlq _) _;have A:=hc.below N;have G:(w.alloc (.cells #[.i 0,.i 0,.i 0,.i 0] 101)).heap[w.heap.size]? =some (.cells #[.i 0,.i 0,.i 0,.i 0] 101 (0,0)):=heap_alloc_new w _;have aa:=bg A.blk 13 (x:=.map (some X)) rfl;have ml:=bz A.blk;obtain ⟨D,F,I⟩:=A.pl;have E:keyOf prog 3 (.i n)=some (jt n):=keyOf_int_mk underlying3 W;have J:Hid (D.atKey (jt n) (mg ⟨0,0,0,0⟩)=mg (qp ts n)):=by
  show _=_;unfold qp;cases hp:mw ts n with
  | none=>rw [I.no n _ hp];rfl
  | some t=>rw [I.at_ n t _ hp];rfl
 have L:Hid (Maps.has D (jt n)=(mw ts n).isSome):=I.has n;have HB:=aj N;have r0:=bg G 0 (x:=.i 0) rfl;have r1:=bg G 1 (x:=.i 0) rfl;have r2:=bg G 2 (x:=.i 0) rfl;have r3:=bg G 3 (x:=.i 0) rfl;have z6:=pq G;have l6:=bz G;clear hc A I N G W;generalize qp ts n=t at*;generalize (mw ts n).isSome=ok at*;have Y:=aj E;clear E;go_enter func126,ntmps126;go_wp2_with (at_lookup;refine wpList_lookup_own_ok _ rfl _ _ 183 rfl 3 101 qq underlying183 _ (Ct _) (mg ⟨0,0,0,0⟩) [] rfl X ts.length D rfl F _ _ rfl Y.o ?_);intro v ps O;rw [J.o]at O;have V:=ze6 O;subst V;rw [L.o];unfold nw;clear O F
 go_wp21
 exact bodyPost_ret (v:=.tuple #[.agg #[.i t.loc,.i t.tag,.i t.len,.i t.hash],.bool ok]) (by simp [results,results126,go_sem]) rfl ⟨rfl,((br _ _).alloc (nlq _) _).alloc (by simp) _⟩
def cq (ts:List bq) (n:Int):Bool:=(mw ts n).isSome||n==0
theorem zhm (W V G L I J N O:Value) (h:ar) (d:ax) (ts:List bq) (hc:qc X B w W V G L I J N O h d ts) (n:Int) (F:(Lit.int .i64 n).wf=true):
 Calls prog 132 #[.p (X+1),.i n] w fun r w'=>r=.returned (.bool (cq ts n))/\Bl w w':=by
 have E:=aj (zhl w X B _ _ _ _ _ _ _ _ h d ts hc n F);clear hc F;unfold cq;unfold nw at E;generalize qp ts n=t at*;generalize (mw ts n).isSome=ok at*;go_enter func132,ntmps132
 go_wp21
 refine E.o.mono ?_;rintro r Y ⟨rfl,D⟩;have A:=aj D;clear D E;cases ok;rotate_left
 ·go_wp21
  go_ret;exact ⟨by simp,A.o.alloc A.o.size _⟩
 by_cases h0:n=0
 ·subst h0
  go_wp21
  go_ret;exact ⟨by simp,A.o.alloc A.o.size _⟩
 have h1:(n==0)=false:=beq_eq_false_iff_ne.2 h0
 go_wp21
 go_ret;exact ⟨by simp [h0],A.o.alloc A.o.size _⟩
def Df (_:Nat->Prop) (_:World) (cs:List Value) (t:bq):Prop:=cs= [.i t.loc,.i t.tag,.i t.len,.i t.hash]
theorem SL.keptTh {w w':World} {v:Value} {l:List bq} (h:SL 4 Df M w v l) (A:Kp M w w'):SL 4 Df M w' v l:=h.kept A fun _ _ h=>h
theorem SL.atTh {w:World} {ao:Option Addr} {len cap:Nat} {l:List bq} (h:SL 4 Df M w (.slice ao len cap) l) (k:Nat) (D:k<l.length):
 ∃b off,ao=some ⟨b,off,none⟩/\b<w.heap.size/\w.cell? ⟨b,off+k*4,none⟩=some (.i l[k].loc)/\w.cell? ⟨b,off+k*4+1,none⟩=some (.i l[k].tag)/\w.cell? ⟨b,off+k*4+2,none⟩=some (.i l[k].len)/\w.cell? ⟨b,off+k*4+3,none⟩=some (.i l[k].hash):=by
 obtain ⟨b,off,E,e,_,A,_,hc,rfl⟩:=h.at k D;exact ⟨b,off,e,A,by have:=hc 0 (by decide);simpa using this,by have:=hc 1 (by decide);simpa using this,by have:=hc 2 (by decide);simpa using this,by have:=hc 3 (by decide);simpa using this⟩
theorem zhn {w:World} {B:Nat} {v:Value} {ts:List bq} (h:w.ownsRow B 101 4 v ts.length (fy ts)) (F:ts.length<=1000000):SL 4 Df (MT B [101] w) w v ts:=by
 have A:(ts.map fun t:bq=>([Value.int .i64 t.loc,.i t.tag,.i t.len,.i t.hash],t)).length=ts.length:=by simp
 have D:(ts.map fun t:bq=>([Value.int .i64 t.loc,.i t.tag,.i t.len,.i t.hash],t)).flatMap (·.1)=fy ts:=by rw [flatMap_map,fy]
 have:=xr (n:=4) (R:=Df) (T:=[101]) (zs:=ts.map fun t:bq=>([Value.int .i64 t.loc,.i t.tag,.i t.len,.i t.hash],t)) (by rw [A,D];exact h) (fun z A=>by
  obtain ⟨s,E,rfl⟩:=mem_map.1 A;exact ⟨rfl,rfl⟩) (by simp) (by rw [A];unfold maxLen;omega)
 rwa [map_map,show ((·.2)∘fun t:bq=>([Value.int .i64 t.loc,.i t.tag,.i t.len,.i t.hash],t))=id from rfl,map_id]at this
theorem zho (O:SL 1 RI (· <B) w v l) (hB:B<=w.heap.size) (g:Nat) (first cap:Array Value) (p:Int->Bool) (aa:∀args w,(callFunc g args).run prog w=.ok (.enter g args) w) (hc:∀x∈l,∀W,Bl w W->Calls prog g (first++#[.i x]++cap) W fun r Y=>r=.returned (.bool (p x))/\Bl W Y):
 Calls prog 221 #[v,.func (.func g) first cap] w fun r w'=>r=.returned (.i (idx p l))/\Bl w w':=by
 have X:=aj O;obtain ⟨Z,cl,rfl,-,N,-⟩:=O;unfold maxLen at N;have V:=aj hc;clear hc;go_enter func221,ntmps221
 go_wp21
 go_loopw [8] (fun i wr=>∃k:Nat,k<=l.length/\i=.i k/\Hid (∀x∈l.take k,p x=false)/\Bl w wr) (fun i _=>l.length - (intOf i).toNat)
 case atStart=>exact ⟨0,n0q _,rfl,(fun x hx=>by cases hx),br _ _⟩
 case round=>
  obtain ⟨k,hk,rfl,L,D⟩:=hrel;by_cases F:k<l.length
  ·obtain ⟨b,off,rfl,hb,e0⟩:=(X.o.keptI (Kp.below (D.mono hB))).atI k F;have E:=V.o l[k] (gm F) _ D;have A:=aj E;clear E
   go_wp21
   refine A.o.mono ?_;rintro r w2 ⟨rfl,J⟩;have I:=D.trans (J.mono D.size);clear J A;cases hp:p l[k]
   ·have G:=aj (zck F L.o hp);clear hp
    go_wp21
    go_roundw
    case rel=>exact ⟨k+1,by omega,by go_num,G.o,I⟩
    case measure=>simp [intOf];omega
   have G:=aj (Fo F L.o hp);clear hp
   go_wp21
   go_ret;exact ⟨by rw [G.o];rfl,I⟩
  have G:Hid (idx p l= -1):=zci (by have:=L.o;rwa [take_of_length_le (by omega)]at this)
  go_wp21
  go_ret;exact ⟨by rw [G.o];rfl,D⟩
theorem zhp (E:SL 1 RI (· <B) w v l) (L:B<=w.heap.size) (g:Nat) (first cap:Array Value) (p:Int->Bool) (D:∀args w,(callFunc g args).run prog w=.ok (.enter g args) w) (hc:∀x∈l,∀W,Bl w W->Calls prog g (first++#[.i x]++cap) W fun r I=>r=.returned (.bool (p x))/\Bl W I):
 Calls prog 174 #[v,.func (.func g) first cap] w fun r w'=>r=.returned (.bool (l.any p))/\Bl w w':=by
 have A:=zho w B v l E L g first cap p D hc
 have F:=aj A;clear A hc;have G:=aj (zcj p l);obtain ⟨J,cl,rfl,-⟩:=E;go_enter func174,ntmps174
 go_wp21
 refine F.o.mono ?_;rintro r O ⟨rfl,N⟩
 go_wp21
 go_ret;exact ⟨by rw [<-G.o];rfl,N⟩
theorem zhq (l:List bq) (O:SL 4 Df (· <B) w v l) (hB:B<=w.heap.size) (g:Nat) (first cap:Array Value) (p:bq->Bool) (aa:∀args w,(callFunc g args).run prog w=.ok (.enter g args) w) (hc:∀x∈l,∀W,Bl w W->Calls prog g (first++#[.agg #[.i x.loc,.i x.tag,.i x.len,.i x.hash]]++cap) W fun r Y=>r=.returned (.bool (p x))/\Bl W Y):
 Calls prog 218 #[v,.func (.func g) first cap] w fun r w'=>r=.returned (.i (idx p l))/\Bl w w':=by
 have X:=aj O;obtain ⟨Z,cl,rfl,-,N,-⟩:=O;unfold maxLen at N;have V:=aj hc;clear hc;go_enter func218,ntmps218
 go_wp21
 go_loopw [8] (fun i wr=>∃k:Nat,k<=l.length/\i=.i k/\Hid (∀x∈l.take k,p x=false)/\Bl w wr) (fun i _=>l.length - (intOf i).toNat)
 case atStart=>exact ⟨0,n0q _,rfl,(fun x hx=>by cases hx),br _ _⟩
 case round=>
  obtain ⟨k,hk,rfl,L,D⟩:=hrel;by_cases F:k<l.length
  ·obtain ⟨b,off,rfl,hb,e0,e1,e2,e3⟩:=(X.o.keptTh (Kp.below (D.mono hB))).atTh k F;have E:=V.o l[k] (gm F) _ D;have A:=aj E;clear E
   go_wp21
   refine A.o.mono ?_;rintro r w2 ⟨rfl,J⟩;have I:=D.trans (J.mono D.size);clear J A;cases hp:p l[k]
   ·have G:=aj (zck F L.o hp);clear hp
    go_wp21
    go_roundw
    case rel=>exact ⟨k+1,by omega,by go_num,G.o,I⟩
    case measure=>simp [intOf];omega
   have G:=aj (Fo F L.o hp);clear hp
   go_wp21
   go_ret;exact ⟨by rw [G.o];rfl,I⟩
  have G:Hid (idx p l= -1):=zci (by have:=L.o;rwa [take_of_length_le (by omega)]at this)
  go_wp21
  go_ret;exact ⟨by rw [G.o];rfl,D⟩
theorem zhr (l:List bq) (E:SL 4 Df (· <B) w v l) (L:B<=w.heap.size) (g:Nat) (first cap:Array Value) (p:bq->Bool) (D:∀args w,(callFunc g args).run prog w=.ok (.enter g args) w) (hc:∀x∈l,∀W,Bl w W->Calls prog g (first++#[.agg #[.i x.loc,.i x.tag,.i x.len,.i x.hash]]++cap) W fun r I=>r=.returned (.bool (p x))/\Bl W I):
 Calls prog 168 #[v,.func (.func g) first cap] w fun r w'=>r=.returned (.bool (l.any p))/\Bl w w':=by
 have A:=zhq w B v l E L g first cap p D hc
 have F:=aj A;clear A hc;have G:=aj (zcj p l);obtain ⟨J,cl,rfl,-⟩:=E;go_enter func168,ntmps168
 go_wp21
 refine F.o.mono ?_;rintro r O ⟨rfl,N⟩
 go_wp21
 go_ret;exact ⟨by rw [<-G.o];rfl,N⟩
theorem zhs (g:Gd B W c vW vO kC kS kF kN kT h d) (P Q f:Nat) (first cap:Array Value) (N:W.cell? ⟨P,0,none⟩=some (.func (.func f) first cap)) (V:W.cell? ⟨Q,0,none⟩=some (.p c)) (A:Nat) (hl:A<h.ab.length) (b:Bool) (Z:∀args w,(callFunc f args).run prog w=.ok (.enter f args) w) (hc:∀D,Bl W D->Calls prog f (first++#[.i h.ab[A]]++cap) D fun r L=>r=.returned (.bool b)/\Bl D L):
 Calls prog 219 #[.i (A:Int),.p P,.p Q] W fun r D=>r=.returned (.bool b)/\Bl W D:=by
 have O:=block_lt_of_cell? W _ N;have X:=block_lt_of_cell? W _ V;have g0:=g.c0;have gl:=g.lt;obtain ⟨ao,ca,e,-,G,-⟩:=g.sW;have I:=aj g.sW;subst e;obtain ⟨bW,oW,rfl,Y,eW⟩:=I.o.atI A hl;unfold maxLen at G;have q1:(0:Int)<=A:=by omega
 have q2:(A:Int)<h.ab.length:=by omega
 have J:=aj hc;clear hc g I;generalize h.ab[A]=x at*;generalize h.ab.length=wl at*;go_enter func219,ntmps219
 go_wp21
 go_region_held3 (fun D=>∀p:Addr,p.block<W.heap.size->D.cell? p=W.cell? p) (exact fun p hp=>Below.cell (B:=W.heap.size) (w:=W) (by repeat (first | assumption | exact br _ _ | refine Below.drew ?_)) hp) (first | (refine (J.o _ ?_).mono ?_;(exact (br _ _).drew);rintro r w2 ⟨rfl,E⟩;have F:Bl W w2:=(br W.heap.size W).drew.trans E;clear E))
 all_goals
  rename_i hS1;clear hS1
  go_wp21
  go_ret;exact ⟨rfl,F⟩
theorem zht (fs:List (List bv)) (t:bq) {a:Int} (A:a∈refsOf fs t):t.loc+3<=a/\a<t.loc+3+t.len:=by obtain ⟨n,D,rfl⟩:=mem_map.1 A;have:=mem_range.1 (mem_filter.1 D).1;omega
def fx (fs:List (List bv)) (ws:List Int) (t:bq) (p:Int->Bool):Bool:=(refsOf fs t).any fun a=>p (wd ws a)
theorem zhu (g:Gd B w c vW vO kC kS kF kN kT h d) (t:bq) (hf:qf d t) (av:0<=t.loc) (au:t.fin<=h.ab.length) (a0:h.ab.length<=100000) (f:Nat) (first cap:Array Value) (p:Int->Bool) (aa:∀args w,(callFunc f args).run prog w=.ok (.enter f args) w) (hc:∀a∈refsOf d.fields t,∀W,Bl w W->Calls prog f (first++#[.i (wd h.ab a)]++cap) W fun r W'=>r=.returned (.bool (p (wd h.ab a)))/\Bl W W'):
 Calls prog 172 #[.p c,nw t,.func (.func f) first cap] w fun r w'=>r=.returned (.bool (fx d.fields h.ab t p))/\Bl w w':=by
 have aw:=ri prog;obtain ⟨A,I⟩:∃A,A=(((w.alloc (.cells #[.p c] 193)).alloc (.cells #[.i t.loc,.i t.tag,.i t.len,.i t.hash] 101)).alloc (.cells #[.func (.func f) first cap] 79)):=⟨_,rfl⟩;have az:A.heap.size=w.heap.size+3:=by rw [I];simp
 have D:Bl w A:=I ▸ (((br _ _).alloc (nlq _) _).alloc (by simp) _).alloc (by simp;omega) _;have b5:A.cell? ⟨w.heap.size+1+1,0,none⟩=some (.func (.func f) first cap):=by rw [I];simp [go_sem]
 have b3:A.cell? ⟨w.heap.size,0,none⟩=some (.p c):=by rw [I];simp [go_sem]
 have ak:t.fin=t.loc+3+t.len:=rfl;have am:=hf.lo;have V:Hid (Calls prog 178 #[.p c,.agg #[.i t.loc,.i t.tag,.i t.len,.i t.hash]] (((w.alloc (.cells #[.p c] 193)).alloc (.cells #[.i t.loc,.i t.tag,.i t.len,.i t.hash] 101)).alloc (.cells #[.func (.func f) first cap] 79)) fun r w'=>Bl A w'/\∃v,r=.returned v/\w'.ownsRow A.heap.size 3 1 v (refsOf d.fields t).length (b8 (refsOf d.fields t))):=by have:=zhk A B c _ _ _ _ _ _ _ h d (g.below D) t hf (by omega) (by omega);rw [<-I];exact this
 have ad:Hid ((refsOf d.fields t).length<=100000):=by show (mf d.fields t t.len.toNat).length<=_;have:=Et d.fields t t.len.toNat;omega
 have O:Hid (∀W,Bl A W->∀v,W.ownsRow A.heap.size 3 1 v (refsOf d.fields t).length (b8 (refsOf d.fields t))->Calls prog 174 #[v,.func (.func 219) #[] #[.p (w.heap.size+1+1),.p w.heap.size]] W fun r w'=>r=.returned (.bool (fx d.fields h.ab t p))/\Bl W w'):=by
  intro W X v hv;have ah:=rg hv (lt3 ad.o (by omega));have ai:SL 1 RI (· <W.heap.size) W v (refsOf d.fields t):=ah.monoI fun b hb=>by obtain ⟨_,al,_,_,hb,_⟩:=hb;exact bz hb
  refine zhp W W.heap.size v _ ai (nlq _) 219 #[] _ (fun a=>p (wd h.ab a)) (fun args w=>by kernel_rfl) ?_;intro a ha W2 ae;have hr:=zht _ _ ha;obtain ⟨an,rfl⟩:=Int.eq_ofNat_of_zero_le (show 0<=a by omega);have Y:an<h.ab.length:=by omega
  have F:Bl A W2:=X.trans (ae.mono X.size);have G:Bl w W2:=D.trans (F.mono D.size);refine zhs W2 B c _ _ _ _ _ _ _ h d (g.below G) _ _ f first cap ((F.cell (p:=⟨w.heap.size+1+1,0,none⟩) (by show w.heap.size+1+1<_;omega)).trans b5) ((F.cell (p:=⟨w.heap.size,0,none⟩) (by show w.heap.size<_;omega)).trans b3) an Y (p (wd h.ab an)) aa ?_
  intro W3 af;have:=hc _ ha W3 (G.trans (af.mono G.size));rw [qm Y]at this ⊢;exact this
 have J:=aj D;have HW:=aj I;clear I D hc aa g hf b5 b3;unfold nw;go_enter func172,ntmps172
 go_wp21
 refine V.o.mono ?_;rintro r w1 ⟨E,v,rfl,hv⟩;have N:=aj (O.o w1 E v hv);have L:Hid (Bl w w1):=J.o.trans (E.mono J.o.size);have ay:=E.size;clear E hv O V
 go_wp21
 refine N.o.mono ?_;rintro r w2 ⟨rfl,Z⟩;have ac:Hid (Bl w w2):=L.o.trans (Z.mono L.o.size);clear Z N
 go_wp21
 go_ret;exact ⟨rfl,ac.o⟩
end Go.Proofs.YtjdnmblggdobgaaGreat
