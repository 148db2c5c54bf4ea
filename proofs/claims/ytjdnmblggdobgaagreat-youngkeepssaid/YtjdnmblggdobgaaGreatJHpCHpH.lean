import Derived.Test.YtjdnmblggdobgaaGreatJHpRHpW
import Derived.Test.YtjdnmblggdobgaaGreatJHpMHpP
import Derived.Test.YtjdnmblggdobgaaGreatJLNoneLSaD
import Derived.Deep.DeepCutAuto
import Derived.Deep.RegionLaw
import Derived.Test.YtjdnmblggdobgaaGreatJLLineLLn
import Derived.Maps.OwnSet
import Derived.Test.YtjdnmblggdobgaaGreatLEv
import Derived.Test.YtjdnmblggdobgaaGreatJTk2Dies
set_option maxHeartbeats 4000000
set_option maxRecDepth 100000
namespace Go.Proofs.YtjdnmblggdobgaaGreat
open Go.RowKit Go.Maps
theorem Tryz.infoThing:(Tryz.prog.info? 101).map (fun i=>(i.zero,i.size,i.bytes))=some (some (.agg #[.int .i64 0,.int .i64 0,.int .i64 0,.int .i64 0]),4,32):=by kernel_rfl
def i6 (ts:List bp):List Value:=ts.flatMap fun t=>[.int .i64 t.loc,.int .i64 t.tag,.int .i64 t.len,.int .i64 t.hash]
theorem zhk (ts:List bp) (t:bp):i6 (ts++ [t])=i6 ts++ [.int .i64 t.loc,.int .i64 t.tag,.int .i64 t.len,.int .i64 t.hash]:=by simp [i6]
structure mc (X B:Nat) (w:World) (vW vO kC kS kF kN kT vA:Value) (h:bb) (d:bd) (ts:List bp):Prop where
 le:B<=X
 blk:w.heap[X+1]? =some (.cells #[vW,.int .i64 h.ag,.int .i64 h.old,.int .i64 h.be,.int .i64 h.ar,vO,.int .i64 h.next,kC,kS,kF,kN,kT,vA,.map (some X)] 185 (0,0))
 sW:SL 1 RI (· <B) w vW h.ab
 sO:SL 1 RI (· <B) w vO h.am
 lk:j9 (· <B) w kC kS kF kN kT d
 row:w.ownsRow (X+2) 101 4 vA ts.length (i6 ts)
 pl:PlMap w X ts
theorem mc.gd {X B:Nat} {w:World} {J I A F D E G N:Value} {h:bb} {d:bd} {ts:List bp} (c:mc X B w J I A F D E G N h d ts):Gd B w (X+1) J I A F D E G h d:=
 have L:=bk c.blk;have O:=c.le
 ⟨L,by omega,aw c.blk 0 rfl,aw c.blk 1 rfl,aw c.blk 2 rfl,aw c.blk 3 rfl,aw c.blk 4 rfl,aw c.blk 5 rfl,aw c.blk 6 rfl,aw c.blk 7 rfl,aw c.blk 8 rfl,aw c.blk 9 rfl,aw c.blk 10 rfl,aw c.blk 11 rfl,c.sW,c.sO,c.lk⟩
theorem mc.below {X B:Nat} {w w':World} {O N E I F G J L:Value} {h:bb} {d:bd} {ts:List bp} (c:mc X B w O N E I F G J L h d ts) (A:Below w.heap.size w w'):mc X B w' O N E I F G J L h d ts:=
 have V:=bk c.blk;have W:=c.le;have D:=Kp.below (A.mono (by omega:B<=w.heap.size))
 ⟨c.le,(A.block _ V).trans c.blk,c.sW.keptI D,c.sO.keptI D,c.lk.kept D,kv c.row A,c.pl.below A c.pl.lt⟩
def WalkOut (X B:Nat) (vW vO kC kS kF kN kT:Value) (h:bb) (d:bd) (ts:List bp) (o:Option (List bp)) (r:Ending) (w':World):Prop:=
 (∃ts2 vA',o=some ts2/\r=.returned (.bool true)/\mc X B w' vW vO kC kS kF kN kT vA' h d (ts++ts2))\/(o=none/\r=.returned (.bool false))
theorem zhl (w:World) (X B:Nat) (vW vO kC kS kF kN kT vA:Value) (h:bb) (d:bd) (ts:List bp) (hc:mc X B w vW vO kC kS kF kN kT vA h d ts) (J:Nat) (F:Int) (cv:J<=5000) (dk:F<=5000) (ht:F<=h.ab.length) (cy:ts.length<=J)
 (cs:d.fields.length=d.aj.length) (ct:∀f∈d.fields,f.length<=1000) (cp:d.aj.length<=1000):
 Calls Tryz.prog 167 #[.pointer (some ⟨X+1,0,none⟩),.int .i64 (J:Int),.int .i64 F] w fun r w'=>Below X w w'/\
  WalkOut X B vW vO kC kS kF kN kT h d ts (cb d.aj.length d.fields h.ab J F) r w':=by
 obtain ⟨iT,cu,b5,b6,b7⟩:=info_parts Tryz.infoThing;have ci:Hid (∀(W:World) (al:Value) (E:List bp) (A:Nat),A<=1000000->mc X B W vW vO kC kS kF kN kT al h d E->Calls Tryz.prog 217 #[.pointer (some ⟨X+1,0,none⟩),.int .i64 (A:Int),.int .i64 F] W fun r w'=>Below W.heap.size W w'/\∃t,r=.returned (.tuple #[thV t,.bool (io d.aj.length d.fields h.ab A F)])/\(io d.aj.length d.fields h.ab A F=true->t=bj h.ab A)):=
  fun W al E A hl co=>zfc W B (X+1) _ _ _ _ _ _ _ h d co.gd A F hl ht cs ct cp
 have HC:=ae hc;have c7:X+1<w.heap.size:=bk hc.blk;clear hc;go_enter Tryz.func167,Tryz.ntmps167;go_wp2_with fail;go_loopw [1] (fun i wr=>∃(A:Nat) (E:List bp) (al:Value),i=.int .i64 A/\A<=5000/\(ts++E).length<=A/\Hid (Below X w wr/\mc X B wr vW vO kC kS kF kN kT al h d (ts++E)/\cb d.aj.length d.fields h.ab J F=(cb d.aj.length d.fields h.ab A F).map (E++ ·))) (fun i _=>(F - intOf i).toNat)
 case atStart=>exact ⟨J,[],vA,rfl,cv,by simpa using cy,br _ _,by simpa using HC.o,by cases cb d.aj.length d.fields h.ab J F<;>rfl⟩
 case round=>
  obtain ⟨A,E,al,rfl,hl,dg,HI⟩:=hrel;by_cases bl:(A:Int)<F
  ·have HR:=ae (ci.o wr al (ts++E) A (by omega) HI.o.2.1);go_wp2_with fail;refine HR.o.mono ?_;rintro r w1 ⟨ai,t,rfl,bm⟩;unfold thV;cases hrb:io d.aj.length d.fields h.ab A F with
   | false=>
     have HN:=ae (zeu bl (by rw [hrb];decide));have ce:=ae (fun o=>(HI.o.1.trans (ai.mono (by have:=HI.o.1.size;omega))).alloc (by have:=HI.o.1.size;have:=ai.size;omega) o);clear ai bm HR;go_wp2_with fail;go_ret;exact ⟨ce.o _,Or.inr ⟨by rw [HI.o.2.2,HN.o];rfl,rfl⟩⟩
   | true=>
     have b4:=bm hrb;have af:=zep hrb;have ba:(bj h.ab A).len<=5000:=by have h1:=af.2.1;have h2:(bj h.ab A).fin=A+3+(bj h.ab A).len:=rfl;omega
     have ay:=zeo af.2.2.2;have cr:(bj h.ab A).fin=A+3+(bj h.ab A).len:=rfl;have cl:=ae (zet bl hrb);have ac:Hid ((A:Int)+3<=t.fin/\t.fin<=F/\t.loc=A/\0<=t.len/\t.len<=5000/\t=bj h.ab A):=by rw [b4];exact ⟨af.1,af.2.1,rfl,ay,ba,rfl⟩
     have da:=ai.size;have dd:=HI.o.1.size;have b0:Below X w w1:=HI.o.1.trans (ai.mono (by omega));have b1:=HI.o.2.1.below ai;obtain ⟨I,a4⟩:∃I,I=w1.alloc (.cells #[.int .i64 t.loc,.int .i64 t.tag,.int .i64 t.len,.int .i64 t.hash] 101):=⟨_,rfl⟩;have bh:Below w1.heap.size w1 I:=a4 ▸ (br _ _).alloc (nlq _) _;have ao:=b1.below bh;have bx:Below X w I:=b0.trans (bh.mono (by omega));have h7:I.heap[w1.heap.size]? =some (.cells #[.int .i64 t.loc,.int .i64 t.tag,.int .i64 t.len,.int .i64 t.hash] 101 (0,0)):=a4 ▸ heap_alloc_new w1 _;obtain ⟨a5,c5,rfl⟩:=kh ao.row;have ds:=aw ao.blk 12 (x:=.slice a5 (ts++E).length c5) rfl;have ml:=bk ao.blk;have s0:=aw h7 0 (x:=.int .i64 t.loc) rfl;have s1:=aw h7 1 (x:=.int .i64 t.tag) rfl;have s2:=aw h7 2 (x:=.int .i64 t.len) rfl;have s3:=aw h7 3 (x:=.int .i64 t.hash) rfl;have l7:=bk h7;have aa:=ae ao;have cf:=ae bx;have H7:=ae h7;have a2:Hid (I.drew.ownsRow (X+2) 101 4 (.slice a5 (ts++E).length c5) (ts++E).length (i6 (ts++E))):=kv ao.row (br _ _).drew;have bf:Hid ((ts++E).length+1<=maxLen/\((ts++E).length+1)*32<=140737488355328/\X+2<=(I.drew.alloc (.cells #[.int .i64 t.loc,.int .i64 t.tag,.int .i64 t.len,.int .i64 t.hash] 101)).heap.size):=⟨by unfold maxLen;omega,by omega,by show X+2<=(I.alloc _).heap.size;simp;omega⟩;have c6:w1.heap.size<I.heap.size:=l7;have cm:=ae a4;have cj:Hid (∀q,(Value.slice a5 (ts++E).length c5).ownBlock=some q->q<wr.heap.size):=fun q e=>(HI.o.2.1.row.lt q e).2;have bn:Hid (∀W,Calls Tryz.prog 72 #[.agg #[.int .i64 t.loc,.int .i64 t.tag,.int .i64 t.len,.int .i64 t.hash]] W fun r w'=>r=.returned (.int .i64 t.fin)/\Below W.heap.size W w'):=fun W=>ze2 W t (by have:=ac.o.2.2.1;unfold small;omega) (by have:=ac.o.2.2.2.1;have:=ac.o.2.2.2.2.1;unfold small;omega);clear ai bm HR b4 af ba ay cr b0 b1 bh ao bx h7 a4;generalize hn:(ts++E).length=n at*
     go_upto_region 5 with fail
     rw [<-cm.o]
     go_region_law (first
      | (refine step_append_lies _ (by rfl) (.tmp 25) (.tmp 27) 182 (by rfl) (X+2) 101 iT (.agg #[.int .i64 0,.int .i64 0,.int .i64 0,.int .i64 0]) 4 32 Tryz.underlying182 cu b5 b6 b7 rfl (by decide) (.slice a5 n c5) n (i6 (ts++E)) (by rfl) (a2.o.alloc _) ⟨I.drew.heap.size,0,none⟩ 1 1 [.int .i64 t.loc,.int .i64 t.tag,.int .i64 t.len,.int .i64 t.hash] (by rfl) rfl (World.news_of_block (heap_alloc_new I.drew _)) (by intro u hu;simp at hu;rcases hu with rfl | rfl | rfl | rfl<;>rfl) (by decide) bf.o.1 bf.o.2.1 bf.o.2.2 _ rfl ?_;intro gA cA w9 O G _ c4;have V:∀q,(Value.slice a5 n c5).ownBlock=some q->X+2<=q:=fun q e=>(a2.o.lt q e).1;have ad:=(G.block (X+1) (by show X+1<(I.alloc _).heap.size;simp;omega) (fun e=>by have:=V _ e.symm;omega)).trans ((Below.heap_alloc _ _ _ ml).trans aa.o.blk);have m9:=aw ad 12 (x:=.slice a5 n c5) rfl;have z9:=lj ad 12;have dz:=bk ad;have bs:=ae (And.intro O (And.intro G ad));clear O G ad V)
      | go_simp)
     all_goals
      obtain ⟨O,G,ad⟩:=bs.o;have V:∀q,(Value.slice a5 n c5).ownBlock=some q->X+2<=q:=fun q e=>(a2.o.lt q e).1;have c0:(I.drew.alloc (.cells #[.int .i64 t.loc,.int .i64 t.tag,.int .i64 t.len,.int .i64 t.hash] 101)).heap.size=I.heap.size+1:=by show (I.alloc _).heap.size=_;simp
      have c1:(I.alloc (.cells #[.int .i64 t.loc,.int .i64 t.tag,.int .i64 t.len,.int .i64 t.hash] 101)).drew.heap.size=I.heap.size+1:=by show (I.alloc _).heap.size=_;simp
      have cx:=G.size;have bz:Below X w w9:=((cf.o.drew).alloc (by show X<=I.heap.size;omega) (.cells #[.int .i64 t.loc,.int .i64 t.tag,.int .i64 t.len,.int .i64 t.hash] 101)).grown G (by omega) (fun q e=>by have:=V q e;omega);obtain ⟨L,N⟩:∃L,L=w9.setCell ⟨X+1,12,none⟩ (.slice (some ⟨gA,0,none⟩) (n+1) cA):=⟨_,rfl⟩;have av:w9.grownBy L (some (X+1)):=N ▸ mf (World.grownBy.refl _ _) _ _ (Or.inl rfl);have a7:Below X w L:=N ▸ bz.setCell (by simp) _;have a3:L.heap[X+1]? =some (.cells #[vW,.int .i64 h.ag,.int .i64 h.old,.int .i64 h.be,.int .i64 h.ar,vO,.int .i64 h.next,kC,kS,kF,kN,kT,.slice (some ⟨gA,0,none⟩) (n+1) cA,.map (some X)] 185 (0,0)):=N ▸ mu ad _;have ak:L.ownsRow (X+2) 101 4 (.slice (some ⟨gA,0,none⟩) (n+1) cA) (n+1) (i6 (ts++E)++ [.int .i64 t.loc,.int .i64 t.tag,.int .i64 t.len,.int .i64 t.hash]):=N ▸ ownsRow_setCell_below O (by simp) _;have ca:PlMap L X (ts++E):=(((aa.o.pl.below (br I.heap.size I).drew aa.o.pl.lt).kept (row:=none) (World.grownBy_alloc I.drew (.cells #[.int .i64 t.loc,.int .i64 t.tag,.int .i64 t.len,.int .i64 t.hash] 101) _) (by simp)).kept G (fun e=>by have:=V _ e.symm;omega)).kept av (by simp);have e9:=(G.block w1.heap.size (by omega) (fun e=>by have:=cj.o _ e.symm;omega)).trans ((Below.heap_alloc _ _ _ (by show w1.heap.size<I.heap.size;omega)).trans H7.o);have ah:=(av.block w1.heap.size (by omega) (by simp;omega)).trans e9;have du:=aw a3 13 (x:=.map (some X)) rfl;have u0:=aw ah 0 (x:=.int .i64 t.loc) rfl;have u1:=aw ah 1 (x:=.int .i64 t.tag) rfl;have u2:=aw ah 2 (x:=.int .i64 t.len) rfl;have u3:=aw ah 3 (x:=.int .i64 t.hash) rfl;have c2:=bk a3;have c3:=bk ah;obtain ⟨D,az,hD⟩:=ca;have a9:keyOf Tryz.prog 3 (.int .i64 (A:Int))=some (ky A):=keyOf_int_mk Tryz.underlying3 (WalkArith.wf_i64 (by omega));obtain ⟨aq,bc,Z,Y⟩:=World.ownsMap.update (w:=L.drew) az.drew law3 Tryz.underlying183 (by rw [hn];unfold maxLen;omega) a9 (zfd t);unfold thV at bc;have bi:=zfj hD (az.tidy law3) t;rw [ac.o.2.2.1]at bi;have a8:Below X w aq:=(a7.drew).grown Y (by show X<=L.heap.size;omega) (fun q e=>by cases e;exact nlq _);have bw:=(Y.block (X+1) c2 (by simp)).trans a3;have an:=(Y.block w1.heap.size c3 (by simp;omega)).trans ah;have a0:aq.ownsRow (X+2) 101 4 (.slice (some ⟨gA,0,none⟩) (n+1) cA) (n+1) (i6 (ts++E)++ [.int .i64 t.loc,.int .i64 t.tag,.int .i64 t.len,.int .i64 t.hash]):=(kv ak (br _ _).drew).kept Y (Or.inr fun e=>by have:=((kv ak (br _ _).drew).lt X e).1;omega);have a1:Hid (Below X w aq/\mc X B aq vW vO kC kS kF kN kT (.slice (some ⟨gA,0,none⟩) (n+1) cA) h d (ts++(E++ [t]))):=by
       have b3:=aa.o.le;have ax:Kp (· <B) I aq:=by
        have hb:Below X I aq:=by have q1:Below X I w9:=(((br X I).drew).alloc (by show X<=I.heap.size;omega) (.cells #[.int .i64 t.loc,.int .i64 t.tag,.int .i64 t.len,.int .i64 t.hash] 101)).grown G (by omega) (fun q e=>by have:=V q e;omega);have q2:Below X I L:=N ▸ q1.setCell (by simp) _;exact (q2.drew).grown Y (by show X<=L.heap.size;omega) (fun q e=>by cases e;exact nlq _)
        exact Kp.below (hb.mono b3)
       have b2:(ts++(E++ [t])).length=n+1:=by rw [<-List.append_assoc,List.length_append,hn];rfl
       refine ⟨a8,b3,bw,aa.o.sW.keptI ax,aa.o.sO.keptI ax,aa.o.lk.kept ax,?_,D.put (ky A) (ma t),?_,?_⟩
       ·rw [b2,<-List.append_assoc,zhk];exact a0
       ·rw [b2];rw [hn]at Z;exact Z
       rw [<-List.append_assoc];exact bi
      have v0:=aw an 0 (x:=.int .i64 t.loc) rfl;have v1:=aw an 1 (x:=.int .i64 t.tag) rfl;have v2:=aw an 2 (x:=.int .i64 t.len) rfl;have v3:=aw an 3 (x:=.int .i64 t.hash) rfl;have dl:=bk an;have bu:=ae N;clear O G ad V bz av a7 a3 ak e9 ah az hD a9 Z Y bi a8 bw an a0 bs m9 z9 c0 c1 cx N;rw [<-bu.o];go_wp2_with fail;go_region
      all_goals
       go_wp2_with fail;refine (bn.o _).mono ?_;rintro r cc ⟨rfl,au⟩;have bo:Hid (Below X w cc/\mc X B cc vW vO kC kS kF kN kT (.slice (some ⟨gA,0,none⟩) (n+1) cA) h d (ts++(E++ [t]))):=⟨a1.o.1.trans (au.mono (by have:=a1.o.1.size;omega)),a1.o.2.below au⟩;obtain ⟨fn,a6⟩:∃fn:Nat,t.fin=fn:=⟨t.fin.toNat,by have:=ac.o.1;omega⟩;have c8:(A:Int)+3<=fn:=a6 ▸ ac.o.1;have c9:(fn:Int)<=F:=a6 ▸ ac.o.2.1;have cn:Hid (cb d.aj.length d.fields h.ab J F=(cb d.aj.length d.fields h.ab fn F).map ((E++ [t])++ ·)):=by show _=_;rw [HI.o.2.2,cl.o,<-ac.o.2.2.2.2.2,a6];cases cb d.aj.length d.fields h.ab fn F<;>simp
       have ch:Hid ((ts++(E++ [t])).length<=fn):=by show _<=_;rw [<-List.append_assoc,List.length_append,hn];simp;omega
       rw [a6];clear au v0 v1 v2 v3 u0 u1 u2 u3 bc bn a1 aa a2 HI;go_wp2_with fail;go_roundw
       case rel=>exact ⟨fn,E++ [t],_,rfl,by omega,ch.o,bo.o.1,bo.o.2,cn.o⟩
       case measure=>simp [intOf];omega
  have HE:=ae (zes (n:=d.aj.length) (fs:=d.fields) (ws:=h.ab) bl);go_wp2_with fail;go_ret;exact ⟨HI.o.1,Or.inl ⟨E,al,by rw [HI.o.2.2,HE.o];simp,rfl,HI.o.2.1⟩⟩
theorem zhm (n:Nat) (fs:List (List bg)) (ws:List Int) (A:Int):∀(f:Nat) (loc:Int) (ts:List bp),loc<=A->ir n fs ws A f loc=some ts->loc+3*(ts.length:Int)<=A
 | 0,loc,ts,hl,h=>by rw [ir]at h;cases h;simpa using hl
 | f+1,loc,ts,hl,h=>by
   rw [ir]at h;split at h
   ·split at h
    ·rename_i hr;have h1:=zep hr;cases hx:ir n fs ws A f (bj ws loc).fin with
     | none=>rw [hx]at h;cases h
     | some ts'=>
       rw [hx]at h;have D:=zhm n fs ws A f _ ts' h1.2.1 hx;cases h;simp only [List.length_cons];omega
    cases h
   cases h;simpa using hl
theorem zhn {n:Nat} {fs:List (List bg)} {ws:List Int} {A D:Int} {ts:List bp} (E:A<=D) (h:cb n fs ws A D=some ts):A+3*(ts.length:Int)<=D:=zhm n fs ws D _ A ts E h
def im (d:bd) (h:bb):Option (List bp):=
 match cb d.aj.length d.fields h.ab 1 h.be with
 | none=>none
 | some ys=>(cb d.aj.length d.fields h.ab (h.ag+1) h.ar).map (ys++ ·)
structure jy (d:bd) (h:bb):Prop where
 ag:3<=h.ag/\h.ag<=2000
 old:3<=h.old/\h.old<=2000
 len:(h.ab.length:Int)=1+h.ag+h.old
 be:1<=h.be/\h.be<=h.ag+1
 ar:h.ag+1<=h.ar/\h.ar<=h.ag+h.old+1
 fl:d.fields.length=d.aj.length
 fs:∀f∈d.fields,f.length<=1000
 cn:d.aj.length<=1000
def FindOut (X B:Nat) (vW vO kC kS kF kN kT:Value) (h:bb) (d:bd) (r:Ending) (w':World):Prop:=
 (∃ts vA,im d h=some ts/\r=.returned (.tuple #[.pointer (some ⟨X+1,0,none⟩),.bool true])/\mc X B w' vW vO kC kS kF kN kT vA h d ts)\/(im d h=none/\r=.returned (.tuple #[.pointer (some ⟨X+1,0,none⟩),.bool false]))
theorem zho (w:World) (B:Nat) (D A E I F G J:Value) (h:bb) (d:bd) (hB:B<=w.heap.size) (sW:SL 1 RI (· <B) w D h.ab) (sO:SL 1 RI (· <B) w A h.am) (lk:j9 (· <B) w E I F G J d) (L:jy d h):
 Calls Tryz.prog 109 #[.agg #[D,.int .i64 h.ag,.int .i64 h.old,.int .i64 h.be,.int .i64 h.ar,A,.int .i64 h.next],.agg #[E,I,F,G,J]] w fun r w'=>Below w.heap.size w w'/\FindOut (w.heap.size+1+1) B D A E I F G J h d r w':=by
 obtain ⟨X,hW⟩:∃X,X=((((w.alloc (.cells #[D,.int .i64 h.ag,.int .i64 h.old,.int .i64 h.be,.int .i64 h.ar,A,.int .i64 h.next] 24)).alloc (.cells #[E,I,F,G,J] 36)).alloc (.map #[] 0)).alloc (.cells #[D,.int .i64 h.ag,.int .i64 h.old,.int .i64 h.be,.int .i64 h.ar,A,.int .i64 h.next,E,I,F,G,J,.slice none 0 0,.map (some (w.heap.size+1+1))] 185)):=⟨_,rfl⟩;have ak:Below w.heap.size w X:=hW ▸ ((((br _ _).alloc (nlq _) _).alloc (by simp) _).alloc (by simp;omega) _).alloc (by simp;omega) _;have hk:=Kp.below (ak.mono hB);have O:X.heap[w.heap.size+1+1+1]? =some (.cells #[D,.int .i64 h.ag,.int .i64 h.old,.int .i64 h.be,.int .i64 h.ar,A,.int .i64 h.next,E,I,F,G,J,.slice none 0 0,.map (some (w.heap.size+1+1))] 185 (0,0)):=by have h1:=heap_alloc_new (((w.alloc (.cells #[D,.int .i64 h.ag,.int .i64 h.old,.int .i64 h.be,.int .i64 h.ar,A,.int .i64 h.next] 24)).alloc (.cells #[E,I,F,G,J] 36)).alloc (.map #[] 0)) (.cells #[D,.int .i64 h.ag,.int .i64 h.old,.int .i64 h.be,.int .i64 h.ar,A,.int .i64 h.next,E,I,F,G,J,.slice none 0 0,.map (some (w.heap.size+1+1))] 185);rw [<-hW]at h1;simpa using h1
 have ax:PlMap X (w.heap.size+1+1) []:=by have h1:=(World.ownsMap_made ((w.alloc (.cells #[D,.int .i64 h.ag,.int .i64 h.old,.int .i64 h.be,.int .i64 h.ar,A,.int .i64 h.next] 24)).alloc (.cells #[E,I,F,G,J] 36)) Tryz.prog 3 mt).alloc (.cells #[D,.int .i64 h.ag,.int .i64 h.old,.int .i64 h.be,.int .i64 h.ar,A,.int .i64 h.next,E,I,F,G,J,.slice none 0 0,.map (some (w.heap.size+1+1))] 185);rw [<-hW]at h1;refine ⟨.map [],?_,zfi⟩;simpa using h1
 have hc:mc (w.heap.size+1+1) B X D A E I F G J (.slice none 0 0) h d []:=⟨by omega,O,sW.keptI hk,sO.keptI hk,lk.kept hk,World.ownsRow_nil _ _ _ _,ax⟩;have aa:X.heap[w.heap.size]? =some (.cells #[D,.int .i64 h.ag,.int .i64 h.old,.int .i64 h.be,.int .i64 h.ar,A,.int .i64 h.next] 24 (0,0)):=by rw [hW];exact (Below.heap_alloc _ _ _ (by simp;omega)).trans ((Below.heap_alloc _ _ _ (by simp;omega)).trans ((Below.heap_alloc _ _ _ (by simp)).trans (heap_alloc_new w _)))
 obtain ⟨yn,an⟩:∃yn:Nat,h.ag+1=yn:=⟨(h.ag+1).toNat,by have:=L.ag;omega⟩;have a4:=L.ag;have bl:IntKind.i64.wrap (h.ag+1)=(yn:Int):=(fy _ (by omega) (by omega)).trans an;have HY:Hid (h.ag+1=yn):=an;have ay:=L.be;have a5:=L.ar;have a6:=L.old;have a7:=L.len;have ah:Hid (Calls Tryz.prog 167 #[.pointer (some ⟨w.heap.size+1+1+1,0,none⟩),.int .i64 1,.int .i64 h.be] ((((w.alloc (.cells #[D,.int .i64 h.ag,.int .i64 h.old,.int .i64 h.be,.int .i64 h.ar,A,.int .i64 h.next] 24)).alloc (.cells #[E,I,F,G,J] 36)).alloc (.map #[] 0)).alloc (.cells #[D,.int .i64 h.ag,.int .i64 h.old,.int .i64 h.be,.int .i64 h.ar,A,.int .i64 h.next,E,I,F,G,J,.slice none 0 0,.map (some (w.heap.size+1+1))] 185)) fun r w'=>Below (w.heap.size+1+1) X w'/\
  WalkOut (w.heap.size+1+1) B D A E I F G J h d [] (cb d.aj.length d.fields h.ab 1 h.be) r w'):=by
  have:=zhl X (w.heap.size+1+1) B _ _ _ _ _ _ _ _ h d [] hc 1 h.be (by omega) (by omega) (by omega) (by simp) L.fl L.fs L.cn;rw [<-hW];exact this
 have ai:Hid (∀W vA ts,mc (w.heap.size+1+1) B W D A E I F G J vA h d ts->cb d.aj.length d.fields h.ab 1 h.be=some ts->Calls Tryz.prog 167 #[.pointer (some ⟨w.heap.size+1+1+1,0,none⟩),.int .i64 (yn:Int),.int .i64 h.ar] W fun r w'=>Below (w.heap.size+1+1) W w'/\
  WalkOut (w.heap.size+1+1) B D A E I F G J h d ts (cb d.aj.length d.fields h.ab yn h.ar) r w'):=fun W vA ts Z a3=>by
  have bc:=zhn ay.1 a3;exact zhl W (w.heap.size+1+1) B _ _ _ _ _ _ _ _ h d ts Z yn h.ar (by omega) (by omega) (by omega) (by omega) L.fl L.fs L.cn
 have bf:=@run_makeMap Tryz.prog;have az:=ae ak;have a0:=ae aa;have bi:w.heap.size+1+1+1<X.heap.size:=bk O;clear hW hc aa ak L hk O ax an a4 ay a5 a6 a7 sW sO lk;go_enter Tryz.func109,Tryz.ntmps109;go_wp2_with fail;refine ah.o.mono ?_;rintro r w1 ⟨N,ho⟩;have Y:Below w.heap.size w w1:=az.o.trans (N.mono (by omega));rcases ho with ⟨a8,bm,ho,rfl,Z⟩ | ⟨ho,rfl⟩
 ·have al:=(N.block w.heap.size (by omega)).trans a0.o;have b1:=aw al 1 (x:=.int .i64 h.ag) rfl;have b4:=aw al 4 (x:=.int .i64 h.ar) rfl;have a1:=ae Z;have ac:=ae Y;have HO:=ae ho;have bh:=N.size;clear al Z Y ho N ah;go_wp2_with fail;refine (ai.o _ _ _ a1.o HO.o).mono ?_;rintro r w2 ⟨aq,av⟩;have ao:Hid (Below w.heap.size w w2):=ac.o.trans (aq.mono (by omega));have ad:=ae av;clear aq av ai;rcases ad.o with ⟨a9,ba,V,rfl,au⟩ | ⟨V,rfl⟩
  ·have a2:=ae au;have af:=ae V;clear au V ad;go_wp2_with fail;refine bodyPost_ret (v:=.tuple #[.pointer (some ⟨w.heap.size+1+1+1,0,none⟩),.bool true]) (by simp [results,Tryz.results109,go_sem]) rfl ⟨ao.o,Or.inl ⟨a8++a9,ba,?_,rfl,a2.o⟩⟩;rw [im,HO.o,HY.o,af.o];rfl
  have af:=ae V;clear V ad;go_wp2_with fail;refine bodyPost_ret (v:=.tuple #[.pointer (some ⟨w.heap.size+1+1+1,0,none⟩),.bool false]) (by simp [results,Tryz.results109,go_sem]) rfl ⟨ao.o,Or.inr ⟨?_,rfl⟩⟩;rw [im,HO.o,HY.o,af.o];rfl
 have HO:=ae ho;have ac:=ae Y;clear ho Y N ah ai;go_wp2_with fail;refine bodyPost_ret (v:=.tuple #[.pointer (some ⟨w.heap.size+1+1+1,0,none⟩),.bool false]) (by simp [results,Tryz.results109,go_sem]) rfl ⟨ac.o,Or.inr ⟨?_,rfl⟩⟩;rw [im,HO.o]
theorem zhp {w:World} {B B' e n len:Nat} {v:Value} {xs:List Value} (h:w.ownsRow B e n v len xs) (I:B'<=B):w.ownsRow B' e n v len xs:=by obtain ⟨h1,G⟩:=h;refine ⟨h1,G.imp id ?_⟩;rintro ⟨g,cap,A,D,E,F⟩;exact ⟨g,cap,A,D,lt3 I E,F⟩
def jp (fs:List (List bg)) (t:bp) (n:Nat):List Int:=((List.range n).filter (je fs t)).map fun (n:Nat)=>t.loc+3+(n:Int)
theorem zhq (fs:List (List bg)) (t:bp) (n:Nat):jp fs t (n+1)=jp fs t n++if je fs t n then [t.loc+3+(n:Int)] else []:=by unfold jp;rw [List.range_succ,List.filter_append,List.map_append];cases hr:je fs t n<;>simp [hr]
theorem zhr (fs:List (List bg)) (t:bp) (n:Nat):(jp fs t n).length<=n:=by unfold jp;rw [List.length_map];exact lt3 (List.length_filter_le _ _) (by simp)
theorem zhs (l:List Int) (x:Int):b8 (l++ [x])=b8 l++ [.int .i64 x]:=by simp [b8]
theorem zht (w:World) (B c:Nat) (vW vO kC kS kF kN kT:Value) (h:bb) (d:bd) (g:Gd B w c vW vO kC kS kF kN kT h d) (t:bp) (hf:lg d t) (a9:0<=t.loc/\t.loc<=100000) (a8:t.len<=100000):
 Calls Tryz.prog 178 #[.pointer (some ⟨c,0,none⟩),thV t] w fun r w'=>Below w.heap.size w w'/\∃v,r=.returned v/\w'.ownsRow w.heap.size 3 1 v (refsOf d.fields t).length (b8 (refsOf d.fields t)):=by
 obtain ⟨iI,a2,ao,aq,au⟩:=info_parts Tryz.infoInt;obtain ⟨A,O⟩:∃A,A=w.alloc (.cells #[.int .i64 t.loc,.int .i64 t.tag,.int .i64 t.len,.int .i64 t.hash] 101):=⟨_,rfl⟩;have ad:Below w.heap.size w A:=O ▸ (br _ _).alloc (nlq _) _;have X:A.heap[w.heap.size]? =some (.cells #[.int .i64 t.loc,.int .i64 t.tag,.int .i64 t.len,.int .i64 t.hash] 101 (0,0)):=O ▸ heap_alloc_new w _;have ak:=bk X;have HG:Hid (Gd B A c vW vO kC kS kF kN kT h d):=g.below ad;have az:Hid (∀W n,Below A.heap.size A W->((n:Nat):Int)<t.len->Calls Tryz.prog 131 #[.pointer (some ⟨c,0,none⟩),.agg #[.int .i64 t.loc,.int .i64 t.tag,.int .i64 t.len,.int .i64 t.hash],.int .i64 (n:Int)] W fun r w'=>r=.returned (.bool (je d.fields t n))/\Below W.heap.size W w'):=fun W n hW hn=>zfa W B c _ _ _ _ _ _ _ h d (HG.o.below hW) t hf n hn;have a1:Hid (∀W n,((n:Nat):Int)<t.len->Calls Tryz.prog 68 #[.agg #[.int .i64 t.loc,.int .i64 t.tag,.int .i64 t.len,.int .i64 t.hash],.int .i64 (n:Int)] W fun r w'=>r=.returned (.int .i64 (t.loc+3+n))/\Below W.heap.size W w'):=fun W n hn=>ze1 W t n (by unfold small;omega) (by unfold small;omega);have ay:=ae O;have av:=ae ad;have af:=ae X;have a0:Hid (refsOf d.fields t=jp d.fields t t.len.toNat):=rfl;have a7:=hf.lo;clear g ad O hf;generalize hth:t.len=tl at*;unfold thV;rw [hth];clear hth;have a6:=aw X 2 (x:=.int .i64 tl) rfl;clear X;go_enter Tryz.func178,Tryz.ntmps178;go_wp2_with fail;rw [<-ay.o];go_loopw [5,9] (fun v i wr=>∃n:Nat,i=.int .i64 n/\(n:Int)<=tl/\Hid (wr.ownsRow A.heap.size 3 1 v (jp d.fields t n).length (b8 (jp d.fields t n))/\Below A.heap.size A wr)) (fun _ i _=>(tl - intOf i).toNat)
 case atStart=>exact ⟨0,rfl,by omega,World.ownsRow_nil _ _ _ _,br _ _⟩
 case round=>
  obtain ⟨n,rfl,hn,N⟩:=hrel;by_cases al:(n:Int)<tl
  ·have F:=(N.o.2.block _ ak).trans af.o;have s0:=aw F 0 (x:=.int .i64 t.loc) rfl;have s1:=aw F 1 (x:=.int .i64 t.tag) rfl;have s2:=aw F 2 (x:=.int .i64 tl) rfl;have s3:=aw F 3 (x:=.int .i64 t.hash) rfl;have ls:=bk F;clear F;have aa:=ae (az.o wr n N.o.2 al);go_wp2_with fail;refine aa.o.mono ?_;rintro r w1 ⟨rfl,J⟩;have bc:=J.size;have bf:=N.o.2.size;have I:Below A.heap.size A w1:=N.o.2.trans (J.mono (by omega));have D:=kv N.o.1 J;have G:=ae (zhq d.fields t n);cases hr:je d.fields t n with
   | false=>
     rw [hr]at G;have HF:Hid (w1.ownsRow A.heap.size 3 1 u5 (jp d.fields t (n+1)).length (b8 (jp d.fields t (n+1)))/\Below A.heap.size A w1):=by rw [G.o];simp only [Bool.false_eq_true,if_false,List.append_nil];exact ⟨D,I⟩
     clear D I J aa N G;go_wp2_with fail;go_roundw
     case rel=>exact ⟨n+1,by simp,by omega,HF.o⟩
     case measure=>simp [intOf];omega
   | true=>
     rw [hr]at G;have F:=(I.block _ ak).trans af.o;have s0:=aw F 0 (x:=.int .i64 t.loc) rfl;have s1:=aw F 1 (x:=.int .i64 t.tag) rfl;have s2:=aw F 2 (x:=.int .i64 tl) rfl;have s3:=aw F 3 (x:=.int .i64 t.hash) rfl;have ls:=bk F;have ah:=ae (a1.o w1 n al);have ac:=ae (And.intro D I);clear F D I J aa N;go_wp2_with fail;refine ah.o.mono ?_;rintro r w2 ⟨rfl,V⟩;have be:=V.size;have ai:Below A.heap.size A w2:=ac.o.2.trans (V.mono (by omega));have E:=kv ac.o.1 V;have ba:=zhr d.fields t n;generalize hrn:jp d.fields t n=acc at*;obtain ⟨a5,c5,rfl⟩:=kh E;have ag:=ae E;have ax:=ae ai;generalize hlx:t.loc+3+(n:Int)=lx at*;have Z:Hid (acc.length+1<=maxLen/\(acc.length+1)*8<=140737488355328/\A.heap.size<=(w2.alloc (.cells #[.int .i64 lx] 3)).heap.size):=⟨by unfold maxLen;omega,by omega,by simp;omega⟩;clear V ai E ac ah;go_wp2_with (at_builtin;refine wpList_append_lies _ rfl _ _ 22 rfl A.heap.size 3 iI (.int .i64 0) 1 8 Tryz.underlying22 a2 ao aq au rfl (by decide) (.slice a5 acc.length c5) acc.length (b8 acc) rfl (ag.o.alloc _) ⟨w2.heap.size,0,none⟩ 1 1 [.int .i64 lx] rfl rfl (World.news_of_block (heap_alloc_new w2 _)) (by intro u hu;simp at hu;subst hu;rfl) (by omega) Z.o.1 Z.o.2.1 Z.o.2.2 _ rfl ?_);intro gA cA w3 L Y _ a4;have an:∀k,(Value.slice a5 acc.length c5).ownBlock=some k->A.heap.size<=k:=fun k e=>(ag.o.lt k e).1;have aj:Below A.heap.size A w3:=(ax.o.alloc (by omega) _).grown Y (by simp;omega) (fun k e=>an k e);have HF:Hid (w3.ownsRow A.heap.size 3 1 (.slice (some ⟨gA,0,none⟩) (acc.length+1) cA) (jp d.fields t (n+1)).length (b8 (jp d.fields t (n+1)))/\Below A.heap.size A w3):=by rw [G.o];simp only [if_true,List.length_append,zhs];exact ⟨L,aj⟩
     clear L Y aj an;go_wp2_with fail;go_roundw
     case rel=>exact ⟨n+1,by simp,by omega,HF.o⟩
     case measure=>simp [intOf];omega
  have a3:tl.toNat=n:=by omega
  have HF:Hid (Below w.heap.size w wr/\wr.ownsRow w.heap.size 3 1 u5 (refsOf d.fields t).length (b8 (refsOf d.fields t))):=by rw [a0.o,a3];exact ⟨av.o.trans (N.o.2.mono (by omega)),zhp N.o.1 (by omega)⟩
  go_wp2_with fail;go_ret;exact ⟨HF.o.1,_,rfl,HF.o.2⟩
def atOr (ts:List bp) (n:Int):bp:=(km ts n).getD ⟨0,0,0,0⟩
theorem zhu (w:World) (X B:Nat) (vW vO Z kS kF kN kT vA:Value) (h:bb) (d:bd) (ts:List bp) (hc:mc X B w vW vO Z kS kF kN kT vA h d ts) (n:Int) (W:(Lit.int .i64 n).wf=true):
 Calls Tryz.prog 126 #[.pointer (some ⟨X+1,0,none⟩),.int .i64 n] w fun r w'=>r=.returned (.tuple #[thV (atOr ts n),.bool (km ts n).isSome])/\Below w.heap.size w w':=by
 have N:Below w.heap.size w (w.alloc (.cells #[.int .i64 0,.int .i64 0,.int .i64 0,.int .i64 0] 101)):=(br _ _).alloc (nlq _) _;have A:=hc.below N;have G:(w.alloc (.cells #[.int .i64 0,.int .i64 0,.int .i64 0,.int .i64 0] 101)).heap[w.heap.size]? =some (.cells #[.int .i64 0,.int .i64 0,.int .i64 0,.int .i64 0] 101 (0,0)):=heap_alloc_new w _;have aa:=aw A.blk 13 (x:=.map (some X)) rfl;have ml:=bk A.blk;obtain ⟨D,F,I⟩:=A.pl;have E:keyOf Tryz.prog 3 (.int .i64 n)=some (ky n):=keyOf_int_mk Tryz.underlying3 W;have J:Hid (D.atKey (ky n) (ma ⟨0,0,0,0⟩)=ma (atOr ts n)):=by
  show _=_;unfold atOr;cases hp:km ts n with
  | none=>rw [I.no n _ hp];rfl
  | some t=>rw [I.at_ n t _ hp];rfl
 have L:Hid (Maps.has D (ky n)=(km ts n).isSome):=I.has n;have HB:=ae N;have r0:=aw G 0 (x:=.int .i64 0) rfl;have r1:=aw G 1 (x:=.int .i64 0) rfl;have r2:=aw G 2 (x:=.int .i64 0) rfl;have r3:=aw G 3 (x:=.int .i64 0) rfl;have z6:=lj G;have l6:=bk G;clear hc A I N G W;generalize atOr ts n=t at*;generalize (km ts n).isSome=ok at*;have Y:=ae E;clear E;go_enter Tryz.func126,Tryz.ntmps126;go_wp2_with (at_lookup;refine wpList_lookup_own_ok _ rfl _ _ 183 rfl 3 101 law3 Tryz.underlying183 _ (zeroTh _) (ma ⟨0,0,0,0⟩) [] rfl X ts.length D rfl F _ _ rfl Y.o ?_);intro v ps O;rw [J.o]at O;have V:=zff O;subst V;rw [L.o];unfold thV;clear O F;go_wp2_with fail;exact bodyPost_ret (v:=.tuple #[.agg #[.int .i64 t.loc,.int .i64 t.tag,.int .i64 t.len,.int .i64 t.hash],.bool ok]) (by simp [results,Tryz.results126,go_sem]) rfl ⟨rfl,((br _ _).alloc (nlq _) _).alloc (by simp) _⟩
def dh (ts:List bp) (n:Int):Bool:=(km ts n).isSome||n==0
theorem zhv (w:World) (X B:Nat) (W V G L I J N O:Value) (h:bb) (d:bd) (ts:List bp) (hc:mc X B w W V G L I J N O h d ts) (n:Int) (F:(Lit.int .i64 n).wf=true):
 Calls Tryz.prog 132 #[.pointer (some ⟨X+1,0,none⟩),.int .i64 n] w fun r w'=>r=.returned (.bool (dh ts n))/\Below w.heap.size w w':=by
 have E:=ae (zhu w X B _ _ _ _ _ _ _ _ h d ts hc n F);clear hc F;unfold dh;unfold thV at E;generalize atOr ts n=t at*;generalize (km ts n).isSome=ok at*;go_enter Tryz.func132,Tryz.ntmps132;go_wp2_with fail;refine E.o.mono ?_;rintro r Y ⟨rfl,D⟩;have A:=ae D;clear D E;cases ok with
 | true=>
   go_wp2_with fail;go_ret;exact ⟨by simp,A.o.alloc A.o.size _⟩
 | false=>
   by_cases h0:n=0
   ·subst h0;go_wp2_with fail;go_ret;exact ⟨by simp,A.o.alloc A.o.size _⟩
   have h1:(n==0)=false:=beq_eq_false_iff_ne.2 h0;go_wp2_with fail;go_ret;exact ⟨by simp [h0],A.o.alloc A.o.size _⟩
def RTh (_:Nat->Prop) (_:World) (cs:List Value) (t:bp):Prop:=cs= [.int .i64 t.loc,.int .i64 t.tag,.int .i64 t.len,.int .i64 t.hash]
theorem SL.keptTh {M:Nat->Prop} {w w':World} {v:Value} {l:List bp} (h:SL 4 RTh M w v l) (A:Kp M w w'):SL 4 RTh M w' v l:=h.kept A fun _ _ h=>h
theorem SL.atTh {M:Nat->Prop} {w:World} {A:Option Addr} {len cap:Nat} {l:List bp} (h:SL 4 RTh M w (.slice A len cap) l) (k:Nat) (E:k<l.length):
 ∃b off,A=some ⟨b,off,none⟩/\b<w.heap.size/\w.cell? ⟨b,off+k*4,none⟩=some (.int .i64 l[k].loc)/\w.cell? ⟨b,off+k*4+1,none⟩=some (.int .i64 l[k].tag)/\w.cell? ⟨b,off+k*4+2,none⟩=some (.int .i64 l[k].len)/\w.cell? ⟨b,off+k*4+3,none⟩=some (.int .i64 l[k].hash):=by
 obtain ⟨b,off,F,e,_,D,_,hc,rfl⟩:=h.at k E;exact ⟨b,off,e,D,by have:=hc 0 (by decide);simpa using this,by have:=hc 1 (by decide);simpa using this,by have:=hc 2 (by decide);simpa using this,by have:=hc 3 (by decide);simpa using this⟩
theorem zhw {w:World} {B:Nat} {v:Value} {ts:List bp} (h:w.ownsRow B 101 4 v ts.length (i6 ts)) (F:ts.length<=1000000):SL 4 RTh (MT B [101] w) w v ts:=by
 have A:(ts.map fun t:bp=>([Value.int .i64 t.loc,.int .i64 t.tag,.int .i64 t.len,.int .i64 t.hash],t)).length=ts.length:=by simp
 have D:(ts.map fun t:bp=>([Value.int .i64 t.loc,.int .i64 t.tag,.int .i64 t.len,.int .i64 t.hash],t)).flatMap (·.1)=i6 ts:=by rw [List.flatMap_map,i6]
 have:=ze4 (n:=4) (R:=RTh) (T:=[101]) (zs:=ts.map fun t:bp=>([Value.int .i64 t.loc,.int .i64 t.tag,.int .i64 t.len,.int .i64 t.hash],t)) (by rw [A,D];exact h) (fun z A=>by
  obtain ⟨s,E,rfl⟩:=List.mem_map.1 A;exact ⟨rfl,rfl⟩) (by simp) (by rw [A];unfold maxLen;omega)
 rwa [List.map_map,show ((·.2)∘fun t:bp=>([Value.int .i64 t.loc,.int .i64 t.tag,.int .i64 t.len,.int .i64 t.hash],t))=id from rfl,List.map_id]at this
theorem zhx (w:World) (B:Nat) (v:Value) (l:List Int) (O:SL 1 RI (· <B) w v l) (hB:B<=w.heap.size) (g:Nat) (first cap:Array Value) (p:Int->Bool) (aa:∀args w,(callFunc g args).run Tryz.prog w=.ok (.enter g args) w)
 (hc:∀x∈l,∀W,Below w.heap.size w W->Calls Tryz.prog g (first++#[.int .i64 x]++cap) W fun r Y=>r=.returned (.bool (p x))/\Below W.heap.size W Y):
 Calls Tryz.prog 221 #[v,.func (.func g) first cap] w fun r w'=>r=.returned (.int .i64 (idx p l))/\Below w.heap.size w w':=by
 have X:=ae O;obtain ⟨Z,cl,rfl,-,N,-⟩:=O;unfold maxLen at N;have V:=ae hc;clear hc;go_enter Tryz.func221,Tryz.ntmps221;go_wp2_with fail;go_loopw [8] (fun i wr=>∃k:Nat,k<=l.length/\i=.int .i64 k/\Hid (∀x∈l.take k,p x=false)/\Below w.heap.size w wr) (fun i _=>l.length - (intOf i).toNat)
 case atStart=>exact ⟨0,n0q _,rfl,(fun x hx=>by cases hx),br _ _⟩
 case round=>
  obtain ⟨k,hk,rfl,L,D⟩:=hrel;by_cases F:k<l.length
  ·obtain ⟨b,off,rfl,hb,e0⟩:=(X.o.keptI (Kp.below (D.mono hB))).atI k F;have E:=V.o l[k] (gm F) _ D;have A:=ae E;clear E;go_wp2_with fail;refine A.o.mono ?_;rintro r w2 ⟨rfl,J⟩;have I:=D.trans (J.mono D.size);clear J A;cases hp:p l[k]
   ·have G:=ae (zck F L.o hp);clear hp;go_wp2_with fail;go_roundw
    case rel=>exact ⟨k+1,by omega,by go_num,G.o,I⟩
    case measure=>simp [intOf];omega
   have G:=ae (zch F L.o hp);clear hp;go_wp2_with fail;go_ret;exact ⟨by rw [G.o];rfl,I⟩
  have G:Hid (idx p l= -1):=zci (by have:=L.o;rwa [List.take_of_length_le (by omega)]at this);go_wp2_with fail;go_ret;exact ⟨by rw [G.o];rfl,D⟩
theorem zhy (w:World) (B:Nat) (v:Value) (l:List Int) (E:SL 1 RI (· <B) w v l) (L:B<=w.heap.size) (g:Nat) (first cap:Array Value) (p:Int->Bool) (D:∀args w,(callFunc g args).run Tryz.prog w=.ok (.enter g args) w)
 (hc:∀x∈l,∀W,Below w.heap.size w W->Calls Tryz.prog g (first++#[.int .i64 x]++cap) W fun r I=>r=.returned (.bool (p x))/\Below W.heap.size W I):
 Calls Tryz.prog 174 #[v,.func (.func g) first cap] w fun r w'=>r=.returned (.bool (l.any p))/\Below w.heap.size w w':=by
 have A:=zhx w B v l E L g first cap p D hc
 have F:=ae A;clear A hc;have G:=ae (zcj p l);obtain ⟨J,O,rfl,-⟩:=E;go_enter Tryz.func174,Tryz.ntmps174;go_wp2_with fail;refine F.o.mono ?_;rintro r V ⟨rfl,N⟩;go_wp2_with fail;go_ret;exact ⟨by rw [<-G.o];rfl,N⟩
theorem zhz (w:World) (B:Nat) (v:Value) (l:List bp) (O:SL 4 RTh (· <B) w v l) (hB:B<=w.heap.size) (g:Nat) (first cap:Array Value) (p:bp->Bool) (aa:∀args w,(callFunc g args).run Tryz.prog w=.ok (.enter g args) w)
 (hc:∀x∈l,∀W,Below w.heap.size w W->Calls Tryz.prog g (first++#[.agg #[.int .i64 x.loc,.int .i64 x.tag,.int .i64 x.len,.int .i64 x.hash]]++cap) W fun r Y=>r=.returned (.bool (p x))/\Below W.heap.size W Y):
 Calls Tryz.prog 218 #[v,.func (.func g) first cap] w fun r w'=>r=.returned (.int .i64 (idx p l))/\Below w.heap.size w w':=by
 have X:=ae O;obtain ⟨Z,cl,rfl,-,N,-⟩:=O;unfold maxLen at N;have V:=ae hc;clear hc;go_enter Tryz.func218,Tryz.ntmps218;go_wp2_with fail;go_loopw [8] (fun i wr=>∃k:Nat,k<=l.length/\i=.int .i64 k/\Hid (∀x∈l.take k,p x=false)/\Below w.heap.size w wr) (fun i _=>l.length - (intOf i).toNat)
 case atStart=>exact ⟨0,n0q _,rfl,(fun x hx=>by cases hx),br _ _⟩
 case round=>
  obtain ⟨k,hk,rfl,L,D⟩:=hrel;by_cases F:k<l.length
  ·obtain ⟨b,off,rfl,hb,e0,e1,e2,e3⟩:=(X.o.keptTh (Kp.below (D.mono hB))).atTh k F;have E:=V.o l[k] (gm F) _ D;have A:=ae E;clear E;go_wp2_with fail;refine A.o.mono ?_;rintro r w2 ⟨rfl,J⟩;have I:=D.trans (J.mono D.size);clear J A;cases hp:p l[k]
   ·have G:=ae (zck F L.o hp);clear hp;go_wp2_with fail;go_roundw
    case rel=>exact ⟨k+1,by omega,by go_num,G.o,I⟩
    case measure=>simp [intOf];omega
   have G:=ae (zch F L.o hp);clear hp;go_wp2_with fail;go_ret;exact ⟨by rw [G.o];rfl,I⟩
  have G:Hid (idx p l= -1):=zci (by have:=L.o;rwa [List.take_of_length_le (by omega)]at this);go_wp2_with fail;go_ret;exact ⟨by rw [G.o];rfl,D⟩
theorem zh0 (w:World) (B:Nat) (v:Value) (l:List bp) (E:SL 4 RTh (· <B) w v l) (L:B<=w.heap.size) (g:Nat) (first cap:Array Value) (p:bp->Bool) (D:∀args w,(callFunc g args).run Tryz.prog w=.ok (.enter g args) w)
 (hc:∀x∈l,∀W,Below w.heap.size w W->Calls Tryz.prog g (first++#[.agg #[.int .i64 x.loc,.int .i64 x.tag,.int .i64 x.len,.int .i64 x.hash]]++cap) W fun r I=>r=.returned (.bool (p x))/\Below W.heap.size W I):
 Calls Tryz.prog 168 #[v,.func (.func g) first cap] w fun r w'=>r=.returned (.bool (l.any p))/\Below w.heap.size w w':=by
 have A:=zhz w B v l E L g first cap p D hc
 have F:=ae A;clear A hc;have G:=ae (zcj p l);obtain ⟨J,O,rfl,-⟩:=E;go_enter Tryz.func168,Tryz.ntmps168;go_wp2_with fail;refine F.o.mono ?_;rintro r V ⟨rfl,N⟩;go_wp2_with fail;go_ret;exact ⟨by rw [<-G.o];rfl,N⟩
theorem zh1 (W:World) (B c:Nat) (vW vO kC kS kF kN kT:Value) (h:bb) (d:bd) (g:Gd B W c vW vO kC kS kF kN kT h d) (P Q f:Nat) (first cap:Array Value) (N:W.cell? ⟨P,0,none⟩=some (.func (.func f) first cap)) (V:W.cell? ⟨Q,0,none⟩=some (.pointer (some ⟨c,0,none⟩)))
 (A:Nat) (hl:A<h.ab.length) (b:Bool) (Z:∀args w,(callFunc f args).run Tryz.prog w=.ok (.enter f args) w)
 (hc:∀D,Below W.heap.size W D->Calls Tryz.prog f (first++#[.int .i64 h.ab[A]]++cap) D fun r L=>r=.returned (.bool b)/\Below D.heap.size D L):
 Calls Tryz.prog 219 #[.int .i64 (A:Int),.pointer (some ⟨P,0,none⟩),.pointer (some ⟨Q,0,none⟩)] W fun r D=>r=.returned (.bool b)/\Below W.heap.size W D:=by
 have O:=World.block_lt_of_cell? W _ N;have X:=World.block_lt_of_cell? W _ V;have g0:=g.c0;have gl:=g.lt;obtain ⟨ao,ca,e,-,G,-⟩:=g.sW;have I:=ae g.sW;subst e;obtain ⟨bW,oW,rfl,Y,eW⟩:=I.o.atI A hl;unfold maxLen at G;have q1:(0:Int)<=A:=by omega
 have q2:(A:Int)<h.ab.length:=by omega
 have J:=ae hc;clear hc g I;generalize h.ab[A]=x at*;generalize h.ab.length=wl at*;go_enter Tryz.func219,Tryz.ntmps219;go_wp2_with fail
 go_region_held3 (fun D=>∀p:Addr,p.block<W.heap.size->D.cell? p=W.cell? p) (exact fun p hp=>Below.cell (B:=W.heap.size) (w:=W) (by repeat (first | assumption | exact br _ _ | refine Below.drew ?_)) hp) (first | (refine (J.o _ ?_).mono ?_;(exact (br _ _).drew);rintro r w2 ⟨rfl,E⟩;have F:Below W.heap.size W w2:=(br W.heap.size W).drew.trans E;clear E))
 all_goals
  rename_i hS1;clear hS1;go_wp2_with fail;go_ret;exact ⟨rfl,F⟩
theorem zh2 (fs:List (List bg)) (t:bp) {a:Int} (A:a∈refsOf fs t):t.loc+3<=a/\a<t.loc+3+t.len:=by obtain ⟨n,D,rfl⟩:=List.mem_map.1 A;have:=List.mem_range.1 (List.mem_filter.1 D).1;omega
def gc (fs:List (List bg)) (ws:List Int) (t:bp) (p:Int->Bool):Bool:=(refsOf fs t).any fun a=>p (wd ws a)
theorem zh3 (w:World) (B c:Nat) (vW vO kC kS kF kN kT:Value) (h:bb) (d:bd) (g:Gd B w c vW vO kC kS kF kN kT h d) (t:bp) (hf:lg d t) (aq:0<=t.loc) (ao:t.fin<=h.ab.length) (ay:h.ab.length<=100000) (f:Nat) (first cap:Array Value) (p:Int->Bool) (aa:∀args w,(callFunc f args).run Tryz.prog w=.ok (.enter f args) w)
 (hc:∀a∈refsOf d.fields t,∀W,Below w.heap.size w W->Calls Tryz.prog f (first++#[.int .i64 (wd h.ab a)]++cap) W fun r W'=>r=.returned (.bool (p (wd h.ab a)))/\Below W.heap.size W W'):
 Calls Tryz.prog 172 #[.pointer (some ⟨c,0,none⟩),thV t,.func (.func f) first cap] w fun r w'=>r=.returned (.bool (gc d.fields h.ab t p))/\Below w.heap.size w w':=by
 have au:=mm Tryz.prog;obtain ⟨A,I⟩:∃A,A=(((w.alloc (.cells #[.pointer (some ⟨c,0,none⟩)] 193)).alloc (.cells #[.int .i64 t.loc,.int .i64 t.tag,.int .i64 t.len,.int .i64 t.hash] 101)).alloc (.cells #[.func (.func f) first cap] 79)):=⟨_,rfl⟩;have ax:A.heap.size=w.heap.size+3:=by rw [I];simp
 have D:Below w.heap.size w A:=I ▸ (((br _ _).alloc (nlq _) _).alloc (by simp) _).alloc (by simp;omega) _;have b5:A.cell? ⟨w.heap.size+1+1,0,none⟩=some (.func (.func f) first cap):=by rw [I];simp [go_sem]
 have b3:A.cell? ⟨w.heap.size,0,none⟩=some (.pointer (some ⟨c,0,none⟩)):=by rw [I];simp [go_sem]
 have aj:t.fin=t.loc+3+t.len:=rfl;have al:=hf.lo;have V:Hid (Calls Tryz.prog 178 #[.pointer (some ⟨c,0,none⟩),.agg #[.int .i64 t.loc,.int .i64 t.tag,.int .i64 t.len,.int .i64 t.hash]] (((w.alloc (.cells #[.pointer (some ⟨c,0,none⟩)] 193)).alloc (.cells #[.int .i64 t.loc,.int .i64 t.tag,.int .i64 t.len,.int .i64 t.hash] 101)).alloc (.cells #[.func (.func f) first cap] 79)) fun r w'=>Below A.heap.size A w'/\∃v,r=.returned v/\w'.ownsRow A.heap.size 3 1 v (refsOf d.fields t).length (b8 (refsOf d.fields t))):=by have:=zht A B c _ _ _ _ _ _ _ h d (g.below D) t hf (by omega) (by omega);rw [<-I];exact this
 have ad:Hid ((refsOf d.fields t).length<=100000):=by show (jp d.fields t t.len.toNat).length<=_;have:=zhr d.fields t t.len.toNat;omega
 have O:Hid (∀W,Below A.heap.size A W->∀v,W.ownsRow A.heap.size 3 1 v (refsOf d.fields t).length (b8 (refsOf d.fields t))->Calls Tryz.prog 174 #[v,.func (.func 219) #[] #[.pointer (some ⟨w.heap.size+1+1,0,none⟩),.pointer (some ⟨w.heap.size,0,none⟩)]] W fun r w'=>r=.returned (.bool (gc d.fields h.ab t p))/\Below W.heap.size W w'):=by
  intro W X v hv;have ah:=zfb hv (lt3 ad.o (by omega));have ai:SL 1 RI (· <W.heap.size) W v (refsOf d.fields t):=ah.monoI fun b hb=>by obtain ⟨_,ak,_,_,hb,_⟩:=hb;exact bk hb
  refine zhy W W.heap.size v _ ai (nlq _) 219 #[] _ (fun a=>p (wd h.ab a)) (fun args w=>by kernel_rfl) ?_;intro a ha W2 af;have hr:=zh2 _ _ ha;obtain ⟨an,rfl⟩:=Int.eq_ofNat_of_zero_le (show 0<=a by omega);have Y:an<h.ab.length:=by omega
  have F:Below A.heap.size A W2:=X.trans (af.mono X.size);have G:Below w.heap.size w W2:=D.trans (F.mono D.size);refine zh1 W2 B c _ _ _ _ _ _ _ h d (g.below G) _ _ f first cap ((F.cell (p:=⟨w.heap.size+1+1,0,none⟩) (by show w.heap.size+1+1<_;omega)).trans b5) ((F.cell (p:=⟨w.heap.size,0,none⟩) (by show w.heap.size<_;omega)).trans b3) an Y (p (wd h.ab an)) aa ?_
  intro W3 ag;have:=hc _ ha W3 (G.trans (ag.mono G.size));rw [mw Y]at this ⊢;exact this
 have J:=ae D;have HW:=ae I;clear I D hc aa g hf b5 b3;unfold thV;go_enter Tryz.func172,Tryz.ntmps172;go_wp2_with fail;refine V.o.mono ?_;rintro r w1 ⟨E,v,rfl,hv⟩;have N:=ae (O.o w1 E v hv);have L:Hid (Below w.heap.size w w1):=J.o.trans (E.mono J.o.size);have av:=E.size;clear E hv O V;go_wp2_with fail;refine N.o.mono ?_;rintro r w2 ⟨rfl,Z⟩;have ac:Hid (Below w.heap.size w w2):=L.o.trans (Z.mono L.o.size);clear Z N;go_wp2_with fail;go_ret;exact ⟨rfl,ac.o⟩
end Go.Proofs.YtjdnmblggdobgaaGreat
