import Derived.Test.YtjdnmblggdobgaaGreatJHpRHpW
import Derived.Test.YtjdnmblggdobgaaGreatJLNoneLSaD
import Derived.Deep.DeepCutAuto
import Derived.Deep.RegionLaw
set_option maxHeartbeats 4000000
set_option maxRecDepth 100000
namespace Go.Proofs.YtjdnmblggdobgaaGreat
open Go.RowKit Go.Maps Tryz
theorem tm:(prog.info? 101).map (fun i=>(i.zero,i.size,i.bytes))=some (some (.agg #[.i 0,.i 0,.i 0,.i 0]),4,32):=by kernel_rfl
def fu (ts:List bk):List Value:=ts.flatMap fun t=>[.i t.loc,.i t.tag,.i t.len,.i t.hash]
theorem zhk (ts:List bk) (t:bk):fu (ts++ [t])=fu ts++ [.i t.loc,.i t.tag,.i t.len,.i t.hash]:=by simp [fu]
structure qr (X B:Nat) (w:World) (vW vO kC kS kF kN kT vA:Value) (h:ar) (d:bd) (ts:List bk):Prop where
 le:B<=X
 blk:w.heap[X+1]? =some (.cells #[vW,.i h.ae,.i h.old,.i h.bo,.i h.ba,vO,.i h.next,kC,kS,kF,kN,kT,vA,.map (some X)] 185 (0,0))
 sW:SL 1 RI (· <B) w vW h.ab
 sO:SL 1 RI (· <B) w vO h.am
 lk:mt (· <B) w kC kS kF kN kT d
 row:w.ownsRow (X+2) 101 4 vA ts.length (fu ts)
 pl:jt w X ts
theorem qr.gd {X B:Nat} {w:World} {J I A F D E G N:Value} {h:ar} {d:bd} {ts:List bk} (c:qr X B w J I A F D E G N h d ts):Gd B w (X+1) J I A F D E G h d:=
 have L:=bz c.blk;have O:=c.le
 ⟨L,by omega,bp c.blk 0 rfl,bp c.blk 1 rfl,bp c.blk 2 rfl,bp c.blk 3 rfl,bp c.blk 4 rfl,bp c.blk 5 rfl,bp c.blk 6 rfl,bp c.blk 7 rfl,bp c.blk 8 rfl,bp c.blk 9 rfl,bp c.blk 10 rfl,bp c.blk 11 rfl,c.sW,c.sO,c.lk⟩
theorem qr.below {X B:Nat} {w w':World} {O N E I F G J L:Value} {h:ar} {d:bd} {ts:List bk} (c:qr X B w O N E I F G J L h d ts) (A:Bl w w'):qr X B w' O N E I F G J L h d ts:=
 have V:=bz c.blk;have W:=c.le;have D:=Kp.below (A.mono (by omega:B<=w.heap.size))
 ⟨c.le,(A.block _ V).trans c.blk,c.sW.keptI D,c.sO.keptI D,c.lk.kept D,mf c.row A,c.pl.below A c.pl.lt⟩
def xf (X B:Nat) (vW vO kC kS kF kN kT:Value) (h:ar) (d:bd) (ts:List bk) (o:Option (List bk)) (r:Ending) (w':World):Prop:=
 (∃ts2 vA',o=some ts2/\r=.returned (.bool true)/\qr X B w' vW vO kC kS kF kN kT vA' h d (ts++ts2))\/(o=none/\r=.returned (.bool false))
theorem zhl (w:World) (X B:Nat) (vW vO kC kS kF kN kT vA:Value) (h:ar) (d:bd) (ts:List bk) (hc:qr X B w vW vO kC kS kF kN kT vA h d ts) (J:Nat) (F:Int) (ct:J<=5000) (de:F<=5000) (ht:F<=h.ab.length) (cv:ts.length<=J)
 (cp:d.fields.length=d.aj.length) (cr:∀f∈d.fields,f.length<=1000) (cn:d.aj.length<=1000):
 Calls prog 167 #[.p (X+1),.i (J:Int),.i F] w fun r w'=>Below X w w'/\
  xf X B vW vO kC kS kF kN kT h d ts (b9 d.aj.length d.fields h.ab J F) r w':=by
 obtain ⟨iT,cs,b4,b5,b6⟩:=info_parts tm;have ch:Hid (∀(W:World) (al:Value) (E:List bk) (A:Nat),A<=1000000->qr X B W vW vO kC kS kF kN kT al h d E->Calls prog 217 #[.p (X+1),.i (A:Int),.i F] W fun r w'=>Bl W w'/\∃t,r=.returned (.tuple #[nb t,.bool (gr d.aj.length d.fields h.ab A F)])/\(gr d.aj.length d.fields h.ab A F=true->t=bj h.ab A)):=
  fun W al E A hl cm=>zfc W B (X+1) _ _ _ _ _ _ _ h d cm.gd A F hl ht cp cr cn
 have HC:=ag hc;have c4:X+1<w.heap.size:=bz hc.blk;clear hc;go_enter func167,ntmps167;go_wp2_with fail;go_loopw [1] (fun i wr=>∃(A:Nat) (E:List bk) (al:Value),i=.i A/\A<=5000/\(ts++E).length<=A/\Hid (Below X w wr/\qr X B wr vW vO kC kS kF kN kT al h d (ts++E)/\b9 d.aj.length d.fields h.ab J F=(b9 d.aj.length d.fields h.ab A F).map (E++ ·))) (fun i _=>(F - intOf i).toNat)
 case atStart=>exact ⟨J,[],vA,rfl,ct,by simpa using cv,br _ _,by simpa using HC.o,by cases b9 d.aj.length d.fields h.ab J F<;>rfl⟩
 case round=>
  obtain ⟨A,E,al,rfl,hl,dd,HI⟩:=hrel;by_cases bg:(A:Int)<F
  ·have HR:=ag (ch.o wr al (ts++E) A (by omega) HI.o.2.1);go_wp2_with fail;refine HR.o.mono ?_;rintro r w1 ⟨ai,t,rfl,bh⟩;unfold nb;cases hrb:gr d.aj.length d.fields h.ab A F with
   | false=>
     have HN:=ag (Cc bg (by rw [hrb];decide));have cc:=ag (fun o=>(HI.o.1.trans (ai.mono (by have:=HI.o.1.size;omega))).alloc (by have:=HI.o.1.size;have:=ai.size;omega) o);clear ai bh HR;go_wp2_with fail;go_ret;exact ⟨cc.o _,Or.inr ⟨by rw [HI.o.2.2,HN.o];rfl,rfl⟩⟩
   | true=>
     have b3:=bh hrb;have af:=Ay hrb;have a9:(bj h.ab A).len<=5000:=by have h1:=af.2.1;have h2:(bj h.ab A).fin=A+3+(bj h.ab A).len:=rfl;omega
     have ax:=vd af.2.2.2;have co:(bj h.ab A).fin=A+3+(bj h.ab A).len:=rfl;have cj:=ag (Cb bg hrb);have ac:Hid ((A:Int)+3<=t.fin/\t.fin<=F/\t.loc=A/\0<=t.len/\t.len<=5000/\t=bj h.ab A):=by rw [b3];exact ⟨af.1,af.2.1,rfl,ax,a9,rfl⟩
     have c8:=ai.size;have c9:=HI.o.1.size;have bx:Below X w w1:=HI.o.1.trans (ai.mono (by omega));have b0:=HI.o.2.1.below ai;obtain ⟨I,a3⟩:∃I,I=w1.alloc (.cells #[.i t.loc,.i t.tag,.i t.len,.i t.hash] 101):=⟨_,rfl⟩;have be:Bl w1 I:=a3 ▸ (br _ _).alloc (nlq _) _;have ao:=b0.below be;have bu:Below X w I:=bx.trans (be.mono (by omega));have h7:I.heap[w1.heap.size]? =some (.cells #[.i t.loc,.i t.tag,.i t.len,.i t.hash] 101 (0,0)):=a3 ▸ heap_alloc_new w1 _;obtain ⟨a5,c5,rfl⟩:=kq ao.row;have dg:=bp ao.blk 12 (x:=.slice a5 (ts++E).length c5) rfl;have ml:=bz ao.blk;have s0:=bp h7 0 (x:=.i t.loc) rfl;have s1:=bp h7 1 (x:=.i t.tag) rfl;have s2:=bp h7 2 (x:=.i t.len) rfl;have s3:=bp h7 3 (x:=.i t.hash) rfl;have l7:=bz h7;have aa:=ag ao;have ce:=ag bu;have H7:=ag h7;have a1:Hid (I.drew.ownsRow (X+2) 101 4 (.slice a5 (ts++E).length c5) (ts++E).length (fu (ts++E))):=mf ao.row (br _ _).drew;have bc:Hid ((ts++E).length+1<=maxLen/\((ts++E).length+1)*32<=140737488355328/\X+2<=(I.drew.alloc (.cells #[.i t.loc,.i t.tag,.i t.len,.i t.hash] 101)).heap.size):=⟨by unfold maxLen;omega,by omega,by show X+2<=(I.alloc _).heap.size;simp;omega⟩;have c3:w1.heap.size<I.heap.size:=l7;have ck:=ag a3;have ci:Hid (∀q,(Value.slice a5 (ts++E).length c5).ownBlock=some q->q<wr.heap.size):=fun q e=>(HI.o.2.1.row.lt q e).2;have bi:Hid (∀W,Calls prog 72 #[.agg #[.i t.loc,.i t.tag,.i t.len,.i t.hash]] W fun r w'=>r=.returned (.i t.fin)/\Bl W w'):=fun W=>Ei W t (by have:=ac.o.2.2.1;unfold small;omega) (by have:=ac.o.2.2.2.1;have:=ac.o.2.2.2.2.1;unfold small;omega);clear ai bh HR b3 af a9 ax co bx b0 be ao bu h7 a3;generalize hn:(ts++E).length=n at*
     go_upto_region 5 with fail
     rw [<-ck.o]
     go_region_law (first
      | (refine step_append_lies _ (by rfl) (.tmp 25) (.tmp 27) 182 (by rfl) (X+2) 101 iT (.agg #[.i 0,.i 0,.i 0,.i 0]) 4 32 underlying182 cs b4 b5 b6 rfl (by decide) (.slice a5 n c5) n (fu (ts++E)) (by rfl) (a1.o.alloc _) ⟨I.drew.heap.size,0,none⟩ 1 1 [.i t.loc,.i t.tag,.i t.len,.i t.hash] (by rfl) rfl (World.news_of_block (heap_alloc_new I.drew _)) (by intro u hu;simp at hu;rcases hu with rfl | rfl | rfl | rfl<;>rfl) (by decide) bc.o.1 bc.o.2.1 bc.o.2.2 _ rfl ?_;intro gA cA w9 O G _ c2;have V:∀q,(Value.slice a5 n c5).ownBlock=some q->X+2<=q:=fun q e=>(a1.o.lt q e).1;have ad:=(G.block (X+1) (by show X+1<(I.alloc _).heap.size;simp;omega) (fun e=>by have:=V _ e.symm;omega)).trans ((Below.heap_alloc _ _ _ ml).trans aa.o.blk);have m9:=bp ad 12 (x:=.slice a5 n c5) rfl;have z9:=pj ad 12;have dl:=bz ad;have bm:=ag (And.intro O (And.intro G ad));clear O G ad V)
      | go_simp)
     all_goals
      obtain ⟨O,G,ad⟩:=bm.o;have V:∀q,(Value.slice a5 n c5).ownBlock=some q->X+2<=q:=fun q e=>(a1.o.lt q e).1;have cx:(I.drew.alloc (.cells #[.i t.loc,.i t.tag,.i t.len,.i t.hash] 101)).heap.size=I.heap.size+1:=by show (I.alloc _).heap.size=_;simp
      have cy:(I.alloc (.cells #[.i t.loc,.i t.tag,.i t.len,.i t.hash] 101)).drew.heap.size=I.heap.size+1:=by show (I.alloc _).heap.size=_;simp
      have cu:=G.size;have bv:Below X w w9:=((ce.o.drew).alloc (by show X<=I.heap.size;omega) (.cells #[.i t.loc,.i t.tag,.i t.len,.i t.hash] 101)).grown G (by omega) (fun q e=>by have:=V q e;omega);obtain ⟨L,N⟩:∃L,L=w9.setCell ⟨X+1,12,none⟩ (.slice (some ⟨gA,0,none⟩) (n+1) cA):=⟨_,rfl⟩;have av:w9.grownBy L (some (X+1)):=N ▸ ow (World.grownBy.refl _ _) _ _ (Or.inl rfl);have a6:Below X w L:=N ▸ bv.setCell (by simp) _;have a2:L.heap[X+1]? =some (.cells #[vW,.i h.ae,.i h.old,.i h.bo,.i h.ba,vO,.i h.next,kC,kS,kF,kN,kT,.slice (some ⟨gA,0,none⟩) (n+1) cA,.map (some X)] 185 (0,0)):=N ▸ rr ad _;have ak:L.ownsRow (X+2) 101 4 (.slice (some ⟨gA,0,none⟩) (n+1) cA) (n+1) (fu (ts++E)++ [.i t.loc,.i t.tag,.i t.len,.i t.hash]):=N ▸ ownsRow_setCell_below O (by simp) _;have b7:jt L X (ts++E):=(((aa.o.pl.below (br I.heap.size I).drew aa.o.pl.lt).kept (row:=none) (World.grownBy_alloc I.drew (.cells #[.i t.loc,.i t.tag,.i t.len,.i t.hash] 101) _) (by simp)).kept G (fun e=>by have:=V _ e.symm;omega)).kept av (by simp);have e9:=(G.block w1.heap.size (by omega) (fun e=>by have:=ci.o _ e.symm;omega)).trans ((Below.heap_alloc _ _ _ (by show w1.heap.size<I.heap.size;omega)).trans H7.o);have ah:=(av.block w1.heap.size (by omega) (by simp;omega)).trans e9;have dk:=bp a2 13 (x:=.map (some X)) rfl;have u0:=bp ah 0 (x:=.i t.loc) rfl;have u1:=bp ah 1 (x:=.i t.tag) rfl;have u2:=bp ah 2 (x:=.i t.len) rfl;have u3:=bp ah 3 (x:=.i t.hash) rfl;have c0:=bz a2;have c1:=bz ah;obtain ⟨D,ay,hD⟩:=b7;have a8:keyOf prog 3 (.i (A:Int))=some (jm A):=keyOf_int_mk underlying3 (WalkArith.wf_i64 (by omega));obtain ⟨ap,bb,Z,Y⟩:=World.ownsMap.update (w:=L.drew) ay.drew qc underlying183 (by rw [hn];unfold maxLen;omega) a8 (zfd t);unfold nb at bb;have bf:=zfj hD (ay.tidy qc) t;rw [ac.o.2.2.1]at bf;have a7:Below X w ap:=(a6.drew).grown Y (by show X<=L.heap.size;omega) (fun q e=>by cases e;exact nlq _);have bs:=(Y.block (X+1) c0 (by simp)).trans a2;have an:=(Y.block w1.heap.size c1 (by simp;omega)).trans ah;have az:ap.ownsRow (X+2) 101 4 (.slice (some ⟨gA,0,none⟩) (n+1) cA) (n+1) (fu (ts++E)++ [.i t.loc,.i t.tag,.i t.len,.i t.hash]):=(mf ak (br _ _).drew).kept Y (Or.inr fun e=>by have:=((mf ak (br _ _).drew).lt X e).1;omega);have a0:Hid (Below X w ap/\qr X B ap vW vO kC kS kF kN kT (.slice (some ⟨gA,0,none⟩) (n+1) cA) h d (ts++(E++ [t]))):=by
       have b2:=aa.o.le;have aw:Kp (· <B) I ap:=by
        have hb:Below X I ap:=by have q1:Below X I w9:=(((br X I).drew).alloc (by show X<=I.heap.size;omega) (.cells #[.i t.loc,.i t.tag,.i t.len,.i t.hash] 101)).grown G (by omega) (fun q e=>by have:=V q e;omega);have q2:Below X I L:=N ▸ q1.setCell (by simp) _;exact (q2.drew).grown Y (by show X<=L.heap.size;omega) (fun q e=>by cases e;exact nlq _)
        exact Kp.below (hb.mono b2)
       have b1:(ts++(E++ [t])).length=n+1:=by rw [<-List.append_assoc,List.length_append,hn];rfl
       refine ⟨a7,b2,bs,aa.o.sW.keptI aw,aa.o.sO.keptI aw,aa.o.lk.kept aw,?_,D.put (jm A) (li t),?_,?_⟩
       ·rw [b1,<-List.append_assoc,zhk];exact az
       ·rw [b1];rw [hn]at Z;exact Z
       rw [<-List.append_assoc];exact bf
      have v0:=bp an 0 (x:=.i t.loc) rfl;have v1:=bp an 1 (x:=.i t.tag) rfl;have v2:=bp an 2 (x:=.i t.len) rfl;have v3:=bp an 3 (x:=.i t.hash) rfl;have df:=bz an;have bn:=ag N;clear O G ad V bv av a6 a2 ak e9 ah ay hD a8 Z Y bf a7 bs an az bm m9 z9 cx cy cu N;rw [<-bn.o];go_wp2_with fail;go_region
      all_goals
       go_wp2_with fail;refine (bi.o _).mono ?_;rintro r ca ⟨rfl,au⟩;have bl:Hid (Below X w ca/\qr X B ca vW vO kC kS kF kN kT (.slice (some ⟨gA,0,none⟩) (n+1) cA) h d (ts++(E++ [t]))):=⟨a0.o.1.trans (au.mono (by have:=a0.o.1.size;omega)),a0.o.2.below au⟩;obtain ⟨fn,a4⟩:∃fn:Nat,t.fin=fn:=⟨t.fin.toNat,by have:=ac.o.1;omega⟩;have c6:(A:Int)+3<=fn:=a4 ▸ ac.o.1;have c7:(fn:Int)<=F:=a4 ▸ ac.o.2.1;have cl:Hid (b9 d.aj.length d.fields h.ab J F=(b9 d.aj.length d.fields h.ab fn F).map ((E++ [t])++ ·)):=by show _=_;rw [HI.o.2.2,cj.o,<-ac.o.2.2.2.2.2,a4];cases b9 d.aj.length d.fields h.ab fn F<;>simp
       have cf:Hid ((ts++(E++ [t])).length<=fn):=by show _<=_;rw [<-List.append_assoc,List.length_append,hn];simp;omega
       rw [a4];clear au v0 v1 v2 v3 u0 u1 u2 u3 bb bi a0 aa a1 HI;go_wp2_with fail;go_roundw
       case rel=>exact ⟨fn,E++ [t],_,rfl,by omega,cf.o,bl.o.1,bl.o.2,cl.o⟩
       case measure=>simp [intOf];omega
  have HE:=ag (A6 (n:=d.aj.length) (fs:=d.fields) (ws:=h.ab) bg);go_wp2_with fail;go_ret;exact ⟨HI.o.1,Or.inl ⟨E,al,by rw [HI.o.2.2,HE.o];simp,rfl,HI.o.2.1⟩⟩
theorem zhm (n:Nat) (fs:List (List bq)) (ws:List Int) (A:Int):∀(f:Nat) (loc:Int) (ts:List bk),loc<=A->jj n fs ws A f loc=some ts->loc+3*(ts.length:Int)<=A
 | 0,loc,ts,hl,h=>by rw [jj]at h;cases h;simpa using hl
 | f+1,loc,ts,hl,h=>by
   rw [jj]at h;split at h
   ·split at h
    ·rename_i hr;have h1:=Ay hr;cases hx:jj n fs ws A f (bj ws loc).fin with
     | none=>rw [hx]at h;cases h
     | some ts'=>
       rw [hx]at h;have D:=zhm n fs ws A f _ ts' h1.2.1 hx;cases h;simp only [List.length_cons];omega
    cases h
   cases h;simpa using hl
theorem Dq {n:Nat} {fs:List (List bq)} {ws:List Int} {A D:Int} {ts:List bk} (E:A<=D) (h:b9 n fs ws A D=some ts):A+3*(ts.length:Int)<=D:=zhm n fs ws D _ A ts E h
def io (d:bd) (h:ar):Option (List bk):=
 match b9 d.aj.length d.fields h.ab 1 h.bo with
 | none=>none
 | some ys=>(b9 d.aj.length d.fields h.ab (h.ae+1) h.ba).map (ys++ ·)
structure nj (d:bd) (h:ar):Prop where
 ae:3<=h.ae/\h.ae<=2000
 old:3<=h.old/\h.old<=2000
 len:(h.ab.length:Int)=1+h.ae+h.old
 bo:1<=h.bo/\h.bo<=h.ae+1
 ba:h.ae+1<=h.ba/\h.ba<=h.ae+h.old+1
 fl:d.fields.length=d.aj.length
 fs:∀f∈d.fields,f.length<=1000
 cn:d.aj.length<=1000
def Cv (X B:Nat) (vW vO kC kS kF kN kT:Value) (h:ar) (d:bd) (r:Ending) (w':World):Prop:=
 (∃ts vA,io d h=some ts/\r=.returned (.tuple #[.p (X+1),.bool true])/\qr X B w' vW vO kC kS kF kN kT vA h d ts)\/(io d h=none/\r=.returned (.tuple #[.p (X+1),.bool false]))
theorem zho (w:World) (B:Nat) (D A E I F G J:Value) (h:ar) (d:bd) (hB:B<=w.heap.size) (sW:SL 1 RI (· <B) w D h.ab) (sO:SL 1 RI (· <B) w A h.am) (lk:mt (· <B) w E I F G J d) (L:nj d h):
 Calls prog 109 #[.agg #[D,.i h.ae,.i h.old,.i h.bo,.i h.ba,A,.i h.next],.agg #[E,I,F,G,J]] w fun r w'=>Bl w w'/\Cv (w.heap.size+1+1) B D A E I F G J h d r w':=by
 obtain ⟨X,hW⟩:∃X,X=((((w.alloc (.cells #[D,.i h.ae,.i h.old,.i h.bo,.i h.ba,A,.i h.next] 24)).alloc (.cells #[E,I,F,G,J] 36)).alloc (.map #[] 0)).alloc (.cells #[D,.i h.ae,.i h.old,.i h.bo,.i h.ba,A,.i h.next,E,I,F,G,J,.nl,.map (some (w.heap.size+1+1))] 185)):=⟨_,rfl⟩;have ak:Bl w X:=hW ▸ ((((br _ _).alloc (nlq _) _).alloc (by simp) _).alloc (by simp;omega) _).alloc (by simp;omega) _;have hk:=Kp.below (ak.mono hB);have O:X.heap[w.heap.size+1+1+1]? =some (.cells #[D,.i h.ae,.i h.old,.i h.bo,.i h.ba,A,.i h.next,E,I,F,G,J,.nl,.map (some (w.heap.size+1+1))] 185 (0,0)):=by have h1:=heap_alloc_new (((w.alloc (.cells #[D,.i h.ae,.i h.old,.i h.bo,.i h.ba,A,.i h.next] 24)).alloc (.cells #[E,I,F,G,J] 36)).alloc (.map #[] 0)) (.cells #[D,.i h.ae,.i h.old,.i h.bo,.i h.ba,A,.i h.next,E,I,F,G,J,.nl,.map (some (w.heap.size+1+1))] 185);rw [<-hW]at h1;simpa using h1
 have aw:jt X (w.heap.size+1+1) []:=by have h1:=(World.ownsMap_made ((w.alloc (.cells #[D,.i h.ae,.i h.old,.i h.bo,.i h.ba,A,.i h.next] 24)).alloc (.cells #[E,I,F,G,J] 36)) prog 3 ko).alloc (.cells #[D,.i h.ae,.i h.old,.i h.bo,.i h.ba,A,.i h.next,E,I,F,G,J,.nl,.map (some (w.heap.size+1+1))] 185);rw [<-hW]at h1;refine ⟨.map [],?_,zfi⟩;simpa using h1
 have hc:qr (w.heap.size+1+1) B X D A E I F G J (.nl) h d []:=⟨by omega,O,sW.keptI hk,sO.keptI hk,lk.kept hk,World.ownsRow_nil _ _ _ _,aw⟩;have aa:X.heap[w.heap.size]? =some (.cells #[D,.i h.ae,.i h.old,.i h.bo,.i h.ba,A,.i h.next] 24 (0,0)):=by rw [hW];exact (Below.heap_alloc _ _ _ (by simp;omega)).trans ((Below.heap_alloc _ _ _ (by simp;omega)).trans ((Below.heap_alloc _ _ _ (by simp)).trans (heap_alloc_new w _)))
 obtain ⟨yn,an⟩:∃yn:Nat,h.ae+1=yn:=⟨(h.ae+1).toNat,by have:=L.ae;omega⟩;have a3:=L.ae;have bg:IntKind.i64.wrap (h.ae+1)=(yn:Int):=(gp _ (by omega) (by omega)).trans an;have HY:Hid (h.ae+1=yn):=an;have ax:=L.bo;have a4:=L.ba;have a5:=L.old;have a6:=L.len;have ah:Hid (Calls prog 167 #[.p (w.heap.size+1+1+1),.i 1,.i h.bo] ((((w.alloc (.cells #[D,.i h.ae,.i h.old,.i h.bo,.i h.ba,A,.i h.next] 24)).alloc (.cells #[E,I,F,G,J] 36)).alloc (.map #[] 0)).alloc (.cells #[D,.i h.ae,.i h.old,.i h.bo,.i h.ba,A,.i h.next,E,I,F,G,J,.nl,.map (some (w.heap.size+1+1))] 185)) fun r w'=>Below (w.heap.size+1+1) X w'/\
  xf (w.heap.size+1+1) B D A E I F G J h d [] (b9 d.aj.length d.fields h.ab 1 h.bo) r w'):=by
  have:=zhl X (w.heap.size+1+1) B _ _ _ _ _ _ _ _ h d [] hc 1 h.bo (by omega) (by omega) (by omega) (by simp) L.fl L.fs L.cn;rw [<-hW];exact this
 have ai:Hid (∀W vA ts,qr (w.heap.size+1+1) B W D A E I F G J vA h d ts->b9 d.aj.length d.fields h.ab 1 h.bo=some ts->Calls prog 167 #[.p (w.heap.size+1+1+1),.i (yn:Int),.i h.ba] W fun r w'=>Below (w.heap.size+1+1) W w'/\
  xf (w.heap.size+1+1) B D A E I F G J h d ts (b9 d.aj.length d.fields h.ab yn h.ba) r w'):=fun W vA ts Z a2=>by
  have bb:=Dq ax.1 a2;exact zhl W (w.heap.size+1+1) B _ _ _ _ _ _ _ _ h d ts Z yn h.ba (by omega) (by omega) (by omega) (by omega) L.fl L.fs L.cn
 have bc:=@run_makeMap prog;have ay:=ag ak;have az:=ag aa;have bf:w.heap.size+1+1+1<X.heap.size:=bz O;clear hW hc aa ak L hk O aw an a3 ax a4 a5 a6 sW sO lk;go_enter func109,ntmps109;go_wp2_with fail;refine ah.o.mono ?_;rintro r w1 ⟨N,ho⟩;have Y:Bl w w1:=ay.o.trans (N.mono (by omega));rcases ho with ⟨a7,bh,ho,rfl,Z⟩ | ⟨ho,rfl⟩
 ·have al:=(N.block w.heap.size (by omega)).trans az.o;have b1:=bp al 1 (x:=.i h.ae) rfl;have b4:=bp al 4 (x:=.i h.ba) rfl;have a0:=ag Z;have ac:=ag Y;have HO:=ag ho;have be:=N.size;clear al Z Y ho N ah;go_wp2_with fail;refine (ai.o _ _ _ a0.o HO.o).mono ?_;rintro r w2 ⟨ap,av⟩;have ao:Hid (Bl w w2):=ac.o.trans (ap.mono (by omega));have ad:=ag av;clear ap av ai;rcases ad.o with ⟨a8,a9,V,rfl,au⟩ | ⟨V,rfl⟩
  ·have a1:=ag au;have af:=ag V;clear au V ad;go_wp2_with fail;refine bodyPost_ret (v:=.tuple #[.p (w.heap.size+1+1+1),.bool true]) (by simp [results,results109,go_sem]) rfl ⟨ao.o,Or.inl ⟨a7++a8,a9,?_,rfl,a1.o⟩⟩;rw [io,HO.o,HY.o,af.o];rfl
  have af:=ag V;clear V ad;go_wp2_with fail;refine bodyPost_ret (v:=.tuple #[.p (w.heap.size+1+1+1),.bool false]) (by simp [results,results109,go_sem]) rfl ⟨ao.o,Or.inr ⟨?_,rfl⟩⟩;rw [io,HO.o,HY.o,af.o];rfl
 have HO:=ag ho;have ac:=ag Y;clear ho Y N ah ai;go_wp2_with fail;refine bodyPost_ret (v:=.tuple #[.p (w.heap.size+1+1+1),.bool false]) (by simp [results,results109,go_sem]) rfl ⟨ac.o,Or.inr ⟨?_,rfl⟩⟩;rw [io,HO.o]
theorem yy {w:World} {B B' e n len:Nat} {v:Value} {xs:List Value} (h:w.ownsRow B e n v len xs) (I:B'<=B):w.ownsRow B' e n v len xs:=by obtain ⟨h1,G⟩:=h;refine ⟨h1,G.imp id ?_⟩;rintro ⟨g,cap,A,D,E,F⟩;exact ⟨g,cap,A,D,lt3 I E,F⟩
def lh (fs:List (List bq)) (t:bk) (n:Nat):List Int:=((List.range n).filter (jp fs t)).map fun (n:Nat)=>t.loc+3+(n:Int)
theorem zhq (fs:List (List bq)) (t:bk) (n:Nat):lh fs t (n+1)=lh fs t n++if jp fs t n then [t.loc+3+(n:Int)] else []:=by unfold lh;rw [List.range_succ,List.filter_append,List.map_append];cases hr:jp fs t n<;>simp [hr]
theorem Ek (fs:List (List bq)) (t:bk) (n:Nat):(lh fs t n).length<=n:=by unfold lh;rw [List.length_map];exact lt3 (List.length_filter_le _ _) (by simp)
theorem El (l:List Int) (x:Int):bw (l++ [x])=bw l++ [.i x]:=by simp [bw]
theorem zht (w:World) (B c:Nat) (vW vO kC kS kF kN kT:Value) (h:ar) (d:bd) (g:Gd B w c vW vO kC kS kF kN kT h d) (t:bk) (hf:pm d t) (a9:0<=t.loc/\t.loc<=100000) (a8:t.len<=100000):
 Calls prog 178 #[.p c,nb t] w fun r w'=>Bl w w'/\∃v,r=.returned v/\w'.ownsRow w.heap.size 3 1 v (refsOf d.fields t).length (bw (refsOf d.fields t)):=by
 obtain ⟨iI,a2,ap,au,av⟩:=info_parts jy;obtain ⟨D,O⟩:∃D,D=w.alloc (.cells #[.i t.loc,.i t.tag,.i t.len,.i t.hash] 101):=⟨_,rfl⟩;have ad:Bl w D:=O ▸ (br _ _).alloc (nlq _) _;have X:D.heap[w.heap.size]? =some (.cells #[.i t.loc,.i t.tag,.i t.len,.i t.hash] 101 (0,0)):=O ▸ heap_alloc_new w _;have al:=bz X;have HG:Hid (Gd B D c vW vO kC kS kF kN kT h d):=g.below ad;have az:Hid (∀W n,Bl D W->((n:Nat):Int)<t.len->Calls prog 131 #[.p c,.agg #[.i t.loc,.i t.tag,.i t.len,.i t.hash],.i (n:Int)] W fun r w'=>r=.returned (.bool (jp d.fields t n))/\Bl W w'):=fun W n hW hn=>zfa W B c _ _ _ _ _ _ _ h d (HG.o.below hW) t hf n hn;have a1:Hid (∀W n,((n:Nat):Int)<t.len->Calls prog 68 #[.agg #[.i t.loc,.i t.tag,.i t.len,.i t.hash],.i (n:Int)] W fun r w'=>r=.returned (.i (t.loc+3+n))/\Bl W w'):=fun W n hn=>ze1 W t n (by unfold small;omega) (by unfold small;omega);have ay:=ag O;have aw:=ag ad;have af:=ag X;have a0:Hid (refsOf d.fields t=lh d.fields t t.len.toNat):=rfl;have a7:=hf.lo;clear g ad O hf;generalize hth:t.len=tl at*;unfold nb;rw [hth];clear hth;have a6:=bp X 2 (x:=.i tl) rfl;clear X;go_enter func178,ntmps178;go_wp2_with fail;rw [<-ay.o];go_loopw [5,9] (fun v i wr=>∃n:Nat,i=.i n/\(n:Int)<=tl/\Hid (wr.ownsRow D.heap.size 3 1 v (lh d.fields t n).length (bw (lh d.fields t n))/\Bl D wr)) (fun _ i _=>(tl - intOf i).toNat)
 case atStart=>exact ⟨0,rfl,by omega,World.ownsRow_nil _ _ _ _,br _ _⟩
 case round=>
  obtain ⟨n,rfl,hn,N⟩:=hrel;by_cases an:(n:Int)<tl
  ·have F:=(N.o.2.block _ al).trans af.o;have s0:=bp F 0 (x:=.i t.loc) rfl;have s1:=bp F 1 (x:=.i t.tag) rfl;have s2:=bp F 2 (x:=.i tl) rfl;have s3:=bp F 3 (x:=.i t.hash) rfl;have ls:=bz F;clear F;have aa:=ag (az.o wr n N.o.2 an);go_wp2_with fail;refine aa.o.mono ?_;rintro r w1 ⟨rfl,J⟩;have bc:=J.size;have bf:=N.o.2.size;have I:Bl D w1:=N.o.2.trans (J.mono (by omega));have A:=mf N.o.1 J;have G:=ag (zhq d.fields t n);cases hr:jp d.fields t n with
   | false=>
     rw [hr]at G;have HF:Hid (w1.ownsRow D.heap.size 3 1 u5 (lh d.fields t (n+1)).length (bw (lh d.fields t (n+1)))/\Bl D w1):=by rw [G.o];simp only [Bool.false_eq_true,if_false,List.append_nil];exact ⟨A,I⟩
     clear A I J aa N G;go_wp2_with fail;go_roundw
     case rel=>exact ⟨n+1,by simp,by omega,HF.o⟩
     case measure=>simp [intOf];omega
   | true=>
     rw [hr]at G;have F:=(I.block _ al).trans af.o;have s0:=bp F 0 (x:=.i t.loc) rfl;have s1:=bp F 1 (x:=.i t.tag) rfl;have s2:=bp F 2 (x:=.i tl) rfl;have s3:=bp F 3 (x:=.i t.hash) rfl;have ls:=bz F;have ai:=ag (a1.o w1 n an);have ac:=ag (And.intro A I);clear F A I J aa N;go_wp2_with fail;refine ai.o.mono ?_;rintro r w2 ⟨rfl,V⟩;have be:=V.size;have aj:Bl D w2:=ac.o.2.trans (V.mono (by omega));have E:=mf ac.o.1 V;have bb:=Ek d.fields t n;generalize hrn:lh d.fields t n=acc at*;obtain ⟨a5,c5,rfl⟩:=kq E;have ah:=ag E;have ax:=ag aj;generalize hlx:t.loc+3+(n:Int)=lx at*;have Z:Hid (acc.length+1<=maxLen/\(acc.length+1)*8<=140737488355328/\D.heap.size<=(w2.alloc (.cells #[.i lx] 3)).heap.size):=⟨by unfold maxLen;omega,by omega,by simp;omega⟩;clear V aj E ac ai;go_wp2_with (at_builtin;refine wpList_append_lies _ rfl _ _ 22 rfl D.heap.size 3 iI (.i 0) 1 8 underlying22 a2 ap au av rfl (by decide) (.slice a5 acc.length c5) acc.length (bw acc) rfl (ah.o.alloc _) ⟨w2.heap.size,0,none⟩ 1 1 [.i lx] rfl rfl (World.news_of_block (heap_alloc_new w2 _)) (by intro u hu;simp at hu;subst hu;rfl) (by omega) Z.o.1 Z.o.2.1 Z.o.2.2 _ rfl ?_);intro gA cA w3 L Y _ a4;have ao:∀k,(Value.slice a5 acc.length c5).ownBlock=some k->D.heap.size<=k:=fun k e=>(ah.o.lt k e).1;have ak:Bl D w3:=(ax.o.alloc (by omega) _).grown Y (by simp;omega) (fun k e=>ao k e);have HF:Hid (w3.ownsRow D.heap.size 3 1 (.slice (some ⟨gA,0,none⟩) (acc.length+1) cA) (lh d.fields t (n+1)).length (bw (lh d.fields t (n+1)))/\Bl D w3):=by rw [G.o];simp only [if_true,List.length_append,El];exact ⟨L,ak⟩
     clear L Y ak ao;go_wp2_with fail;go_roundw
     case rel=>exact ⟨n+1,by simp,by omega,HF.o⟩
     case measure=>simp [intOf];omega
  have a3:tl.toNat=n:=by omega
  have HF:Hid (Bl w wr/\wr.ownsRow w.heap.size 3 1 u5 (refsOf d.fields t).length (bw (refsOf d.fields t))):=by rw [a0.o,a3];exact ⟨aw.o.trans (N.o.2.mono (by omega)),yy N.o.1 (by omega)⟩
  go_wp2_with fail;go_ret;exact ⟨HF.o.1,_,rfl,HF.o.2⟩
def nu (ts:List bk) (n:Int):bk:=(j9 ts n).getD ⟨0,0,0,0⟩
theorem zhu (w:World) (X B:Nat) (vW vO Z kS kF kN kT vA:Value) (h:ar) (d:bd) (ts:List bk) (hc:qr X B w vW vO Z kS kF kN kT vA h d ts) (n:Int) (W:(Lit.int .i64 n).wf=true):
 Calls prog 126 #[.p (X+1),.i n] w fun r w'=>r=.returned (.tuple #[nb (nu ts n),.bool (j9 ts n).isSome])/\Bl w w':=by
 have N:Bl w (w.alloc (.cells #[.i 0,.i 0,.i 0,.i 0] 101)):=(br _ _).alloc (nlq _) _;have A:=hc.below N;have G:(w.alloc (.cells #[.i 0,.i 0,.i 0,.i 0] 101)).heap[w.heap.size]? =some (.cells #[.i 0,.i 0,.i 0,.i 0] 101 (0,0)):=heap_alloc_new w _;have aa:=bp A.blk 13 (x:=.map (some X)) rfl;have ml:=bz A.blk;obtain ⟨D,F,I⟩:=A.pl;have E:keyOf prog 3 (.i n)=some (jm n):=keyOf_int_mk underlying3 W;have J:Hid (D.atKey (jm n) (li ⟨0,0,0,0⟩)=li (nu ts n)):=by
  show _=_;unfold nu;cases hp:j9 ts n with
  | none=>rw [I.no n _ hp];rfl
  | some t=>rw [I.at_ n t _ hp];rfl
 have L:Hid (Maps.has D (jm n)=(j9 ts n).isSome):=I.has n;have HB:=ag N;have r0:=bp G 0 (x:=.i 0) rfl;have r1:=bp G 1 (x:=.i 0) rfl;have r2:=bp G 2 (x:=.i 0) rfl;have r3:=bp G 3 (x:=.i 0) rfl;have z6:=pj G;have l6:=bz G;clear hc A I N G W;generalize nu ts n=t at*;generalize (j9 ts n).isSome=ok at*;have Y:=ag E;clear E;go_enter func126,ntmps126;go_wp2_with (at_lookup;refine wpList_lookup_own_ok _ rfl _ _ 183 rfl 3 101 qc underlying183 _ (Ca _) (li ⟨0,0,0,0⟩) [] rfl X ts.length D rfl F _ _ rfl Y.o ?_);intro v ps O;rw [J.o]at O;have V:=zff O;subst V;rw [L.o];unfold nb;clear O F;go_wp2_with fail;exact bodyPost_ret (v:=.tuple #[.agg #[.i t.loc,.i t.tag,.i t.len,.i t.hash],.bool ok]) (by simp [results,results126,go_sem]) rfl ⟨rfl,((br _ _).alloc (nlq _) _).alloc (by simp) _⟩
def b8 (ts:List bk) (n:Int):Bool:=(j9 ts n).isSome||n==0
theorem zhv (w:World) (X B:Nat) (W V G L I J N O:Value) (h:ar) (d:bd) (ts:List bk) (hc:qr X B w W V G L I J N O h d ts) (n:Int) (F:(Lit.int .i64 n).wf=true):
 Calls prog 132 #[.p (X+1),.i n] w fun r w'=>r=.returned (.bool (b8 ts n))/\Bl w w':=by
 have E:=ag (zhu w X B _ _ _ _ _ _ _ _ h d ts hc n F);clear hc F;unfold b8;unfold nb at E;generalize nu ts n=t at*;generalize (j9 ts n).isSome=ok at*;go_enter func132,ntmps132;go_wp2_with fail;refine E.o.mono ?_;rintro r Y ⟨rfl,D⟩;have A:=ag D;clear D E;cases ok with
 | true=>
   go_wp2_with fail;go_ret;exact ⟨by simp,A.o.alloc A.o.size _⟩
 | false=>
   by_cases h0:n=0
   ·subst h0;go_wp2_with fail;go_ret;exact ⟨by simp,A.o.alloc A.o.size _⟩
   have h1:(n==0)=false:=beq_eq_false_iff_ne.2 h0;go_wp2_with fail;go_ret;exact ⟨by simp [h0],A.o.alloc A.o.size _⟩
def Cx (_:Nat->Prop) (_:World) (cs:List Value) (t:bk):Prop:=cs= [.i t.loc,.i t.tag,.i t.len,.i t.hash]
theorem SL.keptTh {M:Nat->Prop} {w w':World} {v:Value} {l:List bk} (h:SL 4 Cx M w v l) (A:Kp M w w'):SL 4 Cx M w' v l:=h.kept A fun _ _ h=>h
theorem SL.atTh {M:Nat->Prop} {w:World} {A:Option Addr} {len cap:Nat} {l:List bk} (h:SL 4 Cx M w (.slice A len cap) l) (k:Nat) (E:k<l.length):
 ∃b off,A=some ⟨b,off,none⟩/\b<w.heap.size/\w.cell? ⟨b,off+k*4,none⟩=some (.i l[k].loc)/\w.cell? ⟨b,off+k*4+1,none⟩=some (.i l[k].tag)/\w.cell? ⟨b,off+k*4+2,none⟩=some (.i l[k].len)/\w.cell? ⟨b,off+k*4+3,none⟩=some (.i l[k].hash):=by
 obtain ⟨b,off,F,e,_,D,_,hc,rfl⟩:=h.at k E;exact ⟨b,off,e,D,by have:=hc 0 (by decide);simpa using this,by have:=hc 1 (by decide);simpa using this,by have:=hc 2 (by decide);simpa using this,by have:=hc 3 (by decide);simpa using this⟩
theorem zhw {w:World} {B:Nat} {v:Value} {ts:List bk} (h:w.ownsRow B 101 4 v ts.length (fu ts)) (F:ts.length<=1000000):SL 4 Cx (MT B [101] w) w v ts:=by
 have A:(ts.map fun t:bk=>([Value.int .i64 t.loc,.i t.tag,.i t.len,.i t.hash],t)).length=ts.length:=by simp
 have D:(ts.map fun t:bk=>([Value.int .i64 t.loc,.i t.tag,.i t.len,.i t.hash],t)).flatMap (·.1)=fu ts:=by rw [List.flatMap_map,fu]
 have:=vz (n:=4) (R:=Cx) (T:=[101]) (zs:=ts.map fun t:bk=>([Value.int .i64 t.loc,.i t.tag,.i t.len,.i t.hash],t)) (by rw [A,D];exact h) (fun z A=>by
  obtain ⟨s,E,rfl⟩:=List.mem_map.1 A;exact ⟨rfl,rfl⟩) (by simp) (by rw [A];unfold maxLen;omega)
 rwa [List.map_map,show ((·.2)∘fun t:bk=>([Value.int .i64 t.loc,.i t.tag,.i t.len,.i t.hash],t))=id from rfl,List.map_id]at this
theorem zhx (w:World) (B:Nat) (v:Value) (l:List Int) (O:SL 1 RI (· <B) w v l) (hB:B<=w.heap.size) (g:Nat) (first cap:Array Value) (p:Int->Bool) (aa:∀args w,(callFunc g args).run prog w=.ok (.enter g args) w)
 (hc:∀x∈l,∀W,Bl w W->Calls prog g (first++#[.i x]++cap) W fun r Y=>r=.returned (.bool (p x))/\Bl W Y):
 Calls prog 221 #[v,.func (.func g) first cap] w fun r w'=>r=.returned (.i (idx p l))/\Bl w w':=by
 have X:=ag O;obtain ⟨Z,cl,rfl,-,N,-⟩:=O;unfold maxLen at N;have V:=ag hc;clear hc;go_enter func221,ntmps221;go_wp2_with fail;go_loopw [8] (fun i wr=>∃k:Nat,k<=l.length/\i=.i k/\Hid (∀x∈l.take k,p x=false)/\Bl w wr) (fun i _=>l.length - (intOf i).toNat)
 case atStart=>exact ⟨0,n0q _,rfl,(fun x hx=>by cases hx),br _ _⟩
 case round=>
  obtain ⟨k,hk,rfl,L,D⟩:=hrel;by_cases F:k<l.length
  ·obtain ⟨b,off,rfl,hb,e0⟩:=(X.o.keptI (Kp.below (D.mono hB))).atI k F;have E:=V.o l[k] (gm F) _ D;have A:=ag E;clear E;go_wp2_with fail;refine A.o.mono ?_;rintro r w2 ⟨rfl,J⟩;have I:=D.trans (J.mono D.size);clear J A;cases hp:p l[k]
   ·have G:=ag (Ax F L.o hp);clear hp;go_wp2_with fail;go_roundw
    case rel=>exact ⟨k+1,by omega,by go_num,G.o,I⟩
    case measure=>simp [intOf];omega
   have G:=ag (Ai F L.o hp);clear hp;go_wp2_with fail;go_ret;exact ⟨by rw [G.o];rfl,I⟩
  have G:Hid (idx p l= -1):=Aw (by have:=L.o;rwa [List.take_of_length_le (by omega)]at this);go_wp2_with fail;go_ret;exact ⟨by rw [G.o];rfl,D⟩
theorem zhy (w:World) (B:Nat) (v:Value) (l:List Int) (E:SL 1 RI (· <B) w v l) (L:B<=w.heap.size) (g:Nat) (first cap:Array Value) (p:Int->Bool) (D:∀args w,(callFunc g args).run prog w=.ok (.enter g args) w)
 (hc:∀x∈l,∀W,Bl w W->Calls prog g (first++#[.i x]++cap) W fun r I=>r=.returned (.bool (p x))/\Bl W I):
 Calls prog 174 #[v,.func (.func g) first cap] w fun r w'=>r=.returned (.bool (l.any p))/\Bl w w':=by
 have A:=zhx w B v l E L g first cap p D hc
 have F:=ag A;clear A hc;have G:=ag (B9 p l);obtain ⟨J,O,rfl,-⟩:=E;go_enter func174,ntmps174;go_wp2_with fail;refine F.o.mono ?_;rintro r V ⟨rfl,N⟩;go_wp2_with fail;go_ret;exact ⟨by rw [<-G.o];rfl,N⟩
theorem zhz (w:World) (B:Nat) (v:Value) (l:List bk) (O:SL 4 Cx (· <B) w v l) (hB:B<=w.heap.size) (g:Nat) (first cap:Array Value) (p:bk->Bool) (aa:∀args w,(callFunc g args).run prog w=.ok (.enter g args) w)
 (hc:∀x∈l,∀W,Bl w W->Calls prog g (first++#[.agg #[.i x.loc,.i x.tag,.i x.len,.i x.hash]]++cap) W fun r Y=>r=.returned (.bool (p x))/\Bl W Y):
 Calls prog 218 #[v,.func (.func g) first cap] w fun r w'=>r=.returned (.i (idx p l))/\Bl w w':=by
 have X:=ag O;obtain ⟨Z,cl,rfl,-,N,-⟩:=O;unfold maxLen at N;have V:=ag hc;clear hc;go_enter func218,ntmps218;go_wp2_with fail;go_loopw [8] (fun i wr=>∃k:Nat,k<=l.length/\i=.i k/\Hid (∀x∈l.take k,p x=false)/\Bl w wr) (fun i _=>l.length - (intOf i).toNat)
 case atStart=>exact ⟨0,n0q _,rfl,(fun x hx=>by cases hx),br _ _⟩
 case round=>
  obtain ⟨k,hk,rfl,L,D⟩:=hrel;by_cases F:k<l.length
  ·obtain ⟨b,off,rfl,hb,e0,e1,e2,e3⟩:=(X.o.keptTh (Kp.below (D.mono hB))).atTh k F;have E:=V.o l[k] (gm F) _ D;have A:=ag E;clear E;go_wp2_with fail;refine A.o.mono ?_;rintro r w2 ⟨rfl,J⟩;have I:=D.trans (J.mono D.size);clear J A;cases hp:p l[k]
   ·have G:=ag (Ax F L.o hp);clear hp;go_wp2_with fail;go_roundw
    case rel=>exact ⟨k+1,by omega,by go_num,G.o,I⟩
    case measure=>simp [intOf];omega
   have G:=ag (Ai F L.o hp);clear hp;go_wp2_with fail;go_ret;exact ⟨by rw [G.o];rfl,I⟩
  have G:Hid (idx p l= -1):=Aw (by have:=L.o;rwa [List.take_of_length_le (by omega)]at this);go_wp2_with fail;go_ret;exact ⟨by rw [G.o];rfl,D⟩
theorem zh0 (w:World) (B:Nat) (v:Value) (l:List bk) (E:SL 4 Cx (· <B) w v l) (L:B<=w.heap.size) (g:Nat) (first cap:Array Value) (p:bk->Bool) (D:∀args w,(callFunc g args).run prog w=.ok (.enter g args) w)
 (hc:∀x∈l,∀W,Bl w W->Calls prog g (first++#[.agg #[.i x.loc,.i x.tag,.i x.len,.i x.hash]]++cap) W fun r I=>r=.returned (.bool (p x))/\Bl W I):
 Calls prog 168 #[v,.func (.func g) first cap] w fun r w'=>r=.returned (.bool (l.any p))/\Bl w w':=by
 have A:=zhz w B v l E L g first cap p D hc
 have F:=ag A;clear A hc;have G:=ag (B9 p l);obtain ⟨J,O,rfl,-⟩:=E;go_enter func168,ntmps168;go_wp2_with fail;refine F.o.mono ?_;rintro r V ⟨rfl,N⟩;go_wp2_with fail;go_ret;exact ⟨by rw [<-G.o];rfl,N⟩
theorem zh1 (W:World) (B c:Nat) (vW vO kC kS kF kN kT:Value) (h:ar) (d:bd) (g:Gd B W c vW vO kC kS kF kN kT h d) (P Q f:Nat) (first cap:Array Value) (N:W.cell? ⟨P,0,none⟩=some (.func (.func f) first cap)) (V:W.cell? ⟨Q,0,none⟩=some (.p c))
 (A:Nat) (hl:A<h.ab.length) (b:Bool) (Z:∀args w,(callFunc f args).run prog w=.ok (.enter f args) w)
 (hc:∀D,Bl W D->Calls prog f (first++#[.i h.ab[A]]++cap) D fun r L=>r=.returned (.bool b)/\Bl D L):
 Calls prog 219 #[.i (A:Int),.p P,.p Q] W fun r D=>r=.returned (.bool b)/\Bl W D:=by
 have O:=World.block_lt_of_cell? W _ N;have X:=World.block_lt_of_cell? W _ V;have g0:=g.c0;have gl:=g.lt;obtain ⟨ao,ca,e,-,G,-⟩:=g.sW;have I:=ag g.sW;subst e;obtain ⟨bW,oW,rfl,Y,eW⟩:=I.o.atI A hl;unfold maxLen at G;have q1:(0:Int)<=A:=by omega
 have q2:(A:Int)<h.ab.length:=by omega
 have J:=ag hc;clear hc g I;generalize h.ab[A]=x at*;generalize h.ab.length=wl at*;go_enter func219,ntmps219;go_wp2_with fail
 go_region_held3 (fun D=>∀p:Addr,p.block<W.heap.size->D.cell? p=W.cell? p) (exact fun p hp=>Below.cell (B:=W.heap.size) (w:=W) (by repeat (first | assumption | exact br _ _ | refine Below.drew ?_)) hp) (first | (refine (J.o _ ?_).mono ?_;(exact (br _ _).drew);rintro r w2 ⟨rfl,E⟩;have F:Bl W w2:=(br W.heap.size W).drew.trans E;clear E))
 all_goals
  rename_i hS1;clear hS1;go_wp2_with fail;go_ret;exact ⟨rfl,F⟩
theorem zh2 (fs:List (List bq)) (t:bk) {a:Int} (A:a∈refsOf fs t):t.loc+3<=a/\a<t.loc+3+t.len:=by obtain ⟨n,D,rfl⟩:=List.mem_map.1 A;have:=List.mem_range.1 (List.mem_filter.1 D).1;omega
def ep (fs:List (List bq)) (ws:List Int) (t:bk) (p:Int->Bool):Bool:=(refsOf fs t).any fun a=>p (wd ws a)
theorem zh3 (w:World) (B c:Nat) (vW vO kC kS kF kN kT:Value) (h:ar) (d:bd) (g:Gd B w c vW vO kC kS kF kN kT h d) (t:bk) (hf:pm d t) (au:0<=t.loc) (ap:t.fin<=h.ab.length) (ay:h.ab.length<=100000) (f:Nat) (first cap:Array Value) (p:Int->Bool) (aa:∀args w,(callFunc f args).run prog w=.ok (.enter f args) w)
 (hc:∀a∈refsOf d.fields t,∀W,Bl w W->Calls prog f (first++#[.i (wd h.ab a)]++cap) W fun r W'=>r=.returned (.bool (p (wd h.ab a)))/\Bl W W'):
 Calls prog 172 #[.p c,nb t,.func (.func f) first cap] w fun r w'=>r=.returned (.bool (ep d.fields h.ab t p))/\Bl w w':=by
 have av:=qj prog;obtain ⟨A,I⟩:∃A,A=(((w.alloc (.cells #[.p c] 193)).alloc (.cells #[.i t.loc,.i t.tag,.i t.len,.i t.hash] 101)).alloc (.cells #[.func (.func f) first cap] 79)):=⟨_,rfl⟩;have ax:A.heap.size=w.heap.size+3:=by rw [I];simp
 have D:Bl w A:=I ▸ (((br _ _).alloc (nlq _) _).alloc (by simp) _).alloc (by simp;omega) _;have b5:A.cell? ⟨w.heap.size+1+1,0,none⟩=some (.func (.func f) first cap):=by rw [I];simp [go_sem]
 have b3:A.cell? ⟨w.heap.size,0,none⟩=some (.p c):=by rw [I];simp [go_sem]
 have ak:t.fin=t.loc+3+t.len:=rfl;have ao:=hf.lo;have V:Hid (Calls prog 178 #[.p c,.agg #[.i t.loc,.i t.tag,.i t.len,.i t.hash]] (((w.alloc (.cells #[.p c] 193)).alloc (.cells #[.i t.loc,.i t.tag,.i t.len,.i t.hash] 101)).alloc (.cells #[.func (.func f) first cap] 79)) fun r w'=>Bl A w'/\∃v,r=.returned v/\w'.ownsRow A.heap.size 3 1 v (refsOf d.fields t).length (bw (refsOf d.fields t))):=by have:=zht A B c _ _ _ _ _ _ _ h d (g.below D) t hf (by omega) (by omega);rw [<-I];exact this
 have ad:Hid ((refsOf d.fields t).length<=100000):=by show (lh d.fields t t.len.toNat).length<=_;have:=Ek d.fields t t.len.toNat;omega
 have O:Hid (∀W,Bl A W->∀v,W.ownsRow A.heap.size 3 1 v (refsOf d.fields t).length (bw (refsOf d.fields t))->Calls prog 174 #[v,.func (.func 219) #[] #[.p (w.heap.size+1+1),.p w.heap.size]] W fun r w'=>r=.returned (.bool (ep d.fields h.ab t p))/\Bl W w'):=by
  intro W X v hv;have ai:=ru hv (lt3 ad.o (by omega));have aj:SL 1 RI (· <W.heap.size) W v (refsOf d.fields t):=ai.monoI fun b hb=>by obtain ⟨_,al,_,_,hb,_⟩:=hb;exact bz hb
  refine zhy W W.heap.size v _ aj (nlq _) 219 #[] _ (fun a=>p (wd h.ab a)) (fun args w=>by kernel_rfl) ?_;intro a ha W2 af;have hr:=zh2 _ _ ha;obtain ⟨an,rfl⟩:=Int.eq_ofNat_of_zero_le (show 0<=a by omega);have Y:an<h.ab.length:=by omega
  have F:Bl A W2:=X.trans (af.mono X.size);have G:Bl w W2:=D.trans (F.mono D.size);refine zh1 W2 B c _ _ _ _ _ _ _ h d (g.below G) _ _ f first cap ((F.cell (p:=⟨w.heap.size+1+1,0,none⟩) (by show w.heap.size+1+1<_;omega)).trans b5) ((F.cell (p:=⟨w.heap.size,0,none⟩) (by show w.heap.size<_;omega)).trans b3) an Y (p (wd h.ab an)) aa ?_
  intro W3 ah;have:=hc _ ha W3 (G.trans (ah.mono G.size));rw [pi Y]at this ⊢;exact this
 have J:=ag D;have HW:=ag I;clear I D hc aa g hf b5 b3;unfold nb;go_enter func172,ntmps172;go_wp2_with fail;refine V.o.mono ?_;rintro r w1 ⟨E,v,rfl,hv⟩;have N:=ag (O.o w1 E v hv);have L:Hid (Bl w w1):=J.o.trans (E.mono J.o.size);have aw:=E.size;clear E hv O V;go_wp2_with fail;refine N.o.mono ?_;rintro r w2 ⟨rfl,Z⟩;have ac:Hid (Bl w w2):=L.o.trans (Z.mono L.o.size);clear Z N;go_wp2_with fail;go_ret;exact ⟨rfl,ac.o⟩
end Go.Proofs.YtjdnmblggdobgaaGreat
