import Derived.Test.YtjdnmblggdobgaaGreatJHpRHpW
import Derived.Test.YtjdnmblggdobgaaGreatJHpMHpP
import Derived.Test.YtjdnmblggdobgaaGreatJLNoneLSaD
import Derived.Deep.DeepCutAuto
import Derived.Deep.RegionLaw
import Derived.Test.YtjdnmblggdobgaaGreatJLLineLLn
import Derived.Maps.OwnSet
import Derived.Test.YtjdnmblggdobgaaGreatJLMemLEv
import Derived.Test.YtjdnmblggdobgaaGreatJTk2Dies
set_option maxHeartbeats 4000000
set_option maxRecDepth 100000
namespace Go.Proofs.YtjdnmblggdobgaaGreat
open Go.RowKit Go.Maps
theorem Tryz.infoThing:(Tryz.prog.info? 101).map (fun i=>(i.zero,i.size,i.bytes))=some (some (.agg #[.int .i64 0,.int .i64 0,.int .i64 0,.int .i64 0]),4,32):=by kernel_rfl
def gc (ts:List bp):List Value:=ts.flatMap fun t=>[.int .i64 t.loc,.int .i64 t.tag,.int .i64 t.len,.int .i64 t.hash]
theorem zhk (ts:List bp) (t:bp):gc (ts++ [t])=gc ts++ [.int .i64 t.loc,.int .i64 t.tag,.int .i64 t.len,.int .i64 t.hash]:=by simp [gc]
structure oo (X B:Nat) (w:World) (vW vO kC kS kF kN kT vA:Value) (h:bd) (d:be) (ts:List bp):Prop where
 le:B<=X
 blk:w.heap[X+1]? =some (.cells #[vW,.int .i64 h.ae,.int .i64 h.old,.int .i64 h.bg,.int .i64 h.bk,vO,.int .i64 h.next,kC,kS,kF,kN,kT,vA,.map (some X)] 185 (0,0))
 sW:SL 1 RI (· <B) w vW h.ab
 sO:SL 1 RI (· <B) w vO h.ap
 lk:ma (· <B) w kC kS kF kN kT d
 row:w.ownsRow (X+2) 101 4 vA ts.length (gc ts)
 pl:ja w X ts
theorem oo.gd {X B:Nat} {w:World} {I G u E A D F L:Value} {h:bd} {d:be} {ts:List bp} (c:oo X B w I G u E A D F L h d ts):Gd B w (X+1) I G u E A D F h d:=
 have J:=bz c.blk;have N:=c.le
 ⟨J,by omega,ba c.blk 0 rfl,ba c.blk 1 rfl,ba c.blk 2 rfl,ba c.blk 3 rfl,ba c.blk 4 rfl,ba c.blk 5 rfl,ba c.blk 6 rfl,ba c.blk 7 rfl,ba c.blk 8 rfl,ba c.blk 9 rfl,ba c.blk 10 rfl,ba c.blk 11 rfl,c.sW,c.sO,c.lk⟩
theorem oo.below {X B:Nat} {w w':World} {N L D G E F I J:Value} {h:bd} {d:be} {ts:List bp} (c:oo X B w N L D G E F I J h d ts) (u:Below w.heap.size w w'):oo X B w' N L D G E F I J h d ts:=
 have O:=bz c.blk;have V:=c.le;have A:=Kp.below (u.mono (by omega:B<=w.heap.size))
 ⟨c.le,(u.block _ O).trans c.blk,c.sW.keptI A,c.sO.keptI A,c.lk.kept A,kg c.row u,c.pl.below u c.pl.lt⟩
def WalkOut (X B:Nat) (vW vO kC kS kF kN kT:Value) (h:bd) (d:be) (ts:List bp) (o:Option (List bp)) (r:Ending) (w':World):Prop:=
 (∃ts2 vA',o=some ts2/\r=.returned (.bool true)/\oo X B w' vW vO kC kS kF kN kT vA' h d (ts++ts2))\/(o=none/\r=.returned (.bool false))
theorem zhl (w:World) (X B:Nat) (vW vO kC kS kF kN kT vA:Value) (h:bd) (d:be) (ts:List bp) (hc:oo X B w vW vO kC kS kF kN kT vA h d ts) (J:Nat) (F:Int) (cu:J<=5000) (df:F<=5000) (ht:F<=h.ab.length) (cx:ts.length<=J)
 (cr:d.fields.length=d.aj.length) (cs:∀f∈d.fields,f.length<=1000) (co:d.aj.length<=1000):
 Calls Tryz.prog 167 #[.pointer (some ⟨X+1,0,none⟩),.int .i64 (J:Int),.int .i64 F] w fun r w'=>Below X w w'/\
  WalkOut X B vW vO kC kS kF kN kT h d ts (b9 d.aj.length d.fields h.ab J F) r w':=by
 obtain ⟨iT,ct,b4,b5,b6⟩:=info_parts Tryz.infoThing;have ch:Hid (∀(W:World) (al:Value) (E:List bp) (A:Nat),A<=1000000->oo X B W vW vO kC kS kF kN kT al h d E->Calls Tryz.prog 217 #[.pointer (some ⟨X+1,0,none⟩),.int .i64 (A:Int),.int .i64 F] W fun r w'=>Below W.heap.size W w'/\∃t,r=.returned (.tuple #[mx t,.bool (ip d.aj.length d.fields h.ab A F)])/\(ip d.aj.length d.fields h.ab A F=true->t=bj h.ab A)):=
  fun W al E A hl cn=>zfc W B (X+1) _ _ _ _ _ _ _ h d cn.gd A F hl ht cr cs co
 have HC:=ag hc;have c6:X+1<w.heap.size:=bz hc.blk;clear hc;go_enter Tryz.func167,Tryz.ntmps167;go_wp2_with fail;go_loopw [1] (fun i wr=>∃(A:Nat) (E:List bp) (al:Value),i=.int .i64 A/\A<=5000/\(ts++E).length<=A/\Hid (Below X w wr/\oo X B wr vW vO kC kS kF kN kT al h d (ts++E)/\b9 d.aj.length d.fields h.ab J F=(b9 d.aj.length d.fields h.ab A F).map (E++ ·))) (fun i _=>(F - intOf i).toNat)
 case atStart=>exact ⟨J,[],vA,rfl,cu,by simpa using cx,br _ _,by simpa using HC.o,by cases b9 d.aj.length d.fields h.ab J F<;>rfl⟩
 case round=>
  obtain ⟨A,E,al,rfl,hl,dd,HI⟩:=hrel;by_cases bf:(A:Int)<F
  ·have HR:=ag (ch.o wr al (ts++E) A (by omega) HI.o.2.1);go_wp2_with fail;refine HR.o.mono ?_;rintro r w1 ⟨ai,t,rfl,bh⟩;unfold mx;cases hrb:ip d.aj.length d.fields h.ab A F with
   | false=>
     have HN:=ag (zeu bf (by rw [hrb];decide));have cc:=ag (fun o=>(HI.o.1.trans (ai.mono (by have:=HI.o.1.size;omega))).alloc (by have:=HI.o.1.size;have:=ai.size;omega) o);clear ai bh HR;go_wp2_with fail;go_ret;exact ⟨cc.o _,Or.inr ⟨by rw [HI.o.2.2,HN.o];rfl,rfl⟩⟩
   | true=>
     have b3:=bh hrb;have af:=zep hrb;have a7:(bj h.ab A).len<=5000:=by have h1:=af.2.1;have h2:(bj h.ab A).fin=A+3+(bj h.ab A).len:=rfl;omega
     have av:=zeo af.2.2.2;have cp:(bj h.ab A).fin=A+3+(bj h.ab A).len:=rfl;have cj:=ag (zet bf hrb);have ac:Hid ((A:Int)+3<=t.fin/\t.fin<=F/\t.loc=A/\0<=t.len/\t.len<=5000/\t=bj h.ab A):=by rw [b3];exact ⟨af.1,af.2.1,rfl,av,a7,rfl⟩
     have c9:=ai.size;have da:=HI.o.1.size;have bx:Below X w w1:=HI.o.1.trans (ai.mono (by omega));have b0:=HI.o.2.1.below ai;obtain ⟨I,a1⟩:∃I,I=w1.alloc (.cells #[.int .i64 t.loc,.int .i64 t.tag,.int .i64 t.len,.int .i64 t.hash] 101):=⟨_,rfl⟩;have bb:Below w1.heap.size w1 I:=a1 ▸ (br _ _).alloc (nlq _) _;have ao:=b0.below bb;have bs:Below X w I:=bx.trans (bb.mono (by omega));have h7:I.heap[w1.heap.size]? =some (.cells #[.int .i64 t.loc,.int .i64 t.tag,.int .i64 t.len,.int .i64 t.hash] 101 (0,0)):=a1 ▸ heap_alloc_new w1 _;obtain ⟨a5,c5,rfl⟩:=kh ao.row;have dk:=ba ao.blk 12 (x:=.slice a5 (ts++E).length c5) rfl;have ml:=bz ao.blk;have s0:=ba h7 0 (x:=.int .i64 t.loc) rfl;have s1:=ba h7 1 (x:=.int .i64 t.tag) rfl;have s2:=ba h7 2 (x:=.int .i64 t.len) rfl;have s3:=ba h7 3 (x:=.int .i64 t.hash) rfl;have l7:=bz h7;have aa:=ag ao;have ce:=ag bs;have H7:=ag h7;have az:Hid (I.drew.ownsRow (X+2) 101 4 (.slice a5 (ts++E).length c5) (ts++E).length (gc (ts++E))):=kg ao.row (br _ _).drew;have a9:Hid ((ts++E).length+1<=maxLen/\((ts++E).length+1)*32<=140737488355328/\X+2<=(I.drew.alloc (.cells #[.int .i64 t.loc,.int .i64 t.tag,.int .i64 t.len,.int .i64 t.hash] 101)).heap.size):=⟨by unfold maxLen;omega,by omega,by show X+2<=(I.alloc _).heap.size;simp;omega⟩;have c4:w1.heap.size<I.heap.size:=l7;have cl:=ag a1;have ci:Hid (∀q,(Value.slice a5 (ts++E).length c5).ownBlock=some q->q<wr.heap.size):=fun q e=>(HI.o.2.1.row.lt q e).2;have bi:Hid (∀W,Calls Tryz.prog 72 #[.agg #[.int .i64 t.loc,.int .i64 t.tag,.int .i64 t.len,.int .i64 t.hash]] W fun r w'=>r=.returned (.int .i64 t.fin)/\Below W.heap.size W w'):=fun W=>ze2 W t (by have:=ac.o.2.2.1;unfold small;omega) (by have:=ac.o.2.2.2.1;have:=ac.o.2.2.2.2.1;unfold small;omega);clear ai bh HR b3 af a7 av cp bx b0 bb ao bs h7 a1;generalize hn:(ts++E).length=n at*
     go_upto_region 5 with fail
     rw [<-cl.o]
     go_region_law (first
      | (refine step_append_lies _ (by rfl) (.tmp 25) (.tmp 27) 182 (by rfl) (X+2) 101 iT (.agg #[.int .i64 0,.int .i64 0,.int .i64 0,.int .i64 0]) 4 32 Tryz.underlying182 ct b4 b5 b6 rfl (by decide) (.slice a5 n c5) n (gc (ts++E)) (by rfl) (az.o.alloc _) ⟨I.drew.heap.size,0,none⟩ 1 1 [.int .i64 t.loc,.int .i64 t.tag,.int .i64 t.len,.int .i64 t.hash] (by rfl) rfl (World.news_of_block (heap_alloc_new I.drew _)) (by intro u hu;simp at hu;rcases hu with rfl | rfl | rfl | rfl<;>rfl) (by decide) a9.o.1 a9.o.2.1 a9.o.2.2 _ rfl ?_;intro gA cA w9 O G _ c3;have V:∀q,(Value.slice a5 n c5).ownBlock=some q->X+2<=q:=fun q e=>(az.o.lt q e).1;have ad:=(G.block (X+1) (by show X+1<(I.alloc _).heap.size;simp;omega) (fun e=>by have:=V _ e.symm;omega)).trans ((Below.heap_alloc _ _ _ ml).trans aa.o.blk);have m9:=ba ad 12 (x:=.slice a5 n c5) rfl;have z9:=nu ad 12;have ds:=bz ad;have bm:=ag (And.intro O (And.intro G ad));clear O G ad V)
      | go_simp)
     all_goals
      obtain ⟨O,G,ad⟩:=bm.o;have V:∀q,(Value.slice a5 n c5).ownBlock=some q->X+2<=q:=fun q e=>(az.o.lt q e).1;have cy:(I.drew.alloc (.cells #[.int .i64 t.loc,.int .i64 t.tag,.int .i64 t.len,.int .i64 t.hash] 101)).heap.size=I.heap.size+1:=by show (I.alloc _).heap.size=_;simp
      have c0:(I.alloc (.cells #[.int .i64 t.loc,.int .i64 t.tag,.int .i64 t.len,.int .i64 t.hash] 101)).drew.heap.size=I.heap.size+1:=by show (I.alloc _).heap.size=_;simp
      have cv:=G.size;have bu:Below X w w9:=((ce.o.drew).alloc (by show X<=I.heap.size;omega) (.cells #[.int .i64 t.loc,.int .i64 t.tag,.int .i64 t.len,.int .i64 t.hash] 101)).grown G (by omega) (fun q e=>by have:=V q e;omega);obtain ⟨L,N⟩:∃L,L=w9.setCell ⟨X+1,12,none⟩ (.slice (some ⟨gA,0,none⟩) (n+1) cA):=⟨_,rfl⟩;have ar:w9.grownBy L (some (X+1)):=N ▸ nh (World.grownBy.refl _ _) _ _ (Or.inl rfl);have a3:Below X w L:=N ▸ bu.setCell (by simp) _;have a0:L.heap[X+1]? =some (.cells #[vW,.int .i64 h.ae,.int .i64 h.old,.int .i64 h.bg,.int .i64 h.bk,vO,.int .i64 h.next,kC,kS,kF,kN,kT,.slice (some ⟨gA,0,none⟩) (n+1) cA,.map (some X)] 185 (0,0)):=N ▸ zg6 ad _;have ak:L.ownsRow (X+2) 101 4 (.slice (some ⟨gA,0,none⟩) (n+1) cA) (n+1) (gc (ts++E)++ [.int .i64 t.loc,.int .i64 t.tag,.int .i64 t.len,.int .i64 t.hash]):=N ▸ ownsRow_setCell_below O (by simp) _;have b7:ja L X (ts++E):=(((aa.o.pl.below (br I.heap.size I).drew aa.o.pl.lt).kept (row:=none) (World.grownBy_alloc I.drew (.cells #[.int .i64 t.loc,.int .i64 t.tag,.int .i64 t.len,.int .i64 t.hash] 101) _) (by simp)).kept G (fun e=>by have:=V _ e.symm;omega)).kept ar (by simp);have e9:=(G.block w1.heap.size (by omega) (fun e=>by have:=ci.o _ e.symm;omega)).trans ((Below.heap_alloc _ _ _ (by show w1.heap.size<I.heap.size;omega)).trans H7.o);have ah:=(ar.block w1.heap.size (by omega) (by simp;omega)).trans e9;have dl:=ba a0 13 (x:=.map (some X)) rfl;have u0:=ba ah 0 (x:=.int .i64 t.loc) rfl;have u1:=ba ah 1 (x:=.int .i64 t.tag) rfl;have u2:=ba ah 2 (x:=.int .i64 t.len) rfl;have u3:=ba ah 3 (x:=.int .i64 t.hash) rfl;have c1:=bz a0;have c2:=bz ah;obtain ⟨D,aw,hD⟩:=b7;have a6:keyOf Tryz.prog 3 (.int .i64 (A:Int))=some (jc A):=keyOf_int_mk Tryz.underlying3 (WalkArith.wf_i64 (by omega));obtain ⟨ap,a8,Z,Y⟩:=World.ownsMap.update (w:=L.drew) aw.drew law3 Tryz.underlying183 (by rw [hn];unfold maxLen;omega) a6 (zfd t);unfold mx at a8;have bc:=zfj hD (aw.tidy law3) t;rw [ac.o.2.2.1]at bc;have a4:Below X w ap:=(a3.drew).grown Y (by show X<=L.heap.size;omega) (fun q e=>by cases e;exact nlq _);have bq:=(Y.block (X+1) c1 (by simp)).trans a0;have an:=(Y.block w1.heap.size c2 (by simp;omega)).trans ah;have ax:ap.ownsRow (X+2) 101 4 (.slice (some ⟨gA,0,none⟩) (n+1) cA) (n+1) (gc (ts++E)++ [.int .i64 t.loc,.int .i64 t.tag,.int .i64 t.len,.int .i64 t.hash]):=(kg ak (br _ _).drew).kept Y (Or.inr fun e=>by have:=((kg ak (br _ _).drew).lt X e).1;omega);have ay:Hid (Below X w ap/\oo X B ap vW vO kC kS kF kN kT (.slice (some ⟨gA,0,none⟩) (n+1) cA) h d (ts++(E++ [t]))):=by
       have b2:=aa.o.le;have au:Kp (· <B) I ap:=by
        have hb:Below X I ap:=by have q1:Below X I w9:=(((br X I).drew).alloc (by show X<=I.heap.size;omega) (.cells #[.int .i64 t.loc,.int .i64 t.tag,.int .i64 t.len,.int .i64 t.hash] 101)).grown G (by omega) (fun q e=>by have:=V q e;omega);have q2:Below X I L:=N ▸ q1.setCell (by simp) _;exact (q2.drew).grown Y (by show X<=L.heap.size;omega) (fun q e=>by cases e;exact nlq _)
        exact Kp.below (hb.mono b2)
       have b1:(ts++(E++ [t])).length=n+1:=by rw [<-List.append_assoc,List.length_append,hn];rfl
       refine ⟨a4,b2,bq,aa.o.sW.keptI au,aa.o.sO.keptI au,aa.o.lk.kept au,?_,D.put (jc A) (jy t),?_,?_⟩
       ·rw [b1,<-List.append_assoc,zhk];exact ax
       ·rw [b1];rw [hn]at Z;exact Z
       rw [<-List.append_assoc];exact bc
      have v0:=ba an 0 (x:=.int .i64 t.loc) rfl;have v1:=ba an 1 (x:=.int .i64 t.tag) rfl;have v2:=ba an 2 (x:=.int .i64 t.len) rfl;have v3:=ba an 3 (x:=.int .i64 t.hash) rfl;have dg:=bz an;have bn:=ag N;clear O G ad V bu ar a3 a0 ak e9 ah aw hD a6 Z Y bc a4 bq an ax bm m9 z9 cy c0 cv N;rw [<-bn.o];go_wp2_with fail;go_region
      all_goals
       go_wp2_with fail;refine (bi.o _).mono ?_;rintro r ca ⟨rfl,aq⟩;have bl:Hid (Below X w ca/\oo X B ca vW vO kC kS kF kN kT (.slice (some ⟨gA,0,none⟩) (n+1) cA) h d (ts++(E++ [t]))):=⟨ay.o.1.trans (aq.mono (by have:=ay.o.1.size;omega)),ay.o.2.below aq⟩;obtain ⟨fn,a2⟩:∃fn:Nat,t.fin=fn:=⟨t.fin.toNat,by have:=ac.o.1;omega⟩;have c7:(A:Int)+3<=fn:=a2 ▸ ac.o.1;have c8:(fn:Int)<=F:=a2 ▸ ac.o.2.1;have cm:Hid (b9 d.aj.length d.fields h.ab J F=(b9 d.aj.length d.fields h.ab fn F).map ((E++ [t])++ ·)):=by show _=_;rw [HI.o.2.2,cj.o,<-ac.o.2.2.2.2.2,a2];cases b9 d.aj.length d.fields h.ab fn F<;>simp
       have cf:Hid ((ts++(E++ [t])).length<=fn):=by show _<=_;rw [<-List.append_assoc,List.length_append,hn];simp;omega
       rw [a2];clear aq v0 v1 v2 v3 u0 u1 u2 u3 a8 bi ay aa az HI;go_wp2_with fail;go_roundw
       case rel=>exact ⟨fn,E++ [t],_,rfl,by omega,cf.o,bl.o.1,bl.o.2,cm.o⟩
       case measure=>simp [intOf];omega
  have HE:=ag (zes (n:=d.aj.length) (fs:=d.fields) (ws:=h.ab) bf);go_wp2_with fail;go_ret;exact ⟨HI.o.1,Or.inl ⟨E,al,by rw [HI.o.2.2,HE.o];simp,rfl,HI.o.2.1⟩⟩
theorem zhm (n:Nat) (fs:List (List bo)) (ws:List Int) (u:Int):∀(f:Nat) (loc:Int) (ts:List bp),loc<=u->iq n fs ws u f loc=some ts->loc+3*(ts.length:Int)<=u
 | 0,loc,ts,hl,h=>by rw [iq]at h;cases h;simpa using hl
 | f+1,loc,ts,hl,h=>by
   rw [iq]at h;split at h
   ·split at h
    ·rename_i hr;have h1:=zep hr;cases hx:iq n fs ws u f (bj ws loc).fin with
     | none=>rw [hx]at h;cases h
     | some ts'=>
       rw [hx]at h;have A:=zhm n fs ws u f _ ts' h1.2.1 hx;cases h;simp only [List.length_cons];omega
    cases h
   cases h;simpa using hl
theorem zhn {n:Nat} {fs:List (List bo)} {ws:List Int} {u A:Int} {ts:List bp} (D:u<=A) (h:b9 n fs ws u A=some ts):u+3*(ts.length:Int)<=A:=zhm n fs ws A _ u ts D h
def im (d:be) (h:bd):Option (List bp):=
 match b9 d.aj.length d.fields h.ab 1 h.bg with
 | none=>none
 | some ys=>(b9 d.aj.length d.fields h.ab (h.ae+1) h.bk).map (ys++ ·)
structure mf (d:be) (h:bd):Prop where
 ae:3<=h.ae/\h.ae<=2000
 old:3<=h.old/\h.old<=2000
 len:(h.ab.length:Int)=1+h.ae+h.old
 bg:1<=h.bg/\h.bg<=h.ae+1
 bk:h.ae+1<=h.bk/\h.bk<=h.ae+h.old+1
 fl:d.fields.length=d.aj.length
 fs:∀f∈d.fields,f.length<=1000
 cn:d.aj.length<=1000
def FindOut (X B:Nat) (vW vO kC kS kF kN kT:Value) (h:bd) (d:be) (r:Ending) (w':World):Prop:=
 (∃ts vA,im d h=some ts/\r=.returned (.tuple #[.pointer (some ⟨X+1,0,none⟩),.bool true])/\oo X B w' vW vO kC kS kF kN kT vA h d ts)\/(im d h=none/\r=.returned (.tuple #[.pointer (some ⟨X+1,0,none⟩),.bool false]))
theorem zho (w:World) (B:Nat) (A u D G E F I:Value) (h:bd) (d:be) (hB:B<=w.heap.size) (sW:SL 1 RI (· <B) w A h.ab) (sO:SL 1 RI (· <B) w u h.ap) (lk:ma (· <B) w D G E F I d) (J:mf d h):
 Calls Tryz.prog 109 #[.agg #[A,.int .i64 h.ae,.int .i64 h.old,.int .i64 h.bg,.int .i64 h.bk,u,.int .i64 h.next],.agg #[D,G,E,F,I]] w fun r w'=>Below w.heap.size w w'/\FindOut (w.heap.size+1+1) B A u D G E F I h d r w':=by
 obtain ⟨V,hW⟩:∃V,V=((((w.alloc (.cells #[A,.int .i64 h.ae,.int .i64 h.old,.int .i64 h.bg,.int .i64 h.bk,u,.int .i64 h.next] 24)).alloc (.cells #[D,G,E,F,I] 36)).alloc (.map #[] 0)).alloc (.cells #[A,.int .i64 h.ae,.int .i64 h.old,.int .i64 h.bg,.int .i64 h.bk,u,.int .i64 h.next,D,G,E,F,I,.slice none 0 0,.map (some (w.heap.size+1+1))] 185)):=⟨_,rfl⟩;have ai:Below w.heap.size w V:=hW ▸ ((((br _ _).alloc (nlq _) _).alloc (by simp) _).alloc (by simp;omega) _).alloc (by simp;omega) _;have hk:=Kp.below (ai.mono hB);have N:V.heap[w.heap.size+1+1+1]? =some (.cells #[A,.int .i64 h.ae,.int .i64 h.old,.int .i64 h.bg,.int .i64 h.bk,u,.int .i64 h.next,D,G,E,F,I,.slice none 0 0,.map (some (w.heap.size+1+1))] 185 (0,0)):=by have h1:=heap_alloc_new (((w.alloc (.cells #[A,.int .i64 h.ae,.int .i64 h.old,.int .i64 h.bg,.int .i64 h.bk,u,.int .i64 h.next] 24)).alloc (.cells #[D,G,E,F,I] 36)).alloc (.map #[] 0)) (.cells #[A,.int .i64 h.ae,.int .i64 h.old,.int .i64 h.bg,.int .i64 h.bk,u,.int .i64 h.next,D,G,E,F,I,.slice none 0 0,.map (some (w.heap.size+1+1))] 185);rw [<-hW]at h1;simpa using h1
 have au:ja V (w.heap.size+1+1) []:=by have h1:=(World.ownsMap_made ((w.alloc (.cells #[A,.int .i64 h.ae,.int .i64 h.old,.int .i64 h.bg,.int .i64 h.bk,u,.int .i64 h.next] 24)).alloc (.cells #[D,G,E,F,I] 36)) Tryz.prog 3 jt).alloc (.cells #[A,.int .i64 h.ae,.int .i64 h.old,.int .i64 h.bg,.int .i64 h.bk,u,.int .i64 h.next,D,G,E,F,I,.slice none 0 0,.map (some (w.heap.size+1+1))] 185);rw [<-hW]at h1;refine ⟨.map [],?_,zfi⟩;simpa using h1
 have hc:oo (w.heap.size+1+1) B V A u D G E F I (.slice none 0 0) h d []:=⟨by omega,N,sW.keptI hk,sO.keptI hk,lk.kept hk,World.ownsRow_nil _ _ _ _,au⟩;have Z:V.heap[w.heap.size]? =some (.cells #[A,.int .i64 h.ae,.int .i64 h.old,.int .i64 h.bg,.int .i64 h.bk,u,.int .i64 h.next] 24 (0,0)):=by rw [hW];exact (Below.heap_alloc _ _ _ (by simp;omega)).trans ((Below.heap_alloc _ _ _ (by simp;omega)).trans ((Below.heap_alloc _ _ _ (by simp)).trans (heap_alloc_new w _)))
 obtain ⟨yn,al⟩:∃yn:Nat,h.ae+1=yn:=⟨(h.ae+1).toNat,by have:=J.ae;omega⟩;have a1:=J.ae;have bf:IntKind.i64.wrap (h.ae+1)=(yn:Int):=(ge _ (by omega) (by omega)).trans al;have HY:Hid (h.ae+1=yn):=al;have av:=J.bg;have a2:=J.bk;have a3:=J.old;have a4:=J.len;have af:Hid (Calls Tryz.prog 167 #[.pointer (some ⟨w.heap.size+1+1+1,0,none⟩),.int .i64 1,.int .i64 h.bg] ((((w.alloc (.cells #[A,.int .i64 h.ae,.int .i64 h.old,.int .i64 h.bg,.int .i64 h.bk,u,.int .i64 h.next] 24)).alloc (.cells #[D,G,E,F,I] 36)).alloc (.map #[] 0)).alloc (.cells #[A,.int .i64 h.ae,.int .i64 h.old,.int .i64 h.bg,.int .i64 h.bk,u,.int .i64 h.next,D,G,E,F,I,.slice none 0 0,.map (some (w.heap.size+1+1))] 185)) fun r w'=>Below (w.heap.size+1+1) V w'/\
  WalkOut (w.heap.size+1+1) B A u D G E F I h d [] (b9 d.aj.length d.fields h.ab 1 h.bg) r w'):=by
  have:=zhl V (w.heap.size+1+1) B _ _ _ _ _ _ _ _ h d [] hc 1 h.bg (by omega) (by omega) (by omega) (by simp) J.fl J.fs J.cn;rw [<-hW];exact this
 have ah:Hid (∀W vA ts,oo (w.heap.size+1+1) B W A u D G E F I vA h d ts->b9 d.aj.length d.fields h.ab 1 h.bg=some ts->Calls Tryz.prog 167 #[.pointer (some ⟨w.heap.size+1+1+1,0,none⟩),.int .i64 (yn:Int),.int .i64 h.bk] W fun r w'=>Below (w.heap.size+1+1) W w'/\
  WalkOut (w.heap.size+1+1) B A u D G E F I h d ts (b9 d.aj.length d.fields h.ab yn h.bk) r w'):=fun W vA ts Y a0=>by
  have a8:=zhn av.1 a0;exact zhl W (w.heap.size+1+1) B _ _ _ _ _ _ _ _ h d ts Y yn h.bk (by omega) (by omega) (by omega) (by omega) J.fl J.fs J.cn
 have a9:=@run_makeMap Tryz.prog;have aw:=ag ai;have ax:=ag Z;have bc:w.heap.size+1+1+1<V.heap.size:=bz N;clear hW hc Z ai J hk N au al a1 av a2 a3 a4 sW sO lk;go_enter Tryz.func109,Tryz.ntmps109;go_wp2_with fail;refine af.o.mono ?_;rintro r w1 ⟨L,ho⟩;have X:Below w.heap.size w w1:=aw.o.trans (L.mono (by omega));rcases ho with ⟨a5,bh,ho,rfl,Y⟩ | ⟨ho,rfl⟩
 ·have ak:=(L.block w.heap.size (by omega)).trans ax.o;have b1:=ba ak 1 (x:=.int .i64 h.ae) rfl;have b4:=ba ak 4 (x:=.int .i64 h.bk) rfl;have ay:=ag Y;have aa:=ag X;have HO:=ag ho;have bb:=L.size;clear ak Y X ho L af;go_wp2_with fail;refine (ah.o _ _ _ ay.o HO.o).mono ?_;rintro r w2 ⟨ao,ar⟩;have an:Hid (Below w.heap.size w w2):=aa.o.trans (ao.mono (by omega));have ac:=ag ar;clear ao ar ah;rcases ac.o with ⟨a6,a7,O,rfl,aq⟩ | ⟨O,rfl⟩
  ·have az:=ag aq;have ad:=ag O;clear aq O ac;go_wp2_with fail;refine bodyPost_ret (v:=.tuple #[.pointer (some ⟨w.heap.size+1+1+1,0,none⟩),.bool true]) (by simp [results,Tryz.results109,go_sem]) rfl ⟨an.o,Or.inl ⟨a5++a6,a7,?_,rfl,az.o⟩⟩;rw [im,HO.o,HY.o,ad.o];rfl
  have ad:=ag O;clear O ac;go_wp2_with fail;refine bodyPost_ret (v:=.tuple #[.pointer (some ⟨w.heap.size+1+1+1,0,none⟩),.bool false]) (by simp [results,Tryz.results109,go_sem]) rfl ⟨an.o,Or.inr ⟨?_,rfl⟩⟩;rw [im,HO.o,HY.o,ad.o];rfl
 have HO:=ag ho;have aa:=ag X;clear ho X L af ah;go_wp2_with fail;refine bodyPost_ret (v:=.tuple #[.pointer (some ⟨w.heap.size+1+1+1,0,none⟩),.bool false]) (by simp [results,Tryz.results109,go_sem]) rfl ⟨aa.o,Or.inr ⟨?_,rfl⟩⟩;rw [im,HO.o]
theorem zhp {w:World} {B B' e n len:Nat} {v:Value} {xs:List Value} (h:w.ownsRow B e n v len xs) (G:B'<=B):w.ownsRow B' e n v len xs:=by obtain ⟨h1,F⟩:=h;refine ⟨h1,F.imp id ?_⟩;rintro ⟨g,cap,u,A,D,E⟩;exact ⟨g,cap,u,A,lt3 G D,E⟩
def jx (fs:List (List bo)) (t:bp) (n:Nat):List Int:=((List.range n).filter (jh fs t)).map fun (n:Nat)=>t.loc+3+(n:Int)
theorem zhq (fs:List (List bo)) (t:bp) (n:Nat):jx fs t (n+1)=jx fs t n++if jh fs t n then [t.loc+3+(n:Int)] else []:=by unfold jx;rw [List.range_succ,List.filter_append,List.map_append];cases hr:jh fs t n<;>simp [hr]
theorem zhr (fs:List (List bo)) (t:bp) (n:Nat):(jx fs t n).length<=n:=by unfold jx;rw [List.length_map];exact lt3 (List.length_filter_le _ _) (by simp)
theorem zhs (l:List Int) (x:Int):bv (l++ [x])=bv l++ [.int .i64 x]:=by simp [bv]
theorem zht (w:World) (B c:Nat) (vW vO kC kS kF kN kT:Value) (h:bd) (d:be) (g:Gd B w c vW vO kC kS kF kN kT h d) (t:bp) (hf:FitT d t) (a6:0<=t.loc/\t.loc<=100000) (a4:t.len<=100000):
 Calls Tryz.prog 178 #[.pointer (some ⟨c,0,none⟩),mx t] w fun r w'=>Below w.heap.size w w'/\∃v,r=.returned v/\w'.ownsRow w.heap.size 3 1 v (refsOf d.fields t).length (bv (refsOf d.fields t)):=by
 obtain ⟨iI,az,ao,ap,aq⟩:=info_parts Tryz.infoInt;obtain ⟨A,O⟩:∃A,A=w.alloc (.cells #[.int .i64 t.loc,.int .i64 t.tag,.int .i64 t.len,.int .i64 t.hash] 101):=⟨_,rfl⟩;have ad:Below w.heap.size w A:=O ▸ (br _ _).alloc (nlq _) _;have X:A.heap[w.heap.size]? =some (.cells #[.int .i64 t.loc,.int .i64 t.tag,.int .i64 t.len,.int .i64 t.hash] 101 (0,0)):=O ▸ heap_alloc_new w _;have ak:=bz X;have HG:Hid (Gd B A c vW vO kC kS kF kN kT h d):=g.below ad;have aw:Hid (∀W n,Below A.heap.size A W->((n:Nat):Int)<t.len->Calls Tryz.prog 131 #[.pointer (some ⟨c,0,none⟩),.agg #[.int .i64 t.loc,.int .i64 t.tag,.int .i64 t.len,.int .i64 t.hash],.int .i64 (n:Int)] W fun r w'=>r=.returned (.bool (jh d.fields t n))/\Below W.heap.size W w'):=fun W n hW hn=>zfa W B c _ _ _ _ _ _ _ h d (HG.o.below hW) t hf n hn;have ay:Hid (∀W n,((n:Nat):Int)<t.len->Calls Tryz.prog 68 #[.agg #[.int .i64 t.loc,.int .i64 t.tag,.int .i64 t.len,.int .i64 t.hash],.int .i64 (n:Int)] W fun r w'=>r=.returned (.int .i64 (t.loc+3+n))/\Below W.heap.size W w'):=fun W n hn=>ze1 W t n (by unfold small;omega) (by unfold small;omega);have av:=ag O;have ar:=ag ad;have ae:=ag X;have ax:Hid (refsOf d.fields t=jx d.fields t t.len.toNat):=rfl;have a3:=hf.lo;clear g ad O hf;generalize hth:t.len=tl at*;unfold mx;rw [hth];clear hth;have a2:=ba X 2 (x:=.int .i64 tl) rfl;clear X;go_enter Tryz.func178,Tryz.ntmps178;go_wp2_with fail;rw [<-av.o];go_loopw [5,9] (fun v i wr=>∃n:Nat,i=.int .i64 n/\(n:Int)<=tl/\Hid (wr.ownsRow A.heap.size 3 1 v (jx d.fields t n).length (bv (jx d.fields t n))/\Below A.heap.size A wr)) (fun _ i _=>(tl - intOf i).toNat)
 case atStart=>exact ⟨0,rfl,by omega,World.ownsRow_nil _ _ _ _,br _ _⟩
 case round=>
  obtain ⟨n,rfl,hn,N⟩:=hrel;by_cases al:(n:Int)<tl
  ·have F:=(N.o.2.block _ ak).trans ae.o;have s0:=ba F 0 (x:=.int .i64 t.loc) rfl;have s1:=ba F 1 (x:=.int .i64 t.tag) rfl;have s2:=ba F 2 (x:=.int .i64 tl) rfl;have s3:=ba F 3 (x:=.int .i64 t.hash) rfl;have ls:=bz F;clear F;have aa:=ag (aw.o wr n N.o.2 al);go_wp2_with fail;refine aa.o.mono ?_;rintro r w1 ⟨rfl,J⟩;have a8:=J.size;have bb:=N.o.2.size;have I:Below A.heap.size A w1:=N.o.2.trans (J.mono (by omega));have D:=kg N.o.1 J;have G:=ag (zhq d.fields t n);cases hr:jh d.fields t n with
   | false=>
     rw [hr]at G;have HF:Hid (w1.ownsRow A.heap.size 3 1 u5 (jx d.fields t (n+1)).length (bv (jx d.fields t (n+1)))/\Below A.heap.size A w1):=by rw [G.o];simp only [Bool.false_eq_true,if_false,List.append_nil];exact ⟨D,I⟩
     clear D I J aa N G;go_wp2_with fail;go_roundw
     case rel=>exact ⟨n+1,by simp,by omega,HF.o⟩
     case measure=>simp [intOf];omega
   | true=>
     rw [hr]at G;have F:=(I.block _ ak).trans ae.o;have s0:=ba F 0 (x:=.int .i64 t.loc) rfl;have s1:=ba F 1 (x:=.int .i64 t.tag) rfl;have s2:=ba F 2 (x:=.int .i64 tl) rfl;have s3:=ba F 3 (x:=.int .i64 t.hash) rfl;have ls:=bz F;have ah:=ag (ay.o w1 n al);have ac:=ag (And.intro D I);clear F D I J aa N;go_wp2_with fail;refine ah.o.mono ?_;rintro r w2 ⟨rfl,V⟩;have a9:=V.size;have ai:Below A.heap.size A w2:=ac.o.2.trans (V.mono (by omega));have E:=kg ac.o.1 V;have a7:=zhr d.fields t n;generalize hrn:jx d.fields t n=acc at*;obtain ⟨a5,c5,rfl⟩:=kh E;have af:=ag E;have au:=ag ai;generalize hlx:t.loc+3+(n:Int)=lx at*;have Z:Hid (acc.length+1<=maxLen/\(acc.length+1)*8<=140737488355328/\A.heap.size<=(w2.alloc (.cells #[.int .i64 lx] 3)).heap.size):=⟨by unfold maxLen;omega,by omega,by simp;omega⟩;clear V ai E ac ah;go_wp2_with (at_builtin;refine wpList_append_lies _ rfl _ _ 22 rfl A.heap.size 3 iI (.int .i64 0) 1 8 Tryz.underlying22 az ao ap aq rfl (by decide) (.slice a5 acc.length c5) acc.length (bv acc) rfl (af.o.alloc _) ⟨w2.heap.size,0,none⟩ 1 1 [.int .i64 lx] rfl rfl (World.news_of_block (heap_alloc_new w2 _)) (by intro u hu;simp at hu;subst hu;rfl) (by omega) Z.o.1 Z.o.2.1 Z.o.2.2 _ rfl ?_);intro gA cA w3 L Y _ a1;have an:∀k,(Value.slice a5 acc.length c5).ownBlock=some k->A.heap.size<=k:=fun k e=>(af.o.lt k e).1;have aj:Below A.heap.size A w3:=(au.o.alloc (by omega) _).grown Y (by simp;omega) (fun k e=>an k e);have HF:Hid (w3.ownsRow A.heap.size 3 1 (.slice (some ⟨gA,0,none⟩) (acc.length+1) cA) (jx d.fields t (n+1)).length (bv (jx d.fields t (n+1)))/\Below A.heap.size A w3):=by rw [G.o];simp only [if_true,List.length_append,zhs];exact ⟨L,aj⟩
     clear L Y aj an;go_wp2_with fail;go_roundw
     case rel=>exact ⟨n+1,by simp,by omega,HF.o⟩
     case measure=>simp [intOf];omega
  have a0:tl.toNat=n:=by omega
  have HF:Hid (Below w.heap.size w wr/\wr.ownsRow w.heap.size 3 1 u5 (refsOf d.fields t).length (bv (refsOf d.fields t))):=by rw [ax.o,a0];exact ⟨ar.o.trans (N.o.2.mono (by omega)),zhp N.o.1 (by omega)⟩
  go_wp2_with fail;go_ret;exact ⟨HF.o.1,_,rfl,HF.o.2⟩
def nj (ts:List bp) (n:Int):bp:=(km ts n).getD ⟨0,0,0,0⟩
theorem zhu (w:World) (X B:Nat) (vW vO Y kS Z kN kT vA:Value) (h:bd) (d:be) (ts:List bp) (hc:oo X B w vW vO Y kS Z kN kT vA h d ts) (n:Int) (V:(Lit.int .i64 n).wf=true):
 Calls Tryz.prog 126 #[.pointer (some ⟨X+1,0,none⟩),.int .i64 n] w fun r w'=>r=.returned (.tuple #[mx (nj ts n),.bool (km ts n).isSome])/\Below w.heap.size w w':=by
 have L:Below w.heap.size w (w.alloc (.cells #[.int .i64 0,.int .i64 0,.int .i64 0,.int .i64 0] 101)):=(br _ _).alloc (nlq _) _;have u:=hc.below L;have F:(w.alloc (.cells #[.int .i64 0,.int .i64 0,.int .i64 0,.int .i64 0] 101)).heap[w.heap.size]? =some (.cells #[.int .i64 0,.int .i64 0,.int .i64 0,.int .i64 0] 101 (0,0)):=heap_alloc_new w _;have aa:=ba u.blk 13 (x:=.map (some X)) rfl;have ml:=bz u.blk;obtain ⟨D,E,G⟩:=u.pl;have A:keyOf Tryz.prog 3 (.int .i64 n)=some (jc n):=keyOf_int_mk Tryz.underlying3 V;have I:Hid (D.atKey (jc n) (jy ⟨0,0,0,0⟩)=jy (nj ts n)):=by
  show _=_;unfold nj;cases hp:km ts n with
  | none=>rw [G.no n _ hp];rfl
  | some t=>rw [G.at_ n t _ hp];rfl
 have J:Hid (Maps.has D (jc n)=(km ts n).isSome):=G.has n;have HB:=ag L;have r0:=ba F 0 (x:=.int .i64 0) rfl;have r1:=ba F 1 (x:=.int .i64 0) rfl;have r2:=ba F 2 (x:=.int .i64 0) rfl;have r3:=ba F 3 (x:=.int .i64 0) rfl;have z6:=nu F;have l6:=bz F;clear hc u G L F V;generalize nj ts n=t at*;generalize (km ts n).isSome=ok at*;have W:=ag A;clear A;go_enter Tryz.func126,Tryz.ntmps126;go_wp2_with (at_lookup;refine wpList_lookup_own_ok _ rfl _ _ 183 rfl 3 101 law3 Tryz.underlying183 _ (zeroTh _) (jy ⟨0,0,0,0⟩) [] rfl X ts.length D rfl E _ _ rfl W.o ?_);intro v ps N;rw [I.o]at N;have O:=zff N;subst O;rw [J.o];unfold mx;clear N E;go_wp2_with fail;exact bodyPost_ret (v:=.tuple #[.agg #[.int .i64 t.loc,.int .i64 t.tag,.int .i64 t.len,.int .i64 t.hash],.bool ok]) (by simp [results,Tryz.results126,go_sem]) rfl ⟨rfl,((br _ _).alloc (nlq _) _).alloc (by simp) _⟩
def cw (ts:List bp) (n:Int):Bool:=(km ts n).isSome||n==0
theorem zhv (w:World) (X B:Nat) (V O F J G I L N:Value) (h:bd) (d:be) (ts:List bp) (hc:oo X B w V O F J G I L N h d ts) (n:Int) (E:(Lit.int .i64 n).wf=true):
 Calls Tryz.prog 132 #[.pointer (some ⟨X+1,0,none⟩),.int .i64 n] w fun r w'=>r=.returned (.bool (cw ts n))/\Below w.heap.size w w':=by
 have D:=ag (zhu w X B _ _ _ _ _ _ _ _ h d ts hc n E);clear hc E;unfold cw;unfold mx at D;generalize nj ts n=t at*;generalize (km ts n).isSome=ok at*;go_enter Tryz.func132,Tryz.ntmps132;go_wp2_with fail;refine D.o.mono ?_;rintro r W ⟨rfl,A⟩;have u:=ag A;clear A D;cases ok with
 | true=>
   go_wp2_with fail;go_ret;exact ⟨by simp,u.o.alloc u.o.size _⟩
 | false=>
   by_cases h0:n=0
   ·subst h0;go_wp2_with fail;go_ret;exact ⟨by simp,u.o.alloc u.o.size _⟩
   have h1:(n==0)=false:=beq_eq_false_iff_ne.2 h0;go_wp2_with fail;go_ret;exact ⟨by simp [h0],u.o.alloc u.o.size _⟩
def RTh (_:Nat->Prop) (_:World) (cs:List Value) (t:bp):Prop:=cs= [.int .i64 t.loc,.int .i64 t.tag,.int .i64 t.len,.int .i64 t.hash]
theorem SL.keptTh {M:Nat->Prop} {w w':World} {v:Value} {l:List bp} (h:SL 4 RTh M w v l) (u:Kp M w w'):SL 4 RTh M w' v l:=h.kept u fun _ _ h=>h
theorem SL.atTh {M:Nat->Prop} {w:World} {u:Option Addr} {len cap:Nat} {l:List bp} (h:SL 4 RTh M w (.slice u len cap) l) (k:Nat) (D:k<l.length):
 ∃b off,u=some ⟨b,off,none⟩/\b<w.heap.size/\w.cell? ⟨b,off+k*4,none⟩=some (.int .i64 l[k].loc)/\w.cell? ⟨b,off+k*4+1,none⟩=some (.int .i64 l[k].tag)/\w.cell? ⟨b,off+k*4+2,none⟩=some (.int .i64 l[k].len)/\w.cell? ⟨b,off+k*4+3,none⟩=some (.int .i64 l[k].hash):=by
 obtain ⟨b,off,E,e,_,A,_,hc,rfl⟩:=h.at k D;exact ⟨b,off,e,A,by have:=hc 0 (by decide);simpa using this,by have:=hc 1 (by decide);simpa using this,by have:=hc 2 (by decide);simpa using this,by have:=hc 3 (by decide);simpa using this⟩
theorem zhw {w:World} {B:Nat} {v:Value} {ts:List bp} (h:w.ownsRow B 101 4 v ts.length (gc ts)) (E:ts.length<=1000000):SL 4 RTh (MT B [101] w) w v ts:=by
 have u:(ts.map fun t:bp=>([Value.int .i64 t.loc,.int .i64 t.tag,.int .i64 t.len,.int .i64 t.hash],t)).length=ts.length:=by simp
 have A:(ts.map fun t:bp=>([Value.int .i64 t.loc,.int .i64 t.tag,.int .i64 t.len,.int .i64 t.hash],t)).flatMap (·.1)=gc ts:=by rw [List.flatMap_map,gc]
 have:=ze4 (n:=4) (R:=RTh) (T:=[101]) (zs:=ts.map fun t:bp=>([Value.int .i64 t.loc,.int .i64 t.tag,.int .i64 t.len,.int .i64 t.hash],t)) (by rw [u,A];exact h) (fun z u=>by
  obtain ⟨s,D,rfl⟩:=List.mem_map.1 u;exact ⟨rfl,rfl⟩) (by simp) (by rw [u];unfold maxLen;omega)
 rwa [List.map_map,show ((·.2)∘fun t:bp=>([Value.int .i64 t.loc,.int .i64 t.tag,.int .i64 t.len,.int .i64 t.hash],t))=id from rfl,List.map_id]at this
theorem zhx (w:World) (B:Nat) (v:Value) (l:List Int) (N:SL 1 RI (· <B) w v l) (Z:B<=w.heap.size) (g:Nat) (first cap:Array Value) (p:Int->Bool) (aa:∀args w,(callFunc g args).run Tryz.prog w=.ok (.enter g args) w)
 (hc:∀x∈l,∀W,Below w.heap.size w W->Calls Tryz.prog g (first++#[.int .i64 x]++cap) W fun r X=>r=.returned (.bool (p x))/\Below W.heap.size W X):
 Calls Tryz.prog 221 #[v,.func (.func g) first cap] w fun r w'=>r=.returned (.int .i64 (idx p l))/\Below w.heap.size w w':=by
 have V:=ag N;obtain ⟨Y,cl,rfl,-,L,-⟩:=N;unfold maxLen at L;have O:=ag hc;clear hc;go_enter Tryz.func221,Tryz.ntmps221;go_wp2_with fail;go_loopw [8] (fun i wr=>∃k:Nat,k<=l.length/\i=.int .i64 k/\Hid (∀x∈l.take k,p x=false)/\Below w.heap.size w wr) (fun i _=>l.length - (intOf i).toNat)
 case atStart=>exact ⟨0,n0q _,rfl,(fun x hx=>by cases hx),br _ _⟩
 case round=>
  obtain ⟨k,hk,rfl,J,A⟩:=hrel;by_cases E:k<l.length
  ·obtain ⟨b,off,rfl,hb,e0⟩:=(V.o.keptI (Kp.below (A.mono Z))).atI k E;have D:=O.o l[k] (gm E) _ A;have u:=ag D;clear D;go_wp2_with fail;refine u.o.mono ?_;rintro r w2 ⟨rfl,I⟩;have G:=A.trans (I.mono A.size);clear I u;cases hp:p l[k]
   ·have F:=ag (zck E J.o hp);clear hp;go_wp2_with fail;go_roundw
    case rel=>exact ⟨k+1,by omega,by go_num,F.o,G⟩
    case measure=>simp [intOf];omega
   have F:=ag (zch E J.o hp);clear hp;go_wp2_with fail;go_ret;exact ⟨by rw [F.o];rfl,G⟩
  have F:Hid (idx p l= -1):=zci (by have:=J.o;rwa [List.take_of_length_le (by omega)]at this);go_wp2_with fail;go_ret;exact ⟨by rw [F.o];rfl,A⟩
theorem zhy (w:World) (B:Nat) (v:Value) (l:List Int) (D:SL 1 RI (· <B) w v l) (J:B<=w.heap.size) (g:Nat) (first cap:Array Value) (p:Int->Bool) (A:∀args w,(callFunc g args).run Tryz.prog w=.ok (.enter g args) w)
 (hc:∀x∈l,∀W,Below w.heap.size w W->Calls Tryz.prog g (first++#[.int .i64 x]++cap) W fun r G=>r=.returned (.bool (p x))/\Below W.heap.size W G):
 Calls Tryz.prog 174 #[v,.func (.func g) first cap] w fun r w'=>r=.returned (.bool (l.any p))/\Below w.heap.size w w':=by
 have u:=zhx w B v l D J g first cap p A hc
 have E:=ag u;clear u hc;have F:=ag (zcj p l);obtain ⟨I,N,rfl,-⟩:=D;go_enter Tryz.func174,Tryz.ntmps174;go_wp2_with fail;refine E.o.mono ?_;rintro r O ⟨rfl,L⟩;go_wp2_with fail;go_ret;exact ⟨by rw [<-F.o];rfl,L⟩
theorem zhz (w:World) (B:Nat) (v:Value) (l:List bp) (N:SL 4 RTh (· <B) w v l) (Z:B<=w.heap.size) (g:Nat) (first cap:Array Value) (p:bp->Bool) (aa:∀args w,(callFunc g args).run Tryz.prog w=.ok (.enter g args) w)
 (hc:∀x∈l,∀W,Below w.heap.size w W->Calls Tryz.prog g (first++#[.agg #[.int .i64 x.loc,.int .i64 x.tag,.int .i64 x.len,.int .i64 x.hash]]++cap) W fun r X=>r=.returned (.bool (p x))/\Below W.heap.size W X):
 Calls Tryz.prog 218 #[v,.func (.func g) first cap] w fun r w'=>r=.returned (.int .i64 (idx p l))/\Below w.heap.size w w':=by
 have V:=ag N;obtain ⟨Y,cl,rfl,-,L,-⟩:=N;unfold maxLen at L;have O:=ag hc;clear hc;go_enter Tryz.func218,Tryz.ntmps218;go_wp2_with fail;go_loopw [8] (fun i wr=>∃k:Nat,k<=l.length/\i=.int .i64 k/\Hid (∀x∈l.take k,p x=false)/\Below w.heap.size w wr) (fun i _=>l.length - (intOf i).toNat)
 case atStart=>exact ⟨0,n0q _,rfl,(fun x hx=>by cases hx),br _ _⟩
 case round=>
  obtain ⟨k,hk,rfl,J,A⟩:=hrel;by_cases E:k<l.length
  ·obtain ⟨b,off,rfl,hb,e0,e1,e2,e3⟩:=(V.o.keptTh (Kp.below (A.mono Z))).atTh k E;have D:=O.o l[k] (gm E) _ A;have u:=ag D;clear D;go_wp2_with fail;refine u.o.mono ?_;rintro r w2 ⟨rfl,I⟩;have G:=A.trans (I.mono A.size);clear I u;cases hp:p l[k]
   ·have F:=ag (zck E J.o hp);clear hp;go_wp2_with fail;go_roundw
    case rel=>exact ⟨k+1,by omega,by go_num,F.o,G⟩
    case measure=>simp [intOf];omega
   have F:=ag (zch E J.o hp);clear hp;go_wp2_with fail;go_ret;exact ⟨by rw [F.o];rfl,G⟩
  have F:Hid (idx p l= -1):=zci (by have:=J.o;rwa [List.take_of_length_le (by omega)]at this);go_wp2_with fail;go_ret;exact ⟨by rw [F.o];rfl,A⟩
theorem zh0 (w:World) (B:Nat) (v:Value) (l:List bp) (D:SL 4 RTh (· <B) w v l) (J:B<=w.heap.size) (g:Nat) (first cap:Array Value) (p:bp->Bool) (A:∀args w,(callFunc g args).run Tryz.prog w=.ok (.enter g args) w)
 (hc:∀x∈l,∀W,Below w.heap.size w W->Calls Tryz.prog g (first++#[.agg #[.int .i64 x.loc,.int .i64 x.tag,.int .i64 x.len,.int .i64 x.hash]]++cap) W fun r G=>r=.returned (.bool (p x))/\Below W.heap.size W G):
 Calls Tryz.prog 168 #[v,.func (.func g) first cap] w fun r w'=>r=.returned (.bool (l.any p))/\Below w.heap.size w w':=by
 have u:=zhz w B v l D J g first cap p A hc
 have E:=ag u;clear u hc;have F:=ag (zcj p l);obtain ⟨I,N,rfl,-⟩:=D;go_enter Tryz.func168,Tryz.ntmps168;go_wp2_with fail;refine E.o.mono ?_;rintro r O ⟨rfl,L⟩;go_wp2_with fail;go_ret;exact ⟨by rw [<-F.o];rfl,L⟩
theorem zh1 (W:World) (B c:Nat) (vW vO kC kS kF kN kT:Value) (h:bd) (d:be) (g:Gd B W c vW vO kC kS kF kN kT h d) (P Q f:Nat) (first cap:Array Value) (L:W.cell? ⟨P,0,none⟩=some (.func (.func f) first cap)) (O:W.cell? ⟨Q,0,none⟩=some (.pointer (some ⟨c,0,none⟩)))
 (u:Nat) (Z:u<h.ab.length) (b:Bool) (Y:∀args w,(callFunc f args).run Tryz.prog w=.ok (.enter f args) w)
 (hc:∀A,Below W.heap.size W A->Calls Tryz.prog f (first++#[.int .i64 h.ab[u]]++cap) A fun r J=>r=.returned (.bool b)/\Below A.heap.size A J):
 Calls Tryz.prog 219 #[.int .i64 (u:Int),.pointer (some ⟨P,0,none⟩),.pointer (some ⟨Q,0,none⟩)] W fun r A=>r=.returned (.bool b)/\Below W.heap.size W A:=by
 have N:=World.block_lt_of_cell? W _ L;have V:=World.block_lt_of_cell? W _ O;have g0:=g.c0;have gl:=g.lt;obtain ⟨ao,ca,e,-,F,-⟩:=g.sW;have G:=ag g.sW;subst e;obtain ⟨bW,oW,rfl,X,eW⟩:=G.o.atI u Z;unfold maxLen at F;have q1:(0:Int)<=u:=by omega
 have q2:(u:Int)<h.ab.length:=by omega
 have I:=ag hc;clear hc g G;generalize h.ab[u]=x at*;generalize h.ab.length=wl at*;go_enter Tryz.func219,Tryz.ntmps219;go_wp2_with fail
 go_region_held3 (fun A=>∀p:Addr,p.block<W.heap.size->A.cell? p=W.cell? p) (exact fun p hp=>Below.cell (B:=W.heap.size) (w:=W) (by repeat (first | assumption | exact br _ _ | refine Below.drew ?_)) hp) (first | (refine (I.o _ ?_).mono ?_;(exact (br _ _).drew);rintro r w2 ⟨rfl,D⟩;have E:Below W.heap.size W w2:=(br W.heap.size W).drew.trans D;clear D))
 all_goals
  rename_i hS1;clear hS1;go_wp2_with fail;go_ret;exact ⟨rfl,E⟩
theorem zh2 (fs:List (List bo)) (t:bp) {a:Int} (u:a∈refsOf fs t):t.loc+3<=a/\a<t.loc+3+t.len:=by obtain ⟨n,A,rfl⟩:=List.mem_map.1 u;have:=List.mem_range.1 (List.mem_filter.1 A).1;omega
def fq (fs:List (List bo)) (ws:List Int) (t:bp) (p:Int->Bool):Bool:=(refsOf fs t).any fun a=>p (wd ws a)
theorem zh3 (w:World) (B c:Nat) (vW vO kC kS kF kN kT:Value) (h:bd) (d:be) (g:Gd B w c vW vO kC kS kF kN kT h d) (t:bp) (hf:FitT d t) (ao:0<=t.loc) (al:t.fin<=h.ab.length) (au:h.ab.length<=100000) (f:Nat) (first cap:Array Value) (p:Int->Bool) (Z:∀args w,(callFunc f args).run Tryz.prog w=.ok (.enter f args) w)
 (hc:∀a∈refsOf d.fields t,∀W,Below w.heap.size w W->Calls Tryz.prog f (first++#[.int .i64 (wd h.ab a)]++cap) W fun r W'=>r=.returned (.bool (p (wd h.ab a)))/\Below W.heap.size W W'):
 Calls Tryz.prog 172 #[.pointer (some ⟨c,0,none⟩),mx t,.func (.func f) first cap] w fun r w'=>r=.returned (.bool (fq d.fields h.ab t p))/\Below w.heap.size w w':=by
 have ap:=np Tryz.prog;obtain ⟨u,G⟩:∃u,u=(((w.alloc (.cells #[.pointer (some ⟨c,0,none⟩)] 193)).alloc (.cells #[.int .i64 t.loc,.int .i64 t.tag,.int .i64 t.len,.int .i64 t.hash] 101)).alloc (.cells #[.func (.func f) first cap] 79)):=⟨_,rfl⟩;have ar:u.heap.size=w.heap.size+3:=by rw [G];simp
 have A:Below w.heap.size w u:=G ▸ (((br _ _).alloc (nlq _) _).alloc (by simp) _).alloc (by simp;omega) _;have b5:u.cell? ⟨w.heap.size+1+1,0,none⟩=some (.func (.func f) first cap):=by rw [G];simp [go_sem]
 have b3:u.cell? ⟨w.heap.size,0,none⟩=some (.pointer (some ⟨c,0,none⟩)):=by rw [G];simp [go_sem]
 have ai:t.fin=t.loc+3+t.len:=rfl;have ak:=hf.lo;have O:Hid (Calls Tryz.prog 178 #[.pointer (some ⟨c,0,none⟩),.agg #[.int .i64 t.loc,.int .i64 t.tag,.int .i64 t.len,.int .i64 t.hash]] (((w.alloc (.cells #[.pointer (some ⟨c,0,none⟩)] 193)).alloc (.cells #[.int .i64 t.loc,.int .i64 t.tag,.int .i64 t.len,.int .i64 t.hash] 101)).alloc (.cells #[.func (.func f) first cap] 79)) fun r w'=>Below u.heap.size u w'/\∃v,r=.returned v/\w'.ownsRow u.heap.size 3 1 v (refsOf d.fields t).length (bv (refsOf d.fields t))):=by have:=zht u B c _ _ _ _ _ _ _ h d (g.below A) t hf (by omega) (by omega);rw [<-G];exact this
 have ac:Hid ((refsOf d.fields t).length<=100000):=by show (jx d.fields t t.len.toNat).length<=_;have:=zhr d.fields t t.len.toNat;omega
 have N:Hid (∀W,Below u.heap.size u W->∀v,W.ownsRow u.heap.size 3 1 v (refsOf d.fields t).length (bv (refsOf d.fields t))->Calls Tryz.prog 174 #[v,.func (.func 219) #[] #[.pointer (some ⟨w.heap.size+1+1,0,none⟩),.pointer (some ⟨w.heap.size,0,none⟩)]] W fun r w'=>r=.returned (.bool (fq d.fields h.ab t p))/\Below W.heap.size W w'):=by
  intro W V v hv;have af:=zfb hv (lt3 ac.o (by omega));have ah:SL 1 RI (· <W.heap.size) W v (refsOf d.fields t):=af.monoI fun b hb=>by obtain ⟨_,aj,_,_,hb,_⟩:=hb;exact bz hb
  refine zhy W W.heap.size v _ ah (nlq _) 219 #[] _ (fun a=>p (wd h.ab a)) (fun args w=>by kernel_rfl) ?_;intro a ha W2 ad;have hr:=zh2 _ _ ha;obtain ⟨an,rfl⟩:=Int.eq_ofNat_of_zero_le (show 0<=a by omega);have X:an<h.ab.length:=by omega
  have E:Below u.heap.size u W2:=V.trans (ad.mono V.size);have F:Below w.heap.size w W2:=A.trans (E.mono A.size);refine zh1 W2 B c _ _ _ _ _ _ _ h d (g.below F) _ _ f first cap ((E.cell (p:=⟨w.heap.size+1+1,0,none⟩) (by show w.heap.size+1+1<_;omega)).trans b5) ((E.cell (p:=⟨w.heap.size,0,none⟩) (by show w.heap.size<_;omega)).trans b3) an X (p (wd h.ab an)) Z ?_
  intro W3 ae;have:=hc _ ha W3 (F.trans (ae.mono F.size));rw [zen X]at this ⊢;exact this
 have I:=ag A;have HW:=ag G;clear G A hc Z g hf b5 b3;unfold mx;go_enter Tryz.func172,Tryz.ntmps172;go_wp2_with fail;refine O.o.mono ?_;rintro r w1 ⟨D,v,rfl,hv⟩;have L:=ag (N.o w1 D v hv);have J:Hid (Below w.heap.size w w1):=I.o.trans (D.mono I.o.size);have aq:=D.size;clear D hv N O;go_wp2_with fail;refine L.o.mono ?_;rintro r w2 ⟨rfl,Y⟩;have aa:Hid (Below w.heap.size w w2):=J.o.trans (Y.mono J.o.size);clear Y L;go_wp2_with fail;go_ret;exact ⟨rfl,aa.o⟩
end Go.Proofs.YtjdnmblggdobgaaGreat
