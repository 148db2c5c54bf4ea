import Derived.Test.YtjdnmblggdobgaaGreatJHpRHpW
import Derived.Test.YtjdnmblggdobgaaGreatJHpMHpP
import Derived.Test.YtjdnmblggdobgaaGreatJLNoneLSaD
import Derived.Deep.DeepCutAuto
import Derived.Deep.RegionLaw
import Derived.Test.YtjdnmblggdobgaaGreatJLLineLLn
import Derived.Maps.OwnSet
import Derived.Test.YtjdnmblggdobgaaGreatLEv
import Derived.Test.YtjdnmblggdobgaaGreatJTk2Dies
set_option maxHeartbeats 4000000
set_option maxRecDepth 100000
namespace Go.Proofs.YtjdnmblggdobgaaGreat
open Go.RowKit Go.Maps
theorem Tryz.infoThing:(Tryz.prog.info? 101).map (fun i=>(i.zero,i.size,i.bytes))=some (some (.agg #[.int .i64 0,.int .i64 0,.int .i64 0,.int .i64 0]),4,32):=by kernel_rfl
def thCells (ts:List ThD):List Value:=ts.flatMap fun t=>[.int .i64 t.loc,.int .i64 t.tag,.int .i64 t.len,.int .i64 t.hash]
theorem zhk (ts:List ThD) (t:ThD):thCells (ts++ [t])=thCells ts++ [.int .i64 t.loc,.int .i64 t.tag,.int .i64 t.len,.int .i64 t.hash]:=by
 simp [thCells]
structure Cht (X B:Nat) (w:World) (vW vO kC kS kF kN kT vA:Value) (h:HeapD) (d:LinkD) (ts:List ThD):Prop where
 le:B<=X
 blk:w.heap[X+1]? =some (.cells #[vW,.int .i64 h.young,.int .i64 h.old,.int .i64 h.ytop,.int .i64 h.otop,vO,.int .i64 h.next,kC,kS,kF,kN,kT,vA,.map (some X)] 185 (0,0))
 sW:SL 1 RI (· <B) w vW h.words
 sO:SL 1 RI (· <B) w vO h.noted
 lk:RLk (· <B) w kC kS kF kN kT d
 row:w.ownsRow (X+2) 101 4 vA ts.length (thCells ts)
 pl:PlMap w X ts
theorem Cht.gd {X B:Nat} {w:World} {vW vO kC kS kF kN kT vA:Value} {h:HeapD} {d:LinkD} {ts:List ThD} (c:Cht X B w vW vO kC kS kF kN kT vA h d ts):Gd B w (X+1) vW vO kC kS kF kN kT h d:=
 have hl:=lt0 c.blk
 have hb:=c.le
 ⟨hl,by omega,cl0 c.blk 0 rfl,cl0 c.blk 1 rfl,cl0 c.blk 2 rfl,cl0 c.blk 3 rfl,cl0 c.blk 4 rfl,cl0 c.blk 5 rfl,cl0 c.blk 6 rfl,cl0 c.blk 7 rfl,cl0 c.blk 8 rfl,cl0 c.blk 9 rfl,cl0 c.blk 10 rfl,cl0 c.blk 11 rfl,c.sW,c.sO,c.lk⟩
theorem Cht.below {X B:Nat} {w w':World} {vW vO kC kS kF kN kT vA:Value} {h:HeapD} {d:LinkD} {ts:List ThD} (c:Cht X B w vW vO kC kS kF kN kT vA h d ts) (hb:Below w.heap.size w w'):Cht X B w' vW vO kC kS kF kN kT vA h d ts:=
 have hl:=lt0 c.blk
 have hB:=c.le
 have hk:=Kp.below (hb.mono (by omega:B<=w.heap.size))
 ⟨c.le,(hb.block _ hl).trans c.blk,c.sW.keptI hk,c.sO.keptI hk,c.lk.kept hk,zhj c.row hb,c.pl.below hb c.pl.lt⟩
def WalkOut (X B:Nat) (vW vO kC kS kF kN kT:Value) (h:HeapD) (d:LinkD) (ts:List ThD) (o:Option (List ThD)) (r:Ending) (w':World):Prop:=
 (∃ts2 vA',o=some ts2/\r=.returned (.bool true)/\Cht X B w' vW vO kC kS kF kN kT vA' h d (ts++ts2))\/(o=none/\r=.returned (.bool false))
theorem zhl (w:World) (X B:Nat) (vW vO kC kS kF kN kT vA:Value) (h:HeapD) (d:LinkD) (ts:List ThD) (hc:Cht X B w vW vO kC kS kF kN kT vA h d ts) (loc0:Nat) (top:Int) (hlo:loc0<=5000) (htp:top<=5000) (ht:top<=h.words.length) (hts:ts.length<=loc0)
 (hfl:d.fields.length=d.classes.length) (hfs:∀f∈d.fields,f.length<=1000) (hcn:d.classes.length<=1000):
 Calls Tryz.prog 167 #[.pointer (some ⟨X+1,0,none⟩),.int .i64 (loc0:Int),.int .i64 top] w fun r w'=>Below X w w'/\
  WalkOut X B vW vO kC kS kF kN kT h d ts (walkT d.classes.length d.fields h.words loc0 top) r w':=by
 obtain ⟨iT,hiT,hzT0,hzT1,hzT2⟩:=info_parts Tryz.infoThing
 have HRD:Hid (∀(W:World) (vA1:Value) (ts1:List ThD) (loc:Nat),loc<=1000000->Cht X B W vW vO kC kS kF kN kT vA1 h d ts1->Calls Tryz.prog 217 #[.pointer (some ⟨X+1,0,none⟩),.int .i64 (loc:Int),.int .i64 top] W fun r w'=>Below W.heap.size W w'/\∃t,r=.returned (.tuple #[thV t,.bool (readB d.classes.length d.fields h.words loc top)])/\(readB d.classes.length d.fields h.words loc top=true->t=thAt h.words loc)):=
  fun W vA1 ts1 loc hl hc1=>zfc W B (X+1) _ _ _ _ _ _ _ h d hc1.gd loc top hl ht hfl hfs hcn
 have HC:=mk0 hc
 have hXl:X+1<w.heap.size:=lt0 hc.blk
 clear hc
 go_enter Tryz.func167,Tryz.ntmps167
 go_wp2_with fail
 go_loopw [1] (fun i wr=>∃(loc:Nat) (ts1:List ThD) (vA1:Value),i=.int .i64 loc/\loc<=5000/\(ts++ts1).length<=loc/\Hid (Below X w wr/\Cht X B wr vW vO kC kS kF kN kT vA1 h d (ts++ts1)/\walkT d.classes.length d.fields h.words loc0 top=(walkT d.classes.length d.fields h.words loc top).map (ts1++ ·))) (fun i _=>(top - intOf i).toNat)
 case atStart=>exact ⟨loc0,[],vA,rfl,hlo,by simpa using hts,Below.refl _ _,by simpa using HC.out,by cases walkT d.classes.length d.fields h.words loc0 top<;>rfl⟩
 case round=>
  obtain ⟨loc,ts1,vA1,rfl,hl,htl,HI⟩:=hrel
  by_cases hlt:(loc:Int)<top
  ·
   have HR:=mk0 (HRD.out wr vA1 (ts++ts1) loc (by omega) HI.out.2.1)
   go_wp2_with fail
   refine HR.out.mono ?_
   rintro r w1 ⟨hb1,t,rfl,hrt⟩
   unfold thV
   cases hrb:readB d.classes.length d.fields h.words loc top with
   | false=>
     have HN:=mk0 (zeu hlt (by rw [hrb];decide))
     have HB1:=mk0 (fun o=>(HI.out.1.trans (hb1.mono (by have:=HI.out.1.size;omega))).alloc (by have:=HI.out.1.size;have:=hb1.size;omega) o)
     clear hb1 hrt HR
     go_wp2_with fail
     go_ret
     exact ⟨HB1.out _,Or.inr ⟨by rw [HI.out.2.2,HN.out];rfl,rfl⟩⟩
   | true=>
     have hte:=hrt hrb
     have hfin:=zep hrb
     have hlen:(thAt h.words loc).len<=5000:=by
      have h1:=hfin.2.1
      have h2:(thAt h.words loc).fin=loc+3+(thAt h.words loc).len:=rfl
      omega
     have hlen0:=zeo hfin.2.2.2
     have hff:(thAt h.words loc).fin=loc+3+(thAt h.words loc).len:=rfl
     have HST:=mk0 (zet hlt hrb)
     have HFI:Hid ((loc:Int)+3<=t.fin/\t.fin<=top/\t.loc=loc/\0<=t.len/\t.len<=5000/\t=thAt h.words loc):=by
      rw [hte]
      exact ⟨hfin.1,hfin.2.1,rfl,hlen0,hlen,rfl⟩
     have hs1:=hb1.size
     have hsX:=HI.out.1.size
     have hBX:Below X w w1:=HI.out.1.trans (hb1.mono (by omega))
     have hcr:=HI.out.2.1.below hb1
     obtain ⟨W7,hW7⟩:∃W7,W7=w1.alloc (.cells #[.int .i64 t.loc,.int .i64 t.tag,.int .i64 t.len,.int .i64 t.hash] 101):=⟨_,rfl⟩
     have hA7:Below w1.heap.size w1 W7:=hW7 ▸ (Below.refl _ _).alloc (Nat.le_refl _) _
     have hc7:=hcr.below hA7
     have hB7:Below X w W7:=hBX.trans (hA7.mono (by omega))
     have h7:W7.heap[w1.heap.size]? =some (.cells #[.int .i64 t.loc,.int .i64 t.tag,.int .i64 t.len,.int .i64 t.hash] 101 (0,0)):=hW7 ▸ heap_alloc_new w1 _
     obtain ⟨a5,c5,rfl⟩:=zfz hc7.row
     have m12:=cl0 hc7.blk 12 (x:=.slice a5 (ts++ts1).length c5) rfl
     have ml:=lt0 hc7.blk
     have s0:=cl0 h7 0 (x:=.int .i64 t.loc) rfl
     have s1:=cl0 h7 1 (x:=.int .i64 t.tag) rfl
     have s2:=cl0 h7 2 (x:=.int .i64 t.len) rfl
     have s3:=cl0 h7 3 (x:=.int .i64 t.hash) rfl
     have l7:=lt0 h7
     have HC7:=mk0 hc7
     have HB7:=mk0 hB7
     have H7:=mk0 h7
     have HOW:Hid (W7.drew.ownsRow (X+2) 101 4 (.slice a5 (ts++ts1).length c5) (ts++ts1).length (thCells (ts++ts1))):=zhj hc7.row (Below.refl _ _).drew
     have HBB:Hid ((ts++ts1).length+1<=maxLen/\((ts++ts1).length+1)*32<=140737488355328/\X+2<=(W7.drew.alloc (.cells #[.int .i64 t.loc,.int .i64 t.tag,.int .i64 t.len,.int .i64 t.hash] 101)).heap.size):=⟨by unfold maxLen;omega,by omega,by show X+2<=(W7.alloc _).heap.size;simp;omega⟩
     have hW1:w1.heap.size<W7.heap.size:=l7
     have HW7:=mk0 hW7
     have HRQ:Hid (∀q,(Value.slice a5 (ts++ts1).length c5).ownBlock=some q->q<wr.heap.size):=fun q e=>(HI.out.2.1.row.lt q e).2
     have HEN:Hid (∀W,Calls Tryz.prog 72 #[.agg #[.int .i64 t.loc,.int .i64 t.tag,.int .i64 t.len,.int .i64 t.hash]] W fun r w'=>r=.returned (.int .i64 t.fin)/\Below W.heap.size W w'):=fun W=>ze2 W t (by have:=HFI.out.2.2.1;unfold small;omega) (by have:=HFI.out.2.2.2.1;have:=HFI.out.2.2.2.2.1;unfold small;omega)
     clear hb1 hrt HR hte hfin hlen hlen0 hff hBX hcr hA7 hc7 hB7 h7 hW7
     generalize hn:(ts++ts1).length=n at*
     go_upto_region 5 with fail
     rw [<-HW7.out]
     go_region_law (first
      | (refine step_append_lies _ (by rfl) (.tmp 25) (.tmp 27) 182 (by rfl) (X+2) 101 iT (.agg #[.int .i64 0,.int .i64 0,.int .i64 0,.int .i64 0]) 4 32 Tryz.underlying182 hiT hzT0 hzT1 hzT2 rfl (by decide) (.slice a5 n c5) n (thCells (ts++ts1)) (by rfl) (HOW.out.alloc _) ⟨W7.drew.heap.size,0,none⟩ 1 1 [.int .i64 t.loc,.int .i64 t.tag,.int .i64 t.len,.int .i64 t.hash] (by rfl) rfl (World.news_of_block (heap_alloc_new W7.drew _)) (by intro u hu;simp at hu;rcases hu with rfl | rfl | rfl | rfl<;>rfl) (by decide) HBB.out.1 HBB.out.2.1 HBB.out.2.2 _ rfl ?_;intro gA cA w9 hown9 hgr9 _ hlt9;have hrb9:∀q,(Value.slice a5 n c5).ownBlock=some q->X+2<=q:=fun q e=>(HOW.out.lt q e).1;have eB9:=(hgr9.block (X+1) (by show X+1<(W7.alloc _).heap.size;simp;omega) (fun e=>by have:=hrb9 _ e.symm;omega)).trans ((Below.heap_alloc _ _ _ ml).trans HC7.out.blk);have m9:=cl0 eB9 12 (x:=.slice a5 n c5) rfl;have z9:=zcf eB9 12;have ml9:=lt0 eB9;have HFA:=mk0 (And.intro hown9 (And.intro hgr9 eB9));clear hown9 hgr9 eB9 hrb9)
      | go_simp)
     all_goals
      obtain ⟨hown9,hgr9,eB9⟩:=HFA.out
      have hrb9:∀q,(Value.slice a5 n c5).ownBlock=some q->X+2<=q:=fun q e=>(HOW.out.lt q e).1
      have hz7:(W7.drew.alloc (.cells #[.int .i64 t.loc,.int .i64 t.tag,.int .i64 t.len,.int .i64 t.hash] 101)).heap.size=W7.heap.size+1:=by show (W7.alloc _).heap.size=_;simp
      have hz8:(W7.alloc (.cells #[.int .i64 t.loc,.int .i64 t.tag,.int .i64 t.len,.int .i64 t.hash] 101)).drew.heap.size=W7.heap.size+1:=by show (W7.alloc _).heap.size=_;simp
      have hs9:=hgr9.size
      have hB9:Below X w w9:=((HB7.out.drew).alloc (by show X<=W7.heap.size;omega) (.cells #[.int .i64 t.loc,.int .i64 t.tag,.int .i64 t.len,.int .i64 t.hash] 101)).grown hgr9 (by omega) (fun q e=>by have:=hrb9 q e;omega)
      obtain ⟨W10,hW10⟩:∃W10,W10=w9.setCell ⟨X+1,12,none⟩ (.slice (some ⟨gA,0,none⟩) (n+1) cA):=⟨_,rfl⟩
      have hg10:w9.grownBy W10 (some (X+1)):=hW10 ▸ za8 (World.grownBy.refl _ _) _ _ (Or.inl rfl)
      have hB10:Below X w W10:=hW10 ▸ hB9.setCell (by simp) _
      have b10:W10.heap[X+1]? =some (.cells #[vW,.int .i64 h.young,.int .i64 h.old,.int .i64 h.ytop,.int .i64 h.otop,vO,.int .i64 h.next,kC,kS,kF,kN,kT,.slice (some ⟨gA,0,none⟩) (n+1) cA,.map (some X)] 185 (0,0)):=hW10 ▸ zg6 eB9 _
      have row10:W10.ownsRow (X+2) 101 4 (.slice (some ⟨gA,0,none⟩) (n+1) cA) (n+1) (thCells (ts++ts1)++ [.int .i64 t.loc,.int .i64 t.tag,.int .i64 t.len,.int .i64 t.hash]):=hW10 ▸ ownsRow_setCell_below hown9 (by simp) _
      have pl10:PlMap W10 X (ts++ts1):=(((HC7.out.pl.below (Below.refl W7.heap.size W7).drew HC7.out.pl.lt).kept (row:=none) (World.grownBy_alloc W7.drew (.cells #[.int .i64 t.loc,.int .i64 t.tag,.int .i64 t.len,.int .i64 t.hash] 101) _) (by simp)).kept hgr9 (fun e=>by have:=hrb9 _ e.symm;omega)).kept hg10 (by simp)
      have e9:=(hgr9.block w1.heap.size (by omega) (fun e=>by have:=HRQ.out _ e.symm;omega)).trans ((Below.heap_alloc _ _ _ (by show w1.heap.size<W7.heap.size;omega)).trans H7.out)
      have e10:=(hg10.block w1.heap.size (by omega) (by simp;omega)).trans e9
      have m13:=cl0 b10 13 (x:=.map (some X)) rfl
      have u0:=cl0 e10 0 (x:=.int .i64 t.loc) rfl
      have u1:=cl0 e10 1 (x:=.int .i64 t.tag) rfl
      have u2:=cl0 e10 2 (x:=.int .i64 t.len) rfl
      have u3:=cl0 e10 3 (x:=.int .i64 t.hash) rfl
      have l10:=lt0 b10
      have l11:=lt0 e10
      obtain ⟨D,hown,hD⟩:=pl10
      have hkey:keyOf Tryz.prog 3 (.int .i64 (loc:Int))=some (ikey loc):=keyOf_int_mk Tryz.underlying3 (WalkArith.wf_i64 (by omega))
      obtain ⟨w11,hrun,hown11,hg11⟩:=World.ownsMap.update (w:=W10.drew) hown.drew law3 Tryz.underlying183 (by rw [hn];unfold maxLen;omega) hkey (zfd t)
      unfold thV at hrun
      have hD2:=zfj hD (hown.tidy law3) t
      rw [HFI.out.2.2.1]at hD2
      have hB11:Below X w w11:=(hB10.drew).grown hg11 (by show X<=W10.heap.size;omega) (fun q e=>by cases e;exact Nat.le_refl _)
      have b11:=(hg11.block (X+1) l10 (by simp)).trans b10
      have e11:=(hg11.block w1.heap.size l11 (by simp;omega)).trans e10
      have row11:w11.ownsRow (X+2) 101 4 (.slice (some ⟨gA,0,none⟩) (n+1) cA) (n+1) (thCells (ts++ts1)++ [.int .i64 t.loc,.int .i64 t.tag,.int .i64 t.len,.int .i64 t.hash]):=(zhj row10 (Below.refl _ _).drew).kept hg11 (Or.inr fun e=>by have:=((zhj row10 (Below.refl _ _).drew).lt X e).1;omega)
      have HFN:Hid (Below X w w11/\Cht X B w11 vW vO kC kS kF kN kT (.slice (some ⟨gA,0,none⟩) (n+1) cA) h d (ts++(ts1++ [t]))):=by
       have hle:=HC7.out.le
       have hk11:Kp (· <B) W7 w11:=by
        have hb:Below X W7 w11:=by
         have q1:Below X W7 w9:=(((Below.refl X W7).drew).alloc (by show X<=W7.heap.size;omega) (.cells #[.int .i64 t.loc,.int .i64 t.tag,.int .i64 t.len,.int .i64 t.hash] 101)).grown hgr9 (by omega) (fun q e=>by have:=hrb9 q e;omega)
         have q2:Below X W7 W10:=hW10 ▸ q1.setCell (by simp) _
         exact (q2.drew).grown hg11 (by show X<=W10.heap.size;omega) (fun q e=>by cases e;exact Nat.le_refl _)
        exact Kp.below (hb.mono hle)
       have hl3:(ts++(ts1++ [t])).length=n+1:=by rw [<-List.append_assoc,List.length_append,hn];rfl
       refine ⟨hB11,hle,b11,HC7.out.sW.keptI hk11,HC7.out.sO.keptI hk11,HC7.out.lk.kept hk11,?_,D.put (ikey loc) (thDat t),?_,?_⟩
       ·
        rw [hl3,<-List.append_assoc,zhk]
        exact row11
       ·
        rw [hl3]
        rw [hn]at hown11
        exact hown11
       rw [<-List.append_assoc]
       exact hD2
      have v0:=cl0 e11 0 (x:=.int .i64 t.loc) rfl
      have v1:=cl0 e11 1 (x:=.int .i64 t.tag) rfl
      have v2:=cl0 e11 2 (x:=.int .i64 t.len) rfl
      have v3:=cl0 e11 3 (x:=.int .i64 t.hash) rfl
      have l12:=lt0 e11
      have HW10:=mk0 hW10
      clear hown9 hgr9 eB9 hrb9 hB9 hg10 hB10 b10 row10 e9 e10 hown hD hkey hown11 hg11 hD2 hB11 b11 e11 row11 HFA m9 z9 hz7 hz8 hs9 hW10
      rw [<-HW10.out]
      go_wp2_with fail
      go_region
      all_goals
       go_wp2_with fail
       refine (HEN.out _).mono ?_
       rintro r w12 ⟨rfl,hb12⟩
       have HF2:Hid (Below X w w12/\Cht X B w12 vW vO kC kS kF kN kT (.slice (some ⟨gA,0,none⟩) (n+1) cA) h d (ts++(ts1++ [t]))):=⟨HFN.out.1.trans (hb12.mono (by have:=HFN.out.1.size;omega)),HFN.out.2.below hb12⟩
       obtain ⟨fn,hfn⟩:∃fn:Nat,t.fin=fn:=⟨t.fin.toNat,by have:=HFI.out.1;omega⟩
       have hf1:(loc:Int)+3<=fn:=hfn ▸ HFI.out.1
       have hf2:(fn:Int)<=top:=hfn ▸ HFI.out.2.1
       have HWK:Hid (walkT d.classes.length d.fields h.words loc0 top=(walkT d.classes.length d.fields h.words fn top).map ((ts1++ [t])++ ·)):=by
        show _=_
        rw [HI.out.2.2,HST.out,<-HFI.out.2.2.2.2.2,hfn]
        cases walkT d.classes.length d.fields h.words fn top<;>simp
       have HLN:Hid ((ts++(ts1++ [t])).length<=fn):=by
        show _<=_
        rw [<-List.append_assoc,List.length_append,hn]
        simp
        omega
       rw [hfn]
       clear hb12 v0 v1 v2 v3 u0 u1 u2 u3 hrun HEN HFN HC7 HOW HI
       go_wp2_with fail
       go_roundw
       case rel=>exact ⟨fn,ts1++ [t],_,rfl,by omega,HLN.out,HF2.out.1,HF2.out.2,HWK.out⟩
       case measure=>simp [intOf];omega
  have HE:=mk0 (zes (n:=d.classes.length) (fs:=d.fields) (ws:=h.words) hlt)
  go_wp2_with fail
  go_ret
  exact ⟨HI.out.1,Or.inl ⟨ts1,vA1,by rw [HI.out.2.2,HE.out];simp,rfl,HI.out.2.1⟩⟩
theorem zhm (n:Nat) (fs:List (List FieldD)) (ws:List Int) (top:Int):∀(f:Nat) (loc:Int) (ts:List ThD),loc<=top->walkF n fs ws top f loc=some ts->loc+3*(ts.length:Int)<=top
 | 0,loc,ts,hl,h=>by
   rw [walkF]at h
   cases h
   simpa using hl
 | f+1,loc,ts,hl,h=>by
   rw [walkF]at h
   split at h
   ·
    split at h
    ·
     rename_i hr
     have h1:=zep hr
     cases hx:walkF n fs ws top f (thAt ws loc).fin with
     | none=>rw [hx]at h;cases h
     | some ts'=>
       rw [hx]at h
       have ih:=zhm n fs ws top f _ ts' h1.2.1 hx
       cases h
       simp only [List.length_cons]
       omega
    cases h
   cases h
   simpa using hl
theorem zhn {n:Nat} {fs:List (List FieldD)} {ws:List Int} {loc top:Int} {ts:List ThD} (hl:loc<=top) (h:walkT n fs ws loc top=some ts):loc+3*(ts.length:Int)<=top:=zhm n fs ws top _ loc ts hl h
def bothT (d:LinkD) (h:HeapD):Option (List ThD):=
 match walkT d.classes.length d.fields h.words 1 h.ytop with
 | none=>none
 | some ys=>(walkT d.classes.length d.fields h.words (h.young+1) h.otop).map (ys++ ·)
structure Sized (d:LinkD) (h:HeapD):Prop where
 young:3<=h.young/\h.young<=2000
 old:3<=h.old/\h.old<=2000
 len:(h.words.length:Int)=1+h.young+h.old
 ytop:1<=h.ytop/\h.ytop<=h.young+1
 otop:h.young+1<=h.otop/\h.otop<=h.young+h.old+1
 fl:d.fields.length=d.classes.length
 fs:∀f∈d.fields,f.length<=1000
 cn:d.classes.length<=1000
def FindOut (X B:Nat) (vW vO kC kS kF kN kT:Value) (h:HeapD) (d:LinkD) (r:Ending) (w':World):Prop:=
 (∃ts vA,bothT d h=some ts/\r=.returned (.tuple #[.pointer (some ⟨X+1,0,none⟩),.bool true])/\Cht X B w' vW vO kC kS kF kN kT vA h d ts)\/(bothT d h=none/\r=.returned (.tuple #[.pointer (some ⟨X+1,0,none⟩),.bool false]))
theorem zho (w:World) (B:Nat) (vW vO kC kS kF kN kT:Value) (h:HeapD) (d:LinkD) (hB:B<=w.heap.size) (sW:SL 1 RI (· <B) w vW h.words) (sO:SL 1 RI (· <B) w vO h.noted) (lk:RLk (· <B) w kC kS kF kN kT d) (hz:Sized d h):
 Calls Tryz.prog 109 #[.agg #[vW,.int .i64 h.young,.int .i64 h.old,.int .i64 h.ytop,.int .i64 h.otop,vO,.int .i64 h.next],.agg #[kC,kS,kF,kN,kT]] w fun r w'=>Below w.heap.size w w'/\FindOut (w.heap.size+1+1) B vW vO kC kS kF kN kT h d r w':=by
 obtain ⟨W0,hW⟩:∃W0,W0=((((w.alloc (.cells #[vW,.int .i64 h.young,.int .i64 h.old,.int .i64 h.ytop,.int .i64 h.otop,vO,.int .i64 h.next] 24)).alloc (.cells #[kC,kS,kF,kN,kT] 36)).alloc (.map #[] 0)).alloc (.cells #[vW,.int .i64 h.young,.int .i64 h.old,.int .i64 h.ytop,.int .i64 h.otop,vO,.int .i64 h.next,kC,kS,kF,kN,kT,.slice none 0 0,.map (some (w.heap.size+1+1))] 185)):=⟨_,rfl⟩
 have hB0:Below w.heap.size w W0:=hW ▸ ((((Below.refl _ _).alloc (Nat.le_refl _) _).alloc (by simp) _).alloc (by simp;omega) _).alloc (by simp;omega) _
 have hk:=Kp.below (hB0.mono hB)
 have hblk:W0.heap[w.heap.size+1+1+1]? =some (.cells #[vW,.int .i64 h.young,.int .i64 h.old,.int .i64 h.ytop,.int .i64 h.otop,vO,.int .i64 h.next,kC,kS,kF,kN,kT,.slice none 0 0,.map (some (w.heap.size+1+1))] 185 (0,0)):=by
  have h1:=heap_alloc_new (((w.alloc (.cells #[vW,.int .i64 h.young,.int .i64 h.old,.int .i64 h.ytop,.int .i64 h.otop,vO,.int .i64 h.next] 24)).alloc (.cells #[kC,kS,kF,kN,kT] 36)).alloc (.map #[] 0)) (.cells #[vW,.int .i64 h.young,.int .i64 h.old,.int .i64 h.ytop,.int .i64 h.otop,vO,.int .i64 h.next,kC,kS,kF,kN,kT,.slice none 0 0,.map (some (w.heap.size+1+1))] 185)
  rw [<-hW]at h1
  simpa using h1
 have hpl:PlMap W0 (w.heap.size+1+1) []:=by
  have h1:=(World.ownsMap_made ((w.alloc (.cells #[vW,.int .i64 h.young,.int .i64 h.old,.int .i64 h.ytop,.int .i64 h.otop,vO,.int .i64 h.next] 24)).alloc (.cells #[kC,kS,kF,kN,kT] 36)) Tryz.prog 3 thElem).alloc (.cells #[vW,.int .i64 h.young,.int .i64 h.old,.int .i64 h.ytop,.int .i64 h.otop,vO,.int .i64 h.next,kC,kS,kF,kN,kT,.slice none 0 0,.map (some (w.heap.size+1+1))] 185)
  rw [<-hW]at h1
  refine ⟨.map [],?_,zfi⟩
  simpa using h1
 have hc:Cht (w.heap.size+1+1) B W0 vW vO kC kS kF kN kT (.slice none 0 0) h d []:=⟨by omega,hblk,sW.keptI hk,sO.keptI hk,lk.kept hk,World.ownsRow_nil _ _ _ _,hpl⟩
 have hbox:W0.heap[w.heap.size]? =some (.cells #[vW,.int .i64 h.young,.int .i64 h.old,.int .i64 h.ytop,.int .i64 h.otop,vO,.int .i64 h.next] 24 (0,0)):=by
  rw [hW]
  exact (Below.heap_alloc _ _ _ (by simp;omega)).trans ((Below.heap_alloc _ _ _ (by simp;omega)).trans ((Below.heap_alloc _ _ _ (by simp)).trans (heap_alloc_new w _)))
 obtain ⟨yn,hyn⟩:∃yn:Nat,h.young+1=yn:=⟨(h.young+1).toNat,by have:=hz.young;omega⟩
 have hy0:=hz.young
 have hwr:IntKind.i64.wrap (h.young+1)=(yn:Int):=(ws0 _ (by omega) (by omega)).trans hyn
 have HY:Hid (h.young+1=yn):=hyn
 have hz1:=hz.ytop
 have hz2:=hz.otop
 have hz3:=hz.old
 have hz4:=hz.len
 have HW1:Hid (Calls Tryz.prog 167 #[.pointer (some ⟨w.heap.size+1+1+1,0,none⟩),.int .i64 1,.int .i64 h.ytop] ((((w.alloc (.cells #[vW,.int .i64 h.young,.int .i64 h.old,.int .i64 h.ytop,.int .i64 h.otop,vO,.int .i64 h.next] 24)).alloc (.cells #[kC,kS,kF,kN,kT] 36)).alloc (.map #[] 0)).alloc (.cells #[vW,.int .i64 h.young,.int .i64 h.old,.int .i64 h.ytop,.int .i64 h.otop,vO,.int .i64 h.next,kC,kS,kF,kN,kT,.slice none 0 0,.map (some (w.heap.size+1+1))] 185)) fun r w'=>Below (w.heap.size+1+1) W0 w'/\
  WalkOut (w.heap.size+1+1) B vW vO kC kS kF kN kT h d [] (walkT d.classes.length d.fields h.words 1 h.ytop) r w'):=by
  have:=zhl W0 (w.heap.size+1+1) B _ _ _ _ _ _ _ _ h d [] hc 1 h.ytop (by omega) (by omega) (by omega) (by simp) hz.fl hz.fs hz.cn
  rw [<-hW]
  exact this
 have HW2:Hid (∀W vA ts,Cht (w.heap.size+1+1) B W vW vO kC kS kF kN kT vA h d ts->walkT d.classes.length d.fields h.words 1 h.ytop=some ts->Calls Tryz.prog 167 #[.pointer (some ⟨w.heap.size+1+1+1,0,none⟩),.int .i64 (yn:Int),.int .i64 h.otop] W fun r w'=>Below (w.heap.size+1+1) W w'/\
  WalkOut (w.heap.size+1+1) B vW vO kC kS kF kN kT h d ts (walkT d.classes.length d.fields h.words yn h.otop) r w'):=fun W vA ts hc1 hw1=>by
  have hl1:=zhn hz1.1 hw1
  exact zhl W (w.heap.size+1+1) B _ _ _ _ _ _ _ _ h d ts hc1 yn h.otop (by omega) (by omega) (by omega) (by omega) hz.fl hz.fs hz.cn
 have hmm:=@run_makeMap Tryz.prog
 have HB0:=mk0 hB0
 have HBX:=mk0 hbox
 have hsz:w.heap.size+1+1+1<W0.heap.size:=lt0 hblk
 clear hW hc hbox hB0 hz hk hblk hpl hyn hy0 hz1 hz2 hz3 hz4 sW sO lk
 go_enter Tryz.func109,Tryz.ntmps109
 go_wp2_with fail
 refine HW1.out.mono ?_
 rintro r w1 ⟨hb1,ho⟩
 have hB1:Below w.heap.size w w1:=HB0.out.trans (hb1.mono (by omega))
 rcases ho with ⟨ts2,vA',ho,rfl,hc1⟩ | ⟨ho,rfl⟩
 ·
  have hbx:=(hb1.block w.heap.size (by omega)).trans HBX.out
  have b1:=cl0 hbx 1 (x:=.int .i64 h.young) rfl
  have b4:=cl0 hbx 4 (x:=.int .i64 h.otop) rfl
  have HC1:=mk0 hc1
  have HB1:=mk0 hB1
  have HO:=mk0 ho
  have hs1:=hb1.size
  clear hbx hc1 hB1 ho hb1 HW1
  go_wp2_with fail
  refine (HW2.out _ _ _ HC1.out HO.out).mono ?_
  rintro r w2 ⟨hb2,ho2⟩
  have HB2:Hid (Below w.heap.size w w2):=HB1.out.trans (hb2.mono (by omega))
  have HO2:=mk0 ho2
  clear hb2 ho2 HW2
  rcases HO2.out with ⟨ts3,vA3,ho3,rfl,hc3⟩ | ⟨ho3,rfl⟩
  ·
   have HC3:=mk0 hc3
   have HO3:=mk0 ho3
   clear hc3 ho3 HO2
   go_wp2_with fail
   refine bodyPost_ret (v:=.tuple #[.pointer (some ⟨w.heap.size+1+1+1,0,none⟩),.bool true]) (by simp [results,Tryz.results109,go_sem]) rfl ⟨HB2.out,Or.inl ⟨ts2++ts3,vA3,?_,rfl,HC3.out⟩⟩
   rw [bothT,HO.out,HY.out,HO3.out]
   rfl
  have HO3:=mk0 ho3
  clear ho3 HO2
  go_wp2_with fail
  refine bodyPost_ret (v:=.tuple #[.pointer (some ⟨w.heap.size+1+1+1,0,none⟩),.bool false]) (by simp [results,Tryz.results109,go_sem]) rfl ⟨HB2.out,Or.inr ⟨?_,rfl⟩⟩
  rw [bothT,HO.out,HY.out,HO3.out]
  rfl
 have HO:=mk0 ho
 have HB1:=mk0 hB1
 clear ho hB1 hb1 HW1 HW2
 go_wp2_with fail
 refine bodyPost_ret (v:=.tuple #[.pointer (some ⟨w.heap.size+1+1+1,0,none⟩),.bool false]) (by simp [results,Tryz.results109,go_sem]) rfl ⟨HB1.out,Or.inr ⟨?_,rfl⟩⟩
 rw [bothT,HO.out]
theorem zhp {w:World} {B B' e n len:Nat} {v:Value} {xs:List Value} (h:w.ownsRow B e n v len xs) (hB:B'<=B):w.ownsRow B' e n v len xs:=by
 obtain ⟨h1,h2⟩:=h
 refine ⟨h1,h2.imp id ?_⟩
 rintro ⟨g,cap,cur,e1,e2,e3⟩
 exact ⟨g,cap,cur,e1,Nat.le_trans hB e2,e3⟩
def refsN (fs:List (List FieldD)) (t:ThD) (n:Nat):List Int:=((List.range n).filter (refI fs t)).map fun (n:Nat)=>t.loc+3+(n:Int)
theorem zhq (fs:List (List FieldD)) (t:ThD) (n:Nat):refsN fs t (n+1)=refsN fs t n++if refI fs t n then [t.loc+3+(n:Int)] else []:=by
 unfold refsN
 rw [List.range_succ,List.filter_append,List.map_append]
 cases hr:refI fs t n<;>simp [hr]
theorem zhr (fs:List (List FieldD)) (t:ThD) (n:Nat):(refsN fs t n).length<=n:=by
 unfold refsN
 rw [List.length_map]
 exact Nat.le_trans (List.length_filter_le _ _) (by simp)
theorem zhs (l:List Int) (x:Int):intV (l++ [x])=intV l++ [.int .i64 x]:=by simp [intV]
theorem zht (w:World) (B c:Nat) (vW vO kC kS kF kN kT:Value) (h:HeapD) (d:LinkD) (g:Gd B w c vW vO kC kS kF kN kT h d) (t:ThD) (hf:FitT d t) (hlo:0<=t.loc/\t.loc<=100000) (hle:t.len<=100000):
 Calls Tryz.prog 178 #[.pointer (some ⟨c,0,none⟩),thV t] w fun r w'=>Below w.heap.size w w'/\∃v,r=.returned v/\w'.ownsRow w.heap.size 3 1 v (refsOf d.fields t).length (intV (refsOf d.fields t)):=by
 obtain ⟨iI,hiI,hzI0,hzI1,hzI2⟩:=info_parts Tryz.infoInt
 obtain ⟨W1,hW1⟩:∃W1,W1=w.alloc (.cells #[.int .i64 t.loc,.int .i64 t.tag,.int .i64 t.len,.int .i64 t.hash] 101):=⟨_,rfl⟩
 have hA1:Below w.heap.size w W1:=hW1 ▸ (Below.refl _ _).alloc (Nat.le_refl _) _
 have hb3:W1.heap[w.heap.size]? =some (.cells #[.int .i64 t.loc,.int .i64 t.tag,.int .i64 t.len,.int .i64 t.hash] 101 (0,0)):=hW1 ▸ heap_alloc_new w _
 have hl3:=lt0 hb3
 have HG:Hid (Gd B W1 c vW vO kC kS kF kN kT h d):=g.below hA1
 have HIR:Hid (∀W n,Below W1.heap.size W1 W->((n:Nat):Int)<t.len->Calls Tryz.prog 131 #[.pointer (some ⟨c,0,none⟩),.agg #[.int .i64 t.loc,.int .i64 t.tag,.int .i64 t.len,.int .i64 t.hash],.int .i64 (n:Int)] W fun r w'=>r=.returned (.bool (refI d.fields t n))/\Below W.heap.size W w'):=fun W n hW hn=>zfa W B c _ _ _ _ _ _ _ h d (HG.out.below hW) t hf n hn
 have HWD:Hid (∀W n,((n:Nat):Int)<t.len->Calls Tryz.prog 68 #[.agg #[.int .i64 t.loc,.int .i64 t.tag,.int .i64 t.len,.int .i64 t.hash],.int .i64 (n:Int)] W fun r w'=>r=.returned (.int .i64 (t.loc+3+n))/\Below W.heap.size W w'):=fun W n hn=>ze1 W t n (by unfold small;omega) (by unfold small;omega)
 have HE1:=mk0 hW1
 have HA1:=mk0 hA1
 have HB3:=mk0 hb3
 have HRN:Hid (refsOf d.fields t=refsN d.fields t t.len.toNat):=rfl
 have hfl:=hf.lo
 clear g hA1 hW1 hf
 generalize hth:t.len=tl at*
 unfold thV
 rw [hth]
 clear hth
 have h30:=cl0 hb3 2 (x:=.int .i64 tl) rfl
 clear hb3
 go_enter Tryz.func178,Tryz.ntmps178
 go_wp2_with fail
 rw [<-HE1.out]
 go_loopw [5,9] (fun v i wr=>∃n:Nat,i=.int .i64 n/\(n:Int)<=tl/\Hid (wr.ownsRow W1.heap.size 3 1 v (refsN d.fields t n).length (intV (refsN d.fields t n))/\Below W1.heap.size W1 wr)) (fun _ i _=>(tl - intOf i).toNat)
 case atStart=>exact ⟨0,rfl,by omega,World.ownsRow_nil _ _ _ _,Below.refl _ _⟩
 case round=>
  obtain ⟨n,rfl,hn,HI⟩:=hrel
  by_cases hlt:(n:Int)<tl
  ·
   have hb:=(HI.out.2.block _ hl3).trans HB3.out
   have s0:=cl0 hb 0 (x:=.int .i64 t.loc) rfl
   have s1:=cl0 hb 1 (x:=.int .i64 t.tag) rfl
   have s2:=cl0 hb 2 (x:=.int .i64 tl) rfl
   have s3:=cl0 hb 3 (x:=.int .i64 t.hash) rfl
   have ls:=lt0 hb
   clear hb
   have HIC:=mk0 (HIR.out wr n HI.out.2 hlt)
   go_wp2_with fail
   refine HIC.out.mono ?_
   rintro r w1 ⟨rfl,hb1⟩
   have hs1:=hb1.size
   have hsr:=HI.out.2.size
   have hB1:Below W1.heap.size W1 w1:=HI.out.2.trans (hb1.mono (by omega))
   have hown1:=zhj HI.out.1 hb1
   have HST:=mk0 (zhq d.fields t n)
   cases hr:refI d.fields t n with
   | false=>
     rw [hr]at HST
     have HF:Hid (w1.ownsRow W1.heap.size 3 1 u5 (refsN d.fields t (n+1)).length (intV (refsN d.fields t (n+1)))/\Below W1.heap.size W1 w1):=by
      rw [HST.out]
      simp only [Bool.false_eq_true,if_false,List.append_nil]
      exact ⟨hown1,hB1⟩
     clear hown1 hB1 hb1 HIC HI HST
     go_wp2_with fail
     go_roundw
     case rel=>exact ⟨n+1,by simp,by omega,HF.out⟩
     case measure=>simp [intOf];omega
   | true=>
     rw [hr]at HST
     have hb:=(hB1.block _ hl3).trans HB3.out
     have s0:=cl0 hb 0 (x:=.int .i64 t.loc) rfl
     have s1:=cl0 hb 1 (x:=.int .i64 t.tag) rfl
     have s2:=cl0 hb 2 (x:=.int .i64 tl) rfl
     have s3:=cl0 hb 3 (x:=.int .i64 t.hash) rfl
     have ls:=lt0 hb
     have HWC:=mk0 (HWD.out w1 n hlt)
     have HO1:=mk0 (And.intro hown1 hB1)
     clear hb hown1 hB1 hb1 HIC HI
     go_wp2_with fail
     refine HWC.out.mono ?_
     rintro r w2 ⟨rfl,hb2⟩
     have hs2:=hb2.size
     have hB2:Below W1.heap.size W1 w2:=HO1.out.2.trans (hb2.mono (by omega))
     have hown2:=zhj HO1.out.1 hb2
     have hnl:=zhr d.fields t n
     generalize hrn:refsN d.fields t n=acc at*
     obtain ⟨a5,c5,rfl⟩:=zfz hown2
     have HOW:=mk0 hown2
     have HB2:=mk0 hB2
     generalize hlx:t.loc+3+(n:Int)=lx at*
     have HBB:Hid (acc.length+1<=maxLen/\(acc.length+1)*8<=140737488355328/\W1.heap.size<=(w2.alloc (.cells #[.int .i64 lx] 3)).heap.size):=⟨by unfold maxLen;omega,by omega,by simp;omega⟩
     clear hb2 hB2 hown2 HO1 HWC
     go_wp2_with (at_builtin;refine wpList_append_lies _ rfl _ _ 22 rfl W1.heap.size 3 iI (.int .i64 0) 1 8 Tryz.underlying22 hiI hzI0 hzI1 hzI2 rfl (by decide) (.slice a5 acc.length c5) acc.length (intV acc) rfl (HOW.out.alloc _) ⟨w2.heap.size,0,none⟩ 1 1 [.int .i64 lx] rfl rfl (World.news_of_block (heap_alloc_new w2 _)) (by intro u hu;simp at hu;subst hu;rfl) (by omega) HBB.out.1 HBB.out.2.1 HBB.out.2.2 _ rfl ?_)
     intro gA cA w3 hown3 hgr3 _ hlt3
     have hrb:∀k,(Value.slice a5 acc.length c5).ownBlock=some k->W1.heap.size<=k:=fun k e=>(HOW.out.lt k e).1
     have hB3:Below W1.heap.size W1 w3:=(HB2.out.alloc (by omega) _).grown hgr3 (by simp;omega) (fun k e=>hrb k e)
     have HF:Hid (w3.ownsRow W1.heap.size 3 1 (.slice (some ⟨gA,0,none⟩) (acc.length+1) cA) (refsN d.fields t (n+1)).length (intV (refsN d.fields t (n+1)))/\Below W1.heap.size W1 w3):=by
      rw [HST.out]
      simp only [if_true,List.length_append,zhs]
      exact ⟨hown3,hB3⟩
     clear hown3 hgr3 hB3 hrb
     go_wp2_with fail
     go_roundw
     case rel=>exact ⟨n+1,by simp,by omega,HF.out⟩
     case measure=>simp [intOf];omega
  have hne:tl.toNat=n:=by omega
  have HF:Hid (Below w.heap.size w wr/\wr.ownsRow w.heap.size 3 1 u5 (refsOf d.fields t).length (intV (refsOf d.fields t))):=by
   rw [HRN.out,hne]
   exact ⟨HA1.out.trans (HI.out.2.mono (by omega)),zhp HI.out.1 (by omega)⟩
  go_wp2_with fail
  go_ret
  exact ⟨HF.out.1,_,rfl,HF.out.2⟩
def atOr (ts:List ThD) (n:Int):ThD:=(plAt ts n).getD ⟨0,0,0,0⟩
theorem zhu (w:World) (X B:Nat) (vW vO kC kS kF kN kT vA:Value) (h:HeapD) (d:LinkD) (ts:List ThD) (hc:Cht X B w vW vO kC kS kF kN kT vA h d ts) (n:Int) (hn:(Lit.int .i64 n).wf=true):
 Calls Tryz.prog 126 #[.pointer (some ⟨X+1,0,none⟩),.int .i64 n] w fun r w'=>r=.returned (.tuple #[thV (atOr ts n),.bool (plAt ts n).isSome])/\Below w.heap.size w w':=by
 have hb:Below w.heap.size w (w.alloc (.cells #[.int .i64 0,.int .i64 0,.int .i64 0,.int .i64 0] 101)):=(Below.refl _ _).alloc (Nat.le_refl _) _
 have hc1:=hc.below hb
 have hk:(w.alloc (.cells #[.int .i64 0,.int .i64 0,.int .i64 0,.int .i64 0] 101)).heap[w.heap.size]? =some (.cells #[.int .i64 0,.int .i64 0,.int .i64 0,.int .i64 0] 101 (0,0)):=heap_alloc_new w _
 have m13:=cl0 hc1.blk 13 (x:=.map (some X)) rfl
 have ml:=lt0 hc1.blk
 obtain ⟨D,hown,hD⟩:=hc1.pl
 have hkey:keyOf Tryz.prog 3 (.int .i64 n)=some (ikey n):=keyOf_int_mk Tryz.underlying3 hn
 have HAK:Hid (D.atKey (ikey n) (thDat ⟨0,0,0,0⟩)=thDat (atOr ts n)):=by
  show _=_
  unfold atOr
  cases hp:plAt ts n with
  | none=>rw [hD.no n _ hp];rfl
  | some t=>rw [hD.at_ n t _ hp];rfl
 have HHS:Hid (Maps.has D (ikey n)=(plAt ts n).isSome):=hD.has n
 have HB:=mk0 hb
 have r0:=cl0 hk 0 (x:=.int .i64 0) rfl
 have r1:=cl0 hk 1 (x:=.int .i64 0) rfl
 have r2:=cl0 hk 2 (x:=.int .i64 0) rfl
 have r3:=cl0 hk 3 (x:=.int .i64 0) rfl
 have z6:=zcf hk
 have l6:=lt0 hk
 clear hc hc1 hD hb hk hn
 generalize atOr ts n=t at*
 generalize (plAt ts n).isSome=ok at*
 have HK:=mk0 hkey
 clear hkey
 go_enter Tryz.func126,Tryz.ntmps126
 go_wp2_with (at_lookup;refine wpList_lookup_own_ok _ rfl _ _ 183 rfl 3 101 law3 Tryz.underlying183 _ (zeroTh _) (thDat ⟨0,0,0,0⟩) [] rfl X ts.length D rfl hown _ _ rfl HK.out ?_)
 intro v ps hv
 rw [HAK.out]at hv
 have hve:=zff hv
 subst hve
 rw [HHS.out]
 unfold thV
 clear hv hown
 go_wp2_with fail
 exact bodyPost_ret (v:=.tuple #[.agg #[.int .i64 t.loc,.int .i64 t.tag,.int .i64 t.len,.int .i64 t.hash],.bool ok]) (by simp [results,Tryz.results126,go_sem]) rfl ⟨rfl,((Below.refl _ _).alloc (Nat.le_refl _) _).alloc (by simp) _⟩
def leadB (ts:List ThD) (n:Int):Bool:=(plAt ts n).isSome||n==0
theorem zhv (w:World) (X B:Nat) (vW vO kC kS kF kN kT vA:Value) (h:HeapD) (d:LinkD) (ts:List ThD) (hc:Cht X B w vW vO kC kS kF kN kT vA h d ts) (n:Int) (hn:(Lit.int .i64 n).wf=true):
 Calls Tryz.prog 132 #[.pointer (some ⟨X+1,0,none⟩),.int .i64 n] w fun r w'=>r=.returned (.bool (leadB ts n))/\Below w.heap.size w w':=by
 have HC:=mk0 (zhu w X B _ _ _ _ _ _ _ _ h d ts hc n hn)
 clear hc hn
 unfold leadB
 unfold thV at HC
 generalize atOr ts n=t at*
 generalize (plAt ts n).isSome=ok at*
 go_enter Tryz.func132,Tryz.ntmps132
 go_wp2_with fail
 refine HC.out.mono ?_
 rintro r w1 ⟨rfl,hb1⟩
 have HB:=mk0 hb1
 clear hb1 HC
 cases ok with
 | true=>
   go_wp2_with fail
   go_ret
   exact ⟨by simp,HB.out.alloc HB.out.size _⟩
 | false=>
   by_cases h0:n=0
   ·
    subst h0
    go_wp2_with fail
    go_ret
    exact ⟨by simp,HB.out.alloc HB.out.size _⟩
   have h1:(n==0)=false:=beq_eq_false_iff_ne.2 h0
   go_wp2_with fail
   go_ret
   exact ⟨by simp [h0],HB.out.alloc HB.out.size _⟩
def RTh (_:Nat->Prop) (_:World) (cs:List Value) (t:ThD):Prop:=cs= [.int .i64 t.loc,.int .i64 t.tag,.int .i64 t.len,.int .i64 t.hash]
theorem SL.keptTh {M:Nat->Prop} {w w':World} {v:Value} {l:List ThD} (h:SL 4 RTh M w v l) (hk:Kp M w w'):SL 4 RTh M w' v l:=h.kept hk fun _ _ h=>h
theorem SL.atTh {M:Nat->Prop} {w:World} {ao:Option Addr} {len cap:Nat} {l:List ThD} (h:SL 4 RTh M w (.slice ao len cap) l) (k:Nat) (hk:k<l.length):
 ∃b off,ao=some ⟨b,off,none⟩/\b<w.heap.size/\w.cell? ⟨b,off+k*4,none⟩=some (.int .i64 l[k].loc)/\w.cell? ⟨b,off+k*4+1,none⟩=some (.int .i64 l[k].tag)/\w.cell? ⟨b,off+k*4+2,none⟩=some (.int .i64 l[k].len)/\w.cell? ⟨b,off+k*4+3,none⟩=some (.int .i64 l[k].hash):=by
 obtain ⟨b,off,cs,e,_,hb,_,hc,rfl⟩:=h.at k hk
 exact ⟨b,off,e,hb,by have:=hc 0 (by decide);simpa using this,by have:=hc 1 (by decide);simpa using this,by have:=hc 2 (by decide);simpa using this,by have:=hc 3 (by decide);simpa using this⟩
theorem zhw {w:World} {B:Nat} {v:Value} {ts:List ThD} (h:w.ownsRow B 101 4 v ts.length (thCells ts)) (hl:ts.length<=1000000):SL 4 RTh (MT B [101] w) w v ts:=by
 have hz:(ts.map fun t:ThD=>([Value.int .i64 t.loc,.int .i64 t.tag,.int .i64 t.len,.int .i64 t.hash],t)).length=ts.length:=by simp
 have hf:(ts.map fun t:ThD=>([Value.int .i64 t.loc,.int .i64 t.tag,.int .i64 t.len,.int .i64 t.hash],t)).flatMap (·.1)=thCells ts:=by
  rw [List.flatMap_map,thCells]
 have:=ze4 (n:=4) (R:=RTh) (T:=[101]) (zs:=ts.map fun t:ThD=>([Value.int .i64 t.loc,.int .i64 t.tag,.int .i64 t.len,.int .i64 t.hash],t)) (by rw [hz,hf];exact h) (fun z hz=>by
  obtain ⟨s,hs',rfl⟩:=List.mem_map.1 hz
  exact ⟨rfl,rfl⟩) (by simp) (by rw [hz];unfold maxLen;omega)
 rwa [List.map_map,show ((·.2)∘fun t:ThD=>([Value.int .i64 t.loc,.int .i64 t.tag,.int .i64 t.len,.int .i64 t.hash],t))=id from rfl,List.map_id]at this
theorem zhx (w:World) (B:Nat) (v:Value) (l:List Int) (hv:SL 1 RI (· <B) w v l) (hB:B<=w.heap.size) (g:Nat) (first cap:Array Value) (p:Int->Bool) (hcf:∀args w,(callFunc g args).run Tryz.prog w=.ok (.enter g args) w)
 (hc:∀x∈l,∀W,Below w.heap.size w W->Calls Tryz.prog g (first++#[.int .i64 x]++cap) W fun r W'=>r=.returned (.bool (p x))/\Below W.heap.size W W'):
 Calls Tryz.prog 221 #[v,.func (.func g) first cap] w fun r w'=>r=.returned (.int .i64 (idx p l))/\Below w.heap.size w w':=by
 have HV:=mk0 hv
 obtain ⟨ao0,cl,rfl,-,hll,-⟩:=hv
 unfold maxLen at hll
 have HC:=mk0 hc
 clear hc
 go_enter Tryz.func221,Tryz.ntmps221
 go_wp2_with fail
 go_loopw [8] (fun i wr=>∃k:Nat,k<=l.length/\i=.int .i64 k/\Hid (∀x∈l.take k,p x=false)/\Below w.heap.size w wr) (fun i _=>l.length - (intOf i).toNat)
 case atStart=>exact ⟨0,Nat.zero_le _,rfl,(fun x hx=>by cases hx),Below.refl _ _⟩
 case round=>
  obtain ⟨k,hk,rfl,HP,hBr⟩:=hrel
  by_cases hlt:k<l.length
  ·
   obtain ⟨b,off,rfl,hb,e0⟩:=(HV.out.keptI (Kp.below (hBr.mono hB))).atI k hlt
   have hcall:=HC.out l[k] (List.getElem_mem hlt) _ hBr
   have HCALL:=mk0 hcall
   clear hcall
   go_wp2_with fail
   refine HCALL.out.mono ?_
   rintro r w2 ⟨rfl,hb2⟩
   have hB2:=hBr.trans (hb2.mono hBr.size)
   clear hb2 HCALL
   cases hp:p l[k]
   ·
    have HX:=mk0 (zck hlt HP.out hp)
    clear hp
    go_wp2_with fail
    go_roundw
    case rel=>exact ⟨k+1,by omega,by go_num,HX.out,hB2⟩
    case measure=>simp [intOf];omega
   have HX:=mk0 (zch hlt HP.out hp)
   clear hp
   go_wp2_with fail
   go_ret
   exact ⟨by rw [HX.out];rfl,hB2⟩
  have HX:Hid (idx p l= -1):=zci (by have:=HP.out;rwa [List.take_of_length_le (by omega)]at this)
  go_wp2_with fail
  go_ret
  exact ⟨by rw [HX.out];rfl,hBr⟩
theorem zhy (w:World) (B:Nat) (v:Value) (l:List Int) (hv:SL 1 RI (· <B) w v l) (hB:B<=w.heap.size) (g:Nat) (first cap:Array Value) (p:Int->Bool) (hcf:∀args w,(callFunc g args).run Tryz.prog w=.ok (.enter g args) w)
 (hc:∀x∈l,∀W,Below w.heap.size w W->Calls Tryz.prog g (first++#[.int .i64 x]++cap) W fun r W'=>r=.returned (.bool (p x))/\Below W.heap.size W W'):
 Calls Tryz.prog 174 #[v,.func (.func g) first cap] w fun r w'=>r=.returned (.bool (l.any p))/\Below w.heap.size w w':=by
 have hcc:=zhx w B v l hv hB g first cap p hcf hc
 have HC:=mk0 hcc
 clear hcc hc
 have HI:=mk0 (zcj p l)
 obtain ⟨ao0,cl,rfl,-⟩:=hv
 go_enter Tryz.func174,Tryz.ntmps174
 go_wp2_with fail
 refine HC.out.mono ?_
 rintro r w1 ⟨rfl,hb⟩
 go_wp2_with fail
 go_ret
 exact ⟨by rw [<-HI.out];rfl,hb⟩
theorem zhz (w:World) (B:Nat) (v:Value) (l:List ThD) (hv:SL 4 RTh (· <B) w v l) (hB:B<=w.heap.size) (g:Nat) (first cap:Array Value) (p:ThD->Bool) (hcf:∀args w,(callFunc g args).run Tryz.prog w=.ok (.enter g args) w)
 (hc:∀x∈l,∀W,Below w.heap.size w W->Calls Tryz.prog g (first++#[.agg #[.int .i64 x.loc,.int .i64 x.tag,.int .i64 x.len,.int .i64 x.hash]]++cap) W fun r W'=>r=.returned (.bool (p x))/\Below W.heap.size W W'):
 Calls Tryz.prog 218 #[v,.func (.func g) first cap] w fun r w'=>r=.returned (.int .i64 (idx p l))/\Below w.heap.size w w':=by
 have HV:=mk0 hv
 obtain ⟨ao0,cl,rfl,-,hll,-⟩:=hv
 unfold maxLen at hll
 have HC:=mk0 hc
 clear hc
 go_enter Tryz.func218,Tryz.ntmps218
 go_wp2_with fail
 go_loopw [8] (fun i wr=>∃k:Nat,k<=l.length/\i=.int .i64 k/\Hid (∀x∈l.take k,p x=false)/\Below w.heap.size w wr) (fun i _=>l.length - (intOf i).toNat)
 case atStart=>exact ⟨0,Nat.zero_le _,rfl,(fun x hx=>by cases hx),Below.refl _ _⟩
 case round=>
  obtain ⟨k,hk,rfl,HP,hBr⟩:=hrel
  by_cases hlt:k<l.length
  ·
   obtain ⟨b,off,rfl,hb,e0,e1,e2,e3⟩:=(HV.out.keptTh (Kp.below (hBr.mono hB))).atTh k hlt
   have hcall:=HC.out l[k] (List.getElem_mem hlt) _ hBr
   have HCALL:=mk0 hcall
   clear hcall
   go_wp2_with fail
   refine HCALL.out.mono ?_
   rintro r w2 ⟨rfl,hb2⟩
   have hB2:=hBr.trans (hb2.mono hBr.size)
   clear hb2 HCALL
   cases hp:p l[k]
   ·
    have HX:=mk0 (zck hlt HP.out hp)
    clear hp
    go_wp2_with fail
    go_roundw
    case rel=>exact ⟨k+1,by omega,by go_num,HX.out,hB2⟩
    case measure=>simp [intOf];omega
   have HX:=mk0 (zch hlt HP.out hp)
   clear hp
   go_wp2_with fail
   go_ret
   exact ⟨by rw [HX.out];rfl,hB2⟩
  have HX:Hid (idx p l= -1):=zci (by have:=HP.out;rwa [List.take_of_length_le (by omega)]at this)
  go_wp2_with fail
  go_ret
  exact ⟨by rw [HX.out];rfl,hBr⟩
theorem zh0 (w:World) (B:Nat) (v:Value) (l:List ThD) (hv:SL 4 RTh (· <B) w v l) (hB:B<=w.heap.size) (g:Nat) (first cap:Array Value) (p:ThD->Bool) (hcf:∀args w,(callFunc g args).run Tryz.prog w=.ok (.enter g args) w)
 (hc:∀x∈l,∀W,Below w.heap.size w W->Calls Tryz.prog g (first++#[.agg #[.int .i64 x.loc,.int .i64 x.tag,.int .i64 x.len,.int .i64 x.hash]]++cap) W fun r W'=>r=.returned (.bool (p x))/\Below W.heap.size W W'):
 Calls Tryz.prog 168 #[v,.func (.func g) first cap] w fun r w'=>r=.returned (.bool (l.any p))/\Below w.heap.size w w':=by
 have hcc:=zhz w B v l hv hB g first cap p hcf hc
 have HC:=mk0 hcc
 clear hcc hc
 have HI:=mk0 (zcj p l)
 obtain ⟨ao0,cl,rfl,-⟩:=hv
 go_enter Tryz.func168,Tryz.ntmps168
 go_wp2_with fail
 refine HC.out.mono ?_
 rintro r w1 ⟨rfl,hb⟩
 go_wp2_with fail
 go_ret
 exact ⟨by rw [<-HI.out];rfl,hb⟩
theorem zh1 (W:World) (B c:Nat) (vW vO kC kS kF kN kT:Value) (h:HeapD) (d:LinkD) (g:Gd B W c vW vO kC kS kF kN kT h d) (P Q f:Nat) (first cap:Array Value) (hP:W.cell? ⟨P,0,none⟩=some (.func (.func f) first cap)) (hQ:W.cell? ⟨Q,0,none⟩=some (.pointer (some ⟨c,0,none⟩)))
 (loc:Nat) (hl:loc<h.words.length) (b:Bool) (hcf:∀args w,(callFunc f args).run Tryz.prog w=.ok (.enter f args) w)
 (hc:∀W',Below W.heap.size W W'->Calls Tryz.prog f (first++#[.int .i64 h.words[loc]]++cap) W' fun r W2=>r=.returned (.bool b)/\Below W'.heap.size W' W2):
 Calls Tryz.prog 219 #[.int .i64 (loc:Int),.pointer (some ⟨P,0,none⟩),.pointer (some ⟨Q,0,none⟩)] W fun r W'=>r=.returned (.bool b)/\Below W.heap.size W W':=by
 have hPl:=World.block_lt_of_cell? W _ hP
 have hQl:=World.block_lt_of_cell? W _ hQ
 have g0:=g.c0
 have gl:=g.lt
 obtain ⟨ao,ca,e,-,hmx,-⟩:=g.sW
 have HS:=mk0 g.sW
 subst e
 obtain ⟨bW,oW,rfl,hbW,eW⟩:=HS.out.atI loc hl
 unfold maxLen at hmx
 have q1:(0:Int)<=loc:=by omega
 have q2:(loc:Int)<h.words.length:=by omega
 have HC:=mk0 hc
 clear hc g HS
 generalize h.words[loc]=x at*
 generalize h.words.length=wl at*
 go_enter Tryz.func219,Tryz.ntmps219
 go_wp2_with fail
 go_region_held3 (fun W'=>∀p:Addr,p.block<W.heap.size->W'.cell? p=W.cell? p) (exact fun p hp=>Below.cell (B:=W.heap.size) (w:=W) (by repeat (first | assumption | exact Below.refl _ _ | refine Below.drew ?_)) hp) (first | (refine (HC.out _ ?_).mono ?_;(exact (Below.refl _ _).drew);rintro r w2 ⟨rfl,hb2⟩;have hb3:Below W.heap.size W w2:=(Below.refl W.heap.size W).drew.trans hb2;clear hb2))
 all_goals
  rename_i hS1
  clear hS1
  go_wp2_with fail
  go_ret
  exact ⟨rfl,hb3⟩
theorem zh2 (fs:List (List FieldD)) (t:ThD) {a:Int} (ha:a∈refsOf fs t):t.loc+3<=a/\a<t.loc+3+t.len:=by
 obtain ⟨n,hn,rfl⟩:=List.mem_map.1 ha
 have:=List.mem_range.1 (List.mem_filter.1 hn).1
 omega
def hasRefB (fs:List (List FieldD)) (ws:List Int) (t:ThD) (p:Int->Bool):Bool:=(refsOf fs t).any fun a=>p (wd ws a)
theorem zh3 (w:World) (B c:Nat) (vW vO kC kS kF kN kT:Value) (h:HeapD) (d:LinkD) (g:Gd B w c vW vO kC kS kF kN kT h d) (t:ThD) (hf:FitT d t) (hlo:0<=t.loc) (hin:t.fin<=h.words.length) (hwl:h.words.length<=100000) (f:Nat) (first cap:Array Value) (p:Int->Bool) (hcf:∀args w,(callFunc f args).run Tryz.prog w=.ok (.enter f args) w)
 (hc:∀a∈refsOf d.fields t,∀W,Below w.heap.size w W->Calls Tryz.prog f (first++#[.int .i64 (wd h.words a)]++cap) W fun r W'=>r=.returned (.bool (p (wd h.words a)))/\Below W.heap.size W W'):
 Calls Tryz.prog 172 #[.pointer (some ⟨c,0,none⟩),thV t,.func (.func f) first cap] w fun r w'=>r=.returned (.bool (hasRefB d.fields h.words t p))/\Below w.heap.size w w':=by
 have hmf:=mkf Tryz.prog
 obtain ⟨W0,hW⟩:∃W0,W0=(((w.alloc (.cells #[.pointer (some ⟨c,0,none⟩)] 193)).alloc (.cells #[.int .i64 t.loc,.int .i64 t.tag,.int .i64 t.len,.int .i64 t.hash] 101)).alloc (.cells #[.func (.func f) first cap] 79)):=⟨_,rfl⟩
 have hsz:W0.heap.size=w.heap.size+3:=by rw [hW];simp
 have hB0:Below w.heap.size w W0:=hW ▸ (((Below.refl _ _).alloc (Nat.le_refl _) _).alloc (by simp) _).alloc (by simp;omega) _
 have b5:W0.cell? ⟨w.heap.size+1+1,0,none⟩=some (.func (.func f) first cap):=by rw [hW];simp [go_sem]
 have b3:W0.cell? ⟨w.heap.size,0,none⟩=some (.pointer (some ⟨c,0,none⟩)):=by rw [hW];simp [go_sem]
 have hfin:t.fin=t.loc+3+t.len:=rfl
 have hfl:=hf.lo
 have HRC:Hid (Calls Tryz.prog 178 #[.pointer (some ⟨c,0,none⟩),.agg #[.int .i64 t.loc,.int .i64 t.tag,.int .i64 t.len,.int .i64 t.hash]] (((w.alloc (.cells #[.pointer (some ⟨c,0,none⟩)] 193)).alloc (.cells #[.int .i64 t.loc,.int .i64 t.tag,.int .i64 t.len,.int .i64 t.hash] 101)).alloc (.cells #[.func (.func f) first cap] 79)) fun r w'=>Below W0.heap.size W0 w'/\∃v,r=.returned v/\w'.ownsRow W0.heap.size 3 1 v (refsOf d.fields t).length (intV (refsOf d.fields t))):=by
  have:=zht W0 B c _ _ _ _ _ _ _ h d (g.below hB0) t hf (by omega) (by omega)
  rw [<-hW]
  exact this
 have HLN:Hid ((refsOf d.fields t).length<=100000):=by
  show (refsN d.fields t t.len.toNat).length<=_
  have:=zhr d.fields t t.len.toNat
  omega
 have HCC:Hid (∀W,Below W0.heap.size W0 W->∀v,W.ownsRow W0.heap.size 3 1 v (refsOf d.fields t).length (intV (refsOf d.fields t))->Calls Tryz.prog 174 #[v,.func (.func 219) #[] #[.pointer (some ⟨w.heap.size+1+1,0,none⟩),.pointer (some ⟨w.heap.size,0,none⟩)]] W fun r w'=>r=.returned (.bool (hasRefB d.fields h.words t p))/\Below W.heap.size W w'):=by
  intro W hW1 v hv
  have hsl:=zfb hv (Nat.le_trans HLN.out (by omega))
  have hv2:SL 1 RI (· <W.heap.size) W v (refsOf d.fields t):=hsl.monoI fun b hb=>by
   obtain ⟨_,cur,_,_,hb,_⟩:=hb
   exact lt0 hb
  refine zhy W W.heap.size v _ hv2 (Nat.le_refl _) 219 #[] _ (fun a=>p (wd h.words a)) (fun args w=>by kernel_rfl) ?_
  intro a ha W2 hW2
  have hr:=zh2 _ _ ha
  obtain ⟨an,rfl⟩:=Int.eq_ofNat_of_zero_le (show 0<=a by omega)
  have hal:an<h.words.length:=by omega
  have hBW:Below W0.heap.size W0 W2:=hW1.trans (hW2.mono hW1.size)
  have hBw:Below w.heap.size w W2:=hB0.trans (hBW.mono hB0.size)
  refine zh1 W2 B c _ _ _ _ _ _ _ h d (g.below hBw) _ _ f first cap ((hBW.cell (p:=⟨w.heap.size+1+1,0,none⟩) (by show w.heap.size+1+1<_;omega)).trans b5) ((hBW.cell (p:=⟨w.heap.size,0,none⟩) (by show w.heap.size<_;omega)).trans b3) an hal (p (wd h.words an)) hcf ?_
  intro W3 hW3
  have:=hc _ ha W3 (hBw.trans (hW3.mono hBw.size))
  rw [zen hal]at this ⊢
  exact this
 have HB0:=mk0 hB0
 have HW:=mk0 hW
 clear hW hB0 hc hcf g hf b5 b3
 unfold thV
 go_enter Tryz.func172,Tryz.ntmps172
 go_wp2_with fail
 refine HRC.out.mono ?_
 rintro r w1 ⟨hb1,v,rfl,hv⟩
 have HC2:=mk0 (HCC.out w1 hb1 v hv)
 have HB1:Hid (Below w.heap.size w w1):=HB0.out.trans (hb1.mono HB0.out.size)
 have hs1:=hb1.size
 clear hb1 hv HCC HRC
 go_wp2_with fail
 refine HC2.out.mono ?_
 rintro r w2 ⟨rfl,hb2⟩
 have HB2:Hid (Below w.heap.size w w2):=HB1.out.trans (hb2.mono HB1.out.size)
 clear hb2 HC2
 go_wp2_with fail
 go_ret
 exact ⟨rfl,HB2.out⟩
end Go.Proofs.YtjdnmblggdobgaaGreat
