import Derived.Test.YtjdnmblggdobgaaGreatJTk2Dies
import Derived.Test.YtjdnmblggdobgaaGreatHqA
import Derived.Test.YtjdnmblggdobgaaGreatJLLkLBas
import Derived.Test.YtjdnmblggdobgaaGreatJHrAHrC
set_option maxHeartbeats 1000000
set_option maxRecDepth 100000
namespace Go.Proofs.YtjdnmblggdobgaaGreat
open Go.RowKit Go.Maps
def qCells (first:Array Value) (qs:List QD):List Value:=qs.flatMap fun q=>[.func (.func q.g) first #[],.int .i64 q.e]
theorem qsSL (w:World) (t:Nat) (first:Array Value) (qs:List QD) (hl:qs.length<=1000):SL 2 (RQ first) (· <w.heap.size+1) (w.alloc (.cells (qCells first qs).toArray t)) (.slice (some ⟨w.heap.size,0,none⟩) qs.length qs.length) qs:=by
 refine ⟨_,qs.length,rfl,Nat.le_refl _,by unfold maxLen;omega,fun k hk=>?_⟩
 refine ⟨w.heap.size,0,[.func (.func qs[k].g) first #[],.int .i64 qs[k].e],rfl,Nat.lt_succ_self _,by simp,rfl,fun j hj=>?_,rfl⟩
 have hg:=ze3 (n:=2) (fun q:QD=>[Value.func (.func q.g) first #[],.int .i64 q.e]) qs k j (fun _ _=>rfl) hk hj
 obtain ⟨x,hx⟩:∃x,[Value.func (.func qs[k].g) first #[],.int .i64 qs[k].e][j]? =some x:=by
  match j,hj with
  | 0,_=>exact ⟨_,rfl⟩
  | 1,_=>exact ⟨_,rfl⟩
 rw [hx]at hg ⊢
 rw [Nat.zero_add]
 exact cl0 (heap_alloc_new w _) _ (by simpa [qCells]using hg)
def sizesQ (h:HeapD):List QD:=[⟨106,3,partsB h⟩,⟨107,1,wordsB h⟩,⟨108,3,topsB h⟩]
def wholeQ (d:LinkD) (h:HeapD) (ts:List ThD):List QD:=[⟨110,3,!ts.any (badHash h)⟩,⟨111,6,decide ((ts.map ThD.hash).Nodup)⟩,⟨112,5,!ts.any fun x=>hasRefB d.fields h.words x fun n=>!leadB ts n⟩,⟨113,1,!(restL h).any (· != 0)⟩,⟨114,4,riseB h.noted⟩,⟨115,4,!h.noted.any (badNote d h ts)⟩,⟨116,4,!ts.any (unnoted d h)⟩]
theorem zlv (h:HeapD):askRes (sizesQ h)=if partsB h then (if wordsB h then (if topsB h then 0 else 3) else 1) else 3:=by
 unfold sizesQ
 simp only [askRes]
theorem zlw (d:LinkD) (h:HeapD) (ts:List ThD):askRes (wholeQ d h ts)=thingsErr d h ts:=by
 unfold wholeQ thingsErr
 simp only [askRes]
 cases ts.any (badHash h)<;>cases decide ((ts.map ThD.hash).Nodup)<;>cases (ts.any fun x=>hasRefB d.fields h.words x fun n=>!leadB ts n)<;>cases (restL h).any (· != 0)<;>cases riseB h.noted<;>cases h.noted.any (badNote d h ts)<;>cases ts.any (unnoted d h)<;>rfl
theorem zlx (h:HeapD):∀q∈sizesQ h,∀args w,(callFunc q.g args).run Tryz.prog w=.ok (.enter q.g args) w:=by
 intro q hq args w
 simp [sizesQ]at hq
 rcases hq with rfl | rfl | rfl<;>kernel_rfl
theorem zly (h:HeapD):∀q∈sizesQ h,q.e≠0:=by
 intro q hq
 simp [sizesQ]at hq
 rcases hq with rfl | rfl | rfl<;>simp
theorem zlz (d:LinkD) (h:HeapD) (ts:List ThD):∀q∈wholeQ d h ts,∀args w,(callFunc q.g args).run Tryz.prog w=.ok (.enter q.g args) w:=by
 intro q hq args w
 simp only [wholeQ,List.mem_cons,List.not_mem_nil,or_false]at hq
 rcases hq with rfl | rfl | rfl | rfl | rfl | rfl | rfl<;>kernel_rfl
theorem zl0 (d:LinkD) (h:HeapD) (ts:List ThD):∀q∈wholeQ d h ts,q.e≠0:=by
 intro q hq
 simp only [wholeQ,List.mem_cons,List.not_mem_nil,or_false]at hq
 rcases hq with rfl | rfl | rfl | rfl | rfl | rfl | rfl<;>simp
theorem zl1 (w:World) (aW:Option Addr) (cW:Nat) (vO:Value) (h:HeapD) (k:Nat) (hk:k<(sizesQ h).length) (hall:∀(j:Nat) (hj:j<(sizesQ h).length),j<k->(sizesQ h)[j].ans=true):
 Calls Tryz.prog (sizesQ h)[k].g #[.agg #[.slice aW h.words.length cW,.int .i64 h.young,.int .i64 h.old,.int .i64 h.ytop,.int .i64 h.otop,vO,.int .i64 h.next]] w fun r w'=>r=.returned (.bool (sizesQ h)[k].ans)/\Below w.heap.size w w':=by
 have hb:0<k->(3<=h.young/\h.young<=2000)/\(3<=h.old/\h.old<=2000):=fun h0=>by
  have:=hall 0 (by simp [sizesQ]) h0
  simp only [sizesQ,List.getElem_cons_zero,partsB,partB,Bool.and_eq_true,decide_eq_true_eq]at this
  exact ⟨⟨by omega,by omega⟩,⟨by omega,by omega⟩⟩
 match k,hk with
 | 0,_=>exact zib w _ vO h
 | 1,_=>exact zic w aW cW vO h (hb (by omega)).1 (hb (by omega)).2
 | 2,_=>exact zid w _ vO h (hb (by omega)).1 (hb (by omega)).2
theorem zl2 (w:World) (X B:Nat) (vW vO kC kS kF kN kT vA:Value) (h:HeapD) (d:LinkD) (ts:List ThD) (hc:Cht X B w vW vO kC kS kF kN kT vA h d ts) (hz:Sized d h) (hl:Lain d h ts) (hwh:∀t∈ts,(Lit.int .i64 t.hash).wf=true) (hwn:∀x∈h.noted,(Lit.int .i64 x).wf=true) (k:Nat) (hk:k<(wholeQ d h ts).length) (hall:∀(j:Nat) (hj:j<(wholeQ d h ts).length),j<k->(wholeQ d h ts)[j].ans=true):
 Calls Tryz.prog (wholeQ d h ts)[k].g #[.agg #[.pointer (some ⟨X+1,0,none⟩)]] w fun r w'=>r=.returned (.bool (wholeQ d h ts)[k].ans)/\Below w.heap.size w w':=by
 match k,hk with
 | 0,_=>exact zh5 w X B _ _ _ _ _ _ _ vA h d ts hc hl.len
 | 1,_=>exact zik w X B _ _ _ _ _ _ _ vA h d ts hc hl.len hwh
 | 2,_=>exact zh8 w X B _ _ _ _ _ _ _ vA h d ts hc hl
 | 3,_=>exact zix w X B _ _ _ _ _ _ _ vA h d ts hc hz
 | 4,_=>
   refine (zia w X B _ _ _ _ _ _ _ vA h d ts hc).mono ?_
   rintro r w' ⟨⟨b,rfl,hb⟩,hw⟩
   refine ⟨?_,hw⟩
   have:b=riseB h.noted:=by rw [Bool.eq_iff_iff,hb,zki]
   rw [this]
   rfl
 | 5,_=>exact zig w X B _ _ _ _ _ _ _ vA h d ts hc hl hwn
 | 6,_=>
   have h4:riseB h.noted=true:=hall 4 (by simp [wholeQ]) (by omega)
   have h5:(!h.noted.any (badNote d h ts))=true:=hall 5 (by simp [wholeQ]) (by omega)
   exact zio w X B _ _ _ _ _ _ _ vA h d ts hc hl (zkr hl h4 (by simpa using h5)) ((zki _).1 h4)
theorem zl3 {h:HeapD} (hc:askRes (sizesQ h)=0):partsB h=true/\wordsB h=true/\topsB h=true:=by
 rw [zlv]at hc
 cases h1:partsB h<;>cases h2:wordsB h<;>cases h3:topsB h<;>simp_all
theorem zl4 {d:LinkD} {h:HeapD} (hc:askRes (sizesQ h)≠0):heapRes d h=askRes (sizesQ h):=by
 rw [zlv]at hc ⊢
 unfold heapRes
 cases h1:partsB h<;>cases h2:wordsB h<;>cases h3:topsB h<;>simp_all
theorem Cht.grown {X B b:Nat} {w w':World} {vW vO kC kS kF kN kT vA:Value} {h:HeapD} {d:LinkD} {ts:List ThD} (c:Cht X B w vW vO kC kS kF kN kT vA h d ts) (hg:w.grownBy w' (some b)) (h1:B<=b) (h2:b<X):Cht X B w' vW vO kC kS kF kN kT vA h d ts:=
 have hk:Kp (· <B) w w':=⟨hg.size,fun k hk hl=>hg.block k hl (by intro e;injection e;omega)⟩
 ⟨c.le,(hg.block (X+1) (lt0 c.blk) (by intro e;injection e;omega)).trans c.blk,c.sW.keptI hk,c.sO.keptI hk,c.lk.kept hk,c.row.kept hg (Or.inr fun e=>by have:=(c.row.lt b e).1;omega),c.pl.kept hg (by intro e;injection e;omega)⟩
def HeapOut (w:World) (B:Nat) (vW vO kC kS kF kN kT:Value) (h:HeapD) (d:LinkD) (r:Ending) (w':World):Prop:=
 (heapErr d h=0/\∃X vA ts,r=.returned (.agg #[.pointer (some ⟨X+1,0,none⟩)])/\bothT d h=some ts/\w.heap.size<=X/\Cht X B w' vW vO kC kS kF kN kT vA h d ts)\/(heapErr d h≠0/\r=.panicked [wrongV (heapErr d h) 0])
theorem zl5 (w:World) (B:Nat) (vW vO kC kS kF kN kT:Value) (h:HeapD) (d:LinkD) (sW:SL 1 RI (· <B) w vW h.words) (sO:SL 1 RI (· <B) w vO h.noted) (lk:RLk (· <B) w kC kS kF kN kT d) (hB:B<=w.heap.size)
 (hww:∀x∈h.words,(Lit.int .i64 x).wf=true) (hwn:∀x∈h.noted,(Lit.int .i64 x).wf=true):
 Calls Tryz.prog 53 #[.agg #[vW,.int .i64 h.young,.int .i64 h.old,.int .i64 h.ytop,.int .i64 h.otop,vO,.int .i64 h.next],.agg #[kC,kS,kF,kN,kT]] w fun r w'=>Below w.heap.size w w'/\HeapOut w B vW vO kC kS kF kN kT h d r w':=by
 have hmf:=mkf Tryz.prog
 obtain ⟨W0,hW0⟩:∃W0,W0=(((w.alloc (.cells #[vW,.int .i64 h.young,.int .i64 h.old,.int .i64 h.ytop,.int .i64 h.otop,vO,.int .i64 h.next] 24)).alloc (.cells #[kC,kS,kF,kN,kT] 36)).alloc (.cells #[.pointer none] 88)):=⟨_,rfl⟩
 have hB0:Below w.heap.size w W0:=hW0 ▸ (((Below.refl _ _).alloc (Nat.le_refl _) _).alloc (by simp) _).alloc (by simp;omega) _
 have hs0:W0.heap.size=w.heap.size+3:=by rw [hW0];simp
 have hr0:Rd w.heap.size B W0 vW vO kC kS kF kN kT h d:=hW0 ▸ (Rd.new w B _ _ _ _ _ _ _ h d hB sW sO lk).below ((Below.refl _ _).alloc (Nat.le_refl _) _)
 have hb2:W0.heap[w.heap.size+2]? =some (.cells #[.pointer none] 88 (0,0)):=by
  have:=heap_alloc_new ((w.alloc (.cells #[vW,.int .i64 h.young,.int .i64 h.old,.int .i64 h.ytop,.int .i64 h.otop,vO,.int .i64 h.next] 24)).alloc (.cells #[kC,kS,kF,kN,kT] 36)) (.cells #[.pointer none] 88)
  rw [<-hW0]at this
  simpa using this
 have HLC:=mk0 (zlu W0 B kC kS kF kN kT d hr0.lk (by omega))
 have HR0:=mk0 hr0
 have HB0:=mk0 hB0
 have HB2:=mk0 hb2
 have HW0:=mk0 hW0
 have HWF:=mk0 (And.intro hww hwn)
 have HS0:=mk0 hs0
 obtain ⟨aC,cC,aS,cS,aF,cF,aN,cN,aT,cT,rfl,rfl,rfl,rfl,rfl⟩:=lk.agg
 obtain ⟨aW,cW,rfl,-⟩:=sW
 obtain ⟨aO,cO,rfl,-⟩:=sO
 clear hb2 hB0 hr0 hW0 lk hww hwn hs0
 rw [HW0.out]at HLC
 cases hok:okLk d with
 | false=>
   have hc4:chkRes d []=4:=by unfold chkRes;rw [hok];rfl
   have HR:Hid (heapErr d h=4):=by show heapErr d h=4;unfold heapErr;rw [hok];rfl
   rw [hc4]at HLC
   go_enter Tryz.func53,Tryz.ntmps53
   go_wp2_with fail
   refine HLC.out.mono ?_
   rintro r w1 ⟨rfl,hb1⟩
   go_wp2_with fail
   refine (dm0 _ _ _).mono ?_
   rintro r w3 ⟨rfl,⟨hb,rfl⟩ | ⟨hb,rfl⟩⟩
   ·
    rw [<-HW0.out]at hb1
    exact ⟨rfl,HB0.out.trans (hb1.mono HB0.out.size),Or.inr ⟨by rw [HR.out];decide,by rw [HR.out]⟩⟩
   exact absurd hb (by simp)
 | true=>
   have hc4:chkRes d []=0:=by unfold chkRes;rw [hok];rfl
   have HE:Hid (heapErr d h=heapRes d h):=by show heapErr d h=_;unfold heapErr;rw [hok];rfl
   have HFW:=mk0 (zkh hok)
   rw [hc4]at HLC
   go_enter Tryz.func53,Tryz.ntmps53
   go_wp2_with fail
   refine HLC.out.mono ?_
   rintro r w1 ⟨rfl,hb1⟩
   rw [<-HW0.out]at hb1
   have HB1:=mk0 hb1
   have hr1:=HR0.out.below hb1
   have hs1:=hb1.size
   have l0:=lt0 hr1.b0
   have x0:=cl0 hr1.b0 0 (x:=.slice aW h.words.length cW) rfl
   have x1:=cl0 hr1.b0 1 (x:=.int .i64 h.young) rfl
   have x2:=cl0 hr1.b0 2 (x:=.int .i64 h.old) rfl
   have x3:=cl0 hr1.b0 3 (x:=.int .i64 h.ytop) rfl
   have x4:=cl0 hr1.b0 4 (x:=.int .i64 h.otop) rfl
   have x5:=cl0 hr1.b0 5 (x:=.slice aO h.noted.length cO) rfl
   have x6:=cl0 hr1.b0 6 (x:=.int .i64 h.next) rfl
   have HR1:=mk0 hr1
   obtain ⟨W2,hW2⟩:∃W2,W2=w1.alloc (.cells #[.slice aW h.words.length cW,.int .i64 h.young,.int .i64 h.old,.int .i64 h.ytop,.int .i64 h.otop,.slice aO h.noted.length cO,.int .i64 h.next] 167):=⟨_,rfl⟩
   have hA2:Below w1.heap.size w1 W2:=hW2 ▸ (Below.refl _ _).alloc (Nat.le_refl _) _
   have HW2:=mk0 hW2
   have HA2:=mk0 hA2
   have hsz2:W2.heap.size=w1.heap.size+1:=by rw [hW2];simp
   have HQ:Hid (SL 2 (RQ #[.agg #[.slice aW h.words.length cW,.int .i64 h.young,.int .i64 h.old,.int .i64 h.ytop,.int .i64 h.otop,.slice aO h.noted.length cO,.int .i64 h.next]]) (· <w1.heap.size+1+1) (W2.alloc (.cells #[.func (.func 106) #[.agg #[.slice aW h.words.length cW,.int .i64 h.young,.int .i64 h.old,.int .i64 h.ytop,.int .i64 h.otop,.slice aO h.noted.length cO,.int .i64 h.next]] #[],.int .i64 3,.func (.func 107) #[.agg #[.slice aW h.words.length cW,.int .i64 h.young,.int .i64 h.old,.int .i64 h.ytop,.int .i64 h.otop,.slice aO h.noted.length cO,.int .i64 h.next]] #[],.int .i64 1,.func (.func 108) #[.agg #[.slice aW h.words.length cW,.int .i64 h.young,.int .i64 h.old,.int .i64 h.ytop,.int .i64 h.otop,.slice aO h.noted.length cO,.int .i64 h.next]] #[],.int .i64 3] 170)) (.slice (some ⟨w1.heap.size+1,0,none⟩) 3 3) (sizesQ h)):=by
    rw [<-hsz2]
    exact qsSL W2 170 #[.agg #[.slice aW h.words.length cW,.int .i64 h.young,.int .i64 h.old,.int .i64 h.ytop,.int .i64 h.otop,.slice aO h.noted.length cO,.int .i64 h.next]] (sizesQ h) (by simp [sizesQ])
   have HA3:=mk0 (fun o=>(Below.refl W2.heap.size W2).alloc (Nat.le_refl _) o)
   clear hr1 hb1 hA2 HLC hsz2
   go_wp2_with fail
   refine (dm0 _ _ _).mono ?_
   rintro r w3 ⟨rfl,⟨hb,rfl⟩ | ⟨hb,rfl⟩⟩
   ·
    exact absurd hb (by simp)
   clear hb
   go_wp2_with fail
   rw [<-HW2.out]
   refine (zje _ (w3.heap.size+1+1) _ _ (sizesQ h) HQ.out (by rw [HW2.out];simp) (zlx h) (zly h) ?_).mono ?_
   ·
    intro k hk hall V hV
    exact zl1 V aW cW _ h k hk hall
   have HB4:Hid (∀(V:World) (o:Obj),Below (W2.alloc o).heap.size (W2.alloc o) V->Below w3.heap.size w3 V):=fun V o hV=>HA2.out.trans (((HA3.out o).trans (hV.mono (HA3.out o).size)).mono HA2.out.size)
   rintro r w4 ⟨⟨hc,rfl⟩ | ⟨hc,rfl⟩,hb4⟩
   ·
    have hb5:=HB4.out _ _ hb4
    have hRR:=zl4 (d:=d) hc
    exact ⟨rfl,HB0.out.trans ((HB1.out.trans (hb5.mono HB1.out.size)).mono HB0.out.size),Or.inr ⟨by rw [HE.out,hRR];exact hc,by rw [HE.out,hRR]⟩⟩
   have hb5:=HB4.out _ _ hb4
   obtain ⟨hp1,hp2,hp3⟩:=zl3 hc
   have HZ:=mk0 (zkj HFW.out hp1 hp2 hp3)
   have HHR:Hid (heapErr d h=match bothT d h with | none=>1 | some ts=>thingsErr d h ts):=by
    show heapErr d h=_
    rw [HE.out]
    unfold heapRes
    rw [hp1,hp2,hp3]
    rfl
   have hr4:=HR1.out.below hb5
   have HR4:=mk0 hr4
   have HB14:Hid (Below W0.heap.size W0 w4):=HB1.out.trans (hb5.mono HB1.out.size)
   have HFD:=mk0 (zho w4 B _ _ _ _ _ _ _ h d (by have:=hr4.le;have:=lt0 hr4.b0;omega) hr4.sW hr4.sO hr4.lk HZ.out)
   have l0':=lt0 hr4.b0
   have x0':=cl0 hr4.b0 0 (x:=.slice aW h.words.length cW) rfl
   have x1':=cl0 hr4.b0 1 (x:=.int .i64 h.young) rfl
   have x2':=cl0 hr4.b0 2 (x:=.int .i64 h.old) rfl
   have x3':=cl0 hr4.b0 3 (x:=.int .i64 h.ytop) rfl
   have x4':=cl0 hr4.b0 4 (x:=.int .i64 h.otop) rfl
   have x5':=cl0 hr4.b0 5 (x:=.slice aO h.noted.length cO) rfl
   have x6':=cl0 hr4.b0 6 (x:=.int .i64 h.next) rfl
   have l1':=lt0 hr4.b1
   have y0':=cl0 hr4.b1 0 (x:=.slice aC d.classes.length cC) rfl
   have y1':=cl0 hr4.b1 1 (x:=.slice aS d.supers.length cS) rfl
   have y2':=cl0 hr4.b1 2 (x:=.slice aF d.fields.length cF) rfl
   have y3':=cl0 hr4.b1 3 (x:=.slice aN d.names.length cN) rfl
   have y4':=cl0 hr4.b1 4 (x:=.slice aT d.targets.length cT) rfl
   clear hr4 hb4 hb5 hc hp1 hp2 hp3 HQ HA3 HA2 HB4 HW2 hW2 x0 x1 x2 x3 x4 x5 x6 l0 hs1
   go_wp2_with fail
   refine HFD.out.mono ?_
   rintro r w5 ⟨hb5,ho5⟩
   have HB15:Hid (Below W0.heap.size W0 w5):=HB14.out.trans (hb5.mono HB14.out.size)
   have HBW5:Hid (Below w.heap.size w w5):=HB0.out.trans (HB15.out.mono HB0.out.size)
   have hs5:=hb5.size
   clear hb5 x0' x1' x2' x3' x4' x5' x6' y0' y1' y2' y3' y4' l0' l1' HFD
   rcases ho5 with ⟨ts,vA,hts,rfl,hcht⟩ | ⟨hno,rfl⟩
   ·
    have HHT:Hid (heapErr d h=askRes (wholeQ d h ts)):=by show heapErr d h=_;rw [HHR.out,hts,zlw]
    have HL:=mk0 (zkp HFW.out HZ.out HWF.out.1 hts)
    have HTS:=mk0 hts
    have HCH:=mk0 hcht
    have HWH:Hid (∀t∈ts,(Lit.int .i64 t.hash).wf=true):=fun t ht=>by
     obtain ⟨ys,os,e1,e2,rfl⟩:=zkn hts
     have e:t=thAt h.words t.loc:=by
      rcases List.mem_append.1 ht with ht | ht
      ·
       exact (zkm e1 t ht).2.2.1
      exact (zkm e2 t ht).2.2.1
     rw [e]
     exact HL.out.wdf _
    obtain ⟨X,hX⟩:∃X,X=w4.heap.size+1+1:=⟨_,rfl⟩
    have hXs:w.heap.size+3<=X:=by have:=HB14.out.size;have:=HS0.out;omega
    rw [<-hX]at HCH ⊢
    clear hcht hts hX
    obtain ⟨W6,hW6⟩:∃W6,W6=w5.alloc (.cells #[.pointer (some ⟨X+1,0,none⟩)] 88):=⟨_,rfl⟩
    have HA6:Hid (Below w5.heap.size w5 W6):=hW6 ▸ (Below.refl _ _).alloc (Nat.le_refl _) _
    have HW6:=mk0 hW6
    have h60:W6.heap[w5.heap.size]? =some (.cells #[.pointer (some ⟨X+1,0,none⟩)] 88 (0,0)):=hW6 ▸ heap_alloc_new w5 _
    have hsz6:W6.heap.size=w5.heap.size+1:=by rw [hW6];simp
    have HQ2:Hid (SL 2 (RQ #[.agg #[.pointer (some ⟨X+1,0,none⟩)]]) (· <w5.heap.size+1+1) (W6.alloc (.cells #[.func (.func 110) #[.agg #[.pointer (some ⟨X+1,0,none⟩)]] #[],.int .i64 3,.func (.func 111) #[.agg #[.pointer (some ⟨X+1,0,none⟩)]] #[],.int .i64 6,.func (.func 112) #[.agg #[.pointer (some ⟨X+1,0,none⟩)]] #[],.int .i64 5,.func (.func 113) #[.agg #[.pointer (some ⟨X+1,0,none⟩)]] #[],.int .i64 1,.func (.func 114) #[.agg #[.pointer (some ⟨X+1,0,none⟩)]] #[],.int .i64 4,.func (.func 115) #[.agg #[.pointer (some ⟨X+1,0,none⟩)]] #[],.int .i64 4,.func (.func 116) #[.agg #[.pointer (some ⟨X+1,0,none⟩)]] #[],.int .i64 4] 170)) (.slice (some ⟨w5.heap.size+1,0,none⟩) 7 7) (wholeQ d h ts)):=by
     rw [<-hsz6]
     exact qsSL W6 170 #[.agg #[.pointer (some ⟨X+1,0,none⟩)]] (wholeQ d h ts) (by simp [wholeQ])
    have HA7:=mk0 (fun o=>(Below.refl W6.heap.size W6).alloc (Nat.le_refl _) o)
    have H60:=mk0 h60
    have HB8:Hid (∀(V:World) (o:Obj),Below (W6.alloc o).heap.size (W6.alloc o) V->Below w5.heap.size w5 V/\V.heap[w5.heap.size]? =some (.cells #[.pointer (some ⟨X+1,0,none⟩)] 88 (0,0))):=fun V o hV=>by
     have h67:Below W6.heap.size W6 V:=(HA7.out o).trans (hV.mono (HA7.out o).size)
     exact ⟨HA6.out.trans (h67.mono HA6.out.size),(h67.block _ (lt0 H60.out)).trans H60.out⟩
    clear hW6 h60 hsz6
    go_wp2_with fail
    refine (dm0 _ _ _).mono ?_
    rintro r w7 ⟨rfl,⟨hb,rfl⟩ | ⟨hb,rfl⟩⟩
    ·
     exact absurd hb (by simp)
    clear hb
    go_wp2_with fail
    rw [<-HW6.out]
    refine (zje _ (w7.heap.size+1+1) _ _ (wholeQ d h ts) HQ2.out (by rw [HW6.out];simp) (zlz d h ts) (zl0 d h ts) ?_).mono ?_
    ·
     intro k hk hall V hV
     exact zl2 V X B _ _ _ _ _ _ _ vA h d ts (HCH.out.below (HB8.out _ _ hV).1) HZ.out HL.out HWH.out HWF.out.2 k hk hall
    rintro r w8 ⟨⟨hc,rfl⟩ | ⟨hc,rfl⟩,hb8⟩
    ·
     have hb9:=(HB8.out _ _ hb8).1
     exact ⟨rfl,HBW5.out.trans (hb9.mono HBW5.out.size),Or.inr ⟨by rw [HHT.out];exact hc,by rw [HHT.out]⟩⟩
    obtain ⟨hb9,h80⟩:=HB8.out _ _ hb8
    have hB8:Below w.heap.size w w8:=HBW5.out.trans (hb9.mono HBW5.out.size)
    have hb2:w8.heap[w.heap.size+2]? =some (.cells #[.pointer none] 88 (0,0)):=((HB15.out.trans (hb9.mono HB15.out.size)).block (w.heap.size+2) (lt0 HB2.out)).trans HB2.out
    have c80:=cl0 h80 0 (x:=.pointer (some ⟨X+1,0,none⟩)) rfl
    have l80:=lt0 h80
    have c82:=cl0 hb2 0 (x:=.pointer none) rfl
    have z82:=zcf hb2 0
    have l82:=lt0 hb2
    have HC8:=mk0 (HCH.out.below hb9)
    have HERR:Hid (heapErr d h=0):=HHT.out.trans hc
    have hg:=za8 (World.grownBy.refl w8 (some (w.heap.size+2))) ⟨w.heap.size+2,0,none⟩ (.pointer (some ⟨X+1,0,none⟩)) (Or.inl rfl)
    have HC9:=mk0 (HC8.out.grown hg (by have:=HR0.out.le;omega) (by omega))
    have HB9:=mk0 (bg0 hB8 hg (by omega))
    have HS9:=mk0 (World.cell?_setCell_same w8 ⟨w.heap.size+2,0,none⟩ (.pointer (some ⟨X+1,0,none⟩)) c82)
    clear hb8 hb9 h80 hB8 hb2 hc hg HQ2 HA7 HB8
    go_wp2_with fail
    exact bodyPost_ret (v:=.agg #[.pointer (some ⟨X+1,0,none⟩)]) (by simp [results,Tryz.results53,go_sem,HS9.out]) rfl ⟨HB9.out,Or.inl ⟨HERR.out,X,vA,ts,rfl,HTS.out,by omega,HC9.out⟩⟩
   have HR:Hid (heapErr d h=1):=by show heapErr d h=1;rw [HHR.out,hno]
   clear hno
   go_wp2_with fail
   refine (dm0 _ _ _).mono ?_
   rintro r w7 ⟨rfl,⟨hb,rfl⟩ | ⟨hb,rfl⟩⟩
   ·
    exact ⟨rfl,HBW5.out,Or.inr ⟨by rw [HR.out];decide,by rw [HR.out]⟩⟩
   exact absurd hb (by simp)
structure Hd (B:Nat) (w:World) (vW vO kC kS kF kN kT:Value) (h:HeapD) (d:LinkD):Prop where
 sW:SL 1 RI (· <B) w vW h.words
 sO:SL 1 RI (· <B) w vO h.noted
 lk:RLk (· <B) w kC kS kF kN kT d
 le:B<=w.heap.size
 ww:∀x∈h.words,(Lit.int .i64 x).wf=true
 wn:∀x∈h.noted,(Lit.int .i64 x).wf=true
theorem Hd.below {B:Nat} {w w':World} {vW vO kC kS kF kN kT:Value} {h:HeapD} {d:LinkD} (g:Hd B w vW vO kC kS kF kN kT h d) (hb:Below B w w'):Hd B w' vW vO kC kS kF kN kT h d:=
 have hk:=Kp.below hb
 ⟨g.sW.keptI hk,g.sO.keptI hk,g.lk.kept hk,Nat.le_trans g.le hb.size,g.ww,g.wn⟩
theorem Hd.agg {B:Nat} {w:World} {vW vO kC kS kF kN kT:Value} {h:HeapD} {d:LinkD} (g:Hd B w vW vO kC kS kF kN kT h d):∃aW cW aO cO aC cC aS cS aF cF aN cN aT cT,vW=.slice aW h.words.length cW/\vO=.slice aO h.noted.length cO/\kC=.slice aC d.classes.length cC/\kS=.slice aS d.supers.length cS/\kF=.slice aF d.fields.length cF/\kN=.slice aN d.names.length cN/\kT=.slice aT d.targets.length cT:=by
 obtain ⟨aC,cC,aS,cS,aF,cF,aN,cN,aT,cT,e1,e2,e3,e4,e5⟩:=g.lk.agg
 obtain ⟨aW,cW,e6,-⟩:=g.sW
 obtain ⟨aO,cO,e7,-⟩:=g.sO
 exact ⟨_,_,_,_,_,_,_,_,_,_,_,_,_,_,e6,e7,e1,e2,e3,e4,e5⟩
theorem zl6 {B:Nat} {w:World} {vW vO kC kS kF kN kT:Value} {h:HeapD} {d:LinkD} (g:Hd B w vW vO kC kS kF kN kT h d):
 Calls Tryz.prog 53 #[.agg #[vW,.int .i64 h.young,.int .i64 h.old,.int .i64 h.ytop,.int .i64 h.otop,vO,.int .i64 h.next],.agg #[kC,kS,kF,kN,kT]] w fun r w'=>Below w.heap.size w w'/\HeapOut w B vW vO kC kS kF kN kT h d r w':=zl5 w B _ _ _ _ _ _ _ h d g.sW g.sO g.lk g.le g.ww g.wn
theorem zl7 (w:World) (B P Q:Nat) (vW vO kC kS kF kN kT:Value) (h:HeapD) (d:LinkD) (g:Hd B w vW vO kC kS kF kN kT h d) (hP:w.heap[P]? =some (.cells #[vW,.int .i64 h.young,.int .i64 h.old,.int .i64 h.ytop,.int .i64 h.otop,vO,.int .i64 h.next] 24 (0,0))) (hQ:w.heap[Q]? =some (.cells #[kC,kS,kF,kN,kT] 36 (0,0))):
 Calls Tryz.prog 52 #[.pointer (some ⟨P,0,none⟩),.pointer (some ⟨Q,0,none⟩)] w fun r w'=>ChkOut (heapErr d h) r/\Below w.heap.size w w':=by
 have HCK:=mk0 (zl6 g)
 have hPl:=lt0 hP
 have hQl:=lt0 hQ
 have c0:=cl0 hP 0 (x:=vW) rfl
 have c1:=cl0 hP 1 (x:=.int .i64 h.young) rfl
 have c2:=cl0 hP 2 (x:=.int .i64 h.old) rfl
 have c3:=cl0 hP 3 (x:=.int .i64 h.ytop) rfl
 have c4:=cl0 hP 4 (x:=.int .i64 h.otop) rfl
 have c5:=cl0 hP 5 (x:=vO) rfl
 have c6:=cl0 hP 6 (x:=.int .i64 h.next) rfl
 have e0:=cl0 hQ 0 (x:=kC) rfl
 have e1:=cl0 hQ 1 (x:=kS) rfl
 have e2:=cl0 hQ 2 (x:=kF) rfl
 have e3:=cl0 hQ 3 (x:=kN) rfl
 have e4:=cl0 hQ 4 (x:=kT) rfl
 obtain ⟨aW,cW,aO,cO,aC,cC,aS,cS,aF,cF,aN,cN,aT,cT,rfl,rfl,rfl,rfl,rfl,rfl,rfl⟩:=g.agg
 clear g hP hQ
 go_enter Tryz.func52,Tryz.ntmps52
 go_wp2_with fail
 refine HCK.out.mono ?_
 rintro r w1 ⟨hb,⟨h0,X,vA,ts,rfl,-⟩ | ⟨h0,rfl⟩⟩
 ·
  have HC:=mk0 h0
  have HB:=mk0 hb
  clear h0 hb c0 c1 c2 c3 c4 c5 c6 e0 e1 e2 e3 e4
  go_wp2_with fail
  go_end0
  exact ⟨Or.inr ⟨HC.out,rfl⟩,HB.out⟩
 exact ⟨rfl,Or.inl ⟨h0,rfl⟩,hb⟩
theorem callHCheck1 (args:Array Value) (w:World):(callFunc 52 args).run Tryz.prog w=.ok (.enter 52 args) w:=by kernel_rfl
theorem zl8 (w:World) (B:Nat) (vW vO kC kS kF kN kT:Value) (h:HeapD) (d:LinkD) (g:Hd B w vW vO kC kS kF kN kT h d):
 Calls Tryz.prog 20 #[.agg #[vW,.int .i64 h.young,.int .i64 h.old,.int .i64 h.ytop,.int .i64 h.otop,vO,.int .i64 h.next],.agg #[kC,kS,kF,kN,kT]] w fun r w'=>r=.returned (.int .i64 (heapErr d h))/\Below w.heap.size w w':=by
 have hmf:=mkf Tryz.prog
 have HG:=mk0 g
 obtain ⟨aW,cW,aO,cO,aC,cC,aS,cS,aF,cF,aN,cN,aT,cT,rfl,rfl,rfl,rfl,rfl,rfl,rfl⟩:=g.agg
 clear g
 have hB0:=(Below.refl w.heap.size w).alloc (Nat.le_refl _) (.cells #[.slice aW h.words.length cW,.int .i64 h.young,.int .i64 h.old,.int .i64 h.ytop,.int .i64 h.otop,.slice aO h.noted.length cO,.int .i64 h.next] 24)
 have hB1:=hB0.alloc hB0.size (.cells #[.slice aC d.classes.length cC,.slice aS d.supers.length cS,.slice aF d.fields.length cF,.slice aN d.names.length cN,.slice aT d.targets.length cT] 36)
 have hB2:=hB1.alloc hB1.size (.cells #[.int .i64 0,.int .i64 0] 84)
 have hp0:(((w.alloc (.cells #[.slice aW h.words.length cW,.int .i64 h.young,.int .i64 h.old,.int .i64 h.ytop,.int .i64 h.otop,.slice aO h.noted.length cO,.int .i64 h.next] 24)).alloc (.cells #[.slice aC d.classes.length cC,.slice aS d.supers.length cS,.slice aF d.fields.length cF,.slice aN d.names.length cN,.slice aT d.targets.length cT] 36)).alloc (.cells #[.int .i64 0,.int .i64 0] 84)).heap[w.heap.size]? =some (.cells #[.slice aW h.words.length cW,.int .i64 h.young,.int .i64 h.old,.int .i64 h.ytop,.int .i64 h.otop,.slice aO h.noted.length cO,.int .i64 h.next] 24 (0,0)):=(Below.heap_alloc _ _ _ (by simp;omega)).trans ((Below.heap_alloc _ _ _ (by simp)).trans (heap_alloc_new w _))
 have hp1:(((w.alloc (.cells #[.slice aW h.words.length cW,.int .i64 h.young,.int .i64 h.old,.int .i64 h.ytop,.int .i64 h.otop,.slice aO h.noted.length cO,.int .i64 h.next] 24)).alloc (.cells #[.slice aC d.classes.length cC,.slice aS d.supers.length cS,.slice aF d.fields.length cF,.slice aN d.names.length cN,.slice aT d.targets.length cT] 36)).alloc (.cells #[.int .i64 0,.int .i64 0] 84)).heap[w.heap.size+1]? =some (.cells #[.slice aC d.classes.length cC,.slice aS d.supers.length cS,.slice aF d.fields.length cF,.slice aN d.names.length cN,.slice aT d.targets.length cT] 36 (0,0)):=(Below.heap_alloc _ _ _ (by simp)).trans (by
  have:=heap_alloc_new (w.alloc (.cells #[.slice aW h.words.length cW,.int .i64 h.young,.int .i64 h.old,.int .i64 h.ytop,.int .i64 h.otop,.slice aO h.noted.length cO,.int .i64 h.next] 24)) (.cells #[.slice aC d.classes.length cC,.slice aS d.supers.length cS,.slice aF d.fields.length cF,.slice aN d.names.length cN,.slice aT d.targets.length cT] 36)
  simpa using this)
 have HP0:=mk0 hp0
 have HP1:=mk0 hp1
 clear hp0 hp1
 go_enter Tryz.func20,Tryz.ntmps20
 go_wp2_with fail
 refine (zb6 52 _ _ (fun w1=>heapErr d h=0/\Below w.heap.size w w1) (fun e p w1=>heapErr d h=e/\Below w.heap.size w w1) (callHCheck1 _) ?hc).mono ?_
 case hc=>
  refine (zl7 _ B w.heap.size (w.heap.size+1) _ _ _ _ _ _ _ h d (HG.out.below (hB2.mono HG.out.le)) HP0.out HP1.out).mono ?_
  rintro r w1 ⟨hr,hb⟩
  have hb':=hB2.trans (hb.mono hB2.size)
  refine ⟨?_,?_⟩
  ·
   rw [hb.block ((w.alloc (.cells #[.slice aW h.words.length cW,.int .i64 h.young,.int .i64 h.old,.int .i64 h.ytop,.int .i64 h.otop,.slice aO h.noted.length cO,.int .i64 h.next] 24)).alloc (.cells #[.slice aC d.classes.length cC,.slice aS d.supers.length cS,.slice aF d.fields.length cF,.slice aN d.names.length cN,.slice aT d.targets.length cT] 36)).heap.size (by simp)]
   exact heap_alloc_new _ _
  rcases hr with ⟨hc,rfl⟩ | ⟨hc,rfl⟩
  ·
   exact Or.inr ⟨_,_,rfl,rfl,hb'⟩
  exact Or.inl ⟨rfl,hc,hb'⟩
 rintro r w2 ⟨w1,hg,hr⟩
 have hz:((w.alloc (.cells #[.slice aW h.words.length cW,.int .i64 h.young,.int .i64 h.old,.int .i64 h.ytop,.int .i64 h.otop,.slice aO h.noted.length cO,.int .i64 h.next] 24)).alloc (.cells #[.slice aC d.classes.length cC,.slice aS d.supers.length cS,.slice aF d.fields.length cF,.slice aN d.names.length cN,.slice aT d.targets.length cT] 36)).heap.size=w.heap.size+2:=by simp
 rw [hz]at hg
 clear hB0 hB1 hB2 hz HP0 HP1
 rcases hr with ⟨rfl,hc,hB⟩ | ⟨e,p,rfl,hc,hB⟩
 ·
  have HC:=mk0 hc
  have HB:=mk0 (bg0 hB hg (by omega))
  clear hc hg hB hmf HG
  have hfd:=fieldErr
  go_wp2
  go_ret
  exact ⟨by rw [HC.out];rfl,HB.out⟩
 have HC:=mk0 hc
 have HB:=mk0 (bg0 hB hg (by omega))
 clear hc hg hB hmf HG
 have hfd:=fieldErr
 go_wp2
 go_ret
 exact ⟨by rw [HC.out];rfl,HB.out⟩
end Go.Proofs.YtjdnmblggdobgaaGreat
