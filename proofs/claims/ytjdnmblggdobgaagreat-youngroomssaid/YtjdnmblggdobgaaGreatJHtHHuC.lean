import Derived.Test.YtjdnmblggdobgaaGreatJTk2Dies
import Derived.Test.YtjdnmblggdobgaaGreatHtG
import Derived.Test.YtjdnmblggdobgaaGreatJHmMHmH
import Derived.Laws.OwnMore
import Derived.Test.YtjdnmblggdobgaaGreatJLLkLBas
set_option maxHeartbeats 4000000
set_option maxRecDepth 100000
namespace Go.Proofs.YtjdnmblggdobgaaGreat
open Go.RowKit Go.Maps
def wishQ (d:LinkD) (h:HeapD) (tag len:Int) (old:Bool):List QD:=[⟨120,7,isTagB d.classes.length tag⟩,⟨121,3,mayHaveB d.fields tag len⟩,⟨122,8,roomB h old len⟩]
def makeErr (d:LinkD) (h:HeapD) (tag len:Int) (old:Bool):Int:=if isTagB d.classes.length tag then (if mayHaveB d.fields tag len then (if roomB h old len then 0 else 8) else 3) else 7
theorem zmv (d:LinkD) (h:HeapD) (tag len:Int) (old:Bool):askRes (wishQ d h tag len old)=makeErr d h tag len old:=by
 unfold wishQ makeErr
 simp only [askRes]
theorem zmw (d:LinkD) (h:HeapD) (tag len:Int) (old:Bool):∀q∈wishQ d h tag len old,∀args w,(callFunc q.g args).run Tryz.prog w=.ok (.enter q.g args) w:=by
 intro q hq args w
 simp only [wishQ,List.mem_cons,List.not_mem_nil,or_false]at hq
 rcases hq with rfl | rfl | rfl<;>kernel_rfl
theorem zmx (d:LinkD) (h:HeapD) (tag len:Int) (old:Bool):∀q∈wishQ d h tag len old,q.e≠0:=by
 intro q hq
 simp only [wishQ,List.mem_cons,List.not_mem_nil,or_false]at hq
 rcases hq with rfl | rfl | rfl<;>simp
theorem zmy {d:LinkD} {tag len:Int} (hd:Few d) (h:mayHaveB d.fields tag len=true):0<=len/\len<=500:=by
 rw [<-zkx (fun f hf=>Nat.le_trans (hd.fs f hf) (by omega))]at h
 unfold rLenB btw at h
 simp only [Bool.and_eq_true,decide_eq_true_eq]at h
 exact h.1
theorem zmz {d:LinkD} {h:HeapD} (hz:Sized d h) (old:Bool):0<=topOf h old/\topOf h old<=1000000:=by
 have z1:=hz.young
 have z2:=hz.old
 have z4:=hz.ytop
 have z5:=hz.otop
 cases old
 ·
  exact ⟨by show 0<=h.ytop;omega,by show h.ytop<=1000000;omega⟩
 exact ⟨by show 0<=h.otop;omega,by show h.otop<=1000000;omega⟩
theorem zm0 (w:World) (X B:Nat) (vW vO kC kS kF kN kT vA:Value) (h:HeapD) (d:LinkD) (ts:List ThD) (hc:Cht X B w vW vO kC kS kF kN kT vA h d ts) (hz:Sized d h) (hd:Few d) (tag len:Int) (old:Bool) (k:Nat) (hk:k<(wishQ d h tag len old).length) (hall:∀(j:Nat) (hj:j<(wishQ d h tag len old).length),j<k->(wishQ d h tag len old)[j].ans=true):
 Calls Tryz.prog (wishQ d h tag len old)[k].g #[.agg #[.pointer (some ⟨X+1,0,none⟩),.int .i64 tag,.int .i64 len,.bool old]] w fun r w'=>r=.returned (.bool (wishQ d h tag len old)[k].ans)/\Below w.heap.size w w':=by
 match k,hk with
 | 0,_=>exact zmk w X B _ _ _ _ _ _ _ vA h d ts hc tag len old (by have:=hd.cn;omega)
 | 1,_=>
   have h0:isTagB d.classes.length tag=true:=hall 0 (by simp [wishQ]) (by omega)
   unfold isTagB at h0
   simp only [Bool.and_eq_true,decide_eq_true_eq]at h0
   exact zml w X B _ _ _ _ _ _ _ vA h d ts hc tag len old (by rw [hd.fl];exact h0.2)
 | 2,_=>
   have h1:mayHaveB d.fields tag len=true:=hall 1 (by simp [wishQ]) (by omega)
   have hl:=zmy hd h1
   exact zmm w X B _ _ _ _ _ _ _ vA h d ts hc tag len old (by have:=hz.young;omega) (zmz hz old) (by omega)
theorem zm1 {d:LinkD} {h:HeapD} (hz:Sized d h) {old:Bool} {len:Int} (hr:roomB h old len=true):topOf h old+3+len<=h.words.length:=by
 unfold roomB at hr
 have hr:=of_decide_eq_true hr
 have z1:=hz.young
 have z2:=hz.old
 have z3:=hz.len
 cases old
 ·
  have:endOf h false=h.young+1:=rfl
  omega
 have:endOf h true=h.words.length:=rfl
 omega
def ComeOut (w:World) (h:HeapD) (d:LinkD) (tag len:Int) (old:Bool) (r:Ending) (w':World):Prop:=
 (makeErr d h tag len old=0/\∃nW dW nO dO,r=.returned (.agg #[.slice nW (makeD h tag len old).words.length dW,.int .i64 (makeD h tag len old).young,.int .i64 (makeD h tag len old).old,.int .i64 (makeD h tag len old).ytop,.int .i64 (makeD h tag len old).otop,.slice nO (makeD h tag len old).noted.length dO,.int .i64 (makeD h tag len old).next,.int .i64 (topOf h old)])/\OwnV w.heap.size w' (.slice nW (makeD h tag len old).words.length dW) (.slice nO (makeD h tag len old).noted.length dO) (makeD h tag len old))\/
  (makeErr d h tag len old≠0/\r=.panicked [wrongV (makeErr d h tag len old) 0])
theorem zm2 (w:World) (X B:Nat) (vW vO kC kS kF kN kT vA:Value) (h:HeapD) (d:LinkD) (ts:List ThD) (hc:Cht X B w vW vO kC kS kF kN kT vA h d ts) (hz:Sized d h) (hd:Few d) (hl2:h.noted.length<=1000000) (tag len:Int) (old:Bool):
 Calls Tryz.prog 58 #[.agg #[.pointer (some ⟨X+1,0,none⟩),.int .i64 tag,.int .i64 len,.bool old]] w fun r w'=>Below w.heap.size w w'/\ComeOut w h d tag len old r w':=by
 have hmf:=mkf Tryz.prog
 obtain ⟨W0,hW0⟩:∃W0,W0=(w.alloc (.cells #[.pointer (some ⟨X+1,0,none⟩),.int .i64 tag,.int .i64 len,.bool old] 96)).alloc (.cells #[.slice none 0 0,.int .i64 0,.int .i64 0,.int .i64 0,.int .i64 0,.slice none 0 0,.int .i64 0,.int .i64 0] 92):=⟨_,rfl⟩
 have hB0:Below w.heap.size w W0:=hW0 ▸ ((Below.refl _ _).alloc (Nat.le_refl _) _).alloc (by simp) _
 have hs0:W0.heap.size=w.heap.size+1+1:=by rw [hW0];simp
 have hb0:W0.heap[w.heap.size]? =some (.cells #[.pointer (some ⟨X+1,0,none⟩),.int .i64 tag,.int .i64 len,.bool old] 96 (0,0)):=by rw [hW0];exact (Below.heap_alloc _ _ _ (by simp)).trans (heap_alloc_new w _)
 have hb1:W0.heap[w.heap.size+1]? =some (.cells #[.slice none 0 0,.int .i64 0,.int .i64 0,.int .i64 0,.int .i64 0,.slice none 0 0,.int .i64 0,.int .i64 0] 92 (0,0)):=by
  have:=heap_alloc_new (w.alloc (.cells #[.pointer (some ⟨X+1,0,none⟩),.int .i64 tag,.int .i64 len,.bool old] 96)) (.cells #[.slice none 0 0,.int .i64 0,.int .i64 0,.int .i64 0,.int .i64 0,.slice none 0 0,.int .i64 0,.int .i64 0] 92)
  rw [<-hW0]at this
  simpa using this
 have hc0:=hc.below hB0
 have HC0:=mk0 hc0
 have HQ:Hid (SL 2 (RQ #[.agg #[.pointer (some ⟨X+1,0,none⟩),.int .i64 tag,.int .i64 len,.bool old]]) (· <w.heap.size+1+1+1) (W0.alloc (.cells #[.func (.func 120) #[.agg #[.pointer (some ⟨X+1,0,none⟩),.int .i64 tag,.int .i64 len,.bool old]] #[],.int .i64 7,.func (.func 121) #[.agg #[.pointer (some ⟨X+1,0,none⟩),.int .i64 tag,.int .i64 len,.bool old]] #[],.int .i64 3,.func (.func 122) #[.agg #[.pointer (some ⟨X+1,0,none⟩),.int .i64 tag,.int .i64 len,.bool old]] #[],.int .i64 8] 170)) (.slice (some ⟨w.heap.size+1+1,0,none⟩) 3 3) (wishQ d h tag len old)):=by
  rw [<-hs0]
  exact qsSL W0 170 #[.agg #[.pointer (some ⟨X+1,0,none⟩),.int .i64 tag,.int .i64 len,.bool old]] (wishQ d h tag len old) (by simp [wishQ])
 have HA:=mk0 (fun o=>(Below.refl W0.heap.size W0).alloc (Nat.le_refl _) o)
 have HB0:=mk0 hB0
 have HS0:=mk0 hs0
 have HK0:=mk0 (And.intro hb0 hb1)
 have HE0:=mk0 hW0
 have HZ:=mk0 hz
 have HD:=mk0 hd
 have HL2:=mk0 hl2
 obtain ⟨aC,cC,aS,cS,aF,cF,aN,cN,aT,cT,rfl,rfl,rfl,rfl,rfl⟩:=hc.lk.agg
 have HMB:Hid (B<=X/\X+1<w.heap.size):=⟨hc.le,lt0 hc.blk⟩
 clear hc hc0 hB0 hs0 hb0 hb1 hW0 hz hd hl2
 go_enter Tryz.func58,Tryz.ntmps58
 go_wp2_with fail
 rw [<-HE0.out]
 refine (zje _ (w.heap.size+1+1+1) _ _ (wishQ d h tag len old) HQ.out (by rw [HE0.out];simp) (zmw d h tag len old) (zmx d h tag len old) ?_).mono ?_
 ·
  intro k hk hall V hV
  exact zm0 V X B _ _ _ _ _ _ _ vA h d ts (HC0.out.below ((HA.out _).trans (hV.mono (HA.out _).size))) HZ.out HD.out tag len old k hk hall
 rintro r w1 ⟨⟨hc,rfl⟩ | ⟨hc,rfl⟩,hb1⟩
 ·
  rw [zmv]at hc
  exact ⟨rfl,HB0.out.trans (((HA.out _).trans (hb1.mono (HA.out _).size)).mono HB0.out.size),Or.inr ⟨hc,by rw [zmv]⟩⟩
 rw [zmv]at hc
 have hb01:Below W0.heap.size W0 w1:=(HA.out _).trans (hb1.mono (HA.out _).size)
 have HB01:=mk0 hb01
 have HME:=mk0 hc
 have hmh:mayHaveB d.fields tag len=true/\roomB h old len=true:=by
  unfold makeErr at hc
  cases e1:isTagB d.classes.length tag<;>cases e2:mayHaveB d.fields tag len<;>cases e3:roomB h old len<;>simp_all
 have hlen:=zmy HD.out hmh.1
 have hrin:=zm1 HZ.out hmh.2
 have htop:=zmz HZ.out old
 have hs1:=hb01.size
 have hc1:=HC0.out.below hb01
 have k0:=(hb01.block _ (lt0 HK0.out.1)).trans HK0.out.1
 have lk0:=lt0 k0
 have c0:=cl0 k0 0 (x:=.pointer (some ⟨X+1,0,none⟩)) rfl
 have HWL:Hid (h.words.length<=1000000):=by have:=HZ.out.len;have:=HZ.out.young;have:=HZ.out.old;show _<=_;omega
 have HOWN:=mk0 (zmh w1 X B _ _ _ _ _ _ _ vA h d ts hc1 HWL.out HL2.out)
 clear hb1 hb01 hc hmh hc1 k0 HQ
 go_wp2_with fail
 refine HOWN.out.mono ?_
 rintro r w2 ⟨hb2,nW,dW,nO,dO,rfl,hov⟩
 have hs2:=hb2.size
 have hb02:Below W0.heap.size W0 w2:=HB01.out.trans (hb2.mono hs1)
 obtain ⟨W3,hW3⟩:∃W3,W3=w2.alloc (.cells #[.slice nW h.words.length dW,.int .i64 h.young,.int .i64 h.old,.int .i64 h.ytop,.int .i64 h.otop,.slice nO h.noted.length dO,.int .i64 h.next,.slice aC d.classes.length cC,.slice aS d.supers.length cS,.slice aF d.fields.length cF,.slice aN d.names.length cN,.slice aT d.targets.length cT] 129):=⟨_,rfl⟩
 have hA3:Below w2.heap.size w2 W3:=hW3 ▸ (Below.refl _ _).alloc (Nat.le_refl _) _
 have hs3:=hA3.size
 have hb03:Below W0.heap.size W0 W3:=hb02.trans (hA3.mono (by omega))
 have hog:Og w1.heap.size B W3 w2.heap.size (.slice nW h.words.length dW) (.slice nO h.noted.length dO) (.slice aC d.classes.length cC) (.slice aS d.supers.length cS) (.slice aF d.fields.length cF) (.slice aN d.names.length cN) (.slice aT d.targets.length cT) h d:=by
  have h0:=HMB.out
  have h1:=HS0.out
  refine ⟨hW3 ▸ heap_alloc_new w2 _,hov.below hA3,(HC0.out.below hb03).lk,by omega,hs2,fun e=>by have:=(hov.rW.lt _ e).2;omega,fun e=>by have:=(hov.rO.lt _ e).2;omega⟩
 have HGM:=mk0 (zms W3 w1.heap.size B w2.heap.size _ _ _ _ _ _ _ h d hog tag len old (by have:=HZ.out.young;omega) HWL.out HL2.out htop.1 hlen.1 hrin)
 have k3:=(hb03.block _ (lt0 HK0.out.1)).trans HK0.out.1
 have lk3:=lt0 k3
 have d0:=cl0 k3 0 (x:=.pointer (some ⟨X+1,0,none⟩)) rfl
 have d1:=cl0 k3 1 (x:=.int .i64 tag) rfl
 have d2:=cl0 k3 2 (x:=.int .i64 len) rfl
 have d3:=cl0 k3 3 (x:=.bool old) rfl
 have HB03:=mk0 hb03
 have HW3:=mk0 hW3
 have k3':=HK0.out.1
 have e0:=(hb02.block _ (lt0 HK0.out.1)).trans HK0.out.1
 have le0:=lt0 e0
 have f1:=cl0 e0 1 (x:=.int .i64 tag) rfl
 have f2:=cl0 e0 2 (x:=.int .i64 len) rfl
 have f3:=cl0 e0 3 (x:=.bool old) rfl
 clear hb2 hov hb02 hA3 hb03 hog k3 k3' hW3 e0 HOWN
 go_wp2_with fail
 rw [<-HW3.out]
 refine HGM.out.mono ?_
 rintro r w4 ⟨rfl,hog4,hb4⟩
 obtain ⟨hm,hhm⟩:∃hm,makeD h tag len old=hm:=⟨_,rfl⟩
 have HHM:=mk0 hhm
 rw [hhm]at hog4
 have hwl:hm.words.length=h.words.length:=by rw [<-hhm];exact zmn _ _ _ (by omega)
 have hnl:hm.noted.length=h.noted.length:=by rw [<-hhm];rfl
 rw [<-hwl,<-hnl]at hog4
 have hs4:=hb4.size
 have hs03:=HB03.out.size
 have hb04:Below W0.heap.size W0 w4:=HB03.out.trans (hb4.mono hs1)
 have g4:=hog4.blk
 have lg4:=lt0 g4
 have j0:=cl0 g4 0 (x:=.slice nW hm.words.length dW) rfl
 have j1:=cl0 g4 1 (x:=.int .i64 hm.young) rfl
 have j2:=cl0 g4 2 (x:=.int .i64 hm.old) rfl
 have j3:=cl0 g4 3 (x:=.int .i64 hm.ytop) rfl
 have j4:=cl0 g4 4 (x:=.int .i64 hm.otop) rfl
 have j5:=cl0 g4 5 (x:=.slice nO hm.noted.length dO) rfl
 have j6:=cl0 g4 6 (x:=.int .i64 hm.next) rfl
 have k4:=(hb04.block _ (lt0 HK0.out.2)).trans HK0.out.2
 have hB4:Below w.heap.size w w4:=HB0.out.trans (hb04.mono HB0.out.size)
 have hsz:=HS0.out
 obtain ⟨W9,h9,hgS,hq,hr,rz,rl⟩:=setN (zs:=[.slice none 0 0,.int .i64 0,.int .i64 0,.int .i64 0,.int .i64 0,.slice none 0 0,.int .i64 0,.int .i64 0]) k4 [.slice nW hm.words.length dW,.int .i64 hm.young,.int .i64 hm.old,.int .i64 hm.ytop,.int .i64 hm.otop,.slice nO hm.noted.length dO,.int .i64 hm.next,.int .i64 (topOf h old)] rfl
 have r0:=hr 0 _ rfl
 have r1:=hr 1 _ rfl
 have r2:=hr 2 _ rfl
 have r3:=hr 3 _ rfl
 have r4:=hr 4 _ rfl
 have r5:=hr 5 _ rfl
 have r6:=hr 6 _ rfl
 have r7:=hr 7 _ rfl
 have q0:=hq 0 _ rfl
 have q1:=hq 1 _ rfl
 have q2:=hq 2 _ rfl
 have q3:=hq 3 _ rfl
 have q4:=hq 4 _ rfl
 have q5:=hq 5 _ rfl
 have q6:=hq 6 _ rfl
 have q7:=hq 7 _ rfl
 have hw9:=hgS.size
 have HB9:=mk0 (bg0 (hB4) hgS (by omega))
 have HG9:=mk0 hgS
 simp only [setL,Nat.reduceAdd]at h9
 have H9:=mk0 h9
 clear hgS hq hr h9
 have HOF:Hid (OwnV w.heap.size W9 (.slice nW hm.words.length dW) (.slice nO hm.noted.length dO) hm):=(hog4.ov.mono (by omega)).grown HG9.out (fun e=>by have:=(hog4.ov.rW.lt _ e).1;omega) (fun e=>by have:=(hog4.ov.rO.lt _ e).1;omega)
 clear hog4 hb4 hb04 g4 k4 hB4 hsz hhm hwl hnl HGM HB03 HW3 d0 d1 d2 d3 f1 f2 f3
 go_wp2_with fail
 rw [H9.out]
 refine bodyPost_ret (v:=.agg #[.slice nW hm.words.length dW,.int .i64 hm.young,.int .i64 hm.old,.int .i64 hm.ytop,.int .i64 hm.otop,.slice nO hm.noted.length dO,.int .i64 hm.next,.int .i64 (topOf h old)]) (by simp [results,Tryz.results58,go_sem,q0,q1,q2,q3,q4,q5,q6,q7]) rfl ⟨HB9.out,Or.inl ⟨HME.out,nW,dW,nO,dO,?_,?_⟩⟩
 ·
  rw [HHM.out]
 rw [HHM.out]
 exact HOF.out
theorem zm3 {lo hi b e n len:Nat} {w w':World} {v:Value} {xs:List Value} (h:w.ownsRow b e n v len xs) (hf:Far lo hi w w') (hb:hi<=b):w'.ownsRow b e n v len xs:=by
 refine ⟨h.1,h.2.imp id ?_⟩
 rintro ⟨g,cap,cur,e1,e2,e3,e4⟩
 exact ⟨g,cap,cur,e1,e2,(hf.block g (lt0 e3) (Or.inr (by omega))).trans e3,e4⟩
theorem OwnV.far {lo hi b:Nat} {w w':World} {nW nO:Value} {h:HeapD} (o:OwnV b w nW nO h) (hf:Far lo hi w w') (hb:hi<=b):OwnV b w' nW nO h:=⟨zm3 o.rW hf hb,zm3 o.rO hf hb,o.ne⟩
theorem zm4 {d:LinkD} {h:HeapD} {ts:List ThD} (h0:heapErr d h=0) (hts:bothT d h=some ts) (hw:∀x∈h.words,(Lit.int .i64 x).wf=true):Sized d h/\Few d/\h.noted.length<=1000000:=by
 unfold heapErr at h0
 cases hok:okLk d with
 | false=>rw [hok]at h0;simp at h0
 | true=>
   rw [hok]at h0
   simp only [if_true]at h0
   have hd:=zkh hok
   unfold heapRes at h0
   cases h1:partsB h with
   | false=>rw [h1]at h0;simp at h0
   | true=>
     cases h2:wordsB h with
     | false=>rw [h1,h2]at h0;simp at h0
     | true=>
       cases h3:topsB h with
       | false=>rw [h1,h2,h3]at h0;simp at h0
       | true=>
         have hz:=zkj hd h1 h2 h3
         rw [h1,h2,h3,hts]at h0
         simp only [if_true]at h0
         refine ⟨hz,hd,?_⟩
         have hl:=zkp hd hz hw hts
         unfold thingsErr at h0
         cases e1:riseB h.noted with
         | false=>rw [e1]at h0;revert h0;cases ts.any (badHash h)<;>cases decide ((ts.map ThD.hash).Nodup)<;>cases (ts.any fun x=>hasRefB d.fields h.words x fun n=>!leadB ts n)<;>cases (restL h).any (· != 0)<;>simp
         | true=>
           cases e2:h.noted.any (badNote d h ts)with
           | true=>rw [e1,e2]at h0;revert h0;cases ts.any (badHash h)<;>cases decide ((ts.map ThD.hash).Nodup)<;>cases (ts.any fun x=>hasRefB d.fields h.words x fun n=>!leadB ts n)<;>cases (restL h).any (· != 0)<;>simp
           | false=>exact zkr hl e1 e2
def makeRes (d:LinkD) (h:HeapD) (tag len:Int) (old:Bool):Int:=if heapErr d h=0 then makeErr d h tag len old else heapErr d h
theorem zm5 {d:LinkD} {h:HeapD} {tag len:Int} {old:Bool} (h0:heapErr d h≠0):heapErr d h=makeRes d h tag len old:=by unfold makeRes;rw [if_neg h0]
theorem zm6 {d:LinkD} {h:HeapD} {tag len:Int} {old:Bool} (h0:heapErr d h=0):makeErr d h tag len old=makeRes d h tag len old:=by unfold makeRes;rw [if_pos h0]
def MadeV (b:Nat) (d:LinkD) (h:HeapD) (tag len:Int) (old:Bool) (v:Value) (w:World):Prop:=
 makeRes d h tag len old=0/\∃nW dW nO dO,v=.agg #[.slice nW (makeD h tag len old).words.length dW,.int .i64 (makeD h tag len old).young,.int .i64 (makeD h tag len old).old,.int .i64 (makeD h tag len old).ytop,.int .i64 (makeD h tag len old).otop,.slice nO (makeD h tag len old).noted.length dO,.int .i64 (makeD h tag len old).next,.int .i64 (topOf h old)]/\OwnV b w (.slice nW (makeD h tag len old).words.length dW) (.slice nO (makeD h tag len old).noted.length dO) (makeD h tag len old)
theorem zm7 (w:World) (B P0 P1 P2 P3 P4:Nat) (vW vO kC kS kF kN kT:Value) (h:HeapD) (d:LinkD) (g:Hd B w vW vO kC kS kF kN kT h d) (tag len:Int) (old:Bool) (k0:w.heap[P0]? =some (.cells #[vW,.int .i64 h.young,.int .i64 h.old,.int .i64 h.ytop,.int .i64 h.otop,vO,.int .i64 h.next] 24 (0,0))) (k1:w.heap[P1]? =some (.cells #[kC,kS,kF,kN,kT] 36 (0,0))) (k2:w.heap[P2]? =some (.cells #[.int .i64 tag] 3 (0,0))) (k3:w.heap[P3]? =some (.cells #[.int .i64 len] 3 (0,0))) (k4:w.heap[P4]? =some (.cells #[.bool old] 4 (0,0))):
 Calls Tryz.prog 57 #[.pointer (some ⟨P0,0,none⟩),.pointer (some ⟨P1,0,none⟩),.pointer (some ⟨P2,0,none⟩),.pointer (some ⟨P3,0,none⟩),.pointer (some ⟨P4,0,none⟩)] w fun r w'=>Below w.heap.size w w'/\((∃v,r=.returned v/\IsMd v/\MadeV w.heap.size d h tag len old v w')\/∃e p,r=.panicked [wrongV e p]/\e=makeRes d h tag len old/\p=0/\makeRes d h tag len old≠0):=by
 obtain ⟨W0,hW0⟩:∃W0,W0=w.alloc (.cells #[.slice none 0 0,.int .i64 0,.int .i64 0,.int .i64 0,.int .i64 0,.slice none 0 0,.int .i64 0,.int .i64 0] 92):=⟨_,rfl⟩
 have hB0:Below w.heap.size w W0:=hW0 ▸ (Below.refl _ _).alloc (Nat.le_refl _) _
 have hb0:W0.heap[w.heap.size]? =some (.cells #[.slice none 0 0,.int .i64 0,.int .i64 0,.int .i64 0,.int .i64 0,.slice none 0 0,.int .i64 0,.int .i64 0] 92 (0,0)):=hW0 ▸ heap_alloc_new w _
 have HS0:Hid (W0.heap.size=w.heap.size+1):=by show _=_;rw [hW0];simp
 have l0:=lt0 k0
 have k0':=(hB0.block _ l0).trans k0
 have l1:=lt0 k1
 have k1':=(hB0.block _ l1).trans k1
 have l2:=lt0 k2
 have k2':=(hB0.block _ l2).trans k2
 have l3:=lt0 k3
 have k3':=(hB0.block _ l3).trans k3
 have l4:=lt0 k4
 have k4':=(hB0.block _ l4).trans k4
 have c0:=cl0 k0' 0 (x:=vW) rfl
 have c1:=cl0 k0' 1 (x:=.int .i64 h.young) rfl
 have c2:=cl0 k0' 2 (x:=.int .i64 h.old) rfl
 have c3:=cl0 k0' 3 (x:=.int .i64 h.ytop) rfl
 have c4:=cl0 k0' 4 (x:=.int .i64 h.otop) rfl
 have c5:=cl0 k0' 5 (x:=vO) rfl
 have c6:=cl0 k0' 6 (x:=.int .i64 h.next) rfl
 have e0:=cl0 k1' 0 (x:=kC) rfl
 have e1:=cl0 k1' 1 (x:=kS) rfl
 have e2:=cl0 k1' 2 (x:=kF) rfl
 have e3:=cl0 k1' 3 (x:=kN) rfl
 have e4:=cl0 k1' 4 (x:=kT) rfl
 have b2:=cl0 k2' 0 (x:=.int .i64 tag) rfl
 have b3:=cl0 k3' 0 (x:=.int .i64 len) rfl
 have b4:=cl0 k4' 0 (x:=.bool old) rfl
 have HCK:Hid (∀V,Below W0.heap.size W0 V->Calls Tryz.prog 53 #[.agg #[vW,.int .i64 h.young,.int .i64 h.old,.int .i64 h.ytop,.int .i64 h.otop,vO,.int .i64 h.next],.agg #[kC,kS,kF,kN,kT]] V fun r w'=>Below V.heap.size V w'/\HeapOut V B vW vO kC kS kF kN kT h d r w'):=fun V hV=>zl6 (g.below ((hB0.trans (hV.mono hB0.size)).mono g.le))
 have HB0:=mk0 hB0
 have HG:=mk0 g
 have HE0:=mk0 hW0
 have HK0:=mk0 hb0
 obtain ⟨aW,cW,aO,cO,aC,cC,aS,cS,aF,cF,aN,cN,aT,cT,rfl,rfl,rfl,rfl,rfl,rfl,rfl⟩:=g.agg
 clear g hB0 hW0 hb0 k0 k0' k1 k1' k2 k2' k3 k3' k4 k4'
 go_enter Tryz.func57,Tryz.ntmps57
 go_wp2_with fail
 rw [<-HE0.out]
 refine wp_region_held_drew (S:=fun W'=>∀p:Addr,p.block<w.heap.size->W'.cell? p=W0.cell? p) (by kernel_rfl) (fun p hp=>rfl) fun hH=>?_
 refine ta 0 (.agg #[.slice aW h.words.length cW,.int .i64 h.young,.int .i64 h.old,.int .i64 h.ytop,.int .i64 h.otop,.slice aO h.noted.length cO,.int .i64 h.next]) rfl hH ?_
 refine ta 1 (.agg #[.slice aC d.classes.length cC,.slice aS d.supers.length cS,.slice aF d.fields.length cF,.slice aN d.names.length cN,.slice aT d.targets.length cT]) rfl hH ?_
 refine ta 3 (.int .i64 tag) rfl hH ?_
 refine ta 4 (.int .i64 len) rfl hH ?_
 refine ta 5 (.bool old) rfl hH ?_
 refine wpAnyH_ready (rs:=[2]) (by kernel_rfl) (by simp) ?_
 refine AllReadyH.cons rfl (fun K2 hK2=>?_) AllReadyH.nil
 go_simp
 refine (HCK.out _ (Below.refl _ _).drew).mono ?_
 rintro r w5 ⟨hb5,⟨h0,X,vA,ts,rfl,hts,hX,hcht⟩ | ⟨h0,rfl⟩⟩
 rotate_left
 ·
  exact ⟨rfl,HB0.out.trans (((Below.refl W0.heap.size W0).drew.trans hb5).mono HB0.out.size),Or.inr ⟨_,_,rfl,zm5 h0,rfl,by rw [<-zm5 h0];exact h0⟩⟩
 have hb6:Below W0.heap.size W0 w5:=(Below.refl W0.heap.size W0).drew.trans hb5
 have HOK:=mk0 (zm4 h0 hts HG.out.ww)
 have HCO:=mk0 (zm2 w5 X B _ _ _ _ _ _ _ vA h d ts hcht HOK.out.1 HOK.out.2.1 HOK.out.2.2 tag len old)
 have hs6:=hb6.size
 refine hK2.out _ _ (fun p hp=>hb6.cell (by have:=HS0.out;omega)) fun hH=>?_
 refine ta 6 (.agg #[.pointer (some ⟨X+1,0,none⟩),.int .i64 tag,.int .i64 len,.bool old]) rfl hH ?_
 refine wpAnyH_ready (rs:=[7]) (by kernel_rfl) (by simp) ?_
 refine AllReadyH.cons rfl (fun K7 hK7=>?_) AllReadyH.nil
 go_simp
 refine HCO.out.mono ?_
 rintro r w7 ⟨hb7,⟨hm0,nW,dW,nO,dO,rfl,hov⟩ | ⟨hm0,rfl⟩⟩
 rotate_left
 ·
  exact ⟨rfl,HB0.out.trans ((hb6.trans (hb7.mono hs6)).mono HB0.out.size),Or.inr ⟨_,_,rfl,zm6 h0,rfl,by rw [<-zm6 h0];exact hm0⟩⟩
 obtain ⟨hm,hhm⟩:∃hm,makeD h tag len old=hm:=⟨_,rfl⟩
 rw [hhm]at hov ⊢
 have hb8:Below W0.heap.size W0 w7:=hb6.trans (hb7.mono hs6)
 have hs7:=hb7.size
 have k7:=(hb8.block _ (lt0 HK0.out)).trans HK0.out
 have hB7:Below w.heap.size w w7:=HB0.out.trans (hb8.mono HB0.out.size)
 have hs0:=HS0.out
 obtain ⟨W9,h9,hgS,hq,hr,rz,rl⟩:=setN (zs:=[.slice none 0 0,.int .i64 0,.int .i64 0,.int .i64 0,.int .i64 0,.slice none 0 0,.int .i64 0,.int .i64 0]) k7 [.slice nW hm.words.length dW,.int .i64 hm.young,.int .i64 hm.old,.int .i64 hm.ytop,.int .i64 hm.otop,.slice nO hm.noted.length dO,.int .i64 hm.next,.int .i64 (topOf h old)] rfl
 have r0:=hr 0 _ rfl
 have r1:=hr 1 _ rfl
 have r2:=hr 2 _ rfl
 have r3:=hr 3 _ rfl
 have r4:=hr 4 _ rfl
 have r5:=hr 5 _ rfl
 have r6:=hr 6 _ rfl
 have r7:=hr 7 _ rfl
 have q0:=hq 0 _ rfl
 have q1:=hq 1 _ rfl
 have q2:=hq 2 _ rfl
 have q3:=hq 3 _ rfl
 have q4:=hq 4 _ rfl
 have q5:=hq 5 _ rfl
 have q6:=hq 6 _ rfl
 have q7:=hq 7 _ rfl
 have hw9:=hgS.size
 have HB9:=mk0 (bg0 (hB7) hgS (by omega))
 have HG9:=mk0 hgS
 simp only [setL,Nat.reduceAdd]at h9
 have H9:=mk0 h9
 clear hgS hq hr h9
 have HOF:Hid (OwnV w.heap.size W9 (.slice nW hm.words.length dW) (.slice nO hm.noted.length dO) hm):=(hov.mono (by omega)).grown HG9.out (fun e=>by have:=(hov.rW.lt _ e).1;omega) (fun e=>by have:=(hov.rO.lt _ e).1;omega)
 have HCL:Hid (∀p:Addr,p.block<w.heap.size->W9.cell? p=W0.cell? p):=fun p hp=>(World.cell?_of_block (a:=p) (HG9.out.block p.block (by omega) (by intro e;injection e;omega))).trans (hb8.cell (by omega))
 have HHM:=mk0 hhm
 have HM0:=mk0 (And.intro h0 hm0)
 refine hK7.out _ _ (fun p hp=>hb8.cell (by omega)) fun hH=>?_
 clear hb7 hov k7 hB7 hb8 hb6 hb5 hcht hts hX hhm hs0
 refine wpAnyH_ready (rs:=[8]) (by kernel_rfl) (by simp) ?_
 refine AllReadyH.cons rfl (fun K8 hK8=>?_) AllReadyH.nil
 go_simp
 rw [H9.out]
 refine hK8.out _ _ HCL.out fun hH=>?_
 refine wpAnyH_done (by kernel_rfl) ?_ _
 clear hH
 try simp only [Act.put,List.setIfInBounds_toArray,List.set_cons_zero,List.set_cons_succ,List.getElem_toArray,List.getElem_cons_zero,List.getElem_cons_succ]
 go_wp2_with fail
 refine bodyPost_ret (v:=.agg #[.slice nW hm.words.length dW,.int .i64 hm.young,.int .i64 hm.old,.int .i64 hm.ytop,.int .i64 hm.otop,.slice nO hm.noted.length dO,.int .i64 hm.next,.int .i64 (topOf h old)]) (by simp [results,Tryz.results57,go_sem,q0,q1,q2,q3,q4,q5,q6,q7]) rfl ⟨HB9.out,Or.inl ⟨_,rfl,⟨_,_,_,_,_,_,_,_,_,_,_,_,rfl⟩,?_⟩⟩
 unfold MadeV
 rw [HHM.out,<-zm6 HM0.out.1]
 exact ⟨HM0.out.2,nW,dW,nO,dO,rfl,HOF.out⟩
theorem callMake1 (args:Array Value) (w:World):(callFunc 57 args).run Tryz.prog w=.ok (.enter 57 args) w:=by kernel_rfl
def MakeOut (w:World) (d:LinkD) (h:HeapD) (tag len:Int) (old:Bool) (r:Ending) (w':World):Prop:=
 (makeRes d h tag len old=0/\∃nW dW nO dO,r=.returned (.tuple #[.agg #[.slice nW (makeD h tag len old).words.length dW,.int .i64 (makeD h tag len old).young,.int .i64 (makeD h tag len old).old,.int .i64 (makeD h tag len old).ytop,.int .i64 (makeD h tag len old).otop,.slice nO (makeD h tag len old).noted.length dO,.int .i64 (makeD h tag len old).next],.int .i64 (topOf h old),.int .i64 0])/\OwnV w.heap.size w' (.slice nW (makeD h tag len old).words.length dW) (.slice nO (makeD h tag len old).noted.length dO) (makeD h tag len old))\/
  (makeRes d h tag len old≠0/\r=.returned (.tuple #[.agg #[.slice none 0 0,.int .i64 0,.int .i64 0,.int .i64 0,.int .i64 0,.slice none 0 0,.int .i64 0],.int .i64 0,.int .i64 (makeRes d h tag len old)]))
theorem zm8 (w:World) (B:Nat) (vW vO kC kS kF kN kT:Value) (h:HeapD) (d:LinkD) (g:Hd B w vW vO kC kS kF kN kT h d) (tag len:Int) (old:Bool):
 Calls Tryz.prog 22 #[.agg #[vW,.int .i64 h.young,.int .i64 h.old,.int .i64 h.ytop,.int .i64 h.otop,vO,.int .i64 h.next],.agg #[kC,kS,kF,kN,kT],.int .i64 tag,.int .i64 len,.bool old] w fun r w'=>Below w.heap.size w w'/\MakeOut w d h tag len old r w':=by
 have hmf:=mkf Tryz.prog
 have HG:=mk0 g
 obtain ⟨aW,cW,aO,cO,aC,cC,aS,cS,aF,cF,aN,cN,aT,cT,rfl,rfl,rfl,rfl,rfl,rfl,rfl⟩:=g.agg
 clear g
 obtain ⟨W0,hW0,hB0,hs0,k0,k1,k2,k3,k4,k5⟩:=boxes6 w #[.slice aW h.words.length cW,.int .i64 h.young,.int .i64 h.old,.int .i64 h.ytop,.int .i64 h.otop,.slice aO h.noted.length cO,.int .i64 h.next] #[.slice aC d.classes.length cC,.slice aS d.supers.length cS,.slice aF d.fields.length cF,.slice aN d.names.length cN,.slice aT d.targets.length cT] #[.int .i64 tag] #[.int .i64 len] #[.bool old] #[.slice none 0 0,.int .i64 0,.int .i64 0,.int .i64 0,.int .i64 0,.slice none 0 0,.int .i64 0] 24 36 3 3 4 24
 have HMD:Hid (Calls Tryz.prog 56 #[.func (.func 57) #[] #[.pointer (some ⟨w.heap.size,0,none⟩),.pointer (some ⟨w.heap.size+1,0,none⟩),.pointer (some ⟨w.heap.size+1+1,0,none⟩),.pointer (some ⟨w.heap.size+1+1+1,0,none⟩),.pointer (some ⟨w.heap.size+1+1+1+1,0,none⟩)]] W0 fun r w'=>Below W0.heap.size W0 w'/\W0.heap.size+5<=w'.heap.size/\
  ((∃v,r=.returned (.tuple #[v,.agg #[.int .i64 0,.int .i64 0]])/\IsMd v/\MadeV (W0.heap.size+5) d h tag len old v w')\/
   (∃e p,r=.returned (.tuple #[.agg #[.slice none 0 0,.int .i64 0,.int .i64 0,.int .i64 0,.int .i64 0,.slice none 0 0,.int .i64 0,.int .i64 0],.agg #[.int .i64 e,.int .i64 p]])/\(e=makeRes d h tag len old/\p=0/\makeRes d h tag len old≠0)))):=by
  refine zmu W0 57 _ (MadeV (W0.heap.size+5) d h tag len old) (fun e p=>e=makeRes d h tag len old/\p=0/\makeRes d h tag len old≠0) callMake1 ?_ ?_
  ·
   intro W hW hs
   have hk:∀(b:Nat) (ob:Obj),W0.heap[b]? =some ob->W.heap[b]? =some ob:=fun b ob e=>(hW.block b (by
    rcases Nat.lt_or_ge b W0.heap.size with hlt | hge
    ·
     exact hlt
    rw [Array.getElem?_eq_none hge]at e;cases e)).trans e
   have:=zm7 W B _ _ _ _ _ _ _ _ _ _ _ _ h d (HG.out.below ((hB0.trans (hW.mono hB0.size)).mono HG.out.le)) tag len old (hk _ _ k0) (hk _ _ k1) (hk _ _ k2) (hk _ _ k3) (hk _ _ k4)
   rw [<-hs]
   exact this
  rintro v W W' hs hf ⟨h0,nW,dW,nO,dO,e,ho⟩
  exact ⟨h0,nW,dW,nO,dO,e,ho.far hf (Nat.le_refl _)⟩
 have HK5:=mk0 k5
 have HB0:=mk0 hB0
 have HE0:=mk0 hW0
 have HS0:=mk0 hs0
 rw [HE0.out]at HMD
 clear k0 k1 k2 k3 k4 k5 hB0 hW0 hs0
 go_enter Tryz.func22,Tryz.ntmps22
 go_wp2_with fail
 refine HMD.out.mono ?_
 rw [<-HE0.out]
 rintro r w1 ⟨hb1,hs1,⟨v,rfl,-,h0,nW,dW,nO,dO,rfl,hov⟩ | ⟨e,p,rfl,rfl,rfl,h0⟩⟩
 ·
  obtain ⟨hm,hhm⟩:∃hm,makeD h tag len old=hm:=⟨_,rfl⟩
  rw [hhm]at hov ⊢
  have hs0:=HS0.out
  have HHM:=mk0 hhm
  have HM0:=mk0 h0
  clear hhm HMD
  obtain ⟨W2,hW2⟩:∃W2,W2=((w1.alloc (.cells #[.slice nW hm.words.length dW,.int .i64 hm.young,.int .i64 hm.old,.int .i64 hm.ytop,.int .i64 hm.otop,.slice nO hm.noted.length dO,.int .i64 hm.next,.int .i64 (topOf h old)] 92)).alloc (.cells #[.int .i64 0,.int .i64 0] 84)):=⟨_,rfl⟩
  have hA2:Below w1.heap.size w1 W2:=hW2 ▸ ((Below.refl _ _).alloc (Nat.le_refl _) _).alloc (by simp) _
  have hs2:=hA2.size
  have m0:W2.heap[w1.heap.size]? =some (.cells #[.slice nW hm.words.length dW,.int .i64 hm.young,.int .i64 hm.old,.int .i64 hm.ytop,.int .i64 hm.otop,.slice nO hm.noted.length dO,.int .i64 hm.next,.int .i64 (topOf h old)] 92 (0,0)):=by rw [hW2];exact (Below.heap_alloc _ _ _ (by simp)).trans (heap_alloc_new w1 _)
  have m1:W2.heap[w1.heap.size+1]? =some (.cells #[.int .i64 0,.int .i64 0] 84 (0,0)):=by
   have:=heap_alloc_new (w1.alloc (.cells #[.slice nW hm.words.length dW,.int .i64 hm.young,.int .i64 hm.old,.int .i64 hm.ytop,.int .i64 hm.otop,.slice nO hm.noted.length dO,.int .i64 hm.next,.int .i64 (topOf h old)] 92)) (.cells #[.int .i64 0,.int .i64 0] 84)
   rw [<-hW2]at this
   simpa using this
  have k2:W2.heap[w.heap.size+1+1+1+1+1]? =some (.cells #[.slice none 0 0,.int .i64 0,.int .i64 0,.int .i64 0,.int .i64 0,.slice none 0 0,.int .i64 0] 24 (0,0)):=(hA2.block _ (by omega)).trans ((hb1.block _ (lt0 HK5.out)).trans HK5.out)
  have hB2:Below w.heap.size w W2:=(HB0.out.trans (hb1.mono HB0.out.size)).trans (hA2.mono (by omega))
  obtain ⟨W9,h9,hgS,hq,hr,rz,rl⟩:=setN (zs:=[.slice none 0 0,.int .i64 0,.int .i64 0,.int .i64 0,.int .i64 0,.slice none 0 0,.int .i64 0]) k2 [.slice nW hm.words.length dW,.int .i64 hm.young,.int .i64 hm.old,.int .i64 hm.ytop,.int .i64 hm.otop,.slice nO hm.noted.length dO,.int .i64 hm.next] rfl
  have r0:=hr 0 _ rfl
  have r1:=hr 1 _ rfl
  have r2:=hr 2 _ rfl
  have r3:=hr 3 _ rfl
  have r4:=hr 4 _ rfl
  have r5:=hr 5 _ rfl
  have r6:=hr 6 _ rfl
  have q0:=hq 0 _ rfl
  have q1:=hq 1 _ rfl
  have q2:=hq 2 _ rfl
  have q3:=hq 3 _ rfl
  have q4:=hq 4 _ rfl
  have q5:=hq 5 _ rfl
  have q6:=hq 6 _ rfl
  have hw9:=hgS.size
  have HB9:=mk0 (bg0 (hB2) hgS (by omega))
  have HG9:=mk0 hgS
  simp only [setL,Nat.reduceAdd]at h9
  have H9:=mk0 h9
  clear hgS hq hr h9
  have v0:=cl0 m0 0 (x:=.slice nW hm.words.length dW) rfl
  have v1:=cl0 m0 1 (x:=.int .i64 hm.young) rfl
  have v2:=cl0 m0 2 (x:=.int .i64 hm.old) rfl
  have v3:=cl0 m0 3 (x:=.int .i64 hm.ytop) rfl
  have v4:=cl0 m0 4 (x:=.int .i64 hm.otop) rfl
  have v5:=cl0 m0 5 (x:=.slice nO hm.noted.length dO) rfl
  have v6:=cl0 m0 6 (x:=.int .i64 hm.next) rfl
  have v7:=cl0 m0 7 (x:=.int .i64 (topOf h old)) rfl
  have u0:=cl0 m1 0 (x:=.int .i64 0) rfl
  have lm0:=lt0 m0
  have lm1:=lt0 m1
  have ne0:¬w1.heap.size=w.heap.size+1+1+1+1+1:=by omega
  have ne1:¬w1.heap.size+1=w.heap.size+1+1+1+1+1:=by omega
  have ne2:¬w1.heap.size=w.heap.size+1+1+1+1:=by omega
  have ne3:¬w1.heap.size=w.heap.size+4:=by omega
  have HCL:Hid (∀p:Addr,p.block<W2.heap.size->p.block≠w.heap.size+1+1+1+1+1->W9.cell? p=W2.cell? p):=fun p hp hne=>World.cell?_of_block (a:=p) (HG9.out.block p.block hp (fun e=>hne (Option.some.inj e)))
  have HOF:Hid (OwnV w.heap.size W9 (.slice nW hm.words.length dW) (.slice nO hm.noted.length dO) hm):=((hov.below hA2).mono (by omega)).grown HG9.out (fun e=>by have:=(hov.rW.lt _ e).1;omega) (fun e=>by have:=(hov.rO.lt _ e).1;omega)
  clear hov h0 hs0
  have HW2:=mk0 hW2
  clear hA2 m0 m1 k2 hB2 hb1 hW2
  go_wp2_with fail
  rw [<-HW2.out]
  refine wp_region_held_drew (S:=fun W'=>∀p:Addr,p.block<W2.heap.size->p.block≠w.heap.size+1+1+1+1+1->W'.cell? p=W2.cell? p) (by kernel_rfl) (fun p hp _=>rfl) fun hH=>?_
  refine ta 0 (.pointer (some ⟨w1.heap.size,0,none⟩)) rfl hH ?_
  refine ta 1 (.agg #[.slice nW hm.words.length dW,.int .i64 hm.young,.int .i64 hm.old,.int .i64 hm.ytop,.int .i64 hm.otop,.slice nO hm.noted.length dO,.int .i64 hm.next]) rfl hH ?_
  refine ta 2 (.pointer (some ⟨w1.heap.size,7,none⟩)) rfl hH ?_
  refine ta 3 (.int .i64 (topOf h old)) rfl hH ?_
  refine ta 4 (.pointer (some ⟨w1.heap.size+1,0,none⟩)) rfl hH ?_
  refine ta 5 (.int .i64 0) rfl hH ?_
  refine wpAnyH_ready (rs:=[6]) (by kernel_rfl) (by simp) ?_
  refine AllReadyH.cons rfl (fun K6 hK6=>?_) AllReadyH.nil
  go_simp
  rw [H9.out]
  refine hK6.out _ _ HCL.out fun hH=>?_
  refine ta 7 (.int .i64 (topOf h old)) rfl hH ?_
  refine ta 8 (.int .i64 0) rfl hH ?_
  refine wpAnyH_done (by kernel_rfl) ?_ _
  clear hH
  try simp only [Act.put,List.setIfInBounds_toArray,List.set_cons_zero,List.set_cons_succ,List.getElem_toArray,List.getElem_cons_zero,List.getElem_cons_succ]
  go_wp2_with fail
  refine bodyPost_ret (v:=.tuple #[.agg #[.slice nW hm.words.length dW,.int .i64 hm.young,.int .i64 hm.old,.int .i64 hm.ytop,.int .i64 hm.otop,.slice nO hm.noted.length dO,.int .i64 hm.next],.int .i64 (topOf h old),.int .i64 0]) (by simp [results,Tryz.results22,go_sem,q0,q1,q2,q3,q4,q5,q6]) rfl ⟨HB9.out.drew,Or.inl ⟨HM0.out,nW,dW,nO,dO,?_,?_⟩⟩
  ·
   rw [HHM.out]
  rw [HHM.out]
  exact HOF.out.below (Below.refl _ _).drew
 have hs0:=HS0.out
 have HM0:=mk0 h0
 generalize hmr:makeRes d h tag len old=mr at*
 have HMR:=mk0 hmr
 clear hmr HMD
 obtain ⟨W2,hW2⟩:∃W2,W2=((w1.alloc (.cells #[.slice none 0 0,.int .i64 0,.int .i64 0,.int .i64 0,.int .i64 0,.slice none 0 0,.int .i64 0,.int .i64 0] 92)).alloc (.cells #[.int .i64 mr,.int .i64 0] 84)):=⟨_,rfl⟩
 have hA2:Below w1.heap.size w1 W2:=hW2 ▸ ((Below.refl _ _).alloc (Nat.le_refl _) _).alloc (by simp) _
 have hs2:=hA2.size
 have m0:W2.heap[w1.heap.size]? =some (.cells #[.slice none 0 0,.int .i64 0,.int .i64 0,.int .i64 0,.int .i64 0,.slice none 0 0,.int .i64 0,.int .i64 0] 92 (0,0)):=by rw [hW2];exact (Below.heap_alloc _ _ _ (by simp)).trans (heap_alloc_new w1 _)
 have m1:W2.heap[w1.heap.size+1]? =some (.cells #[.int .i64 mr,.int .i64 0] 84 (0,0)):=by
  have:=heap_alloc_new (w1.alloc (.cells #[.slice none 0 0,.int .i64 0,.int .i64 0,.int .i64 0,.int .i64 0,.slice none 0 0,.int .i64 0,.int .i64 0] 92)) (.cells #[.int .i64 mr,.int .i64 0] 84)
  rw [<-hW2]at this
  simpa using this
 have k2:W2.heap[w.heap.size+1+1+1+1+1]? =some (.cells #[.slice none 0 0,.int .i64 0,.int .i64 0,.int .i64 0,.int .i64 0,.slice none 0 0,.int .i64 0] 24 (0,0)):=(hA2.block _ (by omega)).trans ((hb1.block _ (lt0 HK5.out)).trans HK5.out)
 have hB2:Below w.heap.size w W2:=(HB0.out.trans (hb1.mono HB0.out.size)).trans (hA2.mono (by omega))
 obtain ⟨W9,h9,hgS,hq,hr,rz,rl⟩:=setN (zs:=[.slice none 0 0,.int .i64 0,.int .i64 0,.int .i64 0,.int .i64 0,.slice none 0 0,.int .i64 0]) k2 [.slice none 0 0,.int .i64 0,.int .i64 0,.int .i64 0,.int .i64 0,.slice none 0 0,.int .i64 0] rfl
 have r0:=hr 0 _ rfl
 have r1:=hr 1 _ rfl
 have r2:=hr 2 _ rfl
 have r3:=hr 3 _ rfl
 have r4:=hr 4 _ rfl
 have r5:=hr 5 _ rfl
 have r6:=hr 6 _ rfl
 have q0:=hq 0 _ rfl
 have q1:=hq 1 _ rfl
 have q2:=hq 2 _ rfl
 have q3:=hq 3 _ rfl
 have q4:=hq 4 _ rfl
 have q5:=hq 5 _ rfl
 have q6:=hq 6 _ rfl
 have hw9:=hgS.size
 have HB9:=mk0 (bg0 (hB2) hgS (by omega))
 have HG9:=mk0 hgS
 simp only [setL,Nat.reduceAdd]at h9
 have H9:=mk0 h9
 clear hgS hq hr h9
 have v0:=cl0 m0 0 (x:=.slice none 0 0) rfl
 have v1:=cl0 m0 1 (x:=.int .i64 0) rfl
 have v2:=cl0 m0 2 (x:=.int .i64 0) rfl
 have v3:=cl0 m0 3 (x:=.int .i64 0) rfl
 have v4:=cl0 m0 4 (x:=.int .i64 0) rfl
 have v5:=cl0 m0 5 (x:=.slice none 0 0) rfl
 have v6:=cl0 m0 6 (x:=.int .i64 0) rfl
 have v7:=cl0 m0 7 (x:=.int .i64 0) rfl
 have u0:=cl0 m1 0 (x:=.int .i64 mr) rfl
 have lm0:=lt0 m0
 have lm1:=lt0 m1
 have ne0:¬w1.heap.size=w.heap.size+1+1+1+1+1:=by omega
 have ne1:¬w1.heap.size+1=w.heap.size+1+1+1+1+1:=by omega
 have ne2:¬w1.heap.size=w.heap.size+1+1+1+1:=by omega
 have ne3:¬w1.heap.size=w.heap.size+4:=by omega
 have HCL:Hid (∀p:Addr,p.block<W2.heap.size->p.block≠w.heap.size+1+1+1+1+1->W9.cell? p=W2.cell? p):=fun p hp hne=>World.cell?_of_block (a:=p) (HG9.out.block p.block hp (fun e=>hne (Option.some.inj e)))
 clear h0 hs0
 have HW2:=mk0 hW2
 clear hA2 m0 m1 k2 hB2 hb1 hW2
 go_wp2_with fail
 rw [<-HW2.out]
 refine wp_region_held_drew (S:=fun W'=>∀p:Addr,p.block<W2.heap.size->p.block≠w.heap.size+1+1+1+1+1->W'.cell? p=W2.cell? p) (by kernel_rfl) (fun p hp _=>rfl) fun hH=>?_
 refine ta 0 (.pointer (some ⟨w1.heap.size,0,none⟩)) rfl hH ?_
 refine ta 1 (.agg #[.slice none 0 0,.int .i64 0,.int .i64 0,.int .i64 0,.int .i64 0,.slice none 0 0,.int .i64 0]) rfl hH ?_
 refine ta 2 (.pointer (some ⟨w1.heap.size,7,none⟩)) rfl hH ?_
 refine ta 3 (.int .i64 0) rfl hH ?_
 refine ta 4 (.pointer (some ⟨w1.heap.size+1,0,none⟩)) rfl hH ?_
 refine ta 5 (.int .i64 mr) rfl hH ?_
 refine wpAnyH_ready (rs:=[6]) (by kernel_rfl) (by simp) ?_
 refine AllReadyH.cons rfl (fun K6 hK6=>?_) AllReadyH.nil
 go_simp
 rw [H9.out]
 refine hK6.out _ _ HCL.out fun hH=>?_
 refine ta 7 (.int .i64 0) rfl hH ?_
 refine ta 8 (.int .i64 mr) rfl hH ?_
 refine wpAnyH_done (by kernel_rfl) ?_ _
 clear hH
 try simp only [Act.put,List.setIfInBounds_toArray,List.set_cons_zero,List.set_cons_succ,List.getElem_toArray,List.getElem_cons_zero,List.getElem_cons_succ]
 go_wp2_with fail
 refine bodyPost_ret (v:=.tuple #[.agg #[.slice none 0 0,.int .i64 0,.int .i64 0,.int .i64 0,.int .i64 0,.slice none 0 0,.int .i64 0],.int .i64 0,.int .i64 mr]) (by simp [results,Tryz.results22,go_sem,q0,q1,q2,q3,q4,q5,q6]) rfl ⟨HB9.out.drew,Or.inr ⟨by rw [HMR.out];exact HM0.out,by rw [HMR.out]⟩⟩
def tsOf (d:LinkD) (h:HeapD):List ThD:=(bothT d h).getD []
theorem zni {l:List Int} {k:Nat} (h:k<l.length):(intV l)[k]? =some (.int .i64 l[k]):=by simp [intV,h]
def setW (h:HeapD) (m:Nat) (v:Int):HeapD:=⟨h.words.set m v,h.young,h.old,h.ytop,h.otop,h.noted,h.next⟩
def noteB (d:LinkD) (h:HeapD) (t:ThD) (n:Nat) (v:Int):Bool:=refI d.fields t n&&(decide (h.young<t.loc)&&youngB h v)
def insN (l:List Int) (x:Int):List Int:=if l.contains x then l else l.takeWhile (fun y=>decide (y<x))++x::l.dropWhile (fun y=>decide (y<x))
def setD (d:LinkD) (h:HeapD) (t:ThD) (n:Nat) (v:Int):HeapD:=⟨h.words.set (t.loc+3+n).toNat v,h.young,h.old,h.ytop,h.otop,if noteB d h t n v then insN h.noted t.loc else h.noted,h.next⟩
theorem znl {b e n len:Nat} {w:World} {v:Value} {xs:List Value} (h:w.ownsRow b e n v len xs):∃a c,v=.slice a len c:=by
 rcases h.2 with ⟨e1,e2⟩ | ⟨g,cap,cur,e1,-⟩
 ·
  exact ⟨none,0,by rw [e1,e2]⟩
 exact ⟨_,_,e1⟩
def setH (d:LinkD) (h:HeapD) (loc n v:Int):HeapD:=setD d h (atOr (tsOf d h) loc) n.toNat v
def begD0:HeapD:=newD 20 20
def begD1:HeapD:=makeD begD0 1 2 false
def begD2:HeapD:=setH (linkD baseD) begD1 1 1 7
theorem zn0:makeRes (linkD baseD) begD0 1 2 false=0:=by kernel_rfl
def wfL (l:List Int):Bool:=l.all fun x=>(Lit.int .i64 x).wf
theorem zn7 {l:List Int} (h:wfL l=true):∀x∈l,(Lit.int .i64 x).wf=true:=by
 unfold wfL at h
 rw [List.all_eq_true]at h
 exact h
theorem zn8:wfL begD0.words=true:=by kernel_rfl
theorem zn9:wfL begD1.words=true:=by kernel_rfl
theorem zob:begD0.noted= []/\begD1.noted= []/\begD2.noted= []:=⟨by kernel_rfl,by kernel_rfl,by kernel_rfl⟩
theorem zoc:begD0.words.length=41/\begD1.words.length=41/\begD2.words.length=41:=⟨by kernel_rfl,by kernel_rfl,by kernel_rfl⟩
theorem zod (Q:Nat):∀(cs:List Value) (w:World) (o:Nat),(∀j,w.frozen? ⟨Q,j,none⟩=false)->∀j,(setL w Q o cs).frozen? ⟨Q,j,none⟩=false
 | [],_,_,h=>h
 | c::cs,w,o,h=>zod Q cs (w.setCell ⟨Q,o,none⟩ c) (o+1) (fun j=>by rw [World.frozen?_setCell];exact h j)
theorem Hd.of_own {b B:Nat} {w:World} {nW nO kC kS kF kN kT:Value} {h:HeapD} {d:LinkD} (o:OwnV b w nW nO h) (lk:RLk (· <B) w kC kS kF kN kT d) (hB:B<=w.heap.size) (h1:h.words.length<=1000000) (h2:h.noted.length<=1000000) (hw:∀x∈h.words,(Lit.int .i64 x).wf=true) (hn:∀x∈h.noted,(Lit.int .i64 x).wf=true):Hd w.heap.size w nW nO kC kS kF kN kT h d:=
 ⟨(zfb o.rW h1).monoI fun _ hk=>hk.lt,(zfb o.rO h2).monoI fun _ hk=>hk.lt,lk.mono fun _ hk=>Nat.lt_of_lt_of_le hk hB,Nat.le_refl _,hw,hn⟩
theorem zoe (w:World):Calls Tryz.prog 17 #[.int .i64 20,.int .i64 20] w fun r w'=>Below w.heap.size w w'/\∃n4 c4,r=.returned (.tuple #[.agg #[.slice n4 41 c4,.int .i64 20,.int .i64 20,.int .i64 1,.int .i64 21,.slice none 0 0,.int .i64 1],.int .i64 0])/\OwnV w.heap.size w' (.slice n4 41 c4) (.slice none 0 0) begD0:=by
 refine (zmc w 20 20).mono ?_
 rintro r w' ⟨hb,⟨-,-,v,rfl,hrow⟩ | ⟨hc,rfl⟩⟩
 ·
  obtain ⟨n,c,rfl⟩:=znl hrow
  exact ⟨hb,n,c,by kernel_rfl,⟨hrow,World.ownsRow_nil _ _ _ _,fun k _ e=>by cases e⟩⟩
 exact absurd hc (by decide)
theorem zof (w:World) (B:Nat) (vW vO kC kS kF kN kT:Value) (d:LinkD) (hd:d=linkD baseD) (g:Hd B w vW vO kC kS kF kN kT begD0 d):
 Calls Tryz.prog 22 #[.agg #[vW,.int .i64 20,.int .i64 20,.int .i64 1,.int .i64 21,vO,.int .i64 1],.agg #[kC,kS,kF,kN,kT],.int .i64 1,.int .i64 2,.bool false] w fun r w'=>Below w.heap.size w w'/\∃nW dW nO dO,r=.returned (.tuple #[.agg #[.slice nW 41 dW,.int .i64 20,.int .i64 20,.int .i64 6,.int .i64 21,.slice nO 0 dO,.int .i64 2],.int .i64 1,.int .i64 0])/\OwnV w.heap.size w' (.slice nW 41 dW) (.slice nO 0 dO) begD1:=by
 subst hd
 refine (zm8 w B _ _ _ _ _ _ _ begD0 (linkD baseD) g 1 2 false).mono ?_
 rintro r w' ⟨hb,⟨-,nW,dW,nO,dO,rfl,hov⟩ | ⟨hc,rfl⟩⟩
 ·
  exact ⟨hb,nW,dW,nO,dO,by kernel_rfl,hov⟩
 exact absurd zn0 hc
theorem nilI (M:Nat->Prop) (w:World):SL 1 RI M w (.slice none 0 0) []:=⟨none,0,rfl,Nat.le_refl _,by unfold maxLen;simp,fun k hk=>by cases hk⟩
end Go.Proofs.YtjdnmblggdobgaaGreat
