import Derived.Test.YtjdnmblggdobgaaGreatJTk2Dies
import Derived.Test.YtjdnmblggdobgaaGreatJHtHHtJ
import Derived.Laws.OwnMore
set_option maxHeartbeats 4000000
set_option maxRecDepth 100000
namespace Go.Proofs.YtjdnmblggdobgaaGreat
open Go.RowKit Go.Maps
def tsOf (d:LinkD) (h:HeapD):List ThD:=(bothT d h).getD []
def thErr (d:LinkD) (h:HeapD) (loc:Int):Int:=if heapErr d h=0 then (if (plAt (tsOf d h) loc).isSome then 0 else 5) else heapErr d h
def getErr (d:LinkD) (h:HeapD) (loc n:Int):Int:=if thErr d h loc=0 then (if 0<=n/\n<(atOr (tsOf d h) loc).len then 0 else 3) else thErr d h loc
def getVal (d:LinkD) (h:HeapD) (loc n:Int):Int:=if getErr d h loc n=0 then wd h.words (loc+3+n) else 0
theorem zmf {d:LinkD} {h:HeapD} {loc:Int} (h0:heapErr d h≠0):heapErr d h=thErr d h loc:=by unfold thErr;rw [if_neg h0]
theorem zmg {d:LinkD} {h:HeapD} {loc:Int} {ts:List ThD} (h0:heapErr d h=0) (hts:bothT d h=some ts) (hp:plAt ts loc=none):thErr d h loc=5:=by
 unfold thErr tsOf
 rw [if_pos h0,hts]
 simp [hp]
theorem zmh {d:LinkD} {h:HeapD} {loc:Int} {ts:List ThD} {t:ThD} (h0:heapErr d h=0) (hts:bothT d h=some ts) (hp:plAt ts loc=some t):thErr d h loc=0/\atOr (tsOf d h) loc=t:=by
 unfold thErr tsOf atOr
 rw [if_pos h0,hts]
 simp [hp]
theorem zmi {d:LinkD} {h:HeapD} {loc n:Int} (h0:heapErr d h≠0):heapErr d h=getErr d h loc n:=by
 unfold getErr
 rw [<-zmf h0,if_neg h0]
theorem zmj {d:LinkD} {h:HeapD} {loc n:Int} {ts:List ThD} (h0:heapErr d h=0) (hts:bothT d h=some ts) (hp:plAt ts loc=none):getErr d h loc n=5:=by
 unfold getErr
 rw [zmg h0 hts hp,if_neg (by decide)]
theorem zmk {d:LinkD} {h:HeapD} {loc n:Int} {ts:List ThD} {t:ThD} (h0:heapErr d h=0) (hts:bothT d h=some ts) (hp:plAt ts loc=some t) (hn:¬(0<=n/\n<t.len)):getErr d h loc n=3:=by
 unfold getErr
 rw [(zmh h0 hts hp).1,(zmh h0 hts hp).2,if_pos rfl,if_neg hn]
theorem zml {d:LinkD} {h:HeapD} {loc n:Int} {ts:List ThD} {t:ThD} (h0:heapErr d h=0) (hts:bothT d h=some ts) (hp:plAt ts loc=some t) (h1:0<=n) (h2:n<t.len):getErr d h loc n=0:=by
 unfold getErr
 rw [(zmh h0 hts hp).1,(zmh h0 hts hp).2,if_pos rfl,if_pos ⟨h1,h2⟩]
theorem getOk {d:LinkD} {h:HeapD} {loc n:Int} {ts:List ThD} {t:ThD} {m:Nat} (h0:heapErr d h=0) (hts:bothT d h=some ts) (hp:plAt ts loc=some t) (h1:0<=n) (h2:n<t.len) (hl:t.loc=loc) (hm:t.loc+3+n=(m:Int)) (hml:m<h.words.length):getErr d h loc n=0/\getVal d h loc n=h.words[m]:=by
 have e:=zml h0 hts hp h1 h2
 refine ⟨e,?_⟩
 unfold getVal
 rw [if_pos e,<-hl,hm,zen hml]
theorem zmm (w:World) (B P0 P1 P2 P3:Nat) (vW vO kC kS kF kN kT:Value) (h:HeapD) (d:LinkD) (g:Hd B w vW vO kC kS kF kN kT h d) (loc n:Int) (hwf:(Lit.int .i64 loc).wf=true) (k0:w.heap[P0]? =some (.cells #[vW,.int .i64 h.young,.int .i64 h.old,.int .i64 h.ytop,.int .i64 h.otop,vO,.int .i64 h.next] 24 (0,0))) (k1:w.heap[P1]? =some (.cells #[kC,kS,kF,kN,kT] 36 (0,0))) (k2:w.heap[P2]? =some (.cells #[.int .i64 loc] 3 (0,0))) (k3:w.heap[P3]? =some (.cells #[.int .i64 n] 3 (0,0))):
 Calls Tryz.prog 66 #[.pointer (some ⟨P0,0,none⟩),.pointer (some ⟨P1,0,none⟩),.pointer (some ⟨P2,0,none⟩),.pointer (some ⟨P3,0,none⟩)] w fun r w'=>Below w.heap.size w w'/\((∃v,r=.returned v/\(∃n,v=.int .i64 n)/\v=.int .i64 (getVal d h loc n)/\getErr d h loc n=0)\/∃e p,r=.panicked [wrongV e p]/\e=getErr d h loc n/\p=0/\getErr d h loc n≠0):=by
 have HWF:=mk0 hwf
 clear hwf
 have hB0:Below w.heap.size w w:=Below.refl _ _
 have HS0:Hid (w.heap.size=w.heap.size):=Eq.refl w.heap.size
 have l0:=lt0 k0
 have k0':=(hB0.block _ l0).trans k0
 have l1:=lt0 k1
 have k1':=(hB0.block _ l1).trans k1
 have l2:=lt0 k2
 have k2':=(hB0.block _ l2).trans k2
 have l3:=lt0 k3
 have k3':=(hB0.block _ l3).trans k3
 have c0:=cl0 k0' 0 (x:=vW) rfl
 have c1:=cl0 k0' 1 (x:=.int .i64 h.young) rfl
 have c2:=cl0 k0' 2 (x:=.int .i64 h.old) rfl
 have c3:=cl0 k0' 3 (x:=.int .i64 h.ytop) rfl
 have c4:=cl0 k0' 4 (x:=.int .i64 h.otop) rfl
 have c5:=cl0 k0' 5 (x:=vO) rfl
 have c6:=cl0 k0' 6 (x:=.int .i64 h.next) rfl
 have e0:=cl0 k1' 0 (x:=kC) rfl
 have e1:=cl0 k1' 1 (x:=kS) rfl
 have e2:=cl0 k1' 2 (x:=kF) rfl
 have e3:=cl0 k1' 3 (x:=kN) rfl
 have e4:=cl0 k1' 4 (x:=kT) rfl
 have b2:=cl0 k2' 0 (x:=.int .i64 loc) rfl
 have b3:=cl0 k3' 0 (x:=.int .i64 n) rfl
 have HCK:Hid (∀V,Below w.heap.size w V->Calls Tryz.prog 53 #[.agg #[vW,.int .i64 h.young,.int .i64 h.old,.int .i64 h.ytop,.int .i64 h.otop,vO,.int .i64 h.next],.agg #[kC,kS,kF,kN,kT]] V fun r w'=>Below V.heap.size V w'/\HeapOut V B vW vO kC kS kF kN kT h d r w'):=fun V hV=>zlc (g.below ((hB0.trans (hV.mono hB0.size)).mono g.le))
 have HB0:=mk0 hB0
 have HG:=mk0 g
 obtain ⟨aW,cW,aO,cO,aC,cC,aS,cS,aF,cF,aN,cN,aT,cT,rfl,rfl,rfl,rfl,rfl,rfl,rfl⟩:=g.agg
 clear g hB0 k0 k0' k1 k1' k2 k2' k3 k3'
 go_enter Tryz.func66,Tryz.ntmps66
 go_wp2_with fail
 refine wp_region_held_drew (S:=fun W'=>∀p:Addr,p.block<w.heap.size->W'.cell? p=w.cell? p) (by kernel_rfl) (fun p hp=>rfl) fun hH=>?_
 refine ta 0 (.pointer (some ⟨P0,0,none⟩)) rfl hH ?_
 refine ta 1 (.slice aW h.words.length cW) rfl hH ?_
 refine ta 2 (.agg #[.slice aW h.words.length cW,.int .i64 h.young,.int .i64 h.old,.int .i64 h.ytop,.int .i64 h.otop,.slice aO h.noted.length cO,.int .i64 h.next]) rfl hH ?_
 refine ta 3 (.agg #[.slice aC d.classes.length cC,.slice aS d.supers.length cS,.slice aF d.fields.length cF,.slice aN d.names.length cN,.slice aT d.targets.length cT]) rfl hH ?_
 refine ta 5 (.int .i64 loc) rfl hH ?_
 refine ta 6 (.int .i64 n) rfl hH ?_
 refine ta 8 (.int .i64 n) rfl hH ?_
 refine wpAnyH_ready (rs:=[4]) (by kernel_rfl) (by simp) ?_
 refine AllReadyH.cons rfl (fun K4 hK4=>?_) AllReadyH.nil
 go_simp
 refine (HCK.out _ (Below.refl _ _).drew).mono ?_
 rintro r w5 ⟨hb5,⟨h0,X,vA,ts,rfl,hts,hX,hcht⟩ | ⟨h0,rfl⟩⟩
 rotate_left
 ·exact ⟨rfl,HB0.out.trans (((Below.refl w.heap.size w).drew.trans hb5).mono HB0.out.size),Or.inr ⟨_,_,rfl,zmi h0,rfl,by rw [<-zmi h0];exact h0⟩⟩
 have hb6:Below w.heap.size w w5:=(Below.refl w.heap.size w).drew.trans hb5
 have HOK:=mk0 (zma h0 hts HG.out.ww)
 have HLN:=mk0 (zkp HOK.out.2.1 HOK.out.1 HG.out.ww hts)
 have HTW:=mk0 (zlk w5 X B _ _ _ _ _ _ _ vA h d ts hcht loc n HWF.out)
 have HTS:=mk0 hts
 have H00:=mk0 h0
 have hs6:=hb6.size
 refine hK4.out _ _ (fun p hp=>hb6.cell (by have:=HS0.out;omega)) fun hH=>?_
 refine wpAnyH_ready (rs:=[7]) (by kernel_rfl) (by simp) ?_
 refine AllReadyH.cons rfl (fun K7 hK7=>?_) AllReadyH.nil
 go_simp
 refine HTW.out.mono ?_
 rintro r w7 ⟨hb7,⟨t,hpl,h1,h2,rfl⟩ | ⟨hpl,rfl⟩ | ⟨t,hpl,h12,rfl⟩⟩
 rotate_left
 ·exact ⟨rfl,HB0.out.trans ((hb6.trans (hb7.mono hs6)).mono HB0.out.size),Or.inr ⟨_,_,rfl,(zmj H00.out HTS.out hpl).symm,rfl,by rw [zmj H00.out HTS.out hpl];decide⟩⟩
 ·exact ⟨rfl,HB0.out.trans ((hb6.trans (hb7.mono hs6)).mono HB0.out.size),Or.inr ⟨_,_,rfl,(zmk H00.out HTS.out hpl h12).symm,rfl,by rw [zmk H00.out HTS.out hpl h12];decide⟩⟩
 have hb8:Below w.heap.size w w7:=hb6.trans (hb7.mono hs6)
 obtain ⟨ht,hloc⟩:=zie ts hpl
 obtain ⟨-,hl0,hl1⟩:=HLN.out.fit t ht
 have hl2:=HLN.out.words
 unfold ThD.fin at hl1
 have hsl:small t.loc:=by unfold small;omega
 have hsn:small n:=by unfold small;omega
 obtain ⟨m,hm⟩:∃m:Nat,t.loc+3+n=(m:Int):=⟨(t.loc+3+n).toNat,by omega⟩
 have hml:m<h.words.length:=by omega
 obtain ⟨bW,oW,rfl,hbl,hcW⟩:=HG.out.sW.atI m hml
 have hcw:=(HB0.out.cell (p:=⟨bW,oW+m,none⟩) hbl).trans hcW
 have HRES:Hid (getErr d h loc n=0/\getVal d h loc n=h.words[m]):=getOk H00.out HTS.out hpl h1 h2 hloc hm hml
 generalize h.words[m]=x at*
 refine hK7.out _ _ (fun p hp=>hb8.cell (by have:=HS0.out;omega)) fun hH=>?_
 clear hl0 hl1 hl2 hcW h1 h2 hloc hpl hb7 hb6 hb5 hcht hts hX ht
 refine wpAnyH_ready (rs:=[9]) (by kernel_rfl) (by simp) ?_
 refine AllReadyH.cons rfl (fun K9 hK9=>?_) AllReadyH.nil
 go_simp
 refine (ze1 _ t n hsl hsn).mono ?_
 rintro r w8 ⟨rfl,hb9⟩
 rw [hm]
 have hb10:Below w.heap.size w w8:=hb8.trans (hb9.mono hb8.size)
 refine hK9.out _ _ (fun p hp=>hb10.cell (by have:=HS0.out;omega)) fun hH=>?_
 clear hb9 hb8
 refine ta 10 (.pointer (some ⟨bW,oW+m,none⟩)) rfl hH ?_
 refine ta 11 (.int .i64 x) rfl hH ?_
 refine ta 12 (.int .i64 x) rfl hH ?_
 refine wpAnyH_done (by kernel_rfl) ?_ _
 clear hH
 try simp only [Act.put,List.setIfInBounds_toArray,List.set_cons_zero,List.set_cons_succ,List.getElem_toArray,List.getElem_cons_zero,List.getElem_cons_succ]
 go_wp2_with fail
 go_ret
 exact ⟨HB0.out.trans (hb10.mono HB0.out.size),Or.inl ⟨.int .i64 x,rfl,⟨x,rfl⟩,by rw [HRES.out.2],HRES.out.1⟩⟩
theorem callGet1 (args:Array Value) (w:World):(callFunc 66 args).run Tryz.prog w=.ok (.enter 66 args) w:=by kernel_rfl
theorem zmn (w:World) (B:Nat) (vW vO kC kS kF kN kT:Value) (h:HeapD) (d:LinkD) (g:Hd B w vW vO kC kS kF kN kT h d) (loc n:Int) (hwf:(Lit.int .i64 loc).wf=true):
 Calls Tryz.prog 26 #[.agg #[vW,.int .i64 h.young,.int .i64 h.old,.int .i64 h.ytop,.int .i64 h.otop,vO,.int .i64 h.next],.agg #[kC,kS,kF,kN,kT],.int .i64 loc,.int .i64 n] w fun r w'=>Below w.heap.size w w'/\r=.returned (.tuple #[.int .i64 (getVal d h loc n),.int .i64 (getErr d h loc n)]):=by
 have hmf:=mkf Tryz.prog
 have HG:=mk0 g
 obtain ⟨aW,cW,aO,cO,aC,cC,aS,cS,aF,cF,aN,cN,aT,cT,rfl,rfl,rfl,rfl,rfl,rfl,rfl⟩:=g.agg
 clear g
 obtain ⟨W0,hW0,hB0,hs0,k0,k1,k2,k3⟩:=boxes4 w #[.slice aW h.words.length cW,.int .i64 h.young,.int .i64 h.old,.int .i64 h.ytop,.int .i64 h.otop,.slice aO h.noted.length cO,.int .i64 h.next] #[.slice aC d.classes.length cC,.slice aS d.supers.length cS,.slice aF d.fields.length cF,.slice aN d.names.length cN,.slice aT d.targets.length cT] #[.int .i64 loc] #[.int .i64 n] 24 36 3 3
 have HMD:Hid (Calls Tryz.prog 65 #[.func (.func 66) #[] #[.pointer (some ⟨w.heap.size,0,none⟩),.pointer (some ⟨w.heap.size+1,0,none⟩),.pointer (some ⟨w.heap.size+1+1,0,none⟩),.pointer (some ⟨w.heap.size+1+1+1,0,none⟩)]] W0 fun r w'=>Below W0.heap.size W0 w'/\W0.heap.size+4<=w'.heap.size/\
  ((∃v,r=.returned (.tuple #[v,.agg #[.int .i64 0,.int .i64 0]])/\(∃n,v=.int .i64 n)/\(v=.int .i64 (getVal d h loc n)/\getErr d h loc n=0))\/
   (∃e p,r=.returned (.tuple #[.int .i64 0,.agg #[.int .i64 e,.int .i64 p]])/\(e=getErr d h loc n/\p=0/\getErr d h loc n≠0)))):=by
  refine zjp W0 66 _ (fun v _=>v=.int .i64 (getVal d h loc n)/\getErr d h loc n=0) (fun e p=>e=getErr d h loc n/\p=0/\getErr d h loc n≠0) callGet1 ?_ ?_
  ·intro W hW hs
   have hk:∀(b:Nat) (ob:Obj),W0.heap[b]? =some ob->W.heap[b]? =some ob:=fun b ob e=>(hW.block b (by
    rcases Nat.lt_or_ge b W0.heap.size with hlt | hge
    ·exact hlt
    rw [Array.getElem?_eq_none hge]at e;cases e)).trans e
   exact zmm W B _ _ _ _ _ _ _ _ _ _ _ h d (HG.out.below ((hB0.trans (hW.mono hB0.size)).mono HG.out.le)) loc n hwf (hk _ _ k0) (hk _ _ k1) (hk _ _ k2) (hk _ _ k3)
  exact fun _ _ _ _ _ e=>e
 have HB0:=mk0 hB0
 have HE0:=mk0 hW0
 rw [HE0.out]at HMD
 clear k0 k1 k2 k3 hB0 hW0 hs0 hwf
 go_enter Tryz.func26,Tryz.ntmps26
 go_wp2_with fail
 refine HMD.out.mono ?_
 rw [<-HE0.out]
 rintro r w1 ⟨hb1,hs1,⟨v,rfl,-,rfl,h0⟩ | ⟨e,p,rfl,rfl,rfl,h0⟩⟩
 ·have HM0:=mk0 h0
  generalize hx:getVal d h loc n=x at*
  have HX:=mk0 hx
  clear h0 HMD hx
  obtain ⟨W2,hW2⟩:∃W2,W2=(w1.alloc (.cells #[.int .i64 0,.int .i64 0] 84)):=⟨_,rfl⟩
  have hA2:Below w1.heap.size w1 W2:=hW2 ▸ (Below.refl _ _).alloc (Nat.le_refl _) _
  have m1:W2.heap[w1.heap.size]? =some (.cells #[.int .i64 0,.int .i64 0] 84 (0,0)):=by rw [hW2];exact heap_alloc_new w1 _
  have HB2:=mk0 ((HB0.out.trans (hb1.mono HB0.out.size)).trans (hA2.mono (by have:=HB0.out.size;have:=hb1.size;omega)))
  have u0:=cl0 m1 0 (x:=.int .i64 0) rfl
  have lm1:=lt0 m1
  have HW2:=mk0 hW2
  clear hA2 m1 hb1 hW2 hs1
  go_wp2_with fail
  rw [<-HW2.out]
  refine wp_region_held_drew (S:=fun W'=>∀p:Addr,p.block<W2.heap.size->W'.cell? p=W2.cell? p) (by kernel_rfl) (fun p hp=>rfl) fun hH=>?_
  refine ta 0 (.int .i64 x) rfl hH ?_
  refine ta 1 (.pointer (some ⟨w1.heap.size,0,none⟩)) rfl hH ?_
  refine ta 2 (.int .i64 0) rfl hH ?_
  refine ta 3 (.int .i64 x) rfl hH ?_
  refine ta 4 (.int .i64 0) rfl hH ?_
  refine wpAnyH_done (by kernel_rfl) ?_ _
  clear hH
  try simp only [Act.put,List.setIfInBounds_toArray,List.set_cons_zero,List.set_cons_succ,List.getElem_toArray,List.getElem_cons_zero,List.getElem_cons_succ]
  go_wp2_with fail
  refine bodyPost_ret (v:=.tuple #[.int .i64 x,.int .i64 0]) (by simp [results,Tryz.results26,go_sem]) rfl ⟨HB2.out.drew,by rw [HX.out,HM0.out]⟩
 have HM0:Hid (getVal d h loc n=0):=by show _=_;unfold getVal;rw [if_neg h0]
 generalize hx:getErr d h loc n=x at*
 have HX:=mk0 hx
 clear h0 HMD hx
 obtain ⟨W2,hW2⟩:∃W2,W2=(w1.alloc (.cells #[.int .i64 x,.int .i64 0] 84)):=⟨_,rfl⟩
 have hA2:Below w1.heap.size w1 W2:=hW2 ▸ (Below.refl _ _).alloc (Nat.le_refl _) _
 have m1:W2.heap[w1.heap.size]? =some (.cells #[.int .i64 x,.int .i64 0] 84 (0,0)):=by rw [hW2];exact heap_alloc_new w1 _
 have HB2:=mk0 ((HB0.out.trans (hb1.mono HB0.out.size)).trans (hA2.mono (by have:=HB0.out.size;have:=hb1.size;omega)))
 have u0:=cl0 m1 0 (x:=.int .i64 x) rfl
 have lm1:=lt0 m1
 have HW2:=mk0 hW2
 clear hA2 m1 hb1 hW2 hs1
 go_wp2_with fail
 rw [<-HW2.out]
 refine wp_region_held_drew (S:=fun W'=>∀p:Addr,p.block<W2.heap.size->W'.cell? p=W2.cell? p) (by kernel_rfl) (fun p hp=>rfl) fun hH=>?_
 refine ta 0 (.int .i64 0) rfl hH ?_
 refine ta 1 (.pointer (some ⟨w1.heap.size,0,none⟩)) rfl hH ?_
 refine ta 2 (.int .i64 x) rfl hH ?_
 refine ta 3 (.int .i64 0) rfl hH ?_
 refine ta 4 (.int .i64 x) rfl hH ?_
 refine wpAnyH_done (by kernel_rfl) ?_ _
 clear hH
 try simp only [Act.put,List.setIfInBounds_toArray,List.set_cons_zero,List.set_cons_succ,List.getElem_toArray,List.getElem_cons_zero,List.getElem_cons_succ]
 go_wp2_with fail
 refine bodyPost_ret (v:=.tuple #[.int .i64 0,.int .i64 x]) (by simp [results,Tryz.results26,go_sem]) rfl ⟨HB2.out.drew,by rw [HX.out,HM0.out]⟩
theorem zmo {l:List Int} {k:Nat} (h:k<l.length):(intV l)[k]? =some (.int .i64 l[k]):=by simp [intV,h]
def setW (h:HeapD) (m:Nat) (v:Int):HeapD:=⟨h.words.set m v,h.young,h.old,h.ytop,h.otop,h.noted,h.next⟩
def noteB (d:LinkD) (h:HeapD) (t:ThD) (n:Nat) (v:Int):Bool:=refI d.fields t n&&(decide (h.young<t.loc)&&youngB h v)
def insN (l:List Int) (x:Int):List Int:=if l.contains x then l else l.takeWhile (fun y=>decide (y<x))++x::l.dropWhile (fun y=>decide (y<x))
def setD (d:LinkD) (h:HeapD) (t:ThD) (n:Nat) (v:Int):HeapD:=⟨h.words.set (t.loc+3+n).toNat v,h.young,h.old,h.ytop,h.otop,if noteB d h t n v then insN h.noted t.loc else h.noted,h.next⟩
theorem zmp {d:LinkD} {h:HeapD} {t:ThD} {n:Nat} {v:Int} (e:noteB d h t n v=false):setD d h t n v=setW h (t.loc+3+n).toNat v:=by unfold setD setW;rw [e];rfl
theorem Og.set {b B G gW dW:Nat} {w:World} {nO kC kS kF kN kT:Value} {h:HeapD} {d:LinkD} (o:Og b B w G (.slice (some ⟨gW,0,none⟩) h.words.length dW) nO kC kS kF kN kT h d) (m:Nat) (v:Int):
 Og b B (w.setCell ⟨gW,m,none⟩ (.int .i64 v)) G (.slice (some ⟨gW,0,none⟩) h.words.length dW) nO kC kS kF kN kT (setW h m v) d/\Below b w (w.setCell ⟨gW,m,none⟩ (.int .i64 v)):=by
 obtain ⟨r1,hg⟩:=o.ov.rW.stored m (.int .i64 v)
 have hl:=lt0 o.blk
 have hgw:=o.ov.rW.lt gW rfl
 have hgG:¬G=gW:=fun e=>o.neW (by rw [e];rfl)
 refine ⟨⟨(hg.block G hl (fun e=>hgG (Option.some.inj e))).trans o.blk,⟨?_,o.ov.rO.kept hg (Or.inr (o.ov.ne gW rfl)),o.ov.ne⟩,o.lk.kept ⟨hg.size,fun k hk hl=>hg.block k hl (by have:=o.le;have:=hk;intro e;injection e;omega)⟩,o.le,o.gb,o.neW,o.neO⟩,(Below.refl b w).grown hg (by have:=o.gb;omega) (fun k e=>by cases e;exact hgw.1)⟩
 show World.ownsRow _ b 3 1 _ (h.words.set m v).length (intV (h.words.set m v))
 rw [List.length_set,intV,List.map_set]
 exact r1
theorem zmq (w:World) (b B G:Nat) (nW nO kC kS kF kN kT:Value) (h:HeapD) (d:LinkD) (og:Og b B w G nW nO kC kS kF kN kT h d) (t:ThD) (hf:FitT d t) (n:Nat) (hn:(n:Int)<t.len) (v:Int) (h1:h.words.length<=1000000) (h2:h.noted.length<=1000000) (h3:0<=t.loc) (h4:t.fin<=h.words.length)
 (hnt:noteB d h t n v=true->∀W,Og b B W G nW nO kC kS kF kN kT (setW h (t.loc+3+n).toNat v) d->Calls Tryz.prog 188 #[.pointer (some ⟨G,0,none⟩),.int .i64 t.loc] W fun r w'=>r=.returned (.tuple #[])/\(∃nO',Og b B w' G nW nO' kC kS kF kN kT (setD d h t n v) d)/\Below b W w'):
 Calls Tryz.prog 133 #[.pointer (some ⟨G,0,none⟩),thV t,.int .i64 (n:Int),.int .i64 v] w fun r w'=>r=.returned (.tuple #[])/\(∃nO',Og b B w' G nW nO' kC kS kF kN kT (setD d h t n v) d)/\Below b w w':=by
 unfold ThD.fin at h4
 obtain ⟨gW,dW,hnW⟩:∃gW dW,nW=.slice (some ⟨gW,0,none⟩) h.words.length dW:=by
  rcases og.ov.rW.2 with ⟨e,h0⟩ | ⟨g,cap,cur,e,-,-,hc,-⟩
  ·omega
  exact ⟨g,cap,e⟩
 subst hnW
 obtain ⟨m,hm⟩:∃m:Nat,t.loc+3+n=(m:Int):=⟨(t.loc+3+n).toNat,by omega⟩
 have hml:m<h.words.length:=by omega
 have hmm:(t.loc+3+n).toNat=m:=by omega
 rw [hmm]at hnt
 obtain ⟨W0,hW0⟩:∃W0,W0=w.alloc (.cells #[.int .i64 t.loc,.int .i64 t.tag,.int .i64 t.len,.int .i64 t.hash] 101):=⟨_,rfl⟩
 have hB0:Below w.heap.size w W0:=hW0 ▸ (Below.refl _ _).alloc (Nat.le_refl _) _
 have kb:W0.heap[w.heap.size]? =some (.cells #[.int .i64 t.loc,.int .i64 t.tag,.int .i64 t.len,.int .i64 t.hash] 101 (0,0)):=hW0 ▸ heap_alloc_new w _
 have og0:=og.below hB0
 have hgw:=(og.ov.rW.lt gW rfl).2
 have hgG:¬G=gW:=fun e=>og.neW (by rw [e];rfl)
 have hGl:=lt0 og.blk
 have hbw:b<=w.heap.size:=by have:=og.gb;omega
 have hneB:¬w.heap.size=gW:=by omega
 have c0:=cl0 og0.blk 0 (x:=.slice (some ⟨gW,0,none⟩) h.words.length dW) rfl
 have e0:=cl0 kb 0 (x:=.int .i64 t.loc) rfl
 have e1:=cl0 kb 1 (x:=.int .i64 t.tag) rfl
 have e2:=cl0 kb 2 (x:=.int .i64 t.len) rfl
 have e3:=cl0 kb 3 (x:=.int .i64 t.hash) rfl
 have lG:=lt0 og0.blk
 have lB:=lt0 kb
 have HWD:Hid (Calls Tryz.prog 68 #[.agg #[.int .i64 t.loc,.int .i64 t.tag,.int .i64 t.len,.int .i64 t.hash],.int .i64 (n:Int)] W0.drew fun r w'=>r=.returned (.int .i64 (t.loc+3+n))/\Below W0.drew.heap.size W0.drew w'):=ze1 _ t n (by unfold small;omega) (by unfold small;omega)
 have HIR:Hid (∀V,Og b B V G (.slice (some ⟨gW,0,none⟩) h.words.length dW) nO kC kS kF kN kT (setW h m v) d->Calls Tryz.prog 131 #[.pointer (some ⟨G,0,none⟩),.agg #[.int .i64 t.loc,.int .i64 t.tag,.int .i64 t.len,.int .i64 t.hash],.int .i64 (n:Int)] V fun r w'=>r=.returned (.bool (refI d.fields t n))/\Below V.heap.size V w'):=fun V o=>zfa V _ G _ _ _ _ _ _ _ _ d (o.gd (by show (h.words.set m v).length<=_;rw [List.length_set];exact h1) h2) t hf n hn
 have HIO:Hid (∀V,Og b B V G (.slice (some ⟨gW,0,none⟩) h.words.length dW) nO kC kS kF kN kT (setW h m v) d->Calls Tryz.prog 177 #[.pointer (some ⟨G,0,none⟩),.int .i64 t.loc] V fun r w'=>r=.returned (.bool (decide (h.young<t.loc)))/\w'=V):=fun V o=>zez V _ G _ _ _ _ _ _ _ _ d (o.gd (by show (h.words.set m v).length<=_;rw [List.length_set];exact h1) h2) t.loc
 have HIY:Hid (∀V,Og b B V G (.slice (some ⟨gW,0,none⟩) h.words.length dW) nO kC kS kF kN kT (setW h m v) d->Calls Tryz.prog 153 #[.pointer (some ⟨G,0,none⟩),.int .i64 v] V fun r w'=>r=.returned (.bool (youngB h v))/\w'=V):=fun V o=>ze0 V _ G _ _ _ _ _ _ _ _ d (o.gd (by show (h.words.set m v).length<=_;rw [List.length_set];exact h1) h2) v
 have HNT:=mk0 hnt
 have HE0:=mk0 hW0
 have HB0:=mk0 hB0
 have HO0:=mk0 og0
 have HND:Hid (noteB d h t n v=false->setD d h t n v=setW h m v):=fun e=>by rw [zmp e,hmm]
 unfold thV
 clear hnt hW0 hB0 og0 og kb hf hn h2 h3 h4 hmm
 go_enter Tryz.func133,Tryz.ntmps133
 go_wp2_with fail
 rw [<-HE0.out]
 refine wp_region_held_drew (S:=fun W'=>∀p:Addr,p.block<W0.heap.size->p.block≠gW->W'.cell? p=W0.cell? p) (by kernel_rfl) (fun p hp _=>rfl) fun hH=>?_
 refine ta 0 (.pointer (some ⟨G,0,none⟩)) rfl hH ?_
 refine ta 1 (.pointer (some ⟨G,0,none⟩)) rfl hH ?_
 refine ta 2 (.pointer (some ⟨G,0,none⟩)) rfl hH ?_
 refine ta 3 (.pointer (some ⟨G,0,none⟩)) rfl hH ?_
 refine ta 4 (.slice (some ⟨gW,0,none⟩) h.words.length dW) rfl hH ?_
 refine ta 5 (.agg #[.int .i64 t.loc,.int .i64 t.tag,.int .i64 t.len,.int .i64 t.hash]) rfl hH ?_
 refine ta 6 (.int .i64 (n:Int)) rfl hH ?_
 refine ta 8 (.int .i64 v) rfl hH ?_
 refine wpAnyH_ready (rs:=[7]) (by kernel_rfl) (by simp) ?_
 refine AllReadyH.cons rfl (fun K7 hK7=>?_) AllReadyH.nil
 go_simp
 refine HWD.out.mono ?_
 rintro r w5 ⟨rfl,hb5⟩
 rw [hm]
 have hb6:Below W0.heap.size W0 w5:=(Below.refl W0.heap.size W0).drew.trans hb5
 have og5:=HO0.out.below hb6
 have x0:=(og5.ov.rW.cellAt m (by rw [Nat.mul_one];exact hml)).trans (zmo hml)
 have x1:=og5.ov.rW.frozenAt m
 obtain ⟨og7,hb7⟩:=og5.set m v
 refine hK7.out _ _ (fun p hp hne=>hb6.cell hp) fun hH=>?_
 refine ta 9 (.pointer (some ⟨gW,m,none⟩)) rfl hH ?_
 refine wpAnyH_ready (rs:=[10]) (by kernel_rfl) (by simp) ?_
 refine AllReadyH.cons rfl (fun K10 hK10=>?_) AllReadyH.nil
 go_simp
 refine hK10.out _ _ (fun p hp hne=>(World.cell?_of_block (a:=p) (heap_setCell_other w5 ⟨gW,m,none⟩ p.block _ hne)).trans (hb6.cell hp)) fun hH=>?_
 refine wpAnyH_done (by kernel_rfl) ?_ _
 clear hH
 try simp only [Act.put,List.setIfInBounds_toArray,List.set_cons_zero,List.set_cons_succ,List.getElem_toArray,List.getElem_cons_zero,List.getElem_cons_succ]
 have HB7:Hid (Below b w (w5.setCell ⟨gW,m,none⟩ (.int .i64 v))):=((HB0.out.mono hbw).trans (hb6.mono (by have:=HB0.out.size;omega))).trans hb7
 have y0:=(World.cell?_of_block (a:=⟨w.heap.size,0,none⟩) (heap_setCell_other w5 ⟨gW,m,none⟩ w.heap.size (.int .i64 v) hneB)).trans ((hb6.cell (p:=⟨w.heap.size,0,none⟩) lB).trans e0)
 have y1:=(World.cell?_of_block (a:=⟨w.heap.size,1,none⟩) (heap_setCell_other w5 ⟨gW,m,none⟩ w.heap.size (.int .i64 v) hneB)).trans ((hb6.cell (p:=⟨w.heap.size,1,none⟩) lB).trans e1)
 have y2:=(World.cell?_of_block (a:=⟨w.heap.size,2,none⟩) (heap_setCell_other w5 ⟨gW,m,none⟩ w.heap.size (.int .i64 v) hneB)).trans ((hb6.cell (p:=⟨w.heap.size,2,none⟩) lB).trans e2)
 have y3:=(World.cell?_of_block (a:=⟨w.heap.size,3,none⟩) (heap_setCell_other w5 ⟨gW,m,none⟩ w.heap.size (.int .i64 v) hneB)).trans ((hb6.cell (p:=⟨w.heap.size,3,none⟩) lB).trans e3)
 have l7:w.heap.size<(w5.setCell ⟨gW,m,none⟩ (.int .i64 v)).heap.size:=by have:=hb6.size;have:=hb7.size;omega
 have HO7:=mk0 og7
 generalize w5.setCell ⟨gW,m,none⟩ (.int .i64 v)=W7 at*
 clear hb7 hb6 hb5 og5 og7 x0 x1 e0 e1 e2 e3 c0 HWD HO0 HB0 HE0 lB lG
 go_wp2_with fail
 refine (HIR.out _ HO7.out).mono ?_
 rintro r w8 ⟨rfl,hb8⟩
 have HO8:=mk0 (HO7.out.below hb8)
 have HB8:Hid (Below b w w8):=HB7.out.trans (hb8.mono (by have:=HB7.out.size;omega))
 have z0:=(hb8.cell (p:=⟨w.heap.size,0,none⟩) l7).trans y0
 have l8:w.heap.size<w8.heap.size:=by have:=hb8.size;omega
 clear hb8 HO7 HB7 HIR
 cases hr:refI d.fields t n with
 | false=>
   have HN0:=mk0 (HND.out (by unfold noteB;rw [hr];rfl))
   clear hr
   go_wp2_with fail
   go_end0
   exact ⟨rfl,⟨nO,by rw [HN0.out];exact HO8.out⟩,HB8.out⟩
 | true=>
   go_wp2_with fail
   refine (HIO.out _ HO8.out).mono ?_
   rintro r _ ⟨rfl,rfl⟩
   cases ho:decide (h.young<t.loc)with
   | false=>
     have HN0:=mk0 (HND.out (by unfold noteB;rw [hr,ho];rfl))
     clear hr ho
     go_wp2_with fail
     go_end0
     exact ⟨rfl,⟨nO,by rw [HN0.out];exact HO8.out⟩,HB8.out⟩
   | true=>
     go_wp2_with fail
     refine (HIY.out _ HO8.out).mono ?_
     rintro r _ ⟨rfl,rfl⟩
     cases hy:youngB h v with
     | false=>
       have HN0:=mk0 (HND.out (by unfold noteB;rw [hr,ho,hy];rfl))
       clear hr ho hy
       go_wp2_with fail
       go_end0
       exact ⟨rfl,⟨nO,by rw [HN0.out];exact HO8.out⟩,HB8.out⟩
     | true=>
       have HN1:=mk0 (HNT.out (by unfold noteB;rw [hr,ho,hy];rfl) _ HO8.out)
       clear hr ho hy
       go_wp2_with fail
       refine HN1.out.mono ?_
       rintro r w9 ⟨rfl,hO9,hb9⟩
       have HO9:=mk0 hO9
       have HB9:=mk0 (HB8.out.trans hb9)
       clear hO9 hb9
       go_wp2_with fail
       go_end0
       exact ⟨rfl,HO9.out,HB9.out⟩
theorem zmr {b e n len:Nat} {w:World} {v:Value} {xs:List Value} (h:w.ownsRow b e n v len xs):∃a c,v=.slice a len c:=by
 rcases h.2 with ⟨e1,e2⟩ | ⟨g,cap,cur,e1,-⟩
 ·exact ⟨none,0,by rw [e1,e2]⟩
 exact ⟨_,_,e1⟩
def NoteOk (B:Nat) (kC kS kF kN kT:Value) (d:LinkD) (h:HeapD) (loc:Int) (h':HeapD):Prop:=
 ∀(W:World) (b G:Nat) (nW nO:Value),Og b B W G nW nO kC kS kF kN kT h d->Calls Tryz.prog 188 #[.pointer (some ⟨G,0,none⟩),.int .i64 loc] W fun r w'=>r=.returned (.tuple #[])/\(∃nO',Og b B w' G nW nO' kC kS kF kN kT h' d)/\Below b W w'
def SetWOut (w:World) (h:HeapD) (d:LinkD) (ts:List ThD) (loc n v:Int) (r:Ending) (w':World):Prop:=
 (∃(t:ThD) (k:Nat),plAt ts loc=some t/\n=(k:Int)/\(k:Int)<t.len/\(refI d.fields t k=false\/leadB ts v=true)/\∃nW dW nO dO,r=.returned (.agg #[.slice nW (setD d h t k v).words.length dW,.int .i64 (setD d h t k v).young,.int .i64 (setD d h t k v).old,.int .i64 (setD d h t k v).ytop,.int .i64 (setD d h t k v).otop,.slice nO (setD d h t k v).noted.length dO,.int .i64 (setD d h t k v).next])/\OwnV w.heap.size w' (.slice nW (setD d h t k v).words.length dW) (.slice nO (setD d h t k v).noted.length dO) (setD d h t k v))\/
  (plAt ts loc=none/\r=.panicked [wrongV 5 0])\/(∃t,plAt ts loc=some t/\¬(0<=n/\n<t.len)/\r=.panicked [wrongV 3 0])\/
  (∃t,plAt ts loc=some t/\0<=n/\n<t.len/\refI d.fields t n.toNat=true/\leadB ts v=false/\r=.panicked [wrongV 5 0])
theorem zms (w:World) (X B:Nat) (vW vO kC kS kF kN kT vA:Value) (h:HeapD) (d:LinkD) (ts:List ThD) (hc:Cht X B w vW vO kC kS kF kN kT vA h d ts) (hl:Lain d h ts) (hl2:h.noted.length<=1000000) (loc n v:Int) (hwl:(Lit.int .i64 loc).wf=true) (hwv:(Lit.int .i64 v).wf=true)
 (hnt:∀(t:ThD) (k:Nat),plAt ts loc=some t->n=(k:Int)->(k:Int)<t.len->noteB d h t k v=true->NoteOk B kC kS kF kN kT d (setW h (t.loc+3+k).toNat v) t.loc (setD d h t k v)):
 Calls Tryz.prog 77 #[.agg #[.pointer (some ⟨X+1,0,none⟩)],.int .i64 loc,.int .i64 n,.int .i64 v] w fun r w'=>Below w.heap.size w w'/\SetWOut w h d ts loc n v r w':=by
 obtain ⟨W0,hW0,hB0,hs0,k0,k1⟩:=boxes2 w #[.pointer (some ⟨X+1,0,none⟩)] #[.slice none 0 0,.int .i64 0,.int .i64 0,.int .i64 0,.int .i64 0,.slice none 0 0,.int .i64 0] 88 24
 have hc0:=hc.below hB0
 have c0:=cl0 k0 0 (x:=.pointer (some ⟨X+1,0,none⟩)) rfl
 have HTW:=mk0 (zlk W0 X B _ _ _ _ _ _ _ vA h d ts hc0 loc n hwl)
 have HC0:=mk0 hc0
 have HWL:Hid (h.words.length<=1000000):=by have:=hl.words;show _<=_;omega
 have HL2:=mk0 hl2
 have HL:=mk0 hl
 have HWV:=mk0 hwv
 have HNT0:=mk0 hnt
 have HE0:=mk0 hW0
 have HB0:=mk0 hB0
 have HS0:=mk0 hs0
 have HK0:=mk0 (And.intro k0 k1)
 obtain ⟨aC,cC,aS,cS,aF,cF,aN,cN,aT,cT,rfl,rfl,rfl,rfl,rfl⟩:=hc.lk.agg
 have HMB:Hid (B<=X/\X+1<w.heap.size):=⟨hc.le,lt0 hc.blk⟩
 rw [HE0.out]at HTW
 clear hc hc0 hB0 hs0 k0 k1 hW0 hl hl2 hwl hwv hnt c0
 go_enter Tryz.func77,Tryz.ntmps77
 go_wp2_with fail
 refine HTW.out.mono ?_
 rw [<-HE0.out]
 rintro r w1 ⟨hb1,⟨t,hpl,hk0,hkl,rfl⟩ | ⟨hpl,rfl⟩ | ⟨t,hpl,h12,rfl⟩⟩
 rotate_left
 ·exact ⟨rfl,HB0.out.trans (hb1.mono HB0.out.size),Or.inr (Or.inl ⟨hpl,rfl⟩)⟩
 ·exact ⟨rfl,HB0.out.trans (hb1.mono HB0.out.size),Or.inr (Or.inr (Or.inl ⟨t,hpl,h12,rfl⟩))⟩
 obtain ⟨k,rfl⟩:∃k:Nat,n=(k:Int):=⟨n.toNat,by omega⟩
 have hs1:=hb1.size
 obtain ⟨ht,hloc⟩:=zie ts hpl
 have HFT:=mk0 (HL.out.fit t ht)
 have HNT:=mk0 (HNT0.out t k hpl rfl hkl)
 have HPL:=mk0 hpl
 obtain ⟨W3,hW3⟩:∃W3,W3=w1.alloc (.cells #[.int .i64 t.loc,.int .i64 t.tag,.int .i64 t.len,.int .i64 t.hash] 101):=⟨_,rfl⟩
 have hA3:Below w1.heap.size w1 W3:=hW3 ▸ (Below.refl _ _).alloc (Nat.le_refl _) _
 have hs3:=hA3.size
 have hb3:Below W0.heap.size W0 W3:=hb1.trans (hA3.mono hs1)
 have HS3:Hid (w.heap.size+1+1<=w1.heap.size/\w1.heap.size+1=W3.heap.size):=⟨by have:=HS0.out;omega,by rw [hW3];simp⟩
 have HB3:Hid (Below w.heap.size w W3):=HB0.out.trans (hb3.mono HB0.out.size)
 have HC3:=mk0 (HC0.out.below hb3)
 have k3:=(hb3.block _ (lt0 HK0.out.1)).trans HK0.out.1
 have m3:W3.heap[w1.heap.size]? =some (.cells #[.int .i64 t.loc,.int .i64 t.tag,.int .i64 t.len,.int .i64 t.hash] 101 (0,0)):=hW3 ▸ heap_alloc_new w1 _
 have HK3:=mk0 (And.intro k3 m3)
 have HKR:=mk0 ((hb3.block _ (lt0 HK0.out.2)).trans HK0.out.2)
 have lk3:=lt0 k3
 have lm3:=lt0 m3
 have b0:=cl0 k3 0 (x:=.pointer (some ⟨X+1,0,none⟩)) rfl
 have e0:=cl0 m3 0 (x:=.int .i64 t.loc) rfl
 have e1:=cl0 m3 1 (x:=.int .i64 t.tag) rfl
 have e2:=cl0 m3 2 (x:=.int .i64 t.len) rfl
 have e3:=cl0 m3 3 (x:=.int .i64 t.hash) rfl
 have HIR:Hid (∀V,Below W3.heap.size W3 V->Calls Tryz.prog 131 #[.pointer (some ⟨X+1,0,none⟩),.agg #[.int .i64 t.loc,.int .i64 t.tag,.int .i64 t.len,.int .i64 t.hash],.int .i64 (k:Int)] V fun r w'=>r=.returned (.bool (refI d.fields t k))/\Below V.heap.size V w'):=fun V hV=>zfa V B (X+1) _ _ _ _ _ _ _ h d (HC3.out.below hV).gd t HFT.out.1 k hkl
 have HML:Hid (∀V,Below W3.heap.size W3 V->Calls Tryz.prog 132 #[.pointer (some ⟨X+1,0,none⟩),.int .i64 v] V fun r w'=>r=.returned (.bool (leadB ts v))/\Below V.heap.size V w'):=fun V hV=>zhv V X B _ _ _ _ _ _ _ vA h d ts (HC3.out.below hV) v HWV.out
 have HW3:=mk0 hW3
 unfold thV
 clear hpl hb1 ht hloc hW3 hA3 hb3 k3 m3 HTW HL HNT0
 cases hrf:refI d.fields t k with
 | false=>
   go_wp2_with fail
   rw [<-HW3.out]
   refine wp_region_held_drew (S:=fun W'=>∀p:Addr,p.block<W3.heap.size->W'.cell? p=W3.cell? p) (by kernel_rfl) (fun p hp=>rfl) fun hH=>?_
   refine ta 0 (.pointer (some ⟨w.heap.size,0,none⟩)) rfl hH ?_
   refine ta 1 (.pointer (some ⟨X+1,0,none⟩)) rfl hH ?_
   refine ta 2 (.pointer (some ⟨X+1,0,none⟩)) rfl hH ?_
   refine ta 3 (.pointer (some ⟨X+1,0,none⟩)) rfl hH ?_
   refine ta 4 (.agg #[.int .i64 t.loc,.int .i64 t.tag,.int .i64 t.len,.int .i64 t.hash]) rfl hH ?_
   refine ta 5 (.int .i64 (k:Int)) rfl hH ?_
   refine wpAnyH_ready (rs:=[6]) (by kernel_rfl) (by simp) ?_
   refine AllReadyH.cons rfl (fun K6 hK6=>?_) AllReadyH.nil
   go_simp
   refine (HIR.out _ (Below.refl _ _).drew).mono ?_
   rintro r w5 ⟨rfl,hb5⟩
   rw [hrf]
   have hb6:Below W3.heap.size W3 w5:=(Below.refl W3.heap.size W3).drew.trans hb5
   refine hK6.out _ _ (fun p hp=>hb6.cell hp) fun hH=>?_
   refine ta 7 (.bool true) rfl hH ?_
   refine ta 8 (.bool true) rfl hH ?_
   refine tan 9 rfl hH ?_
   refine tan 10 rfl hH ?_
   refine tan 11 rfl hH ?_
   refine tan 12 rfl hH ?_
   refine ta 13 (.bool true) rfl hH ?_
   refine wpAnyH_ready (rs:=[14]) (by kernel_rfl) (by simp) ?_
   refine AllReadyH.cons rfl (fun K14 hK14=>?_) AllReadyH.nil
   go_simp
   refine (dm0 _ _ _).mono ?_
   rintro r w8 ⟨rfl,⟨hb,rfl⟩ | ⟨hb,rfl⟩⟩
   ·exact absurd hb (by simp)
   clear hb
   refine hK14.out _ _ (fun p hp=>hb6.cell hp) fun hH=>?_
   refine wpAnyH_done (by kernel_rfl) ?_ _
   clear hH
   try simp only [Act.put,List.setIfInBounds_toArray,List.set_cons_zero,List.set_cons_succ,List.getElem_toArray,List.getElem_cons_zero,List.getElem_cons_succ]
   have hB4:Below W3.heap.size W3 w8:=hb6
   generalize w8=w4 at*
   have hs4:=hB4.size
   have hc4:=HC3.out.below hB4
   have k4:=(hB4.block _ (lt0 HK3.out.1)).trans HK3.out.1
   have lk4:=lt0 k4
   have c0:=cl0 k4 0 (x:=.pointer (some ⟨X+1,0,none⟩)) rfl
   have HOWN:=mk0 (zln w4 X B _ _ _ _ _ _ _ vA h d ts hc4 HWL.out HL2.out)
   have HB4:=mk0 hB4
   clear hB4 hc4 k4 hb5 hb6
   go_wp2_with fail
   refine HOWN.out.mono ?_
   rintro r w6 ⟨hb6,nW,dW,nO,dO,rfl,hov⟩
   have hs6:=hb6.size
   obtain ⟨W7,hW7⟩:∃W7,W7=w6.alloc (.cells #[.slice nW h.words.length dW,.int .i64 h.young,.int .i64 h.old,.int .i64 h.ytop,.int .i64 h.otop,.slice nO h.noted.length dO,.int .i64 h.next,.slice aC d.classes.length cC,.slice aS d.supers.length cS,.slice aF d.fields.length cF,.slice aN d.names.length cN,.slice aT d.targets.length cT] 129):=⟨_,rfl⟩
   have hA7:Below w6.heap.size w6 W7:=hW7 ▸ (Below.refl _ _).alloc (Nat.le_refl _) _
   have hs7:=hA7.size
   have hs3:=HS3.out
   have hb37:Below W3.heap.size W3 W7:=(HB4.out.trans (hb6.mono hs4)).trans (hA7.mono (by omega))
   have hog:Og w4.heap.size B W7 w6.heap.size (.slice nW h.words.length dW) (.slice nO h.noted.length dO) (.slice aC d.classes.length cC) (.slice aS d.supers.length cS) (.slice aF d.fields.length cF) (.slice aN d.names.length cN) (.slice aT d.targets.length cT) h d:=by
    have h0:=HMB.out
    refine ⟨hW7 ▸ heap_alloc_new w6 _,hov.below hA7,(HC3.out.below hb37).lk,by omega,hs6,fun e=>by have:=(hov.rW.lt _ e).2;omega,fun e=>by have:=(hov.rO.lt _ e).2;omega⟩
   have HGS:=mk0 (zmq W7 w4.heap.size B w6.heap.size _ _ _ _ _ _ _ h d hog t HFT.out.1 k hkl v HWL.out HL2.out HFT.out.2.1 HFT.out.2.2 (fun e W o=>HNT.out e W _ _ _ _ o))
   have m1:=((HB4.out.trans (hb6.mono hs4)).block _ (lt0 HK3.out.2)).trans HK3.out.2
   have lm1:=lt0 m1
   have d0:=cl0 m1 0 (x:=.int .i64 t.loc) rfl
   have d1:=cl0 m1 1 (x:=.int .i64 t.tag) rfl
   have d2:=cl0 m1 2 (x:=.int .i64 t.len) rfl
   have d3:=cl0 m1 3 (x:=.int .i64 t.hash) rfl
   have HB37:=mk0 hb37
   have HW7:=mk0 hW7
   unfold thV at HGS
   clear hb6 hov hb37 hog m1 hA7 hW7 HOWN
   go_wp2_with fail
   rw [<-HW7.out]
   refine HGS.out.mono ?_
   rintro r w8 ⟨rfl,⟨nO',hog8⟩,hb8⟩
   obtain ⟨nO2,dO2,rfl⟩:=zmr hog8.ov.rO
   obtain ⟨hm,hhm⟩:∃hm,setD d h t k v=hm:=⟨_,rfl⟩
   have HHM:=mk0 hhm
   have hwl:hm.words.length=h.words.length:=by rw [<-hhm];simp [setD]
   rw [hhm,<-hwl]at hog8
   have g8:=hog8.blk
   have lg8:=lt0 g8
   have j0:=cl0 g8 0 (x:=.slice nW hm.words.length dW) rfl
   have j1:=cl0 g8 1 (x:=.int .i64 hm.young) rfl
   have j2:=cl0 g8 2 (x:=.int .i64 hm.old) rfl
   have j3:=cl0 g8 3 (x:=.int .i64 hm.ytop) rfl
   have j4:=cl0 g8 4 (x:=.int .i64 hm.otop) rfl
   have j5:=cl0 g8 5 (x:=.slice nO2 hm.noted.length dO2) rfl
   have j6:=cl0 g8 6 (x:=.int .i64 hm.next) rfl
   have hsz:=HB37.out.size
   have hb38:Below W3.heap.size W3 w8:=HB37.out.trans (hb8.mono (by omega))
   have k8:=(hb38.block _ (lt0 HKR.out)).trans HKR.out
   have hB8:Below w.heap.size w w8:=HB3.out.trans (hb38.mono HB3.out.size)
   obtain ⟨W9,h9,hgS,hq,hr,rz,rl⟩:=setN (zs:=[.slice none 0 0,.int .i64 0,.int .i64 0,.int .i64 0,.int .i64 0,.slice none 0 0,.int .i64 0]) k8 [.slice nW hm.words.length dW,.int .i64 hm.young,.int .i64 hm.old,.int .i64 hm.ytop,.int .i64 hm.otop,.slice nO2 hm.noted.length dO2,.int .i64 hm.next] rfl
   have r0:=hr 0 _ rfl
   have r1:=hr 1 _ rfl
   have r2:=hr 2 _ rfl
   have r3:=hr 3 _ rfl
   have r4:=hr 4 _ rfl
   have r5:=hr 5 _ rfl
   have r6:=hr 6 _ rfl
   have q0:=hq 0 _ rfl
   have q1:=hq 1 _ rfl
   have q2:=hq 2 _ rfl
   have q3:=hq 3 _ rfl
   have q4:=hq 4 _ rfl
   have q5:=hq 5 _ rfl
   have q6:=hq 6 _ rfl
   have hw9:=hgS.size
   have HB9:=mk0 (bg0 (hB8) hgS (by omega))
   have HG9:=mk0 hgS
   simp only [setL,Nat.reduceAdd]at h9
   have H9:=mk0 h9
   clear hgS hq hr h9
   have HOF:Hid (OwnV w.heap.size W9 (.slice nW hm.words.length dW) (.slice nO2 hm.noted.length dO2) hm):=(hog8.ov.mono (by omega)).grown HG9.out (fun e=>by have:=(hog8.ov.rW.lt _ e).1;omega) (fun e=>by have:=(hog8.ov.rO.lt _ e).1;omega)
   clear hog8 hb8 hb38 g8 k8 hB8 hhm hwl HGS HB37 HW7 d0 d1 d2 d3
   go_wp2_with fail
   rw [H9.out]
   refine bodyPost_ret (v:=.agg #[.slice nW hm.words.length dW,.int .i64 hm.young,.int .i64 hm.old,.int .i64 hm.ytop,.int .i64 hm.otop,.slice nO2 hm.noted.length dO2,.int .i64 hm.next]) (by simp [results,Tryz.results77,go_sem,q0,q1,q2,q3,q4,q5,q6]) rfl ⟨HB9.out,Or.inl ⟨t,k,HPL.out,rfl,hkl,Or.inl hrf,nW,dW,nO2,dO2,?_,?_⟩⟩
   ·rw [HHM.out]
   rw [HHM.out]
   exact HOF.out
 | true=>
   cases hle:leadB ts v with
   | false=>
     go_wp2_with fail
     rw [<-HW3.out]
     refine wp_region_held_drew (S:=fun W'=>∀p:Addr,p.block<W3.heap.size->W'.cell? p=W3.cell? p) (by kernel_rfl) (fun p hp=>rfl) fun hH=>?_
     refine ta 0 (.pointer (some ⟨w.heap.size,0,none⟩)) rfl hH ?_
     refine ta 1 (.pointer (some ⟨X+1,0,none⟩)) rfl hH ?_
     refine ta 2 (.pointer (some ⟨X+1,0,none⟩)) rfl hH ?_
     refine ta 3 (.pointer (some ⟨X+1,0,none⟩)) rfl hH ?_
     refine ta 4 (.agg #[.int .i64 t.loc,.int .i64 t.tag,.int .i64 t.len,.int .i64 t.hash]) rfl hH ?_
     refine ta 5 (.int .i64 (k:Int)) rfl hH ?_
     refine wpAnyH_ready (rs:=[6]) (by kernel_rfl) (by simp) ?_
     refine AllReadyH.cons rfl (fun K6 hK6=>?_) AllReadyH.nil
     go_simp
     refine (HIR.out _ (Below.refl _ _).drew).mono ?_
     rintro r w5 ⟨rfl,hb5⟩
     rw [hrf]
     have hb6:Below W3.heap.size W3 w5:=(Below.refl W3.heap.size W3).drew.trans hb5
     refine hK6.out _ _ (fun p hp=>hb6.cell hp) fun hH=>?_
     refine ta 7 (.bool false) rfl hH ?_
     refine ta 8 (.bool false) rfl hH ?_
     refine ta 9 (.pointer (some ⟨w.heap.size,0,none⟩)) rfl hH ?_
     refine ta 10 (.pointer (some ⟨X+1,0,none⟩)) rfl hH ?_
     refine ta 11 (.int .i64 v) rfl hH ?_
     refine wpAnyH_ready (rs:=[12]) (by kernel_rfl) (by simp) ?_
     refine AllReadyH.cons rfl (fun K12 hK12=>?_) AllReadyH.nil
     go_simp
     refine (HML.out _ hb6).mono ?_
     rintro r w6 ⟨rfl,hb7⟩
     rw [hle]
     have hb8:Below W3.heap.size W3 w6:=hb6.trans (hb7.mono hb6.size)
     refine hK12.out _ _ (fun p hp=>hb8.cell hp) fun hH=>?_
     refine ta 13 (.bool false) rfl hH ?_
     refine wpAnyH_ready (rs:=[14]) (by kernel_rfl) (by simp) ?_
     refine AllReadyH.cons rfl (fun K14 hK14=>?_) AllReadyH.nil
     go_simp
     refine (dm0 _ _ _).mono ?_
     rintro r w8 ⟨rfl,⟨hb,rfl⟩ | ⟨hb,rfl⟩⟩
     rotate_left
     ·exact absurd hb (by simp)
     exact ⟨rfl,HB3.out.trans (hb8.mono HB3.out.size),Or.inr (Or.inr (Or.inr ⟨t,HPL.out,hk0,hkl,by simpa using hrf,hle,rfl⟩))⟩
   | true=>
     go_wp2_with fail
     rw [<-HW3.out]
     refine wp_region_held_drew (S:=fun W'=>∀p:Addr,p.block<W3.heap.size->W'.cell? p=W3.cell? p) (by kernel_rfl) (fun p hp=>rfl) fun hH=>?_
     refine ta 0 (.pointer (some ⟨w.heap.size,0,none⟩)) rfl hH ?_
     refine ta 1 (.pointer (some ⟨X+1,0,none⟩)) rfl hH ?_
     refine ta 2 (.pointer (some ⟨X+1,0,none⟩)) rfl hH ?_
     refine ta 3 (.pointer (some ⟨X+1,0,none⟩)) rfl hH ?_
     refine ta 4 (.agg #[.int .i64 t.loc,.int .i64 t.tag,.int .i64 t.len,.int .i64 t.hash]) rfl hH ?_
     refine ta 5 (.int .i64 (k:Int)) rfl hH ?_
     refine wpAnyH_ready (rs:=[6]) (by kernel_rfl) (by simp) ?_
     refine AllReadyH.cons rfl (fun K6 hK6=>?_) AllReadyH.nil
     go_simp
     refine (HIR.out _ (Below.refl _ _).drew).mono ?_
     rintro r w5 ⟨rfl,hb5⟩
     rw [hrf]
     have hb6:Below W3.heap.size W3 w5:=(Below.refl W3.heap.size W3).drew.trans hb5
     refine hK6.out _ _ (fun p hp=>hb6.cell hp) fun hH=>?_
     refine ta 7 (.bool false) rfl hH ?_
     refine ta 8 (.bool false) rfl hH ?_
     refine ta 9 (.pointer (some ⟨w.heap.size,0,none⟩)) rfl hH ?_
     refine ta 10 (.pointer (some ⟨X+1,0,none⟩)) rfl hH ?_
     refine ta 11 (.int .i64 v) rfl hH ?_
     refine wpAnyH_ready (rs:=[12]) (by kernel_rfl) (by simp) ?_
     refine AllReadyH.cons rfl (fun K12 hK12=>?_) AllReadyH.nil
     go_simp
     refine (HML.out _ hb6).mono ?_
     rintro r w6 ⟨rfl,hb7⟩
     rw [hle]
     have hb8:Below W3.heap.size W3 w6:=hb6.trans (hb7.mono hb6.size)
     refine hK12.out _ _ (fun p hp=>hb8.cell hp) fun hH=>?_
     refine ta 13 (.bool true) rfl hH ?_
     refine wpAnyH_ready (rs:=[14]) (by kernel_rfl) (by simp) ?_
     refine AllReadyH.cons rfl (fun K14 hK14=>?_) AllReadyH.nil
     go_simp
     refine (dm0 _ _ _).mono ?_
     rintro r w8 ⟨rfl,⟨hb,rfl⟩ | ⟨hb,rfl⟩⟩
     ·exact absurd hb (by simp)
     clear hb
     refine hK14.out _ _ (fun p hp=>hb8.cell hp) fun hH=>?_
     refine wpAnyH_done (by kernel_rfl) ?_ _
     clear hH
     try simp only [Act.put,List.setIfInBounds_toArray,List.set_cons_zero,List.set_cons_succ,List.getElem_toArray,List.getElem_cons_zero,List.getElem_cons_succ]
     have hB4:Below W3.heap.size W3 w8:=hb8
     generalize w8=w4 at*
     have hs4:=hB4.size
     have hc4:=HC3.out.below hB4
     have k4:=(hB4.block _ (lt0 HK3.out.1)).trans HK3.out.1
     have lk4:=lt0 k4
     have c0:=cl0 k4 0 (x:=.pointer (some ⟨X+1,0,none⟩)) rfl
     have HOWN:=mk0 (zln w4 X B _ _ _ _ _ _ _ vA h d ts hc4 HWL.out HL2.out)
     have HB4:=mk0 hB4
     clear hB4 hc4 k4 hb5 hb6 hb7 hb8
     go_wp2_with fail
     refine HOWN.out.mono ?_
     rintro r w6 ⟨hb6,nW,dW,nO,dO,rfl,hov⟩
     have hs6:=hb6.size
     obtain ⟨W7,hW7⟩:∃W7,W7=w6.alloc (.cells #[.slice nW h.words.length dW,.int .i64 h.young,.int .i64 h.old,.int .i64 h.ytop,.int .i64 h.otop,.slice nO h.noted.length dO,.int .i64 h.next,.slice aC d.classes.length cC,.slice aS d.supers.length cS,.slice aF d.fields.length cF,.slice aN d.names.length cN,.slice aT d.targets.length cT] 129):=⟨_,rfl⟩
     have hA7:Below w6.heap.size w6 W7:=hW7 ▸ (Below.refl _ _).alloc (Nat.le_refl _) _
     have hs7:=hA7.size
     have hs3:=HS3.out
     have hb37:Below W3.heap.size W3 W7:=(HB4.out.trans (hb6.mono hs4)).trans (hA7.mono (by omega))
     have hog:Og w4.heap.size B W7 w6.heap.size (.slice nW h.words.length dW) (.slice nO h.noted.length dO) (.slice aC d.classes.length cC) (.slice aS d.supers.length cS) (.slice aF d.fields.length cF) (.slice aN d.names.length cN) (.slice aT d.targets.length cT) h d:=by
      have h0:=HMB.out
      refine ⟨hW7 ▸ heap_alloc_new w6 _,hov.below hA7,(HC3.out.below hb37).lk,by omega,hs6,fun e=>by have:=(hov.rW.lt _ e).2;omega,fun e=>by have:=(hov.rO.lt _ e).2;omega⟩
     have HGS:=mk0 (zmq W7 w4.heap.size B w6.heap.size _ _ _ _ _ _ _ h d hog t HFT.out.1 k hkl v HWL.out HL2.out HFT.out.2.1 HFT.out.2.2 (fun e W o=>HNT.out e W _ _ _ _ o))
     have m1:=((HB4.out.trans (hb6.mono hs4)).block _ (lt0 HK3.out.2)).trans HK3.out.2
     have lm1:=lt0 m1
     have d0:=cl0 m1 0 (x:=.int .i64 t.loc) rfl
     have d1:=cl0 m1 1 (x:=.int .i64 t.tag) rfl
     have d2:=cl0 m1 2 (x:=.int .i64 t.len) rfl
     have d3:=cl0 m1 3 (x:=.int .i64 t.hash) rfl
     have HB37:=mk0 hb37
     have HW7:=mk0 hW7
     unfold thV at HGS
     clear hb6 hov hb37 hog m1 hA7 hW7 HOWN
     go_wp2_with fail
     rw [<-HW7.out]
     refine HGS.out.mono ?_
     rintro r w8 ⟨rfl,⟨nO',hog8⟩,hb8⟩
     obtain ⟨nO2,dO2,rfl⟩:=zmr hog8.ov.rO
     obtain ⟨hm,hhm⟩:∃hm,setD d h t k v=hm:=⟨_,rfl⟩
     have HHM:=mk0 hhm
     have hwl:hm.words.length=h.words.length:=by rw [<-hhm];simp [setD]
     rw [hhm,<-hwl]at hog8
     have g8:=hog8.blk
     have lg8:=lt0 g8
     have j0:=cl0 g8 0 (x:=.slice nW hm.words.length dW) rfl
     have j1:=cl0 g8 1 (x:=.int .i64 hm.young) rfl
     have j2:=cl0 g8 2 (x:=.int .i64 hm.old) rfl
     have j3:=cl0 g8 3 (x:=.int .i64 hm.ytop) rfl
     have j4:=cl0 g8 4 (x:=.int .i64 hm.otop) rfl
     have j5:=cl0 g8 5 (x:=.slice nO2 hm.noted.length dO2) rfl
     have j6:=cl0 g8 6 (x:=.int .i64 hm.next) rfl
     have hsz:=HB37.out.size
     have hb38:Below W3.heap.size W3 w8:=HB37.out.trans (hb8.mono (by omega))
     have k8:=(hb38.block _ (lt0 HKR.out)).trans HKR.out
     have hB8:Below w.heap.size w w8:=HB3.out.trans (hb38.mono HB3.out.size)
     obtain ⟨W9,h9,hgS,hq,hr,rz,rl⟩:=setN (zs:=[.slice none 0 0,.int .i64 0,.int .i64 0,.int .i64 0,.int .i64 0,.slice none 0 0,.int .i64 0]) k8 [.slice nW hm.words.length dW,.int .i64 hm.young,.int .i64 hm.old,.int .i64 hm.ytop,.int .i64 hm.otop,.slice nO2 hm.noted.length dO2,.int .i64 hm.next] rfl
     have r0:=hr 0 _ rfl
     have r1:=hr 1 _ rfl
     have r2:=hr 2 _ rfl
     have r3:=hr 3 _ rfl
     have r4:=hr 4 _ rfl
     have r5:=hr 5 _ rfl
     have r6:=hr 6 _ rfl
     have q0:=hq 0 _ rfl
     have q1:=hq 1 _ rfl
     have q2:=hq 2 _ rfl
     have q3:=hq 3 _ rfl
     have q4:=hq 4 _ rfl
     have q5:=hq 5 _ rfl
     have q6:=hq 6 _ rfl
     have hw9:=hgS.size
     have HB9:=mk0 (bg0 (hB8) hgS (by omega))
     have HG9:=mk0 hgS
     simp only [setL,Nat.reduceAdd]at h9
     have H9:=mk0 h9
     clear hgS hq hr h9
     have HOF:Hid (OwnV w.heap.size W9 (.slice nW hm.words.length dW) (.slice nO2 hm.noted.length dO2) hm):=(hog8.ov.mono (by omega)).grown HG9.out (fun e=>by have:=(hog8.ov.rW.lt _ e).1;omega) (fun e=>by have:=(hog8.ov.rO.lt _ e).1;omega)
     clear hog8 hb8 hb38 g8 k8 hB8 hhm hwl HGS HB37 HW7 d0 d1 d2 d3
     go_wp2_with fail
     rw [H9.out]
     refine bodyPost_ret (v:=.agg #[.slice nW hm.words.length dW,.int .i64 hm.young,.int .i64 hm.old,.int .i64 hm.ytop,.int .i64 hm.otop,.slice nO2 hm.noted.length dO2,.int .i64 hm.next]) (by simp [results,Tryz.results77,go_sem,q0,q1,q2,q3,q4,q5,q6]) rfl ⟨HB9.out,Or.inl ⟨t,k,HPL.out,rfl,hkl,Or.inr hle,nW,dW,nO2,dO2,?_,?_⟩⟩
     ·rw [HHM.out]
     rw [HHM.out]
     exact HOF.out
end Go.Proofs.YtjdnmblggdobgaaGreat
