import Derived.Test.YtjdnmblggdobgaaGreatJTk2Dies
import Derived.Test.YtjdnmblggdobgaaGreatJHtKHtM
import Derived.Test.YtjdnmblggdobgaaGreatJHmMHmH
set_option maxHeartbeats 4000000
set_option maxRecDepth 100000
namespace Go.Proofs.YtjdnmblggdobgaaGreat
open Go.RowKit Go.Maps
def setErr (d:LinkD) (h:HeapD) (loc n v:Int):Int:=if getErr d h loc n=0 then (if refI d.fields (atOr (tsOf d h) loc) n.toNat=true/\leadB (tsOf d h) v=false then 5 else 0) else getErr d h loc n
def setH (d:LinkD) (h:HeapD) (loc n v:Int):HeapD:=setD d h (atOr (tsOf d h) loc) n.toNat v
theorem zmv {d:LinkD} {h:HeapD} {loc n v:Int} (h0:heapErr d h≠0):heapErr d h=setErr d h loc n v:=by
 unfold setErr
 rw [<-zmi h0,if_neg h0]
theorem zmw {d:LinkD} {h:HeapD} {loc n v:Int} {ts:List ThD} (h0:heapErr d h=0) (hts:bothT d h=some ts) (hp:plAt ts loc=none):setErr d h loc n v=5:=by
 unfold setErr
 rw [zmj h0 hts hp,if_neg (by decide)]
theorem zmx {d:LinkD} {h:HeapD} {loc n v:Int} {ts:List ThD} {t:ThD} (h0:heapErr d h=0) (hts:bothT d h=some ts) (hp:plAt ts loc=some t) (hn:¬(0<=n/\n<t.len)):setErr d h loc n v=3:=by
 unfold setErr
 rw [zmk h0 hts hp hn,if_neg (by decide)]
theorem zmy {d:LinkD} {h:HeapD} {loc n v:Int} {ts:List ThD} {t:ThD} (h0:heapErr d h=0) (hts:bothT d h=some ts) (hp:plAt ts loc=some t) (h1:0<=n) (h2:n<t.len) (hr:refI d.fields t n.toNat=true) (hl:leadB ts v=false):setErr d h loc n v=5:=by
 unfold setErr
 rw [zml h0 hts hp h1 h2,if_pos rfl,(zmh h0 hts hp).2,if_pos ⟨hr,by unfold tsOf;rw [hts];exact hl⟩]
theorem zmz {d:LinkD} {h:HeapD} {loc n v:Int} {ts:List ThD} {t:ThD} {k:Nat} (h0:heapErr d h=0) (hts:bothT d h=some ts) (hp:plAt ts loc=some t) (hn:n=(k:Int)) (h2:(k:Int)<t.len) (hr:refI d.fields t k=false\/leadB ts v=true):setErr d h loc n v=0:=by
 subst hn
 unfold setErr
 rw [zml h0 hts hp (by omega) h2,if_pos rfl,(zmh h0 hts hp).2,if_neg]
 rintro ⟨e1,e2⟩
 unfold tsOf at e2
 rw [hts]at e2
 have e3:leadB ts v=false:=e2
 rw [Int.toNat_natCast]at e1
 rcases hr with hr | hr
 ·rw [hr]at e1;cases e1
 rw [hr]at e3;cases e3
theorem zm0 {d:LinkD} {h:HeapD} {loc n v:Int} {ts:List ThD} {t:ThD} {k:Nat} (hts:bothT d h=some ts) (hp:plAt ts loc=some t) (hn:n=(k:Int)):setH d h loc n v=setD d h t k v:=by
 subst hn
 unfold setH tsOf atOr
 rw [hts]
 simp [hp]
def SetV (b:Nat) (d:LinkD) (h:HeapD) (loc n v:Int) (x:Value) (w:World):Prop:=setErr d h loc n v=0/\∃nW dW nO dO,x=.agg #[.slice nW (setH d h loc n v).words.length dW,.int .i64 (setH d h loc n v).young,.int .i64 (setH d h loc n v).old,.int .i64 (setH d h loc n v).ytop,.int .i64 (setH d h loc n v).otop,.slice nO (setH d h loc n v).noted.length dO,.int .i64 (setH d h loc n v).next]/\OwnV b w (.slice nW (setH d h loc n v).words.length dW) (.slice nO (setH d h loc n v).noted.length dO) (setH d h loc n v)
theorem zm1 (w:World) (B P0 P1 P2 P3 P4:Nat) (vW vO kC kS kF kN kT:Value) (h:HeapD) (d:LinkD) (g:Hd B w vW vO kC kS kF kN kT h d) (loc n v:Int) (hwf:(Lit.int .i64 loc).wf=true/\(Lit.int .i64 v).wf=true) (hnt:heapErr d h=0->∀(t:ThD) (k:Nat),plAt (tsOf d h) loc=some t->n=(k:Int)->(k:Int)<t.len->noteB d h t k v=true->NoteOk B kC kS kF kN kT d (setW h (t.loc+3+k).toNat v) t.loc (setD d h t k v)) (k0:w.heap[P0]? =some (.cells #[vW,.int .i64 h.young,.int .i64 h.old,.int .i64 h.ytop,.int .i64 h.otop,vO,.int .i64 h.next] 24 (0,0))) (k1:w.heap[P1]? =some (.cells #[kC,kS,kF,kN,kT] 36 (0,0))) (k2:w.heap[P2]? =some (.cells #[.int .i64 loc] 3 (0,0))) (k3:w.heap[P3]? =some (.cells #[.int .i64 n] 3 (0,0))) (k4:w.heap[P4]? =some (.cells #[.int .i64 v] 3 (0,0))):
 Calls Tryz.prog 76 #[.pointer (some ⟨P0,0,none⟩),.pointer (some ⟨P1,0,none⟩),.pointer (some ⟨P2,0,none⟩),.pointer (some ⟨P3,0,none⟩),.pointer (some ⟨P4,0,none⟩)] w fun r w'=>Below w.heap.size w w'/\((∃x,r=.returned x/\IsHp x/\SetV w.heap.size d h loc n v x w')\/∃e p,r=.panicked [wrongV e p]/\e=setErr d h loc n v/\p=0/\setErr d h loc n v≠0):=by
 have HWF:=mk0 hwf
 have HNT:=mk0 hnt
 clear hwf hnt
 obtain ⟨W0,hW0⟩:∃W0,W0=w.alloc (.cells #[.slice none 0 0,.int .i64 0,.int .i64 0,.int .i64 0,.int .i64 0,.slice none 0 0,.int .i64 0] 24):=⟨_,rfl⟩
 have hB0:Below w.heap.size w W0:=hW0 ▸ (Below.refl _ _).alloc (Nat.le_refl _) _
 have hb0:W0.heap[w.heap.size]? =some (.cells #[.slice none 0 0,.int .i64 0,.int .i64 0,.int .i64 0,.int .i64 0,.slice none 0 0,.int .i64 0] 24 (0,0)):=hW0 ▸ heap_alloc_new w _
 have HS0:Hid (W0.heap.size=w.heap.size+1):=by show _=_;rw [hW0];simp
 have l0:=lt0 k0
 have k0':=(hB0.block _ l0).trans k0
 have l1:=lt0 k1
 have k1':=(hB0.block _ l1).trans k1
 have l2:=lt0 k2
 have k2':=(hB0.block _ l2).trans k2
 have l3:=lt0 k3
 have k3':=(hB0.block _ l3).trans k3
 have l4:=lt0 k4
 have k4':=(hB0.block _ l4).trans k4
 have c0:=cl0 k0' 0 (x:=vW) rfl
 have c1:=cl0 k0' 1 (x:=.int .i64 h.young) rfl
 have c2:=cl0 k0' 2 (x:=.int .i64 h.old) rfl
 have c3:=cl0 k0' 3 (x:=.int .i64 h.ytop) rfl
 have c4:=cl0 k0' 4 (x:=.int .i64 h.otop) rfl
 have c5:=cl0 k0' 5 (x:=vO) rfl
 have c6:=cl0 k0' 6 (x:=.int .i64 h.next) rfl
 have e0:=cl0 k1' 0 (x:=kC) rfl
 have e1:=cl0 k1' 1 (x:=kS) rfl
 have e2:=cl0 k1' 2 (x:=kF) rfl
 have e3:=cl0 k1' 3 (x:=kN) rfl
 have e4:=cl0 k1' 4 (x:=kT) rfl
 have b2:=cl0 k2' 0 (x:=.int .i64 loc) rfl
 have b3:=cl0 k3' 0 (x:=.int .i64 n) rfl
 have b4:=cl0 k4' 0 (x:=.int .i64 v) rfl
 have HCK:Hid (∀V,Below W0.heap.size W0 V->Calls Tryz.prog 53 #[.agg #[vW,.int .i64 h.young,.int .i64 h.old,.int .i64 h.ytop,.int .i64 h.otop,vO,.int .i64 h.next],.agg #[kC,kS,kF,kN,kT]] V fun r w'=>Below V.heap.size V w'/\HeapOut V B vW vO kC kS kF kN kT h d r w'):=fun V hV=>zlc (g.below ((hB0.trans (hV.mono hB0.size)).mono g.le))
 have HB0:=mk0 hB0
 have HG:=mk0 g
 have HE0:=mk0 hW0
 have HK0:=mk0 hb0
 obtain ⟨aW,cW,aO,cO,aC,cC,aS,cS,aF,cF,aN,cN,aT,cT,rfl,rfl,rfl,rfl,rfl,rfl,rfl⟩:=g.agg
 clear g hB0 hW0 hb0 k0 k0' k1 k1' k2 k2' k3 k3' k4 k4'
 go_enter Tryz.func76,Tryz.ntmps76
 go_wp2_with fail
 rw [<-HE0.out]
 refine wp_region_held_drew (S:=fun W'=>∀p:Addr,p.block<w.heap.size->W'.cell? p=W0.cell? p) (by kernel_rfl) (fun p hp=>rfl) fun hH=>?_
 refine ta 0 (.agg #[.slice aW h.words.length cW,.int .i64 h.young,.int .i64 h.old,.int .i64 h.ytop,.int .i64 h.otop,.slice aO h.noted.length cO,.int .i64 h.next]) rfl hH ?_
 refine ta 1 (.agg #[.slice aC d.classes.length cC,.slice aS d.supers.length cS,.slice aF d.fields.length cF,.slice aN d.names.length cN,.slice aT d.targets.length cT]) rfl hH ?_
 refine ta 3 (.int .i64 loc) rfl hH ?_
 refine ta 4 (.int .i64 n) rfl hH ?_
 refine ta 5 (.int .i64 v) rfl hH ?_
 refine wpAnyH_ready (rs:=[2]) (by kernel_rfl) (by simp) ?_
 refine AllReadyH.cons rfl (fun K2 hK2=>?_) AllReadyH.nil
 go_simp
 refine (HCK.out _ (Below.refl _ _).drew).mono ?_
 rintro r w5 ⟨hb5,⟨h0,X,vA,ts,rfl,hts,hX,hcht⟩ | ⟨h0,rfl⟩⟩
 rotate_left
 ·exact ⟨rfl,HB0.out.trans (((Below.refl W0.heap.size W0).drew.trans hb5).mono HB0.out.size),Or.inr ⟨_,_,rfl,zmv h0,rfl,by rw [<-zmv h0];exact h0⟩⟩
 have hb6:Below W0.heap.size W0 w5:=(Below.refl W0.heap.size W0).drew.trans hb5
 have HOK:=mk0 (zma h0 hts HG.out.ww)
 have HLN:=mk0 (zkp HOK.out.2.1 HOK.out.1 HG.out.ww hts)
 have HTS:=mk0 hts
 have H00:=mk0 h0
 have HCO:=mk0 (zms w5 X B _ _ _ _ _ _ _ vA h d ts hcht HLN.out HOK.out.2.2 loc n v HWF.out.1 HWF.out.2 (fun t k hp=>HNT.out h0 t k (by unfold tsOf;rw [HTS.out];exact hp)))
 have hs6:=hb6.size
 refine hK2.out _ _ (fun p hp=>hb6.cell (by have:=HS0.out;omega)) fun hH=>?_
 refine wpAnyH_ready (rs:=[6]) (by kernel_rfl) (by simp) ?_
 refine AllReadyH.cons rfl (fun K6 hK6=>?_) AllReadyH.nil
 go_simp
 refine HCO.out.mono ?_
 rintro r w7 ⟨hb7,⟨t,k,hpl,hnk,hkl,hrl,nW,dW,nO,dO,rfl,hov⟩ | ⟨hpl,rfl⟩ | ⟨t,hpl,h12,rfl⟩ | ⟨t,hpl,hn0,hnl,hrf,hle,rfl⟩⟩
 rotate_left
 ·exact ⟨rfl,HB0.out.trans ((hb6.trans (hb7.mono hs6)).mono HB0.out.size),Or.inr ⟨_,_,rfl,(zmw H00.out HTS.out hpl).symm,rfl,by rw [zmw H00.out HTS.out hpl];decide⟩⟩
 ·exact ⟨rfl,HB0.out.trans ((hb6.trans (hb7.mono hs6)).mono HB0.out.size),Or.inr ⟨_,_,rfl,(zmx H00.out HTS.out hpl h12).symm,rfl,by rw [zmx H00.out HTS.out hpl h12];decide⟩⟩
 ·exact ⟨rfl,HB0.out.trans ((hb6.trans (hb7.mono hs6)).mono HB0.out.size),Or.inr ⟨_,_,rfl,(zmy H00.out HTS.out hpl hn0 hnl hrf hle).symm,rfl,by rw [zmy H00.out HTS.out hpl hn0 hnl hrf hle];decide⟩⟩
 have HM0:=mk0 (zmz (v:=v) H00.out HTS.out hpl hnk hkl hrl)
 have hhm0:=zm0 (v:=v) HTS.out hpl hnk
 obtain ⟨hm,hhm⟩:∃hm,setH d h loc n v=hm:=⟨_,rfl⟩
 rw [<-hhm0,hhm]at hov ⊢
 have hb8:Below W0.heap.size W0 w7:=hb6.trans (hb7.mono hs6)
 have hs7:=hb7.size
 have k7:=(hb8.block _ (lt0 HK0.out)).trans HK0.out
 have hB7:Below w.heap.size w w7:=HB0.out.trans (hb8.mono HB0.out.size)
 have hs0:=HS0.out
 obtain ⟨W9,h9,hgS,hq,hr,rz,rl⟩:=setN (zs:=[.slice none 0 0,.int .i64 0,.int .i64 0,.int .i64 0,.int .i64 0,.slice none 0 0,.int .i64 0]) k7 [.slice nW hm.words.length dW,.int .i64 hm.young,.int .i64 hm.old,.int .i64 hm.ytop,.int .i64 hm.otop,.slice nO hm.noted.length dO,.int .i64 hm.next] rfl
 have r0:=hr 0 _ rfl
 have r1:=hr 1 _ rfl
 have r2:=hr 2 _ rfl
 have r3:=hr 3 _ rfl
 have r4:=hr 4 _ rfl
 have r5:=hr 5 _ rfl
 have r6:=hr 6 _ rfl
 have q0:=hq 0 _ rfl
 have q1:=hq 1 _ rfl
 have q2:=hq 2 _ rfl
 have q3:=hq 3 _ rfl
 have q4:=hq 4 _ rfl
 have q5:=hq 5 _ rfl
 have q6:=hq 6 _ rfl
 have hw9:=hgS.size
 have HB9:=mk0 (bg0 (hB7) hgS (by omega))
 have HG9:=mk0 hgS
 simp only [setL,Nat.reduceAdd]at h9
 have H9:=mk0 h9
 clear hgS hq hr h9
 have HOF:Hid (OwnV w.heap.size W9 (.slice nW hm.words.length dW) (.slice nO hm.noted.length dO) hm):=(hov.mono (by omega)).grown HG9.out (fun e=>by have:=(hov.rW.lt _ e).1;omega) (fun e=>by have:=(hov.rO.lt _ e).1;omega)
 have HCL:Hid (∀p:Addr,p.block<w.heap.size->W9.cell? p=W0.cell? p):=fun p hp=>(World.cell?_of_block (a:=p) (HG9.out.block p.block (by omega) (by intro e;injection e;omega))).trans (hb8.cell (by omega))
 have HHM:=mk0 hhm
 refine hK6.out _ _ (fun p hp=>hb8.cell (by omega)) fun hH=>?_
 clear hb7 hov k7 hB7 hb8 hb6 hb5 hcht hts hX hhm hs0 hhm0 hpl hnk hkl hrl
 refine wpAnyH_ready (rs:=[7]) (by kernel_rfl) (by simp) ?_
 refine AllReadyH.cons rfl (fun K7 hK7=>?_) AllReadyH.nil
 go_simp
 rw [H9.out]
 refine hK7.out _ _ HCL.out fun hH=>?_
 refine wpAnyH_done (by kernel_rfl) ?_ _
 clear hH
 try simp only [Act.put,List.setIfInBounds_toArray,List.set_cons_zero,List.set_cons_succ,List.getElem_toArray,List.getElem_cons_zero,List.getElem_cons_succ]
 go_wp2_with fail
 refine bodyPost_ret (v:=.agg #[.slice nW hm.words.length dW,.int .i64 hm.young,.int .i64 hm.old,.int .i64 hm.ytop,.int .i64 hm.otop,.slice nO hm.noted.length dO,.int .i64 hm.next]) (by simp [results,Tryz.results76,go_sem,q0,q1,q2,q3,q4,q5,q6]) rfl ⟨HB9.out,Or.inl ⟨_,rfl,⟨_,_,_,_,_,_,_,_,_,_,_,rfl⟩,?_⟩⟩
 unfold SetV
 rw [HHM.out]
 exact ⟨HM0.out,nW,dW,nO,dO,rfl,HOF.out⟩
theorem callSet1 (args:Array Value) (w:World):(callFunc 76 args).run Tryz.prog w=.ok (.enter 76 args) w:=by kernel_rfl
def SetOut (w:World) (d:LinkD) (h:HeapD) (loc n v:Int) (r:Ending) (w':World):Prop:=
 (setErr d h loc n v=0/\∃nW dW nO dO,r=.returned (.tuple #[.agg #[.slice nW (setH d h loc n v).words.length dW,.int .i64 (setH d h loc n v).young,.int .i64 (setH d h loc n v).old,.int .i64 (setH d h loc n v).ytop,.int .i64 (setH d h loc n v).otop,.slice nO (setH d h loc n v).noted.length dO,.int .i64 (setH d h loc n v).next],.int .i64 0])/\OwnV w.heap.size w' (.slice nW (setH d h loc n v).words.length dW) (.slice nO (setH d h loc n v).noted.length dO) (setH d h loc n v))\/
  (setErr d h loc n v≠0/\r=.returned (.tuple #[.agg #[.slice none 0 0,.int .i64 0,.int .i64 0,.int .i64 0,.int .i64 0,.slice none 0 0,.int .i64 0],.int .i64 (setErr d h loc n v)]))
theorem zm2 (w:World) (B:Nat) (vW vO kC kS kF kN kT:Value) (h:HeapD) (d:LinkD) (g:Hd B w vW vO kC kS kF kN kT h d) (loc n v:Int) (hwf:(Lit.int .i64 loc).wf=true/\(Lit.int .i64 v).wf=true) (hnt:heapErr d h=0->∀(t:ThD) (k:Nat),plAt (tsOf d h) loc=some t->n=(k:Int)->(k:Int)<t.len->noteB d h t k v=true->NoteOk B kC kS kF kN kT d (setW h (t.loc+3+k).toNat v) t.loc (setD d h t k v)):
 Calls Tryz.prog 30 #[.agg #[vW,.int .i64 h.young,.int .i64 h.old,.int .i64 h.ytop,.int .i64 h.otop,vO,.int .i64 h.next],.agg #[kC,kS,kF,kN,kT],.int .i64 loc,.int .i64 n,.int .i64 v] w fun r w'=>Below w.heap.size w w'/\SetOut w d h loc n v r w':=by
 have hmf:=mkf Tryz.prog
 have HG:=mk0 g
 obtain ⟨aW,cW,aO,cO,aC,cC,aS,cS,aF,cF,aN,cN,aT,cT,rfl,rfl,rfl,rfl,rfl,rfl,rfl⟩:=g.agg
 clear g
 obtain ⟨W0,hW0,hB0,hs0,k0,k1,k2,k3,k4,k5⟩:=boxes6 w #[.slice aW h.words.length cW,.int .i64 h.young,.int .i64 h.old,.int .i64 h.ytop,.int .i64 h.otop,.slice aO h.noted.length cO,.int .i64 h.next] #[.slice aC d.classes.length cC,.slice aS d.supers.length cS,.slice aF d.fields.length cF,.slice aN d.names.length cN,.slice aT d.targets.length cT] #[.int .i64 loc] #[.int .i64 n] #[.int .i64 v] #[.slice none 0 0,.int .i64 0,.int .i64 0,.int .i64 0,.int .i64 0,.slice none 0 0,.int .i64 0] 24 36 3 3 3 24
 have HMD:Hid (Calls Tryz.prog 75 #[.func (.func 76) #[] #[.pointer (some ⟨w.heap.size,0,none⟩),.pointer (some ⟨w.heap.size+1,0,none⟩),.pointer (some ⟨w.heap.size+1+1,0,none⟩),.pointer (some ⟨w.heap.size+1+1+1,0,none⟩),.pointer (some ⟨w.heap.size+1+1+1+1,0,none⟩)]] W0 fun r w'=>Below W0.heap.size W0 w'/\W0.heap.size+5<=w'.heap.size/\
  ((∃x,r=.returned (.tuple #[x,.agg #[.int .i64 0,.int .i64 0]])/\IsHp x/\SetV (W0.heap.size+5) d h loc n v x w')\/
   (∃e p,r=.returned (.tuple #[.agg #[.slice none 0 0,.int .i64 0,.int .i64 0,.int .i64 0,.int .i64 0,.slice none 0 0,.int .i64 0],.agg #[.int .i64 e,.int .i64 p]])/\(e=setErr d h loc n v/\p=0/\setErr d h loc n v≠0)))):=by
  refine zmu W0 76 _ (SetV (W0.heap.size+5) d h loc n v) (fun e p=>e=setErr d h loc n v/\p=0/\setErr d h loc n v≠0) callSet1 ?_ ?_
  ·intro W hW hs
   have hk:∀(b:Nat) (ob:Obj),W0.heap[b]? =some ob->W.heap[b]? =some ob:=fun b ob e=>(hW.block b (by
    rcases Nat.lt_or_ge b W0.heap.size with hlt | hge
    ·exact hlt
    rw [Array.getElem?_eq_none hge]at e;cases e)).trans e
   have:=zm1 W B _ _ _ _ _ _ _ _ _ _ _ _ h d (HG.out.below ((hB0.trans (hW.mono hB0.size)).mono HG.out.le)) loc n v hwf hnt (hk _ _ k0) (hk _ _ k1) (hk _ _ k2) (hk _ _ k3) (hk _ _ k4)
   rw [<-hs]
   exact this
  rintro v W W' hs hf ⟨h0,nW,dW,nO,dO,e,ho⟩
  exact ⟨h0,nW,dW,nO,dO,e,ho.far hf (Nat.le_refl _)⟩
 have HK5:=mk0 k5
 have HB0:=mk0 hB0
 have HE0:=mk0 hW0
 have HS0:=mk0 hs0
 rw [HE0.out]at HMD
 clear k0 k1 k2 k3 k4 k5 hB0 hW0 hs0 hwf hnt
 go_enter Tryz.func30,Tryz.ntmps30
 go_wp2_with fail
 refine HMD.out.mono ?_
 rw [<-HE0.out]
 rintro r w1 ⟨hb1,hs1,⟨x,rfl,-,h0,nW,dW,nO,dO,rfl,hov⟩ | ⟨e,p,rfl,rfl,rfl,h0⟩⟩
 ·obtain ⟨hm,hhm⟩:∃hm,setH d h loc n v=hm:=⟨_,rfl⟩
  rw [hhm]at hov ⊢
  have hs0:=HS0.out
  have HHM:=mk0 hhm
  have HM0:=mk0 h0
  clear hhm HMD
  obtain ⟨W2,hW2⟩:∃W2,W2=((w1.alloc (.cells #[.slice nW hm.words.length dW,.int .i64 hm.young,.int .i64 hm.old,.int .i64 hm.ytop,.int .i64 hm.otop,.slice nO hm.noted.length dO,.int .i64 hm.next] 24)).alloc (.cells #[.int .i64 0,.int .i64 0] 84)):=⟨_,rfl⟩
  have hA2:Below w1.heap.size w1 W2:=hW2 ▸ ((Below.refl _ _).alloc (Nat.le_refl _) _).alloc (by simp) _
  have hs2:=hA2.size
  have m0:W2.heap[w1.heap.size]? =some (.cells #[.slice nW hm.words.length dW,.int .i64 hm.young,.int .i64 hm.old,.int .i64 hm.ytop,.int .i64 hm.otop,.slice nO hm.noted.length dO,.int .i64 hm.next] 24 (0,0)):=by rw [hW2];exact (Below.heap_alloc _ _ _ (by simp)).trans (heap_alloc_new w1 _)
  have m1:W2.heap[w1.heap.size+1]? =some (.cells #[.int .i64 0,.int .i64 0] 84 (0,0)):=by
   have:=heap_alloc_new (w1.alloc (.cells #[.slice nW hm.words.length dW,.int .i64 hm.young,.int .i64 hm.old,.int .i64 hm.ytop,.int .i64 hm.otop,.slice nO hm.noted.length dO,.int .i64 hm.next] 24)) (.cells #[.int .i64 0,.int .i64 0] 84)
   rw [<-hW2]at this
   simpa using this
  have k2:W2.heap[w.heap.size+1+1+1+1+1]? =some (.cells #[.slice none 0 0,.int .i64 0,.int .i64 0,.int .i64 0,.int .i64 0,.slice none 0 0,.int .i64 0] 24 (0,0)):=(hA2.block _ (by omega)).trans ((hb1.block _ (lt0 HK5.out)).trans HK5.out)
  have hB2:Below w.heap.size w W2:=(HB0.out.trans (hb1.mono HB0.out.size)).trans (hA2.mono (by omega))
  obtain ⟨W9,h9,hgS,hq,hr,rz,rl⟩:=setN (zs:=[.slice none 0 0,.int .i64 0,.int .i64 0,.int .i64 0,.int .i64 0,.slice none 0 0,.int .i64 0]) k2 [.slice nW hm.words.length dW,.int .i64 hm.young,.int .i64 hm.old,.int .i64 hm.ytop,.int .i64 hm.otop,.slice nO hm.noted.length dO,.int .i64 hm.next] rfl
  have r0:=hr 0 _ rfl
  have r1:=hr 1 _ rfl
  have r2:=hr 2 _ rfl
  have r3:=hr 3 _ rfl
  have r4:=hr 4 _ rfl
  have r5:=hr 5 _ rfl
  have r6:=hr 6 _ rfl
  have q0:=hq 0 _ rfl
  have q1:=hq 1 _ rfl
  have q2:=hq 2 _ rfl
  have q3:=hq 3 _ rfl
  have q4:=hq 4 _ rfl
  have q5:=hq 5 _ rfl
  have q6:=hq 6 _ rfl
  have hw9:=hgS.size
  have HB9:=mk0 (bg0 (hB2) hgS (by omega))
  have HG9:=mk0 hgS
  simp only [setL,Nat.reduceAdd]at h9
  have H9:=mk0 h9
  clear hgS hq hr h9
  have v0:=cl0 m0 0 (x:=.slice nW hm.words.length dW) rfl
  have v1:=cl0 m0 1 (x:=.int .i64 hm.young) rfl
  have v2:=cl0 m0 2 (x:=.int .i64 hm.old) rfl
  have v3:=cl0 m0 3 (x:=.int .i64 hm.ytop) rfl
  have v4:=cl0 m0 4 (x:=.int .i64 hm.otop) rfl
  have v5:=cl0 m0 5 (x:=.slice nO hm.noted.length dO) rfl
  have v6:=cl0 m0 6 (x:=.int .i64 hm.next) rfl
  have u0:=cl0 m1 0 (x:=.int .i64 0) rfl
  have lm0:=lt0 m0
  have lm1:=lt0 m1
  have ne0:¬w1.heap.size=w.heap.size+1+1+1+1+1:=by omega
  have ne1:¬w1.heap.size+1=w.heap.size+1+1+1+1+1:=by omega
  have ne2:¬w1.heap.size=w.heap.size+1+1+1+1:=by omega
  have ne3:¬w1.heap.size=w.heap.size+4:=by omega
  have HCL:Hid (∀p:Addr,p.block<W2.heap.size->p.block≠w.heap.size+1+1+1+1+1->W9.cell? p=W2.cell? p):=fun p hp hne=>World.cell?_of_block (a:=p) (HG9.out.block p.block hp (fun e=>hne (Option.some.inj e)))
  have HOF:Hid (OwnV w.heap.size W9 (.slice nW hm.words.length dW) (.slice nO hm.noted.length dO) hm):=((hov.below hA2).mono (by omega)).grown HG9.out (fun e=>by have:=(hov.rW.lt _ e).1;omega) (fun e=>by have:=(hov.rO.lt _ e).1;omega)
  clear hov h0 hs0
  have HW2:=mk0 hW2
  clear hA2 m0 m1 k2 hB2 hb1 hW2
  go_wp2_with fail
  rw [<-HW2.out]
  refine wp_region_held_drew (S:=fun W'=>∀p:Addr,p.block<W2.heap.size->p.block≠w.heap.size+1+1+1+1+1->W'.cell? p=W2.cell? p) (by kernel_rfl) (fun p hp _=>rfl) fun hH=>?_
  refine ta 0 (.agg #[.slice nW hm.words.length dW,.int .i64 hm.young,.int .i64 hm.old,.int .i64 hm.ytop,.int .i64 hm.otop,.slice nO hm.noted.length dO,.int .i64 hm.next]) rfl hH ?_
  refine ta 1 (.pointer (some ⟨w1.heap.size+1,0,none⟩)) rfl hH ?_
  refine ta 2 (.int .i64 0) rfl hH ?_
  refine wpAnyH_ready (rs:=[3]) (by kernel_rfl) (by simp) ?_
  refine AllReadyH.cons rfl (fun K3 hK3=>?_) AllReadyH.nil
  go_simp
  rw [H9.out]
  refine hK3.out _ _ HCL.out fun hH=>?_
  refine ta 4 (.int .i64 0) rfl hH ?_
  refine wpAnyH_done (by kernel_rfl) ?_ _
  clear hH
  try simp only [Act.put,List.setIfInBounds_toArray,List.set_cons_zero,List.set_cons_succ,List.getElem_toArray,List.getElem_cons_zero,List.getElem_cons_succ]
  go_wp2_with fail
  refine bodyPost_ret (v:=.tuple #[.agg #[.slice nW hm.words.length dW,.int .i64 hm.young,.int .i64 hm.old,.int .i64 hm.ytop,.int .i64 hm.otop,.slice nO hm.noted.length dO,.int .i64 hm.next],.int .i64 0]) (by simp [results,Tryz.results30,go_sem,q0,q1,q2,q3,q4,q5,q6]) rfl ⟨HB9.out.drew,Or.inl ⟨HM0.out,nW,dW,nO,dO,?_,?_⟩⟩
  ·rw [HHM.out]
  rw [HHM.out]
  exact HOF.out.below (Below.refl _ _).drew
 have hs0:=HS0.out
 have HM0:=mk0 h0
 generalize hmr:setErr d h loc n v=mr at*
 have HMR:=mk0 hmr
 clear hmr HMD
 obtain ⟨W2,hW2⟩:∃W2,W2=((w1.alloc (.cells #[.slice none 0 0,.int .i64 0,.int .i64 0,.int .i64 0,.int .i64 0,.slice none 0 0,.int .i64 0] 24)).alloc (.cells #[.int .i64 mr,.int .i64 0] 84)):=⟨_,rfl⟩
 have hA2:Below w1.heap.size w1 W2:=hW2 ▸ ((Below.refl _ _).alloc (Nat.le_refl _) _).alloc (by simp) _
 have hs2:=hA2.size
 have m0:W2.heap[w1.heap.size]? =some (.cells #[.slice none 0 0,.int .i64 0,.int .i64 0,.int .i64 0,.int .i64 0,.slice none 0 0,.int .i64 0] 24 (0,0)):=by rw [hW2];exact (Below.heap_alloc _ _ _ (by simp)).trans (heap_alloc_new w1 _)
 have m1:W2.heap[w1.heap.size+1]? =some (.cells #[.int .i64 mr,.int .i64 0] 84 (0,0)):=by
  have:=heap_alloc_new (w1.alloc (.cells #[.slice none 0 0,.int .i64 0,.int .i64 0,.int .i64 0,.int .i64 0,.slice none 0 0,.int .i64 0] 24)) (.cells #[.int .i64 mr,.int .i64 0] 84)
  rw [<-hW2]at this
  simpa using this
 have k2:W2.heap[w.heap.size+1+1+1+1+1]? =some (.cells #[.slice none 0 0,.int .i64 0,.int .i64 0,.int .i64 0,.int .i64 0,.slice none 0 0,.int .i64 0] 24 (0,0)):=(hA2.block _ (by omega)).trans ((hb1.block _ (lt0 HK5.out)).trans HK5.out)
 have hB2:Below w.heap.size w W2:=(HB0.out.trans (hb1.mono HB0.out.size)).trans (hA2.mono (by omega))
 obtain ⟨W9,h9,hgS,hq,hr,rz,rl⟩:=setN (zs:=[.slice none 0 0,.int .i64 0,.int .i64 0,.int .i64 0,.int .i64 0,.slice none 0 0,.int .i64 0]) k2 [.slice none 0 0,.int .i64 0,.int .i64 0,.int .i64 0,.int .i64 0,.slice none 0 0,.int .i64 0] rfl
 have r0:=hr 0 _ rfl
 have r1:=hr 1 _ rfl
 have r2:=hr 2 _ rfl
 have r3:=hr 3 _ rfl
 have r4:=hr 4 _ rfl
 have r5:=hr 5 _ rfl
 have r6:=hr 6 _ rfl
 have q0:=hq 0 _ rfl
 have q1:=hq 1 _ rfl
 have q2:=hq 2 _ rfl
 have q3:=hq 3 _ rfl
 have q4:=hq 4 _ rfl
 have q5:=hq 5 _ rfl
 have q6:=hq 6 _ rfl
 have hw9:=hgS.size
 have HB9:=mk0 (bg0 (hB2) hgS (by omega))
 have HG9:=mk0 hgS
 simp only [setL,Nat.reduceAdd]at h9
 have H9:=mk0 h9
 clear hgS hq hr h9
 have v0:=cl0 m0 0 (x:=.slice none 0 0) rfl
 have v1:=cl0 m0 1 (x:=.int .i64 0) rfl
 have v2:=cl0 m0 2 (x:=.int .i64 0) rfl
 have v3:=cl0 m0 3 (x:=.int .i64 0) rfl
 have v4:=cl0 m0 4 (x:=.int .i64 0) rfl
 have v5:=cl0 m0 5 (x:=.slice none 0 0) rfl
 have v6:=cl0 m0 6 (x:=.int .i64 0) rfl
 have u0:=cl0 m1 0 (x:=.int .i64 mr) rfl
 have lm0:=lt0 m0
 have lm1:=lt0 m1
 have ne0:¬w1.heap.size=w.heap.size+1+1+1+1+1:=by omega
 have ne1:¬w1.heap.size+1=w.heap.size+1+1+1+1+1:=by omega
 have ne2:¬w1.heap.size=w.heap.size+1+1+1+1:=by omega
 have ne3:¬w1.heap.size=w.heap.size+4:=by omega
 have HCL:Hid (∀p:Addr,p.block<W2.heap.size->p.block≠w.heap.size+1+1+1+1+1->W9.cell? p=W2.cell? p):=fun p hp hne=>World.cell?_of_block (a:=p) (HG9.out.block p.block hp (fun e=>hne (Option.some.inj e)))
 clear h0 hs0
 have HW2:=mk0 hW2
 clear hA2 m0 m1 k2 hB2 hb1 hW2
 go_wp2_with fail
 rw [<-HW2.out]
 refine wp_region_held_drew (S:=fun W'=>∀p:Addr,p.block<W2.heap.size->p.block≠w.heap.size+1+1+1+1+1->W'.cell? p=W2.cell? p) (by kernel_rfl) (fun p hp _=>rfl) fun hH=>?_
 refine ta 0 (.agg #[.slice none 0 0,.int .i64 0,.int .i64 0,.int .i64 0,.int .i64 0,.slice none 0 0,.int .i64 0]) rfl hH ?_
 refine ta 1 (.pointer (some ⟨w1.heap.size+1,0,none⟩)) rfl hH ?_
 refine ta 2 (.int .i64 mr) rfl hH ?_
 refine wpAnyH_ready (rs:=[3]) (by kernel_rfl) (by simp) ?_
 refine AllReadyH.cons rfl (fun K3 hK3=>?_) AllReadyH.nil
 go_simp
 rw [H9.out]
 refine hK3.out _ _ HCL.out fun hH=>?_
 refine ta 4 (.int .i64 mr) rfl hH ?_
 refine wpAnyH_done (by kernel_rfl) ?_ _
 clear hH
 try simp only [Act.put,List.setIfInBounds_toArray,List.set_cons_zero,List.set_cons_succ,List.getElem_toArray,List.getElem_cons_zero,List.getElem_cons_succ]
 go_wp2_with fail
 refine bodyPost_ret (v:=.tuple #[.agg #[.slice none 0 0,.int .i64 0,.int .i64 0,.int .i64 0,.int .i64 0,.slice none 0 0,.int .i64 0],.int .i64 mr]) (by simp [results,Tryz.results30,go_sem,q0,q1,q2,q3,q4,q5,q6]) rfl ⟨HB9.out.drew,Or.inr ⟨by rw [HMR.out];exact HM0.out,by rw [HMR.out]⟩⟩
end Go.Proofs.YtjdnmblggdobgaaGreat
