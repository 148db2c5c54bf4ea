import Derived.Test.YtjdnmblggdobgaaGreatJTilHuH
import Derived.Test.YtjdnmblggdobgaaGreatJHtHHtJ
import Derived.Test.YtjdnmblggdobgaaGreatJTk2Dies
set_option maxHeartbeats 8000000
set_option maxRecDepth 100000
namespace Go.Proofs.YtjdnmblggdobgaaGreat
open Go.RowKit Go.Maps
def RMakeOut (w:World) (vW vO:Value) (h:HeapD) (tag len:Int) (old:Bool) (r:Ending) (w':World):Prop:=
 (roomB h old len=true/\∃nW dW nO dO,r=.returned (.tuple #[.agg #[.slice nW (makeD h tag len old).words.length dW,.int .i64 (makeD h tag len old).young,.int .i64 (makeD h tag len old).old,.int .i64 (makeD h tag len old).ytop,.int .i64 (makeD h tag len old).otop,.slice nO (makeD h tag len old).noted.length dO,.int .i64 (makeD h tag len old).next],.int .i64 (topOf h old),.bool true])/\OwnV w.heap.size w' (.slice nW (makeD h tag len old).words.length dW) (.slice nO (makeD h tag len old).noted.length dO) (makeD h tag len old))\/
  (roomB h old len=false/\r=.returned (.tuple #[.agg #[vW,.int .i64 h.young,.int .i64 h.old,.int .i64 h.ytop,.int .i64 h.otop,vO,.int .i64 h.next],.int .i64 0,.bool false]))
theorem set3_list (x y z:Int):∀(m:Nat) (ws:List Int),m+2<ws.length->((ws.set m x).set (m+1) y).set (m+2) z=put3 ws m x y z
 | 0,_::_::_::_,_=>by simp [put3]
 | m+1,a::r,h=>by
   have:=set3_list x y z m r (by simp at h;omega)
   simp only [put3]at this
   simp [put3,this]
theorem set3_put3 (ws:List Int) (m:Nat) (x y z:Int) (h:m+2<ws.length):(((intV ws).set m (.int .i64 x)).set (m+1) (.int .i64 y)).set (m+2) (.int .i64 z)=intV (put3 ws m x y z):=by
 rw [<-set3_list x y z m ws h]
 simp [intV,List.map_set]
theorem own_at {w:World} {B e g cap n:Nat} {xs:List Value} (h:w.ownsRow B e 1 (.slice (some ⟨g,0,none⟩) n cap) n xs):(∀j,j<n->∃x,w.cell? ⟨g,j,none⟩=some x)/\(∀j,w.frozen? ⟨g,j,none⟩=false)/\g<w.heap.size:=by
 rcases h.2 with ⟨e,-⟩ | ⟨g',cap',cur,e,-,hb,hc,-,hs,-⟩
 ·
  cases e
 ·
  cases e
  exact ⟨fun j hj=>⟨cur[j]'(by omega),cl0 hb j (Array.getElem?_eq_getElem (by omega))⟩,fun j=>frz_of hb j,lt0 hb⟩
theorem rMakeF_any (w:World) (B:Nat) (vW vO:Value) (h:HeapD) (d:LinkD) (sW:SL 1 RI (· <B) w vW h.words) (sO:SL 1 RI (· <B) w vO h.noted) (hB:B<=w.heap.size) (hl2:h.noted.length<=1000000) (hz:Sized d h) (tag len:Int) (hn:0<=len/\len<=500):
 Calls Tryz.prog 24 #[.agg #[vW,.int .i64 h.young,.int .i64 h.old,.int .i64 h.ytop,.int .i64 h.otop,vO,.int .i64 h.next],.int .i64 tag,.int .i64 len,.bool false] w fun r w'=>Below w.heap.size w w'/\RMakeOut w vW vO h tag len false r w':=by
 have hl1:h.words.length<=1000000:=by have:=hz.len;have:=hz.young;have:=hz.old;omega
 have HSW':=mk0 sW
 have HSO':=mk0 sO
 obtain ⟨aW,cW,rfl,-⟩:=sW
 obtain ⟨aO,cO,rfl,-⟩:=sO
 obtain ⟨W0,hW0,hB0,hs0,k0,k1⟩:=boxes2 w #[.slice aW h.words.length cW,.int .i64 h.young,.int .i64 h.old,.int .i64 h.ytop,.int .i64 h.otop,.slice aO h.noted.length cO,.int .i64 h.next] #[.slice none 0 0,.int .i64 0,.int .i64 0,.int .i64 0,.int .i64 0,.slice none 0 0,.int .i64 0] 24 24
 have HSW:=mk0 (HSW'.out.keptI (Kp.below (hB0.mono hB)))
 have HSO:=mk0 (HSO'.out.keptI (Kp.below (hB0.mono hB)))
 have HBS:Hid (B<=W0.heap.size):=Nat.le_trans hB hB0.size
 have HL1:=mk0 hl1
 have HL2:=mk0 hl2
 have lk0:=lt0 k0
 have lk1:=lt0 k1
 have c0:=cl0 k0 0 (x:=.slice aW h.words.length cW) rfl
 have c1:=cl0 k0 1 (x:=.int .i64 h.young) rfl
 have c2:=cl0 k0 2 (x:=.int .i64 h.old) rfl
 have c3:=cl0 k0 3 (x:=.int .i64 h.ytop) rfl
 have c4:=cl0 k0 4 (x:=.int .i64 h.otop) rfl
 have c5:=cl0 k0 5 (x:=.slice aO h.noted.length cO) rfl
 have c6:=cl0 k0 6 (x:=.int .i64 h.next) rfl
 have HK0:=mk0 k0
 have HK1:=mk0 k1
 have HB0:=mk0 hB0
 have HE0:=mk0 hW0
 have hy:=hz.young
 have ho:=hz.old
 have hyt:=hz.ytop
 have hot:=hz.otop
 have wy:IntKind.i64.wrap (h.young+1)=h.young+1:=ws0 _ (by omega) (by omega)
 have wt3:IntKind.i64.wrap (h.ytop+3)=h.ytop+3:=ws0 _ (by omega) (by omega)
 have wtl:IntKind.i64.wrap (h.ytop+3+len)=h.ytop+3+len:=ws0 _ (by omega) (by omega)
 have w3l:IntKind.i64.wrap (3+len)=3+len:=ws0 _ (by omega) (by omega)
 have wt3l:IntKind.i64.wrap (h.ytop+(3+len))=h.ytop+3+len:=by rw [<-Int.add_assoc];exact wtl
 clear HSW' HSO' hB hl1 hl2 k0 k1 hB0 hW0
 cases hr:roomB h false len with
 | false=>
   have HRM:=mk0 hr
   have hgt:h.young+1<h.ytop+3+len:=by
    have hzl:=hz.len
    unfold roomB topOf endOf at hr
    have:=of_decide_eq_false hr
    simp at this
    omega
   clear hr hz hn hy ho hyt hot
   go_enter Tryz.func24,Tryz.ntmps24
   go_wp2_with fail
   rw [<-HE0.out]
   refine wp_region_held_drew (S:=fun W'=>∀p:Addr,p.block<W0.heap.size->W'.cell? p=W0.cell? p) (by kernel_rfl) (fun p hp=>rfl) fun hH=>?_
   refine begin_act 7 rfl fun a ha=>?_
   have sza:a.tmps.size=73:=by rw [ha];rfl
   have ta4:∀h,a.tmps[4]'h=.pointer (some ⟨w.heap.size,0,none⟩):=by rw [ha];exact fun _=>rfl
   have HA:=mk0 ha
   clear ha
   refine tka 0 13 (.pointer (some ⟨w.heap.size,3,none⟩)) rfl hH ?_
   refine tka 1 14 (.int .i64 h.ytop) rfl hH ?_
   refine tka 2 15 (.pointer (some ⟨w.heap.size,1,none⟩)) rfl hH ?_
   refine tka 3 16 (.int .i64 h.young) rfl hH ?_
   refine tka 4 17 (.int .i64 (h.young+1)) rfl hH ?_
   refine tka 5 11 (.int .i64 h.ytop) rfl hH ?_
   refine tka 6 12 (.int .i64 (h.young+1)) rfl hH ?_
   refine wpAnyH_done (by kernel_rfl) ?_ _
   clear hH
   rw [HA.out]
   simp only [Act.put,List.setIfInBounds_toArray,List.set_cons_zero,List.set_cons_succ]
   obtain ⟨V1,hV1⟩:∃V1,V1=W0.drew:=⟨_,rfl⟩
   rw [<-hV1]
   have hbV:Below W0.heap.size W0 V1:=hV1 ▸ (Below.refl _ _).drew
   clear hV1
   have g0:=(hbV.cell (p:=⟨w.heap.size,0,none⟩) lk0).trans c0
   have g1:=(hbV.cell (p:=⟨w.heap.size,1,none⟩) lk0).trans c1
   have g2:=(hbV.cell (p:=⟨w.heap.size,2,none⟩) lk0).trans c2
   have g3:=(hbV.cell (p:=⟨w.heap.size,3,none⟩) lk0).trans c3
   have g4:=(hbV.cell (p:=⟨w.heap.size,4,none⟩) lk0).trans c4
   have g5:=(hbV.cell (p:=⟨w.heap.size,5,none⟩) lk0).trans c5
   have g6:=(hbV.cell (p:=⟨w.heap.size,6,none⟩) lk0).trans c6
   have kr:=(hbV.block _ lk1).trans HK1.out
   obtain ⟨W9,h9,hgS,hq,hr,rz,rl⟩:=setN (zs:=[.slice none 0 0,.int .i64 0,.int .i64 0,.int .i64 0,.int .i64 0,.slice none 0 0,.int .i64 0]) kr [.slice aW h.words.length cW,.int .i64 h.young,.int .i64 h.old,.int .i64 h.ytop,.int .i64 h.otop,.slice aO h.noted.length cO,.int .i64 h.next] rfl
   have r0:=hr 0 _ rfl
   have r1:=hr 1 _ rfl
   have r2:=hr 2 _ rfl
   have r3:=hr 3 _ rfl
   have r4:=hr 4 _ rfl
   have r5:=hr 5 _ rfl
   have r6:=hr 6 _ rfl
   have q0:=hq 0 _ rfl
   have q1:=hq 1 _ rfl
   have q2:=hq 2 _ rfl
   have q3:=hq 3 _ rfl
   have q4:=hq 4 _ rfl
   have q5:=hq 5 _ rfl
   have q6:=hq 6 _ rfl
   have hw9:=hgS.size
   have HB9:=mk0 (bg0 (HB0.out.trans (hbV.mono HB0.out.size)) hgS (by omega))
   have HG9:=mk0 hgS
   simp only [setL,Nat.reduceAdd]at h9
   have H9:=mk0 h9
   clear hgS hq hr h9
   have lv0:w.heap.size<V1.heap.size:=Nat.lt_of_lt_of_le lk0 hbV.size
   have h9v:=H9.out
   clear H9
   go_wp2_with fail
   exact bodyPost_ret (v:=.tuple #[.agg #[.slice aW h.words.length cW,.int .i64 h.young,.int .i64 h.old,.int .i64 h.ytop,.int .i64 h.otop,.slice aO h.noted.length cO,.int .i64 h.next],.int .i64 0,.bool false]) (by simp [results,Tryz.results24,go_sem,q0,q1,q2,q3,q4,q5,q6]) rfl ⟨HB9.out,Or.inr ⟨HRM.out,rfl⟩⟩
 | true=>
   have HRM:=mk0 hr
   have hgt:¬h.young+1<h.ytop+3+len:=by
    have hzl:=hz.len
    unfold roomB topOf endOf at hr
    have:=of_decide_eq_true hr
    simp at this
    omega
   have HTP:Hid (0<=h.ytop/\h.ytop+3+len<=h.words.length/\0<h.words.length):=⟨by omega,by have:=hz.len;omega,by have:=hz.len;omega⟩
   have HNL:=mk0 hn
   clear hr hz hn hy ho hyt hot
   go_enter Tryz.func24,Tryz.ntmps24
   go_wp2_with fail
   rw [<-HE0.out]
   refine wp_region_held_drew (S:=fun W'=>∀p:Addr,p.block<W0.heap.size->W'.cell? p=W0.cell? p) (by kernel_rfl) (fun p hp=>rfl) fun hH=>?_
   refine begin_act 7 rfl fun a ha=>?_
   have sza:a.tmps.size=73:=by rw [ha];rfl
   have ta4:∀h,a.tmps[4]'h=.pointer (some ⟨w.heap.size,0,none⟩):=by rw [ha];exact fun _=>rfl
   have HA:=mk0 ha
   clear ha
   refine tka 0 13 (.pointer (some ⟨w.heap.size,3,none⟩)) rfl hH ?_
   refine tka 1 14 (.int .i64 h.ytop) rfl hH ?_
   refine tka 2 15 (.pointer (some ⟨w.heap.size,1,none⟩)) rfl hH ?_
   refine tka 3 16 (.int .i64 h.young) rfl hH ?_
   refine tka 4 17 (.int .i64 (h.young+1)) rfl hH ?_
   refine tka 5 11 (.int .i64 h.ytop) rfl hH ?_
   refine tka 6 12 (.int .i64 (h.young+1)) rfl hH ?_
   refine wpAnyH_done (by kernel_rfl) ?_ _
   clear hH
   rw [HA.out]
   simp only [Act.put,List.setIfInBounds_toArray,List.set_cons_zero,List.set_cons_succ]
   obtain ⟨V1,hV1⟩:∃V1,V1=W0.drew:=⟨_,rfl⟩
   rw [<-hV1]
   have hbV:Below W0.heap.size W0 V1:=hV1 ▸ (Below.refl _ _).drew
   clear hV1
   have g0:=(hbV.cell (p:=⟨w.heap.size,0,none⟩) lk0).trans c0
   have g1:=(hbV.cell (p:=⟨w.heap.size,1,none⟩) lk0).trans c1
   have g2:=(hbV.cell (p:=⟨w.heap.size,2,none⟩) lk0).trans c2
   have g3:=(hbV.cell (p:=⟨w.heap.size,3,none⟩) lk0).trans c3
   have g4:=(hbV.cell (p:=⟨w.heap.size,4,none⟩) lk0).trans c4
   have g5:=(hbV.cell (p:=⟨w.heap.size,5,none⟩) lk0).trans c5
   have g6:=(hbV.cell (p:=⟨w.heap.size,6,none⟩) lk0).trans c6
   have lv0:w.heap.size<V1.heap.size:=Nat.lt_of_lt_of_le lk0 hbV.size
   have HCP:=mk0 (copied_any V1 B _ _ h (HSW.out.keptI (Kp.below (hbV.mono HBS.out))) (HSO.out.keptI (Kp.below (hbV.mono HBS.out))) (Nat.le_trans HBS.out hbV.size) HL1.out HL2.out)
   have HBV:=mk0 hbV
   clear hbV
   go_wp2_with fail
   refine HCP.out.mono ?_
   rintro r w1 ⟨hb1,nW,dW,nO,dO,rfl,hov⟩
   have hs1:=hb1.size
   have hsV:=HBV.out.size
   have hb01:Below W0.heap.size W0 w1:=HBV.out.trans (hb1.mono hsV)
   have kb:=(hb01.block _ lk0).trans HK0.out
   have kr:=(hb01.block _ lk1).trans HK1.out
   obtain ⟨gW,hnW,hgW⟩:∃gW,nW=some ⟨gW,0,none⟩/\V1.heap.size<=gW:=by
    rcases hov.rW.2 with ⟨-,e0⟩ | ⟨g,cap,cur,e,hg,-⟩
    ·
     have:=HTP.out.2.2;omega
    ·
     exact ⟨g,(Value.slice.inj e).1,hg⟩
   subst hnW
   obtain ⟨W9,h9,hgS,hq,hr,rz,rl⟩:=setN (zs:=[.slice aW h.words.length cW,.int .i64 h.young,.int .i64 h.old,.int .i64 h.ytop,.int .i64 h.otop,.slice aO h.noted.length cO,.int .i64 h.next]) kb [.slice (some ⟨gW,0,none⟩) h.words.length dW,.int .i64 h.young,.int .i64 h.old,.int .i64 h.ytop,.int .i64 h.otop,.slice nO h.noted.length dO,.int .i64 h.next] rfl
   have r0:=hr 0 _ rfl
   have r1:=hr 1 _ rfl
   have r2:=hr 2 _ rfl
   have r3:=hr 3 _ rfl
   have r4:=hr 4 _ rfl
   have r5:=hr 5 _ rfl
   have r6:=hr 6 _ rfl
   have q0:=hq 0 _ rfl
   have q1:=hq 1 _ rfl
   have q2:=hq 2 _ rfl
   have q3:=hq 3 _ rfl
   have q4:=hq 4 _ rfl
   have q5:=hq 5 _ rfl
   have q6:=hq 6 _ rfl
   have hw9:=hgS.size
   have HB9:=mk0 (bg0 (HB0.out.trans (hb01.mono HB0.out.size)) hgS (by omega))
   have HG9:=mk0 hgS
   simp only [setL,Nat.reduceAdd]at h9
   have H9:=mk0 h9
   clear hgS hq hr h9
   have h9v:=H9.out
   have hrz:W9.heap[w.heap.size+1]? =some (.cells #[.slice none 0 0,.int .i64 0,.int .i64 0,.int .i64 0,.int .i64 0,.slice none 0 0,.int .i64 0] 24 (0,0)):=(HG9.out.block _ (lt0 kr) (by intro e;injection e;omega)).trans kr
   have hov9:OwnV w.heap.size W9 (.slice (some ⟨gW,0,none⟩) h.words.length dW) (.slice nO h.noted.length dO) h:=(hov.mono (by omega)).grown HG9.out (by simp [Value.ownBlock];omega) (fun e=>by have:=(hov.rO.lt _ e).1;omega)
   have hgk:W9.heap[w.heap.size]? =some (.cells #[.slice (some ⟨gW,0,none⟩) h.words.length dW,.int .i64 h.young,.int .i64 h.old,.int .i64 h.ytop,.int .i64 h.otop,.slice nO h.noted.length dO,.int .i64 h.next] 24 (0,0)):=by
    rw [<-h9v]
    exact heap_set (heap_set (heap_set (heap_set (heap_set (heap_set (heap_set kb _) _) _) _) _) _) _
   have HOV9:=mk0 hov9
   have HNO:Hid (∀k,(Value.slice nO h.noted.length dO).ownBlock=some k->W0.heap.size<=k):=fun k e=>by have:=(hov.rO.lt _ e).1;omega
   have HGK:=mk0 hgk
   have HRZ:=mk0 hrz
   clear H9 hb1 hov hb01 kb kr hrz hov9 hgk HCP
   go_wp2_with fail
   clear h9v r0 r1 r2 r3 r4 r5 r6 g0 g1 g2 g3 g4 g5 g6
   have HGW:Hid (W0.heap.size<=gW):=by show _<=_;omega
   have HS9:Hid (W0.heap.size<=W9.heap.size):=by show _<=_;have:=HG9.out.size;omega
   obtain ⟨V9,hV9⟩:∃V9,V9=W9.drew:=⟨_,rfl⟩
   have hgV9:W9.grownBy V9 (some gW):=hV9 ▸ ⟨rfl,rfl,rfl,Nat.le_refl _,fun _ _ _=>rfl⟩
   have hoV9:V9.ownsRow w.heap.size 3 1 (.slice (some ⟨gW,0,none⟩) h.words.length dW) h.words.length (intV h.words):=hV9 ▸ HOV9.out.rW
   obtain ⟨xcV9,zcV9,lcV9⟩:=own_at hoV9
   obtain ⟨m,hm⟩:∃m:Nat,h.ytop=(m:Int):=⟨h.ytop.toNat,by have:=HTP.out.1;omega⟩
   have hlm:m+2<h.words.length:=by have:=HTP.out.2.1;have:=HNL.out;omega
   obtain ⟨m1,hm1⟩:∃m1,m1=m+1:=⟨_,rfl⟩
   obtain ⟨m2,hm2⟩:∃m2,m2=m+2:=⟨_,rfl⟩
   have wm1:IntKind.i64.wrap ((m:Int)+1)=(m1:Int):=by rw [hm1];exact (ws0 _ (by omega) (by have:=HL1.out;omega)).trans (by omega)
   have wm2:IntKind.i64.wrap ((m:Int)+2)=(m2:Int):=by rw [hm2];exact (ws0 _ (by omega) (by have:=HL1.out;omega)).trans (by omega)
   have lm0:m<h.words.length:=by omega
   have lm1:m1<h.words.length:=by omega
   have lm2:m2<h.words.length:=by omega
   have HM:=mk0 (And.intro hm (And.intro hm1 (And.intro hm2 hlm)))
   obtain ⟨xV9,hxV9⟩:=xcV9 m lm0
   rw [hm]
   clear hm hm1 hm2 hlm xcV9 hs1 hsV hgW
   refine wp_region_held_drew (S:=fun W'=>∀p:Addr,p.block<W0.heap.size->W'.cell? p=W9.cell? p) (by kernel_rfl) (fun p hp=>rfl) fun hH=>?_
   rw [<-hV9]at hH ⊢
   clear hV9
   refine begin_act 21 rfl fun a ha=>?_
   have sza:a.tmps.size=73:=by rw [ha];rfl
   have ta1:∀h,a.tmps[1]'h=.int .i64 tag:=by rw [ha];exact fun _=>rfl
   have ta2:∀h,a.tmps[2]'h=.int .i64 len:=by rw [ha];exact fun _=>rfl
   have ta4:∀h,a.tmps[4]'h=.pointer (some ⟨w.heap.size,0,none⟩):=by rw [ha];exact fun _=>rfl
   have ta11:∀h,a.tmps[11]'h=.int .i64 m:=by rw [ha];exact fun _=>rfl
   have HA:=mk0 ha
   clear ha
   refine tka 0 36 (.pointer (some ⟨w.heap.size,0,none⟩)) rfl hH ?_
   refine tka 1 37 (.slice (some ⟨gW,0,none⟩) h.words.length dW) rfl hH ?_
   refine tka 2 38 (.int .i64 m) rfl hH ?_
   refine tka 3 39 (.pointer (some ⟨w.heap.size,0,none⟩)) rfl hH ?_
   refine tka 4 40 (.slice (some ⟨gW,0,none⟩) h.words.length dW) rfl hH ?_
   refine tka 5 41 (.int .i64 m) rfl hH ?_
   refine tka 6 42 (.int .i64 m1) rfl hH ?_
   refine tka 7 43 (.pointer (some ⟨w.heap.size,0,none⟩)) rfl hH ?_
   refine tka 8 44 (.slice (some ⟨gW,0,none⟩) h.words.length dW) rfl hH ?_
   refine tka 9 45 (.int .i64 m) rfl hH ?_
   refine tka 10 46 (.int .i64 m2) rfl hH ?_
   refine tka 11 47 (.int .i64 tag) rfl hH ?_
   refine tka 12 48 (.int .i64 len) rfl hH ?_
   refine tka 13 49 (.pointer (some ⟨w.heap.size,6,none⟩)) rfl hH ?_
   refine tka 14 50 (.int .i64 h.next) rfl hH ?_
   refine tka 15 51 (.pointer (some ⟨gW,m,none⟩)) rfl hH ?_
   refine wpAnyH_ready (rs:=[16]) (by kernel_rfl) (by simp) ?_
   refine AllReadyH.cons rfl (fun K16 hK16=>?_) AllReadyH.nil
   go_simp
   obtain ⟨Wa,hWa⟩:∃Wa,Wa=V9.setCell ⟨gW,m,none⟩ (.int .i64 tag):=⟨_,rfl⟩
   rw [<-hWa]
   have hgWa:W9.grownBy Wa (some gW):=hWa ▸ grown_set hgV9 _ _ (Or.inl rfl)
   have hoWa:=own_set hoV9 (m) (.int .i64 tag)
   rw [<-hWa]at hoWa
   refine hK16.out _ _ (fun p hp=>World.cell?_of_block (hgWa.block _ (by have:=HS9.out;omega) (by have:=HGW.out;intro e;injection e;omega))) fun hH=>?_
   rw [bits_set]
   clear hWa hxV9 zcV9 lcV9 hK16
   obtain ⟨xcWa,zcWa,lcWa⟩:=own_at hoWa
   obtain ⟨xWa,hxWa⟩:=xcWa m1 lm1
   clear xcWa
   refine tka 17 52 (.pointer (some ⟨gW,m1,none⟩)) rfl hH ?_
   refine wpAnyH_ready (rs:=[18]) (by kernel_rfl) (by simp) ?_
   refine AllReadyH.cons rfl (fun K18 hK18=>?_) AllReadyH.nil
   go_simp
   obtain ⟨Wb,hWb⟩:∃Wb,Wb=Wa.setCell ⟨gW,m1,none⟩ (.int .i64 len):=⟨_,rfl⟩
   rw [<-hWb]
   have hgWb:W9.grownBy Wb (some gW):=hWb ▸ grown_set hgWa _ _ (Or.inl rfl)
   have hoWb:=own_set hoWa (m1) (.int .i64 len)
   rw [<-hWb]at hoWb
   refine hK18.out _ _ (fun p hp=>World.cell?_of_block (hgWb.block _ (by have:=HS9.out;omega) (by have:=HGW.out;intro e;injection e;omega))) fun hH=>?_
   rw [bits_set]
   clear hWb hxWa zcWa lcWa hK18
   obtain ⟨xcWb,zcWb,lcWb⟩:=own_at hoWb
   obtain ⟨xWb,hxWb⟩:=xcWb m2 lm2
   clear xcWb
   refine tka 19 53 (.pointer (some ⟨gW,m2,none⟩)) rfl hH ?_
   refine wpAnyH_ready (rs:=[20]) (by kernel_rfl) (by simp) ?_
   refine AllReadyH.cons rfl (fun K20 hK20=>?_) AllReadyH.nil
   go_simp
   obtain ⟨Wc,hWc⟩:∃Wc,Wc=Wb.setCell ⟨gW,m2,none⟩ (.int .i64 h.next):=⟨_,rfl⟩
   rw [<-hWc]
   have hgWc:W9.grownBy Wc (some gW):=hWc ▸ grown_set hgWb _ _ (Or.inl rfl)
   have hoWc:=own_set hoWb (m2) (.int .i64 h.next)
   rw [<-hWc]at hoWc
   refine hK20.out _ _ (fun p hp=>World.cell?_of_block (hgWc.block _ (by have:=HS9.out;omega) (by have:=HGW.out;intro e;injection e;omega))) fun hH=>?_
   rw [bits_set]
   clear hWc hxWb zcWb lcWb hK20
   refine wpAnyH_done (by kernel_rfl) ?_ _
   clear hH
   rw [HA.out]
   simp only [List.setIfInBounds_toArray,List.set_cons_zero,List.set_cons_succ]
   obtain ⟨nx,hnx⟩:∃nx,IntKind.i64.wrap (h.next+1)=nx:=⟨_,rfl⟩
   have sW9:=hgWc.size
   have hS9:=HS9.out
   have kc:Wc.heap[w.heap.size]? =some (.cells #[.slice (some ⟨gW,0,none⟩) h.words.length dW,.int .i64 h.young,.int .i64 h.old,.int .i64 h.ytop,.int .i64 h.otop,.slice nO h.noted.length dO,.int .i64 h.next] 24 (0,0)):=(hgWc.block _ (by omega) (by have:=HGW.out;intro e;injection e;omega)).trans HGK.out
   have kz:Wc.heap[w.heap.size+1]? =some (.cells #[.slice none 0 0,.int .i64 0,.int .i64 0,.int .i64 0,.int .i64 0,.slice none 0 0,.int .i64 0] 24 (0,0)):=(hgWc.block _ (by omega) (by have:=HGW.out;intro e;injection e;omega)).trans HRZ.out
   have ovc:OwnV w.heap.size Wc (.slice (some ⟨gW,0,none⟩) h.words.length dW) (.slice nO h.noted.length dO) (makeD h tag len false):=by
    obtain ⟨hm,e1,e2,hl⟩:=HM.out
    have hmw:(makeD h tag len false).words=put3 h.words m tag len h.next:=by
     show put3 h.words (topOf h false).toNat _ _ _=_
     rw [show topOf h false=(m:Int) from hm];rfl
    refine ⟨?_,HOV9.out.rO.kept hgWc (Or.inr (HOV9.out.ne gW rfl)),HOV9.out.ne⟩
    rw [hmw,put3_len _ _ _ (by omega),<-set3_put3 h.words m tag len h.next hl,<-e1,<-e2]
    exact hoWc
   obtain ⟨Wd,hWd⟩:∃Wd,Wc.setCell ⟨w.heap.size,6,none⟩ (.int .i64 nx)=Wd:=⟨_,rfl⟩
   have hgd:Wc.grownBy Wd (some w.heap.size):=hWd ▸ grown_set (World.grownBy.refl _ _) _ _ (Or.inl rfl)
   have kd:Wd.heap[w.heap.size]? =some (.cells #[.slice (some ⟨gW,0,none⟩) h.words.length dW,.int .i64 h.young,.int .i64 h.old,.int .i64 h.ytop,.int .i64 h.otop,.slice nO h.noted.length dO,.int .i64 nx] 24 (0,0)):=hWd ▸ heap_set kc _
   obtain ⟨We,hWe⟩:∃We,Wd.setCell ⟨w.heap.size,3,none⟩ (.int .i64 (h.ytop+3+len))=We:=⟨_,rfl⟩
   have hge:Wc.grownBy We (some w.heap.size):=hWe ▸ grown_set hgd _ _ (Or.inl rfl)
   have ke:We.heap[w.heap.size]? =some (.cells #[.slice (some ⟨gW,0,none⟩) h.words.length dW,.int .i64 h.young,.int .i64 h.old,.int .i64 (h.ytop+3+len),.int .i64 h.otop,.slice nO h.noted.length dO,.int .i64 nx] 24 (0,0)):=hWe ▸ heap_set kd _
   have kf:=(hge.block _ (lt0 kz) (by intro e;injection e;omega)).trans kz
   have hgW:=HGW.out
   have hnO:∀k,(Value.slice nO h.noted.length dO).ownBlock=some k->W0.heap.size<=k:=fun k e=>HNO.out k e
   have ove:=ovc.grown hge (by simp [Value.ownBlock];omega) (fun e=>by have:=hnO _ e;omega)
   have hBc:Below w.heap.size w Wc:=bg0 HB9.out hgWc (by omega)
   have hBe:Below w.heap.size w We:=bg0 hBc hge (Nat.le_refl _)
   obtain ⟨W9t,h9t,hgSt,hqt,hrt,rzt,rlt⟩:=setN (zs:=[.slice none 0 0,.int .i64 0,.int .i64 0,.int .i64 0,.int .i64 0,.slice none 0 0,.int .i64 0]) kf [.slice (some ⟨gW,0,none⟩) h.words.length dW,.int .i64 h.young,.int .i64 h.old,.int .i64 (h.ytop+3+len),.int .i64 h.otop,.slice nO h.noted.length dO,.int .i64 nx] rfl
   have rt0:=hrt 0 _ rfl
   have rt1:=hrt 1 _ rfl
   have rt2:=hrt 2 _ rfl
   have rt3:=hrt 3 _ rfl
   have rt4:=hrt 4 _ rfl
   have rt5:=hrt 5 _ rfl
   have rt6:=hrt 6 _ rfl
   have qt0:=hqt 0 _ rfl
   have qt1:=hqt 1 _ rfl
   have qt2:=hqt 2 _ rfl
   have qt3:=hqt 3 _ rfl
   have qt4:=hqt 4 _ rfl
   have qt5:=hqt 5 _ rfl
   have qt6:=hqt 6 _ rfl
   have hw9t:=hgSt.size
   have HB9t:=mk0 (bg0 (hBe) hgSt (by omega))
   have HG9t:=mk0 hgSt
   simp only [setL,Nat.reduceAdd]at h9t
   have H9t:=mk0 h9t
   clear hgSt hqt hrt h9t
   have HOF:=mk0 (ove.grown HG9t.out (by simp [Value.ownBlock];omega) (fun e=>by have:=hnO _ e;omega))
   obtain ⟨a0,a1,a2,a3,a4,a5,a6,az,al⟩:=cells7 kc
   obtain ⟨b0,b1,b2,b3,b4,b5,b6,bz,bl⟩:=cells7 kd
   obtain ⟨d0,d1,d2,d3,d4,d5,d6,dz,dl⟩:=cells7 ke
   have HNX:=mk0 hnx
   have h9vt:=H9t.out
   have HML:Hid ((makeD h tag len false).words.length=h.words.length):=put3_len _ _ _ (by rw [show topOf h false=(m:Int) from HM.out.1];have:=HM.out.2.2.2;show m+3<=_;omega)
   clear H9t hgd hge hBc hBe kc kd ke kf kz ovc ove hoWc hgWc hoWa hoWb hgWa hgWb hgV9 hoV9 hnO hgW sW9 hS9 q0 q1 q2 q3 q4 q5 q6 wm1 wm2 lm0 lm1 lm2
   go_wp2_with fail
   refine bodyPost_ret (v:=.tuple #[.agg #[.slice (some ⟨gW,0,none⟩) h.words.length dW,.int .i64 h.young,.int .i64 h.old,.int .i64 (h.ytop+3+len),.int .i64 h.otop,.slice nO h.noted.length dO,.int .i64 nx],.int .i64 m,.bool true]) (by simp [results,Tryz.results24,go_sem,qt0,qt1,qt2,qt3,qt4,qt5,qt6]) rfl ⟨HB9t.out,Or.inl ⟨HRM.out,some ⟨gW,0,none⟩,dW,nO,dO,?_,?_⟩⟩
   ·
    rw [HML.out,<-HNX.out,show topOf h false=(m:Int) from HM.out.1]
    rfl
   ·
    rw [HML.out]
    exact HOF.out
theorem rMakeT_any (w:World) (B:Nat) (vW vO:Value) (h:HeapD) (d:LinkD) (sW:SL 1 RI (· <B) w vW h.words) (sO:SL 1 RI (· <B) w vO h.noted) (hB:B<=w.heap.size) (hl2:h.noted.length<=1000000) (hz:Sized d h) (tag len:Int) (hn:0<=len/\len<=500):
 Calls Tryz.prog 24 #[.agg #[vW,.int .i64 h.young,.int .i64 h.old,.int .i64 h.ytop,.int .i64 h.otop,vO,.int .i64 h.next],.int .i64 tag,.int .i64 len,.bool true] w fun r w'=>Below w.heap.size w w'/\RMakeOut w vW vO h tag len true r w':=by
 have hl1:h.words.length<=1000000:=by have:=hz.len;have:=hz.young;have:=hz.old;omega
 have HSW':=mk0 sW
 have HSO':=mk0 sO
 obtain ⟨aW,cW,rfl,-⟩:=sW
 obtain ⟨aO,cO,rfl,-⟩:=sO
 obtain ⟨W0,hW0,hB0,hs0,k0,k1⟩:=boxes2 w #[.slice aW h.words.length cW,.int .i64 h.young,.int .i64 h.old,.int .i64 h.ytop,.int .i64 h.otop,.slice aO h.noted.length cO,.int .i64 h.next] #[.slice none 0 0,.int .i64 0,.int .i64 0,.int .i64 0,.int .i64 0,.slice none 0 0,.int .i64 0] 24 24
 have HSW:=mk0 (HSW'.out.keptI (Kp.below (hB0.mono hB)))
 have HSO:=mk0 (HSO'.out.keptI (Kp.below (hB0.mono hB)))
 have HBS:Hid (B<=W0.heap.size):=Nat.le_trans hB hB0.size
 have HL1:=mk0 hl1
 have HL2:=mk0 hl2
 have lk0:=lt0 k0
 have lk1:=lt0 k1
 have c0:=cl0 k0 0 (x:=.slice aW h.words.length cW) rfl
 have c1:=cl0 k0 1 (x:=.int .i64 h.young) rfl
 have c2:=cl0 k0 2 (x:=.int .i64 h.old) rfl
 have c3:=cl0 k0 3 (x:=.int .i64 h.ytop) rfl
 have c4:=cl0 k0 4 (x:=.int .i64 h.otop) rfl
 have c5:=cl0 k0 5 (x:=.slice aO h.noted.length cO) rfl
 have c6:=cl0 k0 6 (x:=.int .i64 h.next) rfl
 have HK0:=mk0 k0
 have HK1:=mk0 k1
 have HB0:=mk0 hB0
 have HE0:=mk0 hW0
 have hy:=hz.young
 have ho:=hz.old
 have hyt:=hz.ytop
 have hot:=hz.otop
 have wy:IntKind.i64.wrap (h.young+1)=h.young+1:=ws0 _ (by omega) (by omega)
 have wo:IntKind.i64.wrap (h.young+h.old)=h.young+h.old:=ws0 _ (by omega) (by omega)
 have wo1:IntKind.i64.wrap (h.young+h.old+1)=h.young+h.old+1:=ws0 _ (by omega) (by omega)
 have wt3:IntKind.i64.wrap (h.otop+3)=h.otop+3:=ws0 _ (by omega) (by omega)
 have wtl:IntKind.i64.wrap (h.otop+3+len)=h.otop+3+len:=ws0 _ (by omega) (by omega)
 have w3l:IntKind.i64.wrap (3+len)=3+len:=ws0 _ (by omega) (by omega)
 have wt3l:IntKind.i64.wrap (h.otop+(3+len))=h.otop+3+len:=by rw [<-Int.add_assoc];exact wtl
 clear HSW' HSO' hB hl1 hl2 k0 k1 hB0 hW0
 cases hr:roomB h true len with
 | false=>
   have HRM:=mk0 hr
   have hgt:h.young+h.old+1<h.otop+3+len:=by
    have hzl:=hz.len
    unfold roomB topOf endOf at hr
    have:=of_decide_eq_false hr
    simp at this
    omega
   clear hr hz hn hy ho hyt hot
   go_enter Tryz.func24,Tryz.ntmps24
   go_wp2_with fail
   rw [<-HE0.out]
   refine wp_region_held_drew (S:=fun W'=>∀p:Addr,p.block<W0.heap.size->W'.cell? p=W0.cell? p) (by kernel_rfl) (fun p hp=>rfl) fun hH=>?_
   refine begin_act 7 rfl fun a ha=>?_
   have sza:a.tmps.size=73:=by rw [ha];rfl
   have ta4:∀h,a.tmps[4]'h=.pointer (some ⟨w.heap.size,0,none⟩):=by rw [ha];exact fun _=>rfl
   have HA:=mk0 ha
   clear ha
   refine tka 0 13 (.pointer (some ⟨w.heap.size,3,none⟩)) rfl hH ?_
   refine tka 1 14 (.int .i64 h.ytop) rfl hH ?_
   refine tka 2 15 (.pointer (some ⟨w.heap.size,1,none⟩)) rfl hH ?_
   refine tka 3 16 (.int .i64 h.young) rfl hH ?_
   refine tka 4 17 (.int .i64 (h.young+1)) rfl hH ?_
   refine tka 5 11 (.int .i64 h.ytop) rfl hH ?_
   refine tka 6 12 (.int .i64 (h.young+1)) rfl hH ?_
   refine wpAnyH_done (by kernel_rfl) ?_ _
   clear hH
   rw [HA.out]
   simp only [Act.put,List.setIfInBounds_toArray,List.set_cons_zero,List.set_cons_succ]
   obtain ⟨V1,hV1⟩:∃V1,V1=W0.drew:=⟨_,rfl⟩
   rw [<-hV1]
   have hbV:Below W0.heap.size W0 V1:=hV1 ▸ (Below.refl _ _).drew
   clear hV1
   have d1:=(hbV.cell (p:=⟨w.heap.size,1,none⟩) lk0).trans c1
   have d2:=(hbV.cell (p:=⟨w.heap.size,2,none⟩) lk0).trans c2
   have d4:=(hbV.cell (p:=⟨w.heap.size,4,none⟩) lk0).trans c4
   have lv0:w.heap.size<V1.heap.size:=Nat.lt_of_lt_of_le lk0 hbV.size
   go_wp2_with fail
   refine wp_region_held_drew (S:=fun W'=>∀p:Addr,p.block<V1.heap.size->W'.cell? p=V1.cell? p) (by kernel_rfl) (fun p hp=>rfl) fun hH=>?_
   refine begin_act 10 rfl fun a ha=>?_
   have sza:a.tmps.size=73:=by rw [ha];rfl
   have ta4:∀h,a.tmps[4]'h=.pointer (some ⟨w.heap.size,0,none⟩):=by rw [ha];exact fun _=>rfl
   have HA:=mk0 ha
   clear ha
   refine tka 0 19 (.pointer (some ⟨w.heap.size,4,none⟩)) rfl hH ?_
   refine tka 1 20 (.int .i64 h.otop) rfl hH ?_
   refine tka 2 21 (.pointer (some ⟨w.heap.size,1,none⟩)) rfl hH ?_
   refine tka 3 22 (.int .i64 h.young) rfl hH ?_
   refine tka 4 23 (.pointer (some ⟨w.heap.size,2,none⟩)) rfl hH ?_
   refine tka 5 24 (.int .i64 h.old) rfl hH ?_
   refine tka 6 25 (.int .i64 (h.young+h.old)) rfl hH ?_
   refine tka 7 26 (.int .i64 (h.young+h.old+1)) rfl hH ?_
   refine tka 8 11 (.int .i64 h.otop) rfl hH ?_
   refine tka 9 12 (.int .i64 (h.young+h.old+1)) rfl hH ?_
   refine wpAnyH_done (by kernel_rfl) ?_ _
   clear hH
   rw [HA.out]
   simp only [Act.put,List.setIfInBounds_toArray,List.set_cons_zero,List.set_cons_succ]
   obtain ⟨V2,hV2⟩:∃V2,V2=V1.drew:=⟨_,rfl⟩
   rw [<-hV2]
   replace hbV:Below W0.heap.size W0 V2:=hbV.trans ((hV2 ▸ (Below.refl _ _).drew:Below V1.heap.size V1 V2).mono hbV.size)
   clear d1 d2 d4 hV2 lv0
   have g0:=(hbV.cell (p:=⟨w.heap.size,0,none⟩) lk0).trans c0
   have g1:=(hbV.cell (p:=⟨w.heap.size,1,none⟩) lk0).trans c1
   have g2:=(hbV.cell (p:=⟨w.heap.size,2,none⟩) lk0).trans c2
   have g3:=(hbV.cell (p:=⟨w.heap.size,3,none⟩) lk0).trans c3
   have g4:=(hbV.cell (p:=⟨w.heap.size,4,none⟩) lk0).trans c4
   have g5:=(hbV.cell (p:=⟨w.heap.size,5,none⟩) lk0).trans c5
   have g6:=(hbV.cell (p:=⟨w.heap.size,6,none⟩) lk0).trans c6
   have kr:=(hbV.block _ lk1).trans HK1.out
   obtain ⟨W9,h9,hgS,hq,hr,rz,rl⟩:=setN (zs:=[.slice none 0 0,.int .i64 0,.int .i64 0,.int .i64 0,.int .i64 0,.slice none 0 0,.int .i64 0]) kr [.slice aW h.words.length cW,.int .i64 h.young,.int .i64 h.old,.int .i64 h.ytop,.int .i64 h.otop,.slice aO h.noted.length cO,.int .i64 h.next] rfl
   have r0:=hr 0 _ rfl
   have r1:=hr 1 _ rfl
   have r2:=hr 2 _ rfl
   have r3:=hr 3 _ rfl
   have r4:=hr 4 _ rfl
   have r5:=hr 5 _ rfl
   have r6:=hr 6 _ rfl
   have q0:=hq 0 _ rfl
   have q1:=hq 1 _ rfl
   have q2:=hq 2 _ rfl
   have q3:=hq 3 _ rfl
   have q4:=hq 4 _ rfl
   have q5:=hq 5 _ rfl
   have q6:=hq 6 _ rfl
   have hw9:=hgS.size
   have HB9:=mk0 (bg0 (HB0.out.trans (hbV.mono HB0.out.size)) hgS (by omega))
   have HG9:=mk0 hgS
   simp only [setL,Nat.reduceAdd]at h9
   have H9:=mk0 h9
   clear hgS hq hr h9
   have lv0:w.heap.size<V2.heap.size:=Nat.lt_of_lt_of_le lk0 hbV.size
   have h9v:=H9.out
   clear H9
   go_wp2_with fail
   exact bodyPost_ret (v:=.tuple #[.agg #[.slice aW h.words.length cW,.int .i64 h.young,.int .i64 h.old,.int .i64 h.ytop,.int .i64 h.otop,.slice aO h.noted.length cO,.int .i64 h.next],.int .i64 0,.bool false]) (by simp [results,Tryz.results24,go_sem,q0,q1,q2,q3,q4,q5,q6]) rfl ⟨HB9.out,Or.inr ⟨HRM.out,rfl⟩⟩
 | true=>
   have HRM:=mk0 hr
   have hgt:¬h.young+h.old+1<h.otop+3+len:=by
    have hzl:=hz.len
    unfold roomB topOf endOf at hr
    have:=of_decide_eq_true hr
    simp at this
    omega
   have HTP:Hid (0<=h.otop/\h.otop+3+len<=h.words.length/\0<h.words.length):=⟨by omega,by have:=hz.len;omega,by have:=hz.len;omega⟩
   have HNL:=mk0 hn
   clear hr hz hn hy ho hyt hot
   go_enter Tryz.func24,Tryz.ntmps24
   go_wp2_with fail
   rw [<-HE0.out]
   refine wp_region_held_drew (S:=fun W'=>∀p:Addr,p.block<W0.heap.size->W'.cell? p=W0.cell? p) (by kernel_rfl) (fun p hp=>rfl) fun hH=>?_
   refine begin_act 7 rfl fun a ha=>?_
   have sza:a.tmps.size=73:=by rw [ha];rfl
   have ta4:∀h,a.tmps[4]'h=.pointer (some ⟨w.heap.size,0,none⟩):=by rw [ha];exact fun _=>rfl
   have HA:=mk0 ha
   clear ha
   refine tka 0 13 (.pointer (some ⟨w.heap.size,3,none⟩)) rfl hH ?_
   refine tka 1 14 (.int .i64 h.ytop) rfl hH ?_
   refine tka 2 15 (.pointer (some ⟨w.heap.size,1,none⟩)) rfl hH ?_
   refine tka 3 16 (.int .i64 h.young) rfl hH ?_
   refine tka 4 17 (.int .i64 (h.young+1)) rfl hH ?_
   refine tka 5 11 (.int .i64 h.ytop) rfl hH ?_
   refine tka 6 12 (.int .i64 (h.young+1)) rfl hH ?_
   refine wpAnyH_done (by kernel_rfl) ?_ _
   clear hH
   rw [HA.out]
   simp only [Act.put,List.setIfInBounds_toArray,List.set_cons_zero,List.set_cons_succ]
   obtain ⟨V1,hV1⟩:∃V1,V1=W0.drew:=⟨_,rfl⟩
   rw [<-hV1]
   have hbV:Below W0.heap.size W0 V1:=hV1 ▸ (Below.refl _ _).drew
   clear hV1
   have d1:=(hbV.cell (p:=⟨w.heap.size,1,none⟩) lk0).trans c1
   have d2:=(hbV.cell (p:=⟨w.heap.size,2,none⟩) lk0).trans c2
   have d4:=(hbV.cell (p:=⟨w.heap.size,4,none⟩) lk0).trans c4
   have lv0:w.heap.size<V1.heap.size:=Nat.lt_of_lt_of_le lk0 hbV.size
   go_wp2_with fail
   refine wp_region_held_drew (S:=fun W'=>∀p:Addr,p.block<V1.heap.size->W'.cell? p=V1.cell? p) (by kernel_rfl) (fun p hp=>rfl) fun hH=>?_
   refine begin_act 10 rfl fun a ha=>?_
   have sza:a.tmps.size=73:=by rw [ha];rfl
   have ta4:∀h,a.tmps[4]'h=.pointer (some ⟨w.heap.size,0,none⟩):=by rw [ha];exact fun _=>rfl
   have HA:=mk0 ha
   clear ha
   refine tka 0 19 (.pointer (some ⟨w.heap.size,4,none⟩)) rfl hH ?_
   refine tka 1 20 (.int .i64 h.otop) rfl hH ?_
   refine tka 2 21 (.pointer (some ⟨w.heap.size,1,none⟩)) rfl hH ?_
   refine tka 3 22 (.int .i64 h.young) rfl hH ?_
   refine tka 4 23 (.pointer (some ⟨w.heap.size,2,none⟩)) rfl hH ?_
   refine tka 5 24 (.int .i64 h.old) rfl hH ?_
   refine tka 6 25 (.int .i64 (h.young+h.old)) rfl hH ?_
   refine tka 7 26 (.int .i64 (h.young+h.old+1)) rfl hH ?_
   refine tka 8 11 (.int .i64 h.otop) rfl hH ?_
   refine tka 9 12 (.int .i64 (h.young+h.old+1)) rfl hH ?_
   refine wpAnyH_done (by kernel_rfl) ?_ _
   clear hH
   rw [HA.out]
   simp only [Act.put,List.setIfInBounds_toArray,List.set_cons_zero,List.set_cons_succ]
   obtain ⟨V2,hV2⟩:∃V2,V2=V1.drew:=⟨_,rfl⟩
   rw [<-hV2]
   replace hbV:Below W0.heap.size W0 V2:=hbV.trans ((hV2 ▸ (Below.refl _ _).drew:Below V1.heap.size V1 V2).mono hbV.size)
   clear d1 d2 d4 hV2 lv0
   have g0:=(hbV.cell (p:=⟨w.heap.size,0,none⟩) lk0).trans c0
   have g1:=(hbV.cell (p:=⟨w.heap.size,1,none⟩) lk0).trans c1
   have g2:=(hbV.cell (p:=⟨w.heap.size,2,none⟩) lk0).trans c2
   have g3:=(hbV.cell (p:=⟨w.heap.size,3,none⟩) lk0).trans c3
   have g4:=(hbV.cell (p:=⟨w.heap.size,4,none⟩) lk0).trans c4
   have g5:=(hbV.cell (p:=⟨w.heap.size,5,none⟩) lk0).trans c5
   have g6:=(hbV.cell (p:=⟨w.heap.size,6,none⟩) lk0).trans c6
   have lv0:w.heap.size<V2.heap.size:=Nat.lt_of_lt_of_le lk0 hbV.size
   have HCP:=mk0 (copied_any V2 B _ _ h (HSW.out.keptI (Kp.below (hbV.mono HBS.out))) (HSO.out.keptI (Kp.below (hbV.mono HBS.out))) (Nat.le_trans HBS.out hbV.size) HL1.out HL2.out)
   have HBV:=mk0 hbV
   clear hbV
   go_wp2_with fail
   refine HCP.out.mono ?_
   rintro r w1 ⟨hb1,nW,dW,nO,dO,rfl,hov⟩
   have hs1:=hb1.size
   have hsV:=HBV.out.size
   have hb01:Below W0.heap.size W0 w1:=HBV.out.trans (hb1.mono hsV)
   have kb:=(hb01.block _ lk0).trans HK0.out
   have kr:=(hb01.block _ lk1).trans HK1.out
   obtain ⟨gW,hnW,hgW⟩:∃gW,nW=some ⟨gW,0,none⟩/\V2.heap.size<=gW:=by
    rcases hov.rW.2 with ⟨-,e0⟩ | ⟨g,cap,cur,e,hg,-⟩
    ·
     have:=HTP.out.2.2;omega
    ·
     exact ⟨g,(Value.slice.inj e).1,hg⟩
   subst hnW
   obtain ⟨W9,h9,hgS,hq,hr,rz,rl⟩:=setN (zs:=[.slice aW h.words.length cW,.int .i64 h.young,.int .i64 h.old,.int .i64 h.ytop,.int .i64 h.otop,.slice aO h.noted.length cO,.int .i64 h.next]) kb [.slice (some ⟨gW,0,none⟩) h.words.length dW,.int .i64 h.young,.int .i64 h.old,.int .i64 h.ytop,.int .i64 h.otop,.slice nO h.noted.length dO,.int .i64 h.next] rfl
   have r0:=hr 0 _ rfl
   have r1:=hr 1 _ rfl
   have r2:=hr 2 _ rfl
   have r3:=hr 3 _ rfl
   have r4:=hr 4 _ rfl
   have r5:=hr 5 _ rfl
   have r6:=hr 6 _ rfl
   have q0:=hq 0 _ rfl
   have q1:=hq 1 _ rfl
   have q2:=hq 2 _ rfl
   have q3:=hq 3 _ rfl
   have q4:=hq 4 _ rfl
   have q5:=hq 5 _ rfl
   have q6:=hq 6 _ rfl
   have hw9:=hgS.size
   have HB9:=mk0 (bg0 (HB0.out.trans (hb01.mono HB0.out.size)) hgS (by omega))
   have HG9:=mk0 hgS
   simp only [setL,Nat.reduceAdd]at h9
   have H9:=mk0 h9
   clear hgS hq hr h9
   have h9v:=H9.out
   have hrz:W9.heap[w.heap.size+1]? =some (.cells #[.slice none 0 0,.int .i64 0,.int .i64 0,.int .i64 0,.int .i64 0,.slice none 0 0,.int .i64 0] 24 (0,0)):=(HG9.out.block _ (lt0 kr) (by intro e;injection e;omega)).trans kr
   have hov9:OwnV w.heap.size W9 (.slice (some ⟨gW,0,none⟩) h.words.length dW) (.slice nO h.noted.length dO) h:=(hov.mono (by omega)).grown HG9.out (by simp [Value.ownBlock];omega) (fun e=>by have:=(hov.rO.lt _ e).1;omega)
   have hgk:W9.heap[w.heap.size]? =some (.cells #[.slice (some ⟨gW,0,none⟩) h.words.length dW,.int .i64 h.young,.int .i64 h.old,.int .i64 h.ytop,.int .i64 h.otop,.slice nO h.noted.length dO,.int .i64 h.next] 24 (0,0)):=by
    rw [<-h9v]
    exact heap_set (heap_set (heap_set (heap_set (heap_set (heap_set (heap_set kb _) _) _) _) _) _) _
   have HOV9:=mk0 hov9
   have HNO:Hid (∀k,(Value.slice nO h.noted.length dO).ownBlock=some k->W0.heap.size<=k):=fun k e=>by have:=(hov.rO.lt _ e).1;omega
   have HGK:=mk0 hgk
   have HRZ:=mk0 hrz
   clear H9 hb1 hov hb01 kb kr hrz hov9 hgk HCP
   go_wp2_with fail
   clear h9v r0 r1 r2 r3 r4 r5 r6 g0 g1 g2 g3 g4 g5 g6
   have HGW:Hid (W0.heap.size<=gW):=by show _<=_;omega
   have HS9:Hid (W0.heap.size<=W9.heap.size):=by show _<=_;have:=HG9.out.size;omega
   obtain ⟨V9,hV9⟩:∃V9,V9=W9.drew:=⟨_,rfl⟩
   have hgV9:W9.grownBy V9 (some gW):=hV9 ▸ ⟨rfl,rfl,rfl,Nat.le_refl _,fun _ _ _=>rfl⟩
   have hoV9:V9.ownsRow w.heap.size 3 1 (.slice (some ⟨gW,0,none⟩) h.words.length dW) h.words.length (intV h.words):=hV9 ▸ HOV9.out.rW
   obtain ⟨xcV9,zcV9,lcV9⟩:=own_at hoV9
   obtain ⟨m,hm⟩:∃m:Nat,h.otop=(m:Int):=⟨h.otop.toNat,by have:=HTP.out.1;omega⟩
   have hlm:m+2<h.words.length:=by have:=HTP.out.2.1;have:=HNL.out;omega
   obtain ⟨m1,hm1⟩:∃m1,m1=m+1:=⟨_,rfl⟩
   obtain ⟨m2,hm2⟩:∃m2,m2=m+2:=⟨_,rfl⟩
   have wm1:IntKind.i64.wrap ((m:Int)+1)=(m1:Int):=by rw [hm1];exact (ws0 _ (by omega) (by have:=HL1.out;omega)).trans (by omega)
   have wm2:IntKind.i64.wrap ((m:Int)+2)=(m2:Int):=by rw [hm2];exact (ws0 _ (by omega) (by have:=HL1.out;omega)).trans (by omega)
   have lm0:m<h.words.length:=by omega
   have lm1:m1<h.words.length:=by omega
   have lm2:m2<h.words.length:=by omega
   have HM:=mk0 (And.intro hm (And.intro hm1 (And.intro hm2 hlm)))
   obtain ⟨xV9,hxV9⟩:=xcV9 m lm0
   rw [hm]
   clear hm hm1 hm2 hlm xcV9 hs1 hsV hgW
   refine wp_region_held_drew (S:=fun W'=>∀p:Addr,p.block<W0.heap.size->W'.cell? p=W9.cell? p) (by kernel_rfl) (fun p hp=>rfl) fun hH=>?_
   rw [<-hV9]at hH ⊢
   clear hV9
   refine begin_act 21 rfl fun a ha=>?_
   have sza:a.tmps.size=73:=by rw [ha];rfl
   have ta1:∀h,a.tmps[1]'h=.int .i64 tag:=by rw [ha];exact fun _=>rfl
   have ta2:∀h,a.tmps[2]'h=.int .i64 len:=by rw [ha];exact fun _=>rfl
   have ta4:∀h,a.tmps[4]'h=.pointer (some ⟨w.heap.size,0,none⟩):=by rw [ha];exact fun _=>rfl
   have ta11:∀h,a.tmps[11]'h=.int .i64 m:=by rw [ha];exact fun _=>rfl
   have HA:=mk0 ha
   clear ha
   refine tka 0 36 (.pointer (some ⟨w.heap.size,0,none⟩)) rfl hH ?_
   refine tka 1 37 (.slice (some ⟨gW,0,none⟩) h.words.length dW) rfl hH ?_
   refine tka 2 38 (.int .i64 m) rfl hH ?_
   refine tka 3 39 (.pointer (some ⟨w.heap.size,0,none⟩)) rfl hH ?_
   refine tka 4 40 (.slice (some ⟨gW,0,none⟩) h.words.length dW) rfl hH ?_
   refine tka 5 41 (.int .i64 m) rfl hH ?_
   refine tka 6 42 (.int .i64 m1) rfl hH ?_
   refine tka 7 43 (.pointer (some ⟨w.heap.size,0,none⟩)) rfl hH ?_
   refine tka 8 44 (.slice (some ⟨gW,0,none⟩) h.words.length dW) rfl hH ?_
   refine tka 9 45 (.int .i64 m) rfl hH ?_
   refine tka 10 46 (.int .i64 m2) rfl hH ?_
   refine tka 11 47 (.int .i64 tag) rfl hH ?_
   refine tka 12 48 (.int .i64 len) rfl hH ?_
   refine tka 13 49 (.pointer (some ⟨w.heap.size,6,none⟩)) rfl hH ?_
   refine tka 14 50 (.int .i64 h.next) rfl hH ?_
   refine tka 15 51 (.pointer (some ⟨gW,m,none⟩)) rfl hH ?_
   refine wpAnyH_ready (rs:=[16]) (by kernel_rfl) (by simp) ?_
   refine AllReadyH.cons rfl (fun K16 hK16=>?_) AllReadyH.nil
   go_simp
   obtain ⟨Wa,hWa⟩:∃Wa,Wa=V9.setCell ⟨gW,m,none⟩ (.int .i64 tag):=⟨_,rfl⟩
   rw [<-hWa]
   have hgWa:W9.grownBy Wa (some gW):=hWa ▸ grown_set hgV9 _ _ (Or.inl rfl)
   have hoWa:=own_set hoV9 (m) (.int .i64 tag)
   rw [<-hWa]at hoWa
   refine hK16.out _ _ (fun p hp=>World.cell?_of_block (hgWa.block _ (by have:=HS9.out;omega) (by have:=HGW.out;intro e;injection e;omega))) fun hH=>?_
   rw [bits_set]
   clear hWa hxV9 zcV9 lcV9 hK16
   obtain ⟨xcWa,zcWa,lcWa⟩:=own_at hoWa
   obtain ⟨xWa,hxWa⟩:=xcWa m1 lm1
   clear xcWa
   refine tka 17 52 (.pointer (some ⟨gW,m1,none⟩)) rfl hH ?_
   refine wpAnyH_ready (rs:=[18]) (by kernel_rfl) (by simp) ?_
   refine AllReadyH.cons rfl (fun K18 hK18=>?_) AllReadyH.nil
   go_simp
   obtain ⟨Wb,hWb⟩:∃Wb,Wb=Wa.setCell ⟨gW,m1,none⟩ (.int .i64 len):=⟨_,rfl⟩
   rw [<-hWb]
   have hgWb:W9.grownBy Wb (some gW):=hWb ▸ grown_set hgWa _ _ (Or.inl rfl)
   have hoWb:=own_set hoWa (m1) (.int .i64 len)
   rw [<-hWb]at hoWb
   refine hK18.out _ _ (fun p hp=>World.cell?_of_block (hgWb.block _ (by have:=HS9.out;omega) (by have:=HGW.out;intro e;injection e;omega))) fun hH=>?_
   rw [bits_set]
   clear hWb hxWa zcWa lcWa hK18
   obtain ⟨xcWb,zcWb,lcWb⟩:=own_at hoWb
   obtain ⟨xWb,hxWb⟩:=xcWb m2 lm2
   clear xcWb
   refine tka 19 53 (.pointer (some ⟨gW,m2,none⟩)) rfl hH ?_
   refine wpAnyH_ready (rs:=[20]) (by kernel_rfl) (by simp) ?_
   refine AllReadyH.cons rfl (fun K20 hK20=>?_) AllReadyH.nil
   go_simp
   obtain ⟨Wc,hWc⟩:∃Wc,Wc=Wb.setCell ⟨gW,m2,none⟩ (.int .i64 h.next):=⟨_,rfl⟩
   rw [<-hWc]
   have hgWc:W9.grownBy Wc (some gW):=hWc ▸ grown_set hgWb _ _ (Or.inl rfl)
   have hoWc:=own_set hoWb (m2) (.int .i64 h.next)
   rw [<-hWc]at hoWc
   refine hK20.out _ _ (fun p hp=>World.cell?_of_block (hgWc.block _ (by have:=HS9.out;omega) (by have:=HGW.out;intro e;injection e;omega))) fun hH=>?_
   rw [bits_set]
   clear hWc hxWb zcWb lcWb hK20
   refine wpAnyH_done (by kernel_rfl) ?_ _
   clear hH
   rw [HA.out]
   simp only [List.setIfInBounds_toArray,List.set_cons_zero,List.set_cons_succ]
   obtain ⟨nx,hnx⟩:∃nx,IntKind.i64.wrap (h.next+1)=nx:=⟨_,rfl⟩
   have sW9:=hgWc.size
   have hS9:=HS9.out
   have kc:Wc.heap[w.heap.size]? =some (.cells #[.slice (some ⟨gW,0,none⟩) h.words.length dW,.int .i64 h.young,.int .i64 h.old,.int .i64 h.ytop,.int .i64 h.otop,.slice nO h.noted.length dO,.int .i64 h.next] 24 (0,0)):=(hgWc.block _ (by omega) (by have:=HGW.out;intro e;injection e;omega)).trans HGK.out
   have kz:Wc.heap[w.heap.size+1]? =some (.cells #[.slice none 0 0,.int .i64 0,.int .i64 0,.int .i64 0,.int .i64 0,.slice none 0 0,.int .i64 0] 24 (0,0)):=(hgWc.block _ (by omega) (by have:=HGW.out;intro e;injection e;omega)).trans HRZ.out
   have ovc:OwnV w.heap.size Wc (.slice (some ⟨gW,0,none⟩) h.words.length dW) (.slice nO h.noted.length dO) (makeD h tag len true):=by
    obtain ⟨hm,e1,e2,hl⟩:=HM.out
    have hmw:(makeD h tag len true).words=put3 h.words m tag len h.next:=by
     show put3 h.words (topOf h true).toNat _ _ _=_
     rw [show topOf h true=(m:Int) from hm];rfl
    refine ⟨?_,HOV9.out.rO.kept hgWc (Or.inr (HOV9.out.ne gW rfl)),HOV9.out.ne⟩
    rw [hmw,put3_len _ _ _ (by omega),<-set3_put3 h.words m tag len h.next hl,<-e1,<-e2]
    exact hoWc
   obtain ⟨Wd,hWd⟩:∃Wd,Wc.setCell ⟨w.heap.size,6,none⟩ (.int .i64 nx)=Wd:=⟨_,rfl⟩
   have hgd:Wc.grownBy Wd (some w.heap.size):=hWd ▸ grown_set (World.grownBy.refl _ _) _ _ (Or.inl rfl)
   have kd:Wd.heap[w.heap.size]? =some (.cells #[.slice (some ⟨gW,0,none⟩) h.words.length dW,.int .i64 h.young,.int .i64 h.old,.int .i64 h.ytop,.int .i64 h.otop,.slice nO h.noted.length dO,.int .i64 nx] 24 (0,0)):=hWd ▸ heap_set kc _
   obtain ⟨We,hWe⟩:∃We,Wd.setCell ⟨w.heap.size,4,none⟩ (.int .i64 (h.otop+3+len))=We:=⟨_,rfl⟩
   have hge:Wc.grownBy We (some w.heap.size):=hWe ▸ grown_set hgd _ _ (Or.inl rfl)
   have ke:We.heap[w.heap.size]? =some (.cells #[.slice (some ⟨gW,0,none⟩) h.words.length dW,.int .i64 h.young,.int .i64 h.old,.int .i64 h.ytop,.int .i64 (h.otop+3+len),.slice nO h.noted.length dO,.int .i64 nx] 24 (0,0)):=hWe ▸ heap_set kd _
   have kf:=(hge.block _ (lt0 kz) (by intro e;injection e;omega)).trans kz
   have hgW:=HGW.out
   have hnO:∀k,(Value.slice nO h.noted.length dO).ownBlock=some k->W0.heap.size<=k:=fun k e=>HNO.out k e
   have ove:=ovc.grown hge (by simp [Value.ownBlock];omega) (fun e=>by have:=hnO _ e;omega)
   have hBc:Below w.heap.size w Wc:=bg0 HB9.out hgWc (by omega)
   have hBe:Below w.heap.size w We:=bg0 hBc hge (Nat.le_refl _)
   obtain ⟨W9t,h9t,hgSt,hqt,hrt,rzt,rlt⟩:=setN (zs:=[.slice none 0 0,.int .i64 0,.int .i64 0,.int .i64 0,.int .i64 0,.slice none 0 0,.int .i64 0]) kf [.slice (some ⟨gW,0,none⟩) h.words.length dW,.int .i64 h.young,.int .i64 h.old,.int .i64 h.ytop,.int .i64 (h.otop+3+len),.slice nO h.noted.length dO,.int .i64 nx] rfl
   have rt0:=hrt 0 _ rfl
   have rt1:=hrt 1 _ rfl
   have rt2:=hrt 2 _ rfl
   have rt3:=hrt 3 _ rfl
   have rt4:=hrt 4 _ rfl
   have rt5:=hrt 5 _ rfl
   have rt6:=hrt 6 _ rfl
   have qt0:=hqt 0 _ rfl
   have qt1:=hqt 1 _ rfl
   have qt2:=hqt 2 _ rfl
   have qt3:=hqt 3 _ rfl
   have qt4:=hqt 4 _ rfl
   have qt5:=hqt 5 _ rfl
   have qt6:=hqt 6 _ rfl
   have hw9t:=hgSt.size
   have HB9t:=mk0 (bg0 (hBe) hgSt (by omega))
   have HG9t:=mk0 hgSt
   simp only [setL,Nat.reduceAdd]at h9t
   have H9t:=mk0 h9t
   clear hgSt hqt hrt h9t
   have HOF:=mk0 (ove.grown HG9t.out (by simp [Value.ownBlock];omega) (fun e=>by have:=hnO _ e;omega))
   obtain ⟨a0,a1,a2,a3,a4,a5,a6,az,al⟩:=cells7 kc
   obtain ⟨b0,b1,b2,b3,b4,b5,b6,bz,bl⟩:=cells7 kd
   obtain ⟨d0,d1,d2,d3,d4,d5,d6,dz,dl⟩:=cells7 ke
   have HNX:=mk0 hnx
   have h9vt:=H9t.out
   have HML:Hid ((makeD h tag len true).words.length=h.words.length):=put3_len _ _ _ (by rw [show topOf h true=(m:Int) from HM.out.1];have:=HM.out.2.2.2;show m+3<=_;omega)
   clear H9t hgd hge hBc hBe kc kd ke kf kz ovc ove hoWc hgWc hoWa hoWb hgWa hgWb hgV9 hoV9 hnO hgW sW9 hS9 q0 q1 q2 q3 q4 q5 q6 wm1 wm2 lm0 lm1 lm2
   go_wp2_with fail
   refine bodyPost_ret (v:=.tuple #[.agg #[.slice (some ⟨gW,0,none⟩) h.words.length dW,.int .i64 h.young,.int .i64 h.old,.int .i64 h.ytop,.int .i64 (h.otop+3+len),.slice nO h.noted.length dO,.int .i64 nx],.int .i64 m,.bool true]) (by simp [results,Tryz.results24,go_sem,qt0,qt1,qt2,qt3,qt4,qt5,qt6]) rfl ⟨HB9t.out,Or.inl ⟨HRM.out,some ⟨gW,0,none⟩,dW,nO,dO,?_,?_⟩⟩
   ·
    rw [HML.out,<-HNX.out,show topOf h true=(m:Int) from HM.out.1]
    rfl
   ·
    rw [HML.out]
    exact HOF.out
end Go.Proofs.YtjdnmblggdobgaaGreat
