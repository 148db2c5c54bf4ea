import Derived.Test.YtcddpmappmjilaaGreatDoorJVmPVmC
import Derived.Test.YtcddpmappmjilaaGreatDoorTka
import Derived.Test.YtcddpmappmjilaaGreatDoorVmE
import Derived.Test.YtcddpmappmjilaaGreatDoorVmQ
namespace Go.Proofs.YtcddpmappmjilaaGreatDoor
open Go.RowKit Go.Maps
set_option maxRecDepth 100000 in
set_option maxHeartbeats 2000000 in
theorem stackD_1 {c:Lkr} {B F P Q:Nat} {x:Cd.Op4} {v:LkV} (hw:Wf c) (w:World) {vL vS:Value} {lo st:List KindD} (hl:LkW c B P v w) (hBF:B<=F) (h:Sp c F P Q x w vL vS lo st) (hst:st.length<=10) (hop:x.op=1):
 Calls Tryz.prog 316 #[.pointer (some ⟨Q,0,none⟩)] w fun r w'=>SpOut c F P Q x (stackD c x lo st) r w w':=by
 have HU:=mkHid (And.intro hw (And.intro hBF hst))
 clear HU
 have H:=mkHid h
 have HL:=mkHid hl
 have HD:Hid (stackD c x lo st=some (lo,st++ [numK])):=by show _=_;unfold stackD;rw [hop];rfl
 have c2:w.cell? ⟨Q,2,none⟩=some (.int .i64 1):=by rw [<-hop];exact cell_of h.blk 2 rfl
 clear h hl hop
 go_enter Tryz.func316,Tryz.ntmps316
 obtain ⟨-,-,-,-,-,-,n0_2,n1_2,-,-,-⟩:=(HL.out).gl
 go_wp2_with fail
 refine (putN_any _ H.out [numK] _ rfl (sm1 sm_num) (gd1 (numK_gd c)) (by simp;omega)).mono ?_
 rintro r w1 ⟨rfl,hb1,vS1,hp1⟩
 have H1:=mkHid hp1
 have HB1:=mkHid hb1
 clear hp1 hb1
 go_wp2_with fail
 go_end0
 exact SpOut.ok HD.out HB1.out H1.out
set_option maxRecDepth 100000 in
set_option maxHeartbeats 2000000 in
theorem stackD_5 {c:Lkr} {B F P Q:Nat} {x:Cd.Op4} {v:LkV} (hw:Wf c) (w:World) {vL vS:Value} {lo st:List KindD} (hl:LkW c B P v w) (hBF:B<=F) (h:Sp c F P Q x w vL vS lo st) (hst:st.length<=10) (hop:x.op=5):
 Calls Tryz.prog 316 #[.pointer (some ⟨Q,0,none⟩)] w fun r w'=>SpOut c F P Q x (stackD c x lo st) r w w':=by
 have HU:=mkHid (And.intro hw (And.intro hBF hst))
 clear HU
 have H:=mkHid h
 have HL:=mkHid hl
 have HD:Hid (stackD c x lo st=tpD c lo st [anyK] fun _=>some []):=by show _=_;unfold stackD;rw [hop];rfl
 have c2:w.cell? ⟨Q,2,none⟩=some (.int .i64 5):=by rw [<-hop];exact cell_of h.blk 2 rfl
 clear h hl hop
 go_enter Tryz.func316,Tryz.ntmps316
 obtain ⟨-,-,a0_2,a1_2,-,-,-,-,-,-,-⟩:=(HL.out).gl
 go_wp2_with fail
 refine (takeN_any hw.cls _ (HL.out) hBF H.out (by omega) [anyK] _ rfl (sm1 sm_any) (by decide)).mono ?_
 rintro r w1 ⟨hb1,⟨t1,rest1,v1,vS1,ht1,rfl,hs1,hp1⟩ | ⟨hn1,e1,p1,he1,rfl⟩⟩
 rotate_left
 ·
  exact ⟨rfl,SpOut.fail' (by rw [HD.out];exact tp_none hn1) hb1 ⟨_,_,he1,rfl⟩⟩
 have HT1:=mkHid ht1
 have HS1:=mkHid hs1
 have H1:=mkHid hp1
 have HB1:=mkHid hb1
 have hst1:rest1.length<=10:=Nat.le_trans (take_len ht1).2.1 (by omega)
 clear ht1 hs1 hp1 hb1
 go_wp2_with fail
 go_end0
 exact SpOut.ok (HD.out.trans (by have:=tp_some (lo:=lo) (puts:=fun _=>some []) HT1.out rfl;rwa [List.append_nil]at this)) HB1.out H1.out
set_option maxRecDepth 100000 in
set_option maxHeartbeats 2000000 in
theorem callD_31 {c:Lkr} {B F P Q:Nat} {x:Cd.Op4} {v:LkV} (hw:Wf c) (w:World) {vL vS:Value} {lo st:List KindD} (hl:LkW c B P v w) (hBF:B<=F) (h:Sp c F P Q x w vL vS lo st) (hst:st.length<=10) (hop:x.op=31):
 Calls Tryz.prog 315 #[.pointer (some ⟨Q,0,none⟩)] w fun r w'=>SpOut c F P Q x (callD c x lo st) r w w':=by
 have HU:=mkHid (And.intro hw (And.intro hBF hst))
 clear HU
 have H:=mkHid h
 have HL:=mkHid hl
 have HD:Hid (callD c x lo st=tpD c lo st [numK] fun _=>some []):=by show _=_;unfold callD;rw [hop];rfl
 have c2:w.cell? ⟨Q,2,none⟩=some (.int .i64 31):=by rw [<-hop];exact cell_of h.blk 2 rfl
 clear h hl hop
 go_enter Tryz.func315,Tryz.ntmps315
 obtain ⟨-,-,-,-,-,-,n0_2,n1_2,-,-,-⟩:=(HL.out).gl
 go_wp2_with fail
 refine (takeN_any hw.cls _ (HL.out) hBF H.out (by omega) [numK] _ rfl (sm1 sm_num) (by decide)).mono ?_
 rintro r w1 ⟨hb1,⟨t1,rest1,v1,vS1,ht1,rfl,hs1,hp1⟩ | ⟨hn1,e1,p1,he1,rfl⟩⟩
 rotate_left
 ·
  exact ⟨rfl,SpOut.fail' (by rw [HD.out];exact tp_none hn1) hb1 ⟨_,_,he1,rfl⟩⟩
 have HT1:=mkHid ht1
 have HS1:=mkHid hs1
 have H1:=mkHid hp1
 have HB1:=mkHid hb1
 have hst1:rest1.length<=10:=Nat.le_trans (take_len ht1).2.1 (by omega)
 clear ht1 hs1 hp1 hb1
 go_wp2_with fail
 go_end0
 exact SpOut.ok (HD.out.trans (by have:=tp_some (lo:=lo) (puts:=fun _=>some []) HT1.out rfl;rwa [List.append_nil]at this)) HB1.out H1.out
set_option maxRecDepth 100000 in
set_option maxHeartbeats 2000000 in
theorem callD_27 {c:Lkr} {B F P Q:Nat} {x:Cd.Op4} {v:LkV} (hw:Wf c) (w:World) {vL vS:Value} {lo st:List KindD} (hl:LkW c B P v w) (hBF:B<=F) (h:Sp c F P Q x w vL vS lo st) (hst:st.length<=10) (hop:x.op=27) (hrs:c.m.ret.cls.size<=maxLen):
 Calls Tryz.prog 315 #[.pointer (some ⟨Q,0,none⟩)] w fun r w'=>SpOut c F P Q x (callD c x lo st) r w w':=by
 have HU:=mkHid (And.intro hw (And.intro hBF hst))
 clear HU
 have H:=mkHid h
 have HL:=mkHid hl
 have HD:Hid (callD c x lo st=tpD c lo st (someD c.m.ret) fun _=>some []):=by show _=_;unfold callD;rw [hop];rfl
 have c2:w.cell? ⟨Q,2,none⟩=some (.int .i64 27):=by rw [<-hop];exact cell_of h.blk 2 rfl
 clear h hl hop
 go_enter Tryz.func315,Tryz.ntmps315
 have HLW:=HL.out
 have p9:=cell_of HLW.blk 9 (x:=.int .i64 c.m.ret.kind) rfl
 have p10:=cell_of HLW.blk 10 (x:=.string c.m.ret.cls) rfl
 have q0:=cell_of H.out.blk 0 (x:=.pointer (some ⟨P,0,none⟩)) rfl
 clear HLW
 go_wp2_with fail
 refine (something_any _ _ hrs).mono ?_
 rintro r w9 ⟨hb9,v9,rfl,hs9⟩
 have HB9:Hid (Below F w w9):=hb9.mono H.out.ff
 have H9:=mkHid (H.out.up hb9)
 have HS9:=mkHid hs9
 clear hb9 hs9
 go_wp2_with fail
 refine (take_any hw.cls _ (HL.out.below (HB9.out.mono hBF)) hBF H9.out (by omega) _ _ _ HS9.out).mono ?_
 rintro r w1 ⟨hb1,⟨t1,rest1,v1,vS1,ht1,rfl,hs1,hp1⟩ | ⟨hn1,e1,p1,he1,rfl⟩⟩
 rotate_left
 ·
  exact ⟨rfl,SpOut.fail' (by rw [HD.out];exact tp_none hn1) (HB9.out.trans hb1) ⟨_,_,he1,rfl⟩⟩
 have HT1:=mkHid ht1
 have HS1:=mkHid hs1
 have H1:=mkHid hp1
 have HB1:=mkHid (HB9.out.trans hb1)
 have hst1:rest1.length<=10:=Nat.le_trans (take_len ht1).2.1 (by omega)
 clear ht1 hs1 hp1 hb1
 go_wp2_with fail
 go_end0
 exact SpOut.ok (HD.out.trans (by have:=tp_some (lo:=lo) (puts:=fun _=>some []) HT1.out rfl;rwa [List.append_nil]at this)) HB1.out H1.out
end Go.Proofs.YtcddpmappmjilaaGreatDoor
namespace Go.Proofs.YtcddpmappmjilaaGreatDoor
open Go.RowKit Go.Maps
set_option maxRecDepth 100000 in
set_option maxHeartbeats 4000000 in
theorem run_1 {c:Lkr} {B P:Nat} {v:LkV} (hw:Wf c) {x:Cd.Op4} (hop:x.op=1) (_hxa:x.op≠1->0<=x.a):RunOk c B P v x:=by
 intro W F Q vL vS lo st hl hBF h hst hlo
 have HU:=mkHid hlo
 clear HU
 have H:=mkHid h
 have HL:=mkHid hl
 have HW:=mkHid hw
 have HTL:=mkHid (tells_rest W h (by omega) (by omega) (by omega) (by omega) (by omega) (by omega) (by omega) (by omega) (by omega) (by omega))
 have HF:Hid (F<=W.heap.size):=h.ff
 have HBF:=mkHid hBF
 cases ht:tellsD c x lo.length with
 | false=>
   have HRD:Hid (runD c x lo st=none):=by show _=_;unfold runD;rw [ht];rfl
   rw [ht]at HTL
   clear h hl
   go_enter Tryz.func245,Tryz.ntmps245
   go_wp2_with fail
   refine HTL.out.mono ?_
   rintro r w1 ⟨rfl,hb1⟩
   have HB1:=mkHid hb1
   clear hb1
   go_wp2_with fail
   refine (sdemand_any _ (H.out.up HB1.out) _ _).mono ?_
   rintro r w2 ⟨hw2,⟨hb,rfl⟩ | ⟨hb,rfl⟩⟩
   ·
    exact ⟨rfl,by rw [hw2];exact SpOut.fail' HRD.out (HB1.out.mono HF.out) ⟨3,_,by decide,rfl⟩⟩
   exact absurd hb (by simp)
 | true=>
   have HRD:Hid (runD c x lo st=(stackD c x lo st).bind fun r=>if decide ((r.2.length:Int)<=c.m.stack) then some r else none):=by
    show _=_
    unfold runD spawnD workD
    rw [ht,hop]
    rfl
   rw [ht]at HTL
   clear h hl
   go_enter Tryz.func245,Tryz.ntmps245
   go_wp2_with fail
   refine HTL.out.mono ?_
   rintro r w1 ⟨rfl,hb1⟩
   have HB1:=mkHid hb1
   have H1:=mkHid (H.out.up hb1)
   have HL1:=mkHid (HL.out.below (hb1.mono HL.out.bw))
   clear hb1
   go_wp2_with fail
   refine (sdemand_any _ H1.out _ _).mono ?_
   rintro r w2 ⟨hw2,⟨hb,rfl⟩ | ⟨hb,rfl⟩⟩
   ·
    exact absurd hb (by simp)
   rw [hw2]
   clear hb hw2 w2
   have c2:w1.cell? ⟨Q,2,none⟩=some (.int .i64 1):=by rw [<-hop];exact cell_of H1.out.blk 2 rfl
   go_wp2_with fail
   refine (stackD_1 hw w1 HL1.out hBF H1.out hst hop).mono ?_
   rintro r w3 ⟨hb3,⟨⟨lo3,st3⟩,vL3,vS3,hr3,rfl,hp3⟩ | ⟨hr3,e3,p3,he3,rfl⟩⟩
   rotate_left
   ·
    exact ⟨rfl,SpOut.fail' (by rw [HRD.out,hr3];rfl) ((HB1.out.mono HF.out).trans hb3) ⟨e3,p3,he3,rfl⟩⟩
   have hres3:=mkHid hr3
   have HB3:=mkHid ((HB1.out.mono HF.out).trans hb3)
   have H3:=mkHid hp3
   have hp3':Sp c F P Q x w3 vL3 vS3 lo3 st3:=hp3
   obtain ⟨aS3,cS3,rfl⟩:=own_shape hp3'.oS
   have HL3:=mkHid (HL1.out.below (hb3.mono HBF.out))
   have q0:=cell_of hp3'.blk 0 (x:=.pointer (some ⟨P,0,none⟩)) rfl
   have q6:=cell_of hp3'.blk 6 (x:=.slice aS3 st3.length cS3) rfl
   have p11:=cell_of HL3.out.blk 11 (x:=.int .i64 c.m.stack) rfl
   have lQ:Q<w3.heap.size:=lt_of hp3'.blk
   have lP:P<w3.heap.size:=lt_of HL3.out.blk
   clear hb3 hr3 hp3 hp3' c2 hop
   go_wp2_with fail
   refine wp_region_held_drew (S:=fun W'=>∀p:Addr,p.block<w3.heap.size->W'.cell? p=w3.cell? p) (by kernel_rfl) (fun p hp=>rfl) fun hH=>?_
   refine ta 0 (.pointer (some ⟨Q,0,none⟩)) rfl hH ?_
   refine ta 1 (.pointer (some ⟨Q,0,none⟩)) rfl hH ?_
   refine ta 2 (.pointer (some ⟨Q,0,none⟩)) rfl hH ?_
   refine ta 3 (.pointer (some ⟨Q,6,none⟩)) rfl hH ?_
   refine ta 4 (.slice aS3 st3.length cS3) rfl hH ?_
   refine ta 5 (.int .i64 st3.length) rfl hH ?_
   refine ta 6 (.pointer (some ⟨Q,0,none⟩)) rfl hH ?_
   refine ta 7 (.pointer (some ⟨Q,0,none⟩)) rfl hH ?_
   refine ta 8 (.pointer (some ⟨Q,0,none⟩)) rfl hH ?_
   refine ta 9 (.pointer (some ⟨P,0,none⟩)) rfl hH ?_
   refine ta 10 (.pointer (some ⟨P,0,none⟩)) rfl hH ?_
   refine ta 11 (.pointer (some ⟨P,6,none⟩)) rfl hH ?_
   refine ta 12 (.pointer (some ⟨P,11,none⟩)) rfl hH ?_
   refine ta 13 (.int .i64 c.m.stack) rfl hH ?_
   refine ta 14 (.bool (decide ((st3.length:Int)<=c.m.stack))) rfl hH ?_
   refine wpAnyH_ready (rs:=[15]) (by kernel_rfl) (by simp) ?_
   refine AllReadyH.cons rfl (fun K15 hK15=>?_) AllReadyH.nil
   go_simp
   refine (sdemand_any _ (H3.out.up (Below.refl _ _).drew) _ _).mono ?_
   rintro r w4 ⟨hw4,⟨hb,rfl⟩ | ⟨hb,rfl⟩⟩
   ·
    exact ⟨rfl,by rw [hw4];exact SpOut.fail' (by rw [HRD.out,hres3.out];show (if decide ((st3.length:Int)<=c.m.stack)=true then _ else _)=_;rw [hb];rfl) HB3.out.drew ⟨2,_,by decide,rfl⟩⟩
   rw [hw4]
   have HOK4:=mkHid hb
   clear hb hw4 w4
   refine hK15.out _ _ (fun p hp=>rfl) fun hH=>?_
   refine wpAnyH_done (by kernel_rfl) ?_ _
   clear hH
   try simp only [Act.put,List.setIfInBounds_toArray,List.set_cons_zero,List.set_cons_succ,List.getElem_toArray,List.getElem_cons_zero,List.getElem_cons_succ]
   go_wp2_with fail
   go_end0
   exact SpOut.ok (by rw [HRD.out,hres3.out];show (if decide ((st3.length:Int)<=c.m.stack)=true then _ else _)=_;rw [HOK4.out];rfl) HB3.out.drew (H3.out.up (Below.refl _ _).drew)
set_option maxRecDepth 100000 in
set_option maxHeartbeats 4000000 in
theorem run_31 {c:Lkr} {B P:Nat} {v:LkV} (hw:Wf c) {x:Cd.Op4} (hop:x.op=31) (_hxa:x.op≠1->0<=x.a):RunOk c B P v x:=by
 intro W F Q vL vS lo st hl hBF h hst hlo
 have HU:=mkHid hlo
 clear HU
 have H:=mkHid h
 have HL:=mkHid hl
 have HW:=mkHid hw
 have HTL:=mkHid (tells_rest W h (by omega) (by omega) (by omega) (by omega) (by omega) (by omega) (by omega) (by omega) (by omega) (by omega))
 have HF:Hid (F<=W.heap.size):=h.ff
 have HBF:=mkHid hBF
 cases ht:tellsD c x lo.length with
 | false=>
   have HRD:Hid (runD c x lo st=none):=by show _=_;unfold runD;rw [ht];rfl
   rw [ht]at HTL
   clear h hl
   go_enter Tryz.func245,Tryz.ntmps245
   go_wp2_with fail
   refine HTL.out.mono ?_
   rintro r w1 ⟨rfl,hb1⟩
   have HB1:=mkHid hb1
   clear hb1
   go_wp2_with fail
   refine (sdemand_any _ (H.out.up HB1.out) _ _).mono ?_
   rintro r w2 ⟨hw2,⟨hb,rfl⟩ | ⟨hb,rfl⟩⟩
   ·
    exact ⟨rfl,by rw [hw2];exact SpOut.fail' HRD.out (HB1.out.mono HF.out) ⟨3,_,by decide,rfl⟩⟩
   exact absurd hb (by simp)
 | true=>
   have HRD:Hid (runD c x lo st=(callD c x lo st).bind fun r=>if decide ((r.2.length:Int)<=c.m.stack) then some r else none):=by
    show _=_
    unfold runD spawnD workD
    rw [ht,hop]
    rfl
   rw [ht]at HTL
   clear h hl
   go_enter Tryz.func245,Tryz.ntmps245
   go_wp2_with fail
   refine HTL.out.mono ?_
   rintro r w1 ⟨rfl,hb1⟩
   have HB1:=mkHid hb1
   have H1:=mkHid (H.out.up hb1)
   have HL1:=mkHid (HL.out.below (hb1.mono HL.out.bw))
   clear hb1
   go_wp2_with fail
   refine (sdemand_any _ H1.out _ _).mono ?_
   rintro r w2 ⟨hw2,⟨hb,rfl⟩ | ⟨hb,rfl⟩⟩
   ·
    exact absurd hb (by simp)
   rw [hw2]
   clear hb hw2 w2
   have c2:w1.cell? ⟨Q,2,none⟩=some (.int .i64 31):=by rw [<-hop];exact cell_of H1.out.blk 2 rfl
   go_wp2_with fail
   refine (callD_31 hw w1 HL1.out hBF H1.out hst hop).mono ?_
   rintro r w3 ⟨hb3,⟨⟨lo3,st3⟩,vL3,vS3,hr3,rfl,hp3⟩ | ⟨hr3,e3,p3,he3,rfl⟩⟩
   rotate_left
   ·
    exact ⟨rfl,SpOut.fail' (by rw [HRD.out,hr3];rfl) ((HB1.out.mono HF.out).trans hb3) ⟨e3,p3,he3,rfl⟩⟩
   have hres3:=mkHid hr3
   have HB3:=mkHid ((HB1.out.mono HF.out).trans hb3)
   have H3:=mkHid hp3
   have hp3':Sp c F P Q x w3 vL3 vS3 lo3 st3:=hp3
   obtain ⟨aS3,cS3,rfl⟩:=own_shape hp3'.oS
   have HL3:=mkHid (HL1.out.below (hb3.mono HBF.out))
   have q0:=cell_of hp3'.blk 0 (x:=.pointer (some ⟨P,0,none⟩)) rfl
   have q6:=cell_of hp3'.blk 6 (x:=.slice aS3 st3.length cS3) rfl
   have p11:=cell_of HL3.out.blk 11 (x:=.int .i64 c.m.stack) rfl
   have lQ:Q<w3.heap.size:=lt_of hp3'.blk
   have lP:P<w3.heap.size:=lt_of HL3.out.blk
   clear hb3 hr3 hp3 hp3' c2 hop
   go_wp2_with fail
   refine wp_region_held_drew (S:=fun W'=>∀p:Addr,p.block<w3.heap.size->W'.cell? p=w3.cell? p) (by kernel_rfl) (fun p hp=>rfl) fun hH=>?_
   refine ta 0 (.pointer (some ⟨Q,0,none⟩)) rfl hH ?_
   refine ta 1 (.pointer (some ⟨Q,0,none⟩)) rfl hH ?_
   refine ta 2 (.pointer (some ⟨Q,0,none⟩)) rfl hH ?_
   refine ta 3 (.pointer (some ⟨Q,6,none⟩)) rfl hH ?_
   refine ta 4 (.slice aS3 st3.length cS3) rfl hH ?_
   refine ta 5 (.int .i64 st3.length) rfl hH ?_
   refine ta 6 (.pointer (some ⟨Q,0,none⟩)) rfl hH ?_
   refine ta 7 (.pointer (some ⟨Q,0,none⟩)) rfl hH ?_
   refine ta 8 (.pointer (some ⟨Q,0,none⟩)) rfl hH ?_
   refine ta 9 (.pointer (some ⟨P,0,none⟩)) rfl hH ?_
   refine ta 10 (.pointer (some ⟨P,0,none⟩)) rfl hH ?_
   refine ta 11 (.pointer (some ⟨P,6,none⟩)) rfl hH ?_
   refine ta 12 (.pointer (some ⟨P,11,none⟩)) rfl hH ?_
   refine ta 13 (.int .i64 c.m.stack) rfl hH ?_
   refine ta 14 (.bool (decide ((st3.length:Int)<=c.m.stack))) rfl hH ?_
   refine wpAnyH_ready (rs:=[15]) (by kernel_rfl) (by simp) ?_
   refine AllReadyH.cons rfl (fun K15 hK15=>?_) AllReadyH.nil
   go_simp
   refine (sdemand_any _ (H3.out.up (Below.refl _ _).drew) _ _).mono ?_
   rintro r w4 ⟨hw4,⟨hb,rfl⟩ | ⟨hb,rfl⟩⟩
   ·
    exact ⟨rfl,by rw [hw4];exact SpOut.fail' (by rw [HRD.out,hres3.out];show (if decide ((st3.length:Int)<=c.m.stack)=true then _ else _)=_;rw [hb];rfl) HB3.out.drew ⟨2,_,by decide,rfl⟩⟩
   rw [hw4]
   have HOK4:=mkHid hb
   clear hb hw4 w4
   refine hK15.out _ _ (fun p hp=>rfl) fun hH=>?_
   refine wpAnyH_done (by kernel_rfl) ?_ _
   clear hH
   try simp only [Act.put,List.setIfInBounds_toArray,List.set_cons_zero,List.set_cons_succ,List.getElem_toArray,List.getElem_cons_zero,List.getElem_cons_succ]
   go_wp2_with fail
   go_end0
   exact SpOut.ok (by rw [HRD.out,hres3.out];show (if decide ((st3.length:Int)<=c.m.stack)=true then _ else _)=_;rw [HOK4.out];rfl) HB3.out.drew (H3.out.up (Below.refl _ _).drew)
set_option maxRecDepth 100000 in
set_option maxHeartbeats 4000000 in
theorem run_27 {c:Lkr} {B P:Nat} {v:LkV} (hw:Wf c) {x:Cd.Op4} (hop:x.op=27) (_hxa:x.op≠1->0<=x.a) (hrs:c.m.ret.cls.size<=maxLen):RunOk c B P v x:=by
 intro W F Q vL vS lo st hl hBF h hst hlo
 have HU:=mkHid hlo
 clear HU
 have H:=mkHid h
 have HL:=mkHid hl
 have HW:=mkHid hw
 have HTL:=mkHid (tells_rest W h (by omega) (by omega) (by omega) (by omega) (by omega) (by omega) (by omega) (by omega) (by omega) (by omega))
 have HF:Hid (F<=W.heap.size):=h.ff
 have HBF:=mkHid hBF
 cases ht:tellsD c x lo.length with
 | false=>
   have HRD:Hid (runD c x lo st=none):=by show _=_;unfold runD;rw [ht];rfl
   rw [ht]at HTL
   clear h hl
   go_enter Tryz.func245,Tryz.ntmps245
   go_wp2_with fail
   refine HTL.out.mono ?_
   rintro r w1 ⟨rfl,hb1⟩
   have HB1:=mkHid hb1
   clear hb1
   go_wp2_with fail
   refine (sdemand_any _ (H.out.up HB1.out) _ _).mono ?_
   rintro r w2 ⟨hw2,⟨hb,rfl⟩ | ⟨hb,rfl⟩⟩
   ·
    exact ⟨rfl,by rw [hw2];exact SpOut.fail' HRD.out (HB1.out.mono HF.out) ⟨3,_,by decide,rfl⟩⟩
   exact absurd hb (by simp)
 | true=>
   have HRD:Hid (runD c x lo st=(callD c x lo st).bind fun r=>if decide ((r.2.length:Int)<=c.m.stack) then some r else none):=by
    show _=_
    unfold runD spawnD workD
    rw [ht,hop]
    rfl
   rw [ht]at HTL
   clear h hl
   go_enter Tryz.func245,Tryz.ntmps245
   go_wp2_with fail
   refine HTL.out.mono ?_
   rintro r w1 ⟨rfl,hb1⟩
   have HB1:=mkHid hb1
   have H1:=mkHid (H.out.up hb1)
   have HL1:=mkHid (HL.out.below (hb1.mono HL.out.bw))
   clear hb1
   go_wp2_with fail
   refine (sdemand_any _ H1.out _ _).mono ?_
   rintro r w2 ⟨hw2,⟨hb,rfl⟩ | ⟨hb,rfl⟩⟩
   ·
    exact absurd hb (by simp)
   rw [hw2]
   clear hb hw2 w2
   have c2:w1.cell? ⟨Q,2,none⟩=some (.int .i64 27):=by rw [<-hop];exact cell_of H1.out.blk 2 rfl
   go_wp2_with fail
   refine (callD_27 hw w1 HL1.out hBF H1.out hst hop hrs).mono ?_
   rintro r w3 ⟨hb3,⟨⟨lo3,st3⟩,vL3,vS3,hr3,rfl,hp3⟩ | ⟨hr3,e3,p3,he3,rfl⟩⟩
   rotate_left
   ·
    exact ⟨rfl,SpOut.fail' (by rw [HRD.out,hr3];rfl) ((HB1.out.mono HF.out).trans hb3) ⟨e3,p3,he3,rfl⟩⟩
   have hres3:=mkHid hr3
   have HB3:=mkHid ((HB1.out.mono HF.out).trans hb3)
   have H3:=mkHid hp3
   have hp3':Sp c F P Q x w3 vL3 vS3 lo3 st3:=hp3
   obtain ⟨aS3,cS3,rfl⟩:=own_shape hp3'.oS
   have HL3:=mkHid (HL1.out.below (hb3.mono HBF.out))
   have q0:=cell_of hp3'.blk 0 (x:=.pointer (some ⟨P,0,none⟩)) rfl
   have q6:=cell_of hp3'.blk 6 (x:=.slice aS3 st3.length cS3) rfl
   have p11:=cell_of HL3.out.blk 11 (x:=.int .i64 c.m.stack) rfl
   have lQ:Q<w3.heap.size:=lt_of hp3'.blk
   have lP:P<w3.heap.size:=lt_of HL3.out.blk
   clear hb3 hr3 hp3 hp3' c2 hop
   go_wp2_with fail
   refine wp_region_held_drew (S:=fun W'=>∀p:Addr,p.block<w3.heap.size->W'.cell? p=w3.cell? p) (by kernel_rfl) (fun p hp=>rfl) fun hH=>?_
   refine ta 0 (.pointer (some ⟨Q,0,none⟩)) rfl hH ?_
   refine ta 1 (.pointer (some ⟨Q,0,none⟩)) rfl hH ?_
   refine ta 2 (.pointer (some ⟨Q,0,none⟩)) rfl hH ?_
   refine ta 3 (.pointer (some ⟨Q,6,none⟩)) rfl hH ?_
   refine ta 4 (.slice aS3 st3.length cS3) rfl hH ?_
   refine ta 5 (.int .i64 st3.length) rfl hH ?_
   refine ta 6 (.pointer (some ⟨Q,0,none⟩)) rfl hH ?_
   refine ta 7 (.pointer (some ⟨Q,0,none⟩)) rfl hH ?_
   refine ta 8 (.pointer (some ⟨Q,0,none⟩)) rfl hH ?_
   refine ta 9 (.pointer (some ⟨P,0,none⟩)) rfl hH ?_
   refine ta 10 (.pointer (some ⟨P,0,none⟩)) rfl hH ?_
   refine ta 11 (.pointer (some ⟨P,6,none⟩)) rfl hH ?_
   refine ta 12 (.pointer (some ⟨P,11,none⟩)) rfl hH ?_
   refine ta 13 (.int .i64 c.m.stack) rfl hH ?_
   refine ta 14 (.bool (decide ((st3.length:Int)<=c.m.stack))) rfl hH ?_
   refine wpAnyH_ready (rs:=[15]) (by kernel_rfl) (by simp) ?_
   refine AllReadyH.cons rfl (fun K15 hK15=>?_) AllReadyH.nil
   go_simp
   refine (sdemand_any _ (H3.out.up (Below.refl _ _).drew) _ _).mono ?_
   rintro r w4 ⟨hw4,⟨hb,rfl⟩ | ⟨hb,rfl⟩⟩
   ·
    exact ⟨rfl,by rw [hw4];exact SpOut.fail' (by rw [HRD.out,hres3.out];show (if decide ((st3.length:Int)<=c.m.stack)=true then _ else _)=_;rw [hb];rfl) HB3.out.drew ⟨2,_,by decide,rfl⟩⟩
   rw [hw4]
   have HOK4:=mkHid hb
   clear hb hw4 w4
   refine hK15.out _ _ (fun p hp=>rfl) fun hH=>?_
   refine wpAnyH_done (by kernel_rfl) ?_ _
   clear hH
   try simp only [Act.put,List.setIfInBounds_toArray,List.set_cons_zero,List.set_cons_succ,List.getElem_toArray,List.getElem_cons_zero,List.getElem_cons_succ]
   go_wp2_with fail
   go_end0
   exact SpOut.ok (by rw [HRD.out,hres3.out];show (if decide ((st3.length:Int)<=c.m.stack)=true then _ else _)=_;rw [HOK4.out];rfl) HB3.out.drew (H3.out.up (Below.refl _ _).drew)
end Go.Proofs.YtcddpmappmjilaaGreatDoor
