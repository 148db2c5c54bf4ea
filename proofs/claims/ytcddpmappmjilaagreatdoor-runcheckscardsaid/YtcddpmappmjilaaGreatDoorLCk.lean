import Derived.Test.YtcddpmappmjilaaGreatDoorJLRf3LCkD
import Derived.Test.YtcddpmappmjilaaGreatDoorJRefNameRefClass
import Derived.Deep.RegionWith
import Derived.Deep.DeepCutAuto
import Derived.BigRegion
import Derived.Deep.RegionHeld3
namespace Go.Proofs.YtcddpmappmjilaaGreatDoor
open Go.RowKit Go.Sort
set_option maxRecDepth 100000 in
set_option maxHeartbeats 16000000 in
theorem CheckLink_any (w:World) (B:Nat) (l:List ClassD) (v:Value) (hv:SL 4 RC (· <B) w v l) (hB:B<=w.heap.size):
 Calls Tryz.prog 16 #[v] w fun r w'=>r=.returned (.int .i64 (checkLk l))/\Below w.heap.size w w':=by
 have HV:=mkHid hv
 have HCK:=mkHid (checkClassesOf_any w B l v hv hB)
 obtain ⟨ao,cl,rfl,-⟩:=hv
 by_cases hc:checkL l=0
 rotate_left
 ·
  have HR:Hid (checkLk l=checkL l):=by show checkLk l=checkL l;simp [checkLk,hc]
  generalize checkL l=ec at*
  go_enter Tryz.func16,Tryz.ntmps16
  go_wp2_with (first | (go_at_call 35;refine HCK.out.mono ?_;rintro r w7 ⟨rfl,hb7⟩))
  go_ret
  exact ⟨by rw [HR.out];rfl,hb7⟩
 obtain ⟨hN,hfine⟩:=list_fine hc
 have HFI:=mkHid hfine
 have HC0:=mkHid hc
 rw [hc]at HCK
 clear hc hfine
 go_enter Tryz.func16,Tryz.ntmps16
 go_wp2_with (first | (go_at_call 35;refine HCK.out.mono ?_;rintro r w0 ⟨rfl,hb0⟩;have HB0:=mkHid hb0;clear hb0))
 go_loopw [4] (fun i wr=>∃k:Nat,k<=l.length/\i=.int .i64 k/\Hid ((∀j,j<k->q1 l j=true)/\Below w.heap.size w wr)) (fun i _=>l.length - (intOf i).toNat)
 case atStart=>exact ⟨0,Nat.zero_le _,rfl,(fun j h=>by omega),HB0.out⟩
 case round=>as_aux_lemma=>
  rename World=>wr
  obtain ⟨k,hk,rfl,HQ⟩:=hrel
  have hsr:w.heap.size<=wr.heap.size:=HQ.out.2.size
  have HVk:Hid (SL 4 RC (· <B) wr (.slice ao l.length cl) l):=HV.out.keptC (Kp.below (HQ.out.2.mono hB))
  by_cases hlt:k<l.length
  ·
   obtain ⟨b,off,vf,vm,rfl,hb,e0,e1,e2,e3,ef,em,es1,es2⟩:=HVk.out.atC k hlt
   clear ef em e1 e2 e3 es1 es2
   have HCA:=mkHid (ClassAt_any wr (· <B) _ l l[k].name HVk.out)
   have HQK:Hid (q1 l k=decide (firstAt l l[k].name=k)):=by show q1 l k=_;rw [q1,clsAt_eq hlt]
   have hbd1:=(firstAt_bd l l[k].name).1
   have hbd2:=(firstAt_bd l l[k].name).2
   generalize firstAt l l[k].name=fa at*
   by_cases hs:fa=k
   ·
    subst hs
    have HQ':Hid ((∀j,j<k+1->q1 l j=true)/\Below w.heap.size w wr):=⟨upto_succ HQ.out.1 (by rw [HQK.out];simp),HQ.out.2⟩
    go_wp2_with (first | (go_at_call 19;refine HCA.out.mono ?_;rintro r w7 ⟨rfl,rfl⟩))
    go_roundw
    case rel=>exact ⟨k+1,by omega,by go_num,HQ'.out⟩
    case measure=>simp [intOf];omega
   have HR:=mkHid (lk1 HC0.out (allI_bad hlt (by rw [HQK.out];simp [hs])))
   go_wp2_with (first | (go_at_call 19;refine HCA.out.mono ?_;rintro r w7 ⟨rfl,rfl⟩))
   go_ret
   exact ⟨by rw [HR.out];rfl,HQ.out.2⟩
  have H1:Hid (allI l (q1 l)=true):=allI_end hlt HQ.out.1
  have HB1:=mkHid HQ.out.2
  have HCT:=mkHid (ClassAt_any wr (· <B) _ l topName HVk.out)
  have HCE:=mkHid (ClassAt_any wr (· <B) _ l errName HVk.out)
  have hbt1:=(firstAt_bd l topName).1
  have hbt2:=(firstAt_bd l topName).2
  have hbe1:=(firstAt_bd l errName).1
  have hbe2:=(firstAt_bd l errName).2
  have HQ2:Hid (q2 l=(decide (0<=firstAt l topName)&&decide (0<=firstAt l errName))):=rfl
  have HQ6:Hid (q6 l=(decide ((clsAt l (firstAt l errName).toNat).super=topName)&&(match allF l (firstAt l errName).toNat with | []=>false | f::_=>decide (f.kind.kind=1)))):=rfl
  have HFE:Hid (∀w M v,SL 4 RC M w v l->Calls Tryz.prog 19 #[v,.string errName] w fun r w'=>r=.returned (.int .i64 (firstAt l errName))/\w'=w):=fun w M v h=>ClassAt_any w M v l errName h
  generalize firstAt l topName=ft at*
  generalize firstAt l errName=fe at*
  clear HQ HVk
  by_cases ht:ft<0
  ·
   have HR:=mkHid (lk2 HC0.out H1.out (by rw [HQ2.out];simp;omega))
   go_wp2_with (first | (go_at_call_of 19 (Value.string ⟨#[79,98,106,101,99,116]⟩);refine HCT.out.mono ?_;rintro r w7 ⟨rfl,rfl⟩) | (go_at_call 19;refine HCE.out.mono ?_;rintro r w7 ⟨rfl,rfl⟩))
   go_ret
   exact ⟨by rw [HR.out];rfl,HB1.out⟩
  by_cases he:fe<0
  ·
   have HR:=mkHid (lk2 HC0.out H1.out (by rw [HQ2.out];simp;omega))
   go_wp2_with (first | (go_at_call_of 19 (Value.string ⟨#[79,98,106,101,99,116]⟩);refine HCT.out.mono ?_;rintro r w7 ⟨rfl,rfl⟩) | (go_at_call 19;refine HCE.out.mono ?_;rintro r w7 ⟨rfl,rfl⟩))
   go_ret
   exact ⟨by rw [HR.out];rfl,HB1.out⟩
  have H2:Hid (q2 l=true):=HQ2.out.trans (by simp;omega)
  go_wp2_with (first | (go_at_call_of 19 (Value.string ⟨#[79,98,106,101,99,116]⟩);refine HCT.out.mono ?_;rintro r w7 ⟨rfl,rfl⟩) | (go_at_call 19;refine HCE.out.mono ?_;rintro r w7 ⟨rfl,rfl⟩))
  clear HCT HCE hbt1 hbt2 hlt hk hsr
  go_loopw [5] (fun i wr=>∃k:Nat,k<=l.length/\i=.int .i64 k/\Hid ((∀j,j<k->q3 l j=true)/\Below w.heap.size w wr)) (fun i _=>l.length - (intOf i).toNat)
  case atStart=>exact ⟨0,Nat.zero_le _,rfl,(fun j h=>by omega),HB1.out⟩
  case round=>as_aux_lemma=>
   rename World=>wr
   obtain ⟨k,hk,rfl,HQ⟩:=hrel
   have hsr:w.heap.size<=wr.heap.size:=HQ.out.2.size
   have HVk:Hid (SL 4 RC (· <B) wr (.slice ao l.length cl) l):=HV.out.keptC (Kp.below (HQ.out.2.mono hB))
   by_cases hlt:k<l.length
   ·
    obtain ⟨b,off,vf,vm,rfl,hb,e0,e1,e2,e3,ef,em,es1,es2⟩:=HVk.out.atC k hlt
    clear ef em e2 e3 es1 es2
    have HQK:Hid (q3 l k=upperB l[k]):=by show q3 l k=_;rw [q3,clsAt_eq hlt]
    generalize l[k]=c at*
    have HGO:Hid (upperB c=true->(∀j,j<k+1->q3 l j=true)/\∀n,Below w.heap.size w (wr.drewN n)):=fun h=>⟨upto_succ HQ.out.1 (HQK.out.trans h),fun n=>below_dn HQ.out.2 n⟩
    have HNO:Hid (upperB c=false->checkLk l=4/\∀n,Below w.heap.size w (wr.drewN n)):=fun h=>⟨lk3 HC0.out H1.out H2.out (allI_bad hlt (HQK.out.trans h)),fun n=>below_dn HQ.out.2 n⟩
    by_cases h1:c.name=topName
    ·
     have t1:c.name.toList= [79,98,106,101,99,116]:=by rw [h1];exact top_tl
     by_cases h2:c.super=⟨#[]⟩
     ·
      have t2:=nil_tl h2
      have HR:=mkHid (HGO.out (by simp [upperB,h1,h2]))
      clear h1 h2
      go_wp2_with fail
      go_quiet (fail)
      go_wp2_with fail
      go_roundw
      case rel=>exact ⟨k+1,by omega,by go_num,HR.out.1,HR.out.2 _⟩
      case measure=>simp [intOf];omega
     have t2:=ne_nil h2
     have HR:=mkHid (HNO.out (by simp [upperB,h1,h2]))
     clear h1 h2
     go_wp2_with fail
     go_quiet (fail)
     go_wp2_with fail
     go_ret
     exact ⟨by rw [HR.out.1];rfl,HR.out.2 _⟩
    have t1:(c.name.toList== [79,98,106,101,99,116])=false:=beq_eq_false_iff_ne.2 fun e=>h1 (tl_inj (e.trans top_tl.symm))
    by_cases h2:c.super=⟨#[]⟩
    ·
     have t2:=nil_tl h2
     have HR:=mkHid (HNO.out (by simp [upperB,h1,h2]))
     clear h1 h2
     go_wp2_with fail
     go_quiet (fail)
     go_wp2_with fail
     go_ret
     exact ⟨by rw [HR.out.1];rfl,HR.out.2 _⟩
    have t2:=ne_nil h2
    have HR:=mkHid (HGO.out (by simp [upperB,h1,h2]))
    clear h1 h2
    go_wp2_with fail
    go_quiet (fail)
    go_wp2_with fail
    go_roundw
    case rel=>exact ⟨k+1,by omega,by go_num,HR.out.1,HR.out.2 _⟩
    case measure=>simp [intOf];omega
   have H3:Hid (allI l (q3 l)=true):=allI_end hlt HQ.out.1
   have HB3:=mkHid HQ.out.2
   clear HQ HVk
   go_wp2_with fail
   clear hlt hk hsr
   go_loopw [6] (fun i wr=>∃k:Nat,k<=l.length/\i=.int .i64 k/\Hid ((∀j,j<k->q4 l j=true)/\Below w.heap.size w wr)) (fun i _=>l.length - (intOf i).toNat)
   case atStart=>exact ⟨0,Nat.zero_le _,rfl,(fun j h=>by omega),HB3.out⟩
   case round=>as_aux_lemma=>
    rename World=>wr
    obtain ⟨k,hk,rfl,HQ⟩:=hrel
    have hsr:w.heap.size<=wr.heap.size:=HQ.out.2.size
    have HVk:Hid (SL 4 RC (· <B) wr (.slice ao l.length cl) l):=HV.out.keptC (Kp.below (HQ.out.2.mono hB))
    by_cases hlt:k<l.length
    ·
     obtain ⟨b,off,vf,vm,rfl,hb,e0,e1,e2,e3,ef,em,es1,es2⟩:=HVk.out.atC k hlt
     clear ef em e0 e2 e3 es1 es2
     have HQK:Hid (q4 l k=(decide (l[k].super=(⟨#[]⟩:ByteArray))||decide (0<=firstAt l l[k].super))):=by show q4 l k=_;rw [q4,clsAt_eq hlt]
     have HCA:=mkHid (ClassAt_any wr (· <B) _ l l[k].super HVk.out)
     have hbd1:=(firstAt_bd l l[k].super).1
     have hbd2:=(firstAt_bd l l[k].super).2
     generalize l[k]=c at*
     generalize firstAt l c.super=fa at*
     have HGO:Hid (q4 l k=true->(∀j,j<k+1->q4 l j=true)/\Below w.heap.size w wr):=fun h=>⟨upto_succ HQ.out.1 h,HQ.out.2⟩
     have HNO:Hid (q4 l k=false->checkLk l=5/\Below w.heap.size w wr):=fun h=>⟨lk4 HC0.out H1.out H2.out H3.out (allI_bad hlt h),HQ.out.2⟩
     by_cases h1:c.super=⟨#[]⟩
     ·
      have t1:=nil_tl h1
      have HR:=mkHid (HGO.out (HQK.out.trans (by simp [h1])))
      clear h1 HCA
      go_wp2_with fail
      go_roundw
      case rel=>exact ⟨k+1,by omega,by go_num,HR.out⟩
      case measure=>simp [intOf];omega
     have t1:=ne_nil h1
     by_cases h2:fa<0
     ·
      have HR:=mkHid (HNO.out (HQK.out.trans (by simp [h1];omega)))
      clear h1
      go_wp2_with (first | (go_at_call 19;refine HCA.out.mono ?_;rintro r w7 ⟨rfl,rfl⟩))
      go_ret
      exact ⟨by rw [HR.out.1];rfl,HR.out.2⟩
     have HR:=mkHid (HGO.out (HQK.out.trans (by simp [h1];omega)))
     clear h1
     go_wp2_with (first | (go_at_call 19;refine HCA.out.mono ?_;rintro r w7 ⟨rfl,rfl⟩))
     go_roundw
     case rel=>exact ⟨k+1,by omega,by go_num,HR.out⟩
     case measure=>simp [intOf];omega
    have H4:Hid (allI l (q4 l)=true):=allI_end hlt HQ.out.1
    have HB4:=mkHid HQ.out.2
    clear HQ HVk
    go_wp2_with fail
    clear hlt hk hsr
    go_loopw [7] (fun i wr=>∃k:Nat,k<=l.length/\i=.int .i64 k/\Hid ((∀j,j<k->q5 l j=true)/\Below w.heap.size w wr)) (fun i _=>l.length - (intOf i).toNat)
    case atStart=>exact ⟨0,Nat.zero_le _,rfl,(fun j h=>by omega),HB4.out⟩
    case round=>as_aux_lemma=>
     rename World=>wr
     obtain ⟨k,hk,rfl,HQ⟩:=hrel
     have hsr:w.heap.size<=wr.heap.size:=HQ.out.2.size
     have HVk:Hid (SL 4 RC (· <B) wr (.slice ao l.length cl) l):=HV.out.keptC (Kp.below (HQ.out.2.mono hB))
     by_cases hlt:k<l.length
     ·
      have HUP:=mkHid (UpFrom_any wr B _ l k hlt HVk.out (Nat.le_trans hB hsr) hN)
      have HQK:Hid (q5 l k=decide (0<(upOf l k).length)):=rfl
      have hul:=(upOf_ok hlt).2
      have HGO:Hid (q5 l k=true->(∀j,j<k+1->q5 l j=true)/\∀w',Below wr.heap.size wr w'->Below w.heap.size w w'):=fun h=>⟨upto_succ HQ.out.1 h,fun w' hb=>HQ.out.2.trans (hb.mono hsr)⟩
      have HNO:Hid (q5 l k=false->checkLk l=4/\∀w',Below wr.heap.size wr w'->Below w.heap.size w w'):=fun h=>⟨lk5 HC0.out H1.out H2.out H3.out H4.out (allI_bad hlt h),fun w' hb=>HQ.out.2.trans (hb.mono hsr)⟩
      generalize upOf l k=up at*
      by_cases h2:up.length=0
      ·
       have HR:=mkHid (HNO.out (HQK.out.trans (by simp [h2])))
       have h2':(up.length:Int)=0:=by omega
       go_wp2_with (first | (go_at_call 36;refine HUP.out.mono ?_;rintro r w7 ⟨hb7,u7,rfl,su7⟩;obtain ⟨au,cu,rfl,-⟩:=su7;have HB7:=mkHid hb7;clear hb7))
       go_ret
       exact ⟨by rw [HR.out.1];rfl,HR.out.2 _ HB7.out⟩
      have HR:=mkHid (HGO.out (HQK.out.trans (by simp;omega)))
      have h2':¬(up.length:Int)=0:=by omega
      go_wp2_with (first | (go_at_call 36;refine HUP.out.mono ?_;rintro r w7 ⟨hb7,u7,rfl,su7⟩;obtain ⟨au,cu,rfl,-⟩:=su7;have HB7:=mkHid hb7;clear hb7))
      go_roundw
      case rel=>exact ⟨k+1,by omega,by go_num,HR.out.1,HR.out.2 _ HB7.out⟩
      case measure=>simp [intOf];omega
     have H5:Hid (allI l (q5 l)=true):=allI_end hlt HQ.out.1
     have HB5:=mkHid HQ.out.2
     obtain ⟨en,rfl⟩:=Int.eq_ofNat_of_zero_le (show 0<=fe by omega)
     have hen:en<l.length:=by omega
     have HCE:=mkHid (HFE.out wr (· <B) _ HVk.out)
     have HAF:=mkHid (AllFields_any wr B _ l en hen HVk.out (Nat.le_trans hB hsr) hN (fun c hc=>(HFI.out c hc).2.2.1))
     have HQK:Hid (q6 l=(decide (l[en].super=topName)&&(match allF l en with | []=>false | f::_=>decide (f.kind.kind=1)))):=HQ6.out.trans (by rw [show ((en:Int)).toNat=en from rfl,clsAt_eq hen])
     have HGW:Hid (∀w',Below wr.heap.size wr w'->Below w.heap.size w w'):=fun w' hb=>HQ.out.2.trans (hb.mono hsr)
     generalize allF l en=fs at*
     have hi0:(0:Int)<=en:=by omega
     have hi1:(en:Int)<l.length:=by omega
     have HVX:=mkHid HVk.out
     have HBL:=mkHid (Nat.le_trans hB hsr)
     clear HQ HVk HQ6 ht he hbe1 hbe2
     go_upto_region 28 with (first | (go_at_call 19;refine HCE.out.mono ?_;rintro r w7 ⟨rfl,rfl⟩) | (go_at_call 17;refine HAF.out.mono ?_;rintro r w8 ⟨hb8,u8,rfl,su8⟩;have HB8:=mkHid hb8;have HS8:=mkHid su8;obtain ⟨a8,c8,rfl,-⟩:=su8;clear hb8))
     clear hlt hk hsr
     obtain ⟨b6,o6,vf,vm,rfl,hb,e0,e1,e2,e3,ef,em,es1,es2⟩:=(HVX.out.keptC (Kp.below (HB8.out.mono HBL.out))).atC en hen
     clear ef em e0 e2 e3 es1 es2
     have HB6:=mkHid (HGW.out _ HB8.out)
     have HNO:Hid (q6 l=false->checkLk l=4):=fun h=>lk6 HC0.out H1.out H2.out H3.out H4.out H5.out h
     generalize l[en]=c at*
     by_cases h1:c.super=topName
     rotate_left
     ·
      have t1:(c.super.toList== [79,98,106,101,99,116])=false:=beq_eq_false_iff_ne.2 fun e=>h1 (tl_inj (e.trans top_tl.symm))
      have HR:=mkHid (HNO.out (HQK.out.trans (by simp [h1])))
      clear h1 HS8
      go_wp2_with fail
      go_ret
      exact ⟨by rw [HR.out];rfl,HB6.out⟩
     have t1:c.super.toList= [79,98,106,101,99,116]:=by rw [h1];exact top_tl
     cases fs with
     | nil=>
       have HR:=mkHid (HNO.out (HQK.out.trans (by simp)))
       clear h1 HS8
       go_wp2_with fail
       go_ret
       exact ⟨by rw [HR.out];rfl,HB6.out⟩
     | cons f fs=>
       obtain ⟨bf,of,rfl,hbf,y0,y1,y2,-,-⟩:=HS8.out.atF 0 (by simp)
       have y1':w8.cell? ⟨bf,of+1,none⟩=some (.int .i64 f.kind.kind):=by simpa using y1
       have HQK':Hid (q6 l=decide (f.kind.kind=1)):=HQK.out.trans (by simp [h1])
       clear y0 y1 y2 h1 HS8 HQK
       generalize f.kind.kind=fk at*
       have hfl:(0:Int)<((fs.length+1:Nat):Int):=by omega
       have hfl2:(((fs.length+1:Nat):Int)==0)=false:=beq_eq_false_iff_ne.2 (by omega)
       have hfl3:((fs.length:Int)+1==0)=false:=beq_eq_false_iff_ne.2 (by omega)
       by_cases hk1:fk=1
       rotate_left
       ·
        have HR:=mkHid (HNO.out (HQK'.out.trans (by simp [hk1])))
        have hk2:(fk != 1)=true:=by simp [hk1]
        clear hk1
        go_wp2_with fail
        go_ret
        exact ⟨by rw [HR.out];rfl,HB6.out⟩
       subst hk1
       have H6:Hid (q6 l=true):=HQK'.out.trans (by simp)
       go_wp2_with fail
       clear y1' t1 hfl hfl2 hfl3 e1
       go_loopw [10] (fun i wr=>∃k:Nat,k<=l.length/\i=.int .i64 k/\Hid ((∀j,j<k->q7 l j=true)/\Below w.heap.size w wr)) (fun i _=>l.length - (intOf i).toNat)
       case atStart=>exact ⟨0,Nat.zero_le _,rfl,(fun j h=>by omega),HB6.out⟩
       case round=>as_aux_lemma=>
        rename World=>wr
        obtain ⟨k,hk,rfl,HQ⟩:=hrel
        have hsr:w.heap.size<=wr.heap.size:=HQ.out.2.size
        have HVk:Hid (SL 4 RC (· <B) wr (.slice (some ⟨b6,o6,none⟩) l.length cl) l):=HV.out.keptC (Kp.below (HQ.out.2.mono hB))
        by_cases hlt:k<l.length
        ·
         obtain ⟨b,off,vf,vm,hao,hb,e0,e1,e2,e3,ef,em,es1,es2⟩:=HVk.out.atC k hlt
         obtain ⟨rfl,rfl⟩:b6=b/\o6=off:=by simpa using hao
         clear hao
         have HQK:Hid (q7 l k=(l[k].fields.all (fun f=>toldK l f.kind)&&l[k].meths.all (toldM l))):=by show q7 l k=_;rw [q7,clsAt_eq hlt]
         have hBw:B<=wr.heap.size:=Nat.le_trans hB hsr
         have HGO:Hid (q7 l k=true->∀w',Below wr.heap.size wr w'->(∀j,j<k+1->q7 l j=true)/\Below w.heap.size w w'):=fun h w' hb=>⟨upto_succ HQ.out.1 h,HQ.out.2.trans (hb.mono hsr)⟩
         have HNO:Hid (q7 l k=false->∀w',Below wr.heap.size wr w'->checkLk l=5/\Below w.heap.size w w'):=fun h w' hb=>⟨lk7 HC0.out H1.out H2.out H3.out H4.out H5.out H6.out (allI_bad hlt h),HQ.out.2.trans (hb.mono hsr)⟩
         have hcF:=(HFI.out l[k] (List.getElem_mem hlt)).2.2.1
         have hcM:=(HFI.out l[k] (List.getElem_mem hlt)).2.2.2.2.1
         generalize l[k]=c at*
         have EF:=mkHid ef
         have EM:=mkHid em
         obtain ⟨fo,cf,rfl,-⟩:=ef
         obtain ⟨mo,cm,rfl,-⟩:=em
         have HE2:=mkHid (And.intro hb (And.intro e2 e3))
         have hk0:(0:Int)<=k:=by omega
         have hk1:(k:Int)<l.length:=by omega
         clear e0 e1 e2 e3 es1 es2 HQ hb
         go_wp2_with fail
         go_loopw [11] (fun i wq=>∃j:Nat,j<=c.fields.length/\i=.int .i64 j/\Hid (c.fields.all (fun f=>toldK l f.kind)=(c.fields.drop j).all (fun f=>toldK l f.kind)/\Below wr.heap.size wr wq)) (fun i _=>c.fields.length - (intOf i).toNat)
         case atStart=>exact ⟨0,Nat.zero_le _,rfl,rfl,Below.refl _ _⟩
         case round=>
          rename World=>wq
          obtain ⟨j,hj,rfl,HJ⟩:=hrel
          have hsq:wr.heap.size<=wq.heap.size:=HJ.out.2.size
          have d2:wq.cell? ⟨b6,o6+k*4+2,none⟩=some (.slice fo c.fields.length cf):=(HJ.out.2.cell (p:=⟨b6,o6+k*4+2,none⟩) HE2.out.1).trans HE2.out.2.1
          have hbq:b6<wq.heap.size:=Nat.lt_of_lt_of_le HE2.out.1 hsq
          by_cases hjt:j<c.fields.length
          ·
           obtain ⟨bf,of,hfo,hbf,y0,y1,y2,-,z2⟩:=(EF.out.keptF (Kp.below (HJ.out.2.mono hBw))).atF j hjt
           subst hfo
           have HST:Hid ((c.fields.drop j).all (fun f=>toldK l f.kind)=(toldK l c.fields[j].kind&&(c.fields.drop (j+1)).all (fun f=>toldK l f.kind))):=by
            show _=_
            rw [List.drop_eq_getElem_cons hjt,List.all_cons]
           generalize c.fields[j]=x at*
           have hBA:Below wr.heap.size wr (wq.alloc (.cells #[.int .i64 x.kind.kind,.string x.kind.cls] 80)):=HJ.out.2.alloc hsq _
           have HTA:=mkHid (Told_any (wq.alloc (.cells #[.int .i64 x.kind.kind,.string x.kind.cls] 80)) (· <B) (· <wq.heap.size+1) _ _ l [x.kind] (HVk.out.keptC (Kp.below (hBA.mono hBw))) (one_K wq x.kind _ wq.heap.size z2 rfl))
           have HOK:Hid ([x.kind].all (toldK l)=toldK l x.kind):=by show _=_;simp
           rw [HOK.out]at HTA
           have HBA:=mkHid hBA
           have hj0:(0:Int)<=j:=by omega
           have hj1:(j:Int)<c.fields.length:=by omega
           clear hBA y0 z2
           cases hx:toldK l x.kind with
           | true=>
             rw [hx]at HTA
             have HR:Hid (c.fields.all (fun f=>toldK l f.kind)=(c.fields.drop (j+1)).all (fun f=>toldK l f.kind)/\Below wr.heap.size wr (wq.alloc (.cells #[.int .i64 x.kind.kind,.string x.kind.cls] 80))):=⟨HJ.out.1.trans (HST.out.trans (by rw [hx,Bool.true_and])),HBA.out⟩
             clear hx
             go_wp2_with (first | (go_at_call 37;refine HTA.out.mono ?_;rintro r w7 ⟨rfl,rfl⟩))
             go_roundw
             case rel=>exact ⟨j+1,by omega,by go_num,HR.out⟩
             case measure=>simp [intOf];omega
           | false=>
             rw [hx]at HTA
             have HR:=mkHid (HNO.out (HQK.out.trans (by rw [HJ.out.1,HST.out,hx];simp)) _ HBA.out)
             clear hx
             go_wp2_with (first | (go_at_call 37;refine HTA.out.mono ?_;rintro r w7 ⟨rfl,rfl⟩))
             go_ret
             exact ⟨by rw [HR.out.1];rfl,HR.out.2⟩
          have HAF:Hid (c.fields.all (fun f=>toldK l f.kind)=true):=HJ.out.1.trans (by rw [List.drop_of_length_le (by omega)];rfl)
          have HBQ:=mkHid HJ.out.2
          clear HJ
          go_wp2_with fail
          clear hjt hj hsq d2 hbq
          go_loopw [12] (fun i wm=>∃j:Nat,j<=c.meths.length/\i=.int .i64 j/\Hid (c.meths.all (toldM l)=(c.meths.drop j).all (toldM l)/\Below wr.heap.size wr wm)) (fun i _=>c.meths.length - (intOf i).toNat)
          case atStart=>exact ⟨0,Nat.zero_le _,rfl,rfl,HBQ.out⟩
          case round=>
           clear HBQ
           rename World=>wm
           obtain ⟨j,hj,rfl,HJ⟩:=hrel
           have hsm:wr.heap.size<=wm.heap.size:=HJ.out.2.size
           have d3:wm.cell? ⟨b6,o6+k*4+3,none⟩=some (.slice mo c.meths.length cm):=(HJ.out.2.cell (p:=⟨b6,o6+k*4+3,none⟩) HE2.out.1).trans HE2.out.2.2
           have hbm:b6<wm.heap.size:=Nat.lt_of_lt_of_le HE2.out.1 hsm
           by_cases hjt:j<c.meths.length
           ·
            obtain ⟨bm,om,va,vh,hmo,hbm2,m0,m1,m2,m3,m4,m5,m6,m7,m8,sa,sh,sz1,sz2,sz3⟩:=(EM.out.keptM (Kp.below (HJ.out.2.mono hBw))).atM j hjt
            subst hmo
            have HSA:=mkHid sa
            have HSH:=mkHid sh
            obtain ⟨aa,ca,rfl,-⟩:=sa
            obtain ⟨ah,ch,rfl,-,hhl,-⟩:=sh
            have HST:Hid ((c.meths.drop j).all (toldM l)=(toldM l c.meths[j]&&(c.meths.drop (j+1)).all (toldM l))):=by
             show _=_
             rw [List.drop_eq_getElem_cons hjt,List.all_cons]
            generalize c.meths[j]=m at*
            have HTM:Hid (toldM l m=(m.args.all (toldK l)&&toldK l m.ret&&m.hands.all (fun h=>decide (0<=firstAt l h.cls)))):=rfl
            have hB1:Below wr.heap.size wr (wm.alloc (.cells #[.string m.name,.bool m.static,.slice aa m.args.length ca,.int .i64 m.ret.kind,.string m.ret.cls,.int .i64 m.stack,.int .i64 m.locals,.string m.code,.slice ah m.hands.length ch] 83)):=HJ.out.2.alloc hsm _
            have hB2:Below wr.heap.size wr ((wm.alloc (.cells #[.string m.name,.bool m.static,.slice aa m.args.length ca,.int .i64 m.ret.kind,.string m.ret.cls,.int .i64 m.stack,.int .i64 m.locals,.string m.code,.slice ah m.hands.length ch] 83)).alloc (.cells #[.int .i64 m.ret.kind,.string m.ret.cls] 80)):=hB1.alloc (by simp;omega) _
            have HT1:=mkHid (Told_any (wm.alloc (.cells #[.string m.name,.bool m.static,.slice aa m.args.length ca,.int .i64 m.ret.kind,.string m.ret.cls,.int .i64 m.stack,.int .i64 m.locals,.string m.code,.slice ah m.hands.length ch] 83)) (· <B) (· <B) _ _ l m.args (HVk.out.keptC (Kp.below (hB1.mono hBw))) (HSA.out.keptK (Kp.below (((Below.refl wm.heap.size wm).alloc (Nat.le_refl _) _).mono (Nat.le_trans hBw hsm)))))
            have HT2:=mkHid (Told_any ((wm.alloc (.cells #[.string m.name,.bool m.static,.slice aa m.args.length ca,.int .i64 m.ret.kind,.string m.ret.cls,.int .i64 m.stack,.int .i64 m.locals,.string m.code,.slice ah m.hands.length ch] 83)).alloc (.cells #[.int .i64 m.ret.kind,.string m.ret.cls] 80)) (· <B) (· <wm.heap.size+1+1) _ _ l [m.ret] (HVk.out.keptC (Kp.below (hB2.mono hBw))) (one_K (wm.alloc (.cells #[.string m.name,.bool m.static,.slice aa m.args.length ca,.int .i64 m.ret.kind,.string m.ret.cls,.int .i64 m.stack,.int .i64 m.locals,.string m.code,.slice ah m.hands.length ch] 83)) m.ret _ (wm.heap.size+1) sz2 (by simp)))
            have HOK:Hid ([m.ret].all (toldK l)=toldK l m.ret):=by show _=_;simp
            rw [HOK.out]at HT2
            have HB1:=mkHid hB1
            have HB2:=mkHid hB2
            have hj0:(0:Int)<=j:=by omega
            have hj1:(j:Int)<c.meths.length:=by omega
            have HNM:Hid (toldM l m=false->∀w',Below wr.heap.size wr w'->checkLk l=5/\Below w.heap.size w w'):=fun h=>HNO.out (HQK.out.trans (by rw [HJ.out.1,HST.out,h];simp))
            clear hB1 hB2 sz1 sz3
            generalize m.args.all (toldK l)=ta at*
            generalize toldK l m.ret=tr at*
            cases ta with
            | false=>
              have HR:=mkHid (HNM.out (HTM.out.trans (by simp)) _ HB1.out)
              go_wp2_with (first | (go_at_call_of 37 (Value.slice aa m.args.length ca);refine HT1.out.mono ?_;rintro r w7 ⟨rfl,rfl⟩))
              go_ret
              exact ⟨by rw [HR.out.1];rfl,HR.out.2⟩
            | true=>
              cases tr with
              | false=>
                have HR:=mkHid (HNM.out (HTM.out.trans (by simp)) _ HB2.out)
                go_wp2_with (first | (go_at_call_of 37 (Value.slice aa m.args.length ca);refine HT1.out.mono ?_;rintro r w7 ⟨rfl,rfl⟩) | (go_at_call 37;refine HT2.out.mono ?_;rintro r w7 ⟨rfl,rfl⟩))
                go_ret
                exact ⟨by rw [HR.out.1];rfl,HR.out.2⟩
              | true=>
                have f8:((wm.alloc (.cells #[.string m.name,.bool m.static,.slice aa m.args.length ca,.int .i64 m.ret.kind,.string m.ret.cls,.int .i64 m.stack,.int .i64 m.locals,.string m.code,.slice ah m.hands.length ch] 83)).alloc (.cells #[.int .i64 m.ret.kind,.string m.ret.cls] 80)).cell? ⟨wm.heap.size,8,none⟩=some (.slice ah m.hands.length ch):=by simp [go_sem]
                have hsH:Hid (SL 4 RH (· <B) ((wm.alloc (.cells #[.string m.name,.bool m.static,.slice aa m.args.length ca,.int .i64 m.ret.kind,.string m.ret.cls,.int .i64 m.stack,.int .i64 m.locals,.string m.code,.slice ah m.hands.length ch] 83)).alloc (.cells #[.int .i64 m.ret.kind,.string m.ret.cls] 80)) (.slice ah m.hands.length ch) m.hands):=HSH.out.keptH (Kp.below ((((Below.refl wm.heap.size wm).alloc (Nat.le_refl _) _).alloc (by simp) _).mono (Nat.le_trans hBw hsm)))
                have hsV:Hid (SL 4 RC (· <B) ((wm.alloc (.cells #[.string m.name,.bool m.static,.slice aa m.args.length ca,.int .i64 m.ret.kind,.string m.ret.cls,.int .i64 m.stack,.int .i64 m.locals,.string m.code,.slice ah m.hands.length ch] 83)).alloc (.cells #[.int .i64 m.ret.kind,.string m.ret.cls] 80)) (.slice (some ⟨b6,o6,none⟩) l.length cl) l):=HVk.out.keptC (Kp.below (HB2.out.mono hBw))
                have hmB:wm.heap.size<((wm.alloc (.cells #[.string m.name,.bool m.static,.slice aa m.args.length ca,.int .i64 m.ret.kind,.string m.ret.cls,.int .i64 m.stack,.int .i64 m.locals,.string m.code,.slice ah m.hands.length ch] 83)).alloc (.cells #[.int .i64 m.ret.kind,.string m.ret.cls] 80)).heap.size:=by simp;omega
                have HTM':Hid (toldM l m=m.hands.all (fun h=>decide (0<=firstAt l h.cls))):=HTM.out.trans (by simp)
                unfold maxLen at hhl
                go_upto_region 44 with (first | (go_at_call_of 37 (Value.slice aa m.args.length ca);refine HT1.out.mono ?_;rintro r w7 ⟨rfl,rfl⟩) | (go_at_call 37;refine HT2.out.mono ?_;rintro r w7 ⟨rfl,rfl⟩))
                clear HT1 HT2 HB1 HSA HSH m0 m1 m2 m3 m4 m5 m6 m7 m8 sz2 HTM HOK
                generalize hW2:((wm.alloc (.cells #[.string m.name,.bool m.static,.slice aa m.args.length ca,.int .i64 m.ret.kind,.string m.ret.cls,.int .i64 m.stack,.int .i64 m.locals,.string m.code,.slice ah m.hands.length ch] 83)).alloc (.cells #[.int .i64 m.ret.kind,.string m.ret.cls] 80))=W2 at*
                clear hW2
                go_wp2_with fail
                go_loopw [14] (fun i wx=>∃q:Nat,q<=m.hands.length/\i=.int .i64 q/\Hid (m.hands.all (fun h=>decide (0<=firstAt l h.cls))=(m.hands.drop q).all (fun h=>decide (0<=firstAt l h.cls)))/\wx=W2) (fun i _=>m.hands.length - (intOf i).toNat)
                case atStart=>exact ⟨0,Nat.zero_le _,rfl,rfl,rfl⟩
                case round=>
                 obtain ⟨q,hq,rfl,HH,rfl⟩:=hrel
                 rename World=>W2
                 by_cases hqt:q<m.hands.length
                 ·
                  obtain ⟨bh,oh,hah,hbh,y0,y1,y2,y3,z⟩:=hsH.out.atH q hqt
                  subst hah
                  have HSQ:Hid ((m.hands.drop q).all (fun h=>decide (0<=firstAt l h.cls))=(decide (0<=firstAt l m.hands[q].cls)&&(m.hands.drop (q+1)).all (fun h=>decide (0<=firstAt l h.cls)))):=by
                   show _=_
                   rw [List.drop_eq_getElem_cons hqt,List.all_cons]
                  have HCA:=mkHid (ClassAt_any W2 (· <B) _ l m.hands[q].cls hsV.out)
                  have hbd1:=(firstAt_bd l m.hands[q].cls).1
                  have hbd2:=(firstAt_bd l m.hands[q].cls).2
                  generalize m.hands[q]=x at*
                  generalize firstAt l x.cls=fa at*
                  have hq0:(0:Int)<=q:=by omega
                  have hq1:(q:Int)<m.hands.length:=by omega
                  clear y0 y1 y2 z
                  by_cases hf:fa<0
                  ·
                   have HR:=mkHid (HNM.out (HTM'.out.trans (HH.out.trans (by rw [HSQ.out];simp;omega))) _ HB2.out)
                   go_wp2_with (first | (go_at_call 19;refine HCA.out.mono ?_;rintro r w7 ⟨rfl,rfl⟩))
                   go_ret
                   exact ⟨by rw [HR.out.1];rfl,HR.out.2⟩
                  have HR:Hid (m.hands.all (fun h=>decide (0<=firstAt l h.cls))=(m.hands.drop (q+1)).all (fun h=>decide (0<=firstAt l h.cls))):=HH.out.trans (by
                   rw [HSQ.out]
                   have:(0:Int)<=fa:=by omega
                   simp [this])
                  go_wp2_with (first | (go_at_call 19;refine HCA.out.mono ?_;rintro r w7 ⟨rfl,rfl⟩))
                  go_roundw
                  case rel=>exact ⟨q+1,by omega,by go_num,HR.out,trivial⟩
                  case measure=>simp [intOf];omega
                 have HTT:Hid (toldM l m=true):=HTM'.out.trans (HH.out.trans (by rw [List.drop_of_length_le (by omega)];rfl))
                 have HR:Hid (c.meths.all (toldM l)=(c.meths.drop (j+1)).all (toldM l)/\Below wr.heap.size wr W2):=⟨HJ.out.1.trans (HST.out.trans (by rw [HTT.out,Bool.true_and])),HB2.out⟩
                 go_wp2_with fail
                 go_roundw
                 case rel=>exact ⟨j+1,by omega,by go_num,HR.out⟩
                 case measure=>simp [intOf];omega
           have HAM:Hid (c.meths.all (toldM l)=true):=HJ.out.1.trans (by rw [List.drop_of_length_le (by omega)];rfl)
           have HR:=mkHid (HGO.out (HQK.out.trans (by rw [HAF.out,HAM.out];rfl)) _ HJ.out.2)
           go_wp2_with fail
           go_roundw
           case rel=>exact ⟨k+1,by omega,by go_num,HR.out⟩
           case measure=>simp [intOf];omega
        have H7:Hid (allI l (q7 l)=true):=allI_end hlt HQ.out.1
        have HB7:=mkHid HQ.out.2
        clear HQ HVk
        go_wp2_with fail
        clear hlt hk hsr
        go_loopw [15] (fun i wr=>∃k:Nat,k<=l.length/\i=.int .i64 k/\Hid ((∀j,j<k->q8 l j=true)/\Below w.heap.size w wr)) (fun i _=>l.length - (intOf i).toNat)
        case atStart=>exact ⟨0,Nat.zero_le _,rfl,(fun j h=>by omega),HB7.out⟩
        case round=>as_aux_lemma=>
         rename World=>wr
         obtain ⟨k,hk,rfl,HQ⟩:=hrel
         have hsr:w.heap.size<=wr.heap.size:=HQ.out.2.size
         have HVk:Hid (SL 4 RC (· <B) wr (.slice (some ⟨b6,o6,none⟩) l.length cl) l):=HV.out.keptC (Kp.below (HQ.out.2.mono hB))
         by_cases hlt:k<l.length
         ·
          have HAF:=mkHid (AllFields_any wr B _ l k hlt HVk.out (Nat.le_trans hB hsr) hN (fun c hc=>(HFI.out c hc).2.2.1))
          obtain ⟨b,off,vf,vm,hao,hb,e0,e1,e2,e3,ef,em,es1,es2⟩:=HVk.out.atC k hlt
          obtain ⟨rfl,rfl⟩:b6=b/\o6=off:=by simpa using hao
          have hcM:=(HFI.out l[k] (List.getElem_mem hlt)).2.2.2.2.1
          have HQK:Hid (q8 l k=(differB ((allF l k).map (·.name))&&differB (l[k].meths.map (·.name)))):=by show q8 l k=_;rw [q8,clsAt_eq hlt]
          have hBw:B<=wr.heap.size:=Nat.le_trans hB hsr
          have HGO:Hid (q8 l k=true->∀w',Below wr.heap.size wr w'->(∀j,j<k+1->q8 l j=true)/\Below w.heap.size w w'):=fun h w' hb=>⟨upto_succ HQ.out.1 h,HQ.out.2.trans (hb.mono hsr)⟩
          have HNO:Hid (q8 l k=false->∀w',Below wr.heap.size wr w'->checkLk l=6/\Below w.heap.size w w'):=fun h w' hb=>⟨lk8 HC0.out H1.out H2.out H3.out H4.out H5.out H6.out H7.out (allI_bad hlt h),HQ.out.2.trans (hb.mono hsr)⟩
          generalize l[k]=c at*
          generalize allF l k=fs at*
          have EM:=mkHid em
          obtain ⟨mo,cm,rfl,-⟩:=em
          have HE3:=mkHid (And.intro hb e3)
          have hk0:(0:Int)<=k:=by omega
          have hk1:(k:Int)<l.length:=by omega
          have HQD:Hid (differB (fs.map (·.name))=false->q8 l k=false):=fun h=>HQK.out.trans (by rw [h];rfl)
          clear e0 e1 e2 e3 es1 es2 HQ hb ef hao
          go_wp2_with (first | (go_at_call 17;refine HAF.out.mono ?_;rintro r wz ⟨hb8,u8,rfl,su8⟩;have HBZ:=mkHid hb8;have HFS:=mkHid su8;obtain ⟨a8,c8,rfl,-,hfl8,-⟩:=su8;clear hb8))
          unfold maxLen at hfl8
          clear HAF
          go_loopw [17] (fun i wx=>∃p:Nat,p<=fs.length/\i=.int .i64 p/\Hid (∀(i j:Nat) (hi:i<fs.length) (hj:j<fs.length),j<p->i<j->fs[i].name≠fs[j].name)/\∃n,wx=wz.drewN n) (fun i _=>fs.length - (intOf i).toNat)
          case atStart=>exact ⟨0,Nat.zero_le _,rfl,(fun _ _ _ _ h=>by omega),0,rfl⟩
          case round=>
           obtain ⟨p,hp,rfl,HP,nz,rfl⟩:=hrel
           by_cases hpt:p<fs.length
           ·
            go_wp2_with fail
            go_loopw [18] (fun i wx=>∃q:Nat,q<=p/\i=.int .i64 q/\Hid (∀(i:Nat) (hi:i<fs.length),i<q->fs[i].name≠fs[p].name)/\∃n,wx=wz.drewN n) (fun i _=>p - (intOf i).toNat)
            case atStart=>exact ⟨0,Nat.zero_le _,rfl,(fun _ _ h=>by omega),nz,rfl⟩
            case round=>
             clear nz
             obtain ⟨q,hq,rfl,HPQ,nz,rfl⟩:=hrel
             by_cases hqt:q<p
             ·
              have hqf:q<fs.length:=by omega
              obtain ⟨bf,of,rfl,hbf,x0,x1,x2,-,-⟩:=HFS.out.atF q hqf
              obtain ⟨bf2,of2,hbe,hbf2,y0,y1,y2,-,-⟩:=HFS.out.atF p hpt
              obtain ⟨rfl,rfl⟩:bf=bf2/\of=of2:=by simpa using hbe
              clear x1 x2 y1 y2 hbe
              have hq0:(0:Int)<=q:=by omega
              have hq1:(q:Int)<fs.length:=by omega
              have hp0:(0:Int)<=p:=by omega
              have hp1:(p:Int)<fs.length:=by omega
              by_cases hs:fs[q].name=fs[p].name
              ·
               have HR:Hid (∀n,checkLk l=6/\Below w.heap.size w (wz.drewN n)):=fun n=>HNO.out (HQD.out (diff_no (fun x=>x.name) fs q p hqf hpt hqt hs)) _ (below_dn HBZ.out n)
               have hs':(fs[q].name.toList==fs[p].name.toList)=true:=by rw [hs];simp
               clear hs
               go_wp2_with fail
               go_quiet (fail)
               go_wp2_with fail
               go_ret
               exact ⟨by rw [(HR.out 0).1];rfl,below_dn (HR.out nz).2 _⟩
              have HR:Hid (∀(i:Nat) (hi:i<fs.length),i<q+1->fs[i].name≠fs[p].name):=fun i hi h=>by
               by_cases hiq:i<q
               ·
                exact HPQ.out i hi hiq
               have:i=q:=by omega
               subst this
               exact hs
              have hs':(fs[q].name.toList==fs[p].name.toList)=false:=by
               rw [beq_eq_false_iff_ne]
               exact fun e=>hs (tl_inj e)
              clear hs
              go_wp2_with fail
              go_quiet (fail)
              go_wp2_with fail
              go_roundw
              case rel=>exact ⟨q+1,by omega,by go_num,HR.out,_,rfl⟩
              case measure=>simp [intOf];omega
             have HR:Hid (∀(i j:Nat) (hi:i<fs.length) (hj:j<fs.length),j<p+1->i<j->fs[i].name≠fs[j].name):=fun i j hi hj h1 h2=>by
              by_cases hjp:j<p
              ·
               exact HP.out i j hi hj hjp h2
              have:j=p:=by omega
              subst this
              exact HPQ.out i hi (by omega)
             go_wp2_with fail
             go_roundw
             case rel=>exact ⟨p+1,by omega,by go_num,HR.out,nz,rfl⟩
             case measure=>simp [intOf];omega
           have HDF:=mkHid (diff_of (fun x=>x.name) fs fun i j hi hj h=>HP.out i j hi hj (by omega) h)
           have e3z:wz.cell? ⟨b6,o6+k*4+3,none⟩=some (.slice mo c.meths.length cm):=(HBZ.out.cell (p:=⟨b6,o6+k*4+3,none⟩) HE3.out.1).trans HE3.out.2
           have hb6z:b6<wz.heap.size:=Nat.lt_of_lt_of_le HE3.out.1 HBZ.out.size
           go_wp2_with fail
           clear hpt hp HP
           have HFS':Hid (SL 9 RM (· <B) wz (.slice mo c.meths.length cm) c.meths):=EM.out.keptM (Kp.below (HBZ.out.mono hBw))
           clear HFS
           have HFS:=mkHid HFS'.out
           have HQD':Hid (differB (c.meths.map (·.name))=false->q8 l k=false):=fun h=>HQK.out.trans (by rw [h];simp)
           clear HQD
           have HQD:=mkHid HQD'.out
           clear HFS' HQD'
           go_loopw [20] (fun i wx=>∃p:Nat,p<=c.meths.length/\i=.int .i64 p/\Hid (∀(i j:Nat) (hi:i<c.meths.length) (hj:j<c.meths.length),j<p->i<j->c.meths[i].name≠c.meths[j].name)/\∃n,wx=wz.drewN n) (fun i _=>c.meths.length - (intOf i).toNat)
           case atStart=>exact ⟨0,Nat.zero_le _,rfl,(fun _ _ _ _ h=>by omega),nz,rfl⟩
           case round=>
            obtain ⟨p,hp,rfl,HP,nz,rfl⟩:=hrel
            by_cases hpt:p<c.meths.length
            ·
             go_wp2_with fail
             go_loopw [21] (fun i wx=>∃q:Nat,q<=p/\i=.int .i64 q/\Hid (∀(i:Nat) (hi:i<c.meths.length),i<q->c.meths[i].name≠c.meths[p].name)/\∃n,wx=wz.drewN n) (fun i _=>p - (intOf i).toNat)
             case atStart=>exact ⟨0,Nat.zero_le _,rfl,(fun _ _ h=>by omega),nz,rfl⟩
             case round=>
              clear nz
              obtain ⟨q,hq,rfl,HPQ,nz,rfl⟩:=hrel
              by_cases hqt:q<p
              ·
               have hqf:q<c.meths.length:=by omega
               obtain ⟨bf,of,va,vh,rfl,hbf,x0,x1,x2,x3,x4,x5,x6,x7,x8,-,-,-,-,-⟩:=HFS.out.atM q hqf
               obtain ⟨bf2,of2,va2,vh2,hbe,hbf2,y0,y1,y2,y3,y4,y5,y6,y7,y8,-,-,-,-,-⟩:=HFS.out.atM p hpt
               obtain ⟨rfl,rfl⟩:bf=bf2/\of=of2:=by simpa using hbe
               clear x1 x2 x3 x4 x5 x6 x7 x8 y1 y2 y3 y4 y5 y6 y7 y8 hbe
               have hq0:(0:Int)<=q:=by omega
               have hq1:(q:Int)<c.meths.length:=by omega
               have hp0:(0:Int)<=p:=by omega
               have hp1:(p:Int)<c.meths.length:=by omega
               by_cases hs:c.meths[q].name=c.meths[p].name
               ·
                have HR:Hid (∀n,checkLk l=6/\Below w.heap.size w (wz.drewN n)):=fun n=>HNO.out (HQD.out (diff_no (fun x=>x.name) c.meths q p hqf hpt hqt hs)) _ (below_dn HBZ.out n)
                have hs':(c.meths[q].name.toList==c.meths[p].name.toList)=true:=by rw [hs];simp
                clear hs
                go_wp2_with fail
                go_quiet (fail)
                go_wp2_with fail
                go_ret
                exact ⟨by rw [(HR.out 0).1];rfl,below_dn (HR.out nz).2 _⟩
               have HR:Hid (∀(i:Nat) (hi:i<c.meths.length),i<q+1->c.meths[i].name≠c.meths[p].name):=fun i hi h=>by
                by_cases hiq:i<q
                ·
                 exact HPQ.out i hi hiq
                have:i=q:=by omega
                subst this
                exact hs
               have hs':(c.meths[q].name.toList==c.meths[p].name.toList)=false:=by
                rw [beq_eq_false_iff_ne]
                exact fun e=>hs (tl_inj e)
               clear hs
               go_wp2_with fail
               go_quiet (fail)
               go_wp2_with fail
               go_roundw
               case rel=>exact ⟨q+1,by omega,by go_num,HR.out,_,rfl⟩
               case measure=>simp [intOf];omega
              have HR:Hid (∀(i j:Nat) (hi:i<c.meths.length) (hj:j<c.meths.length),j<p+1->i<j->c.meths[i].name≠c.meths[j].name):=fun i j hi hj h1 h2=>by
               by_cases hjp:j<p
               ·
                exact HP.out i j hi hj hjp h2
               have:j=p:=by omega
               subst this
               exact HPQ.out i hi (by omega)
              go_wp2_with fail
              go_roundw
              case rel=>exact ⟨p+1,by omega,by go_num,HR.out,nz,rfl⟩
              case measure=>simp [intOf];omega
            have HDM:=mkHid (diff_of (fun x=>x.name) c.meths fun i j hi hj h=>HP.out i j hi hj (by omega) h)
            have HR:=mkHid (HGO.out (HQK.out.trans (by rw [HDF.out,HDM.out];rfl)) _ (below_dn HBZ.out nz))
            go_wp2_with fail
            go_roundw
            case rel=>exact ⟨k+1,by omega,by go_num,HR.out⟩
            case measure=>simp [intOf];omega
         have H8:Hid (allI l (q8 l)=true):=allI_end hlt HQ.out.1
         have HB9:=mkHid HQ.out.2
         clear HQ HVk
         go_wp2_with fail
         clear hlt hk hsr
         go_loopw [22] (fun i wr=>∃k:Nat,k<=l.length/\i=.int .i64 k/\Hid ((∀j,j<k->q9 l j=true)/\Below w.heap.size w wr)) (fun i _=>l.length - (intOf i).toNat)
         case atStart=>exact ⟨0,Nat.zero_le _,rfl,(fun j h=>by omega),HB9.out⟩
         case round=>as_aux_lemma=>
          rename World=>wr
          obtain ⟨k,hk,rfl,HQ⟩:=hrel
          have hsr:w.heap.size<=wr.heap.size:=HQ.out.2.size
          have HVk:Hid (SL 4 RC (· <B) wr (.slice (some ⟨b6,o6,none⟩) l.length cl) l):=HV.out.keptC (Kp.below (HQ.out.2.mono hB))
          by_cases hlt:k<l.length
          ·
           have HUP:=mkHid (UpFrom_any wr B _ l k hlt HVk.out (Nat.le_trans hB hsr) hN)
           obtain ⟨b,off,vf,vm,hao,hb,e0,e1,e2,e3,ef,em,es1,es2⟩:=HVk.out.atC k hlt
           obtain ⟨rfl,rfl⟩:b6=b/\o6=off:=by simpa using hao
           have hcM:=(HFI.out l[k] (List.getElem_mem hlt)).2.2.2.2.1
           have HQK:Hid (q9 l k=(upOf l k).dropLast.all fun u=>l[k].meths.all fun x=>(clsAt l u).meths.all fun y=>fitM x y):=by show q9 l k=_;rw [q9,clsAt_eq hlt]
           have hBw:B<=wr.heap.size:=Nat.le_trans hB hsr
           have HGO:Hid (q9 l k=true->∀w',Below wr.heap.size wr w'->(∀j,j<k+1->q9 l j=true)/\Below w.heap.size w w'):=fun h w' hb=>⟨upto_succ HQ.out.1 h,HQ.out.2.trans (hb.mono hsr)⟩
           have HNO:Hid (q9 l k=false->∀w',Below wr.heap.size wr w'->checkLk l=4/\Below w.heap.size w w'):=fun h w' hb=>⟨lk9 HC0.out H1.out H2.out H3.out H4.out H5.out H6.out H7.out H8.out (allI_bad hlt h),HQ.out.2.trans (hb.mono hsr)⟩
           obtain ⟨hkU,hul⟩:=upOf_ok hlt
           have HKU:=mkHid hkU
           generalize l[k]=c at*
           generalize upOf l k=up at*
           have EM:=mkHid em
           obtain ⟨mo,cm,rfl,-⟩:=em
           have HE3:=mkHid (And.intro hb e3)
           have hk0:(0:Int)<=k:=by omega
           have hk1:(k:Int)<l.length:=by omega
           clear e0 e1 e2 e3 es1 es2 HQ hb ef hao hkU
           go_wp2_with (first | (go_at_call 36;refine HUP.out.mono ?_;rintro r wz ⟨hb8,u8,rfl,su8⟩;have HBZ:=mkHid hb8;have HUS:=mkHid su8;obtain ⟨a8,c8,rfl,-⟩:=su8;clear hb8))
           clear HUP
           go_loopw [24] (fun i wx=>∃p:Nat,p<=up.dropLast.length/\i=.int .i64 p/\Hid (up.dropLast.all (fun u=>c.meths.all fun x=>(clsAt l u).meths.all fun y=>fitM x y)=(up.dropLast.drop p).all (fun u=>c.meths.all fun x=>(clsAt l u).meths.all fun y=>fitM x y)/\Below wz.heap.size wz wx)) (fun i _=>up.dropLast.length - (intOf i).toNat)
           case atStart=>exact ⟨0,Nat.zero_le _,rfl,rfl,Below.refl _ _⟩
           case round=>as_aux_lemma=>
            rename World=>wx
            obtain ⟨p,hp,rfl,HP⟩:=hrel
            have hdl:up.dropLast.length=up.length - 1:=List.length_dropLast
            by_cases hpt:p<up.dropLast.length
            ·
             have hpu:p<up.length:=by omega
             have hpi:(p:Int)<(up.length:Int) - 1:=by omega
             obtain ⟨bu,ou,rfl,hbu,eu⟩:=HUS.out.atO p hpu
             have huu:=HKU.out up[p] (List.getElem_mem hpu)
             have HSP:Hid ((up.dropLast.drop p).all (fun u=>c.meths.all fun x=>(clsAt l u).meths.all fun y=>fitM x y)=((fun u=>c.meths.all fun x=>(clsAt l u).meths.all fun y=>fitM x y) up[p]&&(up.dropLast.drop (p+1)).all (fun u=>c.meths.all fun x=>(clsAt l u).meths.all fun y=>fitM x y))):=by
              show _=_
              rw [List.drop_eq_getElem_cons hpt,List.all_cons,List.getElem_dropLast]
             obtain ⟨b,off,vf2,vm2,hao,hb2,-,-,-,e32,-,em2,-,-⟩:=(HVk.out.keptC (Kp.below (HBZ.out.mono hBw))).atC up[p] huu
             obtain ⟨rfl,rfl⟩:b6=b/\o6=off:=by simpa using hao
             rw [<-clsAt_eq huu]at em2
             obtain ⟨mo2,cm2,rfl,-⟩:=id em2
             have hcM2:=(HFI.out l[up[p]] (List.getElem_mem huu)).2.2.2.2.1
             rw [<-clsAt_eq huu]at hcM2
             have HEU:=mkHid (And.intro hbu eu)
             have HE32:=mkHid (And.intro hb2 e32)
             have EM2:=mkHid em2
             have EMz:=mkHid (EM.out.keptM (Kp.below (HBZ.out.mono hBw)))
             clear eu e32 em2 hao hb2 hbu
             generalize up[p]=uu at*
             have HSP':Hid ((up.dropLast.drop p).all (fun u=>c.meths.all fun x=>(clsAt l u).meths.all fun y=>fitM x y)=((c.meths.all fun x=>(clsAt l uu).meths.all fun y=>fitM x y)&&(up.dropLast.drop (p+1)).all (fun u=>c.meths.all fun x=>(clsAt l u).meths.all fun y=>fitM x y))):=HSP.out
             clear HSP
             generalize (clsAt l uu).meths=ms at*
             have hu0:(0:Int)<=uu:=by omega
             have hu1:(uu:Int)<l.length:=by omega
             have hp0:(0:Int)<=p:=by omega
             have hp1:(p:Int)<up.length:=by omega
             have HNP:Hid ((c.meths.all (fun x=>ms.all fun y=>fitM x y))=false->∀w',Below wz.heap.size wz w'->checkLk l=4/\Below w.heap.size w w'):=fun h w' hb=>HNO.out (HQK.out.trans (by rw [HP.out.1,HSP'.out,h,Bool.false_and])) w' (HBZ.out.trans (hb.mono HBZ.out.size))
             have HBX:=mkHid HP.out.2
             go_wp2_with fail
             go_loopw [25] (fun i wx=>∃j:Nat,j<=c.meths.length/\i=.int .i64 j/\Hid (c.meths.all (fun x=>ms.all fun y=>fitM x y)=(c.meths.drop j).all (fun x=>ms.all fun y=>fitM x y)/\Below wz.heap.size wz wx)) (fun i _=>c.meths.length - (intOf i).toNat)
             case atStart=>exact ⟨0,Nat.zero_le _,rfl,rfl,HBX.out⟩
             case round=>as_aux_lemma=>
              clear HBX
              rename World=>wx
              obtain ⟨j,hj,rfl,HJ⟩:=hrel
              have hsx:wz.heap.size<=wx.heap.size:=HJ.out.2.size
              have d3:wx.cell? ⟨b6,o6+k*4+3,none⟩=some (.slice mo c.meths.length cm):=(HJ.out.2.cell (p:=⟨b6,o6+k*4+3,none⟩) (Nat.lt_of_lt_of_le HE3.out.1 HBZ.out.size)).trans ((HBZ.out.cell (p:=⟨b6,o6+k*4+3,none⟩) HE3.out.1).trans HE3.out.2)
              have hb6x:b6<wx.heap.size:=Nat.lt_of_lt_of_le HE32.out.1 hsx
              by_cases hjt:j<c.meths.length
              ·
               have HSJ:Hid ((c.meths.drop j).all (fun x=>ms.all fun y=>fitM x y)=((ms.all fun y=>fitM c.meths[j] y)&&(c.meths.drop (j+1)).all (fun x=>ms.all fun y=>fitM x y))):=by
                show _=_
                rw [List.drop_eq_getElem_cons hjt,List.all_cons]
               have HNJ:Hid ((ms.all fun y=>fitM c.meths[j] y)=false->∀w',Below wz.heap.size wz w'->checkLk l=4/\Below w.heap.size w w'):=fun h=>HNP.out (by rw [HJ.out.1,HSJ.out,h,Bool.false_and])
               have HBX:=mkHid HJ.out.2
               go_wp2_with fail
               clear d3 hb6x hsx
               go_loopw [26] (fun i wx=>∃q:Nat,q<=ms.length/\i=.int .i64 q/\Hid ((ms.all fun y=>fitM c.meths[j] y)=((ms.drop q).all fun y=>fitM c.meths[j] y)/\Below wz.heap.size wz wx)) (fun i _=>ms.length - (intOf i).toNat)
               case atStart=>exact ⟨0,Nat.zero_le _,rfl,rfl,HBX.out⟩
               case round=>as_aux_lemma=>
                clear HBX
                rename World=>wx
                obtain ⟨q,hq,rfl,HQQ⟩:=hrel
                have hsx:wz.heap.size<=wx.heap.size:=HQQ.out.2.size
                have hBx:B<=wz.heap.size:=Nat.le_trans hBw HBZ.out.size
                have d3:wx.cell? ⟨b6,o6+k*4+3,none⟩=some (.slice mo c.meths.length cm):=(HQQ.out.2.cell (p:=⟨b6,o6+k*4+3,none⟩) (Nat.lt_of_lt_of_le HE3.out.1 HBZ.out.size)).trans ((HBZ.out.cell (p:=⟨b6,o6+k*4+3,none⟩) HE3.out.1).trans HE3.out.2)
                have d32:wx.cell? ⟨b6,o6+uu*4+3,none⟩=some (.slice mo2 ms.length cm2):=(HQQ.out.2.cell (p:=⟨b6,o6+uu*4+3,none⟩) HE32.out.1).trans HE32.out.2
                have du:wx.cell? ⟨bu,ou+p,none⟩=some (.int .i64 uu):=(HQQ.out.2.cell (p:=⟨bu,ou+p,none⟩) HEU.out.1).trans HEU.out.2
                have hb6x:b6<wx.heap.size:=Nat.lt_of_lt_of_le HE32.out.1 hsx
                have hbux:bu<wx.heap.size:=Nat.lt_of_lt_of_le HEU.out.1 hsx
                by_cases hqt:q<ms.length
                ·
                 obtain ⟨bx,ox,va,vh,hmx,hbx,x0,x1,x2,x3,x4,x5,x6,x7,x8,sa,sh,-,-,-⟩:=(EMz.out.keptM (Kp.below (HQQ.out.2.mono hBx))).atM j hjt
                 obtain ⟨by_,oy,va2,vh2,hmy,hby,y0,y1,y2,y3,y4,y5,y6,y7,y8,sa2,sh2,-,-,-⟩:=(EM2.out.keptM (Kp.below (HQQ.out.2.mono hBx))).atM q hqt
                 subst hmx hmy
                 have HSA:=mkHid sa
                 have HSA2:=mkHid sa2
                 obtain ⟨aa,ca,rfl,-⟩:=sa
                 obtain ⟨ah,ch,rfl,-⟩:=sh
                 obtain ⟨aa2,ca2,rfl,-⟩:=sa2
                 obtain ⟨ah2,ch2,rfl,-⟩:=sh2
                 have HSQ:Hid (((ms.drop q).all fun y=>fitM c.meths[j] y)=(fitM c.meths[j] ms[q]&&(ms.drop (q+1)).all fun y=>fitM c.meths[j] y)):=by
                  show _=_
                  rw [List.drop_eq_getElem_cons hqt,List.all_cons]
                 have HBad:Hid (fitM c.meths[j] ms[q]=false->∀w',Below wz.heap.size wz w'->checkLk l=4/\Below w.heap.size w w'):=fun h=>HNJ.out (by rw [HQQ.out.1,HSQ.out,h,Bool.false_and])
                 have HGood:Hid (fitM c.meths[j] ms[q]=true->((ms.all fun y=>fitM c.meths[j] y)=((ms.drop (q+1)).all fun y=>fitM c.meths[j] y))):=fun h=>HQQ.out.1.trans (by rw [HSQ.out,h,Bool.true_and])
                 generalize hxx:c.meths[j]=x at*
                 generalize ms[q]=y at*
                 clear hxx
                 have hj0:(0:Int)<=j:=by omega
                 have hj1:(j:Int)<c.meths.length:=by omega
                 have hq0:(0:Int)<=q:=by omega
                 have hq1:(q:Int)<ms.length:=by omega
                 have HBQ:=mkHid HQQ.out.2
                 go_upto_region 83 with fail
                 go_cut [27,28] (fun v27 v28 W=>∃X Y,v27=.pointer (some ⟨X,0,none⟩)/\v28=.pointer (some ⟨Y,0,none⟩)/\W.heap[X]? =some (.cells #[.string x.name,.bool x.static,.slice aa x.args.length ca,.int .i64 x.ret.kind,.string x.ret.cls,.int .i64 x.stack,.int .i64 x.locals,.string x.code,.slice ah x.hands.length ch] 83 (0,0))/\W.heap[Y]? =some (.cells #[.string y.name,.bool y.static,.slice aa2 y.args.length ca2,.int .i64 y.ret.kind,.string y.ret.cls,.int .i64 y.stack,.int .i64 y.locals,.string y.code,.slice ah2 y.hands.length ch2] 83 (0,0))/\Below wx.heap.size wx W)
                 case first=>
                  have F1:∀(cs:Array Value) (t:Nat) (C:Obj),(((wx.alloc (.cells cs t)).alloc C).drew).heap[wx.heap.size]? =some (.cells cs t (0,0)):=fun cs t C=>(Below.heap_alloc _ _ _ (by simp)).trans (heap_alloc_new wx _)
                  have F2:∀(A:Obj) (cs:Array Value) (t:Nat),(((wx.alloc A).alloc (.cells cs t)).drew).heap[wx.heap.size+1]? =some (.cells cs t (0,0)):=fun A cs t=>by
                   have:=heap_alloc_new (wx.alloc A) (.cells cs t)
                   have e:(wx.alloc A).heap.size=wx.heap.size+1:=by simp
                   rw [e]at this
                   exact this
                  have F3:∀A C,Below wx.heap.size wx (((wx.alloc A).alloc C).drew):=fun A C=>(((Below.refl _ _).alloc (Nat.le_refl _) _).alloc (by simp) _).drew
                  have HF1:=mkHid F1
                  have HF2:=mkHid F2
                  have HF3:=mkHid F3
                  clear F1 F2 F3
                  go_region_held3 (fun W'=>∀p:Addr,p.block<wx.heap.size->W'.cell? p=wx.cell? p) (exact fun p hp=>Below.cell (B:=wx.heap.size) (w:=wx) (by repeat (first | exact Below.refl _ _ | refine Below.drew ?_ | refine Below.alloc ?_ (by simp<;>omega) _ | refine Below.setCell ?_ (by simp) _)) hp) (fail)
                  all_goals
                   go_wp2_with fail
                   go_meet
                   first
                    | exact ⟨wx.heap.size,wx.heap.size+1,rfl,rfl,HF1.out _ _ _,HF2.out _ _ _,HF3.out _ _⟩
                    | exact ⟨wx.heap.size+1,wx.heap.size,rfl,rfl,HF2.out _ _ _,HF1.out _ _ _,HF3.out _ _⟩
                 case rest=>
                  as_aux_lemma=>
                   clear x0 x1 x2 x3 x4 x5 x6 x7 x8 y0 y1 y2 y3 y4 y5 y6 y7 y8 d3 d32 du hb6x hbux
                   rename World=>W
                   obtain ⟨X,Y,rfl,rfl,hX,hY,hBW⟩:=hcut
                   have X0:=cell_of hX 0 (x:=.string x.name) rfl
                   have X1:=cell_of hX 1 (x:=.bool x.static) rfl
                   have X2:=cell_of hX 2 (x:=.slice aa x.args.length ca) rfl
                   have X3:=cell_of hX 3 (x:=.int .i64 x.ret.kind) rfl
                   have X4:=cell_of hX 4 (x:=.string x.ret.cls) rfl
                   have Y0:=cell_of hY 0 (x:=.string y.name) rfl
                   have Y1:=cell_of hY 1 (x:=.bool y.static) rfl
                   have Y2:=cell_of hY 2 (x:=.slice aa2 y.args.length ca2) rfl
                   have Y3:=cell_of hY 3 (x:=.int .i64 y.ret.kind) rfl
                   have Y4:=cell_of hY 4 (x:=.string y.ret.cls) rfl
                   have hXl:=lt_of hX
                   have hYl:=lt_of hY
                   have HBE0:Below wz.heap.size wz W:=HBQ.out.trans (hBW.mono hsx)
                   have HBE:Hid (∀n,Below wz.heap.size wz (W.drewN n)):=fun n=>below_dn HBE0 n
                   have HSK:=mkHid (SameKinds_any W (· <B) (· <B) _ _ x.args y.args (HSA.out.keptK (Kp.below (hBW.mono (Nat.le_trans hBx hsx)))) (HSA2.out.keptK (Kp.below (hBW.mono (Nat.le_trans hBx hsx)))))
                   have hkn:=kindNeq x.ret y.ret
                   have hkg:=kindNeqG
                   have HFM:Hid (fitM x y=(!decide (x.name=y.name)||(!x.static&& !y.static&&eqL sameK x.args y.args&&sameK x.ret y.ret))):=rfl
                   have HYES:Hid (fitM x y=true->∀n,((ms.all fun z=>fitM x z)=((ms.drop (q+1)).all fun z=>fitM x z))/\Below wz.heap.size wz (W.drewN n)):=fun h n=>⟨HGood.out h,HBE.out n⟩
                   have HNOT:Hid (fitM x y=false->∀n,checkLk l=4/\Below w.heap.size w (W.drewN n)):=fun h n=>HBad.out h _ (HBE.out n)
                   clear hX hY hBW HBE0 HSA HSA2 HBad HGood HBQ
                   generalize eqL sameK x.args y.args=ek at*
                   generalize sameK x.ret y.ret=er at*
                   generalize x.static=sx at*
                   generalize y.static=sy at*
                   by_cases hn:x.name=y.name
                   rotate_left
                   ·
                    have hs':(x.name.toList==y.name.toList)=false:=beq_eq_false_iff_ne.2 fun e=>hn (tl_inj e)
                    have HR:=mkHid (HYES.out (HFM.out.trans (by simp [hn])) 0)
                    clear hn HSK
                    go_wp2_with fail
                    go_roundw
                    case rel=>exact ⟨q+1,by omega,by go_num,HR.out⟩
                    case measure=>simp [intOf];omega
                   have hs':(x.name.toList==y.name.toList)=true:=by rw [hn];simp
                   cases sx with
                   | true=>
                     have HR:=mkHid (HNOT.out (HFM.out.trans (by simp [hn])) 0)
                     clear hn HSK
                     go_wp2_with fail
                     go_ret
                     exact ⟨by rw [HR.out.1];rfl,HR.out.2⟩
                   | false=>
                     cases sy with
                     | true=>
                       have HR:=mkHid (HNOT.out (HFM.out.trans (by simp [hn])) 0)
                       clear hn HSK
                       go_wp2_with fail
                       go_ret
                       exact ⟨by rw [HR.out.1];rfl,HR.out.2⟩
                     | false=>
                       cases ek with
                       | false=>
                         have HR:=mkHid (HNOT.out (HFM.out.trans (by simp [hn])))
                         clear hn
                         go_wp2_with (first | (go_at_call 38;refine HSK.out.mono ?_;rintro r w9 ⟨rfl,n9,rfl⟩))
                         go_ret
                         exact ⟨by rw [(HR.out 0).1];rfl,(HR.out _).2⟩
                       | true=>
                         cases er with
                         | false=>
                           have HR:=mkHid (HNOT.out (HFM.out.trans (by simp [hn])))
                           clear hn
                           go_wp2_with (first | (go_at_call 38;refine HSK.out.mono ?_;rintro r w9 ⟨rfl,n9,rfl⟩))
                           go_ret
                           exact ⟨by rw [(HR.out 0).1];rfl,(HR.out _).2⟩
                         | true=>
                           have HR:=mkHid (HYES.out (HFM.out.trans (by simp [hn])))
                           clear hn
                           go_wp2_with (first | (go_at_call 38;refine HSK.out.mono ?_;rintro r w9 ⟨rfl,n9,rfl⟩))
                           go_roundw
                           case rel=>exact ⟨q+1,by omega,by go_num,HR.out _⟩
                           case measure=>simp [intOf];omega
                have HAQ:Hid ((ms.all fun y=>fitM c.meths[j] y)=true):=HQQ.out.1.trans (by rw [List.drop_of_length_le (by omega)];rfl)
                have HR:Hid (c.meths.all (fun x=>ms.all fun y=>fitM x y)=(c.meths.drop (j+1)).all (fun x=>ms.all fun y=>fitM x y)/\Below wz.heap.size wz wx):=⟨HJ.out.1.trans (HSJ.out.trans (by rw [HAQ.out,Bool.true_and])),HQQ.out.2⟩
                go_wp2_with fail
                go_roundw
                case rel=>exact ⟨j+1,by omega,by go_num,HR.out⟩
                case measure=>simp [intOf];omega
              have HAJ:Hid (c.meths.all (fun x=>ms.all fun y=>fitM x y)=true):=HJ.out.1.trans (by rw [List.drop_of_length_le (by omega)];rfl)
              have HR:Hid (up.dropLast.all (fun u=>c.meths.all fun x=>(clsAt l u).meths.all fun y=>fitM x y)=(up.dropLast.drop (p+1)).all (fun u=>c.meths.all fun x=>(clsAt l u).meths.all fun y=>fitM x y)/\Below wz.heap.size wz wx):=⟨HP.out.1.trans (HSP'.out.trans (by rw [HAJ.out,Bool.true_and])),HJ.out.2⟩
              go_wp2_with fail
              go_roundw
              case rel=>exact ⟨p+1,by omega,by go_num,HR.out⟩
              case measure=>simp [intOf];omega
            have HAP:Hid (up.dropLast.all (fun u=>c.meths.all fun x=>(clsAt l u).meths.all fun y=>fitM x y)=true):=HP.out.1.trans (by rw [List.drop_of_length_le (by omega)];rfl)
            have HR:=mkHid (HGO.out (HQK.out.trans HAP.out) _ (HBZ.out.trans (HP.out.2.mono HBZ.out.size)))
            have hpi:¬(p:Int)<(up.length:Int) - 1:=by omega
            go_wp2_with fail
            go_roundw
            case rel=>exact ⟨k+1,by omega,by go_num,HR.out⟩
            case measure=>simp [intOf];omega
          have H9:Hid (allI l (q9 l)=true):=allI_end hlt HQ.out.1
          have HR:=mkHid (lk10 HC0.out H1.out H2.out H3.out H4.out H5.out H6.out H7.out H8.out H9.out)
          go_wp2_with fail
          go_ret
          exact ⟨by rw [HR.out];rfl,HQ.out.2⟩
end Go.Proofs.YtcddpmappmjilaaGreatDoor
