import Derived.Test.YtjdnmblggdobgaaGreatJLCkDLPu4
import Derived.Test.YtjdnmblggdobgaaGreatJRefNameRefClass
import Derived.Deep.RegionWith
import Derived.Deep.DeepCutAuto
import Derived.BigRegion
import Derived.Deep.RegionHeld3
set_option maxHeartbeats 16000000
set_option maxRecDepth 100000
namespace Go.Proofs.YtjdnmblggdobgaaGreat
open Go.RowKit Go.Sort
theorem zqp (w:World) (B:Nat) (l:List am) (v:Value) (hv:SL 4 RC (· <B) w v l) (hB:B<=w.heap.size):
 Calls Tryz.prog 181 #[v] w fun r w'=>r=.returned (.int .i64 (cb l))/\Below w.heap.size w w':=by
 have HV:=ag hv;have d0:=ag (zqo w B l v hv hB);obtain ⟨ao,cl,rfl,-⟩:=hv;by_cases hc:dt l=0
 rotate_left
 ·have D:Hid (cb l=dt l):=by show cb l=dt l;simp [cb,hc]
  generalize dt l=ec at*;go_enter Tryz.func181,Tryz.ntmps181;go_wp2_with (first | (go_at_call 224;refine d0.o.mono ?_;rintro r w7 ⟨rfl,a0⟩));go_ret;exact ⟨by rw [D.o];rfl,a0⟩
 obtain ⟨hN,b7⟩:=zgm hc;have az:=ag b7;have ai:=ag hc;rw [hc]at d0;clear hc b7;go_enter Tryz.func181,Tryz.ntmps181;go_wp2_with (first | (go_at_call 224;refine d0.o.mono ?_;rintro r w0 ⟨rfl,fr⟩;have ha:=ag fr;clear fr));go_loopw [4] (fun i wr=>∃k:Nat,k<=l.length/\i=.int .i64 k/\Hid ((∀j,j<k->q1 l j=true)/\Below w.heap.size w wr)) (fun i _=>l.length - (intOf i).toNat)
 case atStart=>exact ⟨0,n0q _,rfl,(fun j h=>by omega),ha.o⟩
 case round=>as_aux_lemma=>
  rename World=>wr
  obtain ⟨k,hk,rfl,G⟩:=hrel;have I:w.heap.size<=wr.heap.size:=G.o.2.size;have F:Hid (SL 4 RC (· <B) wr (.slice ao l.length cl) l):=HV.o.keptC (Kp.below (G.o.2.mono hB));by_cases E:k<l.length
  ·obtain ⟨b,off,vf,vm,rfl,Z,e0,e1,e2,e3,ef,em,ae,af⟩:=F.o.atC k E;clear ef em e1 e2 e3 ae af;have an:=ag (zoe wr (· <B) _ l l[k].name F.o);have J:Hid (q1 l k=decide (bw l l[k].name=k)):=by show q1 l k=_;rw [q1,zay E]
   have ds:=(zod l l[k].name).1;have dz:=(zod l l[k].name).2;generalize bw l l[k].name=fa at*;by_cases hs:fa=k
   ·subst hs;have h3:Hid ((∀j,j<k+1->q1 l j=true)/\Below w.heap.size w wr):=⟨zow G.o.1 (by rw [J.o];simp),G.o.2⟩;go_wp2_with (first | (go_at_call 184;refine an.o.mono ?_;rintro r w7 ⟨rfl,rfl⟩));go_roundw
    case rel=>exact ⟨k+1,by omega,by go_num,h3.o⟩
    case measure=>simp [intOf];omega
   have D:=ag (lk1 ai.o (zov E (by rw [J.o];simp [hs])));go_wp2_with (first | (go_at_call 184;refine an.o.mono ?_;rintro r w7 ⟨rfl,rfl⟩));go_ret;exact ⟨by rw [D.o];rfl,G.o.2⟩
  have H1:Hid (ev l (q1 l)=true):=zou E G.o.1;have a5:=ag G.o.2;have cn:=ag (zoe wr (· <B) _ l fd F.o);have a6:=ag (zoe wr (· <B) _ l f9 F.o);have f2:=(zod l fd).1;have f3:=(zod l fd).2;have fz:=(zod l f9).1;have f0:=(zod l f9).2;have d5:Hid (q2 l=(decide (0<=bw l fd)&&decide (0<=bw l f9))):=rfl;have e7:Hid (q6 l=(decide ((b8 l (bw l f9).toNat).bq=fd)&&(match ki l (bw l f9).toNat with | []=>false | f::_=>decide (f.kind.kind=1)))):=rfl;have hr:Hid (∀w M v,SL 4 RC M w v l->Calls Tryz.prog 184 #[v,.string f9] w fun r w'=>r=.returned (.int .i64 (bw l f9))/\w'=w):=fun w M v h=>zoe w M v l f9 h;generalize bw l fd=ft at*;generalize bw l f9=fe at*;clear G F;by_cases ht:ft<0
  ·have D:=ag (lk2 ai.o H1.o (by rw [d5.o];simp;omega));go_wp2_with (first | (go_at_call_of 184 (Value.string ⟨#[79,98,106,101,99,116]⟩);refine cn.o.mono ?_;rintro r w7 ⟨rfl,rfl⟩) | (go_at_call 184;refine a6.o.mono ?_;rintro r w7 ⟨rfl,rfl⟩));go_ret;exact ⟨by rw [D.o];rfl,a5.o⟩
  by_cases he:fe<0
  ·have D:=ag (lk2 ai.o H1.o (by rw [d5.o];simp;omega));go_wp2_with (first | (go_at_call_of 184 (Value.string ⟨#[79,98,106,101,99,116]⟩);refine cn.o.mono ?_;rintro r w7 ⟨rfl,rfl⟩) | (go_at_call 184;refine a6.o.mono ?_;rintro r w7 ⟨rfl,rfl⟩));go_ret;exact ⟨by rw [D.o];rfl,a5.o⟩
  have H2:Hid (q2 l=true):=d5.o.trans (by simp;omega);go_wp2_with (first | (go_at_call_of 184 (Value.string ⟨#[79,98,106,101,99,116]⟩);refine cn.o.mono ?_;rintro r w7 ⟨rfl,rfl⟩) | (go_at_call 184;refine a6.o.mono ?_;rintro r w7 ⟨rfl,rfl⟩));clear cn a6 f2 f3 E hk I;go_loopw [5] (fun i wr=>∃k:Nat,k<=l.length/\i=.int .i64 k/\Hid ((∀j,j<k->q3 l j=true)/\Below w.heap.size w wr)) (fun i _=>l.length - (intOf i).toNat)
  case atStart=>exact ⟨0,n0q _,rfl,(fun j h=>by omega),a5.o⟩
  case round=>as_aux_lemma=>
   rename World=>wr
   obtain ⟨k,hk,rfl,G⟩:=hrel;have I:w.heap.size<=wr.heap.size:=G.o.2.size;have F:Hid (SL 4 RC (· <B) wr (.slice ao l.length cl) l):=HV.o.keptC (Kp.below (G.o.2.mono hB));by_cases E:k<l.length
   ·obtain ⟨b,off,vf,vm,rfl,Z,e0,e1,e2,e3,ef,em,ae,af⟩:=F.o.atC k E;clear ef em e2 e3 ae af;have J:Hid (q3 l k=upperB l[k]):=by show q3 l k=_;rw [q3,zay E]
    generalize l[k]=c at*;have ad:Hid (upperB c=true->(∀j,j<k+1->q3 l j=true)/\∀n,Below w.heap.size w (wr.drewN n)):=fun h=>⟨zow G.o.1 (J.o.trans h),fun n=>mp G.o.2 n⟩;have O:Hid (upperB c=false->cb l=4/\∀n,Below w.heap.size w (wr.drewN n)):=fun h=>⟨lk3 ai.o H1.o H2.o (zov E (J.o.trans h)),fun n=>mp G.o.2 n⟩;by_cases h1:c.name=fd
    ·have t1:c.name.toList= [79,98,106,101,99,116]:=by rw [h1];exact zdt
     by_cases h2:c.bq=⟨#[]⟩
     ·have t2:=zcb h2;have D:=ag (ad.o (by simp [upperB,h1,h2]));clear h1 h2;go_wp2_with fail;go_quiet (fail);go_wp2_with fail;go_roundw
      case rel=>exact ⟨k+1,by omega,by go_num,D.o.1,D.o.2 _⟩
      case measure=>simp [intOf];omega
     have t2:=zox h2;have D:=ag (O.o (by simp [upperB,h1,h2]));clear h1 h2;go_wp2_with fail;go_quiet (fail);go_wp2_with fail;go_ret;exact ⟨by rw [D.o.1];rfl,D.o.2 _⟩
    have t1:(c.name.toList== [79,98,106,101,99,116])=false:=beq_eq_false_iff_ne.2 fun e=>h1 (zb9 (e.trans zdt.symm));by_cases h2:c.bq=⟨#[]⟩
    ·have t2:=zcb h2;have D:=ag (O.o (by simp [upperB,h1,h2]));clear h1 h2;go_wp2_with fail;go_quiet (fail);go_wp2_with fail;go_ret;exact ⟨by rw [D.o.1];rfl,D.o.2 _⟩
    have t2:=zox h2;have D:=ag (ad.o (by simp [upperB,h1,h2]));clear h1 h2;go_wp2_with fail;go_quiet (fail);go_wp2_with fail;go_roundw
    case rel=>exact ⟨k+1,by omega,by go_num,D.o.1,D.o.2 _⟩
    case measure=>simp [intOf];omega
   have H3:Hid (ev l (q3 l)=true):=zou E G.o.1;have hd:=ag G.o.2;clear G F;go_wp2_with fail;clear E hk I;go_loopw [6] (fun i wr=>∃k:Nat,k<=l.length/\i=.int .i64 k/\Hid ((∀j,j<k->q4 l j=true)/\Below w.heap.size w wr)) (fun i _=>l.length - (intOf i).toNat)
   case atStart=>exact ⟨0,n0q _,rfl,(fun j h=>by omega),hd.o⟩
   case round=>as_aux_lemma=>
    rename World=>wr
    obtain ⟨k,hk,rfl,G⟩:=hrel;have I:w.heap.size<=wr.heap.size:=G.o.2.size;have F:Hid (SL 4 RC (· <B) wr (.slice ao l.length cl) l):=HV.o.keptC (Kp.below (G.o.2.mono hB));by_cases E:k<l.length
    ·obtain ⟨b,off,vf,vm,rfl,Z,e0,e1,e2,e3,ef,em,ae,af⟩:=F.o.atC k E;clear ef em e0 e2 e3 ae af;have J:Hid (q4 l k=(decide (l[k].bq=(⟨#[]⟩:ByteArray))||decide (0<=bw l l[k].bq))):=by show q4 l k=_;rw [q4,zay E]
     have an:=ag (zoe wr (· <B) _ l l[k].bq F.o);have ds:=(zod l l[k].bq).1;have dz:=(zod l l[k].bq).2;generalize l[k]=c at*;generalize bw l c.bq=fa at*;have ad:Hid (q4 l k=true->(∀j,j<k+1->q4 l j=true)/\Below w.heap.size w wr):=fun h=>⟨zow G.o.1 h,G.o.2⟩;have O:Hid (q4 l k=false->cb l=5/\Below w.heap.size w wr):=fun h=>⟨lk4 ai.o H1.o H2.o H3.o (zov E h),G.o.2⟩;by_cases h1:c.bq=⟨#[]⟩
     ·have t1:=zcb h1;have D:=ag (ad.o (J.o.trans (by simp [h1])));clear h1 an;go_wp2_with fail;go_roundw
      case rel=>exact ⟨k+1,by omega,by go_num,D.o⟩
      case measure=>simp [intOf];omega
     have t1:=zox h1;by_cases h2:fa<0
     ·have D:=ag (O.o (J.o.trans (by simp [h1];omega)));clear h1;go_wp2_with (first | (go_at_call 184;refine an.o.mono ?_;rintro r w7 ⟨rfl,rfl⟩));go_ret;exact ⟨by rw [D.o.1];rfl,D.o.2⟩
     have D:=ag (ad.o (J.o.trans (by simp [h1];omega)));clear h1;go_wp2_with (first | (go_at_call 184;refine an.o.mono ?_;rintro r w7 ⟨rfl,rfl⟩));go_roundw
     case rel=>exact ⟨k+1,by omega,by go_num,D.o⟩
     case measure=>simp [intOf];omega
    have H4:Hid (ev l (q4 l)=true):=zou E G.o.1;have hg:=ag G.o.2;clear G F;go_wp2_with fail;clear E hk I;go_loopw [7] (fun i wr=>∃k:Nat,k<=l.length/\i=.int .i64 k/\Hid ((∀j,j<k->q5 l j=true)/\Below w.heap.size w wr)) (fun i _=>l.length - (intOf i).toNat)
    case atStart=>exact ⟨0,n0q _,rfl,(fun j h=>by omega),hg.o⟩
    case round=>as_aux_lemma=>
     rename World=>wr
     obtain ⟨k,hk,rfl,G⟩:=hrel;have I:w.heap.size<=wr.heap.size:=G.o.2.size;have F:Hid (SL 4 RC (· <B) wr (.slice ao l.length cl) l):=HV.o.keptC (Kp.below (G.o.2.mono hB));by_cases E:k<l.length
     ·have b3:=ag (zom wr B _ l k E F.o (lt3 hB I) hN);have J:Hid (q5 l k=decide (0<(nc l k).length)):=rfl;have jn:=(zoh E).2;have ad:Hid (q5 l k=true->(∀j,j<k+1->q5 l j=true)/\∀w',Below wr.heap.size wr w'->Below w.heap.size w w'):=fun h=>⟨zow G.o.1 h,fun w' Z=>G.o.2.trans (Z.mono I)⟩;have O:Hid (q5 l k=false->cb l=4/\∀w',Below wr.heap.size wr w'->Below w.heap.size w w'):=fun h=>⟨lk5 ai.o H1.o H2.o H3.o H4.o (zov E h),fun w' Z=>G.o.2.trans (Z.mono I)⟩;generalize nc l k=up at*;by_cases h2:up.length=0
      ·have D:=ag (O.o (J.o.trans (by simp [h2])));have it:(up.length:Int)=0:=by omega
       go_wp2_with (first | (go_at_call 225;refine b3.o.mono ?_;rintro r w7 ⟨a0,u7,rfl,es⟩;obtain ⟨au,cu,rfl,-⟩:=es;have bg:=ag a0;clear a0));go_ret;exact ⟨by rw [D.o.1];rfl,D.o.2 _ bg.o⟩
      have D:=ag (ad.o (J.o.trans (by simp;omega)));have it:¬(up.length:Int)=0:=by omega
      go_wp2_with (first | (go_at_call 225;refine b3.o.mono ?_;rintro r w7 ⟨a0,u7,rfl,es⟩;obtain ⟨au,cu,rfl,-⟩:=es;have bg:=ag a0;clear a0));go_roundw
      case rel=>exact ⟨k+1,by omega,by go_num,D.o.1,D.o.2 _ bg.o⟩
      case measure=>simp [intOf];omega
     have H5:Hid (ev l (q5 l)=true):=zou E G.o.1;have ks:=ag G.o.2;obtain ⟨en,rfl⟩:=Int.eq_ofNat_of_zero_le (show 0<=fe by omega);have ee:en<l.length:=by omega
     have a6:=ag (hr.o wr (· <B) _ F.o);have a4:=ag (zon wr B _ l en ee F.o (lt3 hB I) hN (fun c hc=>(az.o c hc).2.2.1));have J:Hid (q6 l=(decide (l[en].bq=fd)&&(match ki l en with | []=>false | f::_=>decide (f.kind.kind=1)))):=e7.o.trans (by rw [show ((en:Int)).toNat=en from rfl,zay ee]);have hu:Hid (∀w',Below wr.heap.size wr w'->Below w.heap.size w w'):=fun w' Z=>G.o.2.trans (Z.mono I);generalize ki l en=fs at*;have k6:(0:Int)<=en:=by omega
     have k7:(en:Int)<l.length:=by omega
     have h6:=ag F.o;have hl:=ag (lt3 hB I);clear G F e7 ht he fz f0
     go_upto_region 28 with (first | (go_at_call 184;refine a6.o.mono ?_;rintro r w7 ⟨rfl,rfl⟩) | (go_at_call 182;refine a4.o.mono ?_;rintro r w8 ⟨av,u8,rfl,ay⟩;have et:=ag av;have cr:=ag ay;obtain ⟨a8,c8,rfl,-⟩:=ay;clear av))
     clear E hk I;obtain ⟨b6,o6,vf,vm,rfl,Z,e0,e1,e2,e3,ef,em,ae,af⟩:=(h6.o.keptC (Kp.below (et.o.mono hl.o))).atC en ee;clear ef em e0 e2 e3 ae af;have cj:=ag (hu.o _ et.o);have O:Hid (q6 l=false->cb l=4):=fun h=>lk6 ai.o H1.o H2.o H3.o H4.o H5.o h;generalize l[en]=c at*;by_cases h1:c.bq=fd
     rotate_left
     ·have t1:(c.bq.toList== [79,98,106,101,99,116])=false:=beq_eq_false_iff_ne.2 fun e=>h1 (zb9 (e.trans zdt.symm));have D:=ag (O.o (J.o.trans (by simp [h1])));clear h1 cr;go_wp2_with fail;go_ret;exact ⟨by rw [D.o];rfl,cj.o⟩
     have t1:c.bq.toList= [79,98,106,101,99,116]:=by rw [h1];exact zdt
     cases fs with
     | nil=>
       have D:=ag (O.o (J.o.trans (by simp)));clear h1 cr;go_wp2_with fail;go_ret;exact ⟨by rw [D.o];rfl,cj.o⟩
     | cons f fs=>
       obtain ⟨bf,of,rfl,eb,y0,y1,y2,-,-⟩:=cr.o.atF 0 (by simp);have kk:w8.cell? ⟨bf,of+1,none⟩=some (.int .i64 f.kind.kind):=by simpa using y1
       have dd:Hid (q6 l=decide (f.kind.kind=1)):=J.o.trans (by simp [h1]);clear y0 y1 y2 h1 cr J;generalize f.kind.kind=fk at*;have i1:(0:Int)<((fs.length+1:Nat):Int):=by omega
       have gb:(((fs.length+1:Nat):Int)==0)=false:=beq_eq_false_iff_ne.2 (by omega);have gg:((fs.length:Int)+1==0)=false:=beq_eq_false_iff_ne.2 (by omega);by_cases a1:fk=1
       rotate_left
       ·have D:=ag (O.o (dd.o.trans (by simp [a1])));have k8:(fk != 1)=true:=by simp [a1]
        clear a1;go_wp2_with fail;go_ret;exact ⟨by rw [D.o];rfl,cj.o⟩
       subst a1;have H6:Hid (q6 l=true):=dd.o.trans (by simp);go_wp2_with fail;clear kk t1 i1 gb gg e1;go_loopw [10] (fun i wr=>∃k:Nat,k<=l.length/\i=.int .i64 k/\Hid ((∀j,j<k->q7 l j=true)/\Below w.heap.size w wr)) (fun i _=>l.length - (intOf i).toNat)
       case atStart=>exact ⟨0,n0q _,rfl,(fun j h=>by omega),cj.o⟩
       case round=>as_aux_lemma=>
        rename World=>wr
        obtain ⟨k,hk,rfl,G⟩:=hrel;have I:w.heap.size<=wr.heap.size:=G.o.2.size;have F:Hid (SL 4 RC (· <B) wr (.slice (some ⟨b6,o6,none⟩) l.length cl) l):=HV.o.keptC (Kp.below (G.o.2.mono hB));by_cases E:k<l.length
        ·obtain ⟨b,off,vf,vm,ak,Z,e0,e1,e2,e3,ef,em,ae,af⟩:=F.o.atC k E;obtain ⟨rfl,rfl⟩:b6=b/\o6=off:=by simpa using ak
         clear ak;have J:Hid (q7 l k=(l[k].fields.all (fun f=>gn l f.kind)&&l[k].ar.all (lu l))):=by show q7 l k=_;rw [q7,zay E]
         have ac:B<=wr.heap.size:=lt3 hB I;have ad:Hid (q7 l k=true->∀w',Below wr.heap.size wr w'->(∀j,j<k+1->q7 l j=true)/\Below w.heap.size w w'):=fun h w' Z=>⟨zow G.o.1 h,G.o.2.trans (Z.mono I)⟩;have O:Hid (q7 l k=false->∀w',Below wr.heap.size wr w'->cb l=5/\Below w.heap.size w w'):=fun h w' Z=>⟨lk7 ai.o H1.o H2.o H3.o H4.o H5.o H6.o (zov E h),G.o.2.trans (Z.mono I)⟩;have k4:=(az.o l[k] (gm E)).2.2.1;have f6:=(az.o l[k] (gm E)).2.2.2.2.1;generalize l[k]=c at*;have EF:=ag ef;have EM:=ag em;obtain ⟨fo,cf,rfl,-⟩:=ef;obtain ⟨mo,cm,rfl,-⟩:=em;have a7:=ag (And.intro Z (And.intro e2 e3));have gt:(0:Int)<=k:=by omega
         have a1:(k:Int)<l.length:=by omega
         clear e0 e1 e2 e3 ae af G Z;go_wp2_with fail;go_loopw [11] (fun i wq=>∃j:Nat,j<=c.fields.length/\i=.int .i64 j/\Hid (c.fields.all (fun f=>gn l f.kind)=(c.fields.drop j).all (fun f=>gn l f.kind)/\Below wr.heap.size wr wq)) (fun i _=>c.fields.length - (intOf i).toNat)
         case atStart=>exact ⟨0,n0q _,rfl,rfl,br _ _⟩
         case round=>
          rename World=>wq
          obtain ⟨j,hj,rfl,HJ⟩:=hrel;have el:wr.heap.size<=wq.heap.size:=HJ.o.2.size;have d2:wq.cell? ⟨b6,o6+k*4+2,none⟩=some (.slice fo c.fields.length cf):=(HJ.o.2.cell (p:=⟨b6,o6+k*4+2,none⟩) a7.o.1).trans a7.o.2.1;have i0:b6<wq.heap.size:=ll3 a7.o.1 el;by_cases ap:j<c.fields.length
          ·obtain ⟨bf,of,i2,eb,y0,y1,y2,-,z2⟩:=(EF.o.keptF (Kp.below (HJ.o.2.mono ac))).atF j ap;subst i2;have b1:Hid ((c.fields.drop j).all (fun f=>gn l f.kind)=(gn l c.fields[j].kind&&(c.fields.drop (j+1)).all (fun f=>gn l f.kind))):=by
            show _=_;rw [List.drop_eq_getElem_cons ap,List.all_cons]
           generalize c.fields[j]=x at*;have ea:Below wr.heap.size wr (wq.alloc (.cells #[.int .i64 x.kind.kind,.string x.kind.da] 123)):=HJ.o.2.alloc el _;have b2:=ag (zof (wq.alloc (.cells #[.int .i64 x.kind.kind,.string x.kind.da] 123)) (· <B) (· <wq.heap.size+1) _ _ l [x.kind] (F.o.keptC (Kp.below (ea.mono ac))) (one_K wq x.kind _ wq.heap.size z2 rfl));have co:Hid ([x.kind].all (gn l)=gn l x.kind):=by show _=_;simp
           rw [co.o]at b2;have ex:=ag ea;have gl:(0:Int)<=j:=by omega
           have gs:(j:Int)<c.fields.length:=by omega
           clear ea y0 z2;cases hx:gn l x.kind with
           | true=>
             rw [hx]at b2;have D:Hid (c.fields.all (fun f=>gn l f.kind)=(c.fields.drop (j+1)).all (fun f=>gn l f.kind)/\Below wr.heap.size wr (wq.alloc (.cells #[.int .i64 x.kind.kind,.string x.kind.da] 123))):=⟨HJ.o.1.trans (b1.o.trans (by rw [hx,Bool.true_and])),ex.o⟩;clear hx;go_wp2_with (first | (go_at_call 226;refine b2.o.mono ?_;rintro r w7 ⟨rfl,rfl⟩));go_roundw
             case rel=>exact ⟨j+1,by omega,by go_num,D.o⟩
             case measure=>simp [intOf];omega
           | false=>
             rw [hx]at b2;have D:=ag (O.o (J.o.trans (by rw [HJ.o.1,b1.o,hx];simp)) _ ex.o);clear hx;go_wp2_with (first | (go_at_call 226;refine b2.o.mono ?_;rintro r w7 ⟨rfl,rfl⟩));go_ret;exact ⟨by rw [D.o.1];rfl,D.o.2⟩
          have a4:Hid (c.fields.all (fun f=>gn l f.kind)=true):=HJ.o.1.trans (by rw [List.drop_of_length_le (by omega)];rfl);have bi:=ag HJ.o.2;clear HJ;go_wp2_with fail;clear ap hj el d2 i0;go_loopw [12] (fun i wm=>∃j:Nat,j<=c.ar.length/\i=.int .i64 j/\Hid (c.ar.all (lu l)=(c.ar.drop j).all (lu l)/\Below wr.heap.size wr wm)) (fun i _=>c.ar.length - (intOf i).toNat)
          case atStart=>exact ⟨0,n0q _,rfl,rfl,bi.o⟩
          case round=>
           clear bi
           rename World=>wm
           obtain ⟨j,hj,rfl,HJ⟩:=hrel;have c3:wr.heap.size<=wm.heap.size:=HJ.o.2.size;have d3:wm.cell? ⟨b6,o6+k*4+3,none⟩=some (.slice mo c.ar.length cm):=(HJ.o.2.cell (p:=⟨b6,o6+k*4+3,none⟩) a7.o.1).trans a7.o.2.2;have k1:b6<wm.heap.size:=ll3 a7.o.1 c3;by_cases ap:j<c.ar.length
           ·obtain ⟨bm,om,va,vh,i4,kn,m0,m1,m2,m3,m4,m5,m6,m7,m8,sa,sh,j1,g3,j2⟩:=(EM.o.keptM (Kp.below (HJ.o.2.mono ac))).atM j ap;subst i4;have bs:=ag sa;have e8:=ag sh;obtain ⟨aa,ca,rfl,-⟩:=sa;obtain ⟨ah,ch,rfl,-,i3,-⟩:=sh;have b1:Hid ((c.ar.drop j).all (lu l)=(lu l c.ar[j]&&(c.ar.drop (j+1)).all (lu l))):=by
             show _=_;rw [List.drop_eq_getElem_cons ap,List.all_cons]
            generalize c.ar[j]=m at*;have cx:Hid (lu l m=(m.args.all (gn l)&&gn l m.ret&&m.hands.all (fun h=>decide (0<=bw l h.da)))):=rfl;have c0:Below wr.heap.size wr (wm.alloc (.cells #[.string m.name,.bool m.static,.slice aa m.args.length ca,.int .i64 m.ret.kind,.string m.ret.da,.int .i64 m.stack,.int .i64 m.locals,.string m.code,.slice ah m.hands.length ch] 159)):=HJ.o.2.alloc c3 _;have d8:Below wr.heap.size wr ((wm.alloc (.cells #[.string m.name,.bool m.static,.slice aa m.args.length ca,.int .i64 m.ret.kind,.string m.ret.da,.int .i64 m.stack,.int .i64 m.locals,.string m.code,.slice ah m.hands.length ch] 159)).alloc (.cells #[.int .i64 m.ret.kind,.string m.ret.da] 123)):=c0.alloc (by simp;omega) _;have ct:=ag (zof (wm.alloc (.cells #[.string m.name,.bool m.static,.slice aa m.args.length ca,.int .i64 m.ret.kind,.string m.ret.da,.int .i64 m.stack,.int .i64 m.locals,.string m.code,.slice ah m.hands.length ch] 159)) (· <B) (· <B) _ _ l m.args (F.o.keptC (Kp.below (c0.mono ac))) (bs.o.keptK (Kp.below (((br wm.heap.size wm).alloc (nlq _) _).mono (lt3 ac c3)))));have cv:=ag (zof ((wm.alloc (.cells #[.string m.name,.bool m.static,.slice aa m.args.length ca,.int .i64 m.ret.kind,.string m.ret.da,.int .i64 m.stack,.int .i64 m.locals,.string m.code,.slice ah m.hands.length ch] 159)).alloc (.cells #[.int .i64 m.ret.kind,.string m.ret.da] 123)) (· <B) (· <wm.heap.size+1+1) _ _ l [m.ret] (F.o.keptC (Kp.below (d8.mono ac))) (one_K (wm.alloc (.cells #[.string m.name,.bool m.static,.slice aa m.args.length ca,.int .i64 m.ret.kind,.string m.ret.da,.int .i64 m.stack,.int .i64 m.locals,.string m.code,.slice ah m.hands.length ch] 159)) m.ret _ (wm.heap.size+1) g3 (by simp)));have co:Hid ([m.ret].all (gn l)=gn l m.ret):=by show _=_;simp
            rw [co.o]at cv;have a5:=ag c0;have ci:=ag d8;have gl:(0:Int)<=j:=by omega
            have gs:(j:Int)<c.ar.length:=by omega
            have d4:Hid (lu l m=false->∀w',Below wr.heap.size wr w'->cb l=5/\Below w.heap.size w w'):=fun h=>O.o (J.o.trans (by rw [HJ.o.1,b1.o,h];simp));clear c0 d8 j1 j2;generalize m.args.all (gn l)=ta at*;generalize gn l m.ret=tr at*;cases ta with
            | false=>
              have D:=ag (d4.o (cx.o.trans (by simp)) _ a5.o);go_wp2_with (first | (go_at_call_of 226 (Value.slice aa m.args.length ca);refine ct.o.mono ?_;rintro r w7 ⟨rfl,rfl⟩));go_ret;exact ⟨by rw [D.o.1];rfl,D.o.2⟩
            | true=>
              cases tr with
              | false=>
                have D:=ag (d4.o (cx.o.trans (by simp)) _ ci.o);go_wp2_with (first | (go_at_call_of 226 (Value.slice aa m.args.length ca);refine ct.o.mono ?_;rintro r w7 ⟨rfl,rfl⟩) | (go_at_call 226;refine cv.o.mono ?_;rintro r w7 ⟨rfl,rfl⟩));go_ret;exact ⟨by rw [D.o.1];rfl,D.o.2⟩
              | true=>
                have f8:((wm.alloc (.cells #[.string m.name,.bool m.static,.slice aa m.args.length ca,.int .i64 m.ret.kind,.string m.ret.da,.int .i64 m.stack,.int .i64 m.locals,.string m.code,.slice ah m.hands.length ch] 159)).alloc (.cells #[.int .i64 m.ret.kind,.string m.ret.da] 123)).cell? ⟨wm.heap.size,8,none⟩=some (.slice ah m.hands.length ch):=by simp [go_sem]
                have i8:Hid (SL 4 RH (· <B) ((wm.alloc (.cells #[.string m.name,.bool m.static,.slice aa m.args.length ca,.int .i64 m.ret.kind,.string m.ret.da,.int .i64 m.stack,.int .i64 m.locals,.string m.code,.slice ah m.hands.length ch] 159)).alloc (.cells #[.int .i64 m.ret.kind,.string m.ret.da] 123)) (.slice ah m.hands.length ch) m.hands):=e8.o.keptH (Kp.below ((((br wm.heap.size wm).alloc (nlq _) _).alloc (by simp) _).mono (lt3 ac c3)));have i9:Hid (SL 4 RC (· <B) ((wm.alloc (.cells #[.string m.name,.bool m.static,.slice aa m.args.length ca,.int .i64 m.ret.kind,.string m.ret.da,.int .i64 m.stack,.int .i64 m.locals,.string m.code,.slice ah m.hands.length ch] 159)).alloc (.cells #[.int .i64 m.ret.kind,.string m.ret.da] 123)) (.slice (some ⟨b6,o6,none⟩) l.length cl) l):=F.o.keptC (Kp.below (ci.o.mono ac));have le:wm.heap.size<((wm.alloc (.cells #[.string m.name,.bool m.static,.slice aa m.args.length ca,.int .i64 m.ret.kind,.string m.ret.da,.int .i64 m.stack,.int .i64 m.locals,.string m.code,.slice ah m.hands.length ch] 159)).alloc (.cells #[.int .i64 m.ret.kind,.string m.ret.da] 123)).heap.size:=by simp;omega
                have dk:Hid (lu l m=m.hands.all (fun h=>decide (0<=bw l h.da))):=cx.o.trans (by simp);unfold maxLen at i3
                go_upto_region 44 with (first | (go_at_call_of 226 (Value.slice aa m.args.length ca);refine ct.o.mono ?_;rintro r w7 ⟨rfl,rfl⟩) | (go_at_call 226;refine cv.o.mono ?_;rintro r w7 ⟨rfl,rfl⟩))
                clear ct cv a5 bs e8 m0 m1 m2 m3 m4 m5 m6 m7 m8 g3 cx co;generalize hW2:((wm.alloc (.cells #[.string m.name,.bool m.static,.slice aa m.args.length ca,.int .i64 m.ret.kind,.string m.ret.da,.int .i64 m.stack,.int .i64 m.locals,.string m.code,.slice ah m.hands.length ch] 159)).alloc (.cells #[.int .i64 m.ret.kind,.string m.ret.da] 123))=W2 at*;clear hW2;go_wp2_with fail;go_loopw [14] (fun i L=>∃q:Nat,q<=m.hands.length/\i=.int .i64 q/\Hid (m.hands.all (fun h=>decide (0<=bw l h.da))=(m.hands.drop q).all (fun h=>decide (0<=bw l h.da)))/\L=W2) (fun i _=>m.hands.length - (intOf i).toNat)
                case atStart=>exact ⟨0,n0q _,rfl,rfl,rfl⟩
                case round=>
                 obtain ⟨q,hq,rfl,HH,rfl⟩:=hrel
                 rename World=>W2
                 by_cases aq:q<m.hands.length
                 ·obtain ⟨bh,oh,ix,k0,y0,y1,y2,y3,z⟩:=i8.o.atH q aq;subst ix;have b0:Hid ((m.hands.drop q).all (fun h=>decide (0<=bw l h.da))=(decide (0<=bw l m.hands[q].da)&&(m.hands.drop (q+1)).all (fun h=>decide (0<=bw l h.da)))):=by
                   show _=_;rw [List.drop_eq_getElem_cons aq,List.all_cons]
                  have an:=ag (zoe W2 (· <B) _ l m.hands[q].da i9.o);have ds:=(zod l m.hands[q].da).1;have dz:=(zod l m.hands[q].da).2;generalize m.hands[q]=x at*;generalize bw l x.da=fa at*;have ei:(0:Int)<=q:=by omega
                  have ej:(q:Int)<m.hands.length:=by omega
                  clear y0 y1 y2 z;by_cases hf:fa<0
                  ·have D:=ag (d4.o (dk.o.trans (HH.o.trans (by rw [b0.o];simp;omega))) _ ci.o);go_wp2_with (first | (go_at_call 184;refine an.o.mono ?_;rintro r w7 ⟨rfl,rfl⟩));go_ret;exact ⟨by rw [D.o.1];rfl,D.o.2⟩
                  have D:Hid (m.hands.all (fun h=>decide (0<=bw l h.da))=(m.hands.drop (q+1)).all (fun h=>decide (0<=bw l h.da))):=HH.o.trans (by
                   rw [b0.o];have:(0:Int)<=fa:=by omega
                   simp [this])
                  go_wp2_with (first | (go_at_call 184;refine an.o.mono ?_;rintro r w7 ⟨rfl,rfl⟩));go_roundw
                  case rel=>exact ⟨q+1,by omega,by go_num,D.o,trivial⟩
                  case measure=>simp [intOf];omega
                 have h4:Hid (lu l m=true):=dk.o.trans (HH.o.trans (by rw [List.drop_of_length_le (by omega)];rfl));have D:Hid (c.ar.all (lu l)=(c.ar.drop (j+1)).all (lu l)/\Below wr.heap.size wr W2):=⟨HJ.o.1.trans (b1.o.trans (by rw [h4.o,Bool.true_and])),ci.o⟩;go_wp2_with fail;go_roundw
                 case rel=>exact ⟨j+1,by omega,by go_num,D.o⟩
                 case measure=>simp [intOf];omega
           have g7:Hid (c.ar.all (lu l)=true):=HJ.o.1.trans (by rw [List.drop_of_length_le (by omega)];rfl);have D:=ag (ad.o (J.o.trans (by rw [a4.o,g7.o];rfl)) _ HJ.o.2);go_wp2_with fail;go_roundw
           case rel=>exact ⟨k+1,by omega,by go_num,D.o⟩
           case measure=>simp [intOf];omega
        have H7:Hid (ev l (q7 l)=true):=zou E G.o.1;have bg:=ag G.o.2;clear G F;go_wp2_with fail;clear E hk I;go_loopw [15] (fun i wr=>∃k:Nat,k<=l.length/\i=.int .i64 k/\Hid ((∀j,j<k->q8 l j=true)/\Below w.heap.size w wr)) (fun i _=>l.length - (intOf i).toNat)
        case atStart=>exact ⟨0,n0q _,rfl,(fun j h=>by omega),bg.o⟩
        case round=>as_aux_lemma=>
         rename World=>wr
         obtain ⟨k,hk,rfl,G⟩:=hrel;have I:w.heap.size<=wr.heap.size:=G.o.2.size;have F:Hid (SL 4 RC (· <B) wr (.slice (some ⟨b6,o6,none⟩) l.length cl) l):=HV.o.keptC (Kp.below (G.o.2.mono hB));by_cases E:k<l.length
         ·have a4:=ag (zon wr B _ l k E F.o (lt3 hB I) hN (fun c hc=>(az.o c hc).2.2.1));obtain ⟨b,off,vf,vm,ak,Z,e0,e1,e2,e3,ef,em,ae,af⟩:=F.o.atC k E;obtain ⟨rfl,rfl⟩:b6=b/\o6=off:=by simpa using ak
          have f6:=(az.o l[k] (gm E)).2.2.2.2.1;have J:Hid (q8 l k=(dc ((ki l k).map (·.name))&&dc (l[k].ar.map (·.name)))):=by show q8 l k=_;rw [q8,zay E]
          have ac:B<=wr.heap.size:=lt3 hB I;have ad:Hid (q8 l k=true->∀w',Below wr.heap.size wr w'->(∀j,j<k+1->q8 l j=true)/\Below w.heap.size w w'):=fun h w' Z=>⟨zow G.o.1 h,G.o.2.trans (Z.mono I)⟩;have O:Hid (q8 l k=false->∀w',Below wr.heap.size wr w'->cb l=6/\Below w.heap.size w w'):=fun h w' Z=>⟨lk8 ai.o H1.o H2.o H3.o H4.o H5.o H6.o H7.o (zov E h),G.o.2.trans (Z.mono I)⟩;generalize l[k]=c at*;generalize ki l k=fs at*;have EM:=ag em;obtain ⟨mo,cm,rfl,-⟩:=em;have al:=ag (And.intro Z e3);have gt:(0:Int)<=k:=by omega
          have a1:(k:Int)<l.length:=by omega
          have cp:Hid (dc (fs.map (·.name))=false->q8 l k=false):=fun h=>J.o.trans (by rw [h];rfl);clear e0 e1 e2 e3 ae af G Z ef ak;go_wp2_with (first | (go_at_call 182;refine a4.o.mono ?_;rintro r V ⟨av,u8,rfl,ay⟩;have N:=ag av;have bb:=ag ay;obtain ⟨a8,c8,rfl,-,gk,-⟩:=ay;clear av));unfold maxLen at gk;clear a4;go_loopw [17] (fun i L=>∃p:Nat,p<=fs.length/\i=.int .i64 p/\Hid (∀(i j:Nat) (hi:i<fs.length) (hj:j<fs.length),j<p->i<j->fs[i].name≠fs[j].name)/\∃n,L=V.drewN n) (fun i _=>fs.length - (intOf i).toNat)
          case atStart=>exact ⟨0,n0q _,rfl,(fun _ _ _ _ h=>by omega),0,rfl⟩
          case round=>
           obtain ⟨p,hp,rfl,HP,nz,rfl⟩:=hrel;by_cases aw:p<fs.length
           ·go_wp2_with fail;go_loopw [18] (fun i L=>∃q:Nat,q<=p/\i=.int .i64 q/\Hid (∀(i:Nat) (hi:i<fs.length),i<q->fs[i].name≠fs[p].name)/\∃n,L=V.drewN n) (fun i _=>p - (intOf i).toNat)
            case atStart=>exact ⟨0,n0q _,rfl,(fun _ _ h=>by omega),nz,rfl⟩
            case round=>
             clear nz;obtain ⟨q,hq,rfl,bn,nz,rfl⟩:=hrel;by_cases aq:q<p
             ·have cc:q<fs.length:=by omega
              obtain ⟨bf,of,rfl,eb,x0,x1,x2,-,-⟩:=bb.o.atF q cc;obtain ⟨d6,eq,b5,f1,y0,y1,y2,-,-⟩:=bb.o.atF p aw;obtain ⟨rfl,rfl⟩:bf=d6/\of=eq:=by simpa using b5
              clear x1 x2 y1 y2 b5;have ei:(0:Int)<=q:=by omega
              have ej:(q:Int)<fs.length:=by omega
              have gx:(0:Int)<=p:=by omega
              have g0:(p:Int)<fs.length:=by omega
              by_cases hs:fs[q].name=fs[p].name
              ·have D:Hid (∀n,cb l=6/\Below w.heap.size w (V.drewN n)):=fun n=>O.o (cp.o (zo0 (fun x=>x.name) fs q p cc aw aq hs)) _ (mp N.o n);have ce:(fs[q].name.toList==fs[p].name.toList)=true:=by rw [hs];simp
               clear hs;go_wp2_with fail;go_quiet (fail);go_wp2_with fail;go_ret;exact ⟨by rw [(D.o 0).1];rfl,mp (D.o nz).2 _⟩
              have D:Hid (∀(i:Nat) (hi:i<fs.length),i<q+1->fs[i].name≠fs[p].name):=fun i hi h=>by
               by_cases eg:i<q
               ·exact bn.o i hi eg
               have:i=q:=by omega
               subst this;exact hs
              have ce:(fs[q].name.toList==fs[p].name.toList)=false:=by rw [beq_eq_false_iff_ne];exact fun e=>hs (zb9 e)
              clear hs;go_wp2_with fail;go_quiet (fail);go_wp2_with fail;go_roundw
              case rel=>exact ⟨q+1,by omega,by go_num,D.o,_,rfl⟩
              case measure=>simp [intOf];omega
             have D:Hid (∀(i j:Nat) (hi:i<fs.length) (hj:j<fs.length),j<p+1->i<j->fs[i].name≠fs[j].name):=fun i j hi hj h1 h2=>by
              by_cases eh:j<p
              ·exact HP.o i j hi hj eh h2
              have:j=p:=by omega
              subst this;exact bn.o i hi (by omega)
             go_wp2_with fail;go_roundw
             case rel=>exact ⟨p+1,by omega,by go_num,D.o,nz,rfl⟩
             case measure=>simp [intOf];omega
           have hm:=ag (zoz (fun x=>x.name) fs fun i j hi hj h=>HP.o i j hi hj (by omega) h);have kx:V.cell? ⟨b6,o6+k*4+3,none⟩=some (.slice mo c.ar.length cm):=(N.o.cell (p:=⟨b6,o6+k*4+3,none⟩) al.o.1).trans al.o.2;have kl:b6<V.heap.size:=ll3 al.o.1 N.o.size;go_wp2_with fail;clear aw hp HP;have c7:Hid (SL 9 RM (· <B) V (.slice mo c.ar.length cm) c.ar):=EM.o.keptM (Kp.below (N.o.mono ac));clear bb;have bb:=ag c7.o;have c9:Hid (dc (c.ar.map (·.name))=false->q8 l k=false):=fun h=>J.o.trans (by rw [h];simp);clear cp;have cp:=ag c9.o;clear c7 c9;go_loopw [20] (fun i L=>∃p:Nat,p<=c.ar.length/\i=.int .i64 p/\Hid (∀(i j:Nat) (hi:i<c.ar.length) (hj:j<c.ar.length),j<p->i<j->c.ar[i].name≠c.ar[j].name)/\∃n,L=V.drewN n) (fun i _=>c.ar.length - (intOf i).toNat)
           case atStart=>exact ⟨0,n0q _,rfl,(fun _ _ _ _ h=>by omega),nz,rfl⟩
           case round=>
            obtain ⟨p,hp,rfl,HP,nz,rfl⟩:=hrel;by_cases aw:p<c.ar.length
            ·go_wp2_with fail;go_loopw [21] (fun i L=>∃q:Nat,q<=p/\i=.int .i64 q/\Hid (∀(i:Nat) (hi:i<c.ar.length),i<q->c.ar[i].name≠c.ar[p].name)/\∃n,L=V.drewN n) (fun i _=>p - (intOf i).toNat)
             case atStart=>exact ⟨0,n0q _,rfl,(fun _ _ h=>by omega),nz,rfl⟩
             case round=>
              clear nz;obtain ⟨q,hq,rfl,bn,nz,rfl⟩:=hrel;by_cases aq:q<p
              ·have cc:q<c.ar.length:=by omega
               obtain ⟨bf,of,va,vh,rfl,eb,x0,x1,x2,x3,x4,x5,x6,x7,x8,-,-,-,-,-⟩:=bb.o.atM q cc;obtain ⟨d6,eq,ka,kb,b5,f1,y0,y1,y2,y3,y4,y5,y6,y7,y8,-,-,-,-,-⟩:=bb.o.atM p aw;obtain ⟨rfl,rfl⟩:bf=d6/\of=eq:=by simpa using b5
               clear x1 x2 x3 x4 x5 x6 x7 x8 y1 y2 y3 y4 y5 y6 y7 y8 b5;have ei:(0:Int)<=q:=by omega
               have ej:(q:Int)<c.ar.length:=by omega
               have gx:(0:Int)<=p:=by omega
               have g0:(p:Int)<c.ar.length:=by omega
               by_cases hs:c.ar[q].name=c.ar[p].name
               ·have D:Hid (∀n,cb l=6/\Below w.heap.size w (V.drewN n)):=fun n=>O.o (cp.o (zo0 (fun x=>x.name) c.ar q p cc aw aq hs)) _ (mp N.o n);have ce:(c.ar[q].name.toList==c.ar[p].name.toList)=true:=by rw [hs];simp
                clear hs;go_wp2_with fail;go_quiet (fail);go_wp2_with fail;go_ret;exact ⟨by rw [(D.o 0).1];rfl,mp (D.o nz).2 _⟩
               have D:Hid (∀(i:Nat) (hi:i<c.ar.length),i<q+1->c.ar[i].name≠c.ar[p].name):=fun i hi h=>by
                by_cases eg:i<q
                ·exact bn.o i hi eg
                have:i=q:=by omega
                subst this;exact hs
               have ce:(c.ar[q].name.toList==c.ar[p].name.toList)=false:=by rw [beq_eq_false_iff_ne];exact fun e=>hs (zb9 e)
               clear hs;go_wp2_with fail;go_quiet (fail);go_wp2_with fail;go_roundw
               case rel=>exact ⟨q+1,by omega,by go_num,D.o,_,rfl⟩
               case measure=>simp [intOf];omega
              have D:Hid (∀(i j:Nat) (hi:i<c.ar.length) (hj:j<c.ar.length),j<p+1->i<j->c.ar[i].name≠c.ar[j].name):=fun i j hi hj h1 h2=>by
               by_cases eh:j<p
               ·exact HP.o i j hi hj eh h2
               have:j=p:=by omega
               subst this;exact bn.o i hi (by omega)
              go_wp2_with fail;go_roundw
              case rel=>exact ⟨p+1,by omega,by go_num,D.o,nz,rfl⟩
              case measure=>simp [intOf];omega
            have ho:=ag (zoz (fun x=>x.name) c.ar fun i j hi hj h=>HP.o i j hi hj (by omega) h);have D:=ag (ad.o (J.o.trans (by rw [hm.o,ho.o];rfl)) _ (mp N.o nz));go_wp2_with fail;go_roundw
            case rel=>exact ⟨k+1,by omega,by go_num,D.o⟩
            case measure=>simp [intOf];omega
         have H8:Hid (ev l (q8 l)=true):=zou E G.o.1;have hh:=ag G.o.2;clear G F;go_wp2_with fail;clear E hk I;go_loopw [22] (fun i wr=>∃k:Nat,k<=l.length/\i=.int .i64 k/\Hid ((∀j,j<k->q9 l j=true)/\Below w.heap.size w wr)) (fun i _=>l.length - (intOf i).toNat)
         case atStart=>exact ⟨0,n0q _,rfl,(fun j h=>by omega),hh.o⟩
         case round=>as_aux_lemma=>
          rename World=>wr
          obtain ⟨k,hk,rfl,G⟩:=hrel;have I:w.heap.size<=wr.heap.size:=G.o.2.size;have F:Hid (SL 4 RC (· <B) wr (.slice (some ⟨b6,o6,none⟩) l.length cl) l):=HV.o.keptC (Kp.below (G.o.2.mono hB));by_cases E:k<l.length
          ·have b3:=ag (zom wr B _ l k E F.o (lt3 hB I) hN);obtain ⟨b,off,vf,vm,ak,Z,e0,e1,e2,e3,ef,em,ae,af⟩:=F.o.atC k E;obtain ⟨rfl,rfl⟩:b6=b/\o6=off:=by simpa using ak
           have f6:=(az.o l[k] (gm E)).2.2.2.2.1;have J:Hid (q9 l k=(nc l k).dropLast.all fun u=>l[k].ar.all fun x=>(b8 l u).ar.all fun y=>ir x y):=by show q9 l k=_;rw [q9,zay E]
           have ac:B<=wr.heap.size:=lt3 hB I;have ad:Hid (q9 l k=true->∀w',Below wr.heap.size wr w'->(∀j,j<k+1->q9 l j=true)/\Below w.heap.size w w'):=fun h w' Z=>⟨zow G.o.1 h,G.o.2.trans (Z.mono I)⟩;have O:Hid (q9 l k=false->∀w',Below wr.heap.size wr w'->cb l=4/\Below w.heap.size w w'):=fun h w' Z=>⟨lk9 ai.o H1.o H2.o H3.o H4.o H5.o H6.o H7.o H8.o (zov E h),G.o.2.trans (Z.mono I)⟩;obtain ⟨gv,jn⟩:=zoh E;have hw:=ag gv;generalize l[k]=c at*;generalize nc l k=up at*;have EM:=ag em;obtain ⟨mo,cm,rfl,-⟩:=em;have al:=ag (And.intro Z e3);have gt:(0:Int)<=k:=by omega
           have a1:(k:Int)<l.length:=by omega
           clear e0 e1 e2 e3 ae af G Z ef ak gv;go_wp2_with (first | (go_at_call 225;refine b3.o.mono ?_;rintro r V ⟨av,u8,rfl,ay⟩;have N:=ag av;have h5:=ag ay;obtain ⟨a8,c8,rfl,-⟩:=ay;clear av));clear b3;go_loopw [24] (fun i L=>∃p:Nat,p<=up.dropLast.length/\i=.int .i64 p/\Hid (up.dropLast.all (fun u=>c.ar.all fun x=>(b8 l u).ar.all fun y=>ir x y)=(up.dropLast.drop p).all (fun u=>c.ar.all fun x=>(b8 l u).ar.all fun y=>ir x y)/\Below V.heap.size V L)) (fun i _=>up.dropLast.length - (intOf i).toNat)
           case atStart=>exact ⟨0,n0q _,rfl,rfl,br _ _⟩
           case round=>as_aux_lemma=>
            rename World=>L
            obtain ⟨p,hp,rfl,HP⟩:=hrel;have k5:up.dropLast.length=up.length - 1:=List.length_dropLast;by_cases aw:p<up.dropLast.length
            ·have g1:p<up.length:=by omega
             have i7:(p:Int)<(up.length:Int) - 1:=by omega
             obtain ⟨bu,ou,rfl,f4,eu⟩:=h5.o.atO p g1;have c4:=hw.o up[p] (gm g1);have ff:Hid ((up.dropLast.drop p).all (fun u=>c.ar.all fun x=>(b8 l u).ar.all fun y=>ir x y)=((fun u=>c.ar.all fun x=>(b8 l u).ar.all fun y=>ir x y) up[p]&&(up.dropLast.drop (p+1)).all (fun u=>c.ar.all fun x=>(b8 l u).ar.all fun y=>ir x y))):=by show _=_;rw [List.drop_eq_getElem_cons aw,List.all_cons,List.getElem_dropLast]
             obtain ⟨b,off,lk,lm,ak,fv,-,-,-,fl,-,cy,-,-⟩:=(F.o.keptC (Kp.below (N.o.mono ac))).atC up[p] c4;obtain ⟨rfl,rfl⟩:b6=b/\o6=off:=by simpa using ak
             rw [<-zay c4]at cy;obtain ⟨jz,h9,rfl,-⟩:=id cy;have f7:=(az.o l[up[p]] (gm c4)).2.2.2.2.1;rw [<-zay c4]at f7;have d1:=ag (And.intro f4 eu);have a2:=ag (And.intro fv fl);have g4:=ag cy;have g5:=ag (EM.o.keptM (Kp.below (N.o.mono ac)));clear eu fl cy ak fv f4;generalize up[p]=uu at*;have dg:Hid ((up.dropLast.drop p).all (fun u=>c.ar.all fun x=>(b8 l u).ar.all fun y=>ir x y)=((c.ar.all fun x=>(b8 l uu).ar.all fun y=>ir x y)&&(up.dropLast.drop (p+1)).all (fun u=>c.ar.all fun x=>(b8 l u).ar.all fun y=>ir x y))):=ff.o;clear ff;generalize (b8 l uu).ar=ms at*;have lf:(0:Int)<=uu:=by omega
             have lg:(uu:Int)<l.length:=by omega
             have gx:(0:Int)<=p:=by omega
             have g0:(p:Int)<up.length:=by omega
             have hz:Hid ((c.ar.all (fun x=>ms.all fun y=>ir x y))=false->∀w',Below V.heap.size V w'->cb l=4/\Below w.heap.size w w'):=fun h w' Z=>O.o (J.o.trans (by rw [HP.o.1,dg.o,h,Bool.false_and])) w' (N.o.trans (Z.mono N.o.size));have bk:=ag HP.o.2;go_wp2_with fail;go_loopw [25] (fun i L=>∃j:Nat,j<=c.ar.length/\i=.int .i64 j/\Hid (c.ar.all (fun x=>ms.all fun y=>ir x y)=(c.ar.drop j).all (fun x=>ms.all fun y=>ir x y)/\Below V.heap.size V L)) (fun i _=>c.ar.length - (intOf i).toNat)
             case atStart=>exact ⟨0,n0q _,rfl,rfl,bk.o⟩
             case round=>as_aux_lemma=>
              clear bk
              rename World=>L
              obtain ⟨j,hj,rfl,HJ⟩:=hrel;have ax:V.heap.size<=L.heap.size:=HJ.o.2.size;have d3:L.cell? ⟨b6,o6+k*4+3,none⟩=some (.slice mo c.ar.length cm):=(HJ.o.2.cell (p:=⟨b6,o6+k*4+3,none⟩) (ll3 al.o.1 N.o.size)).trans ((N.o.cell (p:=⟨b6,o6+k*4+3,none⟩) al.o.1).trans al.o.2);have b4:b6<L.heap.size:=ll3 a2.o.1 ax;by_cases ap:j<c.ar.length
              ·have e9:Hid ((c.ar.drop j).all (fun x=>ms.all fun y=>ir x y)=((ms.all fun y=>ir c.ar[j] y)&&(c.ar.drop (j+1)).all (fun x=>ms.all fun y=>ir x y))):=by
                show _=_;rw [List.drop_eq_getElem_cons ap,List.all_cons]
               have hy:Hid ((ms.all fun y=>ir c.ar[j] y)=false->∀w',Below V.heap.size V w'->cb l=4/\Below w.heap.size w w'):=fun h=>hz.o (by rw [HJ.o.1,e9.o,h,Bool.false_and]);have bk:=ag HJ.o.2;go_wp2_with fail;clear d3 b4 ax;go_loopw [26] (fun i L=>∃q:Nat,q<=ms.length/\i=.int .i64 q/\Hid ((ms.all fun y=>ir c.ar[j] y)=((ms.drop q).all fun y=>ir c.ar[j] y)/\Below V.heap.size V L)) (fun i _=>ms.length - (intOf i).toNat)
               case atStart=>exact ⟨0,n0q _,rfl,rfl,bk.o⟩
               case round=>as_aux_lemma=>
                clear bk
                rename World=>L
                obtain ⟨q,hq,rfl,aj⟩:=hrel;have ax:V.heap.size<=L.heap.size:=aj.o.2.size;have c2:B<=V.heap.size:=lt3 ac N.o.size;have d3:L.cell? ⟨b6,o6+k*4+3,none⟩=some (.slice mo c.ar.length cm):=(aj.o.2.cell (p:=⟨b6,o6+k*4+3,none⟩) (ll3 al.o.1 N.o.size)).trans ((N.o.cell (p:=⟨b6,o6+k*4+3,none⟩) al.o.1).trans al.o.2);have ih:L.cell? ⟨b6,o6+uu*4+3,none⟩=some (.slice jz ms.length h9):=(aj.o.2.cell (p:=⟨b6,o6+uu*4+3,none⟩) a2.o.1).trans a2.o.2;have du:L.cell? ⟨bu,ou+p,none⟩=some (.int .i64 uu):=(aj.o.2.cell (p:=⟨bu,ou+p,none⟩) d1.o.1).trans d1.o.2;have b4:b6<L.heap.size:=ll3 a2.o.1 ax;have f5:bu<L.heap.size:=ll3 d1.o.1 ax;by_cases aq:q<ms.length
                ·obtain ⟨bx,ox,va,vh,i5,k2,x0,x1,x2,x3,x4,x5,x6,x7,x8,sa,sh,-,-,-⟩:=(g5.o.keptM (Kp.below (aj.o.2.mono c2))).atM j ap;obtain ⟨kt,oy,ka,kb,i6,k3,y0,y1,y2,y3,y4,y5,y6,y7,y8,g2,j0,-,-,-⟩:=(g4.o.keptM (Kp.below (aj.o.2.mono c2))).atM q aq;subst i5 i6;have bs:=ag sa;have df:=ag g2;obtain ⟨aa,ca,rfl,-⟩:=sa;obtain ⟨ah,ch,rfl,-⟩:=sh;obtain ⟨fi,fj,rfl,-⟩:=g2;obtain ⟨h7,h8,rfl,-⟩:=j0;have b0:Hid (((ms.drop q).all fun y=>ir c.ar[j] y)=(ir c.ar[j] ms[q]&&(ms.drop (q+1)).all fun y=>ir c.ar[j] y)):=by
                  show _=_;rw [List.drop_eq_getElem_cons aq,List.all_cons]
                 have c6:Hid (ir c.ar[j] ms[q]=false->∀w',Below V.heap.size V w'->cb l=4/\Below w.heap.size w w'):=fun h=>hy.o (by rw [aj.o.1,b0.o,h,Bool.false_and]);have bl:Hid (ir c.ar[j] ms[q]=true->((ms.all fun y=>ir c.ar[j] y)=((ms.drop (q+1)).all fun y=>ir c.ar[j] y))):=fun h=>aj.o.1.trans (by rw [b0.o,h,Bool.true_and]);generalize hxx:c.ar[j]=x at*;generalize ms[q]=y at*;clear hxx;have gl:(0:Int)<=j:=by omega
                 have gs:(j:Int)<c.ar.length:=by omega
                 have ei:(0:Int)<=q:=by omega
                 have ej:(q:Int)<ms.length:=by omega
                 have bi:=ag aj.o.2
                 go_upto_region 83 with fail
                 go_cut [27,28] (fun j3 j4 W=>∃X Y,j3=.pointer (some ⟨X,0,none⟩)/\j4=.pointer (some ⟨Y,0,none⟩)/\W.heap[X]? =some (.cells #[.string x.name,.bool x.static,.slice aa x.args.length ca,.int .i64 x.ret.kind,.string x.ret.da,.int .i64 x.stack,.int .i64 x.locals,.string x.code,.slice ah x.hands.length ch] 159 (0,0))/\W.heap[Y]? =some (.cells #[.string y.name,.bool y.static,.slice fi y.args.length fj,.int .i64 y.ret.kind,.string y.ret.da,.int .i64 y.stack,.int .i64 y.locals,.string y.code,.slice h7 y.hands.length h8] 159 (0,0))/\Below L.heap.size L W)
                 case first=>
                  have F1:∀(cs:Array Value) (t:Nat) (C:Obj),(((L.alloc (.cells cs t)).alloc C).drew).heap[L.heap.size]? =some (.cells cs t (0,0)):=fun cs t C=>(Below.heap_alloc _ _ _ (by simp)).trans (heap_alloc_new L _);have F2:∀(A:Obj) (cs:Array Value) (t:Nat),(((L.alloc A).alloc (.cells cs t)).drew).heap[L.heap.size+1]? =some (.cells cs t (0,0)):=fun A cs t=>by
                   have:=heap_alloc_new (L.alloc A) (.cells cs t);have e:(L.alloc A).heap.size=L.heap.size+1:=by simp
                   rw [e]at this;exact this
                  have F3:∀A C,Below L.heap.size L (((L.alloc A).alloc C).drew):=fun A C=>(((br _ _).alloc (nlq _) _).alloc (by simp) _).drew;have e4:=ag F1;have e5:=ag F2;have e6:=ag F3;clear F1 F2 F3
                  go_region_held3 (fun W'=>∀p:Addr,p.block<L.heap.size->W'.cell? p=L.cell? p) (exact fun p hp=>Below.cell (B:=L.heap.size) (w:=L) (by repeat (first | exact br _ _ | refine Below.drew ?_ | refine Below.alloc ?_ (by simp<;>omega) _ | refine Below.setCell ?_ (by simp) _)) hp) (fail)
                  all_goals
                   go_wp2_with fail
                   go_meet
                   first
                    | exact ⟨L.heap.size,L.heap.size+1,rfl,rfl,e4.o _ _ _,e5.o _ _ _,e6.o _ _⟩
                    | exact ⟨L.heap.size+1,L.heap.size,rfl,rfl,e5.o _ _ _,e4.o _ _ _,e6.o _ _⟩
                 case rest=>
                  as_aux_lemma=>
                   clear x0 x1 x2 x3 x4 x5 x6 x7 x8 y0 y1 y2 y3 y4 y5 y6 y7 y8 d3 ih du b4 f5
                   rename World=>W
                   obtain ⟨X,Y,rfl,rfl,hX,hY,c1⟩:=hcut;have X0:=ba hX 0 (x:=.string x.name) rfl;have X1:=ba hX 1 (x:=.bool x.static) rfl;have X2:=ba hX 2 (x:=.slice aa x.args.length ca) rfl;have X3:=ba hX 3 (x:=.int .i64 x.ret.kind) rfl;have X4:=ba hX 4 (x:=.string x.ret.da) rfl;have Y0:=ba hY 0 (x:=.string y.name) rfl;have Y1:=ba hY 1 (x:=.bool y.static) rfl;have Y2:=ba hY 2 (x:=.slice fi y.args.length fj) rfl;have Y3:=ba hY 3 (x:=.int .i64 y.ret.kind) rfl;have Y4:=ba hY 4 (x:=.string y.ret.da) rfl;have ky:=bz hX;have kz:=bz hY;have c5:Below V.heap.size V W:=bi.o.trans (c1.mono ax);have ez:Hid (∀n,Below V.heap.size V (W.drewN n)):=fun n=>mp c5 n;have bc:=ag (zos W (· <B) (· <B) _ _ x.args y.args (bs.o.keptK (Kp.below (c1.mono (lt3 c2 ax)))) (df.o.keptK (Kp.below (c1.mono (lt3 c2 ax)))));have lc:=kindNeq x.ret y.ret;have k9:=kindNeqG;have a9:Hid (ir x y=(!decide (x.name=y.name)||(!x.static&& !y.static&&cz dw x.args y.args&&dw x.ret y.ret))):=rfl;have dl:Hid (ir x y=true->∀n,((ms.all fun z=>ir x z)=((ms.drop (q+1)).all fun z=>ir x z))/\Below V.heap.size V (W.drewN n)):=fun h n=>⟨bl.o h,ez.o n⟩;have a3:Hid (ir x y=false->∀n,cb l=4/\Below w.heap.size w (W.drewN n)):=fun h n=>c6.o h _ (ez.o n);clear hX hY c1 c5 bs df c6 bl bi;generalize cz dw x.args y.args=ek at*;generalize dw x.ret y.ret=er at*;generalize x.static=sx at*;generalize y.static=sy at*;by_cases hn:x.name=y.name
                   rotate_left
                   ·have ce:(x.name.toList==y.name.toList)=false:=beq_eq_false_iff_ne.2 fun e=>hn (zb9 e);have D:=ag (dl.o (a9.o.trans (by simp [hn])) 0);clear hn bc;go_wp2_with fail;go_roundw
                    case rel=>exact ⟨q+1,by omega,by go_num,D.o⟩
                    case measure=>simp [intOf];omega
                   have ce:(x.name.toList==y.name.toList)=true:=by rw [hn];simp
                   cases sx with
                   | true=>
                     have D:=ag (a3.o (a9.o.trans (by simp [hn])) 0);clear hn bc;go_wp2_with fail;go_ret;exact ⟨by rw [D.o.1];rfl,D.o.2⟩
                   | false=>
                     cases sy with
                     | true=>
                       have D:=ag (a3.o (a9.o.trans (by simp [hn])) 0);clear hn bc;go_wp2_with fail;go_ret;exact ⟨by rw [D.o.1];rfl,D.o.2⟩
                     | false=>
                       cases ek with
                       | false=>
                         have D:=ag (a3.o (a9.o.trans (by simp [hn])));clear hn;go_wp2_with (first | (go_at_call 227;refine bc.o.mono ?_;rintro r w9 ⟨rfl,n9,rfl⟩));go_ret;exact ⟨by rw [(D.o 0).1];rfl,(D.o _).2⟩
                       | true=>
                         cases er with
                         | false=>
                           have D:=ag (a3.o (a9.o.trans (by simp [hn])));clear hn;go_wp2_with (first | (go_at_call 227;refine bc.o.mono ?_;rintro r w9 ⟨rfl,n9,rfl⟩));go_ret;exact ⟨by rw [(D.o 0).1];rfl,(D.o _).2⟩
                         | true=>
                           have D:=ag (dl.o (a9.o.trans (by simp [hn])));clear hn;go_wp2_with (first | (go_at_call 227;refine bc.o.mono ?_;rintro r w9 ⟨rfl,n9,rfl⟩));go_roundw
                           case rel=>exact ⟨q+1,by omega,by go_num,D.o _⟩
                           case measure=>simp [intOf];omega
                have g9:Hid ((ms.all fun y=>ir c.ar[j] y)=true):=aj.o.1.trans (by rw [List.drop_of_length_le (by omega)];rfl);have D:Hid (c.ar.all (fun x=>ms.all fun y=>ir x y)=(c.ar.drop (j+1)).all (fun x=>ms.all fun y=>ir x y)/\Below V.heap.size V L):=⟨HJ.o.1.trans (e9.o.trans (by rw [g9.o,Bool.true_and])),aj.o.2⟩;go_wp2_with fail;go_roundw
                case rel=>exact ⟨j+1,by omega,by go_num,D.o⟩
                case measure=>simp [intOf];omega
              have g6:Hid (c.ar.all (fun x=>ms.all fun y=>ir x y)=true):=HJ.o.1.trans (by rw [List.drop_of_length_le (by omega)];rfl);have D:Hid (up.dropLast.all (fun u=>c.ar.all fun x=>(b8 l u).ar.all fun y=>ir x y)=(up.dropLast.drop (p+1)).all (fun u=>c.ar.all fun x=>(b8 l u).ar.all fun y=>ir x y)/\Below V.heap.size V L):=⟨HP.o.1.trans (dg.o.trans (by rw [g6.o,Bool.true_and])),HJ.o.2⟩;go_wp2_with fail;go_roundw
              case rel=>exact ⟨p+1,by omega,by go_num,D.o⟩
              case measure=>simp [intOf];omega
            have g8:Hid (up.dropLast.all (fun u=>c.ar.all fun x=>(b8 l u).ar.all fun y=>ir x y)=true):=HP.o.1.trans (by rw [List.drop_of_length_le (by omega)];rfl);have D:=ag (ad.o (J.o.trans g8.o) _ (N.o.trans (HP.o.2.mono N.o.size)));have i7:¬(p:Int)<(up.length:Int) - 1:=by omega
            go_wp2_with fail;go_roundw
            case rel=>exact ⟨k+1,by omega,by go_num,D.o⟩
            case measure=>simp [intOf];omega
          have H9:Hid (ev l (q9 l)=true):=zou E G.o.1;have D:=ag (lk10 ai.o H1.o H2.o H3.o H4.o H5.o H6.o H7.o H8.o H9.o);go_wp2_with fail;go_ret;exact ⟨by rw [D.o];rfl,G.o.2⟩
end Go.Proofs.YtjdnmblggdobgaaGreat
