import Derived.Test.YtjdnmblggdobgaaGreatJLCkDLPu4
import Derived.Test.YtjdnmblggdobgaaGreatJRefNameRefClass
import Derived.Deep.RegionWith
import Derived.Deep.DeepCutAuto
import Derived.BigRegion
import Derived.Deep.RegionHeld3
set_option maxHeartbeats 16000000
set_option maxRecDepth 100000
namespace Go.Proofs.YtjdnmblggdobgaaGreat
open Go.RowKit Go.Sort
theorem zqp (w:World) (B:Nat) (l:List am) (v:Value) (hv:SL 4 RC (· <B) w v l) (hB:B<=w.heap.size):
 Calls Tryz.prog 181 #[v] w fun r w'=>r=.returned (.int .i64 (ck l))/\Below w.heap.size w w':=by
 have HV:=ag hv;have ds:=ag (zqo w B l v hv hB);obtain ⟨ao,cl,rfl,-⟩:=hv;by_cases hc:dw l=0
 rotate_left
 ·have D:Hid (ck l=dw l):=by show ck l=dw l;simp [ck,hc]
  generalize dw l=ec at*;go_enter Tryz.func181,Tryz.ntmps181;go_wp2_with (first | (go_at_call 224;refine ds.o.mono ?_;rintro r w7 ⟨rfl,a0⟩));go_ret;exact ⟨by rw [D.o];rfl,a0⟩
 obtain ⟨hN,b4⟩:=zgm hc;have az:=ag b4;have ai:=ag hc;rw [hc]at ds;clear hc b4;go_enter Tryz.func181,Tryz.ntmps181;go_wp2_with (first | (go_at_call 224;refine ds.o.mono ?_;rintro r w0 ⟨rfl,fl⟩;have g9:=ag fl;clear fl));go_loopw [4] (fun i wr=>∃k:Nat,k<=l.length/\i=.int .i64 k/\Hid ((∀j,j<k->q1 l j=true)/\Below w.heap.size w wr)) (fun i _=>l.length - (intOf i).toNat)
 case atStart=>exact ⟨0,n0q _,rfl,(fun j h=>by omega),g9.o⟩
 case round=>as_aux_lemma=>
  rename World=>wr
  obtain ⟨k,hk,rfl,G⟩:=hrel;have I:w.heap.size<=wr.heap.size:=G.o.2.size;have F:Hid (SL 4 RC (· <B) wr (.slice ao l.length cl) l):=HV.o.keptC (Kp.below (G.o.2.mono hB));by_cases E:k<l.length
  ·obtain ⟨b,off,vf,vm,rfl,Z,e0,e1,e2,e3,ef,em,ae,af⟩:=F.o.atC k E;clear ef em e1 e2 e3 ae af;have an:=ag (zoe wr (· <B) _ l l[k].name F.o);have J:Hid (q1 l k=decide (b9 l l[k].name=k)):=by show q1 l k=_;rw [q1,zay E]
   have dk:=(zod l l[k].name).1;have dl:=(zod l l[k].name).2;generalize b9 l l[k].name=fa at*;by_cases hs:fa=k
   ·subst hs;have hz:Hid ((∀j,j<k+1->q1 l j=true)/\Below w.heap.size w wr):=⟨zow G.o.1 (by rw [J.o];simp),G.o.2⟩;go_wp2_with (first | (go_at_call 184;refine an.o.mono ?_;rintro r w7 ⟨rfl,rfl⟩));go_roundw
    case rel=>exact ⟨k+1,by omega,by go_num,hz.o⟩
    case measure=>simp [intOf];omega
   have D:=ag (lk1 ai.o (zov E (by rw [J.o];simp [hs])));go_wp2_with (first | (go_at_call 184;refine an.o.mono ?_;rintro r w7 ⟨rfl,rfl⟩));go_ret;exact ⟨by rw [D.o];rfl,G.o.2⟩
  have H1:Hid (ew l (q1 l)=true):=zou E G.o.1;have a5:=ag G.o.2;have ci:=ag (zoe wr (· <B) _ l fd F.o);have a6:=ag (zoe wr (· <B) _ l fw F.o);have f1:=(zod l fd).1;have f2:=(zod l fd).2;have fv:=(zod l fw).1;have fz:=(zod l fw).2;have d1:Hid (q2 l=(decide (0<=b9 l fd)&&decide (0<=b9 l fw))):=rfl;have e6:Hid (q6 l=(decide ((cb l (b9 l fw).toNat).bp=fd)&&(match j5 l (b9 l fw).toNat with | []=>false | f::_=>decide (f.kind.kind=1)))):=rfl;have ho:Hid (∀w M v,SL 4 RC M w v l->Calls Tryz.prog 184 #[v,.string fw] w fun r w'=>r=.returned (.int .i64 (b9 l fw))/\w'=w):=fun w M v h=>zoe w M v l fw h;generalize b9 l fd=ft at*;generalize b9 l fw=fe at*;clear G F;by_cases ht:ft<0
  ·have D:=ag (lk2 ai.o H1.o (by rw [d1.o];simp;omega));go_wp2_with (first | (go_at_call_of 184 (Value.string ⟨#[79,98,106,101,99,116]⟩);refine ci.o.mono ?_;rintro r w7 ⟨rfl,rfl⟩) | (go_at_call 184;refine a6.o.mono ?_;rintro r w7 ⟨rfl,rfl⟩));go_ret;exact ⟨by rw [D.o];rfl,a5.o⟩
  by_cases he:fe<0
  ·have D:=ag (lk2 ai.o H1.o (by rw [d1.o];simp;omega));go_wp2_with (first | (go_at_call_of 184 (Value.string ⟨#[79,98,106,101,99,116]⟩);refine ci.o.mono ?_;rintro r w7 ⟨rfl,rfl⟩) | (go_at_call 184;refine a6.o.mono ?_;rintro r w7 ⟨rfl,rfl⟩));go_ret;exact ⟨by rw [D.o];rfl,a5.o⟩
  have H2:Hid (q2 l=true):=d1.o.trans (by simp;omega);go_wp2_with (first | (go_at_call_of 184 (Value.string ⟨#[79,98,106,101,99,116]⟩);refine ci.o.mono ?_;rintro r w7 ⟨rfl,rfl⟩) | (go_at_call 184;refine a6.o.mono ?_;rintro r w7 ⟨rfl,rfl⟩));clear ci a6 f1 f2 E hk I;go_loopw [5] (fun i wr=>∃k:Nat,k<=l.length/\i=.int .i64 k/\Hid ((∀j,j<k->q3 l j=true)/\Below w.heap.size w wr)) (fun i _=>l.length - (intOf i).toNat)
  case atStart=>exact ⟨0,n0q _,rfl,(fun j h=>by omega),a5.o⟩
  case round=>as_aux_lemma=>
   rename World=>wr
   obtain ⟨k,hk,rfl,G⟩:=hrel;have I:w.heap.size<=wr.heap.size:=G.o.2.size;have F:Hid (SL 4 RC (· <B) wr (.slice ao l.length cl) l):=HV.o.keptC (Kp.below (G.o.2.mono hB));by_cases E:k<l.length
   ·obtain ⟨b,off,vf,vm,rfl,Z,e0,e1,e2,e3,ef,em,ae,af⟩:=F.o.atC k E;clear ef em e2 e3 ae af;have J:Hid (q3 l k=upperB l[k]):=by show q3 l k=_;rw [q3,zay E]
    generalize l[k]=c at*;have ad:Hid (upperB c=true->(∀j,j<k+1->q3 l j=true)/\∀n,Below w.heap.size w (wr.drewN n)):=fun h=>⟨zow G.o.1 (J.o.trans h),fun n=>ll G.o.2 n⟩;have O:Hid (upperB c=false->ck l=4/\∀n,Below w.heap.size w (wr.drewN n)):=fun h=>⟨lk3 ai.o H1.o H2.o (zov E (J.o.trans h)),fun n=>ll G.o.2 n⟩;by_cases h1:c.name=fd
    ·have t1:c.name.toList= [79,98,106,101,99,116]:=by rw [h1];exact zdt
     by_cases h2:c.bp=⟨#[]⟩
     ·have t2:=zcb h2;have D:=ag (ad.o (by simp [upperB,h1,h2]));clear h1 h2;go_wp2_with fail;go_quiet (fail);go_wp2_with fail;go_roundw
      case rel=>exact ⟨k+1,by omega,by go_num,D.o.1,D.o.2 _⟩
      case measure=>simp [intOf];omega
     have t2:=zox h2;have D:=ag (O.o (by simp [upperB,h1,h2]));clear h1 h2;go_wp2_with fail;go_quiet (fail);go_wp2_with fail;go_ret;exact ⟨by rw [D.o.1];rfl,D.o.2 _⟩
    have t1:(c.name.toList== [79,98,106,101,99,116])=false:=beq_eq_false_iff_ne.2 fun e=>h1 (zb9 (e.trans zdt.symm));by_cases h2:c.bp=⟨#[]⟩
    ·have t2:=zcb h2;have D:=ag (O.o (by simp [upperB,h1,h2]));clear h1 h2;go_wp2_with fail;go_quiet (fail);go_wp2_with fail;go_ret;exact ⟨by rw [D.o.1];rfl,D.o.2 _⟩
    have t2:=zox h2;have D:=ag (ad.o (by simp [upperB,h1,h2]));clear h1 h2;go_wp2_with fail;go_quiet (fail);go_wp2_with fail;go_roundw
    case rel=>exact ⟨k+1,by omega,by go_num,D.o.1,D.o.2 _⟩
    case measure=>simp [intOf];omega
   have H3:Hid (ew l (q3 l)=true):=zou E G.o.1;have ha:=ag G.o.2;clear G F;go_wp2_with fail;clear E hk I;go_loopw [6] (fun i wr=>∃k:Nat,k<=l.length/\i=.int .i64 k/\Hid ((∀j,j<k->q4 l j=true)/\Below w.heap.size w wr)) (fun i _=>l.length - (intOf i).toNat)
   case atStart=>exact ⟨0,n0q _,rfl,(fun j h=>by omega),ha.o⟩
   case round=>as_aux_lemma=>
    rename World=>wr
    obtain ⟨k,hk,rfl,G⟩:=hrel;have I:w.heap.size<=wr.heap.size:=G.o.2.size;have F:Hid (SL 4 RC (· <B) wr (.slice ao l.length cl) l):=HV.o.keptC (Kp.below (G.o.2.mono hB));by_cases E:k<l.length
    ·obtain ⟨b,off,vf,vm,rfl,Z,e0,e1,e2,e3,ef,em,ae,af⟩:=F.o.atC k E;clear ef em e0 e2 e3 ae af;have J:Hid (q4 l k=(decide (l[k].bp=(⟨#[]⟩:ByteArray))||decide (0<=b9 l l[k].bp))):=by show q4 l k=_;rw [q4,zay E]
     have an:=ag (zoe wr (· <B) _ l l[k].bp F.o);have dk:=(zod l l[k].bp).1;have dl:=(zod l l[k].bp).2;generalize l[k]=c at*;generalize b9 l c.bp=fa at*;have ad:Hid (q4 l k=true->(∀j,j<k+1->q4 l j=true)/\Below w.heap.size w wr):=fun h=>⟨zow G.o.1 h,G.o.2⟩;have O:Hid (q4 l k=false->ck l=5/\Below w.heap.size w wr):=fun h=>⟨lk4 ai.o H1.o H2.o H3.o (zov E h),G.o.2⟩;by_cases h1:c.bp=⟨#[]⟩
     ·have t1:=zcb h1;have D:=ag (ad.o (J.o.trans (by simp [h1])));clear h1 an;go_wp2_with fail;go_roundw
      case rel=>exact ⟨k+1,by omega,by go_num,D.o⟩
      case measure=>simp [intOf];omega
     have t1:=zox h1;by_cases h2:fa<0
     ·have D:=ag (O.o (J.o.trans (by simp [h1];omega)));clear h1;go_wp2_with (first | (go_at_call 184;refine an.o.mono ?_;rintro r w7 ⟨rfl,rfl⟩));go_ret;exact ⟨by rw [D.o.1];rfl,D.o.2⟩
     have D:=ag (ad.o (J.o.trans (by simp [h1];omega)));clear h1;go_wp2_with (first | (go_at_call 184;refine an.o.mono ?_;rintro r w7 ⟨rfl,rfl⟩));go_roundw
     case rel=>exact ⟨k+1,by omega,by go_num,D.o⟩
     case measure=>simp [intOf];omega
    have H4:Hid (ew l (q4 l)=true):=zou E G.o.1;have hd:=ag G.o.2;clear G F;go_wp2_with fail;clear E hk I;go_loopw [7] (fun i wr=>∃k:Nat,k<=l.length/\i=.int .i64 k/\Hid ((∀j,j<k->q5 l j=true)/\Below w.heap.size w wr)) (fun i _=>l.length - (intOf i).toNat)
    case atStart=>exact ⟨0,n0q _,rfl,(fun j h=>by omega),hd.o⟩
    case round=>as_aux_lemma=>
     rename World=>wr
     obtain ⟨k,hk,rfl,G⟩:=hrel;have I:w.heap.size<=wr.heap.size:=G.o.2.size;have F:Hid (SL 4 RC (· <B) wr (.slice ao l.length cl) l):=HV.o.keptC (Kp.below (G.o.2.mono hB));by_cases E:k<l.length
     ·have b1:=ag (zom wr B _ l k E F.o (lt3 hB I) hN);have J:Hid (q5 l k=decide (0<(mt l k).length)):=rfl;have kk:=(zoh E).2;have ad:Hid (q5 l k=true->(∀j,j<k+1->q5 l j=true)/\∀w',Below wr.heap.size wr w'->Below w.heap.size w w'):=fun h=>⟨zow G.o.1 h,fun w' Z=>G.o.2.trans (Z.mono I)⟩;have O:Hid (q5 l k=false->ck l=4/\∀w',Below wr.heap.size wr w'->Below w.heap.size w w'):=fun h=>⟨lk5 ai.o H1.o H2.o H3.o H4.o (zov E h),fun w' Z=>G.o.2.trans (Z.mono I)⟩;generalize mt l k=up at*;by_cases h2:up.length=0
      ·have D:=ag (O.o (J.o.trans (by simp [h2])));have ih:(up.length:Int)=0:=by omega
       go_wp2_with (first | (go_at_call 225;refine b1.o.mono ?_;rintro r w7 ⟨a0,u7,rfl,el⟩;obtain ⟨au,cu,rfl,-⟩:=el;have bg:=ag a0;clear a0));go_ret;exact ⟨by rw [D.o.1];rfl,D.o.2 _ bg.o⟩
      have D:=ag (ad.o (J.o.trans (by simp;omega)));have ih:¬(up.length:Int)=0:=by omega
      go_wp2_with (first | (go_at_call 225;refine b1.o.mono ?_;rintro r w7 ⟨a0,u7,rfl,el⟩;obtain ⟨au,cu,rfl,-⟩:=el;have bg:=ag a0;clear a0));go_roundw
      case rel=>exact ⟨k+1,by omega,by go_num,D.o.1,D.o.2 _ bg.o⟩
      case measure=>simp [intOf];omega
     have H5:Hid (ew l (q5 l)=true):=zou E G.o.1;have k3:=ag G.o.2;obtain ⟨en,rfl⟩:=Int.eq_ofNat_of_zero_le (show 0<=fe by omega);have ea:en<l.length:=by omega
     have a6:=ag (ho.o wr (· <B) _ F.o);have a4:=ag (zon wr B _ l en ea F.o (lt3 hB I) hN (fun c hc=>(az.o c hc).2.2.1));have J:Hid (q6 l=(decide (l[en].bp=fd)&&(match j5 l en with | []=>false | f::_=>decide (f.kind.kind=1)))):=e6.o.trans (by rw [show ((en:Int)).toNat=en from rfl,zay ea]);have hr:Hid (∀w',Below wr.heap.size wr w'->Below w.heap.size w w'):=fun w' Z=>G.o.2.trans (Z.mono I);generalize j5 l en=fs at*;have lm:(0:Int)<=en:=by omega
     have ln:(en:Int)<l.length:=by omega
     have h5:=ag F.o;have hh:=ag (lt3 hB I);clear G F e6 ht he fv fz
     go_upto_region 28 with (first | (go_at_call 184;refine a6.o.mono ?_;rintro r w7 ⟨rfl,rfl⟩) | (go_at_call 182;refine a4.o.mono ?_;rintro r w8 ⟨ar,u8,rfl,ay⟩;have eq:=ag ar;have co:=ag ay;obtain ⟨a8,c8,rfl,-⟩:=ay;clear ar))
     clear E hk I;obtain ⟨b6,o6,vf,vm,rfl,Z,e0,e1,e2,e3,ef,em,ae,af⟩:=(h5.o.keptC (Kp.below (eq.o.mono hh.o))).atC en ea;clear ef em e0 e2 e3 ae af;have ce:=ag (hr.o _ eq.o);have O:Hid (q6 l=false->ck l=4):=fun h=>lk6 ai.o H1.o H2.o H3.o H4.o H5.o h;generalize l[en]=c at*;by_cases h1:c.bp=fd
     rotate_left
     ·have t1:(c.bp.toList== [79,98,106,101,99,116])=false:=beq_eq_false_iff_ne.2 fun e=>h1 (zb9 (e.trans zdt.symm));have D:=ag (O.o (J.o.trans (by simp [h1])));clear h1 co;go_wp2_with fail;go_ret;exact ⟨by rw [D.o];rfl,ce.o⟩
     have t1:c.bp.toList= [79,98,106,101,99,116]:=by rw [h1];exact zdt
     cases fs with
     | nil=>
       have D:=ag (O.o (J.o.trans (by simp)));clear h1 co;go_wp2_with fail;go_ret;exact ⟨by rw [D.o];rfl,ce.o⟩
     | cons f fs=>
       obtain ⟨bf,of,rfl,d8,y0,y1,y2,-,-⟩:=co.o.atF 0 (by simp);have k0:w8.cell? ⟨bf,of+1,none⟩=some (.int .i64 f.kind.kind):=by simpa using y1
       have c7:Hid (q6 l=decide (f.kind.kind=1)):=J.o.trans (by simp [h1]);clear y0 y1 y2 h1 co J;generalize f.kind.kind=fk at*;have jn:(0:Int)<((fs.length+1:Nat):Int):=by omega
       have f7:(((fs.length+1:Nat):Int)==0)=false:=beq_eq_false_iff_ne.2 (by omega);have gb:((fs.length:Int)+1==0)=false:=beq_eq_false_iff_ne.2 (by omega);by_cases a1:fk=1
       rotate_left
       ·have D:=ag (O.o (c7.o.trans (by simp [a1])));have lp:(fk != 1)=true:=by simp [a1]
        clear a1;go_wp2_with fail;go_ret;exact ⟨by rw [D.o];rfl,ce.o⟩
       subst a1;have H6:Hid (q6 l=true):=c7.o.trans (by simp);go_wp2_with fail;clear k0 t1 jn f7 gb e1;go_loopw [10] (fun i wr=>∃k:Nat,k<=l.length/\i=.int .i64 k/\Hid ((∀j,j<k->q7 l j=true)/\Below w.heap.size w wr)) (fun i _=>l.length - (intOf i).toNat)
       case atStart=>exact ⟨0,n0q _,rfl,(fun j h=>by omega),ce.o⟩
       case round=>as_aux_lemma=>
        rename World=>wr
        obtain ⟨k,hk,rfl,G⟩:=hrel;have I:w.heap.size<=wr.heap.size:=G.o.2.size;have F:Hid (SL 4 RC (· <B) wr (.slice (some ⟨b6,o6,none⟩) l.length cl) l):=HV.o.keptC (Kp.below (G.o.2.mono hB));by_cases E:k<l.length
        ·obtain ⟨b,off,vf,vm,ak,Z,e0,e1,e2,e3,ef,em,ae,af⟩:=F.o.atC k E;obtain ⟨rfl,rfl⟩:b6=b/\o6=off:=by simpa using ak
         clear ak;have J:Hid (q7 l k=(l[k].fields.all (fun f=>gn l f.kind)&&l[k].ax.all (ld l))):=by show q7 l k=_;rw [q7,zay E]
         have ac:B<=wr.heap.size:=lt3 hB I;have ad:Hid (q7 l k=true->∀w',Below wr.heap.size wr w'->(∀j,j<k+1->q7 l j=true)/\Below w.heap.size w w'):=fun h w' Z=>⟨zow G.o.1 h,G.o.2.trans (Z.mono I)⟩;have O:Hid (q7 l k=false->∀w',Below wr.heap.size wr w'->ck l=5/\Below w.heap.size w w'):=fun h w' Z=>⟨lk7 ai.o H1.o H2.o H3.o H4.o H5.o H6.o (zov E h),G.o.2.trans (Z.mono I)⟩;have lg:=(az.o l[k] (gm E)).2.2.1;have f5:=(az.o l[k] (gm E)).2.2.2.2.1;generalize l[k]=c at*;have EF:=ag ef;have EM:=ag em;obtain ⟨fo,cf,rfl,-⟩:=ef;obtain ⟨mo,cm,rfl,-⟩:=em;have a7:=ag (And.intro Z (And.intro e2 e3));have gs:(0:Int)<=k:=by omega
         have a1:(k:Int)<l.length:=by omega
         clear e0 e1 e2 e3 ae af G Z;go_wp2_with fail;go_loopw [11] (fun i wq=>∃j:Nat,j<=c.fields.length/\i=.int .i64 j/\Hid (c.fields.all (fun f=>gn l f.kind)=(c.fields.drop j).all (fun f=>gn l f.kind)/\Below wr.heap.size wr wq)) (fun i _=>c.fields.length - (intOf i).toNat)
         case atStart=>exact ⟨0,n0q _,rfl,rfl,br _ _⟩
         case round=>
          rename World=>wq
          obtain ⟨j,hj,rfl,HJ⟩:=hrel;have ei:wr.heap.size<=wq.heap.size:=HJ.o.2.size;have d2:wq.cell? ⟨b6,o6+k*4+2,none⟩=some (.slice fo c.fields.length cf):=(HJ.o.2.cell (p:=⟨b6,o6+k*4+2,none⟩) a7.o.1).trans a7.o.2.1;have ix:b6<wq.heap.size:=ll3 a7.o.1 ei;by_cases ap:j<c.fields.length
          ·obtain ⟨bf,of,jz,d8,y0,y1,y2,-,z2⟩:=(EF.o.keptF (Kp.below (HJ.o.2.mono ac))).atF j ap;subst jz;have bz:Hid ((c.fields.drop j).all (fun f=>gn l f.kind)=(gn l c.fields[j].kind&&(c.fields.drop (j+1)).all (fun f=>gn l f.kind))):=by
            show _=_;rw [List.drop_eq_getElem_cons ap,List.all_cons]
           generalize c.fields[j]=x at*;have d6:Below wr.heap.size wr (wq.alloc (.cells #[.int .i64 x.kind.kind,.string x.kind.db] 123)):=HJ.o.2.alloc ei _;have b0:=ag (zof (wq.alloc (.cells #[.int .i64 x.kind.kind,.string x.kind.db] 123)) (· <B) (· <wq.heap.size+1) _ _ l [x.kind] (F.o.keptC (Kp.below (d6.mono ac))) (one_K wq x.kind _ wq.heap.size z2 rfl));have cj:Hid ([x.kind].all (gn l)=gn l x.kind):=by show _=_;simp
           rw [cj.o]at b0;have es:=ag d6;have gk:(0:Int)<=j:=by omega
           have gl:(j:Int)<c.fields.length:=by omega
           clear d6 y0 z2;cases hx:gn l x.kind with
           | true=>
             rw [hx]at b0;have D:Hid (c.fields.all (fun f=>gn l f.kind)=(c.fields.drop (j+1)).all (fun f=>gn l f.kind)/\Below wr.heap.size wr (wq.alloc (.cells #[.int .i64 x.kind.kind,.string x.kind.db] 123))):=⟨HJ.o.1.trans (bz.o.trans (by rw [hx,Bool.true_and])),es.o⟩;clear hx;go_wp2_with (first | (go_at_call 226;refine b0.o.mono ?_;rintro r w7 ⟨rfl,rfl⟩));go_roundw
             case rel=>exact ⟨j+1,by omega,by go_num,D.o⟩
             case measure=>simp [intOf];omega
           | false=>
             rw [hx]at b0;have D:=ag (O.o (J.o.trans (by rw [HJ.o.1,bz.o,hx];simp)) _ es.o);clear hx;go_wp2_with (first | (go_at_call 226;refine b0.o.mono ?_;rintro r w7 ⟨rfl,rfl⟩));go_ret;exact ⟨by rw [D.o.1];rfl,D.o.2⟩
          have a4:Hid (c.fields.all (fun f=>gn l f.kind)=true):=HJ.o.1.trans (by rw [List.drop_of_length_le (by omega)];rfl);have bi:=ag HJ.o.2;clear HJ;go_wp2_with fail;clear ap hj ei d2 ix;go_loopw [12] (fun i wm=>∃j:Nat,j<=c.ax.length/\i=.int .i64 j/\Hid (c.ax.all (ld l)=(c.ax.drop j).all (ld l)/\Below wr.heap.size wr wm)) (fun i _=>c.ax.length - (intOf i).toNat)
          case atStart=>exact ⟨0,n0q _,rfl,rfl,bi.o⟩
          case round=>
           clear bi
           rename World=>wm
           obtain ⟨j,hj,rfl,HJ⟩:=hrel;have c1:wr.heap.size<=wm.heap.size:=HJ.o.2.size;have d3:wm.cell? ⟨b6,o6+k*4+3,none⟩=some (.slice mo c.ax.length cm):=(HJ.o.2.cell (p:=⟨b6,o6+k*4+3,none⟩) a7.o.1).trans a7.o.2.2;have k9:b6<wm.heap.size:=ll3 a7.o.1 c1;by_cases ap:j<c.ax.length
           ·obtain ⟨bm,om,va,vh,j1,k2,m0,m1,m2,m3,m4,m5,m6,m7,m8,sa,sh,ks,g2,kt⟩:=(EM.o.keptM (Kp.below (HJ.o.2.mono ac))).atM j ap;subst j1;have bs:=ag sa;have e7:=ag sh;obtain ⟨aa,ca,rfl,-⟩:=sa;obtain ⟨ah,ch,rfl,-,j0,-⟩:=sh;have bz:Hid ((c.ax.drop j).all (ld l)=(ld l c.ax[j]&&(c.ax.drop (j+1)).all (ld l))):=by
             show _=_;rw [List.drop_eq_getElem_cons ap,List.all_cons]
            generalize c.ax[j]=m at*;have ct:Hid (ld l m=(m.args.all (gn l)&&gn l m.ret&&m.hands.all (fun h=>decide (0<=b9 l h.db)))):=rfl;have cx:Below wr.heap.size wr (wm.alloc (.cells #[.string m.name,.bool m.static,.slice aa m.args.length ca,.int .i64 m.ret.kind,.string m.ret.db,.int .i64 m.stack,.int .i64 m.locals,.string m.code,.slice ah m.hands.length ch] 159)):=HJ.o.2.alloc c1 _;have d5:Below wr.heap.size wr ((wm.alloc (.cells #[.string m.name,.bool m.static,.slice aa m.args.length ca,.int .i64 m.ret.kind,.string m.ret.db,.int .i64 m.stack,.int .i64 m.locals,.string m.code,.slice ah m.hands.length ch] 159)).alloc (.cells #[.int .i64 m.ret.kind,.string m.ret.db] 123)):=cx.alloc (by simp;omega) _;have cp:=ag (zof (wm.alloc (.cells #[.string m.name,.bool m.static,.slice aa m.args.length ca,.int .i64 m.ret.kind,.string m.ret.db,.int .i64 m.stack,.int .i64 m.locals,.string m.code,.slice ah m.hands.length ch] 159)) (· <B) (· <B) _ _ l m.args (F.o.keptC (Kp.below (cx.mono ac))) (bs.o.keptK (Kp.below (((br wm.heap.size wm).alloc (nlq _) _).mono (lt3 ac c1)))));have cr:=ag (zof ((wm.alloc (.cells #[.string m.name,.bool m.static,.slice aa m.args.length ca,.int .i64 m.ret.kind,.string m.ret.db,.int .i64 m.stack,.int .i64 m.locals,.string m.code,.slice ah m.hands.length ch] 159)).alloc (.cells #[.int .i64 m.ret.kind,.string m.ret.db] 123)) (· <B) (· <wm.heap.size+1+1) _ _ l [m.ret] (F.o.keptC (Kp.below (d5.mono ac))) (one_K (wm.alloc (.cells #[.string m.name,.bool m.static,.slice aa m.args.length ca,.int .i64 m.ret.kind,.string m.ret.db,.int .i64 m.stack,.int .i64 m.locals,.string m.code,.slice ah m.hands.length ch] 159)) m.ret _ (wm.heap.size+1) g2 (by simp)));have cj:Hid ([m.ret].all (gn l)=gn l m.ret):=by show _=_;simp
            rw [cj.o]at cr;have a5:=ag cx;have cc:=ag d5;have gk:(0:Int)<=j:=by omega
            have gl:(j:Int)<c.ax.length:=by omega
            have d0:Hid (ld l m=false->∀w',Below wr.heap.size wr w'->ck l=5/\Below w.heap.size w w'):=fun h=>O.o (J.o.trans (by rw [HJ.o.1,bz.o,h];simp));clear cx d5 ks kt;generalize m.args.all (gn l)=ta at*;generalize gn l m.ret=tr at*;cases ta with
            | false=>
              have D:=ag (d0.o (ct.o.trans (by simp)) _ a5.o);go_wp2_with (first | (go_at_call_of 226 (Value.slice aa m.args.length ca);refine cp.o.mono ?_;rintro r w7 ⟨rfl,rfl⟩));go_ret;exact ⟨by rw [D.o.1];rfl,D.o.2⟩
            | true=>
              cases tr with
              | false=>
                have D:=ag (d0.o (ct.o.trans (by simp)) _ cc.o);go_wp2_with (first | (go_at_call_of 226 (Value.slice aa m.args.length ca);refine cp.o.mono ?_;rintro r w7 ⟨rfl,rfl⟩) | (go_at_call 226;refine cr.o.mono ?_;rintro r w7 ⟨rfl,rfl⟩));go_ret;exact ⟨by rw [D.o.1];rfl,D.o.2⟩
              | true=>
                have f8:((wm.alloc (.cells #[.string m.name,.bool m.static,.slice aa m.args.length ca,.int .i64 m.ret.kind,.string m.ret.db,.int .i64 m.stack,.int .i64 m.locals,.string m.code,.slice ah m.hands.length ch] 159)).alloc (.cells #[.int .i64 m.ret.kind,.string m.ret.db] 123)).cell? ⟨wm.heap.size,8,none⟩=some (.slice ah m.hands.length ch):=by simp [go_sem]
                have ka:Hid (SL 4 RH (· <B) ((wm.alloc (.cells #[.string m.name,.bool m.static,.slice aa m.args.length ca,.int .i64 m.ret.kind,.string m.ret.db,.int .i64 m.stack,.int .i64 m.locals,.string m.code,.slice ah m.hands.length ch] 159)).alloc (.cells #[.int .i64 m.ret.kind,.string m.ret.db] 123)) (.slice ah m.hands.length ch) m.hands):=e7.o.keptH (Kp.below ((((br wm.heap.size wm).alloc (nlq _) _).alloc (by simp) _).mono (lt3 ac c1)));have kb:Hid (SL 4 RC (· <B) ((wm.alloc (.cells #[.string m.name,.bool m.static,.slice aa m.args.length ca,.int .i64 m.ret.kind,.string m.ret.db,.int .i64 m.stack,.int .i64 m.locals,.string m.code,.slice ah m.hands.length ch] 159)).alloc (.cells #[.int .i64 m.ret.kind,.string m.ret.db] 123)) (.slice (some ⟨b6,o6,none⟩) l.length cl) l):=F.o.keptC (Kp.below (cc.o.mono ac));have lw:wm.heap.size<((wm.alloc (.cells #[.string m.name,.bool m.static,.slice aa m.args.length ca,.int .i64 m.ret.kind,.string m.ret.db,.int .i64 m.stack,.int .i64 m.locals,.string m.code,.slice ah m.hands.length ch] 159)).alloc (.cells #[.int .i64 m.ret.kind,.string m.ret.db] 123)).heap.size:=by simp;omega
                have df:Hid (ld l m=m.hands.all (fun h=>decide (0<=b9 l h.db))):=ct.o.trans (by simp);unfold maxLen at j0
                go_upto_region 44 with (first | (go_at_call_of 226 (Value.slice aa m.args.length ca);refine cp.o.mono ?_;rintro r w7 ⟨rfl,rfl⟩) | (go_at_call 226;refine cr.o.mono ?_;rintro r w7 ⟨rfl,rfl⟩))
                clear cp cr a5 bs e7 m0 m1 m2 m3 m4 m5 m6 m7 m8 g2 ct cj;generalize hW2:((wm.alloc (.cells #[.string m.name,.bool m.static,.slice aa m.args.length ca,.int .i64 m.ret.kind,.string m.ret.db,.int .i64 m.stack,.int .i64 m.locals,.string m.code,.slice ah m.hands.length ch] 159)).alloc (.cells #[.int .i64 m.ret.kind,.string m.ret.db] 123))=W2 at*;clear hW2;go_wp2_with fail;go_loopw [14] (fun i L=>∃q:Nat,q<=m.hands.length/\i=.int .i64 q/\Hid (m.hands.all (fun h=>decide (0<=b9 l h.db))=(m.hands.drop q).all (fun h=>decide (0<=b9 l h.db)))/\L=W2) (fun i _=>m.hands.length - (intOf i).toNat)
                case atStart=>exact ⟨0,n0q _,rfl,rfl,rfl⟩
                case round=>
                 obtain ⟨q,hq,rfl,HH,rfl⟩:=hrel
                 rename World=>W2
                 by_cases aq:q<m.hands.length
                 ·obtain ⟨bh,oh,it,k8,y0,y1,y2,y3,z⟩:=ka.o.atH q aq;subst it;have bw:Hid ((m.hands.drop q).all (fun h=>decide (0<=b9 l h.db))=(decide (0<=b9 l m.hands[q].db)&&(m.hands.drop (q+1)).all (fun h=>decide (0<=b9 l h.db)))):=by
                   show _=_;rw [List.drop_eq_getElem_cons aq,List.all_cons]
                  have an:=ag (zoe W2 (· <B) _ l m.hands[q].db kb.o);have dk:=(zod l m.hands[q].db).1;have dl:=(zod l m.hands[q].db).2;generalize m.hands[q]=x at*;generalize b9 l x.db=fa at*;have eg:(0:Int)<=q:=by omega
                  have eh:(q:Int)<m.hands.length:=by omega
                  clear y0 y1 y2 z;by_cases hf:fa<0
                  ·have D:=ag (d0.o (df.o.trans (HH.o.trans (by rw [bw.o];simp;omega))) _ cc.o);go_wp2_with (first | (go_at_call 184;refine an.o.mono ?_;rintro r w7 ⟨rfl,rfl⟩));go_ret;exact ⟨by rw [D.o.1];rfl,D.o.2⟩
                  have D:Hid (m.hands.all (fun h=>decide (0<=b9 l h.db))=(m.hands.drop (q+1)).all (fun h=>decide (0<=b9 l h.db))):=HH.o.trans (by
                   rw [bw.o];have:(0:Int)<=fa:=by omega
                   simp [this])
                  go_wp2_with (first | (go_at_call 184;refine an.o.mono ?_;rintro r w7 ⟨rfl,rfl⟩));go_roundw
                  case rel=>exact ⟨q+1,by omega,by go_num,D.o,trivial⟩
                  case measure=>simp [intOf];omega
                 have h3:Hid (ld l m=true):=df.o.trans (HH.o.trans (by rw [List.drop_of_length_le (by omega)];rfl));have D:Hid (c.ax.all (ld l)=(c.ax.drop (j+1)).all (ld l)/\Below wr.heap.size wr W2):=⟨HJ.o.1.trans (bz.o.trans (by rw [h3.o,Bool.true_and])),cc.o⟩;go_wp2_with fail;go_roundw
                 case rel=>exact ⟨j+1,by omega,by go_num,D.o⟩
                 case measure=>simp [intOf];omega
           have g6:Hid (c.ax.all (ld l)=true):=HJ.o.1.trans (by rw [List.drop_of_length_le (by omega)];rfl);have D:=ag (ad.o (J.o.trans (by rw [a4.o,g6.o];rfl)) _ HJ.o.2);go_wp2_with fail;go_roundw
           case rel=>exact ⟨k+1,by omega,by go_num,D.o⟩
           case measure=>simp [intOf];omega
        have H7:Hid (ew l (q7 l)=true):=zou E G.o.1;have bg:=ag G.o.2;clear G F;go_wp2_with fail;clear E hk I;go_loopw [15] (fun i wr=>∃k:Nat,k<=l.length/\i=.int .i64 k/\Hid ((∀j,j<k->q8 l j=true)/\Below w.heap.size w wr)) (fun i _=>l.length - (intOf i).toNat)
        case atStart=>exact ⟨0,n0q _,rfl,(fun j h=>by omega),bg.o⟩
        case round=>as_aux_lemma=>
         rename World=>wr
         obtain ⟨k,hk,rfl,G⟩:=hrel;have I:w.heap.size<=wr.heap.size:=G.o.2.size;have F:Hid (SL 4 RC (· <B) wr (.slice (some ⟨b6,o6,none⟩) l.length cl) l):=HV.o.keptC (Kp.below (G.o.2.mono hB));by_cases E:k<l.length
         ·have a4:=ag (zon wr B _ l k E F.o (lt3 hB I) hN (fun c hc=>(az.o c hc).2.2.1));obtain ⟨b,off,vf,vm,ak,Z,e0,e1,e2,e3,ef,em,ae,af⟩:=F.o.atC k E;obtain ⟨rfl,rfl⟩:b6=b/\o6=off:=by simpa using ak
          have f5:=(az.o l[k] (gm E)).2.2.2.2.1;have J:Hid (q8 l k=(de ((j5 l k).map (·.name))&&de (l[k].ax.map (·.name)))):=by show q8 l k=_;rw [q8,zay E]
          have ac:B<=wr.heap.size:=lt3 hB I;have ad:Hid (q8 l k=true->∀w',Below wr.heap.size wr w'->(∀j,j<k+1->q8 l j=true)/\Below w.heap.size w w'):=fun h w' Z=>⟨zow G.o.1 h,G.o.2.trans (Z.mono I)⟩;have O:Hid (q8 l k=false->∀w',Below wr.heap.size wr w'->ck l=6/\Below w.heap.size w w'):=fun h w' Z=>⟨lk8 ai.o H1.o H2.o H3.o H4.o H5.o H6.o H7.o (zov E h),G.o.2.trans (Z.mono I)⟩;generalize l[k]=c at*;generalize j5 l k=fs at*;have EM:=ag em;obtain ⟨mo,cm,rfl,-⟩:=em;have al:=ag (And.intro Z e3);have gs:(0:Int)<=k:=by omega
          have a1:(k:Int)<l.length:=by omega
          have cn:Hid (de (fs.map (·.name))=false->q8 l k=false):=fun h=>J.o.trans (by rw [h];rfl);clear e0 e1 e2 e3 ae af G Z ef ak;go_wp2_with (first | (go_at_call 182;refine a4.o.mono ?_;rintro r V ⟨ar,u8,rfl,ay⟩;have N:=ag ar;have bb:=ag ay;obtain ⟨a8,c8,rfl,-,gg,-⟩:=ay;clear ar));unfold maxLen at gg;clear a4;go_loopw [17] (fun i L=>∃p:Nat,p<=fs.length/\i=.int .i64 p/\Hid (∀(i j:Nat) (hi:i<fs.length) (hj:j<fs.length),j<p->i<j->fs[i].name≠fs[j].name)/\∃n,L=V.drewN n) (fun i _=>fs.length - (intOf i).toNat)
          case atStart=>exact ⟨0,n0q _,rfl,(fun _ _ _ _ h=>by omega),0,rfl⟩
          case round=>
           obtain ⟨p,hp,rfl,HP,nz,rfl⟩:=hrel;by_cases av:p<fs.length
           ·go_wp2_with fail;go_loopw [18] (fun i L=>∃q:Nat,q<=p/\i=.int .i64 q/\Hid (∀(i:Nat) (hi:i<fs.length),i<q->fs[i].name≠fs[p].name)/\∃n,L=V.drewN n) (fun i _=>p - (intOf i).toNat)
            case atStart=>exact ⟨0,n0q _,rfl,(fun _ _ h=>by omega),nz,rfl⟩
            case round=>
             clear nz;obtain ⟨q,hq,rfl,bn,nz,rfl⟩:=hrel;by_cases aq:q<p
             ·have b5:q<fs.length:=by omega
              obtain ⟨bf,of,rfl,d8,x0,x1,x2,-,-⟩:=bb.o.atF q b5;obtain ⟨d4,ej,b3,f0,y0,y1,y2,-,-⟩:=bb.o.atF p av;obtain ⟨rfl,rfl⟩:bf=d4/\of=ej:=by simpa using b3
              clear x1 x2 y1 y2 b3;have eg:(0:Int)<=q:=by omega
              have eh:(q:Int)<fs.length:=by omega
              have gv:(0:Int)<=p:=by omega
              have gw:(p:Int)<fs.length:=by omega
              by_cases hs:fs[q].name=fs[p].name
              ·have D:Hid (∀n,ck l=6/\Below w.heap.size w (V.drewN n)):=fun n=>O.o (cn.o (zo0 (fun x=>x.name) fs q p b5 av aq hs)) _ (ll N.o n);have b7:(fs[q].name.toList==fs[p].name.toList)=true:=by rw [hs];simp
               clear hs;go_wp2_with fail;go_quiet (fail);go_wp2_with fail;go_ret;exact ⟨by rw [(D.o 0).1];rfl,ll (D.o nz).2 _⟩
              have D:Hid (∀(i:Nat) (hi:i<fs.length),i<q+1->fs[i].name≠fs[p].name):=fun i hi h=>by
               by_cases eb:i<q
               ·exact bn.o i hi eb
               have:i=q:=by omega
               subst this;exact hs
              have b7:(fs[q].name.toList==fs[p].name.toList)=false:=by rw [beq_eq_false_iff_ne];exact fun e=>hs (zb9 e)
              clear hs;go_wp2_with fail;go_quiet (fail);go_wp2_with fail;go_roundw
              case rel=>exact ⟨q+1,by omega,by go_num,D.o,_,rfl⟩
              case measure=>simp [intOf];omega
             have D:Hid (∀(i j:Nat) (hi:i<fs.length) (hj:j<fs.length),j<p+1->i<j->fs[i].name≠fs[j].name):=fun i j hi hj h1 h2=>by
              by_cases ee:j<p
              ·exact HP.o i j hi hj ee h2
              have:j=p:=by omega
              subst this;exact bn.o i hi (by omega)
             go_wp2_with fail;go_roundw
             case rel=>exact ⟨p+1,by omega,by go_num,D.o,nz,rfl⟩
             case measure=>simp [intOf];omega
           have hl:=ag (zoz (fun x=>x.name) fs fun i j hi hj h=>HP.o i j hi hj (by omega) h);have k5:V.cell? ⟨b6,o6+k*4+3,none⟩=some (.slice mo c.ax.length cm):=(N.o.cell (p:=⟨b6,o6+k*4+3,none⟩) al.o.1).trans al.o.2;have k1:b6<V.heap.size:=ll3 al.o.1 N.o.size;go_wp2_with fail;clear av hp HP;have c5:Hid (SL 9 RM (· <B) V (.slice mo c.ax.length cm) c.ax):=EM.o.keptM (Kp.below (N.o.mono ac));clear bb;have bb:=ag c5.o;have c6:Hid (de (c.ax.map (·.name))=false->q8 l k=false):=fun h=>J.o.trans (by rw [h];simp);clear cn;have cn:=ag c6.o;clear c5 c6;go_loopw [20] (fun i L=>∃p:Nat,p<=c.ax.length/\i=.int .i64 p/\Hid (∀(i j:Nat) (hi:i<c.ax.length) (hj:j<c.ax.length),j<p->i<j->c.ax[i].name≠c.ax[j].name)/\∃n,L=V.drewN n) (fun i _=>c.ax.length - (intOf i).toNat)
           case atStart=>exact ⟨0,n0q _,rfl,(fun _ _ _ _ h=>by omega),nz,rfl⟩
           case round=>
            obtain ⟨p,hp,rfl,HP,nz,rfl⟩:=hrel;by_cases av:p<c.ax.length
            ·go_wp2_with fail;go_loopw [21] (fun i L=>∃q:Nat,q<=p/\i=.int .i64 q/\Hid (∀(i:Nat) (hi:i<c.ax.length),i<q->c.ax[i].name≠c.ax[p].name)/\∃n,L=V.drewN n) (fun i _=>p - (intOf i).toNat)
             case atStart=>exact ⟨0,n0q _,rfl,(fun _ _ h=>by omega),nz,rfl⟩
             case round=>
              clear nz;obtain ⟨q,hq,rfl,bn,nz,rfl⟩:=hrel;by_cases aq:q<p
              ·have b5:q<c.ax.length:=by omega
               obtain ⟨bf,of,va,vh,rfl,d8,x0,x1,x2,x3,x4,x5,x6,x7,x8,-,-,-,-,-⟩:=bb.o.atM q b5;obtain ⟨d4,ej,ky,kz,b3,f0,y0,y1,y2,y3,y4,y5,y6,y7,y8,-,-,-,-,-⟩:=bb.o.atM p av;obtain ⟨rfl,rfl⟩:bf=d4/\of=ej:=by simpa using b3
               clear x1 x2 x3 x4 x5 x6 x7 x8 y1 y2 y3 y4 y5 y6 y7 y8 b3;have eg:(0:Int)<=q:=by omega
               have eh:(q:Int)<c.ax.length:=by omega
               have gv:(0:Int)<=p:=by omega
               have gw:(p:Int)<c.ax.length:=by omega
               by_cases hs:c.ax[q].name=c.ax[p].name
               ·have D:Hid (∀n,ck l=6/\Below w.heap.size w (V.drewN n)):=fun n=>O.o (cn.o (zo0 (fun x=>x.name) c.ax q p b5 av aq hs)) _ (ll N.o n);have b7:(c.ax[q].name.toList==c.ax[p].name.toList)=true:=by rw [hs];simp
                clear hs;go_wp2_with fail;go_quiet (fail);go_wp2_with fail;go_ret;exact ⟨by rw [(D.o 0).1];rfl,ll (D.o nz).2 _⟩
               have D:Hid (∀(i:Nat) (hi:i<c.ax.length),i<q+1->c.ax[i].name≠c.ax[p].name):=fun i hi h=>by
                by_cases eb:i<q
                ·exact bn.o i hi eb
                have:i=q:=by omega
                subst this;exact hs
               have b7:(c.ax[q].name.toList==c.ax[p].name.toList)=false:=by rw [beq_eq_false_iff_ne];exact fun e=>hs (zb9 e)
               clear hs;go_wp2_with fail;go_quiet (fail);go_wp2_with fail;go_roundw
               case rel=>exact ⟨q+1,by omega,by go_num,D.o,_,rfl⟩
               case measure=>simp [intOf];omega
              have D:Hid (∀(i j:Nat) (hi:i<c.ax.length) (hj:j<c.ax.length),j<p+1->i<j->c.ax[i].name≠c.ax[j].name):=fun i j hi hj h1 h2=>by
               by_cases ee:j<p
               ·exact HP.o i j hi hj ee h2
               have:j=p:=by omega
               subst this;exact bn.o i hi (by omega)
              go_wp2_with fail;go_roundw
              case rel=>exact ⟨p+1,by omega,by go_num,D.o,nz,rfl⟩
              case measure=>simp [intOf];omega
            have hm:=ag (zoz (fun x=>x.name) c.ax fun i j hi hj h=>HP.o i j hi hj (by omega) h);have D:=ag (ad.o (J.o.trans (by rw [hl.o,hm.o];rfl)) _ (ll N.o nz));go_wp2_with fail;go_roundw
            case rel=>exact ⟨k+1,by omega,by go_num,D.o⟩
            case measure=>simp [intOf];omega
         have H8:Hid (ew l (q8 l)=true):=zou E G.o.1;have hg:=ag G.o.2;clear G F;go_wp2_with fail;clear E hk I;go_loopw [22] (fun i wr=>∃k:Nat,k<=l.length/\i=.int .i64 k/\Hid ((∀j,j<k->q9 l j=true)/\Below w.heap.size w wr)) (fun i _=>l.length - (intOf i).toNat)
         case atStart=>exact ⟨0,n0q _,rfl,(fun j h=>by omega),hg.o⟩
         case round=>as_aux_lemma=>
          rename World=>wr
          obtain ⟨k,hk,rfl,G⟩:=hrel;have I:w.heap.size<=wr.heap.size:=G.o.2.size;have F:Hid (SL 4 RC (· <B) wr (.slice (some ⟨b6,o6,none⟩) l.length cl) l):=HV.o.keptC (Kp.below (G.o.2.mono hB));by_cases E:k<l.length
          ·have b1:=ag (zom wr B _ l k E F.o (lt3 hB I) hN);obtain ⟨b,off,vf,vm,ak,Z,e0,e1,e2,e3,ef,em,ae,af⟩:=F.o.atC k E;obtain ⟨rfl,rfl⟩:b6=b/\o6=off:=by simpa using ak
           have f5:=(az.o l[k] (gm E)).2.2.2.2.1;have J:Hid (q9 l k=(mt l k).dropLast.all fun u=>l[k].ax.all fun x=>(cb l u).ax.all fun y=>iu x y):=by show q9 l k=_;rw [q9,zay E]
           have ac:B<=wr.heap.size:=lt3 hB I;have ad:Hid (q9 l k=true->∀w',Below wr.heap.size wr w'->(∀j,j<k+1->q9 l j=true)/\Below w.heap.size w w'):=fun h w' Z=>⟨zow G.o.1 h,G.o.2.trans (Z.mono I)⟩;have O:Hid (q9 l k=false->∀w',Below wr.heap.size wr w'->ck l=4/\Below w.heap.size w w'):=fun h w' Z=>⟨lk9 ai.o H1.o H2.o H3.o H4.o H5.o H6.o H7.o H8.o (zov E h),G.o.2.trans (Z.mono I)⟩;obtain ⟨gt,kk⟩:=zoh E;have hu:=ag gt;generalize l[k]=c at*;generalize mt l k=up at*;have EM:=ag em;obtain ⟨mo,cm,rfl,-⟩:=em;have al:=ag (And.intro Z e3);have gs:(0:Int)<=k:=by omega
           have a1:(k:Int)<l.length:=by omega
           clear e0 e1 e2 e3 ae af G Z ef ak gt;go_wp2_with (first | (go_at_call 225;refine b1.o.mono ?_;rintro r V ⟨ar,u8,rfl,ay⟩;have N:=ag ar;have h4:=ag ay;obtain ⟨a8,c8,rfl,-⟩:=ay;clear ar));clear b1;go_loopw [24] (fun i L=>∃p:Nat,p<=up.dropLast.length/\i=.int .i64 p/\Hid (up.dropLast.all (fun u=>c.ax.all fun x=>(cb l u).ax.all fun y=>iu x y)=(up.dropLast.drop p).all (fun u=>c.ax.all fun x=>(cb l u).ax.all fun y=>iu x y)/\Below V.heap.size V L)) (fun i _=>up.dropLast.length - (intOf i).toNat)
           case atStart=>exact ⟨0,n0q _,rfl,rfl,br _ _⟩
           case round=>as_aux_lemma=>
            rename World=>L
            obtain ⟨p,hp,rfl,HP⟩:=hrel;have lk:up.dropLast.length=up.length - 1:=List.length_dropLast;by_cases av:p<up.dropLast.length
            ·have g0:p<up.length:=by omega
             have j4:(p:Int)<(up.length:Int) - 1:=by omega
             obtain ⟨bu,ou,rfl,f3,eu⟩:=h4.o.atO p g0;have c2:=hu.o up[p] (gm g0);have e9:Hid ((up.dropLast.drop p).all (fun u=>c.ax.all fun x=>(cb l u).ax.all fun y=>iu x y)=((fun u=>c.ax.all fun x=>(cb l u).ax.all fun y=>iu x y) up[p]&&(up.dropLast.drop (p+1)).all (fun u=>c.ax.all fun x=>(cb l u).ax.all fun y=>iu x y))):=by show _=_;rw [List.drop_eq_getElem_cons av,List.all_cons,List.getElem_dropLast]
             obtain ⟨b,off,lz,l0,ak,fr,-,-,-,fj,-,cv,-,-⟩:=(F.o.keptC (Kp.below (N.o.mono ac))).atC up[p] c2;obtain ⟨rfl,rfl⟩:b6=b/\o6=off:=by simpa using ak
             rw [<-zay c2]at cv;obtain ⟨kl,h8,rfl,-⟩:=id cv;have f6:=(az.o l[up[p]] (gm c2)).2.2.2.2.1;rw [<-zay c2]at f6;have dz:=ag (And.intro f3 eu);have a2:=ag (And.intro fr fj);have g3:=ag cv;have g4:=ag (EM.o.keptM (Kp.below (N.o.mono ac)));clear eu fj cv ak fr f3;generalize up[p]=uu at*;have dd:Hid ((up.dropLast.drop p).all (fun u=>c.ax.all fun x=>(cb l u).ax.all fun y=>iu x y)=((c.ax.all fun x=>(cb l uu).ax.all fun y=>iu x y)&&(up.dropLast.drop (p+1)).all (fun u=>c.ax.all fun x=>(cb l u).ax.all fun y=>iu x y))):=e9.o;clear e9;generalize (cb l uu).ax=ms at*;have lx:(0:Int)<=uu:=by omega
             have ly:(uu:Int)<l.length:=by omega
             have gv:(0:Int)<=p:=by omega
             have gw:(p:Int)<up.length:=by omega
             have hy:Hid ((c.ax.all (fun x=>ms.all fun y=>iu x y))=false->∀w',Below V.heap.size V w'->ck l=4/\Below w.heap.size w w'):=fun h w' Z=>O.o (J.o.trans (by rw [HP.o.1,dd.o,h,Bool.false_and])) w' (N.o.trans (Z.mono N.o.size));have bj:=ag HP.o.2;go_wp2_with fail;go_loopw [25] (fun i L=>∃j:Nat,j<=c.ax.length/\i=.int .i64 j/\Hid (c.ax.all (fun x=>ms.all fun y=>iu x y)=(c.ax.drop j).all (fun x=>ms.all fun y=>iu x y)/\Below V.heap.size V L)) (fun i _=>c.ax.length - (intOf i).toNat)
             case atStart=>exact ⟨0,n0q _,rfl,rfl,bj.o⟩
             case round=>as_aux_lemma=>
              clear bj
              rename World=>L
              obtain ⟨j,hj,rfl,HJ⟩:=hrel;have aw:V.heap.size<=L.heap.size:=HJ.o.2.size;have d3:L.cell? ⟨b6,o6+k*4+3,none⟩=some (.slice mo c.ax.length cm):=(HJ.o.2.cell (p:=⟨b6,o6+k*4+3,none⟩) (ll3 al.o.1 N.o.size)).trans ((N.o.cell (p:=⟨b6,o6+k*4+3,none⟩) al.o.1).trans al.o.2);have b2:b6<L.heap.size:=ll3 a2.o.1 aw;by_cases ap:j<c.ax.length
              ·have e8:Hid ((c.ax.drop j).all (fun x=>ms.all fun y=>iu x y)=((ms.all fun y=>iu c.ax[j] y)&&(c.ax.drop (j+1)).all (fun x=>ms.all fun y=>iu x y))):=by
                show _=_;rw [List.drop_eq_getElem_cons ap,List.all_cons]
               have hw:Hid ((ms.all fun y=>iu c.ax[j] y)=false->∀w',Below V.heap.size V w'->ck l=4/\Below w.heap.size w w'):=fun h=>hy.o (by rw [HJ.o.1,e8.o,h,Bool.false_and]);have bj:=ag HJ.o.2;go_wp2_with fail;clear d3 b2 aw;go_loopw [26] (fun i L=>∃q:Nat,q<=ms.length/\i=.int .i64 q/\Hid ((ms.all fun y=>iu c.ax[j] y)=((ms.drop q).all fun y=>iu c.ax[j] y)/\Below V.heap.size V L)) (fun i _=>ms.length - (intOf i).toNat)
               case atStart=>exact ⟨0,n0q _,rfl,rfl,bj.o⟩
               case round=>as_aux_lemma=>
                clear bj
                rename World=>L
                obtain ⟨q,hq,rfl,aj⟩:=hrel;have aw:V.heap.size<=L.heap.size:=aj.o.2.size;have c0:B<=V.heap.size:=lt3 ac N.o.size;have d3:L.cell? ⟨b6,o6+k*4+3,none⟩=some (.slice mo c.ax.length cm):=(aj.o.2.cell (p:=⟨b6,o6+k*4+3,none⟩) (ll3 al.o.1 N.o.size)).trans ((N.o.cell (p:=⟨b6,o6+k*4+3,none⟩) al.o.1).trans al.o.2);have h9:L.cell? ⟨b6,o6+uu*4+3,none⟩=some (.slice kl ms.length h8):=(aj.o.2.cell (p:=⟨b6,o6+uu*4+3,none⟩) a2.o.1).trans a2.o.2;have du:L.cell? ⟨bu,ou+p,none⟩=some (.int .i64 uu):=(aj.o.2.cell (p:=⟨bu,ou+p,none⟩) dz.o.1).trans dz.o.2;have b2:b6<L.heap.size:=ll3 a2.o.1 aw;have f4:bu<L.heap.size:=ll3 dz.o.1 aw;by_cases aq:q<ms.length
                ·obtain ⟨bx,ox,va,vh,j2,lc,x0,x1,x2,x3,x4,x5,x6,x7,x8,sa,sh,-,-,-⟩:=(g4.o.keptM (Kp.below (aj.o.2.mono c0))).atM j ap;obtain ⟨k4,oy,ky,kz,j3,le,y0,y1,y2,y3,y4,y5,y6,y7,y8,g1,kn,-,-,-⟩:=(g3.o.keptM (Kp.below (aj.o.2.mono c0))).atM q aq;subst j2 j3;have bs:=ag sa;have c9:=ag g1;obtain ⟨aa,ca,rfl,-⟩:=sa;obtain ⟨ah,ch,rfl,-⟩:=sh;obtain ⟨ff,fi,rfl,-⟩:=g1;obtain ⟨h6,h7,rfl,-⟩:=kn;have bw:Hid (((ms.drop q).all fun y=>iu c.ax[j] y)=(iu c.ax[j] ms[q]&&(ms.drop (q+1)).all fun y=>iu c.ax[j] y)):=by
                  show _=_;rw [List.drop_eq_getElem_cons aq,List.all_cons]
                 have c4:Hid (iu c.ax[j] ms[q]=false->∀w',Below V.heap.size V w'->ck l=4/\Below w.heap.size w w'):=fun h=>hw.o (by rw [aj.o.1,bw.o,h,Bool.false_and]);have bl:Hid (iu c.ax[j] ms[q]=true->((ms.all fun y=>iu c.ax[j] y)=((ms.drop (q+1)).all fun y=>iu c.ax[j] y))):=fun h=>aj.o.1.trans (by rw [bw.o,h,Bool.true_and]);generalize hxx:c.ax[j]=x at*;generalize ms[q]=y at*;clear hxx;have gk:(0:Int)<=j:=by omega
                 have gl:(j:Int)<c.ax.length:=by omega
                 have eg:(0:Int)<=q:=by omega
                 have eh:(q:Int)<ms.length:=by omega
                 have bi:=ag aj.o.2
                 go_upto_region 83 with fail
                 go_cut [27,28] (fun kw kx W=>∃X Y,kw=.pointer (some ⟨X,0,none⟩)/\kx=.pointer (some ⟨Y,0,none⟩)/\W.heap[X]? =some (.cells #[.string x.name,.bool x.static,.slice aa x.args.length ca,.int .i64 x.ret.kind,.string x.ret.db,.int .i64 x.stack,.int .i64 x.locals,.string x.code,.slice ah x.hands.length ch] 159 (0,0))/\W.heap[Y]? =some (.cells #[.string y.name,.bool y.static,.slice ff y.args.length fi,.int .i64 y.ret.kind,.string y.ret.db,.int .i64 y.stack,.int .i64 y.locals,.string y.code,.slice h6 y.hands.length h7] 159 (0,0))/\Below L.heap.size L W)
                 case first=>
                  have F1:∀(cs:Array Value) (t:Nat) (C:Obj),(((L.alloc (.cells cs t)).alloc C).drew).heap[L.heap.size]? =some (.cells cs t (0,0)):=fun cs t C=>(Below.heap_alloc _ _ _ (by simp)).trans (heap_alloc_new L _);have F2:∀(A:Obj) (cs:Array Value) (t:Nat),(((L.alloc A).alloc (.cells cs t)).drew).heap[L.heap.size+1]? =some (.cells cs t (0,0)):=fun A cs t=>by
                   have:=heap_alloc_new (L.alloc A) (.cells cs t);have e:(L.alloc A).heap.size=L.heap.size+1:=by simp
                   rw [e]at this;exact this
                  have F3:∀A C,Below L.heap.size L (((L.alloc A).alloc C).drew):=fun A C=>(((br _ _).alloc (nlq _) _).alloc (by simp) _).drew;have ez:=ag F1;have e4:=ag F2;have e5:=ag F3;clear F1 F2 F3
                  go_region_held3 (fun W'=>∀p:Addr,p.block<L.heap.size->W'.cell? p=L.cell? p) (exact fun p hp=>Below.cell (B:=L.heap.size) (w:=L) (by repeat (first | exact br _ _ | refine Below.drew ?_ | refine Below.alloc ?_ (by simp<;>omega) _ | refine Below.setCell ?_ (by simp) _)) hp) (fail)
                  all_goals
                   go_wp2_with fail
                   go_meet
                   first
                    | exact ⟨L.heap.size,L.heap.size+1,rfl,rfl,ez.o _ _ _,e4.o _ _ _,e5.o _ _⟩
                    | exact ⟨L.heap.size+1,L.heap.size,rfl,rfl,e4.o _ _ _,ez.o _ _ _,e5.o _ _⟩
                 case rest=>
                  as_aux_lemma=>
                   clear x0 x1 x2 x3 x4 x5 x6 x7 x8 y0 y1 y2 y3 y4 y5 y6 y7 y8 d3 h9 du b2 f4
                   rename World=>W
                   obtain ⟨X,Y,rfl,rfl,hX,hY,cy⟩:=hcut;have X0:=ba hX 0 (x:=.string x.name) rfl;have X1:=ba hX 1 (x:=.bool x.static) rfl;have X2:=ba hX 2 (x:=.slice aa x.args.length ca) rfl;have X3:=ba hX 3 (x:=.int .i64 x.ret.kind) rfl;have X4:=ba hX 4 (x:=.string x.ret.db) rfl;have Y0:=ba hY 0 (x:=.string y.name) rfl;have Y1:=ba hY 1 (x:=.bool y.static) rfl;have Y2:=ba hY 2 (x:=.slice ff y.args.length fi) rfl;have Y3:=ba hY 3 (x:=.int .i64 y.ret.kind) rfl;have Y4:=ba hY 4 (x:=.string y.ret.db) rfl;have k6:=bv hX;have k7:=bv hY;have c3:Below V.heap.size V W:=bi.o.trans (cy.mono aw);have ex:Hid (∀n,Below V.heap.size V (W.drewN n)):=fun n=>ll c3 n;have bc:=ag (zos W (· <B) (· <B) _ _ x.args y.args (bs.o.keptK (Kp.below (cy.mono (lt3 c0 aw)))) (c9.o.keptK (Kp.below (cy.mono (lt3 c0 aw)))));have lv:=kindNeq x.ret y.ret;have ls:=kindNeqG;have a9:Hid (iu x y=(!decide (x.name=y.name)||(!x.static&& !y.static&&da dy x.args y.args&&dy x.ret y.ret))):=rfl;have dg:Hid (iu x y=true->∀n,((ms.all fun z=>iu x z)=((ms.drop (q+1)).all fun z=>iu x z))/\Below V.heap.size V (W.drewN n)):=fun h n=>⟨bl.o h,ex.o n⟩;have a3:Hid (iu x y=false->∀n,ck l=4/\Below w.heap.size w (W.drewN n)):=fun h n=>c4.o h _ (ex.o n);clear hX hY cy c3 bs c9 c4 bl bi;generalize da dy x.args y.args=ek at*;generalize dy x.ret y.ret=er at*;generalize x.static=sx at*;generalize y.static=sy at*;by_cases hn:x.name=y.name
                   rotate_left
                   ·have b7:(x.name.toList==y.name.toList)=false:=beq_eq_false_iff_ne.2 fun e=>hn (zb9 e);have D:=ag (dg.o (a9.o.trans (by simp [hn])) 0);clear hn bc;go_wp2_with fail;go_roundw
                    case rel=>exact ⟨q+1,by omega,by go_num,D.o⟩
                    case measure=>simp [intOf];omega
                   have b7:(x.name.toList==y.name.toList)=true:=by rw [hn];simp
                   cases sx with
                   | true=>
                     have D:=ag (a3.o (a9.o.trans (by simp [hn])) 0);clear hn bc;go_wp2_with fail;go_ret;exact ⟨by rw [D.o.1];rfl,D.o.2⟩
                   | false=>
                     cases sy with
                     | true=>
                       have D:=ag (a3.o (a9.o.trans (by simp [hn])) 0);clear hn bc;go_wp2_with fail;go_ret;exact ⟨by rw [D.o.1];rfl,D.o.2⟩
                     | false=>
                       cases ek with
                       | false=>
                         have D:=ag (a3.o (a9.o.trans (by simp [hn])));clear hn;go_wp2_with (first | (go_at_call 227;refine bc.o.mono ?_;rintro r w9 ⟨rfl,n9,rfl⟩));go_ret;exact ⟨by rw [(D.o 0).1];rfl,(D.o _).2⟩
                       | true=>
                         cases er with
                         | false=>
                           have D:=ag (a3.o (a9.o.trans (by simp [hn])));clear hn;go_wp2_with (first | (go_at_call 227;refine bc.o.mono ?_;rintro r w9 ⟨rfl,n9,rfl⟩));go_ret;exact ⟨by rw [(D.o 0).1];rfl,(D.o _).2⟩
                         | true=>
                           have D:=ag (dg.o (a9.o.trans (by simp [hn])));clear hn;go_wp2_with (first | (go_at_call 227;refine bc.o.mono ?_;rintro r w9 ⟨rfl,n9,rfl⟩));go_roundw
                           case rel=>exact ⟨q+1,by omega,by go_num,D.o _⟩
                           case measure=>simp [intOf];omega
                have g8:Hid ((ms.all fun y=>iu c.ax[j] y)=true):=aj.o.1.trans (by rw [List.drop_of_length_le (by omega)];rfl);have D:Hid (c.ax.all (fun x=>ms.all fun y=>iu x y)=(c.ax.drop (j+1)).all (fun x=>ms.all fun y=>iu x y)/\Below V.heap.size V L):=⟨HJ.o.1.trans (e8.o.trans (by rw [g8.o,Bool.true_and])),aj.o.2⟩;go_wp2_with fail;go_roundw
                case rel=>exact ⟨j+1,by omega,by go_num,D.o⟩
                case measure=>simp [intOf];omega
              have g5:Hid (c.ax.all (fun x=>ms.all fun y=>iu x y)=true):=HJ.o.1.trans (by rw [List.drop_of_length_le (by omega)];rfl);have D:Hid (up.dropLast.all (fun u=>c.ax.all fun x=>(cb l u).ax.all fun y=>iu x y)=(up.dropLast.drop (p+1)).all (fun u=>c.ax.all fun x=>(cb l u).ax.all fun y=>iu x y)/\Below V.heap.size V L):=⟨HP.o.1.trans (dd.o.trans (by rw [g5.o,Bool.true_and])),HJ.o.2⟩;go_wp2_with fail;go_roundw
              case rel=>exact ⟨p+1,by omega,by go_num,D.o⟩
              case measure=>simp [intOf];omega
            have g7:Hid (up.dropLast.all (fun u=>c.ax.all fun x=>(cb l u).ax.all fun y=>iu x y)=true):=HP.o.1.trans (by rw [List.drop_of_length_le (by omega)];rfl);have D:=ag (ad.o (J.o.trans g7.o) _ (N.o.trans (HP.o.2.mono N.o.size)));have j4:¬(p:Int)<(up.length:Int) - 1:=by omega
            go_wp2_with fail;go_roundw
            case rel=>exact ⟨k+1,by omega,by go_num,D.o⟩
            case measure=>simp [intOf];omega
          have H9:Hid (ew l (q9 l)=true):=zou E G.o.1;have D:=ag (lk10 ai.o H1.o H2.o H3.o H4.o H5.o H6.o H7.o H8.o H9.o);go_wp2_with fail;go_ret;exact ⟨by rw [D.o];rfl,G.o.2⟩
end Go.Proofs.YtjdnmblggdobgaaGreat
