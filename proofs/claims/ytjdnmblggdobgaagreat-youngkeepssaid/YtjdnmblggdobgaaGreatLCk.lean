import Derived.Test.YtjdnmblggdobgaaGreatJLCkDLPu4
import Derived.Test.YtjdnmblggdobgaaGreatJRefNameRefClass
import Derived.Deep.RegionWith
import Derived.Deep.DeepCutAuto
import Derived.BigRegion
import Derived.Deep.RegionHeld3
set_option maxHeartbeats 16000000
set_option maxRecDepth 100000
namespace Go.Proofs.YtjdnmblggdobgaaGreat
open Go.RowKit Go.Sort
theorem zqp (w:World) (B:Nat) (l:List ap) (v:Value) (hv:SL 4 RC (· <B) w v l) (hB:B<=w.heap.size):
 Calls Tryz.prog 181 #[v] w fun r w'=>r=.returned (.int .i64 (cd l))/\Below w.heap.size w w':=by
 have HV:=ae hv;have d5:=ae (zqo w B l v hv hB);obtain ⟨ao,cl,rfl,-⟩:=hv;by_cases hc:dt l=0
 rotate_left
 ·have D:Hid (cd l=dt l):=by show cd l=dt l;simp [cd,hc]
  generalize dt l=ec at*;go_enter Tryz.func181,Tryz.ntmps181;go_wp2_with (first | (go_at_call 224;refine d5.o.mono ?_;rintro r w7 ⟨rfl,a2⟩));go_ret;exact ⟨by rw [D.o];rfl,a2⟩
 obtain ⟨hN,ce⟩:=zgm hc;have a1:=ae ce;have ai:=ae hc;rw [hc]at d5;clear hc ce;go_enter Tryz.func181,Tryz.ntmps181;go_wp2_with (first | (go_at_call 224;refine d5.o.mono ?_;rintro r w0 ⟨rfl,f1⟩;have hl:=ae f1;clear f1));go_loopw [4] (fun i wr=>∃k:Nat,k<=l.length/\i=.int .i64 k/\Hid ((∀j,j<k->q1 l j=true)/\Below w.heap.size w wr)) (fun i _=>l.length - (intOf i).toNat)
 case atStart=>exact ⟨0,n0q _,rfl,(fun j h=>by omega),hl.o⟩
 case round=>as_aux_lemma=>
  rename World=>wr
  obtain ⟨k,hk,rfl,G⟩:=hrel;have I:w.heap.size<=wr.heap.size:=G.o.2.size;have F:Hid (SL 4 RC (· <B) wr (.slice ao l.length cl) l):=HV.o.keptC (Kp.below (G.o.2.mono hB));by_cases E:k<l.length
  ·obtain ⟨b,off,vf,vm,rfl,Z,e0,e1,e2,e3,ef,em,af,ag⟩:=F.o.atC k E;clear ef em e1 e2 e3 af ag;have an:=ae (zoe wr (· <B) _ l l[k].name F.o);have J:Hid (q1 l k=decide (bv l l[k].name=k)):=by show q1 l k=_;rw [q1,zay E]
   have d1:=(zod l l[k].name).1;have d4:=(zod l l[k].name).2;generalize bv l l[k].name=fa at*;by_cases hs:fa=k
   ·subst hs;have h7:Hid ((∀j,j<k+1->q1 l j=true)/\Below w.heap.size w wr):=⟨zow G.o.1 (by rw [J.o];simp),G.o.2⟩;go_wp2_with (first | (go_at_call 184;refine an.o.mono ?_;rintro r w7 ⟨rfl,rfl⟩));go_roundw
    case rel=>exact ⟨k+1,by omega,by go_num,h7.o⟩
    case measure=>simp [intOf];omega
   have D:=ae (lk1 ai.o (zov E (by rw [J.o];simp [hs])));go_wp2_with (first | (go_at_call 184;refine an.o.mono ?_;rintro r w7 ⟨rfl,rfl⟩));go_ret;exact ⟨by rw [D.o];rfl,G.o.2⟩
  have H1:Hid (ev l (q1 l)=true):=zou E G.o.1;have a7:=ae G.o.2;have cp:=ae (zoe wr (· <B) _ l fd F.o);have a9:=ae (zoe wr (· <B) _ l fx F.o);have f6:=(zod l fd).1;have f7:=(zod l fd).2;have f3:=(zod l fx).1;have f4:=(zod l fx).2;have ea:Hid (q2 l=(decide (0<=bv l fd)&&decide (0<=bv l fx))):=rfl;have e9:Hid (q6 l=(decide ((b9 l (bv l fx).toNat).bo=fd)&&(match jv l (bv l fx).toNat with | []=>false | f::_=>decide (f.kind.kind=1)))):=rfl;have hz:Hid (∀w M v,SL 4 RC M w v l->Calls Tryz.prog 184 #[v,.string fx] w fun r w'=>r=.returned (.int .i64 (bv l fx))/\w'=w):=fun w M v h=>zoe w M v l fx h;generalize bv l fd=ft at*;generalize bv l fx=fe at*;clear G F;by_cases ht:ft<0
  ·have D:=ae (lk2 ai.o H1.o (by rw [ea.o];simp;omega));go_wp2_with (first | (go_at_call_of 184 (Value.string ⟨#[79,98,106,101,99,116]⟩);refine cp.o.mono ?_;rintro r w7 ⟨rfl,rfl⟩) | (go_at_call 184;refine a9.o.mono ?_;rintro r w7 ⟨rfl,rfl⟩));go_ret;exact ⟨by rw [D.o];rfl,a7.o⟩
  by_cases he:fe<0
  ·have D:=ae (lk2 ai.o H1.o (by rw [ea.o];simp;omega));go_wp2_with (first | (go_at_call_of 184 (Value.string ⟨#[79,98,106,101,99,116]⟩);refine cp.o.mono ?_;rintro r w7 ⟨rfl,rfl⟩) | (go_at_call 184;refine a9.o.mono ?_;rintro r w7 ⟨rfl,rfl⟩));go_ret;exact ⟨by rw [D.o];rfl,a7.o⟩
  have H2:Hid (q2 l=true):=ea.o.trans (by simp;omega);go_wp2_with (first | (go_at_call_of 184 (Value.string ⟨#[79,98,106,101,99,116]⟩);refine cp.o.mono ?_;rintro r w7 ⟨rfl,rfl⟩) | (go_at_call 184;refine a9.o.mono ?_;rintro r w7 ⟨rfl,rfl⟩));clear cp a9 f6 f7 E hk I;go_loopw [5] (fun i wr=>∃k:Nat,k<=l.length/\i=.int .i64 k/\Hid ((∀j,j<k->q3 l j=true)/\Below w.heap.size w wr)) (fun i _=>l.length - (intOf i).toNat)
  case atStart=>exact ⟨0,n0q _,rfl,(fun j h=>by omega),a7.o⟩
  case round=>as_aux_lemma=>
   rename World=>wr
   obtain ⟨k,hk,rfl,G⟩:=hrel;have I:w.heap.size<=wr.heap.size:=G.o.2.size;have F:Hid (SL 4 RC (· <B) wr (.slice ao l.length cl) l):=HV.o.keptC (Kp.below (G.o.2.mono hB));by_cases E:k<l.length
   ·obtain ⟨b,off,vf,vm,rfl,Z,e0,e1,e2,e3,ef,em,af,ag⟩:=F.o.atC k E;clear ef em e2 e3 af ag;have J:Hid (q3 l k=upperB l[k]):=by show q3 l k=_;rw [q3,zay E]
    generalize l[k]=c at*;have ad:Hid (upperB c=true->(∀j,j<k+1->q3 l j=true)/\∀n,Below w.heap.size w (wr.drewN n)):=fun h=>⟨zow G.o.1 (J.o.trans h),fun n=>ku G.o.2 n⟩;have O:Hid (upperB c=false->cd l=4/\∀n,Below w.heap.size w (wr.drewN n)):=fun h=>⟨lk3 ai.o H1.o H2.o (zov E (J.o.trans h)),fun n=>ku G.o.2 n⟩;by_cases h1:c.name=fd
    ·have t1:c.name.toList= [79,98,106,101,99,116]:=by rw [h1];exact zdt
     by_cases h2:c.bo=⟨#[]⟩
     ·have t2:=zcb h2;have D:=ae (ad.o (by simp [upperB,h1,h2]));clear h1 h2;go_wp2_with fail;go_quiet (fail);go_wp2_with fail;go_roundw
      case rel=>exact ⟨k+1,by omega,by go_num,D.o.1,D.o.2 _⟩
      case measure=>simp [intOf];omega
     have t2:=zox h2;have D:=ae (O.o (by simp [upperB,h1,h2]));clear h1 h2;go_wp2_with fail;go_quiet (fail);go_wp2_with fail;go_ret;exact ⟨by rw [D.o.1];rfl,D.o.2 _⟩
    have t1:(c.name.toList== [79,98,106,101,99,116])=false:=beq_eq_false_iff_ne.2 fun e=>h1 (zb9 (e.trans zdt.symm));by_cases h2:c.bo=⟨#[]⟩
    ·have t2:=zcb h2;have D:=ae (O.o (by simp [upperB,h1,h2]));clear h1 h2;go_wp2_with fail;go_quiet (fail);go_wp2_with fail;go_ret;exact ⟨by rw [D.o.1];rfl,D.o.2 _⟩
    have t2:=zox h2;have D:=ae (ad.o (by simp [upperB,h1,h2]));clear h1 h2;go_wp2_with fail;go_quiet (fail);go_wp2_with fail;go_roundw
    case rel=>exact ⟨k+1,by omega,by go_num,D.o.1,D.o.2 _⟩
    case measure=>simp [intOf];omega
   have H3:Hid (ev l (q3 l)=true):=zou E G.o.1;have hm:=ae G.o.2;clear G F;go_wp2_with fail;clear E hk I;go_loopw [6] (fun i wr=>∃k:Nat,k<=l.length/\i=.int .i64 k/\Hid ((∀j,j<k->q4 l j=true)/\Below w.heap.size w wr)) (fun i _=>l.length - (intOf i).toNat)
   case atStart=>exact ⟨0,n0q _,rfl,(fun j h=>by omega),hm.o⟩
   case round=>as_aux_lemma=>
    rename World=>wr
    obtain ⟨k,hk,rfl,G⟩:=hrel;have I:w.heap.size<=wr.heap.size:=G.o.2.size;have F:Hid (SL 4 RC (· <B) wr (.slice ao l.length cl) l):=HV.o.keptC (Kp.below (G.o.2.mono hB));by_cases E:k<l.length
    ·obtain ⟨b,off,vf,vm,rfl,Z,e0,e1,e2,e3,ef,em,af,ag⟩:=F.o.atC k E;clear ef em e0 e2 e3 af ag;have J:Hid (q4 l k=(decide (l[k].bo=(⟨#[]⟩:ByteArray))||decide (0<=bv l l[k].bo))):=by show q4 l k=_;rw [q4,zay E]
     have an:=ae (zoe wr (· <B) _ l l[k].bo F.o);have d1:=(zod l l[k].bo).1;have d4:=(zod l l[k].bo).2;generalize l[k]=c at*;generalize bv l c.bo=fa at*;have ad:Hid (q4 l k=true->(∀j,j<k+1->q4 l j=true)/\Below w.heap.size w wr):=fun h=>⟨zow G.o.1 h,G.o.2⟩;have O:Hid (q4 l k=false->cd l=5/\Below w.heap.size w wr):=fun h=>⟨lk4 ai.o H1.o H2.o H3.o (zov E h),G.o.2⟩;by_cases h1:c.bo=⟨#[]⟩
     ·have t1:=zcb h1;have D:=ae (ad.o (J.o.trans (by simp [h1])));clear h1 an;go_wp2_with fail;go_roundw
      case rel=>exact ⟨k+1,by omega,by go_num,D.o⟩
      case measure=>simp [intOf];omega
     have t1:=zox h1;by_cases h2:fa<0
     ·have D:=ae (O.o (J.o.trans (by simp [h1];omega)));clear h1;go_wp2_with (first | (go_at_call 184;refine an.o.mono ?_;rintro r w7 ⟨rfl,rfl⟩));go_ret;exact ⟨by rw [D.o.1];rfl,D.o.2⟩
     have D:=ae (ad.o (J.o.trans (by simp [h1];omega)));clear h1;go_wp2_with (first | (go_at_call 184;refine an.o.mono ?_;rintro r w7 ⟨rfl,rfl⟩));go_roundw
     case rel=>exact ⟨k+1,by omega,by go_num,D.o⟩
     case measure=>simp [intOf];omega
    have H4:Hid (ev l (q4 l)=true):=zou E G.o.1;have ho:=ae G.o.2;clear G F;go_wp2_with fail;clear E hk I;go_loopw [7] (fun i wr=>∃k:Nat,k<=l.length/\i=.int .i64 k/\Hid ((∀j,j<k->q5 l j=true)/\Below w.heap.size w wr)) (fun i _=>l.length - (intOf i).toNat)
    case atStart=>exact ⟨0,n0q _,rfl,(fun j h=>by omega),ho.o⟩
    case round=>as_aux_lemma=>
     rename World=>wr
     obtain ⟨k,hk,rfl,G⟩:=hrel;have I:w.heap.size<=wr.heap.size:=G.o.2.size;have F:Hid (SL 4 RC (· <B) wr (.slice ao l.length cl) l):=HV.o.keptC (Kp.below (G.o.2.mono hB));by_cases E:k<l.length
     ·have b5:=ae (zom wr B _ l k E F.o (lt3 hB I) hN);have J:Hid (q5 l k=decide (0<(mb l k).length)):=rfl;have kt:=(zoh E).2;have ad:Hid (q5 l k=true->(∀j,j<k+1->q5 l j=true)/\∀w',Below wr.heap.size wr w'->Below w.heap.size w w'):=fun h=>⟨zow G.o.1 h,fun w' Z=>G.o.2.trans (Z.mono I)⟩;have O:Hid (q5 l k=false->cd l=4/\∀w',Below wr.heap.size wr w'->Below w.heap.size w w'):=fun h=>⟨lk5 ai.o H1.o H2.o H3.o H4.o (zov E h),fun w' Z=>G.o.2.trans (Z.mono I)⟩;generalize mb l k=up at*;by_cases h2:up.length=0
      ·have D:=ae (O.o (J.o.trans (by simp [h2])));have j0:(up.length:Int)=0:=by omega
       go_wp2_with (first | (go_at_call 225;refine b5.o.mono ?_;rintro r w7 ⟨a2,u7,rfl,ey⟩;obtain ⟨au,cu,rfl,-⟩:=ey;have bn:=ae a2;clear a2));go_ret;exact ⟨by rw [D.o.1];rfl,D.o.2 _ bn.o⟩
      have D:=ae (ad.o (J.o.trans (by simp;omega)));have j0:¬(up.length:Int)=0:=by omega
      go_wp2_with (first | (go_at_call 225;refine b5.o.mono ?_;rintro r w7 ⟨a2,u7,rfl,ey⟩;obtain ⟨au,cu,rfl,-⟩:=ey;have bn:=ae a2;clear a2));go_roundw
      case rel=>exact ⟨k+1,by omega,by go_num,D.o.1,D.o.2 _ bn.o⟩
      case measure=>simp [intOf];omega
     have H5:Hid (ev l (q5 l)=true):=zou E G.o.1;have k9:=ae G.o.2;obtain ⟨en,rfl⟩:=Int.eq_ofNat_of_zero_le (show 0<=fe by omega);have ei:en<l.length:=by omega
     have a9:=ae (hz.o wr (· <B) _ F.o);have a6:=ae (zon wr B _ l en ei F.o (lt3 hB I) hN (fun c hc=>(a1.o c hc).2.2.1));have J:Hid (q6 l=(decide (l[en].bo=fd)&&(match jv l en with | []=>false | f::_=>decide (f.kind.kind=1)))):=e9.o.trans (by rw [show ((en:Int)).toNat=en from rfl,zay ei]);have h3:Hid (∀w',Below wr.heap.size wr w'->Below w.heap.size w w'):=fun w' Z=>G.o.2.trans (Z.mono I);generalize jv l en=fs at*;have lw:(0:Int)<=en:=by omega
     have lx:(en:Int)<l.length:=by omega
     have ih:=ae F.o;have hu:=ae (lt3 hB I);clear G F e9 ht he f3 f4
     go_upto_region 28 with (first | (go_at_call 184;refine a9.o.mono ?_;rintro r w7 ⟨rfl,rfl⟩) | (go_at_call 182;refine a6.o.mono ?_;rintro r w8 ⟨ax,u8,rfl,a0⟩;have ez:=ae ax;have cv:=ae a0;obtain ⟨a8,c8,rfl,-⟩:=a0;clear ax))
     clear E hk I;obtain ⟨b6,o6,vf,vm,rfl,Z,e0,e1,e2,e3,ef,em,af,ag⟩:=(ih.o.keptC (Kp.below (ez.o.mono hu.o))).atC en ei;clear ef em e0 e2 e3 af ag;have co:=ae (h3.o _ ez.o);have O:Hid (q6 l=false->cd l=4):=fun h=>lk6 ai.o H1.o H2.o H3.o H4.o H5.o h;generalize l[en]=c at*;by_cases h1:c.bo=fd
     rotate_left
     ·have t1:(c.bo.toList== [79,98,106,101,99,116])=false:=beq_eq_false_iff_ne.2 fun e=>h1 (zb9 (e.trans zdt.symm));have D:=ae (O.o (J.o.trans (by simp [h1])));clear h1 cv;go_wp2_with fail;go_ret;exact ⟨by rw [D.o];rfl,co.o⟩
     have t1:c.bo.toList= [79,98,106,101,99,116]:=by rw [h1];exact zdt
     cases fs with
     | nil=>
       have D:=ae (O.o (J.o.trans (by simp)));clear h1 cv;go_wp2_with fail;go_ret;exact ⟨by rw [D.o];rfl,co.o⟩
     | cons f fs=>
       obtain ⟨bf,of,rfl,eh,y0,y1,y2,-,-⟩:=cv.o.atF 0 (by simp);have k6:w8.cell? ⟨bf,of+1,none⟩=some (.int .i64 f.kind.kind):=by simpa using y1
       have dk:Hid (q6 l=decide (f.kind.kind=1)):=J.o.trans (by simp [h1]);clear y0 y1 y2 h1 cv J;generalize f.kind.kind=fk at*;have j3:(0:Int)<((fs.length+1:Nat):Int):=by omega
       have gs:(((fs.length+1:Nat):Int)==0)=false:=beq_eq_false_iff_ne.2 (by omega);have gt:((fs.length:Int)+1==0)=false:=beq_eq_false_iff_ne.2 (by omega);by_cases a3:fk=1
       rotate_left
       ·have D:=ae (O.o (dk.o.trans (by simp [a3])));have ly:(fk != 1)=true:=by simp [a3]
        clear a3;go_wp2_with fail;go_ret;exact ⟨by rw [D.o];rfl,co.o⟩
       subst a3;have H6:Hid (q6 l=true):=dk.o.trans (by simp);go_wp2_with fail;clear k6 t1 j3 gs gt e1;go_loopw [10] (fun i wr=>∃k:Nat,k<=l.length/\i=.int .i64 k/\Hid ((∀j,j<k->q7 l j=true)/\Below w.heap.size w wr)) (fun i _=>l.length - (intOf i).toNat)
       case atStart=>exact ⟨0,n0q _,rfl,(fun j h=>by omega),co.o⟩
       case round=>as_aux_lemma=>
        rename World=>wr
        obtain ⟨k,hk,rfl,G⟩:=hrel;have I:w.heap.size<=wr.heap.size:=G.o.2.size;have F:Hid (SL 4 RC (· <B) wr (.slice (some ⟨b6,o6,none⟩) l.length cl) l):=HV.o.keptC (Kp.below (G.o.2.mono hB));by_cases E:k<l.length
        ·obtain ⟨b,off,vf,vm,ak,Z,e0,e1,e2,e3,ef,em,af,ag⟩:=F.o.atC k E;obtain ⟨rfl,rfl⟩:b6=b/\o6=off:=by simpa using ak
         clear ak;have J:Hid (q7 l k=(l[k].fields.all (fun f=>gi l f.kind)&&l[k].ba.all (kq l))):=by show q7 l k=_;rw [q7,zay E]
         have ac:B<=wr.heap.size:=lt3 hB I;have ad:Hid (q7 l k=true->∀w',Below wr.heap.size wr w'->(∀j,j<k+1->q7 l j=true)/\Below w.heap.size w w'):=fun h w' Z=>⟨zow G.o.1 h,G.o.2.trans (Z.mono I)⟩;have O:Hid (q7 l k=false->∀w',Below wr.heap.size wr w'->cd l=5/\Below w.heap.size w w'):=fun h w' Z=>⟨lk7 ai.o H1.o H2.o H3.o H4.o H5.o H6.o (zov E h),G.o.2.trans (Z.mono I)⟩;have ls:=(a1.o l[k] (gm E)).2.2.1;have gg:=(a1.o l[k] (gm E)).2.2.2.2.1;generalize l[k]=c at*;have EF:=ae ef;have EM:=ae em;obtain ⟨fo,cf,rfl,-⟩:=ef;obtain ⟨mo,cm,rfl,-⟩:=em;have bc:=ae (And.intro Z (And.intro e2 e3));have g1:(0:Int)<=k:=by omega
         have a3:(k:Int)<l.length:=by omega
         clear e0 e1 e2 e3 af ag G Z;go_wp2_with fail;go_loopw [11] (fun i wq=>∃j:Nat,j<=c.fields.length/\i=.int .i64 j/\Hid (c.fields.all (fun f=>gi l f.kind)=(c.fields.drop j).all (fun f=>gi l f.kind)/\Below wr.heap.size wr wq)) (fun i _=>c.fields.length - (intOf i).toNat)
         case atStart=>exact ⟨0,n0q _,rfl,rfl,br _ _⟩
         case round=>
          rename World=>wq
          obtain ⟨j,hj,rfl,HJ⟩:=hrel;have es:wr.heap.size<=wq.heap.size:=HJ.o.2.size;have d2:wq.cell? ⟨b6,o6+k*4+2,none⟩=some (.slice fo c.fields.length cf):=(HJ.o.2.cell (p:=⟨b6,o6+k*4+2,none⟩) bc.o.1).trans bc.o.2.1;have j2:b6<wq.heap.size:=ll3 bc.o.1 es;by_cases aq:j<c.fields.length
          ·obtain ⟨bf,of,j4,eh,y0,y1,y2,-,z2⟩:=(EF.o.keptF (Kp.below (HJ.o.2.mono ac))).atF j aq;subst j4;have b3:Hid ((c.fields.drop j).all (fun f=>gi l f.kind)=(gi l c.fields[j].kind&&(c.fields.drop (j+1)).all (fun f=>gi l f.kind))):=by
            show _=_;rw [List.drop_eq_getElem_cons aq,List.all_cons]
           generalize c.fields[j]=x at*;have eg:Below wr.heap.size wr (wq.alloc (.cells #[.int .i64 x.kind.kind,.string x.kind.da] 123)):=HJ.o.2.alloc es _;have b4:=ae (zof (wq.alloc (.cells #[.int .i64 x.kind.kind,.string x.kind.da] 123)) (· <B) (· <wq.heap.size+1) _ _ l [x.kind] (F.o.keptC (Kp.below (eg.mono ac))) (one_K wq x.kind _ wq.heap.size z2 rfl));have cr:Hid ([x.kind].all (gi l)=gi l x.kind):=by show _=_;simp
           rw [cr.o]at b4;have e4:=ae eg;have gw:(0:Int)<=j:=by omega
           have g0:(j:Int)<c.fields.length:=by omega
           clear eg y0 z2;cases hx:gi l x.kind with
           | true=>
             rw [hx]at b4;have D:Hid (c.fields.all (fun f=>gi l f.kind)=(c.fields.drop (j+1)).all (fun f=>gi l f.kind)/\Below wr.heap.size wr (wq.alloc (.cells #[.int .i64 x.kind.kind,.string x.kind.da] 123))):=⟨HJ.o.1.trans (b3.o.trans (by rw [hx,Bool.true_and])),e4.o⟩;clear hx;go_wp2_with (first | (go_at_call 226;refine b4.o.mono ?_;rintro r w7 ⟨rfl,rfl⟩));go_roundw
             case rel=>exact ⟨j+1,by omega,by go_num,D.o⟩
             case measure=>simp [intOf];omega
           | false=>
             rw [hx]at b4;have D:=ae (O.o (J.o.trans (by rw [HJ.o.1,b3.o,hx];simp)) _ e4.o);clear hx;go_wp2_with (first | (go_at_call 226;refine b4.o.mono ?_;rintro r w7 ⟨rfl,rfl⟩));go_ret;exact ⟨by rw [D.o.1];rfl,D.o.2⟩
          have a6:Hid (c.fields.all (fun f=>gi l f.kind)=true):=HJ.o.1.trans (by rw [List.drop_of_length_le (by omega)];rfl);have bs:=ae HJ.o.2;clear HJ;go_wp2_with fail;clear aq hj es d2 j2;go_loopw [12] (fun i wm=>∃j:Nat,j<=c.ba.length/\i=.int .i64 j/\Hid (c.ba.all (kq l)=(c.ba.drop j).all (kq l)/\Below wr.heap.size wr wm)) (fun i _=>c.ba.length - (intOf i).toNat)
          case atStart=>exact ⟨0,n0q _,rfl,rfl,bs.o⟩
          case round=>
           clear bs
           rename World=>wm
           obtain ⟨j,hj,rfl,HJ⟩:=hrel;have c5:wr.heap.size<=wm.heap.size:=HJ.o.2.size;have d3:wm.cell? ⟨b6,o6+k*4+3,none⟩=some (.slice mo c.ba.length cm):=(HJ.o.2.cell (p:=⟨b6,o6+k*4+3,none⟩) bc.o.1).trans bc.o.2.2;have lm:b6<wm.heap.size:=ll3 bc.o.1 c5;by_cases aq:j<c.ba.length
           ·obtain ⟨bm,om,va,vh,j6,k8,m0,m1,m2,m3,m4,m5,m6,m7,m8,sa,sh,k0,g7,k1⟩:=(EM.o.keptM (Kp.below (HJ.o.2.mono ac))).atM j aq;subst j6;have b1:=ae sa;have fi:=ae sh;obtain ⟨aa,ca,rfl,-⟩:=sa;obtain ⟨ah,ch,rfl,-,j5,-⟩:=sh;have b3:Hid ((c.ba.drop j).all (kq l)=(kq l c.ba[j]&&(c.ba.drop (j+1)).all (kq l))):=by
             show _=_;rw [List.drop_eq_getElem_cons aq,List.all_cons]
            generalize c.ba[j]=m at*;have c0:Hid (kq l m=(m.args.all (gi l)&&gi l m.ret&&m.hands.all (fun h=>decide (0<=bv l h.da)))):=rfl;have c2:Below wr.heap.size wr (wm.alloc (.cells #[.string m.name,.bool m.static,.slice aa m.args.length ca,.int .i64 m.ret.kind,.string m.ret.da,.int .i64 m.stack,.int .i64 m.locals,.string m.code,.slice ah m.hands.length ch] 159)):=HJ.o.2.alloc c5 _;have ee:Below wr.heap.size wr ((wm.alloc (.cells #[.string m.name,.bool m.static,.slice aa m.args.length ca,.int .i64 m.ret.kind,.string m.ret.da,.int .i64 m.stack,.int .i64 m.locals,.string m.code,.slice ah m.hands.length ch] 159)).alloc (.cells #[.int .i64 m.ret.kind,.string m.ret.da] 123)):=c2.alloc (by simp;omega) _;have cx:=ae (zof (wm.alloc (.cells #[.string m.name,.bool m.static,.slice aa m.args.length ca,.int .i64 m.ret.kind,.string m.ret.da,.int .i64 m.stack,.int .i64 m.locals,.string m.code,.slice ah m.hands.length ch] 159)) (· <B) (· <B) _ _ l m.args (F.o.keptC (Kp.below (c2.mono ac))) (b1.o.keptK (Kp.below (((br wm.heap.size wm).alloc (nlq _) _).mono (lt3 ac c5)))));have cy:=ae (zof ((wm.alloc (.cells #[.string m.name,.bool m.static,.slice aa m.args.length ca,.int .i64 m.ret.kind,.string m.ret.da,.int .i64 m.stack,.int .i64 m.locals,.string m.code,.slice ah m.hands.length ch] 159)).alloc (.cells #[.int .i64 m.ret.kind,.string m.ret.da] 123)) (· <B) (· <wm.heap.size+1+1) _ _ l [m.ret] (F.o.keptC (Kp.below (ee.mono ac))) (one_K (wm.alloc (.cells #[.string m.name,.bool m.static,.slice aa m.args.length ca,.int .i64 m.ret.kind,.string m.ret.da,.int .i64 m.stack,.int .i64 m.locals,.string m.code,.slice ah m.hands.length ch] 159)) m.ret _ (wm.heap.size+1) g7 (by simp)));have cr:Hid ([m.ret].all (gi l)=gi l m.ret):=by show _=_;simp
            rw [cr.o]at cy;have a7:=ae c2;have cn:=ae ee;have gw:(0:Int)<=j:=by omega
            have g0:(j:Int)<c.ba.length:=by omega
            have d8:Hid (kq l m=false->∀w',Below wr.heap.size wr w'->cd l=5/\Below w.heap.size w w'):=fun h=>O.o (J.o.trans (by rw [HJ.o.1,b3.o,h];simp));clear c2 ee k0 k1;generalize m.args.all (gi l)=ta at*;generalize gi l m.ret=tr at*;cases ta with
            | false=>
              have D:=ae (d8.o (c0.o.trans (by simp)) _ a7.o);go_wp2_with (first | (go_at_call_of 226 (Value.slice aa m.args.length ca);refine cx.o.mono ?_;rintro r w7 ⟨rfl,rfl⟩));go_ret;exact ⟨by rw [D.o.1];rfl,D.o.2⟩
            | true=>
              cases tr with
              | false=>
                have D:=ae (d8.o (c0.o.trans (by simp)) _ cn.o);go_wp2_with (first | (go_at_call_of 226 (Value.slice aa m.args.length ca);refine cx.o.mono ?_;rintro r w7 ⟨rfl,rfl⟩) | (go_at_call 226;refine cy.o.mono ?_;rintro r w7 ⟨rfl,rfl⟩));go_ret;exact ⟨by rw [D.o.1];rfl,D.o.2⟩
              | true=>
                have f8:((wm.alloc (.cells #[.string m.name,.bool m.static,.slice aa m.args.length ca,.int .i64 m.ret.kind,.string m.ret.da,.int .i64 m.stack,.int .i64 m.locals,.string m.code,.slice ah m.hands.length ch] 159)).alloc (.cells #[.int .i64 m.ret.kind,.string m.ret.da] 123)).cell? ⟨wm.heap.size,8,none⟩=some (.slice ah m.hands.length ch):=by simp [go_sem]
                have kn:Hid (SL 4 RH (· <B) ((wm.alloc (.cells #[.string m.name,.bool m.static,.slice aa m.args.length ca,.int .i64 m.ret.kind,.string m.ret.da,.int .i64 m.stack,.int .i64 m.locals,.string m.code,.slice ah m.hands.length ch] 159)).alloc (.cells #[.int .i64 m.ret.kind,.string m.ret.da] 123)) (.slice ah m.hands.length ch) m.hands):=fi.o.keptH (Kp.below ((((br wm.heap.size wm).alloc (nlq _) _).alloc (by simp) _).mono (lt3 ac c5)));have ks:Hid (SL 4 RC (· <B) ((wm.alloc (.cells #[.string m.name,.bool m.static,.slice aa m.args.length ca,.int .i64 m.ret.kind,.string m.ret.da,.int .i64 m.stack,.int .i64 m.locals,.string m.code,.slice ah m.hands.length ch] 159)).alloc (.cells #[.int .i64 m.ret.kind,.string m.ret.da] 123)) (.slice (some ⟨b6,o6,none⟩) l.length cl) l):=F.o.keptC (Kp.below (cn.o.mono ac));have l1:wm.heap.size<((wm.alloc (.cells #[.string m.name,.bool m.static,.slice aa m.args.length ca,.int .i64 m.ret.kind,.string m.ret.da,.int .i64 m.stack,.int .i64 m.locals,.string m.code,.slice ah m.hands.length ch] 159)).alloc (.cells #[.int .i64 m.ret.kind,.string m.ret.da] 123)).heap.size:=by simp;omega
                have dz:Hid (kq l m=m.hands.all (fun h=>decide (0<=bv l h.da))):=c0.o.trans (by simp);unfold maxLen at j5
                go_upto_region 44 with (first | (go_at_call_of 226 (Value.slice aa m.args.length ca);refine cx.o.mono ?_;rintro r w7 ⟨rfl,rfl⟩) | (go_at_call 226;refine cy.o.mono ?_;rintro r w7 ⟨rfl,rfl⟩))
                clear cx cy a7 b1 fi m0 m1 m2 m3 m4 m5 m6 m7 m8 g7 c0 cr;generalize hW2:((wm.alloc (.cells #[.string m.name,.bool m.static,.slice aa m.args.length ca,.int .i64 m.ret.kind,.string m.ret.da,.int .i64 m.stack,.int .i64 m.locals,.string m.code,.slice ah m.hands.length ch] 159)).alloc (.cells #[.int .i64 m.ret.kind,.string m.ret.da] 123))=W2 at*;clear hW2;go_wp2_with fail;go_loopw [14] (fun i L=>∃q:Nat,q<=m.hands.length/\i=.int .i64 q/\Hid (m.hands.all (fun h=>decide (0<=bv l h.da))=(m.hands.drop q).all (fun h=>decide (0<=bv l h.da)))/\L=W2) (fun i _=>m.hands.length - (intOf i).toNat)
                case atStart=>exact ⟨0,n0q _,rfl,rfl,rfl⟩
                case round=>
                 obtain ⟨q,hq,rfl,HH,rfl⟩:=hrel
                 rename World=>W2
                 by_cases av:q<m.hands.length
                 ·obtain ⟨bh,oh,j1,lk,y0,y1,y2,y3,z⟩:=kn.o.atH q av;subst j1;have b2:Hid ((m.hands.drop q).all (fun h=>decide (0<=bv l h.da))=(decide (0<=bv l m.hands[q].da)&&(m.hands.drop (q+1)).all (fun h=>decide (0<=bv l h.da)))):=by
                   show _=_;rw [List.drop_eq_getElem_cons av,List.all_cons]
                  have an:=ae (zoe W2 (· <B) _ l m.hands[q].da ks.o);have d1:=(zod l m.hands[q].da).1;have d4:=(zod l m.hands[q].da).2;generalize m.hands[q]=x at*;generalize bv l x.da=fa at*;have eo:(0:Int)<=q:=by omega
                  have eq:(q:Int)<m.hands.length:=by omega
                  clear y0 y1 y2 z;by_cases hf:fa<0
                  ·have D:=ae (d8.o (dz.o.trans (HH.o.trans (by rw [b2.o];simp;omega))) _ cn.o);go_wp2_with (first | (go_at_call 184;refine an.o.mono ?_;rintro r w7 ⟨rfl,rfl⟩));go_ret;exact ⟨by rw [D.o.1];rfl,D.o.2⟩
                  have D:Hid (m.hands.all (fun h=>decide (0<=bv l h.da))=(m.hands.drop (q+1)).all (fun h=>decide (0<=bv l h.da))):=HH.o.trans (by
                   rw [b2.o];have:(0:Int)<=fa:=by omega
                   simp [this])
                  go_wp2_with (first | (go_at_call 184;refine an.o.mono ?_;rintro r w7 ⟨rfl,rfl⟩));go_roundw
                  case rel=>exact ⟨q+1,by omega,by go_num,D.o,trivial⟩
                  case measure=>simp [intOf];omega
                 have h8:Hid (kq l m=true):=dz.o.trans (HH.o.trans (by rw [List.drop_of_length_le (by omega)];rfl));have D:Hid (c.ba.all (kq l)=(c.ba.drop (j+1)).all (kq l)/\Below wr.heap.size wr W2):=⟨HJ.o.1.trans (b3.o.trans (by rw [h8.o,Bool.true_and])),cn.o⟩;go_wp2_with fail;go_roundw
                 case rel=>exact ⟨j+1,by omega,by go_num,D.o⟩
                 case measure=>simp [intOf];omega
           have hd:Hid (c.ba.all (kq l)=true):=HJ.o.1.trans (by rw [List.drop_of_length_le (by omega)];rfl);have D:=ae (ad.o (J.o.trans (by rw [a6.o,hd.o];rfl)) _ HJ.o.2);go_wp2_with fail;go_roundw
           case rel=>exact ⟨k+1,by omega,by go_num,D.o⟩
           case measure=>simp [intOf];omega
        have H7:Hid (ev l (q7 l)=true):=zou E G.o.1;have bn:=ae G.o.2;clear G F;go_wp2_with fail;clear E hk I;go_loopw [15] (fun i wr=>∃k:Nat,k<=l.length/\i=.int .i64 k/\Hid ((∀j,j<k->q8 l j=true)/\Below w.heap.size w wr)) (fun i _=>l.length - (intOf i).toNat)
        case atStart=>exact ⟨0,n0q _,rfl,(fun j h=>by omega),bn.o⟩
        case round=>as_aux_lemma=>
         rename World=>wr
         obtain ⟨k,hk,rfl,G⟩:=hrel;have I:w.heap.size<=wr.heap.size:=G.o.2.size;have F:Hid (SL 4 RC (· <B) wr (.slice (some ⟨b6,o6,none⟩) l.length cl) l):=HV.o.keptC (Kp.below (G.o.2.mono hB));by_cases E:k<l.length
         ·have a6:=ae (zon wr B _ l k E F.o (lt3 hB I) hN (fun c hc=>(a1.o c hc).2.2.1));obtain ⟨b,off,vf,vm,ak,Z,e0,e1,e2,e3,ef,em,af,ag⟩:=F.o.atC k E;obtain ⟨rfl,rfl⟩:b6=b/\o6=off:=by simpa using ak
          have gg:=(a1.o l[k] (gm E)).2.2.2.2.1;have J:Hid (q8 l k=(dc ((jv l k).map (·.name))&&dc (l[k].ba.map (·.name)))):=by show q8 l k=_;rw [q8,zay E]
          have ac:B<=wr.heap.size:=lt3 hB I;have ad:Hid (q8 l k=true->∀w',Below wr.heap.size wr w'->(∀j,j<k+1->q8 l j=true)/\Below w.heap.size w w'):=fun h w' Z=>⟨zow G.o.1 h,G.o.2.trans (Z.mono I)⟩;have O:Hid (q8 l k=false->∀w',Below wr.heap.size wr w'->cd l=6/\Below w.heap.size w w'):=fun h w' Z=>⟨lk8 ai.o H1.o H2.o H3.o H4.o H5.o H6.o H7.o (zov E h),G.o.2.trans (Z.mono I)⟩;generalize l[k]=c at*;generalize jv l k=fs at*;have EM:=ae em;obtain ⟨mo,cm,rfl,-⟩:=em;have al:=ae (And.intro Z e3);have g1:(0:Int)<=k:=by omega
          have a3:(k:Int)<l.length:=by omega
          have ct:Hid (dc (fs.map (·.name))=false->q8 l k=false):=fun h=>J.o.trans (by rw [h];rfl);clear e0 e1 e2 e3 af ag G Z ef ak;go_wp2_with (first | (go_at_call 182;refine a6.o.mono ?_;rintro r V ⟨ax,u8,rfl,a0⟩;have N:=ae ax;have bi:=ae a0;obtain ⟨a8,c8,rfl,-,gv,-⟩:=a0;clear ax));unfold maxLen at gv;clear a6;go_loopw [17] (fun i L=>∃p:Nat,p<=fs.length/\i=.int .i64 p/\Hid (∀(i j:Nat) (hi:i<fs.length) (hj:j<fs.length),j<p->i<j->fs[i].name≠fs[j].name)/\∃n,L=V.drewN n) (fun i _=>fs.length - (intOf i).toNat)
          case atStart=>exact ⟨0,n0q _,rfl,(fun _ _ _ _ h=>by omega),0,rfl⟩
          case round=>
           obtain ⟨p,hp,rfl,HP,nz,rfl⟩:=hrel;by_cases ay:p<fs.length
           ·go_wp2_with fail;go_loopw [18] (fun i L=>∃q:Nat,q<=p/\i=.int .i64 q/\Hid (∀(i:Nat) (hi:i<fs.length),i<q->fs[i].name≠fs[p].name)/\∃n,L=V.drewN n) (fun i _=>p - (intOf i).toNat)
            case atStart=>exact ⟨0,n0q _,rfl,(fun _ _ h=>by omega),nz,rfl⟩
            case round=>
             clear nz;obtain ⟨q,hq,rfl,b0,nz,rfl⟩:=hrel;by_cases av:q<p
             ·have ci:q<fs.length:=by omega
              obtain ⟨bf,of,rfl,eh,x0,x1,x2,-,-⟩:=bi.o.atF q ci;obtain ⟨eb,ex,cc,f5,y0,y1,y2,-,-⟩:=bi.o.atF p ay;obtain ⟨rfl,rfl⟩:bf=eb/\of=ex:=by simpa using cc
              clear x1 x2 y1 y2 cc;have eo:(0:Int)<=q:=by omega
              have eq:(q:Int)<fs.length:=by omega
              have g3:(0:Int)<=p:=by omega
              have g4:(p:Int)<fs.length:=by omega
              by_cases hs:fs[q].name=fs[p].name
              ·have D:Hid (∀n,cd l=6/\Below w.heap.size w (V.drewN n)):=fun n=>O.o (ct.o (zo0 (fun x=>x.name) fs q p ci ay av hs)) _ (ku N.o n);have cj:(fs[q].name.toList==fs[p].name.toList)=true:=by rw [hs];simp
               clear hs;go_wp2_with fail;go_quiet (fail);go_wp2_with fail;go_ret;exact ⟨by rw [(D.o 0).1];rfl,ku (D.o nz).2 _⟩
              have D:Hid (∀(i:Nat) (hi:i<fs.length),i<q+1->fs[i].name≠fs[p].name):=fun i hi h=>by
               by_cases ej:i<q
               ·exact b0.o i hi ej
               have:i=q:=by omega
               subst this;exact hs
              have cj:(fs[q].name.toList==fs[p].name.toList)=false:=by rw [beq_eq_false_iff_ne];exact fun e=>hs (zb9 e)
              clear hs;go_wp2_with fail;go_quiet (fail);go_wp2_with fail;go_roundw
              case rel=>exact ⟨q+1,by omega,by go_num,D.o,_,rfl⟩
              case measure=>simp [intOf];omega
             have D:Hid (∀(i j:Nat) (hi:i<fs.length) (hj:j<fs.length),j<p+1->i<j->fs[i].name≠fs[j].name):=fun i j hi hj h1 h2=>by
              by_cases el:j<p
              ·exact HP.o i j hi hj el h2
              have:j=p:=by omega
              subst this;exact b0.o i hi (by omega)
             go_wp2_with fail;go_roundw
             case rel=>exact ⟨p+1,by omega,by go_num,D.o,nz,rfl⟩
             case measure=>simp [intOf];omega
           have hw:=ae (zoz (fun x=>x.name) fs fun i j hi hj h=>HP.o i j hi hj (by omega) h);have lc:V.cell? ⟨b6,o6+k*4+3,none⟩=some (.slice mo c.ba.length cm):=(N.o.cell (p:=⟨b6,o6+k*4+3,none⟩) al.o.1).trans al.o.2;have k7:b6<V.heap.size:=ll3 al.o.1 N.o.size;go_wp2_with fail;clear ay hp HP;have dd:Hid (SL 9 RM (· <B) V (.slice mo c.ba.length cm) c.ba):=EM.o.keptM (Kp.below (N.o.mono ac));clear bi;have bi:=ae dd.o;have dg:Hid (dc (c.ba.map (·.name))=false->q8 l k=false):=fun h=>J.o.trans (by rw [h];simp);clear ct;have ct:=ae dg.o;clear dd dg;go_loopw [20] (fun i L=>∃p:Nat,p<=c.ba.length/\i=.int .i64 p/\Hid (∀(i j:Nat) (hi:i<c.ba.length) (hj:j<c.ba.length),j<p->i<j->c.ba[i].name≠c.ba[j].name)/\∃n,L=V.drewN n) (fun i _=>c.ba.length - (intOf i).toNat)
           case atStart=>exact ⟨0,n0q _,rfl,(fun _ _ _ _ h=>by omega),nz,rfl⟩
           case round=>
            obtain ⟨p,hp,rfl,HP,nz,rfl⟩:=hrel;by_cases ay:p<c.ba.length
            ·go_wp2_with fail;go_loopw [21] (fun i L=>∃q:Nat,q<=p/\i=.int .i64 q/\Hid (∀(i:Nat) (hi:i<c.ba.length),i<q->c.ba[i].name≠c.ba[p].name)/\∃n,L=V.drewN n) (fun i _=>p - (intOf i).toNat)
             case atStart=>exact ⟨0,n0q _,rfl,(fun _ _ h=>by omega),nz,rfl⟩
             case round=>
              clear nz;obtain ⟨q,hq,rfl,b0,nz,rfl⟩:=hrel;by_cases av:q<p
              ·have ci:q<c.ba.length:=by omega
               obtain ⟨bf,of,va,vh,rfl,eh,x0,x1,x2,x3,x4,x5,x6,x7,x8,-,-,-,-,-⟩:=bi.o.atM q ci;obtain ⟨eb,ex,k4,k5,cc,f5,y0,y1,y2,y3,y4,y5,y6,y7,y8,-,-,-,-,-⟩:=bi.o.atM p ay;obtain ⟨rfl,rfl⟩:bf=eb/\of=ex:=by simpa using cc
               clear x1 x2 x3 x4 x5 x6 x7 x8 y1 y2 y3 y4 y5 y6 y7 y8 cc;have eo:(0:Int)<=q:=by omega
               have eq:(q:Int)<c.ba.length:=by omega
               have g3:(0:Int)<=p:=by omega
               have g4:(p:Int)<c.ba.length:=by omega
               by_cases hs:c.ba[q].name=c.ba[p].name
               ·have D:Hid (∀n,cd l=6/\Below w.heap.size w (V.drewN n)):=fun n=>O.o (ct.o (zo0 (fun x=>x.name) c.ba q p ci ay av hs)) _ (ku N.o n);have cj:(c.ba[q].name.toList==c.ba[p].name.toList)=true:=by rw [hs];simp
                clear hs;go_wp2_with fail;go_quiet (fail);go_wp2_with fail;go_ret;exact ⟨by rw [(D.o 0).1];rfl,ku (D.o nz).2 _⟩
               have D:Hid (∀(i:Nat) (hi:i<c.ba.length),i<q+1->c.ba[i].name≠c.ba[p].name):=fun i hi h=>by
                by_cases ej:i<q
                ·exact b0.o i hi ej
                have:i=q:=by omega
                subst this;exact hs
               have cj:(c.ba[q].name.toList==c.ba[p].name.toList)=false:=by rw [beq_eq_false_iff_ne];exact fun e=>hs (zb9 e)
               clear hs;go_wp2_with fail;go_quiet (fail);go_wp2_with fail;go_roundw
               case rel=>exact ⟨q+1,by omega,by go_num,D.o,_,rfl⟩
               case measure=>simp [intOf];omega
              have D:Hid (∀(i j:Nat) (hi:i<c.ba.length) (hj:j<c.ba.length),j<p+1->i<j->c.ba[i].name≠c.ba[j].name):=fun i j hi hj h1 h2=>by
               by_cases el:j<p
               ·exact HP.o i j hi hj el h2
               have:j=p:=by omega
               subst this;exact b0.o i hi (by omega)
              go_wp2_with fail;go_roundw
              case rel=>exact ⟨p+1,by omega,by go_num,D.o,nz,rfl⟩
              case measure=>simp [intOf];omega
            have hy:=ae (zoz (fun x=>x.name) c.ba fun i j hi hj h=>HP.o i j hi hj (by omega) h);have D:=ae (ad.o (J.o.trans (by rw [hw.o,hy.o];rfl)) _ (ku N.o nz));go_wp2_with fail;go_roundw
            case rel=>exact ⟨k+1,by omega,by go_num,D.o⟩
            case measure=>simp [intOf];omega
         have H8:Hid (ev l (q8 l)=true):=zou E G.o.1;have hr:=ae G.o.2;clear G F;go_wp2_with fail;clear E hk I;go_loopw [22] (fun i wr=>∃k:Nat,k<=l.length/\i=.int .i64 k/\Hid ((∀j,j<k->q9 l j=true)/\Below w.heap.size w wr)) (fun i _=>l.length - (intOf i).toNat)
         case atStart=>exact ⟨0,n0q _,rfl,(fun j h=>by omega),hr.o⟩
         case round=>as_aux_lemma=>
          rename World=>wr
          obtain ⟨k,hk,rfl,G⟩:=hrel;have I:w.heap.size<=wr.heap.size:=G.o.2.size;have F:Hid (SL 4 RC (· <B) wr (.slice (some ⟨b6,o6,none⟩) l.length cl) l):=HV.o.keptC (Kp.below (G.o.2.mono hB));by_cases E:k<l.length
          ·have b5:=ae (zom wr B _ l k E F.o (lt3 hB I) hN);obtain ⟨b,off,vf,vm,ak,Z,e0,e1,e2,e3,ef,em,af,ag⟩:=F.o.atC k E;obtain ⟨rfl,rfl⟩:b6=b/\o6=off:=by simpa using ak
           have gg:=(a1.o l[k] (gm E)).2.2.2.2.1;have J:Hid (q9 l k=(mb l k).dropLast.all fun u=>l[k].ba.all fun x=>(b9 l u).ba.all fun y=>iv x y):=by show q9 l k=_;rw [q9,zay E]
           have ac:B<=wr.heap.size:=lt3 hB I;have ad:Hid (q9 l k=true->∀w',Below wr.heap.size wr w'->(∀j,j<k+1->q9 l j=true)/\Below w.heap.size w w'):=fun h w' Z=>⟨zow G.o.1 h,G.o.2.trans (Z.mono I)⟩;have O:Hid (q9 l k=false->∀w',Below wr.heap.size wr w'->cd l=4/\Below w.heap.size w w'):=fun h w' Z=>⟨lk9 ai.o H1.o H2.o H3.o H4.o H5.o H6.o H7.o H8.o (zov E h),G.o.2.trans (Z.mono I)⟩;obtain ⟨g2,kt⟩:=zoh E;have h4:=ae g2;generalize l[k]=c at*;generalize mb l k=up at*;have EM:=ae em;obtain ⟨mo,cm,rfl,-⟩:=em;have al:=ae (And.intro Z e3);have g1:(0:Int)<=k:=by omega
           have a3:(k:Int)<l.length:=by omega
           clear e0 e1 e2 e3 af ag G Z ef ak g2;go_wp2_with (first | (go_at_call 225;refine b5.o.mono ?_;rintro r V ⟨ax,u8,rfl,a0⟩;have N:=ae ax;have h9:=ae a0;obtain ⟨a8,c8,rfl,-⟩:=a0;clear ax));clear b5;go_loopw [24] (fun i L=>∃p:Nat,p<=up.dropLast.length/\i=.int .i64 p/\Hid (up.dropLast.all (fun u=>c.ba.all fun x=>(b9 l u).ba.all fun y=>iv x y)=(up.dropLast.drop p).all (fun u=>c.ba.all fun x=>(b9 l u).ba.all fun y=>iv x y)/\Below V.heap.size V L)) (fun i _=>up.dropLast.length - (intOf i).toNat)
           case atStart=>exact ⟨0,n0q _,rfl,rfl,br _ _⟩
           case round=>as_aux_lemma=>
            rename World=>L
            obtain ⟨p,hp,rfl,HP⟩:=hrel;have lv:up.dropLast.length=up.length - 1:=List.length_dropLast;by_cases ay:p<up.dropLast.length
            ·have g5:p<up.length:=by omega
             have kk:(p:Int)<(up.length:Int) - 1:=by omega
             obtain ⟨bu,ou,rfl,f9,eu⟩:=h9.o.atO p g5;have c6:=h4.o up[p] (gm g5);have fl:Hid ((up.dropLast.drop p).all (fun u=>c.ba.all fun x=>(b9 l u).ba.all fun y=>iv x y)=((fun u=>c.ba.all fun x=>(b9 l u).ba.all fun y=>iv x y) up[p]&&(up.dropLast.drop (p+1)).all (fun u=>c.ba.all fun x=>(b9 l u).ba.all fun y=>iv x y))):=by show _=_;rw [List.drop_eq_getElem_cons ay,List.all_cons,List.getElem_dropLast]
             obtain ⟨b,off,l4,l5,ak,f2,-,-,-,f0,-,c1,-,-⟩:=(F.o.keptC (Kp.below (N.o.mono ac))).atC up[p] c6;obtain ⟨rfl,rfl⟩:b6=b/\o6=off:=by simpa using ak
             rw [<-zay c6]at c1;obtain ⟨kw,jn,rfl,-⟩:=id c1;have gl:=(a1.o l[up[p]] (gm c6)).2.2.2.2.1;rw [<-zay c6]at gl;have d6:=ae (And.intro f9 eu);have a4:=ae (And.intro f2 f0);have g8:=ae c1;have g9:=ae (EM.o.keptM (Kp.below (N.o.mono ac)));clear eu f0 c1 ak f2 f9;generalize up[p]=uu at*;have ds:Hid ((up.dropLast.drop p).all (fun u=>c.ba.all fun x=>(b9 l u).ba.all fun y=>iv x y)=((c.ba.all fun x=>(b9 l uu).ba.all fun y=>iv x y)&&(up.dropLast.drop (p+1)).all (fun u=>c.ba.all fun x=>(b9 l u).ba.all fun y=>iv x y))):=fl.o;clear fl;generalize (b9 l uu).ba=ms at*;have l2:(0:Int)<=uu:=by omega
             have l3:(uu:Int)<l.length:=by omega
             have g3:(0:Int)<=p:=by omega
             have g4:(p:Int)<up.length:=by omega
             have h6:Hid ((c.ba.all (fun x=>ms.all fun y=>iv x y))=false->∀w',Below V.heap.size V w'->cd l=4/\Below w.heap.size w w'):=fun h w' Z=>O.o (J.o.trans (by rw [HP.o.1,ds.o,h,Bool.false_and])) w' (N.o.trans (Z.mono N.o.size));have bw:=ae HP.o.2;go_wp2_with fail;go_loopw [25] (fun i L=>∃j:Nat,j<=c.ba.length/\i=.int .i64 j/\Hid (c.ba.all (fun x=>ms.all fun y=>iv x y)=(c.ba.drop j).all (fun x=>ms.all fun y=>iv x y)/\Below V.heap.size V L)) (fun i _=>c.ba.length - (intOf i).toNat)
             case atStart=>exact ⟨0,n0q _,rfl,rfl,bw.o⟩
             case round=>as_aux_lemma=>
              clear bw
              rename World=>L
              obtain ⟨j,hj,rfl,HJ⟩:=hrel;have az:V.heap.size<=L.heap.size:=HJ.o.2.size;have d3:L.cell? ⟨b6,o6+k*4+3,none⟩=some (.slice mo c.ba.length cm):=(HJ.o.2.cell (p:=⟨b6,o6+k*4+3,none⟩) (ll3 al.o.1 N.o.size)).trans ((N.o.cell (p:=⟨b6,o6+k*4+3,none⟩) al.o.1).trans al.o.2);have b7:b6<L.heap.size:=ll3 a4.o.1 az;by_cases aq:j<c.ba.length
              ·have fj:Hid ((c.ba.drop j).all (fun x=>ms.all fun y=>iv x y)=((ms.all fun y=>iv c.ba[j] y)&&(c.ba.drop (j+1)).all (fun x=>ms.all fun y=>iv x y))):=by
                show _=_;rw [List.drop_eq_getElem_cons aq,List.all_cons]
               have h5:Hid ((ms.all fun y=>iv c.ba[j] y)=false->∀w',Below V.heap.size V w'->cd l=4/\Below w.heap.size w w'):=fun h=>h6.o (by rw [HJ.o.1,fj.o,h,Bool.false_and]);have bw:=ae HJ.o.2;go_wp2_with fail;clear d3 b7 az;go_loopw [26] (fun i L=>∃q:Nat,q<=ms.length/\i=.int .i64 q/\Hid ((ms.all fun y=>iv c.ba[j] y)=((ms.drop q).all fun y=>iv c.ba[j] y)/\Below V.heap.size V L)) (fun i _=>ms.length - (intOf i).toNat)
               case atStart=>exact ⟨0,n0q _,rfl,rfl,bw.o⟩
               case round=>as_aux_lemma=>
                clear bw
                rename World=>L
                obtain ⟨q,hq,rfl,aj⟩:=hrel;have az:V.heap.size<=L.heap.size:=aj.o.2.size;have c4:B<=V.heap.size:=lt3 ac N.o.size;have d3:L.cell? ⟨b6,o6+k*4+3,none⟩=some (.slice mo c.ba.length cm):=(aj.o.2.cell (p:=⟨b6,o6+k*4+3,none⟩) (ll3 al.o.1 N.o.size)).trans ((N.o.cell (p:=⟨b6,o6+k*4+3,none⟩) al.o.1).trans al.o.2);have jz:L.cell? ⟨b6,o6+uu*4+3,none⟩=some (.slice kw ms.length jn):=(aj.o.2.cell (p:=⟨b6,o6+uu*4+3,none⟩) a4.o.1).trans a4.o.2;have du:L.cell? ⟨bu,ou+p,none⟩=some (.int .i64 uu):=(aj.o.2.cell (p:=⟨bu,ou+p,none⟩) d6.o.1).trans d6.o.2;have b7:b6<L.heap.size:=ll3 a4.o.1 az;have gb:bu<L.heap.size:=ll3 d6.o.1 az;by_cases av:q<ms.length
                ·obtain ⟨bx,ox,va,vh,ka,ln,x0,x1,x2,x3,x4,x5,x6,x7,x8,sa,sh,-,-,-⟩:=(g9.o.keptM (Kp.below (aj.o.2.mono c4))).atM j aq;obtain ⟨lb,oy,k4,k5,kb,lp,y0,y1,y2,y3,y4,y5,y6,y7,y8,g6,kx,-,-,-⟩:=(g8.o.keptM (Kp.below (aj.o.2.mono c4))).atM q av;subst ka kb;have b1:=ae sa;have dl:=ae g6;obtain ⟨aa,ca,rfl,-⟩:=sa;obtain ⟨ah,ch,rfl,-⟩:=sh;obtain ⟨fr,fz,rfl,-⟩:=g6;obtain ⟨it,ix,rfl,-⟩:=kx;have b2:Hid (((ms.drop q).all fun y=>iv c.ba[j] y)=(iv c.ba[j] ms[q]&&(ms.drop (q+1)).all fun y=>iv c.ba[j] y)):=by
                  show _=_;rw [List.drop_eq_getElem_cons av,List.all_cons]
                 have c9:Hid (iv c.ba[j] ms[q]=false->∀w',Below V.heap.size V w'->cd l=4/\Below w.heap.size w w'):=fun h=>h5.o (by rw [aj.o.1,b2.o,h,Bool.false_and]);have bz:Hid (iv c.ba[j] ms[q]=true->((ms.all fun y=>iv c.ba[j] y)=((ms.drop (q+1)).all fun y=>iv c.ba[j] y))):=fun h=>aj.o.1.trans (by rw [b2.o,h,Bool.true_and]);generalize hxx:c.ba[j]=x at*;generalize ms[q]=y at*;clear hxx;have gw:(0:Int)<=j:=by omega
                 have g0:(j:Int)<c.ba.length:=by omega
                 have eo:(0:Int)<=q:=by omega
                 have eq:(q:Int)<ms.length:=by omega
                 have bs:=ae aj.o.2
                 go_upto_region 83 with fail
                 go_cut [27,28] (fun k2 k3 W=>∃X Y,k2=.pointer (some ⟨X,0,none⟩)/\k3=.pointer (some ⟨Y,0,none⟩)/\W.heap[X]? =some (.cells #[.string x.name,.bool x.static,.slice aa x.args.length ca,.int .i64 x.ret.kind,.string x.ret.da,.int .i64 x.stack,.int .i64 x.locals,.string x.code,.slice ah x.hands.length ch] 159 (0,0))/\W.heap[Y]? =some (.cells #[.string y.name,.bool y.static,.slice fr y.args.length fz,.int .i64 y.ret.kind,.string y.ret.da,.int .i64 y.stack,.int .i64 y.locals,.string y.code,.slice it y.hands.length ix] 159 (0,0))/\Below L.heap.size L W)
                 case first=>
                  have F1:∀(cs:Array Value) (t:Nat) (C:Obj),(((L.alloc (.cells cs t)).alloc C).drew).heap[L.heap.size]? =some (.cells cs t (0,0)):=fun cs t C=>(Below.heap_alloc _ _ _ (by simp)).trans (heap_alloc_new L _);have F2:∀(A:Obj) (cs:Array Value) (t:Nat),(((L.alloc A).alloc (.cells cs t)).drew).heap[L.heap.size+1]? =some (.cells cs t (0,0)):=fun A cs t=>by
                   have:=heap_alloc_new (L.alloc A) (.cells cs t);have e:(L.alloc A).heap.size=L.heap.size+1:=by simp
                   rw [e]at this;exact this
                  have F3:∀A C,Below L.heap.size L (((L.alloc A).alloc C).drew):=fun A C=>(((br _ _).alloc (nlq _) _).alloc (by simp) _).drew;have e6:=ae F1;have e7:=ae F2;have e8:=ae F3;clear F1 F2 F3
                  go_region_held3 (fun W'=>∀p:Addr,p.block<L.heap.size->W'.cell? p=L.cell? p) (exact fun p hp=>Below.cell (B:=L.heap.size) (w:=L) (by repeat (first | exact br _ _ | refine Below.drew ?_ | refine Below.alloc ?_ (by simp<;>omega) _ | refine Below.setCell ?_ (by simp) _)) hp) (fail)
                  all_goals
                   go_wp2_with fail
                   go_meet
                   first
                    | exact ⟨L.heap.size,L.heap.size+1,rfl,rfl,e6.o _ _ _,e7.o _ _ _,e8.o _ _⟩
                    | exact ⟨L.heap.size+1,L.heap.size,rfl,rfl,e7.o _ _ _,e6.o _ _ _,e8.o _ _⟩
                 case rest=>
                  as_aux_lemma=>
                   clear x0 x1 x2 x3 x4 x5 x6 x7 x8 y0 y1 y2 y3 y4 y5 y6 y7 y8 d3 jz du b7 gb
                   rename World=>W
                   obtain ⟨X,Y,rfl,rfl,hX,hY,c3⟩:=hcut;have X0:=aw hX 0 (x:=.string x.name) rfl;have X1:=aw hX 1 (x:=.bool x.static) rfl;have X2:=aw hX 2 (x:=.slice aa x.args.length ca) rfl;have X3:=aw hX 3 (x:=.int .i64 x.ret.kind) rfl;have X4:=aw hX 4 (x:=.string x.ret.da) rfl;have Y0:=aw hY 0 (x:=.string y.name) rfl;have Y1:=aw hY 1 (x:=.bool y.static) rfl;have Y2:=aw hY 2 (x:=.slice fr y.args.length fz) rfl;have Y3:=aw hY 3 (x:=.int .i64 y.ret.kind) rfl;have Y4:=aw hY 4 (x:=.string y.ret.da) rfl;have le:=bk hX;have lf:=bk hY;have c7:Below V.heap.size V W:=bs.o.trans (c3.mono az);have e5:Hid (∀n,Below V.heap.size V (W.drewN n)):=fun n=>ku c7 n;have bl:=ae (zos W (· <B) (· <B) _ _ x.args y.args (b1.o.keptK (Kp.below (c3.mono (lt3 c4 az)))) (dl.o.keptK (Kp.below (c3.mono (lt3 c4 az)))));have l0:=kindNeq x.ret y.ret;have lz:=kindNeqG;have be:Hid (iv x y=(!decide (x.name=y.name)||(!x.static&& !y.static&&cz dv x.args y.args&&dv x.ret y.ret))):=rfl;have d0:Hid (iv x y=true->∀n,((ms.all fun z=>iv x z)=((ms.drop (q+1)).all fun z=>iv x z))/\Below V.heap.size V (W.drewN n)):=fun h n=>⟨bz.o h,e5.o n⟩;have a5:Hid (iv x y=false->∀n,cd l=4/\Below w.heap.size w (W.drewN n)):=fun h n=>c9.o h _ (e5.o n);clear hX hY c3 c7 b1 dl c9 bz bs;generalize cz dv x.args y.args=ek at*;generalize dv x.ret y.ret=er at*;generalize x.static=sx at*;generalize y.static=sy at*;by_cases hn:x.name=y.name
                   rotate_left
                   ·have cj:(x.name.toList==y.name.toList)=false:=beq_eq_false_iff_ne.2 fun e=>hn (zb9 e);have D:=ae (d0.o (be.o.trans (by simp [hn])) 0);clear hn bl;go_wp2_with fail;go_roundw
                    case rel=>exact ⟨q+1,by omega,by go_num,D.o⟩
                    case measure=>simp [intOf];omega
                   have cj:(x.name.toList==y.name.toList)=true:=by rw [hn];simp
                   cases sx with
                   | true=>
                     have D:=ae (a5.o (be.o.trans (by simp [hn])) 0);clear hn bl;go_wp2_with fail;go_ret;exact ⟨by rw [D.o.1];rfl,D.o.2⟩
                   | false=>
                     cases sy with
                     | true=>
                       have D:=ae (a5.o (be.o.trans (by simp [hn])) 0);clear hn bl;go_wp2_with fail;go_ret;exact ⟨by rw [D.o.1];rfl,D.o.2⟩
                     | false=>
                       cases ek with
                       | false=>
                         have D:=ae (a5.o (be.o.trans (by simp [hn])));clear hn;go_wp2_with (first | (go_at_call 227;refine bl.o.mono ?_;rintro r w9 ⟨rfl,n9,rfl⟩));go_ret;exact ⟨by rw [(D.o 0).1];rfl,(D.o _).2⟩
                       | true=>
                         cases er with
                         | false=>
                           have D:=ae (a5.o (be.o.trans (by simp [hn])));clear hn;go_wp2_with (first | (go_at_call 227;refine bl.o.mono ?_;rintro r w9 ⟨rfl,n9,rfl⟩));go_ret;exact ⟨by rw [(D.o 0).1];rfl,(D.o _).2⟩
                         | true=>
                           have D:=ae (d0.o (be.o.trans (by simp [hn])));clear hn;go_wp2_with (first | (go_at_call 227;refine bl.o.mono ?_;rintro r w9 ⟨rfl,n9,rfl⟩));go_roundw
                           case rel=>exact ⟨q+1,by omega,by go_num,D.o _⟩
                           case measure=>simp [intOf];omega
                have hh:Hid ((ms.all fun y=>iv c.ba[j] y)=true):=aj.o.1.trans (by rw [List.drop_of_length_le (by omega)];rfl);have D:Hid (c.ba.all (fun x=>ms.all fun y=>iv x y)=(c.ba.drop (j+1)).all (fun x=>ms.all fun y=>iv x y)/\Below V.heap.size V L):=⟨HJ.o.1.trans (fj.o.trans (by rw [hh.o,Bool.true_and])),aj.o.2⟩;go_wp2_with fail;go_roundw
                case rel=>exact ⟨j+1,by omega,by go_num,D.o⟩
                case measure=>simp [intOf];omega
              have ha:Hid (c.ba.all (fun x=>ms.all fun y=>iv x y)=true):=HJ.o.1.trans (by rw [List.drop_of_length_le (by omega)];rfl);have D:Hid (up.dropLast.all (fun u=>c.ba.all fun x=>(b9 l u).ba.all fun y=>iv x y)=(up.dropLast.drop (p+1)).all (fun u=>c.ba.all fun x=>(b9 l u).ba.all fun y=>iv x y)/\Below V.heap.size V L):=⟨HP.o.1.trans (ds.o.trans (by rw [ha.o,Bool.true_and])),HJ.o.2⟩;go_wp2_with fail;go_roundw
              case rel=>exact ⟨p+1,by omega,by go_num,D.o⟩
              case measure=>simp [intOf];omega
            have hg:Hid (up.dropLast.all (fun u=>c.ba.all fun x=>(b9 l u).ba.all fun y=>iv x y)=true):=HP.o.1.trans (by rw [List.drop_of_length_le (by omega)];rfl);have D:=ae (ad.o (J.o.trans hg.o) _ (N.o.trans (HP.o.2.mono N.o.size)));have kk:¬(p:Int)<(up.length:Int) - 1:=by omega
            go_wp2_with fail;go_roundw
            case rel=>exact ⟨k+1,by omega,by go_num,D.o⟩
            case measure=>simp [intOf];omega
          have H9:Hid (ev l (q9 l)=true):=zou E G.o.1;have D:=ae (lk10 ai.o H1.o H2.o H3.o H4.o H5.o H6.o H7.o H8.o H9.o);go_wp2_with fail;go_ret;exact ⟨by rw [D.o];rfl,G.o.2⟩
end Go.Proofs.YtjdnmblggdobgaaGreat
