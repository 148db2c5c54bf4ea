import Derived.Test.YtjdnmblggdobgaaGreatJLCkDLPu4
import Derived.Test.YtjdnmblggdobgaaGreatJRefNameRefClass
import Derived.Deep.RegionHeld3
set_option maxHeartbeats 16000000
set_option maxRecDepth 100000
namespace Go.Proofs.YtjdnmblggdobgaaGreat
open Go.RowKit Go.Sort Tryz

theorem z1w (w:World) (B:Nat) (l:List aq) (v:Value) (hv:SL 4 RC (· <B) w v l) (hB:B<=w.heap.size) (h0:cq l=0):
 Calls prog 181 #[v] w fun r w'=>r=.returned (.i (cq l))/\Bl w w':=by
 have H0:=ag h0;clear h0;have HV:=ag hv;have eh:=ag (zqo w B l v hv hB);obtain ⟨ao,cl,rfl,-⟩:=hv;by_cases hc:dy l=0
 rotate_left
 ·have E:Hid (cq l=dy l):=by show cq l=dy l;simp [cq,hc]
  exact absurd (E.o.symm.trans H0.o) hc
 obtain ⟨hN,bs⟩:=zgm hc;have az:=ag bs;have ai:=ag hc;rw [hc]at eh;clear hc bs;go_enter func181,ntmps181;go_wp2_with (first | (go_at_call 224;refine eh.o.mono ?_;rintro r w0 ⟨rfl,e8⟩;have g4:=ag e8;clear e8));go_loopw [4] (fun i wr=>∃k:Nat,k<=l.length/\i=.i k/\Hid ((∀j,j<k->q1 l j=true)/\Bl w wr)) (fun i _=>l.length - (intOf i).toNat)
 case atStart=>exact ⟨0,n0q _,rfl,(fun j h=>by omega),g4.o⟩
 case round=>as_aux_lemma=>
  rename World=>wr
  obtain ⟨k,hk,rfl,G⟩:=hrel;have I:w.heap.size<=wr.heap.size:=G.o.2.size;have F:Hid (SL 4 RC (· <B) wr (.slice ao l.length cl) l):=HV.o.keptC (Kp.below (G.o.2.mono hB));by_cases D:k<l.length
  ·obtain ⟨b,off,vf,vm,rfl,V,e0,e1,e2,e3,ef,em,ad,af⟩:=F.o.atC k D;clear ef em e1 e2 e3 ad af;have a3:=ag (Ck wr (· <B) _ l l[k].name F.o);have J:Hid (q1 l k=decide (cb l l[k].name=k)):=by show q1 l k=_;rw [q1,sm D]
   have c5:=(Az l l[k].name).1;have c6:=(Az l l[k].name).2;generalize cb l l[k].name=fa at*;by_cases hs:fa=k
   ·subst hs;have hr:Hid ((∀j,j<k+1->q1 l j=true)/\Bl w wr):=⟨Ep G.o.1 (by rw [J.o];simp),G.o.2⟩;go_wp2_with (first | (go_at_call 184;refine a3.o.mono ?_;rintro r w7 ⟨rfl,rfl⟩));go_roundw
    case rel=>exact ⟨k+1,by omega,by go_num,hr.o⟩
    case measure=>simp [intOf];omega
   have E:=ag (xn ai.o (Eo D (by rw [J.o];simp [hs])));exact absurd E.o (by rw [H0.o];decide)
  have H1:Hid (fg l (q1 l)=true):=En D G.o.1;have b2:=ag G.o.2;have ei:=ag (Ck wr (· <B) _ l fw F.o);have b4:=ag (Ck wr (· <B) _ l gn F.o);have fr:=(Az l fw).1;have fv:=(Az l fw).2;have fi:=(Az l gn).1;have fj:=(Az l gn).2;have df:Hid (q2 l=(decide (0<=cb l fw)&&decide (0<=cb l gn))):=rfl;have eq:Hid (q6 l=(decide ((cd l (cb l gn).toNat).bv=fw)&&(match mq l (cb l gn).toNat with | []=>false | f::_=>decide (f.kind.kind=1)))):=rfl;have hg:Hid (∀w M v,SL 4 RC M w v l->Calls prog 184 #[v,.string gn] w fun r w'=>r=.returned (.i (cb l gn))/\w'=w):=fun w M v h=>Ck w M v l gn h;generalize cb l fw=ft at*;generalize cb l gn=fe at*;clear G F;by_cases ht:ft<0
  ·have E:=ag (lk2 ai.o H1.o (by rw [df.o];simp;omega));exact absurd E.o (by rw [H0.o];decide)
  by_cases he:fe<0
  ·have E:=ag (lk2 ai.o H1.o (by rw [df.o];simp;omega));exact absurd E.o (by rw [H0.o];decide)
  have H2:Hid (q2 l=true):=df.o.trans (by simp;omega);go_wp2_with (first | (go_at_call_of 184 (Value.string ⟨#[79,98,106,101,99,116]⟩);refine ei.o.mono ?_;rintro r w7 ⟨rfl,rfl⟩) | (go_at_call 184;refine b4.o.mono ?_;rintro r w7 ⟨rfl,rfl⟩));clear ei b4 fr fv D hk I;go_loopw [5] (fun i wr=>∃k:Nat,k<=l.length/\i=.i k/\Hid ((∀j,j<k->q3 l j=true)/\Bl w wr)) (fun i _=>l.length - (intOf i).toNat)
  case atStart=>exact ⟨0,n0q _,rfl,(fun j h=>by omega),b2.o⟩
  case round=>as_aux_lemma=>
   rename World=>wr
   obtain ⟨k,hk,rfl,G⟩:=hrel;have I:w.heap.size<=wr.heap.size:=G.o.2.size;have F:Hid (SL 4 RC (· <B) wr (.slice ao l.length cl) l):=HV.o.keptC (Kp.below (G.o.2.mono hB));by_cases D:k<l.length
   ·obtain ⟨b,off,vf,vm,rfl,V,e0,e1,e2,e3,ef,em,ad,af⟩:=F.o.atC k D;clear ef em e2 e3 ad af;have J:Hid (q3 l k=upperB l[k]):=by show q3 l k=_;rw [q3,sm D]
    generalize l[k]=c at*;have ac:Hid (upperB c=true->(∀j,j<k+1->q3 l j=true)/\∀n,Bl w (wr.drewN n)):=fun h=>⟨Ep G.o.1 (J.o.trans h),fun n=>o7 G.o.2 n⟩;have O:Hid (upperB c=false->cq l=4/\∀n,Bl w (wr.drewN n)):=fun h=>⟨C8 ai.o H1.o H2.o (Eo D (J.o.trans h)),fun n=>o7 G.o.2 n⟩;by_cases h1:c.name=fw
    ·have t1:c.name.toList= [79,98,106,101,99,116]:=by rw [h1];exact zdt
     by_cases h2:c.bv=⟨#[]⟩
     ·have t2:=Cg h2;have E:=ag (ac.o (by simp [upperB,h1,h2]));clear h1 h2;go_wp2_with fail;go_quiet (fail);go_wp2_with fail;go_roundw
      case rel=>exact ⟨k+1,by omega,by go_num,E.o.1,E.o.2 _⟩
      case measure=>simp [intOf];omega
     have t2:=zox h2;have E:=ag (O.o (by simp [upperB,h1,h2]));exact absurd E.o.1 (by rw [H0.o];decide)
    have t1:(c.name.toList== [79,98,106,101,99,116])=false:=beq_eq_false_iff_ne.2 fun e=>h1 (Av (e.trans zdt.symm));by_cases h2:c.bv=⟨#[]⟩
    ·have t2:=Cg h2;have E:=ag (O.o (by simp [upperB,h1,h2]));exact absurd E.o.1 (by rw [H0.o];decide)
    have t2:=zox h2;have E:=ag (ac.o (by simp [upperB,h1,h2]));clear h1 h2;go_wp2_with fail;go_quiet (fail);go_wp2_with fail;go_roundw
    case rel=>exact ⟨k+1,by omega,by go_num,E.o.1,E.o.2 _⟩
    case measure=>simp [intOf];omega
   have H3:Hid (fg l (q3 l)=true):=En D G.o.1;have g5:=ag G.o.2;clear G F;go_wp2_with fail;clear D hk I;go_loopw [6] (fun i wr=>∃k:Nat,k<=l.length/\i=.i k/\Hid ((∀j,j<k->q4 l j=true)/\Bl w wr)) (fun i _=>l.length - (intOf i).toNat)
   case atStart=>exact ⟨0,n0q _,rfl,(fun j h=>by omega),g5.o⟩
   case round=>as_aux_lemma=>
    rename World=>wr
    obtain ⟨k,hk,rfl,G⟩:=hrel;have I:w.heap.size<=wr.heap.size:=G.o.2.size;have F:Hid (SL 4 RC (· <B) wr (.slice ao l.length cl) l):=HV.o.keptC (Kp.below (G.o.2.mono hB));by_cases D:k<l.length
    ·obtain ⟨b,off,vf,vm,rfl,V,e0,e1,e2,e3,ef,em,ad,af⟩:=F.o.atC k D;clear ef em e0 e2 e3 ad af;have J:Hid (q4 l k=(decide (l[k].bv=(⟨#[]⟩:ByteArray))||decide (0<=cb l l[k].bv))):=by show q4 l k=_;rw [q4,sm D]
     have a3:=ag (Ck wr (· <B) _ l l[k].bv F.o);have c5:=(Az l l[k].bv).1;have c6:=(Az l l[k].bv).2;generalize l[k]=c at*;generalize cb l c.bv=fa at*;have ac:Hid (q4 l k=true->(∀j,j<k+1->q4 l j=true)/\Bl w wr):=fun h=>⟨Ep G.o.1 h,G.o.2⟩;have O:Hid (q4 l k=false->cq l=5/\Bl w wr):=fun h=>⟨Ea ai.o H1.o H2.o H3.o (Eo D h),G.o.2⟩;by_cases h1:c.bv=⟨#[]⟩
     ·have t1:=Cg h1;have E:=ag (ac.o (J.o.trans (by simp [h1])));clear h1 a3;go_wp2_with fail;go_roundw
      case rel=>exact ⟨k+1,by omega,by go_num,E.o⟩
      case measure=>simp [intOf];omega
     have t1:=zox h1;by_cases h2:fa<0
     ·have E:=ag (O.o (J.o.trans (by simp [h1];omega)));exact absurd E.o.1 (by rw [H0.o];decide)
     have E:=ag (ac.o (J.o.trans (by simp [h1];omega)));clear h1;go_wp2_with (first | (go_at_call 184;refine a3.o.mono ?_;rintro r w7 ⟨rfl,rfl⟩));go_roundw
     case rel=>exact ⟨k+1,by omega,by go_num,E.o⟩
     case measure=>simp [intOf];omega
    have H4:Hid (fg l (q4 l)=true):=En D G.o.1;have g6:=ag G.o.2;clear G F;go_wp2_with fail;clear D hk I;go_loopw [7] (fun i wr=>∃k:Nat,k<=l.length/\i=.i k/\Hid ((∀j,j<k->q5 l j=true)/\Bl w wr)) (fun i _=>l.length - (intOf i).toNat)
    case atStart=>exact ⟨0,n0q _,rfl,(fun j h=>by omega),g6.o⟩
    case round=>as_aux_lemma=>
     rename World=>wr
     obtain ⟨k,hk,rfl,G⟩:=hrel;have I:w.heap.size<=wr.heap.size:=G.o.2.size;have F:Hid (SL 4 RC (· <B) wr (.slice ao l.length cl) l):=HV.o.keptC (Kp.below (G.o.2.mono hB));by_cases D:k<l.length
     ·have ci:=ag (zom wr B _ l k D F.o (lt3 hB I) hN);have J:Hid (q5 l k=decide (0<(ph l k).length)):=rfl;have i4:=(zoh D).2;have ac:Hid (q5 l k=true->(∀j,j<k+1->q5 l j=true)/\∀w',Bl wr w'->Bl w w'):=fun h=>⟨Ep G.o.1 h,fun w' V=>G.o.2.trans (V.mono I)⟩;have O:Hid (q5 l k=false->cq l=4/\∀w',Bl wr w'->Bl w w'):=fun h=>⟨lk5 ai.o H1.o H2.o H3.o H4.o (Eo D h),fun w' V=>G.o.2.trans (V.mono I)⟩;generalize ph l k=up at*;by_cases h2:up.length=0
      ·have E:=ag (O.o (J.o.trans (by simp [h2])));exact absurd E.o.1 (by rw [H0.o];decide)
      have E:=ag (ac.o (J.o.trans (by simp;omega)));have kl:¬(up.length:Int)=0:=by omega
      go_wp2_with (first | (go_at_call 225;refine ci.o.mono ?_;rintro r w7 ⟨ff,u7,rfl,i7⟩;obtain ⟨au,cu,rfl,-⟩:=i7;have c7:=ag ff;clear ff));go_roundw
      case rel=>exact ⟨k+1,by omega,by go_num,E.o.1,E.o.2 _ c7.o⟩
      case measure=>simp [intOf];omega
     have H5:Hid (fg l (q5 l)=true):=En D G.o.1;have ka:=ag G.o.2;obtain ⟨en,rfl⟩:=Int.eq_ofNat_of_zero_le (show 0<=fe by omega);have d0:en<l.length:=by omega
     have b4:=ag (hg.o wr (· <B) _ F.o);have a2:=ag (zon wr B _ l en d0 F.o (lt3 hB I) hN (fun c hc=>(az.o c hc).2.2.1));have J:Hid (q6 l=(decide (l[en].bv=fw)&&(match mq l en with | []=>false | f::_=>decide (f.kind.kind=1)))):=eq.o.trans (by rw [show ((en:Int)).toNat=en from rfl,sm d0]);have hh:Hid (∀w',Bl wr w'->Bl w w'):=fun w' V=>G.o.2.trans (V.mono I);generalize mq l en=fs at*;have k2:(0:Int)<=en:=by omega
     have k3:(en:Int)<l.length:=by omega
     have hy:=ag F.o;have g9:=ag (lt3 hB I);clear G F eq ht he fi fj
     go_upto_region 28 with (first | (go_at_call 184;refine b4.o.mono ?_;rintro r w7 ⟨rfl,rfl⟩) | (go_at_call 182;refine a2.o.mono ?_;rintro r w8 ⟨av,u8,rfl,ay⟩;have ec:=ag av;have es:=ag ay;obtain ⟨a8,c8,rfl,-⟩:=ay;clear av))
     clear D hk I;obtain ⟨b6,o6,vf,vm,rfl,V,e0,e1,e2,e3,ef,em,ad,af⟩:=(hy.o.keptC (Kp.below (ec.o.mono g9.o))).atC en d0;clear ef em e0 e2 e3 ad af;have g7:=ag (hh.o _ ec.o);have O:Hid (q6 l=false->cq l=4):=fun h=>lk6 ai.o H1.o H2.o H3.o H4.o H5.o h;generalize l[en]=c at*;by_cases h1:c.bv=fw
     rotate_left
     ·have t1:(c.bv.toList== [79,98,106,101,99,116])=false:=beq_eq_false_iff_ne.2 fun e=>h1 (Av (e.trans zdt.symm));have E:=ag (O.o (J.o.trans (by simp [h1])));exact absurd E.o (by rw [H0.o];decide)
     have t1:c.bv.toList= [79,98,106,101,99,116]:=by rw [h1];exact zdt
     cases fs with
     | nil=>
       have E:=ag (O.o (J.o.trans (by simp)));exact absurd E.o (by rw [H0.o];decide)
     | cons f fs=>
       obtain ⟨bf,of,rfl,dz,y0,y1,y2,-,-⟩:=es.o.atF 0 (by simp);have j2:w8.cell? ⟨bf,of+1,none⟩=some (.i f.kind.kind):=by simpa using y1
       have c0:Hid (q6 l=decide (f.kind.kind=1)):=J.o.trans (by simp [h1]);clear y0 y1 y2 h1 es J;generalize f.kind.kind=fk at*;have h8:(0:Int)<((fs.length+1:Nat):Int):=by omega
       have f3:(((fs.length+1:Nat):Int)==0)=false:=beq_eq_false_iff_ne.2 (by omega);have f4:((fs.length:Int)+1==0)=false:=beq_eq_false_iff_ne.2 (by omega);by_cases b0:fk=1
       rotate_left
       ·have E:=ag (O.o (c0.o.trans (by simp [b0])));exact absurd E.o (by rw [H0.o];decide)
       subst b0;have H6:Hid (q6 l=true):=c0.o.trans (by simp);go_wp2_with fail;clear j2 t1 h8 f3 f4 e1;go_loopw [10] (fun i wr=>∃k:Nat,k<=l.length/\i=.i k/\Hid ((∀j,j<k->q7 l j=true)/\Bl w wr)) (fun i _=>l.length - (intOf i).toNat)
       case atStart=>exact ⟨0,n0q _,rfl,(fun j h=>by omega),g7.o⟩
       case round=>as_aux_lemma=>
        rename World=>wr
        obtain ⟨k,hk,rfl,G⟩:=hrel;have I:w.heap.size<=wr.heap.size:=G.o.2.size;have F:Hid (SL 4 RC (· <B) wr (.slice (some ⟨b6,o6,none⟩) l.length cl) l):=HV.o.keptC (Kp.below (G.o.2.mono hB));by_cases D:k<l.length
        ·obtain ⟨b,off,vf,vm,ak,V,e0,e1,e2,e3,ef,em,ad,af⟩:=F.o.atC k D;obtain ⟨rfl,rfl⟩:b6=b/\o6=off:=by simpa using ak
         clear ak;have J:Hid (q7 l k=(l[k].fields.all (fun f=>ib l f.kind)&&l[k].be.all (nr l))):=by show q7 l k=_;rw [q7,sm D]
         have Z:B<=wr.heap.size:=lt3 hB I;have ac:Hid (q7 l k=true->∀w',Bl wr w'->(∀j,j<k+1->q7 l j=true)/\Bl w w'):=fun h w' V=>⟨Ep G.o.1 h,G.o.2.trans (V.mono I)⟩;have O:Hid (q7 l k=false->∀w',Bl wr w'->cq l=5/\Bl w w'):=fun h w' V=>⟨lk7 ai.o H1.o H2.o H3.o H4.o H5.o H6.o (Eo D h),G.o.2.trans (V.mono I)⟩;have k0:=(az.o l[k] (gm D)).2.2.1;have f1:=(az.o l[k] (gm D)).2.2.2.2.1;generalize l[k]=c at*;have EF:=ag ef;have EM:=ag em;obtain ⟨fo,cf,rfl,-⟩:=ef;obtain ⟨mo,cm,rfl,-⟩:=em;have a4:=ag (And.intro V (And.intro e2 e3));have gb:(0:Int)<=k:=by omega
         have b0:(k:Int)<l.length:=by omega
         clear e0 e1 e2 e3 ad af G V;go_wp2_with fail;go_loopw [11] (fun i wq=>∃j:Nat,j<=c.fields.length/\i=.i j/\Hid (c.fields.all (fun f=>ib l f.kind)=(c.fields.drop j).all (fun f=>ib l f.kind)/\Bl wr wq)) (fun i _=>c.fields.length - (intOf i).toNat)
         case atStart=>exact ⟨0,n0q _,rfl,rfl,br _ _⟩
         case round=>
          rename World=>wq
          obtain ⟨j,hj,rfl,HJ⟩:=hrel;have ea:wr.heap.size<=wq.heap.size:=HJ.o.2.size;have d2:wq.cell? ⟨b6,o6+k*4+2,none⟩=some (.slice fo c.fields.length cf):=(HJ.o.2.cell (p:=⟨b6,o6+k*4+2,none⟩) a4.o.1).trans a4.o.2.1;have h7:b6<wq.heap.size:=ll3 a4.o.1 ea;by_cases an:j<c.fields.length
          ·obtain ⟨bf,of,h9,dz,y0,y1,y2,-,z2⟩:=(EF.o.keptF (Kp.below (HJ.o.2.mono Z))).atF j an;subst h9;have bl:Hid ((c.fields.drop j).all (fun f=>ib l f.kind)=(ib l c.fields[j].kind&&(c.fields.drop (j+1)).all (fun f=>ib l f.kind))):=by
            show _=_;rw [List.drop_eq_getElem_cons an,List.all_cons]
           generalize c.fields[j]=x at*;have ds:Bl wr (wq.alloc (.cells #[.i x.kind.kind,.string x.kind.de] 123)):=HJ.o.2.alloc ea _;have cc:=ag (zof (wq.alloc (.cells #[.i x.kind.kind,.string x.kind.de] 123)) (· <B) (· <wq.heap.size+1) _ _ l [x.kind] (F.o.keptC (Kp.below (ds.mono Z))) (Af wq x.kind _ wq.heap.size z2 rfl));have b5:Hid ([x.kind].all (ib l)=ib l x.kind):=by show _=_;simp
           rw [b5.o]at cc;have ee:=ag ds;have f6:(0:Int)<=j:=by omega
           have f7:(j:Int)<c.fields.length:=by omega
           clear ds y0 z2;cases hx:ib l x.kind with
           | true=>
             rw [hx]at cc;have E:Hid (c.fields.all (fun f=>ib l f.kind)=(c.fields.drop (j+1)).all (fun f=>ib l f.kind)/\Bl wr (wq.alloc (.cells #[.i x.kind.kind,.string x.kind.de] 123))):=⟨HJ.o.1.trans (bl.o.trans (by rw [hx,Bool.true_and])),ee.o⟩;clear hx;go_wp2_with (first | (go_at_call 226;refine cc.o.mono ?_;rintro r w7 ⟨rfl,rfl⟩));go_roundw
             case rel=>exact ⟨j+1,by omega,by go_num,E.o⟩
             case measure=>simp [intOf];omega
           | false=>
             rw [hx]at cc;have E:=ag (O.o (J.o.trans (by rw [HJ.o.1,bl.o,hx];simp)) _ ee.o);exact absurd E.o.1 (by rw [H0.o];decide)
          have a2:Hid (c.fields.all (fun f=>ib l f.kind)=true):=HJ.o.1.trans (by rw [List.drop_of_length_le (by omega)];rfl);have a7:=ag HJ.o.2;clear HJ;go_wp2_with fail;clear an hj ea d2 h7;go_loopw [12] (fun i wm=>∃j:Nat,j<=c.be.length/\i=.i j/\Hid (c.be.all (nr l)=(c.be.drop j).all (nr l)/\Bl wr wm)) (fun i _=>c.be.length - (intOf i).toNat)
          case atStart=>exact ⟨0,n0q _,rfl,rfl,a7.o⟩
          case round=>
           clear a7
           rename World=>wm
           obtain ⟨j,hj,rfl,HJ⟩:=hrel;have cp:wr.heap.size<=wm.heap.size:=HJ.o.2.size;have d3:wm.cell? ⟨b6,o6+k*4+3,none⟩=some (.slice mo c.be.length cm):=(HJ.o.2.cell (p:=⟨b6,o6+k*4+3,none⟩) a4.o.1).trans a4.o.2.2;have kx:b6<wm.heap.size:=ll3 a4.o.1 cp;by_cases an:j<c.be.length
           ·obtain ⟨bm,om,va,vh,it,j4,m0,m1,m2,m3,m4,m5,m6,m7,m8,sa,sh,i8,gv,i9⟩:=(EM.o.keptM (Kp.below (HJ.o.2.mono Z))).atM j an;subst it;have bg:=ag sa;have et:=ag sh;obtain ⟨aa,ca,rfl,-⟩:=sa;obtain ⟨ah,ch,rfl,-,ih,-⟩:=sh;have bl:Hid ((c.be.drop j).all (nr l)=(nr l c.be[j]&&(c.be.drop (j+1)).all (nr l))):=by
             show _=_;rw [List.drop_eq_getElem_cons an,List.all_cons]
            generalize c.be[j]=m at*;have ce:Hid (nr l m=(m.args.all (ib l)&&ib l m.ret&&m.hands.all (fun h=>decide (0<=cb l h.de)))):=rfl;have ck:Bl wr (wm.alloc (.cells #[.string m.name,.bool m.static,.slice aa m.args.length ca,.i m.ret.kind,.string m.ret.de,.i m.stack,.i m.locals,.string m.code,.slice ah m.hands.length ch] 159)):=HJ.o.2.alloc cp _;have dl:Bl wr ((wm.alloc (.cells #[.string m.name,.bool m.static,.slice aa m.args.length ca,.i m.ret.kind,.string m.ret.de,.i m.stack,.i m.locals,.string m.code,.slice ah m.hands.length ch] 159)).alloc (.cells #[.i m.ret.kind,.string m.ret.de] 123)):=ck.alloc (by simp;omega) _;have e4:=ag (zof (wm.alloc (.cells #[.string m.name,.bool m.static,.slice aa m.args.length ca,.i m.ret.kind,.string m.ret.de,.i m.stack,.i m.locals,.string m.code,.slice ah m.hands.length ch] 159)) (· <B) (· <B) _ _ l m.args (F.o.keptC (Kp.below (ck.mono Z))) (bg.o.keptK (Kp.below (((br wm.heap.size wm).alloc (nlq _) _).mono (lt3 Z cp)))));have dg:=ag (zof ((wm.alloc (.cells #[.string m.name,.bool m.static,.slice aa m.args.length ca,.i m.ret.kind,.string m.ret.de,.i m.stack,.i m.locals,.string m.code,.slice ah m.hands.length ch] 159)).alloc (.cells #[.i m.ret.kind,.string m.ret.de] 123)) (· <B) (· <wm.heap.size+1+1) _ _ l [m.ret] (F.o.keptC (Kp.below (dl.mono Z))) (Af (wm.alloc (.cells #[.string m.name,.bool m.static,.slice aa m.args.length ca,.i m.ret.kind,.string m.ret.de,.i m.stack,.i m.locals,.string m.code,.slice ah m.hands.length ch] 159)) m.ret _ (wm.heap.size+1) gv (by simp)));have b5:Hid ([m.ret].all (ib l)=ib l m.ret):=by show _=_;simp
            rw [b5.o]at dg;have b2:=ag ck;have b3:=ag dl;have f6:(0:Int)<=j:=by omega
            have f7:(j:Int)<c.be.length:=by omega
            have dd:Hid (nr l m=false->∀w',Bl wr w'->cq l=5/\Bl w w'):=fun h=>O.o (J.o.trans (by rw [HJ.o.1,bl.o,h];simp));clear ck dl i8 i9;generalize m.args.all (ib l)=ta at*;generalize ib l m.ret=tr at*;cases ta with
            | false=>
              have E:=ag (dd.o (ce.o.trans (by simp)) _ b2.o);exact absurd E.o.1 (by rw [H0.o];decide)
            | true=>
              cases tr with
              | false=>
                have E:=ag (dd.o (ce.o.trans (by simp)) _ b3.o);exact absurd E.o.1 (by rw [H0.o];decide)
              | true=>
                have f8:((wm.alloc (.cells #[.string m.name,.bool m.static,.slice aa m.args.length ca,.i m.ret.kind,.string m.ret.de,.i m.stack,.i m.locals,.string m.code,.slice ah m.hands.length ch] 159)).alloc (.cells #[.i m.ret.kind,.string m.ret.de] 123)).cell? ⟨wm.heap.size,8,none⟩=some (.slice ah m.hands.length ch):=by simp [go_sem]
                have i2:Hid (SL 4 RH (· <B) ((wm.alloc (.cells #[.string m.name,.bool m.static,.slice aa m.args.length ca,.i m.ret.kind,.string m.ret.de,.i m.stack,.i m.locals,.string m.code,.slice ah m.hands.length ch] 159)).alloc (.cells #[.i m.ret.kind,.string m.ret.de] 123)) (.slice ah m.hands.length ch) m.hands):=et.o.keptH (Kp.below ((((br wm.heap.size wm).alloc (nlq _) _).alloc (by simp) _).mono (lt3 Z cp)));have i3:Hid (SL 4 RC (· <B) ((wm.alloc (.cells #[.string m.name,.bool m.static,.slice aa m.args.length ca,.i m.ret.kind,.string m.ret.de,.i m.stack,.i m.locals,.string m.code,.slice ah m.hands.length ch] 159)).alloc (.cells #[.i m.ret.kind,.string m.ret.de] 123)) (.slice (some ⟨b6,o6,none⟩) l.length cl) l):=F.o.keptC (Kp.below (b3.o.mono Z));have k6:wm.heap.size<((wm.alloc (.cells #[.string m.name,.bool m.static,.slice aa m.args.length ca,.i m.ret.kind,.string m.ret.de,.i m.stack,.i m.locals,.string m.code,.slice ah m.hands.length ch] 159)).alloc (.cells #[.i m.ret.kind,.string m.ret.de] 123)).heap.size:=by simp;omega
                have c3:Hid (nr l m=m.hands.all (fun h=>decide (0<=cb l h.de))):=ce.o.trans (by simp);unfold maxLen at ih
                go_upto_region 44 with (first | (go_at_call_of 226 (Value.slice aa m.args.length ca);refine e4.o.mono ?_;rintro r w7 ⟨rfl,rfl⟩) | (go_at_call 226;refine dg.o.mono ?_;rintro r w7 ⟨rfl,rfl⟩))
                clear e4 dg b2 bg et m0 m1 m2 m3 m4 m5 m6 m7 m8 gv ce b5;generalize hW2:((wm.alloc (.cells #[.string m.name,.bool m.static,.slice aa m.args.length ca,.i m.ret.kind,.string m.ret.de,.i m.stack,.i m.locals,.string m.code,.slice ah m.hands.length ch] 159)).alloc (.cells #[.i m.ret.kind,.string m.ret.de] 123))=W2 at*;clear hW2;go_wp2_with fail;go_loopw [14] (fun i L=>∃q:Nat,q<=m.hands.length/\i=.i q/\Hid (m.hands.all (fun h=>decide (0<=cb l h.de))=(m.hands.drop q).all (fun h=>decide (0<=cb l h.de)))/\L=W2) (fun i _=>m.hands.length - (intOf i).toNat)
                case atStart=>exact ⟨0,n0q _,rfl,rfl,rfl⟩
                case round=>
                 obtain ⟨q,hq,rfl,HH,rfl⟩:=hrel
                 rename World=>W2
                 by_cases ap:q<m.hands.length
                 ·obtain ⟨bh,oh,h6,kt,y0,y1,y2,y3,z⟩:=i2.o.atH q ap;subst h6;have bi:Hid ((m.hands.drop q).all (fun h=>decide (0<=cb l h.de))=(decide (0<=cb l m.hands[q].de)&&(m.hands.drop (q+1)).all (fun h=>decide (0<=cb l h.de)))):=by
                   show _=_;rw [List.drop_eq_getElem_cons ap,List.all_cons]
                  have a3:=ag (Ck W2 (· <B) _ l m.hands[q].de i3.o);have c5:=(Az l m.hands[q].de).1;have c6:=(Az l m.hands[q].de).2;generalize m.hands[q]=x at*;generalize cb l x.de=fa at*;have d5:(0:Int)<=q:=by omega
                  have d6:(q:Int)<m.hands.length:=by omega
                  clear y0 y1 y2 z;by_cases hf:fa<0
                  ·have E:=ag (dd.o (c3.o.trans (HH.o.trans (by rw [bi.o];simp;omega))) _ b3.o);exact absurd E.o.1 (by rw [H0.o];decide)
                  have E:Hid (m.hands.all (fun h=>decide (0<=cb l h.de))=(m.hands.drop (q+1)).all (fun h=>decide (0<=cb l h.de))):=HH.o.trans (by
                   rw [bi.o];have:(0:Int)<=fa:=by omega
                   simp [this])
                  go_wp2_with (first | (go_at_call 184;refine a3.o.mono ?_;rintro r w7 ⟨rfl,rfl⟩));go_roundw
                  case rel=>exact ⟨q+1,by omega,by go_num,E.o,trivial⟩
                  case measure=>simp [intOf];omega
                 have hu:Hid (nr l m=true):=c3.o.trans (HH.o.trans (by rw [List.drop_of_length_le (by omega)];rfl));have E:Hid (c.be.all (nr l)=(c.be.drop (j+1)).all (nr l)/\Bl wr W2):=⟨HJ.o.1.trans (bl.o.trans (by rw [hu.o,Bool.true_and])),b3.o⟩;go_wp2_with fail;go_roundw
                 case rel=>exact ⟨j+1,by omega,by go_num,E.o⟩
                 case measure=>simp [intOf];omega
           have g1:Hid (c.be.all (nr l)=true):=HJ.o.1.trans (by rw [List.drop_of_length_le (by omega)];rfl);have E:=ag (ac.o (J.o.trans (by rw [a2.o,g1.o];rfl)) _ HJ.o.2);go_wp2_with fail;go_roundw
           case rel=>exact ⟨k+1,by omega,by go_num,E.o⟩
           case measure=>simp [intOf];omega
        have H7:Hid (fg l (q7 l)=true):=En D G.o.1;have c7:=ag G.o.2;clear G F;go_wp2_with fail;clear D hk I;go_loopw [15] (fun i wr=>∃k:Nat,k<=l.length/\i=.i k/\Hid ((∀j,j<k->q8 l j=true)/\Bl w wr)) (fun i _=>l.length - (intOf i).toNat)
        case atStart=>exact ⟨0,n0q _,rfl,(fun j h=>by omega),c7.o⟩
        case round=>as_aux_lemma=>
         rename World=>wr
         obtain ⟨k,hk,rfl,G⟩:=hrel;have I:w.heap.size<=wr.heap.size:=G.o.2.size;have F:Hid (SL 4 RC (· <B) wr (.slice (some ⟨b6,o6,none⟩) l.length cl) l):=HV.o.keptC (Kp.below (G.o.2.mono hB));by_cases D:k<l.length
         ·have a2:=ag (zon wr B _ l k D F.o (lt3 hB I) hN (fun c hc=>(az.o c hc).2.2.1));obtain ⟨b,off,vf,vm,ak,V,e0,e1,e2,e3,ef,em,ad,af⟩:=F.o.atC k D;obtain ⟨rfl,rfl⟩:b6=b/\o6=off:=by simpa using ak
          have f1:=(az.o l[k] (gm D)).2.2.2.2.1;have J:Hid (q8 l k=(dh ((mq l k).map (·.name))&&dh (l[k].be.map (·.name)))):=by show q8 l k=_;rw [q8,sm D]
          have Z:B<=wr.heap.size:=lt3 hB I;have ac:Hid (q8 l k=true->∀w',Bl wr w'->(∀j,j<k+1->q8 l j=true)/\Bl w w'):=fun h w' V=>⟨Ep G.o.1 h,G.o.2.trans (V.mono I)⟩;have O:Hid (q8 l k=false->∀w',Bl wr w'->cq l=6/\Bl w w'):=fun h w' V=>⟨lk8 ai.o H1.o H2.o H3.o H4.o H5.o H6.o H7.o (Eo D h),G.o.2.trans (V.mono I)⟩;generalize l[k]=c at*;generalize mq l k=fs at*;have EM:=ag em;obtain ⟨mo,cm,rfl,-⟩:=em;have al:=ag (And.intro V e3);have gb:(0:Int)<=k:=by omega
          have b0:(k:Int)<l.length:=by omega
          have b7:Hid (dh (fs.map (·.name))=false->q8 l k=false):=fun h=>J.o.trans (by rw [h];rfl);clear e0 e1 e2 e3 ad af G V ef ak;go_wp2_with (first | (go_at_call 182;refine a2.o.mono ?_;rintro r wz ⟨av,u8,rfl,ay⟩;have N:=ag av;have a6:=ag ay;obtain ⟨a8,c8,rfl,-,f5,-⟩:=ay;clear av));unfold maxLen at f5;clear a2;go_loopw [17] (fun i L=>∃p:Nat,p<=fs.length/\i=.i p/\Hid (∀(i j:Nat) (hi:i<fs.length) (hj:j<fs.length),j<p->i<j->fs[i].name≠fs[j].name)/\∃n,L=wz.drewN n) (fun i _=>fs.length - (intOf i).toNat)
          case atStart=>exact ⟨0,n0q _,rfl,(fun _ _ _ _ h=>by omega),0,rfl⟩
          case round=>
           obtain ⟨p,hp,rfl,HP,nz,rfl⟩:=hrel;by_cases aw:p<fs.length
           ·go_wp2_with fail;go_loopw [18] (fun i L=>∃q:Nat,q<=p/\i=.i q/\Hid (∀(i:Nat) (hi:i<fs.length),i<q->fs[i].name≠fs[p].name)/\∃n,L=wz.drewN n) (fun i _=>p - (intOf i).toNat)
            case atStart=>exact ⟨0,n0q _,rfl,(fun _ _ h=>by omega),nz,rfl⟩
            case round=>
             clear nz;obtain ⟨q,hq,rfl,bc,nz,rfl⟩:=hrel;by_cases ap:q<p
             ·have b1:q<fs.length:=by omega
              obtain ⟨bf,of,rfl,dz,x0,x1,x2,-,-⟩:=a6.o.atF q b1;obtain ⟨dk,eb,bo,fl,y0,y1,y2,-,-⟩:=a6.o.atF p aw;obtain ⟨rfl,rfl⟩:bf=dk/\of=eb:=by simpa using bo
              clear x1 x2 y1 y2 bo;have d5:(0:Int)<=q:=by omega
              have d6:(q:Int)<fs.length:=by omega
              have gk:(0:Int)<=p:=by omega
              have gl:(p:Int)<fs.length:=by omega
              by_cases hs:fs[q].name=fs[p].name
              ·have E:Hid (∀n,cq l=6/\Bl w (wz.drewN n)):=fun n=>O.o (b7.o (zo0 (fun x=>x.name) fs q p b1 aw ap hs)) _ (o7 N.o n);exact absurd (E.o 0).1 (by rw [H0.o];decide)
              have E:Hid (∀(i:Nat) (hi:i<fs.length),i<q+1->fs[i].name≠fs[p].name):=fun i hi h=>by
               by_cases d1:i<q
               ·exact bc.o i hi d1
               have:i=q:=by omega
               subst this;exact hs
              have d8:(fs[q].name.toList==fs[p].name.toList)=false:=by rw [beq_eq_false_iff_ne];exact fun e=>hs (Av e)
              clear hs;go_wp2_with fail;go_quiet (fail);go_wp2_with fail;go_roundw
              case rel=>exact ⟨q+1,by omega,by go_num,E.o,_,rfl⟩
              case measure=>simp [intOf];omega
             have E:Hid (∀(i j:Nat) (hi:i<fs.length) (hj:j<fs.length),j<p+1->i<j->fs[i].name≠fs[j].name):=fun i j hi hj h1 h2=>by
              by_cases d4:j<p
              ·exact HP.o i j hi hj d4 h2
              have:j=p:=by omega
              subst this;exact bc.o i hi (by omega)
             go_wp2_with fail;go_roundw
             case rel=>exact ⟨p+1,by omega,by go_num,E.o,nz,rfl⟩
             case measure=>simp [intOf];omega
           have ha:=ag (zoz (fun x=>x.name) fs fun i j hi hj h=>HP.o i j hi hj (by omega) h);have kk:wz.cell? ⟨b6,o6+k*4+3,none⟩=some (.slice mo c.be.length cm):=(N.o.cell (p:=⟨b6,o6+k*4+3,none⟩) al.o.1).trans al.o.2;have j3:b6<wz.heap.size:=ll3 al.o.1 N.o.size;go_wp2_with fail;clear aw hp HP;have cx:Hid (SL 9 RM (· <B) wz (.slice mo c.be.length cm) c.be):=EM.o.keptM (Kp.below (N.o.mono Z));clear a6;have a6:=ag cx.o;have cy:Hid (dh (c.be.map (·.name))=false->q8 l k=false):=fun h=>J.o.trans (by rw [h];simp);clear b7;have b7:=ag cy.o;clear cx cy;go_loopw [20] (fun i L=>∃p:Nat,p<=c.be.length/\i=.i p/\Hid (∀(i j:Nat) (hi:i<c.be.length) (hj:j<c.be.length),j<p->i<j->c.be[i].name≠c.be[j].name)/\∃n,L=wz.drewN n) (fun i _=>c.be.length - (intOf i).toNat)
           case atStart=>exact ⟨0,n0q _,rfl,(fun _ _ _ _ h=>by omega),nz,rfl⟩
           case round=>
            obtain ⟨p,hp,rfl,HP,nz,rfl⟩:=hrel;by_cases aw:p<c.be.length
            ·go_wp2_with fail;go_loopw [21] (fun i L=>∃q:Nat,q<=p/\i=.i q/\Hid (∀(i:Nat) (hi:i<c.be.length),i<q->c.be[i].name≠c.be[p].name)/\∃n,L=wz.drewN n) (fun i _=>p - (intOf i).toNat)
             case atStart=>exact ⟨0,n0q _,rfl,(fun _ _ h=>by omega),nz,rfl⟩
             case round=>
              clear nz;obtain ⟨q,hq,rfl,bc,nz,rfl⟩:=hrel;by_cases ap:q<p
              ·have b1:q<c.be.length:=by omega
               obtain ⟨bf,of,va,vh,rfl,dz,x0,x1,x2,x3,x4,x5,x6,x7,x8,-,-,-,-,-⟩:=a6.o.atM q b1;obtain ⟨dk,eb,j0,j1,bo,fl,y0,y1,y2,y3,y4,y5,y6,y7,y8,-,-,-,-,-⟩:=a6.o.atM p aw;obtain ⟨rfl,rfl⟩:bf=dk/\of=eb:=by simpa using bo
               clear x1 x2 x3 x4 x5 x6 x7 x8 y1 y2 y3 y4 y5 y6 y7 y8 bo;have d5:(0:Int)<=q:=by omega
               have d6:(q:Int)<c.be.length:=by omega
               have gk:(0:Int)<=p:=by omega
               have gl:(p:Int)<c.be.length:=by omega
               by_cases hs:c.be[q].name=c.be[p].name
               ·have E:Hid (∀n,cq l=6/\Bl w (wz.drewN n)):=fun n=>O.o (b7.o (zo0 (fun x=>x.name) c.be q p b1 aw ap hs)) _ (o7 N.o n);exact absurd (E.o 0).1 (by rw [H0.o];decide)
               have E:Hid (∀(i:Nat) (hi:i<c.be.length),i<q+1->c.be[i].name≠c.be[p].name):=fun i hi h=>by
                by_cases d1:i<q
                ·exact bc.o i hi d1
                have:i=q:=by omega
                subst this;exact hs
               have d8:(c.be[q].name.toList==c.be[p].name.toList)=false:=by rw [beq_eq_false_iff_ne];exact fun e=>hs (Av e)
               clear hs;go_wp2_with fail;go_quiet (fail);go_wp2_with fail;go_roundw
               case rel=>exact ⟨q+1,by omega,by go_num,E.o,_,rfl⟩
               case measure=>simp [intOf];omega
              have E:Hid (∀(i j:Nat) (hi:i<c.be.length) (hj:j<c.be.length),j<p+1->i<j->c.be[i].name≠c.be[j].name):=fun i j hi hj h1 h2=>by
               by_cases d4:j<p
               ·exact HP.o i j hi hj d4 h2
               have:j=p:=by omega
               subst this;exact bc.o i hi (by omega)
              go_wp2_with fail;go_roundw
              case rel=>exact ⟨p+1,by omega,by go_num,E.o,nz,rfl⟩
              case measure=>simp [intOf];omega
            have hd:=ag (zoz (fun x=>x.name) c.be fun i j hi hj h=>HP.o i j hi hj (by omega) h);have E:=ag (ac.o (J.o.trans (by rw [ha.o,hd.o];rfl)) _ (o7 N.o nz));go_wp2_with fail;go_roundw
            case rel=>exact ⟨k+1,by omega,by go_num,E.o⟩
            case measure=>simp [intOf];omega
         have H8:Hid (fg l (q8 l)=true):=En D G.o.1;have g8:=ag G.o.2;clear G F;go_wp2_with fail;clear D hk I;go_loopw [22] (fun i wr=>∃k:Nat,k<=l.length/\i=.i k/\Hid ((∀j,j<k->q9 l j=true)/\Bl w wr)) (fun i _=>l.length - (intOf i).toNat)
         case atStart=>exact ⟨0,n0q _,rfl,(fun j h=>by omega),g8.o⟩
         case round=>as_aux_lemma=>
          rename World=>wr
          obtain ⟨k,hk,rfl,G⟩:=hrel;have I:w.heap.size<=wr.heap.size:=G.o.2.size;have F:Hid (SL 4 RC (· <B) wr (.slice (some ⟨b6,o6,none⟩) l.length cl) l):=HV.o.keptC (Kp.below (G.o.2.mono hB));by_cases D:k<l.length
          ·have ci:=ag (zom wr B _ l k D F.o (lt3 hB I) hN);obtain ⟨b,off,vf,vm,ak,V,e0,e1,e2,e3,ef,em,ad,af⟩:=F.o.atC k D;obtain ⟨rfl,rfl⟩:b6=b/\o6=off:=by simpa using ak
           have f1:=(az.o l[k] (gm D)).2.2.2.2.1;have J:Hid (q9 l k=(ph l k).dropLast.all fun u=>l[k].be.all fun x=>(cd l u).be.all fun y=>jk x y):=by show q9 l k=_;rw [q9,sm D]
           have Z:B<=wr.heap.size:=lt3 hB I;have ac:Hid (q9 l k=true->∀w',Bl wr w'->(∀j,j<k+1->q9 l j=true)/\Bl w w'):=fun h w' V=>⟨Ep G.o.1 h,G.o.2.trans (V.mono I)⟩;have O:Hid (q9 l k=false->∀w',Bl wr w'->cq l=4/\Bl w w'):=fun h w' V=>⟨lk9 ai.o H1.o H2.o H3.o H4.o H5.o H6.o H7.o H8.o (Eo D h),G.o.2.trans (V.mono I)⟩;obtain ⟨gg,i4⟩:=zoh D;have hl:=ag gg;generalize l[k]=c at*;generalize ph l k=up at*;have EM:=ag em;obtain ⟨mo,cm,rfl,-⟩:=em;have al:=ag (And.intro V e3);have gb:(0:Int)<=k:=by omega
           have b0:(k:Int)<l.length:=by omega
           clear e0 e1 e2 e3 ad af G V ef ak gg;go_wp2_with (first | (go_at_call 225;refine ci.o.mono ?_;rintro r wz ⟨av,u8,rfl,ay⟩;have N:=ag av;have hw:=ag ay;obtain ⟨a8,c8,rfl,-⟩:=ay;clear av));clear ci;go_loopw [24] (fun i L=>∃p:Nat,p<=up.dropLast.length/\i=.i p/\Hid (up.dropLast.all (fun u=>c.be.all fun x=>(cd l u).be.all fun y=>jk x y)=(up.dropLast.drop p).all (fun u=>c.be.all fun x=>(cd l u).be.all fun y=>jk x y)/\Bl wz L)) (fun i _=>up.dropLast.length - (intOf i).toNat)
           case atStart=>exact ⟨0,n0q _,rfl,rfl,br _ _⟩
           case round=>as_aux_lemma=>
            rename World=>L
            obtain ⟨p,hp,rfl,HP⟩:=hrel;have k1:up.dropLast.length=up.length - 1:=List.length_dropLast;by_cases aw:p<up.dropLast.length
            ·have gs:p<up.length:=by omega
             have i1:(p:Int)<(up.length:Int) - 1:=by omega
             obtain ⟨bu,ou,rfl,fz,eu⟩:=hw.o.atO p gs;have cr:=hl.o up[p] (gm gs);have ez:Hid ((up.dropLast.drop p).all (fun u=>c.be.all fun x=>(cd l u).be.all fun y=>jk x y)=((fun u=>c.be.all fun x=>(cd l u).be.all fun y=>jk x y) up[p]&&(up.dropLast.drop (p+1)).all (fun u=>c.be.all fun x=>(cd l u).be.all fun y=>jk x y))):=by show _=_;rw [List.drop_eq_getElem_cons aw,List.all_cons,List.getElem_dropLast]
             obtain ⟨b,off,k9,lc,ak,e9,-,-,-,e7,-,cj,-,-⟩:=(F.o.keptC (Kp.below (N.o.mono Z))).atC up[p] cr;obtain ⟨rfl,rfl⟩:b6=b/\o6=off:=by simpa using ak
             rw [<-sm cr]at cj;obtain ⟨i5,h4,rfl,-⟩:=id cj;have f2:=(az.o l[up[p]] (gm cr)).2.2.2.2.1;rw [<-sm cr]at f2;have c9:=ag (And.intro fz eu);have a0:=ag (And.intro e9 e7);have gx:=ag cj;have gy:=ag (EM.o.keptM (Kp.below (N.o.mono Z)));clear eu e7 cj ak e9 fz;generalize up[p]=uu at*;have c2:Hid ((up.dropLast.drop p).all (fun u=>c.be.all fun x=>(cd l u).be.all fun y=>jk x y)=((c.be.all fun x=>(cd l uu).be.all fun y=>jk x y)&&(up.dropLast.drop (p+1)).all (fun u=>c.be.all fun x=>(cd l u).be.all fun y=>jk x y))):=ez.o;clear ez;generalize (cd l uu).be=ms at*;have k7:(0:Int)<=uu:=by omega
             have k8:(uu:Int)<l.length:=by omega
             have gk:(0:Int)<=p:=by omega
             have gl:(p:Int)<up.length:=by omega
             have ho:Hid ((c.be.all (fun x=>ms.all fun y=>jk x y))=false->∀w',Bl wz w'->cq l=4/\Bl w w'):=fun h w' V=>O.o (J.o.trans (by rw [HP.o.1,c2.o,h,Bool.false_and])) w' (N.o.trans (V.mono N.o.size));have a9:=ag HP.o.2;go_wp2_with fail;go_loopw [25] (fun i L=>∃j:Nat,j<=c.be.length/\i=.i j/\Hid (c.be.all (fun x=>ms.all fun y=>jk x y)=(c.be.drop j).all (fun x=>ms.all fun y=>jk x y)/\Bl wz L)) (fun i _=>c.be.length - (intOf i).toNat)
             case atStart=>exact ⟨0,n0q _,rfl,rfl,a9.o⟩
             case round=>as_aux_lemma=>
              clear a9
              rename World=>L
              obtain ⟨j,hj,rfl,HJ⟩:=hrel;have ax:wz.heap.size<=L.heap.size:=HJ.o.2.size;have d3:L.cell? ⟨b6,o6+k*4+3,none⟩=some (.slice mo c.be.length cm):=(HJ.o.2.cell (p:=⟨b6,o6+k*4+3,none⟩) (ll3 al.o.1 N.o.size)).trans ((N.o.cell (p:=⟨b6,o6+k*4+3,none⟩) al.o.1).trans al.o.2);have bn:b6<L.heap.size:=ll3 a0.o.1 ax;by_cases an:j<c.be.length
              ·have ex:Hid ((c.be.drop j).all (fun x=>ms.all fun y=>jk x y)=((ms.all fun y=>jk c.be[j] y)&&(c.be.drop (j+1)).all (fun x=>ms.all fun y=>jk x y))):=by
                show _=_;rw [List.drop_eq_getElem_cons an,List.all_cons]
               have hm:Hid ((ms.all fun y=>jk c.be[j] y)=false->∀w',Bl wz w'->cq l=4/\Bl w w'):=fun h=>ho.o (by rw [HJ.o.1,ex.o,h,Bool.false_and]);have a9:=ag HJ.o.2;go_wp2_with fail;clear d3 bn ax;go_loopw [26] (fun i L=>∃q:Nat,q<=ms.length/\i=.i q/\Hid ((ms.all fun y=>jk c.be[j] y)=((ms.drop q).all fun y=>jk c.be[j] y)/\Bl wz L)) (fun i _=>ms.length - (intOf i).toNat)
               case atStart=>exact ⟨0,n0q _,rfl,rfl,a9.o⟩
               case round=>as_aux_lemma=>
                clear a9
                rename World=>L
                obtain ⟨q,hq,rfl,aj⟩:=hrel;have ax:wz.heap.size<=L.heap.size:=aj.o.2.size;have co:B<=wz.heap.size:=lt3 Z N.o.size;have d3:L.cell? ⟨b6,o6+k*4+3,none⟩=some (.slice mo c.be.length cm):=(aj.o.2.cell (p:=⟨b6,o6+k*4+3,none⟩) (ll3 al.o.1 N.o.size)).trans ((N.o.cell (p:=⟨b6,o6+k*4+3,none⟩) al.o.1).trans al.o.2);have h5:L.cell? ⟨b6,o6+uu*4+3,none⟩=some (.slice i5 ms.length h4):=(aj.o.2.cell (p:=⟨b6,o6+uu*4+3,none⟩) a0.o.1).trans a0.o.2;have du:L.cell? ⟨bu,ou+p,none⟩=some (.i uu):=(aj.o.2.cell (p:=⟨bu,ou+p,none⟩) c9.o.1).trans c9.o.2;have bn:b6<L.heap.size:=ll3 a0.o.1 ax;have f0:bu<L.heap.size:=ll3 c9.o.1 ax;by_cases ap:q<ms.length
                ·obtain ⟨bx,ox,va,vh,ix,ky,x0,x1,x2,x3,x4,x5,x6,x7,x8,sa,sh,-,-,-⟩:=(gy.o.keptM (Kp.below (aj.o.2.mono co))).atM j an;obtain ⟨kb,oy,j0,j1,i0,kz,y0,y1,y2,y3,y4,y5,y6,y7,y8,gt,i6,-,-,-⟩:=(gx.o.keptM (Kp.below (aj.o.2.mono co))).atM q ap;subst ix i0;have bg:=ag sa;have c1:=ag gt;obtain ⟨aa,ca,rfl,-⟩:=sa;obtain ⟨ah,ch,rfl,-⟩:=sh;obtain ⟨e5,e6,rfl,-⟩:=gt;obtain ⟨hz,h3,rfl,-⟩:=i6;have bi:Hid (((ms.drop q).all fun y=>jk c.be[j] y)=(jk c.be[j] ms[q]&&(ms.drop (q+1)).all fun y=>jk c.be[j] y)):=by
                  show _=_;rw [List.drop_eq_getElem_cons ap,List.all_cons]
                 have cv:Hid (jk c.be[j] ms[q]=false->∀w',Bl wz w'->cq l=4/\Bl w w'):=fun h=>hm.o (by rw [aj.o.1,bi.o,h,Bool.false_and]);have bb:Hid (jk c.be[j] ms[q]=true->((ms.all fun y=>jk c.be[j] y)=((ms.drop (q+1)).all fun y=>jk c.be[j] y))):=fun h=>aj.o.1.trans (by rw [bi.o,h,Bool.true_and]);generalize hxx:c.be[j]=x at*;generalize ms[q]=y at*;clear hxx;have f6:(0:Int)<=j:=by omega
                 have f7:(j:Int)<c.be.length:=by omega
                 have d5:(0:Int)<=q:=by omega
                 have d6:(q:Int)<ms.length:=by omega
                 have a7:=ag aj.o.2
                 go_upto_region 83 with fail
                 go_cut [27,28] (fun jn jz W=>∃X Y,jn=.p X/\jz=.p Y/\W.heap[X]? =some (.cells #[.string x.name,.bool x.static,.slice aa x.args.length ca,.i x.ret.kind,.string x.ret.de,.i x.stack,.i x.locals,.string x.code,.slice ah x.hands.length ch] 159 (0,0))/\W.heap[Y]? =some (.cells #[.string y.name,.bool y.static,.slice e5 y.args.length e6,.i y.ret.kind,.string y.ret.de,.i y.stack,.i y.locals,.string y.code,.slice hz y.hands.length h3] 159 (0,0))/\Bl L W)
                 case first=>
                  have F1:∀(cs:Array Value) (t:Nat) (C:Obj),(((L.alloc (.cells cs t)).alloc C).drew).heap[L.heap.size]? =some (.cells cs t (0,0)):=fun cs t C=>(Below.heap_alloc _ _ _ (by simp)).trans (heap_alloc_new L _);have F2:∀(A:Obj) (cs:Array Value) (t:Nat),(((L.alloc A).alloc (.cells cs t)).drew).heap[L.heap.size+1]? =some (.cells cs t (0,0)):=fun A cs t=>by
                   have:=heap_alloc_new (L.alloc A) (.cells cs t);have e:(L.alloc A).heap.size=L.heap.size+1:=by simp
                   rw [e]at this;exact this
                  have F3:∀A C,Bl L (((L.alloc A).alloc C).drew):=fun A C=>(((br _ _).alloc (nlq _) _).alloc (by simp) _).drew;have ej:=ag F1;have el:=ag F2;have eo:=ag F3;clear F1 F2 F3
                  go_region_held3 (fun W'=>∀p:Addr,p.block<L.heap.size->W'.cell? p=L.cell? p) (exact fun p hp=>Below.cell (B:=L.heap.size) (w:=L) (by repeat (first | exact br _ _ | refine Below.drew ?_ | refine Below.alloc ?_ (by simp<;>omega) _ | refine Below.setCell ?_ (by simp) _)) hp) (fail)
                  all_goals
                   go_wp2_with fail
                   go_meet
                   first
                    | exact ⟨L.heap.size,L.heap.size+1,rfl,rfl,ej.o _ _ _,el.o _ _ _,eo.o _ _⟩
                    | exact ⟨L.heap.size+1,L.heap.size,rfl,rfl,el.o _ _ _,ej.o _ _ _,eo.o _ _⟩
                 case rest=>
                  as_aux_lemma=>
                   clear x0 x1 x2 x3 x4 x5 x6 x7 x8 y0 y1 y2 y3 y4 y5 y6 y7 y8 d3 h5 du bn f0
                   rename World=>W
                   obtain ⟨X,Y,rfl,rfl,hX,hY,cn⟩:=hcut;have X0:=bp hX 0 (x:=.string x.name) rfl;have X1:=bp hX 1 (x:=.bool x.static) rfl;have X2:=bp hX 2 (x:=.slice aa x.args.length ca) rfl;have X3:=bp hX 3 (x:=.i x.ret.kind) rfl;have X4:=bp hX 4 (x:=.string x.ret.de) rfl;have Y0:=bp hY 0 (x:=.string y.name) rfl;have Y1:=bp hY 1 (x:=.bool y.static) rfl;have Y2:=bp hY 2 (x:=.slice e5 y.args.length e6) rfl;have Y3:=bp hY 3 (x:=.i y.ret.kind) rfl;have Y4:=bp hY 4 (x:=.string y.ret.de) rfl;have kn:=bz hX;have ks:=bz hY;have ct:Bl wz W:=a7.o.trans (cn.mono ax);have eg:Hid (∀n,Bl wz (W.drewN n)):=fun n=>o7 ct n;have ey:=ag (zos W (· <B) (· <B) _ _ x.args y.args (bg.o.keptK (Kp.below (cn.mono (lt3 co ax)))) (c1.o.keptK (Kp.below (cn.mono (lt3 co ax)))));have k5:=xi x.ret y.ret;have k4:=uw;have a5:Hid (jk x y=(!decide (x.name=y.name)||(!x.static&& !y.static&&db d7 x.args y.args&&d7 x.ret y.ret))):=rfl;have c4:Hid (jk x y=true->∀n,((ms.all fun z=>jk x z)=((ms.drop (q+1)).all fun z=>jk x z))/\Bl wz (W.drewN n)):=fun h n=>⟨bb.o h,eg.o n⟩;have a1:Hid (jk x y=false->∀n,cq l=4/\Bl w (W.drewN n)):=fun h n=>cv.o h _ (eg.o n);clear hX hY cn ct bg c1 cv bb a7;generalize db d7 x.args y.args=ek at*;generalize d7 x.ret y.ret=er at*;generalize x.static=sx at*;generalize y.static=sy at*;by_cases hn:x.name=y.name
                   rotate_left
                   ·have d8:(x.name.toList==y.name.toList)=false:=beq_eq_false_iff_ne.2 fun e=>hn (Av e);have E:=ag (c4.o (a5.o.trans (by simp [hn])) 0);clear hn ey;go_wp2_with fail;go_roundw
                    case rel=>exact ⟨q+1,by omega,by go_num,E.o⟩
                    case measure=>simp [intOf];omega
                   have d8:(x.name.toList==y.name.toList)=true:=by rw [hn];simp
                   cases sx with
                   | true=>
                     have E:=ag (a1.o (a5.o.trans (by simp [hn])) 0);exact absurd E.o.1 (by rw [H0.o];decide)
                   | false=>
                     cases sy with
                     | true=>
                       have E:=ag (a1.o (a5.o.trans (by simp [hn])) 0);exact absurd E.o.1 (by rw [H0.o];decide)
                     | false=>
                       cases ek with
                       | false=>
                         have E:=ag (a1.o (a5.o.trans (by simp [hn])));exact absurd (E.o 0).1 (by rw [H0.o];decide)
                       | true=>
                         cases er with
                         | false=>
                           have E:=ag (a1.o (a5.o.trans (by simp [hn])));exact absurd (E.o 0).1 (by rw [H0.o];decide)
                         | true=>
                           have E:=ag (c4.o (a5.o.trans (by simp [hn])));clear hn;go_wp2_with (first | (go_at_call 227;refine ey.o.mono ?_;rintro r w9 ⟨rfl,n9,rfl⟩));go_roundw
                           case rel=>exact ⟨q+1,by omega,by go_num,E.o _⟩
                           case measure=>simp [intOf];omega
                have g3:Hid ((ms.all fun y=>jk c.be[j] y)=true):=aj.o.1.trans (by rw [List.drop_of_length_le (by omega)];rfl);have E:Hid (c.be.all (fun x=>ms.all fun y=>jk x y)=(c.be.drop (j+1)).all (fun x=>ms.all fun y=>jk x y)/\Bl wz L):=⟨HJ.o.1.trans (ex.o.trans (by rw [g3.o,Bool.true_and])),aj.o.2⟩;go_wp2_with fail;go_roundw
                case rel=>exact ⟨j+1,by omega,by go_num,E.o⟩
                case measure=>simp [intOf];omega
              have g0:Hid (c.be.all (fun x=>ms.all fun y=>jk x y)=true):=HJ.o.1.trans (by rw [List.drop_of_length_le (by omega)];rfl);have E:Hid (up.dropLast.all (fun u=>c.be.all fun x=>(cd l u).be.all fun y=>jk x y)=(up.dropLast.drop (p+1)).all (fun u=>c.be.all fun x=>(cd l u).be.all fun y=>jk x y)/\Bl wz L):=⟨HP.o.1.trans (c2.o.trans (by rw [g0.o,Bool.true_and])),HJ.o.2⟩;go_wp2_with fail;go_roundw
              case rel=>exact ⟨p+1,by omega,by go_num,E.o⟩
              case measure=>simp [intOf];omega
            have g2:Hid (up.dropLast.all (fun u=>c.be.all fun x=>(cd l u).be.all fun y=>jk x y)=true):=HP.o.1.trans (by rw [List.drop_of_length_le (by omega)];rfl);have E:=ag (ac.o (J.o.trans g2.o) _ (N.o.trans (HP.o.2.mono N.o.size)));have i1:¬(p:Int)<(up.length:Int) - 1:=by omega
            go_wp2_with fail;go_roundw
            case rel=>exact ⟨k+1,by omega,by go_num,E.o⟩
            case measure=>simp [intOf];omega
          have H9:Hid (fg l (q9 l)=true):=En D G.o.1;have E:=ag (lk10 ai.o H1.o H2.o H3.o H4.o H5.o H6.o H7.o H8.o H9.o);go_wp2_with fail;go_ret;exact ⟨by rw [E.o];rfl,G.o.2⟩
end Go.Proofs.YtjdnmblggdobgaaGreat
