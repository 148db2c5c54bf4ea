import Derived.Test.YtjdnmblggdobgaaGreatJLCkDLPu4
import Derived.Test.YtjdnmblggdobgaaGreatJRefNameRefClass
import Derived.Deep.RegionHeld3
set_option maxHeartbeats 16000000
set_option maxRecDepth 100000
namespace Go.Proofs.YtjdnmblggdobgaaGreat
open Go.RowKit Go.Sort Tryz List
theorem z1m (w:World) (B:Nat) (l:List aq) (v:Value) (hv:SL 4 RC (· <B) w v l) (hB:B<=w.heap.size) (h0:db l=0):
 Calls prog 181 #[v] w fun r w'=>r=.returned (.i (db l))/\Bl w w':=by
 have H0:=aj h0;clear h0;have HV:=aj hv;have eg:=aj (zqe w B l v hv hB);obtain ⟨ao,cl,rfl,-⟩:=hv;by_cases hc:ed l=0
 rotate_left
 ·have E:Hid (db l=ed l):=by show db l=ed l;simp [db,hc]
  exact absurd (E.o.symm.trans H0.o) hc
 obtain ⟨hN,bo⟩:=zgd hc;have a0:=aj bo;have af:=aj hc;rw [hc]at eg;clear hc bo;go_enter func181,ntmps181;go_wp2_with (first | (go_at_call 224;refine eg.o.mono ?_;rintro r w0 ⟨rfl,e7⟩;have g1:=aj e7;clear e7));go_loopw [4] (fun i wr=>∃k:Nat,k<=l.length/\i=.i k/\Hid ((∀j,j<k->q1 l j=true)/\Bl w wr)) (fun i _=>l.length - (intOf i).toNat)
 case atStart=>exact ⟨0,n0q _,rfl,(fun j h=>by omega),g1.o⟩
 case round=>as_aux_lemma=>
  rename World=>wr
  obtain ⟨k,hk,rfl,G⟩:=hrel;have I:w.heap.size<=wr.heap.size:=G.o.2.size;have F:Hid (SL 4 RC (· <B) wr (.slice ao l.length cl) l):=HV.o.keptC (Kp.below (G.o.2.mono hB));by_cases D:k<l.length
  ·obtain ⟨b,off,vf,vm,rfl,V,e0,e1,e2,e3,ef,em,ad,ae⟩:=F.o.atC k D;clear ef em e1 e2 e3 ad ae;have a4:=aj (C1 wr (· <B) _ l l[k].name F.o);have J:Hid (q1 l k=decide (cd l l[k].name=k)):=by show q1 l k=_;rw [q1,tu D]
   have c4:=(Bv l l[k].name).1;have c5:=(Bv l l[k].name).2;generalize cd l l[k].name=fa at*;by_cases hs:fa=k
   ·subst hs;have hl:Hid ((∀j,j<k+1->q1 l j=true)/\Bl w wr):=⟨Ez G.o.1 (by rw [J.o];simp),G.o.2⟩;go_wp2_with (first | (go_at_call 184;refine a4.o.mono ?_;rintro r w7 ⟨rfl,rfl⟩));go_roundw
    case rel=>exact ⟨k+1,by omega,by go_num,hl.o⟩
    case measure=>simp [intOf];omega
   have E:=aj (Aq af.o (Ey D (by rw [J.o];simp [hs])));exact absurd E.o (by rw [H0.o];decide)
  have H1:Hid (fp l (q1 l)=true):=Ex D G.o.1;have b1:=aj G.o.2;have eh:=aj (C1 wr (· <B) _ l f9 F.o);have b3:=aj (C1 wr (· <B) _ l gr F.o);have fj:=(Bv l f9).1;have fl:=(Bv l f9).2;have fc:=(Bv l gr).1;have ff:=(Bv l gr).2;have dd:Hid (q2 l=(decide (0<=cd l f9)&&decide (0<=cd l gr))):=rfl;have eo:Hid (q6 l=(decide ((cz l (cd l gr).toNat).b9=f9)&&(match ni l (cd l gr).toNat with | []=>false | f::_=>decide (f.kind.kind=1)))):=rfl;have g9:Hid (∀w M v,SL 4 RC M w v l->Calls prog 184 #[v,.string gr] w fun r w'=>r=.returned (.i (cd l gr))/\w'=w):=fun w M v h=>C1 w M v l gr h;generalize cd l f9=ft at*;generalize cd l gr=fe at*;clear G F;by_cases ht:ft<0
  ·have E:=aj (lk2 af.o H1.o (by rw [dd.o];simp;omega));exact absurd E.o (by rw [H0.o];decide)
  by_cases he:fe<0
  ·have E:=aj (lk2 af.o H1.o (by rw [dd.o];simp;omega));exact absurd E.o (by rw [H0.o];decide)
  have H2:Hid (q2 l=true):=dd.o.trans (by simp;omega);go_wp2_with (first | (go_at_call_of 184 (Value.string ⟨#[79,98,106,101,99,116]⟩);refine eh.o.mono ?_;rintro r w7 ⟨rfl,rfl⟩) | (go_at_call 184;refine b3.o.mono ?_;rintro r w7 ⟨rfl,rfl⟩));clear eh b3 fj fl D hk I;go_loopw [5] (fun i wr=>∃k:Nat,k<=l.length/\i=.i k/\Hid ((∀j,j<k->q3 l j=true)/\Bl w wr)) (fun i _=>l.length - (intOf i).toNat)
  case atStart=>exact ⟨0,n0q _,rfl,(fun j h=>by omega),b1.o⟩
  case round=>as_aux_lemma=>
   rename World=>wr
   obtain ⟨k,hk,rfl,G⟩:=hrel;have I:w.heap.size<=wr.heap.size:=G.o.2.size;have F:Hid (SL 4 RC (· <B) wr (.slice ao l.length cl) l):=HV.o.keptC (Kp.below (G.o.2.mono hB));by_cases D:k<l.length
   ·obtain ⟨b,off,vf,vm,rfl,V,e0,e1,e2,e3,ef,em,ad,ae⟩:=F.o.atC k D;clear ef em e2 e3 ad ae;have J:Hid (q3 l k=upperB l[k]):=by show q3 l k=_;rw [q3,tu D]
    generalize l[k]=c at*;have ac:Hid (upperB c=true->(∀j,j<k+1->q3 l j=true)/\∀n,Bl w (wr.drewN n)):=fun h=>⟨Ez G.o.1 (J.o.trans h),fun n=>pa G.o.2 n⟩;have O:Hid (upperB c=false->db l=4/\∀n,Bl w (wr.drewN n)):=fun h=>⟨zv af.o H1.o H2.o (Ey D (J.o.trans h)),fun n=>pa G.o.2 n⟩;by_cases h1:c.name=f9
    ·have t1:c.name.toList= [79,98,106,101,99,116]:=by rw [h1];exact zdk
     by_cases h2:c.b9=⟨#[]⟩
     ·have t2:=Cx h2;have E:=aj (ac.o (by simp [upperB,h1,h2]));clear h1 h2;go_wp2_with fail;go_quiet (fail);go_wp2_with fail;go_roundw
      case rel=>exact ⟨k+1,by omega,by go_num,E.o.1,E.o.2 _⟩
      case measure=>simp [intOf];omega
     have t2:=zon h2;have E:=aj (O.o (by simp [upperB,h1,h2]));exact absurd E.o.1 (by rw [H0.o];decide)
    have t1:(c.name.toList== [79,98,106,101,99,116])=false:=beq_eq_false_iff_ne.2 fun e=>h1 (Bu (e.trans zdk.symm));by_cases h2:c.b9=⟨#[]⟩
    ·have t2:=Cx h2;have E:=aj (O.o (by simp [upperB,h1,h2]));exact absurd E.o.1 (by rw [H0.o];decide)
    have t2:=zon h2;have E:=aj (ac.o (by simp [upperB,h1,h2]));clear h1 h2;go_wp2_with fail;go_quiet (fail);go_wp2_with fail;go_roundw
    case rel=>exact ⟨k+1,by omega,by go_num,E.o.1,E.o.2 _⟩
    case measure=>simp [intOf];omega
   have H3:Hid (fp l (q3 l)=true):=Ex D G.o.1;have g2:=aj G.o.2;clear G F;go_wp2_with fail;clear D hk I;go_loopw [6] (fun i wr=>∃k:Nat,k<=l.length/\i=.i k/\Hid ((∀j,j<k->q4 l j=true)/\Bl w wr)) (fun i _=>l.length - (intOf i).toNat)
   case atStart=>exact ⟨0,n0q _,rfl,(fun j h=>by omega),g2.o⟩
   case round=>as_aux_lemma=>
    rename World=>wr
    obtain ⟨k,hk,rfl,G⟩:=hrel;have I:w.heap.size<=wr.heap.size:=G.o.2.size;have F:Hid (SL 4 RC (· <B) wr (.slice ao l.length cl) l):=HV.o.keptC (Kp.below (G.o.2.mono hB));by_cases D:k<l.length
    ·obtain ⟨b,off,vf,vm,rfl,V,e0,e1,e2,e3,ef,em,ad,ae⟩:=F.o.atC k D;clear ef em e0 e2 e3 ad ae;have J:Hid (q4 l k=(decide (l[k].b9=(⟨#[]⟩:ByteArray))||decide (0<=cd l l[k].b9))):=by show q4 l k=_;rw [q4,tu D]
     have a4:=aj (C1 wr (· <B) _ l l[k].b9 F.o);have c4:=(Bv l l[k].b9).1;have c5:=(Bv l l[k].b9).2;generalize l[k]=c at*;generalize cd l c.b9=fa at*;have ac:Hid (q4 l k=true->(∀j,j<k+1->q4 l j=true)/\Bl w wr):=fun h=>⟨Ez G.o.1 h,G.o.2⟩;have O:Hid (q4 l k=false->db l=5/\Bl w wr):=fun h=>⟨Ef af.o H1.o H2.o H3.o (Ey D h),G.o.2⟩;by_cases h1:c.b9=⟨#[]⟩
     ·have t1:=Cx h1;have E:=aj (ac.o (J.o.trans (by simp [h1])));clear h1 a4;go_wp2_with fail;go_roundw
      case rel=>exact ⟨k+1,by omega,by go_num,E.o⟩
      case measure=>simp [intOf];omega
     have t1:=zon h1;by_cases h2:fa<0
     ·have E:=aj (O.o (J.o.trans (by simp [h1];omega)));exact absurd E.o.1 (by rw [H0.o];decide)
     have E:=aj (ac.o (J.o.trans (by simp [h1];omega)));clear h1;go_wp2_with (first | (go_at_call 184;refine a4.o.mono ?_;rintro r w7 ⟨rfl,rfl⟩));go_roundw
     case rel=>exact ⟨k+1,by omega,by go_num,E.o⟩
     case measure=>simp [intOf];omega
    have H4:Hid (fp l (q4 l)=true):=Ex D G.o.1;have g3:=aj G.o.2;clear G F;go_wp2_with fail;clear D hk I;go_loopw [7] (fun i wr=>∃k:Nat,k<=l.length/\i=.i k/\Hid ((∀j,j<k->q5 l j=true)/\Bl w wr)) (fun i _=>l.length - (intOf i).toNat)
    case atStart=>exact ⟨0,n0q _,rfl,(fun j h=>by omega),g3.o⟩
    case round=>as_aux_lemma=>
     rename World=>wr
     obtain ⟨k,hk,rfl,G⟩:=hrel;have I:w.heap.size<=wr.heap.size:=G.o.2.size;have F:Hid (SL 4 RC (· <B) wr (.slice ao l.length cl) l):=HV.o.keptC (Kp.below (G.o.2.mono hB));by_cases D:k<l.length
     ·have ce:=aj (zoc wr B _ l k D F.o (lt3 hB I) hN);have J:Hid (q5 l k=decide (0<(qb l k).length)):=rfl;have i1:=(zn7 D).2;have ac:Hid (q5 l k=true->(∀j,j<k+1->q5 l j=true)/\∀w',Bl wr w'->Bl w w'):=fun h=>⟨Ez G.o.1 h,fun w' V=>G.o.2.trans (V.mono I)⟩;have O:Hid (q5 l k=false->db l=4/\∀w',Bl wr w'->Bl w w'):=fun h=>⟨lk5 af.o H1.o H2.o H3.o H4.o (Ey D h),fun w' V=>G.o.2.trans (V.mono I)⟩;generalize qb l k=up at*;by_cases h2:up.length=0
      ·have E:=aj (O.o (J.o.trans (by simp [h2])));exact absurd E.o.1 (by rw [H0.o];decide)
      have E:=aj (ac.o (J.o.trans (by simp;omega)));have j5:¬(up.length:Int)=0:=by omega
      go_wp2_with (first | (go_at_call 225;refine ce.o.mono ?_;rintro r w7 ⟨e9,u7,rfl,i4⟩;obtain ⟨au,cu,rfl,-⟩:=i4;have c6:=aj e9;clear e9));go_roundw
      case rel=>exact ⟨k+1,by omega,by go_num,E.o.1,E.o.2 _ c6.o⟩
      case measure=>simp [intOf];omega
     have H5:Hid (fp l (q5 l)=true):=Ex D G.o.1;have j2:=aj G.o.2;obtain ⟨en,rfl⟩:=Int.eq_ofNat_of_zero_le (show 0<=fe by omega);have dz:en<l.length:=by omega
     have b3:=aj (g9.o wr (· <B) _ F.o);have a3:=aj (zod wr B _ l en dz F.o (lt3 hB I) hN (fun c hc=>(a0.o c hc).2.2.1));have J:Hid (q6 l=(decide (l[en].b9=f9)&&(match ni l en with | []=>false | f::_=>decide (f.kind.kind=1)))):=eo.o.trans (by rw [show ((en:Int)).toNat=en from rfl,tu dz]);have ha:Hid (∀w',Bl wr w'->Bl w w'):=fun w' V=>G.o.2.trans (V.mono I);generalize ni l en=fs at*;have kx:(0:Int)<=en:=by omega
     have ky:(en:Int)<l.length:=by omega
     have hr:=aj F.o;have g6:=aj (lt3 hB I);clear G F eo ht he fc ff
     go_upto_region 28 with (first | (go_at_call 184;refine b3.o.mono ?_;rintro r w7 ⟨rfl,rfl⟩) | (go_at_call 182;refine a3.o.mono ?_;rintro r w8 ⟨av,u8,rfl,az⟩;have eb:=aj av;have eq:=aj az;obtain ⟨a8,c8,rfl,-⟩:=az;clear av))
     clear D hk I;obtain ⟨b6,o6,vf,vm,rfl,V,e0,e1,e2,e3,ef,em,ad,ae⟩:=(hr.o.keptC (Kp.below (eb.o.mono g6.o))).atC en dz;clear ef em e0 e2 e3 ad ae;have g4:=aj (ha.o _ eb.o);have O:Hid (q6 l=false->db l=4):=fun h=>lk6 af.o H1.o H2.o H3.o H4.o H5.o h;generalize l[en]=c at*;by_cases h1:c.b9=f9
     rotate_left
     ·have t1:(c.b9.toList== [79,98,106,101,99,116])=false:=beq_eq_false_iff_ne.2 fun e=>h1 (Bu (e.trans zdk.symm));have E:=aj (O.o (J.o.trans (by simp [h1])));exact absurd E.o (by rw [H0.o];decide)
     have t1:c.b9.toList= [79,98,106,101,99,116]:=by rw [h1];exact zdk
     cases fs with
     | nil=>
       have E:=aj (O.o (J.o.trans (by simp)));exact absurd E.o (by rw [H0.o];decide)
     | cons f fs=>
       obtain ⟨bf,of,rfl,ds,y0,y1,y2,-,-⟩:=eq.o.atF 0 (by simp);have jz:w8.cell? ⟨bf,of+1,none⟩=some (.i f.kind.kind):=by simpa using y1
       have cy:Hid (q6 l=decide (f.kind.kind=1)):=J.o.trans (by simp [h1]);clear y0 y1 y2 h1 eq J;generalize f.kind.kind=fk at*;have h5:(0:Int)<((fs.length+1:Nat):Int):=by omega
       have f1:(((fs.length+1:Nat):Int)==0)=false:=beq_eq_false_iff_ne.2 (by omega);have f2:((fs.length:Int)+1==0)=false:=beq_eq_false_iff_ne.2 (by omega);by_cases bs:fk=1
       rotate_left
       ·have E:=aj (O.o (cy.o.trans (by simp [bs])));exact absurd E.o (by rw [H0.o];decide)
       subst bs;have H6:Hid (q6 l=true):=cy.o.trans (by simp);go_wp2_with fail;clear jz t1 h5 f1 f2 e1;go_loopw [10] (fun i wr=>∃k:Nat,k<=l.length/\i=.i k/\Hid ((∀j,j<k->q7 l j=true)/\Bl w wr)) (fun i _=>l.length - (intOf i).toNat)
       case atStart=>exact ⟨0,n0q _,rfl,(fun j h=>by omega),g4.o⟩
       case round=>as_aux_lemma=>
        rename World=>wr
        obtain ⟨k,hk,rfl,G⟩:=hrel;have I:w.heap.size<=wr.heap.size:=G.o.2.size;have F:Hid (SL 4 RC (· <B) wr (.slice (some ⟨b6,o6,none⟩) l.length cl) l):=HV.o.keptC (Kp.below (G.o.2.mono hB));by_cases D:k<l.length
        ·obtain ⟨b,off,vf,vm,ak,V,e0,e1,e2,e3,ef,em,ad,ae⟩:=F.o.atC k D;obtain ⟨rfl,rfl⟩:b6=b/\o6=off:=by simpa using ak
         clear ak;have J:Hid (q7 l k=(l[k].fields.all (fun f=>ig l f.kind)&&l[k].bd.all (oq l))):=by show q7 l k=_;rw [q7,tu D]
         have Z:B<=wr.heap.size:=lt3 hB I;have ac:Hid (q7 l k=true->∀w',Bl wr w'->(∀j,j<k+1->q7 l j=true)/\Bl w w'):=fun h w' V=>⟨Ez G.o.1 h,G.o.2.trans (V.mono I)⟩;have O:Hid (q7 l k=false->∀w',Bl wr w'->db l=5/\Bl w w'):=fun h w' V=>⟨lk7 af.o H1.o H2.o H3.o H4.o H5.o H6.o (Ey D h),G.o.2.trans (V.mono I)⟩;have ks:=(a0.o l[k] (gm D)).2.2.1;have fz:=(a0.o l[k] (gm D)).2.2.2.2.1;generalize l[k]=c at*;have EF:=aj ef;have EM:=aj em;obtain ⟨fo,cf,rfl,-⟩:=ef;obtain ⟨mo,cm,rfl,-⟩:=em;have a5:=aj (And.intro V (And.intro e2 e3));have f6:(0:Int)<=k:=by omega
         have bs:(k:Int)<l.length:=by omega
         clear e0 e1 e2 e3 ad ae G V;go_wp2_with fail;go_loopw [11] (fun i wq=>∃j:Nat,j<=c.fields.length/\i=.i j/\Hid (c.fields.all (fun f=>ig l f.kind)=(c.fields.drop j).all (fun f=>ig l f.kind)/\Bl wr wq)) (fun i _=>c.fields.length - (intOf i).toNat)
         case atStart=>exact ⟨0,n0q _,rfl,rfl,br _ _⟩
         case round=>
          rename World=>wq
          obtain ⟨j,hj,rfl,HJ⟩:=hrel;have d8:wr.heap.size<=wq.heap.size:=HJ.o.2.size;have d2:wq.cell? ⟨b6,o6+k*4+2,none⟩=some (.slice fo c.fields.length cf):=(HJ.o.2.cell (p:=⟨b6,o6+k*4+2,none⟩) a5.o.1).trans a5.o.2.1;have h4:b6<wq.heap.size:=ll3 a5.o.1 d8;by_cases am:j<c.fields.length
          ·obtain ⟨bf,of,h6,ds,y0,y1,y2,-,z2⟩:=(EF.o.keptF (Kp.below (HJ.o.2.mono Z))).atF j am;subst h6;have bk:Hid ((c.fields.drop j).all (fun f=>ig l f.kind)=(ig l c.fields[j].kind&&(c.fields.drop (j+1)).all (fun f=>ig l f.kind))):=by
            show _=_;rw [drop_eq_getElem_cons am,all_cons]
           generalize c.fields[j]=x at*;have dl:Bl wr (wq.alloc (.cells #[.i x.kind.kind,.string x.kind.dj] 123)):=HJ.o.2.alloc d8 _;have b7:=aj (zn5 (wq.alloc (.cells #[.i x.kind.kind,.string x.kind.dj] 123)) (· <B) (· <wq.heap.size+1) _ _ l [x.kind] (F.o.keptC (Kp.below (dl.mono Z))) (A8 wq x.kind _ wq.heap.size z2 rfl));have b4:Hid ([x.kind].all (ig l)=ig l x.kind):=by show _=_;simp
           rw [b4.o]at b7;have ec:=aj dl;have f4:(0:Int)<=j:=by omega
           have f5:(j:Int)<c.fields.length:=by omega
           clear dl y0 z2;cases hx:ig l x.kind
           ·rw [hx]at b7;have E:=aj (O.o (J.o.trans (by rw [HJ.o.1,bk.o,hx];simp)) _ ec.o);exact absurd E.o.1 (by rw [H0.o];decide)
           rw [hx]at b7;have E:Hid (c.fields.all (fun f=>ig l f.kind)=(c.fields.drop (j+1)).all (fun f=>ig l f.kind)/\Bl wr (wq.alloc (.cells #[.i x.kind.kind,.string x.kind.dj] 123))):=⟨HJ.o.1.trans (bk.o.trans (by rw [hx,Bool.true_and])),ec.o⟩;clear hx;go_wp2_with (first | (go_at_call 226;refine b7.o.mono ?_;rintro r w7 ⟨rfl,rfl⟩));go_roundw
           case rel=>exact ⟨j+1,by omega,by go_num,E.o⟩
           case measure=>simp [intOf];omega
          have a3:Hid (c.fields.all (fun f=>ig l f.kind)=true):=HJ.o.1.trans (by rw [drop_of_length_le (by omega)];rfl);have a9:=aj HJ.o.2;clear HJ;go_wp2_with fail;clear am hj d8 d2 h4;go_loopw [12] (fun i wm=>∃j:Nat,j<=c.bd.length/\i=.i j/\Hid (c.bd.all (oq l)=(c.bd.drop j).all (oq l)/\Bl wr wm)) (fun i _=>c.bd.length - (intOf i).toNat)
          case atStart=>exact ⟨0,n0q _,rfl,rfl,a9.o⟩
          case round=>
           clear a9
           rename World=>wm
           obtain ⟨j,hj,rfl,HJ⟩:=hrel;have co:wr.heap.size<=wm.heap.size:=HJ.o.2.size;have d3:wm.cell? ⟨b6,o6+k*4+3,none⟩=some (.slice mo c.bd.length cm):=(HJ.o.2.cell (p:=⟨b6,o6+k*4+3,none⟩) a5.o.1).trans a5.o.2.2;have kk:b6<wm.heap.size:=ll3 a5.o.1 co;by_cases am:j<c.bd.length
           ·obtain ⟨bm,om,va,vh,h8,j1,m0,m1,m2,m3,m4,m5,m6,m7,m8,sa,sh,i5,gs,i6⟩:=(EM.o.keptM (Kp.below (HJ.o.2.mono Z))).atM j am;subst h8;have bi:=aj sa;have es:=aj sh;obtain ⟨aa,ca,rfl,-⟩:=sa;obtain ⟨ah,ch,rfl,-,h7,-⟩:=sh;have bk:Hid ((c.bd.drop j).all (oq l)=(oq l c.bd[j]&&(c.bd.drop (j+1)).all (oq l))):=by
             show _=_;rw [drop_eq_getElem_cons am,all_cons]
            generalize c.bd[j]=m at*;have cc:Hid (oq l m=(m.args.all (ig l)&&ig l m.ret&&m.hands.all (fun h=>decide (0<=cd l h.dj)))):=rfl;have cj:Bl wr (wm.alloc (.cells #[.string m.name,.bool m.static,.slice aa m.args.length ca,.i m.ret.kind,.string m.ret.dj,.i m.stack,.i m.locals,.string m.code,.slice ah m.hands.length ch] 159)):=HJ.o.2.alloc co _;have dk:Bl wr ((wm.alloc (.cells #[.string m.name,.bool m.static,.slice aa m.args.length ca,.i m.ret.kind,.string m.ret.dj,.i m.stack,.i m.locals,.string m.code,.slice ah m.hands.length ch] 159)).alloc (.cells #[.i m.ret.kind,.string m.ret.dj] 123)):=cj.alloc (by simp;omega) _;have ez:=aj (zn5 (wm.alloc (.cells #[.string m.name,.bool m.static,.slice aa m.args.length ca,.i m.ret.kind,.string m.ret.dj,.i m.stack,.i m.locals,.string m.code,.slice ah m.hands.length ch] 159)) (· <B) (· <B) _ _ l m.args (F.o.keptC (Kp.below (cj.mono Z))) (bi.o.keptK (Kp.below (((br wm.heap.size wm).alloc (nlq _) _).mono (lt3 Z co)))));have df:=aj (zn5 ((wm.alloc (.cells #[.string m.name,.bool m.static,.slice aa m.args.length ca,.i m.ret.kind,.string m.ret.dj,.i m.stack,.i m.locals,.string m.code,.slice ah m.hands.length ch] 159)).alloc (.cells #[.i m.ret.kind,.string m.ret.dj] 123)) (· <B) (· <wm.heap.size+1+1) _ _ l [m.ret] (F.o.keptC (Kp.below (dk.mono Z))) (A8 (wm.alloc (.cells #[.string m.name,.bool m.static,.slice aa m.args.length ca,.i m.ret.kind,.string m.ret.dj,.i m.stack,.i m.locals,.string m.code,.slice ah m.hands.length ch] 159)) m.ret _ (wm.heap.size+1) gs (by simp)));have b4:Hid ([m.ret].all (ig l)=ig l m.ret):=by show _=_;simp
            rw [b4.o]at df;have b1:=aj cj;have b2:=aj dk;have f4:(0:Int)<=j:=by omega
            have f5:(j:Int)<c.bd.length:=by omega
            have c9:Hid (oq l m=false->∀w',Bl wr w'->db l=5/\Bl w w'):=fun h=>O.o (J.o.trans (by rw [HJ.o.1,bk.o,h];simp));clear cj dk i5 i6;generalize m.args.all (ig l)=ta at*;generalize ig l m.ret=tr at*;cases ta
            ·have E:=aj (c9.o (cc.o.trans (by simp)) _ b1.o);exact absurd E.o.1 (by rw [H0.o];decide)
            cases tr
            ·have E:=aj (c9.o (cc.o.trans (by simp)) _ b2.o);exact absurd E.o.1 (by rw [H0.o];decide)
            have f8:((wm.alloc (.cells #[.string m.name,.bool m.static,.slice aa m.args.length ca,.i m.ret.kind,.string m.ret.dj,.i m.stack,.i m.locals,.string m.code,.slice ah m.hands.length ch] 159)).alloc (.cells #[.i m.ret.kind,.string m.ret.dj] 123)).cell? ⟨wm.heap.size,8,none⟩=some (.slice ah m.hands.length ch):=by simp [go_sem]
            have ix:Hid (SL 4 RH (· <B) ((wm.alloc (.cells #[.string m.name,.bool m.static,.slice aa m.args.length ca,.i m.ret.kind,.string m.ret.dj,.i m.stack,.i m.locals,.string m.code,.slice ah m.hands.length ch] 159)).alloc (.cells #[.i m.ret.kind,.string m.ret.dj] 123)) (.slice ah m.hands.length ch) m.hands):=es.o.keptH (Kp.below ((((br wm.heap.size wm).alloc (nlq _) _).alloc (by simp) _).mono (lt3 Z co)));have i0:Hid (SL 4 RC (· <B) ((wm.alloc (.cells #[.string m.name,.bool m.static,.slice aa m.args.length ca,.i m.ret.kind,.string m.ret.dj,.i m.stack,.i m.locals,.string m.code,.slice ah m.hands.length ch] 159)).alloc (.cells #[.i m.ret.kind,.string m.ret.dj] 123)) (.slice (some ⟨b6,o6,none⟩) l.length cl) l):=F.o.keptC (Kp.below (b2.o.mono Z));have k1:wm.heap.size<((wm.alloc (.cells #[.string m.name,.bool m.static,.slice aa m.args.length ca,.i m.ret.kind,.string m.ret.dj,.i m.stack,.i m.locals,.string m.code,.slice ah m.hands.length ch] 159)).alloc (.cells #[.i m.ret.kind,.string m.ret.dj] 123)).heap.size:=by simp;omega
            have c2:Hid (oq l m=m.hands.all (fun h=>decide (0<=cd l h.dj))):=cc.o.trans (by simp);unfold maxLen at h7
            go_upto_region 44 with (first | (go_at_call_of 226 (Value.slice aa m.args.length ca);refine ez.o.mono ?_;rintro r w7 ⟨rfl,rfl⟩) | (go_at_call 226;refine df.o.mono ?_;rintro r w7 ⟨rfl,rfl⟩))
            clear ez df b1 bi es m0 m1 m2 m3 m4 m5 m6 m7 m8 gs cc b4;generalize hW2:((wm.alloc (.cells #[.string m.name,.bool m.static,.slice aa m.args.length ca,.i m.ret.kind,.string m.ret.dj,.i m.stack,.i m.locals,.string m.code,.slice ah m.hands.length ch] 159)).alloc (.cells #[.i m.ret.kind,.string m.ret.dj] 123))=W2 at*;clear hW2;go_wp2_with fail;go_loopw [14] (fun i L=>∃q:Nat,q<=m.hands.length/\i=.i q/\Hid (m.hands.all (fun h=>decide (0<=cd l h.dj))=(m.hands.drop q).all (fun h=>decide (0<=cd l h.dj)))/\L=W2) (fun i _=>m.hands.length - (intOf i).toNat)
            case atStart=>exact ⟨0,n0q _,rfl,rfl,rfl⟩
            case round=>
             obtain ⟨q,hq,rfl,HH,rfl⟩:=hrel
             rename World=>W2
             by_cases an:q<m.hands.length
             ·obtain ⟨bh,oh,h3,kb,y0,y1,y2,y3,z⟩:=ix.o.atH q an;subst h3;have bj:Hid ((m.hands.drop q).all (fun h=>decide (0<=cd l h.dj))=(decide (0<=cd l m.hands[q].dj)&&(m.hands.drop (q+1)).all (fun h=>decide (0<=cd l h.dj)))):=by
               show _=_;rw [drop_eq_getElem_cons an,all_cons]
              have a4:=aj (C1 W2 (· <B) _ l m.hands[q].dj i0.o);have c4:=(Bv l m.hands[q].dj).1;have c5:=(Bv l m.hands[q].dj).2;generalize m.hands[q]=x at*;generalize cd l x.dj=fa at*;have d4:(0:Int)<=q:=by omega
              have d5:(q:Int)<m.hands.length:=by omega
              clear y0 y1 y2 z;by_cases hf:fa<0
              ·have E:=aj (c9.o (c2.o.trans (HH.o.trans (by rw [bj.o];simp;omega))) _ b2.o);exact absurd E.o.1 (by rw [H0.o];decide)
              have E:Hid (m.hands.all (fun h=>decide (0<=cd l h.dj))=(m.hands.drop (q+1)).all (fun h=>decide (0<=cd l h.dj))):=HH.o.trans (by
               rw [bj.o];have:(0:Int)<=fa:=by omega
               simp [this])
              go_wp2_with (first | (go_at_call 184;refine a4.o.mono ?_;rintro r w7 ⟨rfl,rfl⟩));go_roundw
              case rel=>exact ⟨q+1,by omega,by go_num,E.o,trivial⟩
              case measure=>simp [intOf];omega
             have hm:Hid (oq l m=true):=c2.o.trans (HH.o.trans (by rw [drop_of_length_le (by omega)];rfl));have E:Hid (c.bd.all (oq l)=(c.bd.drop (j+1)).all (oq l)/\Bl wr W2):=⟨HJ.o.1.trans (bk.o.trans (by rw [hm.o,Bool.true_and])),b2.o⟩;go_wp2_with fail;go_roundw
             case rel=>exact ⟨j+1,by omega,by go_num,E.o⟩
             case measure=>simp [intOf];omega
           have gy:Hid (c.bd.all (oq l)=true):=HJ.o.1.trans (by rw [drop_of_length_le (by omega)];rfl);have E:=aj (ac.o (J.o.trans (by rw [a3.o,gy.o];rfl)) _ HJ.o.2);go_wp2_with fail;go_roundw
           case rel=>exact ⟨k+1,by omega,by go_num,E.o⟩
           case measure=>simp [intOf];omega
        have H7:Hid (fp l (q7 l)=true):=Ex D G.o.1;have c6:=aj G.o.2;clear G F;go_wp2_with fail;clear D hk I;go_loopw [15] (fun i wr=>∃k:Nat,k<=l.length/\i=.i k/\Hid ((∀j,j<k->q8 l j=true)/\Bl w wr)) (fun i _=>l.length - (intOf i).toNat)
        case atStart=>exact ⟨0,n0q _,rfl,(fun j h=>by omega),c6.o⟩
        case round=>as_aux_lemma=>
         rename World=>wr
         obtain ⟨k,hk,rfl,G⟩:=hrel;have I:w.heap.size<=wr.heap.size:=G.o.2.size;have F:Hid (SL 4 RC (· <B) wr (.slice (some ⟨b6,o6,none⟩) l.length cl) l):=HV.o.keptC (Kp.below (G.o.2.mono hB));by_cases D:k<l.length
         ·have a3:=aj (zod wr B _ l k D F.o (lt3 hB I) hN (fun c hc=>(a0.o c hc).2.2.1));obtain ⟨b,off,vf,vm,ak,V,e0,e1,e2,e3,ef,em,ad,ae⟩:=F.o.atC k D;obtain ⟨rfl,rfl⟩:b6=b/\o6=off:=by simpa using ak
          have fz:=(a0.o l[k] (gm D)).2.2.2.2.1;have J:Hid (q8 l k=(dp ((ni l k).map (·.name))&&dp (l[k].bd.map (·.name)))):=by show q8 l k=_;rw [q8,tu D]
          have Z:B<=wr.heap.size:=lt3 hB I;have ac:Hid (q8 l k=true->∀w',Bl wr w'->(∀j,j<k+1->q8 l j=true)/\Bl w w'):=fun h w' V=>⟨Ez G.o.1 h,G.o.2.trans (V.mono I)⟩;have O:Hid (q8 l k=false->∀w',Bl wr w'->db l=6/\Bl w w'):=fun h w' V=>⟨lk8 af.o H1.o H2.o H3.o H4.o H5.o H6.o H7.o (Ey D h),G.o.2.trans (V.mono I)⟩;generalize l[k]=c at*;generalize ni l k=fs at*;have EM:=aj em;obtain ⟨mo,cm,rfl,-⟩:=em;have al:=aj (And.intro V e3);have f6:(0:Int)<=k:=by omega
          have bs:(k:Int)<l.length:=by omega
          have b5:Hid (dp (fs.map (·.name))=false->q8 l k=false):=fun h=>J.o.trans (by rw [h];rfl);clear e0 e1 e2 e3 ad ae G V ef ak;go_wp2_with (first | (go_at_call 182;refine a3.o.mono ?_;rintro r wz ⟨av,u8,rfl,az⟩;have N:=aj av;have a7:=aj az;obtain ⟨a8,c8,rfl,-,f3,-⟩:=az;clear av));unfold maxLen at f3;clear a3;go_loopw [17] (fun i L=>∃p:Nat,p<=fs.length/\i=.i p/\Hid (∀(i j:Nat) (hi:i<fs.length) (hj:j<fs.length),j<p->i<j->fs[i].name≠fs[j].name)/\∃n,L=wz.drewN n) (fun i _=>fs.length - (intOf i).toNat)
          case atStart=>exact ⟨0,n0q _,rfl,(fun _ _ _ _ h=>by omega),0,rfl⟩
          case round=>
           obtain ⟨p,hp,rfl,HP,nz,rfl⟩:=hrel;by_cases aw:p<fs.length
           ·go_wp2_with fail;go_loopw [18] (fun i L=>∃q:Nat,q<=p/\i=.i q/\Hid (∀(i:Nat) (hi:i<fs.length),i<q->fs[i].name≠fs[p].name)/\∃n,L=wz.drewN n) (fun i _=>p - (intOf i).toNat)
            case atStart=>exact ⟨0,n0q _,rfl,(fun _ _ h=>by omega),nz,rfl⟩
            case round=>
             clear nz;obtain ⟨q,hq,rfl,bc,nz,rfl⟩:=hrel;by_cases an:q<p
             ·have b0:q<fs.length:=by omega
              obtain ⟨bf,of,rfl,ds,x0,x1,x2,-,-⟩:=a7.o.atF q b0;obtain ⟨dg,ea,bn,fi,y0,y1,y2,-,-⟩:=a7.o.atF p aw;obtain ⟨rfl,rfl⟩:bf=dg/\of=ea:=by simpa using bn
              clear x1 x2 y1 y2 bn;have d4:(0:Int)<=q:=by omega
              have d5:(q:Int)<fs.length:=by omega
              have gb:(0:Int)<=p:=by omega
              have gg:(p:Int)<fs.length:=by omega
              by_cases hs:fs[q].name=fs[p].name
              ·have E:Hid (∀n,db l=6/\Bl w (wz.drewN n)):=fun n=>O.o (b5.o (zoq (fun x=>x.name) fs q p b0 aw an hs)) _ (pa N.o n);exact absurd (E.o 0).1 (by rw [H0.o];decide)
              have E:Hid (∀(i:Nat) (hi:i<fs.length),i<q+1->fs[i].name≠fs[p].name):=fun i hi h=>by
               by_cases d0:i<q
               ·exact bc.o i hi d0
               have:i=q:=by omega
               subst this;exact hs
              have d6:(fs[q].name.toList==fs[p].name.toList)=false:=by rw [beq_eq_false_iff_ne];exact fun e=>hs (Bu e)
              clear hs;go_wp2_with fail;go_quiet (fail);go_wp2_with fail;go_roundw
              case rel=>exact ⟨q+1,by omega,by go_num,E.o,_,rfl⟩
              case measure=>simp [intOf];omega
             have E:Hid (∀(i j:Nat) (hi:i<fs.length) (hj:j<fs.length),j<p+1->i<j->fs[i].name≠fs[j].name):=fun i j hi hj h1 h2=>by
              by_cases d1:j<p
              ·exact HP.o i j hi hj d1 h2
              have:j=p:=by omega
              subst this;exact bc.o i hi (by omega)
             go_wp2_with fail;go_roundw
             case rel=>exact ⟨p+1,by omega,by go_num,E.o,nz,rfl⟩
             case measure=>simp [intOf];omega
           have g7:=aj (zop (fun x=>x.name) fs fun i j hi hj h=>HP.o i j hi hj (by omega) h);have j4:wz.cell? ⟨b6,o6+k*4+3,none⟩=some (.slice mo c.bd.length cm):=(N.o.cell (p:=⟨b6,o6+k*4+3,none⟩) al.o.1).trans al.o.2;have j0:b6<wz.heap.size:=ll3 al.o.1 N.o.size;go_wp2_with fail;clear aw hp HP;have cv:Hid (SL 9 RM (· <B) wz (.slice mo c.bd.length cm) c.bd):=EM.o.keptM (Kp.below (N.o.mono Z));clear a7;have a7:=aj cv.o;have cx:Hid (dp (c.bd.map (·.name))=false->q8 l k=false):=fun h=>J.o.trans (by rw [h];simp);clear b5;have b5:=aj cx.o;clear cv cx;go_loopw [20] (fun i L=>∃p:Nat,p<=c.bd.length/\i=.i p/\Hid (∀(i j:Nat) (hi:i<c.bd.length) (hj:j<c.bd.length),j<p->i<j->c.bd[i].name≠c.bd[j].name)/\∃n,L=wz.drewN n) (fun i _=>c.bd.length - (intOf i).toNat)
           case atStart=>exact ⟨0,n0q _,rfl,(fun _ _ _ _ h=>by omega),nz,rfl⟩
           case round=>
            obtain ⟨p,hp,rfl,HP,nz,rfl⟩:=hrel;by_cases aw:p<c.bd.length
            ·go_wp2_with fail;go_loopw [21] (fun i L=>∃q:Nat,q<=p/\i=.i q/\Hid (∀(i:Nat) (hi:i<c.bd.length),i<q->c.bd[i].name≠c.bd[p].name)/\∃n,L=wz.drewN n) (fun i _=>p - (intOf i).toNat)
             case atStart=>exact ⟨0,n0q _,rfl,(fun _ _ h=>by omega),nz,rfl⟩
             case round=>
              clear nz;obtain ⟨q,hq,rfl,bc,nz,rfl⟩:=hrel;by_cases an:q<p
              ·have b0:q<c.bd.length:=by omega
               obtain ⟨bf,of,va,vh,rfl,ds,x0,x1,x2,x3,x4,x5,x6,x7,x8,-,-,-,-,-⟩:=a7.o.atM q b0;obtain ⟨dg,ea,i9,jn,bn,fi,y0,y1,y2,y3,y4,y5,y6,y7,y8,-,-,-,-,-⟩:=a7.o.atM p aw;obtain ⟨rfl,rfl⟩:bf=dg/\of=ea:=by simpa using bn
               clear x1 x2 x3 x4 x5 x6 x7 x8 y1 y2 y3 y4 y5 y6 y7 y8 bn;have d4:(0:Int)<=q:=by omega
               have d5:(q:Int)<c.bd.length:=by omega
               have gb:(0:Int)<=p:=by omega
               have gg:(p:Int)<c.bd.length:=by omega
               by_cases hs:c.bd[q].name=c.bd[p].name
               ·have E:Hid (∀n,db l=6/\Bl w (wz.drewN n)):=fun n=>O.o (b5.o (zoq (fun x=>x.name) c.bd q p b0 aw an hs)) _ (pa N.o n);exact absurd (E.o 0).1 (by rw [H0.o];decide)
               have E:Hid (∀(i:Nat) (hi:i<c.bd.length),i<q+1->c.bd[i].name≠c.bd[p].name):=fun i hi h=>by
                by_cases d0:i<q
                ·exact bc.o i hi d0
                have:i=q:=by omega
                subst this;exact hs
               have d6:(c.bd[q].name.toList==c.bd[p].name.toList)=false:=by rw [beq_eq_false_iff_ne];exact fun e=>hs (Bu e)
               clear hs;go_wp2_with fail;go_quiet (fail);go_wp2_with fail;go_roundw
               case rel=>exact ⟨q+1,by omega,by go_num,E.o,_,rfl⟩
               case measure=>simp [intOf];omega
              have E:Hid (∀(i j:Nat) (hi:i<c.bd.length) (hj:j<c.bd.length),j<p+1->i<j->c.bd[i].name≠c.bd[j].name):=fun i j hi hj h1 h2=>by
               by_cases d1:j<p
               ·exact HP.o i j hi hj d1 h2
               have:j=p:=by omega
               subst this;exact bc.o i hi (by omega)
              go_wp2_with fail;go_roundw
              case rel=>exact ⟨p+1,by omega,by go_num,E.o,nz,rfl⟩
              case measure=>simp [intOf];omega
            have g8:=aj (zop (fun x=>x.name) c.bd fun i j hi hj h=>HP.o i j hi hj (by omega) h);have E:=aj (ac.o (J.o.trans (by rw [g7.o,g8.o];rfl)) _ (pa N.o nz));go_wp2_with fail;go_roundw
            case rel=>exact ⟨k+1,by omega,by go_num,E.o⟩
            case measure=>simp [intOf];omega
         have H8:Hid (fp l (q8 l)=true):=Ex D G.o.1;have g5:=aj G.o.2;clear G F;go_wp2_with fail;clear D hk I;go_loopw [22] (fun i wr=>∃k:Nat,k<=l.length/\i=.i k/\Hid ((∀j,j<k->q9 l j=true)/\Bl w wr)) (fun i _=>l.length - (intOf i).toNat)
         case atStart=>exact ⟨0,n0q _,rfl,(fun j h=>by omega),g5.o⟩
         case round=>as_aux_lemma=>
          rename World=>wr
          obtain ⟨k,hk,rfl,G⟩:=hrel;have I:w.heap.size<=wr.heap.size:=G.o.2.size;have F:Hid (SL 4 RC (· <B) wr (.slice (some ⟨b6,o6,none⟩) l.length cl) l):=HV.o.keptC (Kp.below (G.o.2.mono hB));by_cases D:k<l.length;rotate_left
          ·have H9:Hid (fp l (q9 l)=true):=Ex D G.o.1;have E:=aj (lk10 af.o H1.o H2.o H3.o H4.o H5.o H6.o H7.o H8.o H9.o);go_wp2_with fail;go_ret;exact ⟨by rw [E.o];rfl,G.o.2⟩
          have ce:=aj (zoc wr B _ l k D F.o (lt3 hB I) hN);obtain ⟨b,off,vf,vm,ak,V,e0,e1,e2,e3,ef,em,ad,ae⟩:=F.o.atC k D;obtain ⟨rfl,rfl⟩:b6=b/\o6=off:=by simpa using ak
          have fz:=(a0.o l[k] (gm D)).2.2.2.2.1;have J:Hid (q9 l k=(qb l k).dropLast.all fun u=>l[k].bd.all fun x=>(cz l u).bd.all fun y=>jr x y):=by show q9 l k=_;rw [q9,tu D]
          have Z:B<=wr.heap.size:=lt3 hB I;have ac:Hid (q9 l k=true->∀w',Bl wr w'->(∀j,j<k+1->q9 l j=true)/\Bl w w'):=fun h w' V=>⟨Ez G.o.1 h,G.o.2.trans (V.mono I)⟩;have O:Hid (q9 l k=false->∀w',Bl wr w'->db l=4/\Bl w w'):=fun h w' V=>⟨lk9 af.o H1.o H2.o H3.o H4.o H5.o H6.o H7.o H8.o (Ey D h),G.o.2.trans (V.mono I)⟩;obtain ⟨f7,i1⟩:=zn7 D;have hd:=aj f7;generalize l[k]=c at*;generalize qb l k=up at*;have EM:=aj em;obtain ⟨mo,cm,rfl,-⟩:=em;have al:=aj (And.intro V e3);have f6:(0:Int)<=k:=by omega
          have bs:(k:Int)<l.length:=by omega
          clear e0 e1 e2 e3 ad ae G V ef ak f7;go_wp2_with (first | (go_at_call 225;refine ce.o.mono ?_;rintro r wz ⟨av,u8,rfl,az⟩;have N:=aj av;have ho:=aj az;obtain ⟨a8,c8,rfl,-⟩:=az;clear av));clear ce;go_loopw [24] (fun i L=>∃p:Nat,p<=up.dropLast.length/\i=.i p/\Hid (up.dropLast.all (fun u=>c.bd.all fun x=>(cz l u).bd.all fun y=>jr x y)=(up.dropLast.drop p).all (fun u=>c.bd.all fun x=>(cz l u).bd.all fun y=>jr x y)/\Bl wz L)) (fun i _=>up.dropLast.length - (intOf i).toNat)
          case atStart=>exact ⟨0,n0q _,rfl,rfl,br _ _⟩
          case round=>as_aux_lemma=>
           rename World=>L
           obtain ⟨p,hp,rfl,HP⟩:=hrel;have kt:up.dropLast.length=up.length - 1:=length_dropLast;by_cases aw:p<up.dropLast.length
           ·have gk:p<up.length:=by omega
            have it:(p:Int)<(up.length:Int) - 1:=by omega
            obtain ⟨bu,ou,rfl,fr,eu⟩:=ho.o.atO p gk;have cp:=hd.o up[p] (gm gk);have ey:Hid ((up.dropLast.drop p).all (fun u=>c.bd.all fun x=>(cz l u).bd.all fun y=>jr x y)=((fun u=>c.bd.all fun x=>(cz l u).bd.all fun y=>jr x y) up[p]&&(up.dropLast.drop (p+1)).all (fun u=>c.bd.all fun x=>(cz l u).bd.all fun y=>jr x y))):=by show _=_;rw [drop_eq_getElem_cons aw,all_cons,getElem_dropLast]
            obtain ⟨b,off,k4,k5,ak,e8,-,-,-,e6,-,ci,-,-⟩:=(F.o.keptC (Kp.below (N.o.mono Z))).atC up[p] cp;obtain ⟨rfl,rfl⟩:b6=b/\o6=off:=by simpa using ak
            rw [<-tu cp]at ci;obtain ⟨i2,hy,rfl,-⟩:=id ci;have f0:=(a0.o l[up[p]] (gm cp)).2.2.2.2.1;rw [<-tu cp]at f0;have c7:=aj (And.intro fr eu);have a1:=aj (And.intro e8 e6);have gt:=aj ci;have gv:=aj (EM.o.keptM (Kp.below (N.o.mono Z)));clear eu e6 ci ak e8 fr;generalize up[p]=uu at*;have c1:Hid ((up.dropLast.drop p).all (fun u=>c.bd.all fun x=>(cz l u).bd.all fun y=>jr x y)=((c.bd.all fun x=>(cz l uu).bd.all fun y=>jr x y)&&(up.dropLast.drop (p+1)).all (fun u=>c.bd.all fun x=>(cz l u).bd.all fun y=>jr x y))):=ey.o;clear ey;generalize (cz l uu).bd=ms at*;have k2:(0:Int)<=uu:=by omega
            have k3:(uu:Int)<l.length:=by omega
            have gb:(0:Int)<=p:=by omega
            have gg:(p:Int)<up.length:=by omega
            have hh:Hid ((c.bd.all (fun x=>ms.all fun y=>jr x y))=false->∀w',Bl wz w'->db l=4/\Bl w w'):=fun h w' V=>O.o (J.o.trans (by rw [HP.o.1,c1.o,h,Bool.false_and])) w' (N.o.trans (V.mono N.o.size));have ba:=aj HP.o.2;go_wp2_with fail;go_loopw [25] (fun i L=>∃j:Nat,j<=c.bd.length/\i=.i j/\Hid (c.bd.all (fun x=>ms.all fun y=>jr x y)=(c.bd.drop j).all (fun x=>ms.all fun y=>jr x y)/\Bl wz L)) (fun i _=>c.bd.length - (intOf i).toNat)
            case atStart=>exact ⟨0,n0q _,rfl,rfl,ba.o⟩
            case round=>as_aux_lemma=>
             clear ba
             rename World=>L
             obtain ⟨j,hj,rfl,HJ⟩:=hrel;have ay:wz.heap.size<=L.heap.size:=HJ.o.2.size;have d3:L.cell? ⟨b6,o6+k*4+3,none⟩=some (.slice mo c.bd.length cm):=(HJ.o.2.cell (p:=⟨b6,o6+k*4+3,none⟩) (ll3 al.o.1 N.o.size)).trans ((N.o.cell (p:=⟨b6,o6+k*4+3,none⟩) al.o.1).trans al.o.2);have bl:b6<L.heap.size:=ll3 a1.o.1 ay;by_cases am:j<c.bd.length
             ·have et:Hid ((c.bd.drop j).all (fun x=>ms.all fun y=>jr x y)=((ms.all fun y=>jr c.bd[j] y)&&(c.bd.drop (j+1)).all (fun x=>ms.all fun y=>jr x y))):=by
               show _=_;rw [drop_eq_getElem_cons am,all_cons]
              have hg:Hid ((ms.all fun y=>jr c.bd[j] y)=false->∀w',Bl wz w'->db l=4/\Bl w w'):=fun h=>hh.o (by rw [HJ.o.1,et.o,h,Bool.false_and]);have ba:=aj HJ.o.2;go_wp2_with fail;clear d3 bl ay;go_loopw [26] (fun i L=>∃q:Nat,q<=ms.length/\i=.i q/\Hid ((ms.all fun y=>jr c.bd[j] y)=((ms.drop q).all fun y=>jr c.bd[j] y)/\Bl wz L)) (fun i _=>ms.length - (intOf i).toNat)
              case atStart=>exact ⟨0,n0q _,rfl,rfl,ba.o⟩
              case round=>as_aux_lemma=>
               clear ba
               rename World=>L
               obtain ⟨q,hq,rfl,ai⟩:=hrel;have ay:wz.heap.size<=L.heap.size:=ai.o.2.size;have cn:B<=wz.heap.size:=lt3 Z N.o.size;have d3:L.cell? ⟨b6,o6+k*4+3,none⟩=some (.slice mo c.bd.length cm):=(ai.o.2.cell (p:=⟨b6,o6+k*4+3,none⟩) (ll3 al.o.1 N.o.size)).trans ((N.o.cell (p:=⟨b6,o6+k*4+3,none⟩) al.o.1).trans al.o.2);have hz:L.cell? ⟨b6,o6+uu*4+3,none⟩=some (.slice i2 ms.length hy):=(ai.o.2.cell (p:=⟨b6,o6+uu*4+3,none⟩) a1.o.1).trans a1.o.2;have du:L.cell? ⟨bu,ou+p,none⟩=some (.i uu):=(ai.o.2.cell (p:=⟨bu,ou+p,none⟩) c7.o.1).trans c7.o.2;have bl:b6<L.heap.size:=ll3 a1.o.1 ay;have fv:bu<L.heap.size:=ll3 c7.o.1 ay;by_cases an:q<ms.length
               ·obtain ⟨bx,ox,va,vh,h9,kl,x0,x1,x2,x3,x4,x5,x6,x7,x8,sa,sh,-,-,-⟩:=(gv.o.keptM (Kp.below (ai.o.2.mono cn))).atM j am;obtain ⟨j3,oy,i9,jn,ih,kn,y0,y1,y2,y3,y4,y5,y6,y7,y8,gl,i3,-,-,-⟩:=(gt.o.keptM (Kp.below (ai.o.2.mono cn))).atM q an;subst h9 ih;have bi:=aj sa;have c0:=aj gl;obtain ⟨aa,ca,rfl,-⟩:=sa;obtain ⟨ah,ch,rfl,-⟩:=sh;obtain ⟨e4,e5,rfl,-⟩:=gl;obtain ⟨hu,hw,rfl,-⟩:=i3;have bj:Hid (((ms.drop q).all fun y=>jr c.bd[j] y)=(jr c.bd[j] ms[q]&&(ms.drop (q+1)).all fun y=>jr c.bd[j] y)):=by
                 show _=_;rw [drop_eq_getElem_cons an,all_cons]
                have ct:Hid (jr c.bd[j] ms[q]=false->∀w',Bl wz w'->db l=4/\Bl w w'):=fun h=>hg.o (by rw [ai.o.1,bj.o,h,Bool.false_and]);have bb:Hid (jr c.bd[j] ms[q]=true->((ms.all fun y=>jr c.bd[j] y)=((ms.drop (q+1)).all fun y=>jr c.bd[j] y))):=fun h=>ai.o.1.trans (by rw [bj.o,h,Bool.true_and]);generalize hxx:c.bd[j]=x at*;generalize ms[q]=y at*;clear hxx;have f4:(0:Int)<=j:=by omega
                have f5:(j:Int)<c.bd.length:=by omega
                have d4:(0:Int)<=q:=by omega
                have d5:(q:Int)<ms.length:=by omega
                have a9:=aj ai.o.2
                go_upto_region 83 with fail
                go_cut [27,28] (fun i7 i8 W=>∃X Y,i7=.p X/\i8=.p Y/\W.heap[X]? =some (.cells #[.string x.name,.bool x.static,.slice aa x.args.length ca,.i x.ret.kind,.string x.ret.dj,.i x.stack,.i x.locals,.string x.code,.slice ah x.hands.length ch] 159 (0,0))/\W.heap[Y]? =some (.cells #[.string y.name,.bool y.static,.slice e4 y.args.length e5,.i y.ret.kind,.string y.ret.dj,.i y.stack,.i y.locals,.string y.code,.slice hu y.hands.length hw] 159 (0,0))/\Bl L W)
                case first=>
                 have F1:∀(cs:Array Value) (t:Nat) (C:Obj),(((L.alloc (.cells cs t)).alloc C).drew).heap[L.heap.size]? =some (.cells cs t (0,0)):=fun cs t C=>(Below.heap_alloc _ _ _ (by simp)).trans (heap_alloc_new L _);have F2:∀(A:Obj) (cs:Array Value) (t:Nat),(((L.alloc A).alloc (.cells cs t)).drew).heap[L.heap.size+1]? =some (.cells cs t (0,0)):=fun A cs t=>by
                  have:=heap_alloc_new (L.alloc A) (.cells cs t);have e:(L.alloc A).heap.size=L.heap.size+1:=by simp
                  rw [e]at this;exact this
                 have F3:∀A C,Bl L (((L.alloc A).alloc C).drew):=fun A C=>(((br _ _).alloc (nlq _) _).alloc (by simp) _).drew;have ei:=aj F1;have ej:=aj F2;have el:=aj F3;clear F1 F2 F3
                 go_region_held3 (fun W'=>∀p:Addr,p.block<L.heap.size->W'.cell? p=L.cell? p) (exact fun p hp=>Below.cell (B:=L.heap.size) (w:=L) (by repeat (first | exact br _ _ | refine Below.drew ?_ | refine Below.alloc ?_ (by simp<;>omega) _ | refine Below.setCell ?_ (by simp) _)) hp) (fail)
                 all_goals
                  go_wp2_with fail
                  go_meet
                  first
                   | exact ⟨L.heap.size,L.heap.size+1,rfl,rfl,ei.o _ _ _,ej.o _ _ _,el.o _ _⟩
                   | exact ⟨L.heap.size+1,L.heap.size,rfl,rfl,ej.o _ _ _,ei.o _ _ _,el.o _ _⟩
                case rest=>
                 as_aux_lemma=>
                  clear x0 x1 x2 x3 x4 x5 x6 x7 x8 y0 y1 y2 y3 y4 y5 y6 y7 y8 d3 hz du bl fv
                  rename World=>W
                  obtain ⟨X,Y,rfl,rfl,hX,hY,ck⟩:=hcut;have X0:=bg hX 0 (x:=.string x.name) rfl;have X1:=bg hX 1 (x:=.bool x.static) rfl;have X2:=bg hX 2 (x:=.slice aa x.args.length ca) rfl;have X3:=bg hX 3 (x:=.i x.ret.kind) rfl;have X4:=bg hX 4 (x:=.string x.ret.dj) rfl;have Y0:=bg hY 0 (x:=.string y.name) rfl;have Y1:=bg hY 1 (x:=.bool y.static) rfl;have Y2:=bg hY 2 (x:=.slice e4 y.args.length e5) rfl;have Y3:=bg hY 3 (x:=.i y.ret.kind) rfl;have Y4:=bg hY 4 (x:=.string y.ret.dj) rfl;have j6:=bz hX;have ka:=bz hY;have cr:Bl wz W:=a9.o.trans (ck.mono ay);have ee:Hid (∀n,Bl wz (W.drewN n)):=fun n=>pa cr n;have ex:=aj (zoi W (· <B) (· <B) _ _ x.args y.args (bi.o.keptK (Kp.below (ck.mono (lt3 cn ay)))) (c0.o.keptK (Kp.below (ck.mono (lt3 cn ay)))));have k0:=yq x.ret y.ret;have kz:=wu;have a6:Hid (jr x y=(!decide (x.name=y.name)||(!x.static&& !y.static&&di ep x.args y.args&&ep x.ret y.ret))):=rfl;have c3:Hid (jr x y=true->∀n,((ms.all fun z=>jr x z)=((ms.drop (q+1)).all fun z=>jr x z))/\Bl wz (W.drewN n)):=fun h n=>⟨bb.o h,ee.o n⟩;have a2:Hid (jr x y=false->∀n,db l=4/\Bl w (W.drewN n)):=fun h n=>ct.o h _ (ee.o n);clear hX hY ck cr bi c0 ct bb a9;generalize di ep x.args y.args=ek at*;generalize ep x.ret y.ret=er at*;generalize x.static=sx at*;generalize y.static=sy at*;by_cases hn:x.name=y.name
                  rotate_left
                  ·have d6:(x.name.toList==y.name.toList)=false:=beq_eq_false_iff_ne.2 fun e=>hn (Bu e);have E:=aj (c3.o (a6.o.trans (by simp [hn])) 0);clear hn ex;go_wp2_with fail;go_roundw
                   case rel=>exact ⟨q+1,by omega,by go_num,E.o⟩
                   case measure=>simp [intOf];omega
                  have d6:(x.name.toList==y.name.toList)=true:=by rw [hn];simp
                  cases sx;rotate_left
                  ·have E:=aj (a2.o (a6.o.trans (by simp [hn])) 0);exact absurd E.o.1 (by rw [H0.o];decide)
                  cases sy;rotate_left
                  ·have E:=aj (a2.o (a6.o.trans (by simp [hn])) 0);exact absurd E.o.1 (by rw [H0.o];decide)
                  cases ek
                  ·have E:=aj (a2.o (a6.o.trans (by simp [hn])));exact absurd (E.o 0).1 (by rw [H0.o];decide)
                  cases er
                  ·have E:=aj (a2.o (a6.o.trans (by simp [hn])));exact absurd (E.o 0).1 (by rw [H0.o];decide)
                  have E:=aj (c3.o (a6.o.trans (by simp [hn])));clear hn;go_wp2_with (first | (go_at_call 227;refine ex.o.mono ?_;rintro r w9 ⟨rfl,n9,rfl⟩));go_roundw
                  case rel=>exact ⟨q+1,by omega,by go_num,E.o _⟩
                  case measure=>simp [intOf];omega
               have g0:Hid ((ms.all fun y=>jr c.bd[j] y)=true):=ai.o.1.trans (by rw [drop_of_length_le (by omega)];rfl);have E:Hid (c.bd.all (fun x=>ms.all fun y=>jr x y)=(c.bd.drop (j+1)).all (fun x=>ms.all fun y=>jr x y)/\Bl wz L):=⟨HJ.o.1.trans (et.o.trans (by rw [g0.o,Bool.true_and])),ai.o.2⟩;go_wp2_with fail;go_roundw
               case rel=>exact ⟨j+1,by omega,by go_num,E.o⟩
               case measure=>simp [intOf];omega
             have gx:Hid (c.bd.all (fun x=>ms.all fun y=>jr x y)=true):=HJ.o.1.trans (by rw [drop_of_length_le (by omega)];rfl);have E:Hid (up.dropLast.all (fun u=>c.bd.all fun x=>(cz l u).bd.all fun y=>jr x y)=(up.dropLast.drop (p+1)).all (fun u=>c.bd.all fun x=>(cz l u).bd.all fun y=>jr x y)/\Bl wz L):=⟨HP.o.1.trans (c1.o.trans (by rw [gx.o,Bool.true_and])),HJ.o.2⟩;go_wp2_with fail;go_roundw
             case rel=>exact ⟨p+1,by omega,by go_num,E.o⟩
             case measure=>simp [intOf];omega
           have gz:Hid (up.dropLast.all (fun u=>c.bd.all fun x=>(cz l u).bd.all fun y=>jr x y)=true):=HP.o.1.trans (by rw [drop_of_length_le (by omega)];rfl);have E:=aj (ac.o (J.o.trans gz.o) _ (N.o.trans (HP.o.2.mono N.o.size)));have it:¬(p:Int)<(up.length:Int) - 1:=by omega
           go_wp2_with fail;go_roundw
           case rel=>exact ⟨k+1,by omega,by go_num,E.o⟩
           case measure=>simp [intOf];omega
end Go.Proofs.YtjdnmblggdobgaaGreat
