import Derived.Test.YtjdnmblggdobgaaGreatJHqBHvA
set_option maxHeartbeats 60000000
set_option maxRecDepth 100000
namespace Go.Proofs.YtjdnmblggdobgaaGreat
open Go.Maps Go.RowKit Tryz List Or
theorem z1l (w:World) (B:Nat) (vW vO kC kS kF kN kT:Value) (h:ar) (d:ax) (sW:SL 1 RI (· <B) w vW h.ab) (sO:SL 1 RI (· <B) w vO h.ap) (lk:nh (· <B) w kC kS kF kN kT d) (hB:B<=w.heap.size) (hd:B9 d) (g0:h.next<=9223372036854775807) (h0:gp d h=0):
 Calls prog 55 #[.agg #[vW,.i h.ae,.i h.old,.i h.bk,.i h.be,vO,.i h.next],.agg #[kC,kS,kF,kN,kT]] w fun r w'=>r=.returned (.i (gp d h))/\Bl w w':=by
 have H0:=aj h0;clear h0;obtain ⟨W0,bs⟩:∃W0,W0=(w.alloc (.cells #[vW,.i h.ae,.i h.old,.i h.bk,.i h.be,vO,.i h.next] 24)).alloc (.cells #[kC,kS,kF,kN,kT] 36):=⟨_,rfl⟩;have e9:Rd w.heap.size B W0 vW vO kC kS kF kN kT h d:=bs ▸ Rd.new w B _ _ _ _ _ _ _ h d hB sW sO lk;have ex:Bl w W0:=bs ▸ ((br _ _).alloc (nlq _) _).alloc (by simp) _;have bl:=aj e9;have co:=aj ex;have ds:=aj bs;have fj:Hid (W0.heap.size=w.heap.size+2):=by show _=_;rw [bs];simp
 obtain ⟨aC,cC,aS,cS,aF,cF,aN,cN,aT,cT,rfl,rfl,rfl,rfl,rfl⟩:=lk.agg;obtain ⟨aW,cW,rfl,-,gg,-⟩:=sW;obtain ⟨aO,cO,rfl,-,gb,-⟩:=sO;unfold maxLen at gg gb;rw [bs]at co;clear lk e9 ex bs;have cx:Hid (kj h=(rh h.ae 3 2000&&rh h.old 3 2000)):=rfl;cases hy:rh h.ae 3 2000
 ·have N:Hid (gp d h=3):=by show gp d h=3;unfold gp;rw [cx.o,hy];rfl
  exact absurd N.o (by rw [H0.o];decide)
 cases ho:rh h.old 3 2000
 ·have N:Hid (gp d h=3):=by show gp d h=3;unfold gp;rw [cx.o,hy,ho];rfl
  exact absurd N.o (by rw [H0.o];decide)
 have hp:kj h=true:=by rw [cx.o,hy,ho];rfl
 have c0:Hid (gp d h=if ju h then (if lq h then (match cw d.am.length d.fields h.ab 1 h.bk,cw d.am.length d.fields h.ab (h.ae+1) h.be with | some ys,some F=>jb d h (ys++F) F | _,_=>1) else 3) else 1):=by show gp d h=_;unfold gp;rw [hp];rfl
 have el:=hy;have ee:=ho;unfold rh at el ee;simp only [Bool.and_eq_true,decide_eq_true_eq]at el ee;obtain ⟨z1,z2⟩:=el;obtain ⟨z3,z4⟩:=ee;have w1:IntKind.i64.wrap (1+h.ae)=1+h.ae:=gw _ (by omega) (by omega);have w2:IntKind.i64.wrap (1+h.ae+h.old)=1+h.ae+h.old:=gw _ (by omega) (by omega);have w3:IntKind.i64.wrap (h.ae+1)=h.ae+1:=gw _ (by omega) (by omega);have w4:IntKind.i64.wrap (h.ae+h.old)=h.ae+h.old:=gw _ (by omega) (by omega);have w5:IntKind.i64.wrap (h.ae+h.old+1)=h.ae+h.old+1:=gw _ (by omega) (by omega);by_cases hw:(h.ab.length:Int)=1+h.ae+h.old;rotate_left
 ·have gl:((h.ab.length:Int)==1+h.ae+h.old)=false:=beq_eq_false_iff_ne.2 hw;have N:Hid (gp d h=1):=by show gp d h=1;rw [c0.o];unfold ju;rw [decide_eq_false hw];rfl
  exact absurd N.o (by rw [H0.o];decide)
 have gl:((h.ab.length:Int)==1+h.ae+h.old)=true:=beq_iff_eq.2 hw;have ej:ju h=true:=by unfold ju;exact decide_eq_true hw
 have b6:Hid (lq h=(rh h.bk 1 (h.ae+1)&&rh h.be (h.ae+1) (h.ae+h.old+1)&&decide (1<=h.next))):=by show lq h=_;unfold lq rh;simp only [Bool.and_assoc]
 have c1:Hid (lq h=false->gp d h=3):=fun e=>by rw [c0.o,ej,e];rfl
 have c4:=aj hw;have d6:=aj ej;clear hw ej;cases ht1:rh h.bk 1 (h.ae+1)
 ·have N:Hid (gp d h=3):=c1.o (by rw [b6.o,ht1];rfl);exact absurd N.o (by rw [H0.o];decide)
 cases ht2:rh h.be (h.ae+1) (h.ae+h.old+1)
 ·have N:Hid (gp d h=3):=c1.o (by rw [b6.o,ht1,ht2];rfl);exact absurd N.o (by rw [H0.o];decide)
 by_cases hn:h.next<1
 ·have N:Hid (gp d h=3):=c1.o (by rw [b6.o,ht1,ht2,decide_eq_false (by omega)];rfl);exact absurd N.o (by rw [H0.o];decide)
 have g1:decide (h.next<1)=false:=by simp;omega
 have ei:lq h=true:=by rw [b6.o,ht1,ht2,decide_eq_true (by omega)];rfl
 have hz:=zkb hd hp d6.o ei;have wn:IntKind.i64.wrap (h.next - 1)=h.next - 1:=gw _ (by omega) (by omega);have d5:=aj (znh W0 B _ _ _ _ _ _ _ h d bl.o.sW bl.o.sO bl.o.lk (by have:=bl.o.le;have:=fj.o;omega) hz (fun f hf=>lt3 (hd.fs f hf) (by omega)));rw [ds.o]at d5;have d3:Hid (gp d h=match cw d.am.length d.fields h.ab 1 h.bk,cw d.am.length d.fields h.ab (h.ae+1) h.be with | some ys,some F=>jb d h (ys++F) F | _,_=>1):=by show gp d h=_;rw [c0.o,d6.o,ei];rfl
 have HZ:=aj hz;have HD:=aj hd;obtain ⟨bW,oW,rfl,-,-⟩:=bl.o.sW.atI 0 (by have:=c4.o;omega);have g2:¬h.next<1:=hn;clear hz hd c0 c1 b6 cx ei hp d6 hn;go_enter func55,ntmps55;go_wp2_with (first | (go_at_call 78;refine (Fv _ _ _ _).mono ?_;rintro r _ ⟨rfl,rfl⟩) | (go_at_call 73;refine d5.o.mono ?_));rw [<-ds.o];rintro r w1 ⟨ec,gk⟩;rw [<-ds.o]at co;have cp:=aj ec;have eo:Hid (Bl w w1):=co.o.trans (ec.mono co.o.size);clear ec d5;rcases gk with ⟨ys,F,vy,vo,cj,ch,rfl,eg,ef⟩ | ⟨c9,a,n,c,a',n',c',rfl⟩
 ·have f7:=Fs (by have:=HZ.o.bk;omega) cj;have f6:=Fs (by have:=HZ.o.be;omega) ch;have g4:=HZ.o.bk;have g3:=HZ.o.be;have a4:Hid (gp d h=jb d h (ys++F) F):=by show gp d h=_;rw [d3.o,cj,ch]
  have a9:Hid ((ys.map bq.loc).length<=1000000/\(F.map bq.loc).length<=1000000/\ys.length+F.length<=900000):=⟨by rw [length_map];omega,by rw [length_map];omega,by omega⟩;have es:Hid (SL 1 RI (· <w1.heap.size) w1 vy (ys.map bq.loc)):=(rg eg a9.o.1).monoI fun k hk=>hk.lt;have d4:Hid (SL 1 RI (· <w1.heap.size) w1 vo (F.map bq.loc)):=(rg ef a9.o.2.1).monoI fun k hk=>hk.lt;have dz:Hid (∀t∈ys++F,qf d t/\0<=t.loc/\t.fin<=h.ab.length):=fun t ht=>by
   have z1:=HZ.o.ae;have z2:=HZ.o.old;have z3:=HZ.o.len;rcases mem_append.1 ht with ht | ht
   ·have I:=td cj t ht;exact ⟨zkg HD.o I (by omega) (by omega),by have:=I.1;omega,by have:=I.2.1;omega⟩
   have I:=td ch t ht;exact ⟨zkg HD.o I (by omega) (by omega),by have:=I.1;omega,by have:=I.2.1;omega⟩
  have et:=aj (znv cj ch);obtain ⟨ay,cy,rfl⟩:=ku eg;obtain ⟨aD,cD,rfl⟩:=ku ef;have er:=aj (zjp w1 3 1);have du:Hid (Bl w1 (w1.alloc (.cells #[] 3))):=(br _ _).alloc (nlq _) _;have df:=aj (es.o.keptI (Kp.below du.o));have en:Hid ((([]:List Int).length+(ys.map bq.loc).length<=1000000)/\w1.heap.size<=(w1.alloc (.cells #[] 3)).heap.size):=⟨by rw [length_nil,Nat.zero_add];exact a9.o.1,by simp⟩;clear eg ef f7 f6 cj ch d3;have e3:(ys.map bq.loc).length=ys.length:=length_map _;have e0:(F.map bq.loc).length=F.length:=length_map _;have eq:=aj e3;have cu:=aj e0;clear e3 e0;generalize hyl:ys.map bq.loc=yl at*;generalize hol:F.map bq.loc=ol at*;have eu:=aj hyl;have d1:=aj hol;clear hyl hol;go_wp2_with (at_builtin;refine zii _ rfl _ _ rfl w1.heap.size (.slice (some ⟨w1.heap.size,0,none⟩) 0 0) [] rfl er.o (· <w1.heap.size) (.slice ay yl.length cy) yl rfl df.o en.o.1 en.o.2 ?_);intro v2 w2 bf dg;have c6:Bl w1 w2:=du.o.grown dg (by simp) (fun k e=>by cases e;exact nlq _);have dd:=aj (d4.o.keptI (Kp.below c6));obtain ⟨a2,c2,rfl⟩:=ku bf;have d0:=aj bf;have cr:=aj c6;have fa:=c6.size;have dl:Hid (yl.length+ol.length<=1000000):=by have h1:=a9.o.2.2;have h2:=eq.o;have h3:=cu.o;show _<=_;omega
  clear bf dg c6 df er;go_wp2_with (at_builtin;refine zii _ rfl _ _ rfl w1.heap.size (.slice a2 yl.length c2) yl rfl d0.o (· <w1.heap.size) (.slice aD ol.length cD) ol rfl dd.o dl.o fa ?_);intro v3 Z ci dj;have bo:Bl w1 Z:=cr.o.grown dj fa (fun k e=>(d0.o.lt k e).1);obtain ⟨ts,b2⟩:∃ts,ts=ys++F:=⟨_,rfl⟩;have D:(yl++ol)=ts.map bq.loc:=by rw [b2,map_append,eu.o,d1.o]
  have bh:Z.ownsRow w1.heap.size 3 1 v3 ts.length (b8 (ts.map bq.loc)):=by
   have e:ts.length=(yl++ol).length:=by rw [D,length_map]
   rw [<-D,e,length_append];exact ci
  obtain ⟨aA,cA,rfl⟩:=ku bh;have bx:(ts.map bq.loc).length<=1000000:=by rw [<-D,length_append];exact dl.o
  have HX:Hid (∀V,Bl Z V->Rd w.heap.size B V (.slice (some ⟨bW,oW,none⟩) h.ab.length cW) (.slice aO h.ap.length cO) (.slice aC d.am.length cC) (.slice aS d.bj.length cS) (.slice aF d.fields.length cF) (.slice aN d.names.length cN) (.slice aT d.ba.length cT) h d/\SL 1 RI (· <Z.heap.size) V (.slice aA ts.length cA) (ts.map bq.loc)/\SL 1 RI (· <Z.heap.size) V (.slice aD F.length cD) (F.map bq.loc)):=fun V hV=>by
   have fc:=bo.size;have fv:Bl W0 V:=cp.o.trans ((bo.trans (hV.mono fc)).mono cp.o.size);refine ⟨bl.o.below fv,?_,?_⟩
   ·have:=rg (ns:=ts.map bq.loc) (by rw [length_map];exact bh) bx;exact (this.monoI (M':=(· <Z.heap.size)) fun k hk=>hk.lt).keptI (Kp.below hV)
   have:=(d4.o.keptI (Kp.below bo)).monoI (M':=(· <Z.heap.size)) fun k hk=>ll3 hk fc;rw [d1.o,<-cu.o];exact this.keptI (Kp.below hV)
  have a8:Hid (∀V,Bl Z V->Bl w V):=fun V hV=>eo.o.trans ((bo.trans (hV.mono bo.size)).mono eo.o.size);have cv:Hid (∀t∈F,t∈ts):=fun t ht=>by rw [b2];exact mem_append.2 (inr ht)
  have cs:Hid (∀t∈ts,0<=t.loc/\t.fin<=h.ab.length):=fun t ht=>by rw [b2]at ht;exact (dz.o t ht).2
  have bm:Hid (∀t∈ts,∃W:Nat,t.loc=W/\∃(az:W+2<h.ab.length),qf d t/\t=bp h.ab W/\h.ab[W+2]=t.hash):=fun t ht=>by
   rw [b2]at ht;obtain ⟨hf,h1,h2⟩:=dz.o t ht;have h3:=hf.lo;have h4:t.fin=t.loc+3+t.len:=rfl;have h5:=et.o t ht;have h6:t.loc=(t.loc.toNat:Int):=by omega
   have h7:t.loc.toNat+2<h.ab.length:=by omega
   refine ⟨t.loc.toNat,h6,h7,hf,by rw [<-h6];exact h5,?_⟩;have h8:t.hash=wd h.ab (t.loc+2):=by rw [h5];rfl
   rw [h8,show t.loc+2=((t.loc.toNat+2:Nat):Int) by omega,qm h7]
  rw [<-b2]at a4;have e7:=cu.o;clear ci dj bo D bh bx b2 dd d0 cr dl eq dz et es d4 eu du;rw [e7];clear e7 cu d1;have q0:ts.length<=9223372036854775807:=by obtain ⟨a,c,e,-,hm,-⟩:=(HX.o Z (br _ _)).2.1;unfold maxLen at hm;rw [length_map]at hm;omega
  have g5:F.length<=9223372036854775807:=by obtain ⟨a,c,e,-,hm,-⟩:=(HX.o Z (br _ _)).2.2;unfold maxLen at hm;rw [length_map]at hm;omega
  go_wp21
  go_loopw [9] (fun i wr=>∃k:Nat,k<=ts.length/\i=.i k/\Hid ((ts.take k).any (zl h)=false/\Bl Z wr)) (fun i _=>ts.length - (intOf i).toNat)
  case atStart=>exact ⟨0,n0q _,rfl,by simp,br _ _⟩
  case round=>
   rename World=>wr
   obtain ⟨k,hk,rfl,E⟩:=hrel;have af:Z.heap.size<=wr.heap.size:=E.o.2.size;by_cases D:k<ts.length
   ·obtain ⟨I,hA,-⟩:=HX.o wr E.o.2;obtain ⟨W,ak,az,ai,a0,cf⟩:=bm.o _ (gm D);have p0:=bg I.b0 0 (x:=.slice (some ⟨bW,oW,none⟩) h.ab.length cW) rfl;have p6:=bg I.b0 6 (x:=.i h.next) rfl;have lp:=bz I.b0;obtain ⟨bA,oA,rfl,bu,eA⟩:=hA.atI k (by simpa using D);rw [getElem_map,ak]at eA;obtain ⟨b',o',e',c7,eW⟩:=I.sW.atI (W+2) az;cases e';rw [cf]at eW;have q1:(0:Int)<=k:=by omega
    have q2:(k:Int)<ts.length:=by omega
    have q3:(0:Int)<=(W:Int)+2:=by omega
    have q4:(W:Int)+2<h.ab.length:=by omega
    have q5:((W:Int)+2).toNat=W+2:=by omega
    have w2:IntKind.i64.wrap ((W:Int)+2)=(W:Int)+2:=gw _ (by omega) (by omega);cases hb:rh ts[k].hash 1 (h.next - 1)
    ·have N:Hid (gp d h=3/\∀n,Bl w (wr.drewN n)):=⟨a4.o.trans (by unfold jb;rw [if_pos (znj D (by unfold zl;rw [hb];rfl))]),fun n=>pa (a8.o wr E.o.2) n⟩;exact absurd N.o.1 (by rw [H0.o];decide)
    have O:Hid ((ts.take (k+1)).any (zl h)=false/\∀n,Bl Z (wr.drewN n)):=⟨zni D E.o.1 (by unfold zl;rw [hb];rfl),fun n=>pa E.o.2 n⟩;generalize ts[k].hash=hs at*;clear I hA E ai a0 cf ak
    go_wp21
    go_quiet ((go_at_call 78;exact Calls.quiet_of_same (Fv _ _ _ _)))
    go_wp21
    go_roundw
    case rel=>exact ⟨k+1,by omega,by go_num,O.o.1,O.o.2 _⟩
    case measure=>simp [intOf];omega
   have H1:Hid (ts.any (zl h)=false):=znk D E.o.1;have cp:=aj E.o.2;clear E
   go_wp21
   clear af hk D;go_loopw [10] (fun i wr=>∃k:Nat,k<=ts.length/\i=.i k/\Hid (((ts.map bq.hash).take k).Nodup/\Bl Z wr)) (fun i _=>ts.length - (intOf i).toNat)
   case atStart=>exact ⟨0,n0q _,rfl,by simp,cp.o⟩
   case round=>
    rename World=>wr
    obtain ⟨k,hk,rfl,E⟩:=hrel;have af:Z.heap.size<=wr.heap.size:=E.o.2.size;by_cases D:k<ts.length
    ·have ah:=aj E.o;clear E
     go_wp21
     go_loopw [11] (fun i wr=>∃j:Nat,j<=k/\i=.i j/\Hid (ts[k].hash∉((ts.map bq.hash).take j)/\Bl Z wr)) (fun i _=>k - (intOf i).toNat)
     case atStart=>exact ⟨0,n0q _,rfl,by simp,ah.o.2⟩
     case round=>
      rename World=>wr
      obtain ⟨j,hj,rfl,E⟩:=hrel;by_cases f3:j<k
      ·obtain ⟨I,hA,-⟩:=HX.o wr E.o.2;have ac:j<ts.length:=by omega
       obtain ⟨W,ak,az,-,-,cf⟩:=bm.o _ (gm D);obtain ⟨lm,e4,f8,-,-,e6⟩:=bm.o _ (gm ac);have p0:=bg I.b0 0 (x:=.slice (some ⟨bW,oW,none⟩) h.ab.length cW) rfl;have lp:=bz I.b0;obtain ⟨bA,oA,rfl,bu,eA⟩:=hA.atI k (by simpa using D);obtain ⟨fr,gt,ea,-,eB⟩:=hA.atI j (by simpa using ac);cases ea;rw [getElem_map,ak]at eA;rw [getElem_map,e4]at eB;obtain ⟨b',o',e',c7,eW⟩:=I.sW.atI (W+2) az;cases e';rw [cf]at eW;obtain ⟨b',o',e',-,eV⟩:=I.sW.atI (lm+2) f8;cases e';rw [e6]at eV;have q1:(0:Int)<=k:=by omega
       have q2:(k:Int)<ts.length:=by omega
       have r1:(0:Int)<=j:=by omega
       have r2:(j:Int)<ts.length:=by omega
       have r6:(j:Int)<k:=by omega
       have q3:(0:Int)<=(W:Int)+2:=by omega
       have q4:(W:Int)+2<h.ab.length:=by omega
       have q5:((W:Int)+2).toNat=W+2:=by omega
       have w2:IntKind.i64.wrap ((W:Int)+2)=(W:Int)+2:=gw _ (by omega) (by omega);have r3:(0:Int)<=(lm:Int)+2:=by omega
       have r4:(lm:Int)+2<h.ab.length:=by omega
       have r5:((lm:Int)+2).toNat=lm+2:=by omega
       have w3:IntKind.i64.wrap ((lm:Int)+2)=(lm:Int)+2:=gw _ (by omega) (by omega);by_cases hh:ts[k].hash=ts[j].hash
       ·have N:Hid (gp d h=6/\∀n,Bl w (wr.drewN n)):=⟨a4.o.trans (by
         unfold jb;have:¬(ts.map bq.hash).Nodup:=zno (l:=ts.map bq.hash) (k:=k) (j:=j) (by simpa using D) f3 (by simpa using hh.symm);rw [if_neg (by rw [H1.o];decide),if_pos (by rw [decide_eq_false this];rfl)]),fun n=>pa (a8.o wr E.o.2) n⟩
        exact absurd N.o.1 (by rw [H0.o];decide)
       have gz:(ts[k].hash==ts[j].hash)=false:=beq_eq_false_iff_ne.2 hh;have O:Hid (ts[k].hash∉((ts.map bq.hash).take (j+1))/\∀n,Bl Z (wr.drewN n)):=⟨by
        rw [take_succ_eq_append_getElem (by simpa using ac),mem_append];rintro (hm | hm)
        ·exact E.o.1 hm
        simp at hm;exact hh hm,fun n=>pa E.o.2 n⟩
       generalize ts[k].hash=x at*;generalize ts[j].hash=y at*;clear I hA E cf e6 ak e4 ah
       go_wp21
       go_quiet (fail)
       go_wp21
       go_roundw
       case rel=>exact ⟨j+1,by omega,by go_num,O.o.1,O.o.2 _⟩
       case measure=>simp [intOf];omega
      have f2:j=k:=by omega
      have O:Hid (((ts.map bq.hash).take (k+1)).Nodup/\Bl Z wr):=⟨znn (by simpa using D) ah.o.1 (by rw [getElem_map];have:=E.o.1;rw [f2]at this;exact this),E.o.2⟩;clear E ah
      go_wp21
      go_roundw
      case rel=>exact ⟨k+1,by omega,by go_num,O.o.1,O.o.2⟩
      case measure=>simp [intOf];omega
    have H2:Hid ((ts.map bq.hash).Nodup):=by have:=E.o.1;rwa [take_of_length_le (by rw [length_map];omega)]at this
    have cr:=aj E.o.2;clear E
    go_wp21
    clear af hk D;go_loopw [12] (fun i wr=>∃k:Nat,k<=ts.length/\i=.i k/\Hid ((ts.take k).any (Af d h ts)=false/\Bl Z wr)) (fun i _=>ts.length - (intOf i).toNat)
    case atStart=>exact ⟨0,n0q _,rfl,by simp,cr.o⟩
    case round=>
     rename World=>wr
     obtain ⟨k,hk,rfl,E⟩:=hrel;have af:Z.heap.size<=wr.heap.size:=E.o.2.size;by_cases D:k<ts.length
     ·obtain ⟨I,hA,-⟩:=HX.o wr E.o.2;obtain ⟨W,ak,az,ai,a0,-⟩:=bm.o _ (gm D);have pk:=il I.b0;have lp:=bz I.b0;have yk:=cells5 I.b1;have ly:=bz I.b1;obtain ⟨bA,oA,rfl,bu,eA⟩:=hA.atI k (by simpa using D);rw [getElem_map,ak]at eA;have q1:(0:Int)<=k:=by omega
      have q2:(k:Int)<ts.length:=by omega
      have aw:Hid (∀V,Bl wr V->Calls prog 87 #[.agg (H7 (some ⟨bW,oW,none⟩) cW aO cO h),.agg (K5 aC cC aS cS aF cF aN cN aT cT d),.i (W:Int)] V fun r w'=>Bl V w'/\∃v,r=.returned v/\w'.ownsRow V.heap.size 3 1 v (refsOf d.fields ts[k]).length (b8 (refsOf d.fields ts[k]))):=fun V hV=>by have Y:=I.below hV;rw [a0]at ai ⊢;exact zng V B _ _ _ _ _ _ _ h d Y.sW Y.sO Y.lk (by have:=Y.le;have:=bz Y.b0;omega) W az (by have:=c4.o;omega) ai
      have d2:Hid (∀a∈refsOf d.fields ts[k],∃an:Nat,a=an/\an<h.ab.length):=fun a J=>by have:=zht d.fields ts[k] J;have h2:=(cs.o _ (gm D)).1;have h3:=(cs.o _ (gm D)).2;have h4:ts[k].fin=ts[k].loc+3+ts[k].len:=rfl;exact ⟨a.toNat,by omega,by omega⟩
      have b3:Hid ((refsOf d.fields ts[k]).length<=1000000):=by have:=Et d.fields ts[k] ts[k].len.toNat;have h3:=ai.hi;have:(refsOf d.fields ts[k]).length<=ts[k].len.toNat:=this;show _<=_;omega
      have ah:=aj E.o;have bb:Hid ((refsOf d.fields ts[k]).any (tg h ts)=Af d h ts ts[k]):=rfl;generalize refsOf d.fields ts[k]=rf at*;clear I hA E ai a0
      go_wp21
      refine wp_region_held_drew (S:=fun W'=>∀p:Addr,p.block<wr.heap.size->W'.cell? p=wr.cell? p) (by kernel_rfl) (fun p hp=>rfl) fun A=>?_;refine zag 8 rfl fun a J=>?_;have au:a.tmps.size=288:=by rw [J];rfl
      have av:∀h,a.tmps[2]'h=.p w.heap.size:=by rw [J];exact fun _=>rfl
      have bi:∀h,a.tmps[3]'h=.p (w.heap.size+1):=by rw [J];exact fun _=>rfl
      have gv:∀h,a.tmps[8]'h=.slice (some ⟨bA,oA,none⟩) ts.length cA:=by rw [J];exact fun _=>rfl
      have fe:∀h,a.tmps[12]'h=.i (k:Int):=by rw [J];exact fun _=>rfl
      have HA:=aj J;clear J;refine o7 0 137 (.agg (H7 (some ⟨bW,oW,none⟩) cW aO cO h)) rfl A ?_;refine o7 1 138 (.agg (K5 aC cC aS cS aF cF aN cN aT cT d)) rfl A ?_;refine o7 2 139 (.slice (some ⟨bA,oA,none⟩) ts.length cA) rfl A ?_;refine o7 3 140 (.i (k:Int)) rfl A ?_;refine o7 4 141 (.pointer (some ⟨bA,oA+k,none⟩)) rfl A ?_;refine o7 5 142 (.i (W:Int)) rfl A ?_;refine wpAnyH_ready (rs:=[6]) (by kernel_rfl) (by simp) ?_;refine AllReadyH.cons rfl (fun K6 eb=>?_) AllReadyH.nil;go_simp;refine (aw.o _ (br _ _).drew).mono ?_;rintro r w5 ⟨al,v5,rfl,ad⟩;have aa:Bl wr w5:=(br wr.heap.size wr).drew.trans al;refine eb.o _ _ (fun p hp=>aa.cell hp) fun A=>?_;rw [B2];refine o7 7 13 (v5) rfl A ?_;refine wpAnyH_done (by kernel_rfl) ?_ _;clear A;rw [HA.o];clear HA au av bi gv fe;simp only [Act.put,p1q,p4q,p3q];have bn:Hid (∀V,Bl w5 V->Bl Z V/\SL 1 RI (· <w5.heap.size) V v5 rf):=fun V hV=>by have eh:=aa.size;refine ⟨ah.o.2.trans ((aa.trans (hV.mono eh)).mono af),?_⟩;exact ((rg ad b3.o).monoI (M':=(· <w5.heap.size)) fun k hk=>hk.lt).keptI (Kp.below hV)
      obtain ⟨a5,c5,rfl⟩:=ku ad;have q9:rf.length<=1000000:=b3.o;have em:Hid (Bl Z w5):=(bn.o w5 (br _ _)).1;clear al aa ad pk yk lp ly eA bu aw
      go_wp21
      go_loopw [14] (fun i wr=>∃j:Nat,j<=rf.length/\i=.i j/\Hid ((rf.take j).any (tg h ts)=false/\Bl w5 wr)) (fun i _=>rf.length - (intOf i).toNat)
      case atStart=>exact ⟨0,n0q _,rfl,by simp,br _ _⟩
      case round=>
       rename World=>wr
       obtain ⟨j,hj,rfl,E⟩:=hrel;by_cases ac:j<rf.length
       ·obtain ⟨bc,cc⟩:=bn.o wr E.o.2;obtain ⟨I,hA,-⟩:=HX.o wr bc;obtain ⟨an,bd,ce⟩:=d2.o _ (gm ac);have p0:=bg I.b0 0 (x:=.slice (some ⟨bW,oW,none⟩) h.ab.length cW) rfl;have lp:=bz I.b0;obtain ⟨b5,o5,rfl,al,e5⟩:=cc.atI j ac;rw [bd]at e5;obtain ⟨b',o',e',c7,eW⟩:=I.sW.atI an ce;cases e';have r1:(0:Int)<=j:=by omega
        have r2:(j:Int)<rf.length:=by omega
        have q3:(0:Int)<=(an:Int):=by omega
        have q4:(an:Int)<h.ab.length:=by omega
        have a3:Hid (∀V n,V=wr.drewN n->Calls prog 74 #[.slice (some ⟨bA,oA,none⟩) ts.length cA,.i h.ab[an]] V fun r w'=>r=.returned (.bool ((ts.map bq.loc).contains h.ab[an]))/\w'=V):=fun V n e=>by have hv:=hA.keptI (Kp.below (pa (br Z.heap.size wr) n));subst e;simpa using zkq _ _ _ _ hv h.ab[an]
        have G:Hid (tg h ts rf[j]=(h.ab[an] != 0&& !(ts.map bq.loc).contains h.ab[an])):=by show tg h ts rf[j]=_;unfold tg;rw [bd,qm ce]
        have X:Hid (tg h ts rf[j]=false->(rf.take (j+1)).any (tg h ts)=false/\∀n,Bl w5 (wr.drewN n)):=fun hb=>⟨zni ac E.o.1 hb,fun n=>pa E.o.2 n⟩;have L:Hid (tg h ts rf[j]=true->gp d h=5/\∀n,Bl w (wr.drewN n)):=fun hb=>⟨a4.o.trans (by
         unfold jb;rw [if_neg (by rw [H1.o];decide),if_neg (by rw [decide_eq_true H2.o];decide),if_pos (znj D (by rw [<-bb.o];exact znj ac hb))]),fun n=>pa (a8.o wr bc) n⟩
        generalize rf[j]=a at*;generalize h.ab[an]=x at*;generalize (ts.map bq.loc).contains x=ct at*;clear I hA cc bc E bd ah bb;by_cases hx:x=0
        ·subst hx;have O:=aj (X.o (G.o.trans (by simp)));clear X L G a3
         go_wp21
         go_quiet (fail)
         go_wp21
         go_roundw
         case rel=>exact ⟨j+1,by omega,by go_num,O.o.1,O.o.2 _⟩
         case measure=>simp [intOf];omega
        have ek:(x==0)=false:=beq_eq_false_iff_ne.2 hx;cases ct
        ·have N:=aj (L.o (G.o.trans (by simp [bne,ek])));exact absurd N.o.1 (by rw [H0.o];decide)
        have O:=aj (X.o (G.o.trans (by simp)));clear X L G
        go_wp21
        go_quiet ((go_at_call 74;exact Calls.quiet_of_same (a3.o _ _ rfl)))
        go_wp21
        go_roundw
        case rel=>exact ⟨j+1,by omega,by go_num,O.o.1,O.o.2 _⟩
        case measure=>simp [intOf];omega
       have O:Hid ((ts.take (k+1)).any (Af d h ts)=false/\Bl Z wr):=⟨zni D ah.o.1 (by rw [<-bb.o];exact znk ac E.o.1),(bn.o wr E.o.2).1⟩;clear E ah
       go_wp21
       go_roundw
       case rel=>exact ⟨k+1,by omega,by go_num,O.o.1,O.o.2⟩
       case measure=>simp [intOf];omega
     have H3:Hid (ts.any (Af d h ts)=false):=znk D E.o.1;have ff:=aj E.o.2;clear E
     go_wp21
     clear af hk D;go_loopw [15] (fun i wr=>∃k:Nat,k<=h.ab.length/\i=.i k/\Hid ((∀j,j<k->uj h j=false)/\Bl Z wr)) (fun i _=>h.ab.length - (intOf i).toNat)
     case atStart=>exact ⟨0,n0q _,rfl,(fun j hj=>by omega),ff.o⟩
     case round=>
      rename World=>wr
      obtain ⟨k,hk,rfl,E⟩:=hrel;have af:Z.heap.size<=wr.heap.size:=E.o.2.size;obtain ⟨I,-,-⟩:=HX.o wr E.o.2;have p0:=bg I.b0 0 (x:=.slice (some ⟨bW,oW,none⟩) h.ab.length cW) rfl;have p1:=bg I.b0 1 (x:=.i h.ae) rfl;have p3:=bg I.b0 3 (x:=.i h.bk) rfl;have p4:=bg I.b0 4 (x:=.i h.be) rfl;have lp:=bz I.b0;by_cases D:k<h.ab.length
      ·obtain ⟨b',o',e',c7,eW⟩:=I.sW.atI k D;cases e';have q1:(0:Int)<=k:=by omega
       have q2:(k:Int)<h.ab.length:=by omega
       have G:Hid (uj h k=(h.ab[k] != 0&&(k==0||rh k h.bk h.ae||decide (h.be<=k)))):=by show uj h k=_;unfold uj;rw [qm D]
       have X:Hid (uj h k=false->(∀j,j<k+1->uj h j=false)/\Bl Z wr):=fun hb=>⟨fun j hj=>by
        by_cases e:j=k
        ·rw [e];exact hb
        exact E.o.1 j (by omega),E.o.2⟩
       have L:Hid (uj h k=true->gp d h=1/\Bl w wr):=fun hb=>⟨a4.o.trans (by
        unfold jb;rw [if_neg (by rw [H1.o];decide),if_neg (by rw [decide_eq_true H2.o];decide),if_neg (by rw [H3.o];decide),if_pos (znl D hb)]),a8.o wr E.o.2⟩
       generalize h.ab[k]=x at*;clear I E;have f5:((k:Int)==0)=(k==0):=by cases k<;>simp;omega
       by_cases hx:x=0
       ·subst hx;have O:=aj (X.o (G.o.trans (by simp)));clear X L G;go_wp2_with (first | (go_at_call 78;refine (Fv _ _ _ _).mono ?_;rintro r _ ⟨rfl,rfl⟩));go_roundw
        case rel=>exact ⟨k+1,by omega,by go_num,O.o.1,O.o.2⟩
        case measure=>simp [intOf];omega
       have ek:(x==0)=false:=beq_eq_false_iff_ne.2 hx;have gs:(x != 0)=true:=by simp [bne,ek]
       rw [gs,Bool.true_and]at G;by_cases c8:(k:Int)=0
       ·have a6:(k==0)=true:=by simp;omega
        have f4:((k:Int)==0)=true:=beq_iff_eq.2 c8;have N:=aj (L.o (G.o.trans (by rw [a6];rfl)));exact absurd N.o.1 (by rw [H0.o];decide)
       have a6:(k==0)=false:=by simp;omega
       have f4:((k:Int)==0)=false:=beq_eq_false_iff_ne.2 c8;rw [a6,Bool.false_or]at G;cases hbt:rh k h.bk h.ae;rotate_left
       ·have N:=aj (L.o (G.o.trans (by rw [hbt];rfl)));exact absurd N.o.1 (by rw [H0.o];decide)
       by_cases e8:h.be<=k
       ·have N:=aj (L.o (G.o.trans (by rw [hbt];simp [e8])));exact absurd N.o.1 (by rw [H0.o];decide)
       have O:=aj (X.o (G.o.trans (by rw [hbt];simp [e8]<;>omega)));clear X L G a6 f5;go_wp2_with (first | (go_at_call 78;refine (Fv _ _ _ _).mono ?_;rintro r _ ⟨rfl,rfl⟩));go_roundw
       case rel=>exact ⟨k+1,by omega,by go_num,O.o.1,O.o.2⟩
       case measure=>simp [intOf];omega
      have H4:Hid ((range h.ab.length).any (uj h)=false):=znm fun j hj=>E.o.1 j (by omega);have fi:=aj E.o.2;clear E I
      go_wp21
      clear af hk D p0 p1 p3 p4 lp;go_loopw [16] (fun i wr=>∃k:Nat,k<=h.ap.length/\i=.i k/\Hid ((∀j,j<k->ul d h F j=false)/\Bl Z wr)) (fun i _=>h.ap.length - (intOf i).toNat)
      case atStart=>exact ⟨0,n0q _,rfl,(fun j hj=>by omega),fi.o⟩
      case round=>
       rename World=>wr
       obtain ⟨k,hk,rfl,E⟩:=hrel;have af:Z.heap.size<=wr.heap.size:=E.o.2.size;obtain ⟨I,-,hD⟩:=HX.o wr E.o.2;have pk:=il I.b0;have lp:=bz I.b0;have yk:=cells5 I.b1;have ly:=bz I.b1;by_cases D:k<h.ap.length
       ·obtain ⟨bN,oN,rfl,gy,eN⟩:=I.sO.atI k D;have q1:(0:Int)<=k:=by omega
        have q2:(k:Int)<h.ap.length:=by omega
        have a3:Hid (∀V,Bl wr V->Calls prog 74 #[.slice aD F.length cD,.i h.ap[k]] V fun r w'=>r=.returned (.bool ((F.map bq.loc).contains h.ap[k]))/\w'=V):=fun V hV=>by have hv:=hD.keptI (Kp.below (hV.mono af));simpa using zkq _ _ _ _ hv h.ap[k]
        have aw:Hid ((F.map bq.loc).contains h.ap[k]=true->∀V,Bl wr V->Calls prog 87 #[.agg (H7 (some ⟨bW,oW,none⟩) cW (some ⟨bN,oN,none⟩) cO h),.agg (K5 aC cC aS cS aF cF aN cN aT cT d),.i h.ap[k]] V fun r w'=>Bl V w'/\∃a c,r=.returned (.slice a (refsOf d.fields (bp h.ab h.ap[k])).length c)):=fun fz V hV=>by obtain ⟨t,ht,e⟩:=mem_map.1 (contains_iff_mem.1 fz);obtain ⟨W,ak,az,ai,a0,-⟩:=bm.o t (cv.o t ht);have Y:=I.below hV;rw [<-e,ak];rw [a0]at ai;refine (zng V B _ _ _ _ _ _ _ h d Y.sW Y.sO Y.lk (by have:=Y.le;have:=bz Y.b0;omega) W az (by have:=c4.o;omega) ai).mono ?_;rintro r w' ⟨hb,v,rfl,ho⟩;obtain ⟨a,c,rfl⟩:=ku ho;exact ⟨hb,a,c,rfl⟩
        have G:Hid (ul d h F k=(decide (0<k/\wd h.ap k<=wd h.ap ((k:Int) - 1))|| !(F.map bq.loc).contains h.ap[k]||(refsOf d.fields (bp h.ab h.ap[k])).isEmpty)):=by show ul d h F k=_;unfold ul;rw [qm D]
        have X:Hid (ul d h F k=false->(∀j,j<k+1->ul d h F j=false)/\∀V,Bl wr V->Bl Z V):=fun hb=>⟨fun j hj=>by
         by_cases e:j=k
         ·rw [e];exact hb
         exact E.o.1 j (by omega),fun V hV=>E.o.2.trans (hV.mono af)⟩
        have L:Hid (ul d h F k=true->gp d h=4/\∀V,Bl wr V->Bl w V):=fun hb=>⟨a4.o.trans (by
         unfold jb;rw [if_neg (by rw [H1.o];decide),if_neg (by rw [decide_eq_true H2.o];decide),if_neg (by rw [H3.o];decide),if_neg (by rw [H4.o];decide),if_pos (znl D hb)]),fun V hV=>a8.o V (E.o.2.trans (hV.mono af))⟩
        have ez:(refsOf d.fields (bp h.ab h.ap[k])).isEmpty=decide (((refsOf d.fields (bp h.ab h.ap[k])).length:Int)=0):=by cases refsOf d.fields (bp h.ab h.ap[k])<;>simp;omega
        rw [ez]at G;clear ez;generalize (refsOf d.fields (bp h.ab h.ap[k])).length=rl at*;have c3:Hid (wd h.ap k=h.ap[k]):=qm D;generalize (F.map bq.loc).contains h.ap[k]=ct at*;by_cases c8:0<(k:Int)
        ·obtain ⟨k1,a6⟩:∃k1:Nat,(k:Int) - 1=k1:=⟨k - 1,by omega⟩;have dk:k1<h.ap.length:=by omega
         obtain ⟨b',o',e',-,eM⟩:=I.sO.atI k1 dk;cases e';have d8:Hid (wd h.ap ((k:Int) - 1)=h.ap[k1]):=by show _=_;rw [a6];exact qm dk
         have wk:IntKind.i64.wrap ((k:Int) - 1)=(k1:Int):=by rw [a6];exact gw _ (by omega) (by omega)
         have q3:(0:Int)<=k1:=by omega
         have q4:(k1:Int)<h.ap.length:=by omega
         have f0:decide (0<(k:Int))=true:=by simp;omega
         by_cases bx:h.ap[k]<=h.ap[k1]
         ·have f1:decide (h.ap[k]<=h.ap[k1])=true:=by simp [bx]
          have N:=aj (L.o (G.o.trans (by rw [c3.o,d8.o,decide_eq_true ⟨by omega,bx⟩];rfl)));exact absurd N.o.1 (by rw [H0.o];decide)
         have f1:decide (h.ap[k]<=h.ap[k1])=false:=by simp;omega
         rw [c3.o,d8.o,decide_eq_false (fun hh=>bx hh.2),Bool.false_or]at G;generalize h.ap[k]=n0 at*;generalize h.ap[k1]=n1 at*;clear I hD E c3 d8 a6;cases ct
         ·have N:=aj (L.o (G.o.trans (by simp)));exact absurd N.o.1 (by rw [H0.o];decide)
         have b4:=aj (aw.o rfl);clear aw
         go_wp21
         refine wp_region_held_drew (S:=fun W'=>∀p:Addr,p.block<wr.heap.size->W'.cell? p=wr.cell? p) (by kernel_rfl) (fun p hp=>rfl) fun A=>?_;refine zag 38 rfl fun a J=>?_;have au:a.tmps.size=288:=by rw [J];rfl
         have av:∀h,a.tmps[2]'h=.p w.heap.size:=by rw [J];exact fun _=>rfl
         have bi:∀h,a.tmps[3]'h=.p (w.heap.size+1):=by rw [J];exact fun _=>rfl
         have a1:∀h,a.tmps[6]'h=.slice aD F.length cD:=by rw [J];exact fun _=>rfl
         have ck:∀h,a.tmps[16]'h=.i (k:Int):=by rw [J];exact fun _=>rfl
         have HA:=aj J;clear J;refine o7 0 210 (.i (k:Int)) rfl A ?_;refine tk 1 211 (.bool true) rfl (by kernel_rfl) (fun _ _ _ h=>h) ?_ A ?_
         ·intro w ft;go_simp;omega
         refine o7 2 212 (.bool true) rfl A ?_;refine iw 3 213 2 212 true (.pointer (some ⟨w.heap.size,5,none⟩)) rfl rfl A ?_;refine iw 4 214 2 212 true (.slice (some ⟨bN,oN,none⟩) h.ap.length cO) rfl rfl A ?_;refine iw 5 215 2 212 true (.i (k:Int)) rfl rfl A ?_;refine iw 6 216 2 212 true (.pointer (some ⟨bN,oN+k,none⟩)) rfl rfl A ?_;refine iw 7 217 2 212 true (.i n0) rfl rfl A ?_;refine iw 8 218 2 212 true (.pointer (some ⟨w.heap.size,5,none⟩)) rfl rfl A ?_;refine iw 9 219 2 212 true (.slice (some ⟨bN,oN,none⟩) h.ap.length cO) rfl rfl A ?_;refine iw 10 220 2 212 true (.i (k:Int)) rfl rfl A ?_;refine iw 11 221 2 212 true (.i (k1:Int)) rfl rfl A ?_;refine iw 12 222 2 212 true (.pointer (some ⟨bN,oN+k1,none⟩)) rfl rfl A ?_;refine iw 13 223 2 212 true (.i n1) rfl rfl A ?_;refine iw 14 224 2 212 true (.bool false) rfl rfl A ?_;refine o7 15 225 (.bool false) rfl A ?_;refine o7 16 226 (.bool false) rfl A ?_;refine iw 17 227 16 226 false (.slice aD F.length cD) rfl rfl A ?_;refine iw 18 228 16 226 false (.pointer (some ⟨w.heap.size,5,none⟩)) rfl rfl A ?_;refine iw 19 229 16 226 false (.slice (some ⟨bN,oN,none⟩) h.ap.length cO) rfl rfl A ?_;refine iw 20 230 16 226 false (.i (k:Int)) rfl rfl A ?_;refine iw 21 231 16 226 false (.pointer (some ⟨bN,oN+k,none⟩)) rfl rfl A ?_;refine iw 22 232 16 226 false (.i n0) rfl rfl A ?_;refine wpAnyH_ready (rs:=[23]) (by kernel_rfl) (by simp) ?_;refine AllReadyH.cons rfl (fun fl b9=>?_) AllReadyH.nil;go_simp;refine (a3.o _ (br _ _).drew).mono ?_;rintro r _ ⟨rfl,rfl⟩;refine b9.o _ _ (fun p hp=>rfl) fun A=>?_;rw [B2];refine iw 24 234 16 226 false (.bool false) rfl rfl A ?_;refine o7 25 235 (.bool false) rfl A ?_;refine o7 26 236 (.bool false) rfl A ?_;refine iw 27 237 26 236 false (.agg (H7 (some ⟨bW,oW,none⟩) cW (some ⟨bN,oN,none⟩) cO h)) rfl rfl A ?_;refine iw 28 238 26 236 false (.agg (K5 aC cC aS cS aF cF aN cN aT cT d)) rfl rfl A ?_;refine iw 29 239 26 236 false (.pointer (some ⟨w.heap.size,5,none⟩)) rfl rfl A ?_;refine iw 30 240 26 236 false (.slice (some ⟨bN,oN,none⟩) h.ap.length cO) rfl rfl A ?_;refine iw 31 241 26 236 false (.i (k:Int)) rfl rfl A ?_;refine iw 32 242 26 236 false (.pointer (some ⟨bN,oN+k,none⟩)) rfl rfl A ?_;refine iw 33 243 26 236 false (.i n0) rfl rfl A ?_;refine wpAnyH_ready (rs:=[34]) (by kernel_rfl) (by simp) ?_;refine AllReadyH.cons rfl (fun fo ca=>?_) AllReadyH.nil;go_simp;refine (b4.o _ (br _ _).drew).mono ?_;rintro r w5 ⟨al,a5,c5,rfl⟩;have aa:Bl wr w5:=(br wr.heap.size wr).drew.trans al;refine ca.o _ _ (fun p hp=>aa.cell hp) fun A=>?_;rw [B2];refine iw 35 245 26 236 false (.i (rl:Int)) rfl rfl A ?_;refine iw 36 246 26 236 false (.bool ((rl:Int)==0)) rfl rfl A ?_;refine o7 37 247 (.bool ((rl:Int)==0)) rfl A ?_;refine wpAnyH_done (by kernel_rfl) ?_ _;clear A;rw [HA.o];clear HA au av bi a1 ck;simp only [Act.put,p1q,p4q,p3q];cases hrb:((rl:Int)==0)
         ·have O:=aj (X.o (G.o.trans (by have:=ne_of_beq_false hrb;simp;omega)));clear L G
          go_wp21
          go_roundw
          case rel=>exact ⟨k+1,by omega,by go_num,O.o.1,O.o.2 _ aa⟩
          case measure=>simp [intOf];omega
         have N:=aj (L.o (G.o.trans (by have:=eq_of_beq hrb;simp;omega)));exact absurd N.o.1 (by rw [H0.o];decide)
        have f0:decide (0<(k:Int))=false:=by simp;omega
        rw [decide_eq_false (fun hh=>c8 (by omega)),Bool.false_or]at G;generalize h.ap[k]=n0 at*;clear I hD E c3;cases ct
        ·have N:=aj (L.o (G.o.trans (by simp)));exact absurd N.o.1 (by rw [H0.o];decide)
        have b4:=aj (aw.o rfl);clear aw
        go_wp21
        refine wp_region_held_drew (S:=fun W'=>∀p:Addr,p.block<wr.heap.size->W'.cell? p=wr.cell? p) (by kernel_rfl) (fun p hp=>rfl) fun A=>?_;refine zag 38 rfl fun a J=>?_;have au:a.tmps.size=288:=by rw [J];rfl
        have av:∀h,a.tmps[2]'h=.p w.heap.size:=by rw [J];exact fun _=>rfl
        have bi:∀h,a.tmps[3]'h=.p (w.heap.size+1):=by rw [J];exact fun _=>rfl
        have a1:∀h,a.tmps[6]'h=.slice aD F.length cD:=by rw [J];exact fun _=>rfl
        have ck:∀h,a.tmps[16]'h=.i (k:Int):=by rw [J];exact fun _=>rfl
        have HA:=aj J;clear J;refine o7 0 210 (.i (k:Int)) rfl A ?_;refine tk 1 211 (.bool false) rfl (by kernel_rfl) (fun _ _ _ h=>h) ?_ A ?_
        ·intro w ft;go_simp;omega
        refine o7 2 212 (.bool false) rfl A ?_;refine re 3 213 2 212 true rfl rfl A ?_;refine re 4 214 2 212 true rfl rfl A ?_;refine re 5 215 2 212 true rfl rfl A ?_;refine re 6 216 2 212 true rfl rfl A ?_;refine re 7 217 2 212 true rfl rfl A ?_;refine re 8 218 2 212 true rfl rfl A ?_;refine re 9 219 2 212 true rfl rfl A ?_;refine re 10 220 2 212 true rfl rfl A ?_;refine re 11 221 2 212 true rfl rfl A ?_;refine re 12 222 2 212 true rfl rfl A ?_;refine re 13 223 2 212 true rfl rfl A ?_;refine re 14 224 2 212 true rfl rfl A ?_;refine o7 15 225 (.bool false) rfl A ?_;refine o7 16 226 (.bool false) rfl A ?_;refine iw 17 227 16 226 false (.slice aD F.length cD) rfl rfl A ?_;refine iw 18 228 16 226 false (.pointer (some ⟨w.heap.size,5,none⟩)) rfl rfl A ?_;refine iw 19 229 16 226 false (.slice (some ⟨bN,oN,none⟩) h.ap.length cO) rfl rfl A ?_;refine iw 20 230 16 226 false (.i (k:Int)) rfl rfl A ?_;refine iw 21 231 16 226 false (.pointer (some ⟨bN,oN+k,none⟩)) rfl rfl A ?_;refine iw 22 232 16 226 false (.i n0) rfl rfl A ?_;refine wpAnyH_ready (rs:=[23]) (by kernel_rfl) (by simp) ?_;refine AllReadyH.cons rfl (fun fl b9=>?_) AllReadyH.nil;go_simp;refine (a3.o _ (br _ _).drew).mono ?_;rintro r _ ⟨rfl,rfl⟩;refine b9.o _ _ (fun p hp=>rfl) fun A=>?_;rw [B2];refine iw 24 234 16 226 false (.bool false) rfl rfl A ?_;refine o7 25 235 (.bool false) rfl A ?_;refine o7 26 236 (.bool false) rfl A ?_;refine iw 27 237 26 236 false (.agg (H7 (some ⟨bW,oW,none⟩) cW (some ⟨bN,oN,none⟩) cO h)) rfl rfl A ?_;refine iw 28 238 26 236 false (.agg (K5 aC cC aS cS aF cF aN cN aT cT d)) rfl rfl A ?_;refine iw 29 239 26 236 false (.pointer (some ⟨w.heap.size,5,none⟩)) rfl rfl A ?_;refine iw 30 240 26 236 false (.slice (some ⟨bN,oN,none⟩) h.ap.length cO) rfl rfl A ?_;refine iw 31 241 26 236 false (.i (k:Int)) rfl rfl A ?_;refine iw 32 242 26 236 false (.pointer (some ⟨bN,oN+k,none⟩)) rfl rfl A ?_;refine iw 33 243 26 236 false (.i n0) rfl rfl A ?_;refine wpAnyH_ready (rs:=[34]) (by kernel_rfl) (by simp) ?_;refine AllReadyH.cons rfl (fun fo ca=>?_) AllReadyH.nil;go_simp;refine (b4.o _ (br _ _).drew).mono ?_;rintro r w5 ⟨al,a5,c5,rfl⟩;have aa:Bl wr w5:=(br wr.heap.size wr).drew.trans al;refine ca.o _ _ (fun p hp=>aa.cell hp) fun A=>?_;rw [B2];refine iw 35 245 26 236 false (.i (rl:Int)) rfl rfl A ?_;refine iw 36 246 26 236 false (.bool ((rl:Int)==0)) rfl rfl A ?_;refine o7 37 247 (.bool ((rl:Int)==0)) rfl A ?_;refine wpAnyH_done (by kernel_rfl) ?_ _;clear A;rw [HA.o];clear HA au av bi a1 ck;simp only [Act.put,p1q,p4q,p3q];cases hrb:((rl:Int)==0)
        ·have O:=aj (X.o (G.o.trans (by have:=ne_of_beq_false hrb;simp;omega)));clear L G
         go_wp21
         go_roundw
         case rel=>exact ⟨k+1,by omega,by go_num,O.o.1,O.o.2 _ aa⟩
         case measure=>simp [intOf];omega
        have N:=aj (L.o (G.o.trans (by have:=eq_of_beq hrb;simp;omega)));exact absurd N.o.1 (by rw [H0.o];decide)
       have H5:Hid ((range h.ap.length).any (ul d h F)=false):=znm fun j hj=>E.o.1 j (by omega);have em:=aj E.o.2;clear E I hD
       go_wp21
       clear af hk D pk lp yk ly;go_loopw [17] (fun i wr=>∃k:Nat,k<=F.length/\i=.i k/\Hid ((F.take k).any (Ag d h)=false/\Bl Z wr)) (fun i _=>F.length - (intOf i).toNat)
       case atStart=>exact ⟨0,n0q _,rfl,by simp,em.o⟩
       case round=>
        rename World=>wr
        obtain ⟨k,hk,rfl,E⟩:=hrel;have af:Z.heap.size<=wr.heap.size:=E.o.2.size;by_cases D:k<F.length;rotate_left
        ·have N:Hid (gp d h=0/\Bl w wr):=⟨a4.o.trans (by
          unfold jb;rw [if_neg (by rw [H1.o];decide),if_neg (by rw [decide_eq_true H2.o];decide),if_neg (by rw [H3.o];decide),if_neg (by rw [H4.o];decide),if_neg (by rw [H5.o];decide),if_neg (by rw [znk D E.o.1];decide)]),a8.o wr E.o.2⟩
         clear E
         go_wp21
         go_ret;exact ⟨by rw [N.o.1];rfl,N.o.2⟩
        obtain ⟨I,-,hD⟩:=HX.o wr E.o.2;obtain ⟨W,ak,az,ai,a0,-⟩:=bm.o _ (cv.o _ (gm D));have pk:=il I.b0;have lp:=bz I.b0;have yk:=cells5 I.b1;have ly:=bz I.b1;obtain ⟨bA,oA,rfl,bu,eA⟩:=hD.atI k (by simpa using D);rw [getElem_map,ak]at eA;have q1:(0:Int)<=k:=by omega
        have q2:(k:Int)<F.length:=by omega
        have aw:Hid (∀V,Bl wr V->Calls prog 87 #[.agg (H7 (some ⟨bW,oW,none⟩) cW aO cO h),.agg (K5 aC cC aS cS aF cF aN cN aT cT d),.i (W:Int)] V fun r w'=>Bl V w'/\∃v,r=.returned v/\w'.ownsRow V.heap.size 3 1 v (refsOf d.fields F[k]).length (b8 (refsOf d.fields F[k]))):=fun V hV=>by have Y:=I.below hV;rw [a0]at ai ⊢;exact zng V B _ _ _ _ _ _ _ h d Y.sW Y.sO Y.lk (by have:=Y.le;have:=bz Y.b0;omega) W az (by have:=c4.o;omega) ai
        have d2:Hid (∀a∈refsOf d.fields F[k],∃an:Nat,a=an/\an<h.ab.length):=fun a J=>by have:=zht d.fields F[k] J;have h2:=(cs.o _ (cv.o _ (gm D))).1;have h3:=(cs.o _ (cv.o _ (gm D))).2;have h4:F[k].fin=F[k].loc+3+F[k].len:=rfl;exact ⟨a.toNat,by omega,by omega⟩
        have b3:Hid ((refsOf d.fields F[k]).length<=1000000):=by have:=Et d.fields F[k] F[k].len.toNat;have h3:=ai.hi;have:(refsOf d.fields F[k]).length<=F[k].len.toNat:=this;show _<=_;omega
        have ah:=aj E.o;have bb:Hid ((refsOf d.fields F[k]).any (ti h F[k])=Ag d h F[k]):=rfl;have a9:Hid (F[k].loc=W):=ak;generalize refsOf d.fields F[k]=rf at*;clear I hD E ai a0 ak
        go_wp21
        refine wp_region_held_drew (S:=fun W'=>∀p:Addr,p.block<wr.heap.size->W'.cell? p=wr.cell? p) (by kernel_rfl) (fun p hp=>rfl) fun A=>?_;refine zag 8 rfl fun a J=>?_;have au:a.tmps.size=288:=by rw [J];rfl
        have av:∀h,a.tmps[2]'h=.p w.heap.size:=by rw [J];exact fun _=>rfl
        have bi:∀h,a.tmps[3]'h=.p (w.heap.size+1):=by rw [J];exact fun _=>rfl
        have a1:∀h,a.tmps[6]'h=.slice (some ⟨bA,oA,none⟩) F.length cD:=by rw [J];exact fun _=>rfl
        have a7:∀h,a.tmps[17]'h=.i (k:Int):=by rw [J];exact fun _=>rfl
        have HA:=aj J;clear J;refine o7 0 254 (.agg (H7 (some ⟨bW,oW,none⟩) cW aO cO h)) rfl A ?_;refine o7 1 255 (.agg (K5 aC cC aS cS aF cF aN cN aT cT d)) rfl A ?_;refine o7 2 256 (.slice (some ⟨bA,oA,none⟩) F.length cD) rfl A ?_;refine o7 3 257 (.i (k:Int)) rfl A ?_;refine o7 4 258 (.pointer (some ⟨bA,oA+k,none⟩)) rfl A ?_;refine o7 5 259 (.i (W:Int)) rfl A ?_;refine wpAnyH_ready (rs:=[6]) (by kernel_rfl) (by simp) ?_;refine AllReadyH.cons rfl (fun K6 eb=>?_) AllReadyH.nil;go_simp;refine (aw.o _ (br _ _).drew).mono ?_;rintro r w5 ⟨al,v5,rfl,ad⟩;have aa:Bl wr w5:=(br wr.heap.size wr).drew.trans al;refine eb.o _ _ (fun p hp=>aa.cell hp) fun A=>?_;rw [B2];refine o7 7 18 (v5) rfl A ?_;refine wpAnyH_done (by kernel_rfl) ?_ _;clear A;rw [HA.o];clear HA au av bi a1 a7;simp only [Act.put,p1q,p4q,p3q];have bn:Hid (∀V,Bl w5 V->Bl Z V/\SL 1 RI (· <w5.heap.size) V v5 rf):=fun V hV=>by have eh:=aa.size;refine ⟨ah.o.2.trans ((aa.trans (hV.mono eh)).mono af),?_⟩;exact ((rg ad b3.o).monoI (M':=(· <w5.heap.size)) fun k hk=>hk.lt).keptI (Kp.below hV)
        obtain ⟨a5,c5,rfl⟩:=ku ad;have q9:rf.length<=1000000:=b3.o;clear al aa ad pk yk lp ly eA bu aw
        go_wp21
        go_loopw [19] (fun i wr=>∃j:Nat,j<=rf.length/\i=.i j/\Hid ((rf.take j).any (ti h F[k])=false/\Bl w5 wr)) (fun i _=>rf.length - (intOf i).toNat)
        case atStart=>exact ⟨0,n0q _,rfl,by simp,br _ _⟩
        case round=>
         rename World=>wr
         obtain ⟨j,hj,rfl,E⟩:=hrel;by_cases ac:j<rf.length
         ·obtain ⟨bc,cc⟩:=bn.o wr E.o.2;obtain ⟨I,-,hD⟩:=HX.o wr bc;obtain ⟨an,bd,ce⟩:=d2.o _ (gm ac);have p0:=bg I.b0 0 (x:=.slice (some ⟨bW,oW,none⟩) h.ab.length cW) rfl;have p1:=bg I.b0 1 (x:=.i h.ae) rfl;have p5:=bg I.b0 5 (x:=.slice aO h.ap.length cO) rfl;have lp:=bz I.b0;obtain ⟨b5,o5,rfl,al,e5⟩:=cc.atI j ac;rw [bd]at e5;obtain ⟨fr,gt,ea,bu,eA⟩:=hD.atI k (by simpa using D);cases ea;rw [getElem_map,a9.o]at eA;obtain ⟨b',o',e',c7,eW⟩:=I.sW.atI an ce;cases e';have r1:(0:Int)<=j:=by omega
          have r2:(j:Int)<rf.length:=by omega
          have q3:(0:Int)<=(an:Int):=by omega
          have q4:(an:Int)<h.ab.length:=by omega
          have a3:Hid (∀V,Bl wr V->Calls prog 74 #[.slice aO h.ap.length cO,.i (W:Int)] V fun r w'=>r=.returned (.bool (h.ap.contains (W:Int)))/\w'=V):=fun V hV=>by have hv:=I.sO.keptI (Kp.below (hV.mono (by have:=I.le;have:=bz I.b0;omega)));exact zkq _ _ _ _ hv W
          have G:Hid (ti h F[k] rf[j]=(rh h.ab[an] 1 h.ae&& !h.ap.contains (W:Int))):=by show ti h F[k] rf[j]=_;unfold ti;rw [bd,qm ce,a9.o]
          have X:Hid (ti h F[k] rf[j]=false->(rf.take (j+1)).any (ti h F[k])=false/\∀n,Bl w5 (wr.drewN n)):=fun hb=>⟨zni ac E.o.1 hb,fun n=>pa E.o.2 n⟩;have L:Hid (ti h F[k] rf[j]=true->gp d h=4/\∀n,Bl w (wr.drewN n)):=fun hb=>⟨a4.o.trans (by
           unfold jb;rw [if_neg (by rw [H1.o];decide),if_neg (by rw [decide_eq_true H2.o];decide),if_neg (by rw [H3.o];decide),if_neg (by rw [H4.o];decide),if_neg (by rw [H5.o];decide),if_pos (znj D (by rw [<-bb.o];exact znj ac hb))]),fun n=>pa (a8.o wr bc) n⟩
          generalize rf[j]=a at*;generalize h.ab[an]=x at*;generalize h.ap.contains (W:Int)=ct at*;clear I hD cc bc E bd ah bb;cases hbt:rh x 1 h.ae
          ·have O:=aj (X.o (G.o.trans (by rw [hbt];rfl)));clear X L G a3
           go_wp21
           refine wp_region_held_drew (S:=fun W'=>∀p:Addr,p.block<wr.heap.size->W'.cell? p=wr.cell? p) (by kernel_rfl) (fun p hp=>rfl) fun A=>?_;refine zag 21 rfl fun a J=>?_;have au:a.tmps.size=288:=by rw [J];rfl
           have av:∀h,a.tmps[2]'h=.p w.heap.size:=by rw [J];exact fun _=>rfl
           have cm:∀h,a.tmps[18]'h=.slice (some ⟨b5,o5,none⟩) rf.length c5:=by rw [J];exact fun _=>rfl
           have cn:∀h,a.tmps[19]'h=.i (j:Int):=by rw [J];exact fun _=>rfl
           have a1:∀h,a.tmps[6]'h=.slice (some ⟨bA,oA,none⟩) F.length cD:=by rw [J];exact fun _=>rfl
           have a7:∀h,a.tmps[17]'h=.i (k:Int):=by rw [J];exact fun _=>rfl
           have HA:=aj J;clear J;refine o7 0 267 (.p w.heap.size) rfl A ?_;refine o7 1 268 (.slice (some ⟨bW,oW,none⟩) h.ab.length cW) rfl A ?_;refine o7 2 269 (.slice (some ⟨b5,o5,none⟩) rf.length c5) rfl A ?_;refine o7 3 270 (.i (j:Int)) rfl A ?_;refine o7 4 271 (.pointer (some ⟨b5,o5+j,none⟩)) rfl A ?_;refine o7 5 272 (.i (an:Int)) rfl A ?_;refine o7 6 273 (.pointer (some ⟨bW,oW+an,none⟩)) rfl A ?_;refine o7 7 274 (.i x) rfl A ?_;refine o7 8 275 (.pointer (some ⟨w.heap.size,1,none⟩)) rfl A ?_;refine o7 9 276 (.i h.ae) rfl A ?_;refine wpAnyH_ready (rs:=[10]) (by kernel_rfl) (by simp) ?_;refine AllReadyH.cons rfl (fun fk b7=>?_) AllReadyH.nil;go_simp;refine (Fv _ _ _ _).mono ?_;rintro r _ ⟨rfl,rfl⟩;rw [hbt];refine b7.o _ _ (fun p hp=>rfl) fun A=>?_;rw [B2];refine o7 11 278 (.bool false) rfl A ?_;refine re 12 279 11 278 true rfl rfl A ?_;refine re 13 280 11 278 true rfl rfl A ?_;refine re 14 281 11 278 true rfl rfl A ?_;refine re 15 282 11 278 true rfl rfl A ?_;refine re 16 283 11 278 true rfl rfl A ?_;refine re 17 284 11 278 true rfl rfl A ?_;refine re 18 285 11 278 true rfl rfl A ?_;refine re 19 286 11 278 true rfl rfl A ?_;refine o7 20 287 (.bool false) rfl A ?_;refine wpAnyH_done (by kernel_rfl) ?_ _;clear A;rw [HA.o];clear HA au av cm cn a1 a7;simp only [Act.put,p1q,p4q,p3q]
           go_wp21
           go_roundw
           case rel=>exact ⟨j+1,by omega,by go_num,O.o.1,O.o.2 1⟩
           case measure=>simp [intOf];omega
          cases ct
          ·have N:=aj (L.o (G.o.trans (by rw [hbt];rfl)));exact absurd N.o.1 (by rw [H0.o];decide)
          have O:=aj (X.o (G.o.trans (by rw [hbt];rfl)));clear X L G
          go_wp21
          refine wp_region_held_drew (S:=fun W'=>∀p:Addr,p.block<wr.heap.size->W'.cell? p=wr.cell? p) (by kernel_rfl) (fun p hp=>rfl) fun A=>?_;refine zag 21 rfl fun a J=>?_;have au:a.tmps.size=288:=by rw [J];rfl
          have av:∀h,a.tmps[2]'h=.p w.heap.size:=by rw [J];exact fun _=>rfl
          have cm:∀h,a.tmps[18]'h=.slice (some ⟨b5,o5,none⟩) rf.length c5:=by rw [J];exact fun _=>rfl
          have cn:∀h,a.tmps[19]'h=.i (j:Int):=by rw [J];exact fun _=>rfl
          have a1:∀h,a.tmps[6]'h=.slice (some ⟨bA,oA,none⟩) F.length cD:=by rw [J];exact fun _=>rfl
          have a7:∀h,a.tmps[17]'h=.i (k:Int):=by rw [J];exact fun _=>rfl
          have HA:=aj J;clear J;refine o7 0 267 (.p w.heap.size) rfl A ?_;refine o7 1 268 (.slice (some ⟨bW,oW,none⟩) h.ab.length cW) rfl A ?_;refine o7 2 269 (.slice (some ⟨b5,o5,none⟩) rf.length c5) rfl A ?_;refine o7 3 270 (.i (j:Int)) rfl A ?_;refine o7 4 271 (.pointer (some ⟨b5,o5+j,none⟩)) rfl A ?_;refine o7 5 272 (.i (an:Int)) rfl A ?_;refine o7 6 273 (.pointer (some ⟨bW,oW+an,none⟩)) rfl A ?_;refine o7 7 274 (.i x) rfl A ?_;refine o7 8 275 (.pointer (some ⟨w.heap.size,1,none⟩)) rfl A ?_;refine o7 9 276 (.i h.ae) rfl A ?_;refine wpAnyH_ready (rs:=[10]) (by kernel_rfl) (by simp) ?_;refine AllReadyH.cons rfl (fun fk b7=>?_) AllReadyH.nil;go_simp;refine (Fv _ _ _ _).mono ?_;rintro r _ ⟨rfl,rfl⟩;rw [hbt];refine b7.o _ _ (fun p hp=>rfl) fun A=>?_;rw [B2];refine o7 11 278 (.bool true) rfl A ?_;refine iw 12 279 11 278 true (.pointer (some ⟨w.heap.size,5,none⟩)) rfl rfl A ?_;refine iw 13 280 11 278 true (.slice aO h.ap.length cO) rfl rfl A ?_;refine iw 14 281 11 278 true (.slice (some ⟨bA,oA,none⟩) F.length cD) rfl rfl A ?_;refine iw 15 282 11 278 true (.i (k:Int)) rfl rfl A ?_;refine iw 16 283 11 278 true (.pointer (some ⟨bA,oA+k,none⟩)) rfl rfl A ?_;refine iw 17 284 11 278 true (.i (W:Int)) rfl rfl A ?_;refine wpAnyH_ready (rs:=[18]) (by kernel_rfl) (by simp) ?_;refine AllReadyH.cons rfl (fun gx ey=>?_) AllReadyH.nil;go_simp;refine (a3.o _ (br _ _).drew).mono ?_;rintro r _ ⟨rfl,rfl⟩;refine ey.o _ _ (fun p hp=>rfl) fun A=>?_;rw [B2];refine iw 19 286 11 278 true (.bool false) rfl rfl A ?_;refine o7 20 287 (.bool false) rfl A ?_;refine wpAnyH_done (by kernel_rfl) ?_ _;clear A;rw [HA.o];clear HA au av cm cn a1 a7;simp only [Act.put,p1q,p4q,p3q]
          go_wp21
          go_roundw
          case rel=>exact ⟨j+1,by omega,by go_num,O.o.1,O.o.2 1⟩
          case measure=>simp [intOf];omega
         have O:Hid ((F.take (k+1)).any (Ag d h)=false/\Bl Z wr):=⟨zni D ah.o.1 (by rw [<-bb.o];exact znk ac E.o.1),(bn.o wr E.o.2).1⟩;clear E ah
         go_wp21
         go_roundw
         case rel=>exact ⟨k+1,by omega,by go_num,O.o.1,O.o.2⟩
         case measure=>simp [intOf];omega
 have N:Hid (gp d h=1):=by
  show gp d h=1;rw [d3.o];unfold jh at c9;cases e1:cw d.am.length d.fields h.ab 1 h.bk with
  | none=>rfl
  | some ys=>
    rw [e1]at c9;cases e2:cw d.am.length d.fields h.ab (h.ae+1) h.be with
    | none=>rfl
    | some F=>rw [e2]at c9;cases c9
 exact absurd N.o (by rw [H0.o];decide)
end Go.Proofs.YtjdnmblggdobgaaGreat
