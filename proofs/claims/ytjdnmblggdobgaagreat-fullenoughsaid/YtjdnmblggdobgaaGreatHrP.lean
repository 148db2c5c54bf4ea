import Derived.Test.YtjdnmblggdobgaaGreatJHqBHvA
set_option maxHeartbeats 60000000
set_option maxRecDepth 100000
namespace Go.Proofs.YtjdnmblggdobgaaGreat
open Go.RowKit Go.Maps Tryz
theorem z1v (w:World) (B:Nat) (vW vO kC kS kF kN kT:Value) (h:ar) (d:bd) (sW:SL 1 RI (· <B) w vW h.ab) (sO:SL 1 RI (· <B) w vO h.am) (lk:mt (· <B) w kC kS kF kN kT d) (hB:B<=w.heap.size) (hd:Cu d) (g0:h.next<=9223372036854775807) (h0:gi d h=0):
 Calls prog 55 #[.agg #[vW,.i h.ae,.i h.old,.i h.bo,.i h.ba,vO,.i h.next],.agg #[kC,kS,kF,kN,kT]] w fun r w'=>r=.returned (.i (gi d h))/\Bl w w':=by
 have H0:=ag h0;clear h0;obtain ⟨W0,bn⟩:∃W0,W0=(w.alloc (.cells #[vW,.i h.ae,.i h.old,.i h.bo,.i h.ba,vO,.i h.next] 24)).alloc (.cells #[kC,kS,kF,kN,kT] 36):=⟨_,rfl⟩;have e7:Rd w.heap.size B W0 vW vO kC kS kF kN kT h d:=bn ▸ Rd.new w B _ _ _ _ _ _ _ h d hB sW sO lk;have et:Bl w W0:=bn ▸ ((br _ _).alloc (nlq _) _).alloc (by simp) _;have bh:=ag e7;have cm:=ag et;have dk:=ag bn;have fi:Hid (W0.heap.size=w.heap.size+2):=by show _=_;rw [bn];simp
 obtain ⟨aC,cC,aS,cS,aF,cF,aN,cN,aT,cT,rfl,rfl,rfl,rfl,rfl⟩:=lk.agg;obtain ⟨aW,cW,rfl,-,gb,-⟩:=sW;obtain ⟨aO,cO,rfl,-,f8,-⟩:=sO;unfold maxLen at gb f8;rw [bn]at cm;clear lk e7 et bn;have cu:Hid (j6 h=(qd h.ae 3 2000&&qd h.old 3 2000)):=rfl;cases hy:qd h.ae 3 2000 with
 | false=>
   have N:Hid (gi d h=3):=by show gi d h=3;unfold gi;rw [cu.o,hy];rfl
   exact absurd N.o (by rw [H0.o];decide)
 | true=>
   cases ho:qd h.old 3 2000 with
   | false=>
     have N:Hid (gi d h=3):=by show gi d h=3;unfold gi;rw [cu.o,hy,ho];rfl
     exact absurd N.o (by rw [H0.o];decide)
   | true=>
     have hp:j6 h=true:=by rw [cu.o,hy,ho];rfl
     have cv:Hid (gi d h=if jg h then (if jx h then (match b9 d.aj.length d.fields h.ab 1 h.bo,b9 d.aj.length d.fields h.ab (h.ae+1) h.ba with | some ys,some F=>iy d h (ys++F) F | _,_=>1) else 3) else 1):=by show gi d h=_;unfold gi;rw [hp];rfl
     have ej:=hy;have eb:=ho;unfold qd at ej eb;simp only [Bool.and_eq_true,decide_eq_true_eq]at ej eb;obtain ⟨z1,z2⟩:=ej;obtain ⟨z3,z4⟩:=eb;have w1:IntKind.i64.wrap (1+h.ae)=1+h.ae:=gp _ (by omega) (by omega);have w2:IntKind.i64.wrap (1+h.ae+h.old)=1+h.ae+h.old:=gp _ (by omega) (by omega);have w3:IntKind.i64.wrap (h.ae+1)=h.ae+1:=gp _ (by omega) (by omega);have w4:IntKind.i64.wrap (h.ae+h.old)=h.ae+h.old:=gp _ (by omega) (by omega);have w5:IntKind.i64.wrap (h.ae+h.old+1)=h.ae+h.old+1:=gp _ (by omega) (by omega);by_cases hw:(h.ab.length:Int)=1+h.ae+h.old
     ·have gk:((h.ab.length:Int)==1+h.ae+h.old)=true:=beq_iff_eq.2 hw;have eh:jg h=true:=by unfold jg;exact decide_eq_true hw
      have b3:Hid (jx h=(qd h.bo 1 (h.ae+1)&&qd h.ba (h.ae+1) (h.ae+h.old+1)&&decide (1<=h.next))):=by show jx h=_;unfold jx qd;simp only [Bool.and_assoc]
      have cx:Hid (jx h=false->gi d h=3):=fun e=>by rw [cv.o,eh,e];rfl
      have c1:=ag hw;have d4:=ag eh;clear hw eh;cases ht1:qd h.bo 1 (h.ae+1)with
      | false=>
        have N:Hid (gi d h=3):=cx.o (by rw [b3.o,ht1];rfl);exact absurd N.o (by rw [H0.o];decide)
      | true=>
        cases ht2:qd h.ba (h.ae+1) (h.ae+h.old+1)with
        | false=>
          have N:Hid (gi d h=3):=cx.o (by rw [b3.o,ht1,ht2];rfl);exact absurd N.o (by rw [H0.o];decide)
        | true=>
          by_cases hn:h.next<1
          ·have N:Hid (gi d h=3):=cx.o (by rw [b3.o,ht1,ht2,decide_eq_false (by omega)];rfl);exact absurd N.o (by rw [H0.o];decide)
          have g1:decide (h.next<1)=false:=by simp;omega
          have eg:jx h=true:=by rw [b3.o,ht1,ht2,decide_eq_true (by omega)];rfl
          have hz:=zkk hd hp d4.o eg;have wn:IntKind.i64.wrap (h.next - 1)=h.next - 1:=gp _ (by omega) (by omega);have d3:=ag (znr W0 B _ _ _ _ _ _ _ h d bh.o.sW bh.o.sO bh.o.lk (by have:=bh.o.le;have:=fi.o;omega) hz (fun f hf=>lt3 (hd.fs f hf) (by omega)));rw [dk.o]at d3;have d1:Hid (gi d h=match b9 d.aj.length d.fields h.ab 1 h.bo,b9 d.aj.length d.fields h.ab (h.ae+1) h.ba with | some ys,some F=>iy d h (ys++F) F | _,_=>1):=by show gi d h=_;rw [cv.o,d4.o,eg];rfl
          have HZ:=ag hz;have HD:=ag hd;obtain ⟨bW,oW,rfl,-,-⟩:=bh.o.sW.atI 0 (by have:=c1.o;omega);have g2:¬h.next<1:=hn;clear hz hd cv cx b3 cu eg hp d4 hn;go_enter func55,ntmps55;go_wp2_with (first | (go_at_call 78;refine (Fm _ _ _ _).mono ?_;rintro r _ ⟨rfl,rfl⟩) | (go_at_call 73;refine d3.o.mono ?_));rw [<-dk.o];rintro r w1 ⟨ea,gg⟩;rw [<-dk.o]at cm;have cn:=ag ea;have em:Hid (Bl w w1):=cm.o.trans (ea.mono cm.o.size);clear ea d3;rcases gg with ⟨ys,F,vy,vo,ci,cf,rfl,ee,ec⟩ | ⟨c7,a,n,c,a',n',c',rfl⟩
          ·have f6:=Dq (by have:=HZ.o.bo;omega) ci;have f5:=Dq (by have:=HZ.o.ba;omega) cf;have g4:=HZ.o.bo;have g3:=HZ.o.ba;have a1:Hid (gi d h=iy d h (ys++F) F):=by show gi d h=_;rw [d1.o,ci,cf]
           have a7:Hid ((ys.map bk.loc).length<=1000000/\(F.map bk.loc).length<=1000000/\ys.length+F.length<=900000):=⟨by rw [List.length_map];omega,by rw [List.length_map];omega,by omega⟩;have eq:Hid (SL 1 RI (· <w1.heap.size) w1 vy (ys.map bk.loc)):=(ru ee a7.o.1).monoI fun k hk=>hk.lt;have d2:Hid (SL 1 RI (· <w1.heap.size) w1 vo (F.map bk.loc)):=(ru ec a7.o.2.1).monoI fun k hk=>hk.lt;have ds:Hid (∀t∈ys++F,pm d t/\0<=t.loc/\t.fin<=h.ab.length):=fun t ht=>by
            have z1:=HZ.o.ae;have z2:=HZ.o.old;have z3:=HZ.o.len;rcases List.mem_append.1 ht with ht | ht
            ·have I:=sc ci t ht;exact ⟨zkp HD.o I (by omega) (by omega),by have:=I.1;omega,by have:=I.2.1;omega⟩
            have I:=sc cf t ht;exact ⟨zkp HD.o I (by omega) (by omega),by have:=I.1;omega,by have:=I.2.1;omega⟩
           have er:=ag (zn5 ci cf);obtain ⟨ay,cy,rfl⟩:=kq ee;obtain ⟨aD,cD,rfl⟩:=kq ec;have eo:=ag (Fl w1 3 1);have dl:Hid (Bl w1 (w1.alloc (.cells #[] 3))):=(br _ _).alloc (nlq _) _;have c9:=ag (eq.o.keptI (Kp.below dl.o));have el:Hid ((([]:List Int).length+(ys.map bk.loc).length<=1000000)/\w1.heap.size<=(w1.alloc (.cells #[] 3)).heap.size):=⟨by rw [List.length_nil,Nat.zero_add];exact a7.o.1,by simp⟩;clear ee ec f6 f5 ci cf d1;have ez:(ys.map bk.loc).length=ys.length:=List.length_map _;have ey:(F.map bk.loc).length=F.length:=List.length_map _;have en:=ag ez;have cr:=ag ey;clear ez ey;generalize hyl:ys.map bk.loc=yl at*;generalize hol:F.map bk.loc=ol at*;have es:=ag hyl;have dz:=ag hol;clear hyl hol;go_wp2_with (at_builtin;refine zis _ rfl _ _ rfl w1.heap.size (.slice (some ⟨w1.heap.size,0,none⟩) 0 0) [] rfl eo.o (· <w1.heap.size) (.slice ay yl.length cy) yl rfl c9.o el.o.1 el.o.2 ?_);intro v2 w2 bc dd;have c3:Bl w1 w2:=dl.o.grown dd (by simp) (fun k e=>by cases e;exact nlq _);have c8:=ag (d2.o.keptI (Kp.below c3));obtain ⟨a2,c2,rfl⟩:=kq bc;have du:=ag bc;have co:=ag c3;have e8:=c3.size;have dg:Hid (yl.length+ol.length<=1000000):=by have h1:=a7.o.2.2;have h2:=en.o;have h3:=cr.o;show _<=_;omega
           clear bc dd c3 c9 eo;go_wp2_with (at_builtin;refine zis _ rfl _ _ rfl w1.heap.size (.slice a2 yl.length c2) yl rfl du.o (· <w1.heap.size) (.slice aD ol.length cD) ol rfl c8.o dg.o e8 ?_);intro v3 Z ch de;have bm:Bl w1 Z:=co.o.grown de e8 (fun k e=>(du.o.lt k e).1);obtain ⟨ts,bv⟩:∃ts,ts=ys++F:=⟨_,rfl⟩;have D:(yl++ol)=ts.map bk.loc:=by rw [bv,List.map_append,es.o,dz.o]
           have be:Z.ownsRow w1.heap.size 3 1 v3 ts.length (bw (ts.map bk.loc)):=by
            have e:ts.length=(yl++ol).length:=by rw [D,List.length_map]
            rw [<-D,e,List.length_append];exact ch
           obtain ⟨aA,cA,rfl⟩:=kq be;have bu:(ts.map bk.loc).length<=1000000:=by rw [<-D,List.length_append];exact dg.o
           have HX:Hid (∀V,Bl Z V->Rd w.heap.size B V (.slice (some ⟨bW,oW,none⟩) h.ab.length cW) (.slice aO h.am.length cO) (.slice aC d.aj.length cC) (.slice aS d.bg.length cS) (.slice aF d.fields.length cF) (.slice aN d.names.length cN) (.slice aT d.ax.length cT) h d/\SL 1 RI (· <Z.heap.size) V (.slice aA ts.length cA) (ts.map bk.loc)/\SL 1 RI (· <Z.heap.size) V (.slice aD F.length cD) (F.map bk.loc)):=fun V hV=>by
            have e9:=bm.size;have ft:Bl W0 V:=cn.o.trans ((bm.trans (hV.mono e9)).mono cn.o.size);refine ⟨bh.o.below ft,?_,?_⟩
            ·have:=ru (ns:=ts.map bk.loc) (by rw [List.length_map];exact be) bu;exact (this.monoI (M':=(· <Z.heap.size)) fun k hk=>hk.lt).keptI (Kp.below hV)
            have:=(d2.o.keptI (Kp.below bm)).monoI (M':=(· <Z.heap.size)) fun k hk=>ll3 hk e9;rw [dz.o,<-cr.o];exact this.keptI (Kp.below hV)
           have a6:Hid (∀V,Bl Z V->Bl w V):=fun V hV=>em.o.trans ((bm.trans (hV.mono bm.size)).mono em.o.size);have cs:Hid (∀t∈F,t∈ts):=fun t ht=>by rw [bv];exact List.mem_append.2 (Or.inr ht)
           have cp:Hid (∀t∈ts,0<=t.loc/\t.fin<=h.ab.length):=fun t ht=>by rw [bv]at ht;exact (ds.o t ht).2
           have bi:Hid (∀t∈ts,∃W:Nat,t.loc=W/\∃(av:W+2<h.ab.length),pm d t/\t=bj h.ab W/\h.ab[W+2]=t.hash):=fun t ht=>by
            rw [bv]at ht;obtain ⟨hf,h1,h2⟩:=ds.o t ht;have h3:=hf.lo;have h4:t.fin=t.loc+3+t.len:=rfl;have h5:=er.o t ht;have h6:t.loc=(t.loc.toNat:Int):=by omega
            have h7:t.loc.toNat+2<h.ab.length:=by omega
            refine ⟨t.loc.toNat,h6,h7,hf,by rw [<-h6];exact h5,?_⟩;have h8:t.hash=wd h.ab (t.loc+2):=by rw [h5];rfl
            rw [h8,show t.loc+2=((t.loc.toNat+2:Nat):Int) by omega,pi h7]
           rw [<-bv]at a1;have e4:=cr.o;clear ch de bm D be bu bv c8 du co dg en ds er eq d2 es dl;rw [e4];clear e4 cr dz;have q0:ts.length<=9223372036854775807:=by obtain ⟨a,c,e,-,hm,-⟩:=(HX.o Z (br _ _)).2.1;unfold maxLen at hm;rw [List.length_map]at hm;omega
           have g5:F.length<=9223372036854775807:=by obtain ⟨a,c,e,-,hm,-⟩:=(HX.o Z (br _ _)).2.2;unfold maxLen at hm;rw [List.length_map]at hm;omega
           go_wp2_with fail;go_loopw [9] (fun i wr=>∃k:Nat,k<=ts.length/\i=.i k/\Hid ((ts.take k).any (ye h)=false/\Bl Z wr)) (fun i _=>ts.length - (intOf i).toNat)
           case atStart=>exact ⟨0,n0q _,rfl,by simp,br _ _⟩
           case round=>
            rename World=>wr
            obtain ⟨k,hk,rfl,E⟩:=hrel;have af:Z.heap.size<=wr.heap.size:=E.o.2.size;by_cases D:k<ts.length
            ·obtain ⟨I,hA,-⟩:=HX.o wr E.o.2;obtain ⟨W,ak,av,ai,aw,ce⟩:=bi.o _ (gm D);have p0:=bp I.b0 0 (x:=.slice (some ⟨bW,oW,none⟩) h.ab.length cW) rfl;have p6:=bp I.b0 6 (x:=.i h.next) rfl;have lp:=bz I.b0;obtain ⟨bA,oA,rfl,bs,eA⟩:=hA.atI k (by simpa using D);rw [List.getElem_map,ak]at eA;obtain ⟨b',o',e',c4,eW⟩:=I.sW.atI (W+2) av;cases e';rw [ce]at eW;have q1:(0:Int)<=k:=by omega
             have q2:(k:Int)<ts.length:=by omega
             have q3:(0:Int)<=(W:Int)+2:=by omega
             have q4:(W:Int)+2<h.ab.length:=by omega
             have q5:((W:Int)+2).toNat=W+2:=by omega
             have w2:IntKind.i64.wrap ((W:Int)+2)=(W:Int)+2:=gp _ (by omega) (by omega);cases hb:qd ts[k].hash 1 (h.next - 1)with
             | true=>
               have O:Hid ((ts.take (k+1)).any (ye h)=false/\∀n,Bl Z (wr.drewN n)):=⟨zns D E.o.1 (by unfold ye;rw [hb];rfl),fun n=>o7 E.o.2 n⟩;generalize ts[k].hash=hs at*;clear I hA E ai aw ce ak;go_wp2_with fail;go_quiet ((go_at_call 78;exact Calls.quiet_of_same (Fm _ _ _ _)));go_wp2_with fail;go_roundw
               case rel=>exact ⟨k+1,by omega,by go_num,O.o.1,O.o.2 _⟩
               case measure=>simp [intOf];omega
             | false=>
               have N:Hid (gi d h=3/\∀n,Bl w (wr.drewN n)):=⟨a1.o.trans (by unfold iy;rw [if_pos (znt D (by unfold ye;rw [hb];rfl))]),fun n=>o7 (a6.o wr E.o.2) n⟩;exact absurd N.o.1 (by rw [H0.o];decide)
            have H1:Hid (ts.any (ye h)=false):=znu D E.o.1;have cn:=ag E.o.2;clear E;go_wp2_with fail;clear af hk D;go_loopw [10] (fun i wr=>∃k:Nat,k<=ts.length/\i=.i k/\Hid (((ts.map bk.hash).take k).Nodup/\Bl Z wr)) (fun i _=>ts.length - (intOf i).toNat)
            case atStart=>exact ⟨0,n0q _,rfl,by simp,cn.o⟩
            case round=>
             rename World=>wr
             obtain ⟨k,hk,rfl,E⟩:=hrel;have af:Z.heap.size<=wr.heap.size:=E.o.2.size;by_cases D:k<ts.length
             ·have ah:=ag E.o;clear E;go_wp2_with fail;go_loopw [11] (fun i wr=>∃j:Nat,j<=k/\i=.i j/\Hid (ts[k].hash∉((ts.map bk.hash).take j)/\Bl Z wr)) (fun i _=>k - (intOf i).toNat)
              case atStart=>exact ⟨0,n0q _,rfl,by simp,ah.o.2⟩
              case round=>
               rename World=>wr
               obtain ⟨j,hj,rfl,E⟩:=hrel;by_cases f2:j<k
               ·obtain ⟨I,hA,-⟩:=HX.o wr E.o.2;have ac:j<ts.length:=by omega
                obtain ⟨W,ak,av,-,-,ce⟩:=bi.o _ (gm D);obtain ⟨lm,e0,f7,-,-,e3⟩:=bi.o _ (gm ac);have p0:=bp I.b0 0 (x:=.slice (some ⟨bW,oW,none⟩) h.ab.length cW) rfl;have lp:=bz I.b0;obtain ⟨bA,oA,rfl,bs,eA⟩:=hA.atI k (by simpa using D);obtain ⟨fo,gs,d6,-,eB⟩:=hA.atI j (by simpa using ac);cases d6;rw [List.getElem_map,ak]at eA;rw [List.getElem_map,e0]at eB;obtain ⟨b',o',e',c4,eW⟩:=I.sW.atI (W+2) av;cases e';rw [ce]at eW;obtain ⟨b',o',e',-,eV⟩:=I.sW.atI (lm+2) f7;cases e';rw [e3]at eV;have q1:(0:Int)<=k:=by omega
                have q2:(k:Int)<ts.length:=by omega
                have r1:(0:Int)<=j:=by omega
                have r2:(j:Int)<ts.length:=by omega
                have r6:(j:Int)<k:=by omega
                have q3:(0:Int)<=(W:Int)+2:=by omega
                have q4:(W:Int)+2<h.ab.length:=by omega
                have q5:((W:Int)+2).toNat=W+2:=by omega
                have w2:IntKind.i64.wrap ((W:Int)+2)=(W:Int)+2:=gp _ (by omega) (by omega);have r3:(0:Int)<=(lm:Int)+2:=by omega
                have r4:(lm:Int)+2<h.ab.length:=by omega
                have r5:((lm:Int)+2).toNat=lm+2:=by omega
                have w3:IntKind.i64.wrap ((lm:Int)+2)=(lm:Int)+2:=gp _ (by omega) (by omega);by_cases hh:ts[k].hash=ts[j].hash
                ·have N:Hid (gi d h=6/\∀n,Bl w (wr.drewN n)):=⟨a1.o.trans (by
                  unfold iy;have:¬(ts.map bk.hash).Nodup:=zny (l:=ts.map bk.hash) (k:=k) (j:=j) (by simpa using D) f2 (by simpa using hh.symm);rw [if_neg (by rw [H1.o];decide),if_pos (by rw [decide_eq_false this];rfl)]),fun n=>o7 (a6.o wr E.o.2) n⟩
                 exact absurd N.o.1 (by rw [H0.o];decide)
                have gy:(ts[k].hash==ts[j].hash)=false:=beq_eq_false_iff_ne.2 hh;have O:Hid (ts[k].hash∉((ts.map bk.hash).take (j+1))/\∀n,Bl Z (wr.drewN n)):=⟨by
                 rw [List.take_succ_eq_append_getElem (by simpa using ac),List.mem_append];rintro (hm | hm)
                 ·exact E.o.1 hm
                 simp at hm;exact hh hm,fun n=>o7 E.o.2 n⟩
                generalize ts[k].hash=x at*;generalize ts[j].hash=y at*;clear I hA E ce e3 ak e0 ah;go_wp2_with fail;go_quiet (fail);go_wp2_with fail;go_roundw
                case rel=>exact ⟨j+1,by omega,by go_num,O.o.1,O.o.2 _⟩
                case measure=>simp [intOf];omega
               have f1:j=k:=by omega
               have O:Hid (((ts.map bk.hash).take (k+1)).Nodup/\Bl Z wr):=⟨znx (by simpa using D) ah.o.1 (by rw [List.getElem_map];have:=E.o.1;rw [f1]at this;exact this),E.o.2⟩;clear E ah;go_wp2_with fail;go_roundw
               case rel=>exact ⟨k+1,by omega,by go_num,O.o.1,O.o.2⟩
               case measure=>simp [intOf];omega
             have H2:Hid ((ts.map bk.hash).Nodup):=by have:=E.o.1;rwa [List.take_of_length_le (by rw [List.length_map];omega)]at this
             have co:=ag E.o.2;clear E;go_wp2_with fail;clear af hk D;go_loopw [12] (fun i wr=>∃k:Nat,k<=ts.length/\i=.i k/\Hid ((ts.take k).any (ze d h ts)=false/\Bl Z wr)) (fun i _=>ts.length - (intOf i).toNat)
             case atStart=>exact ⟨0,n0q _,rfl,by simp,co.o⟩
             case round=>
              rename World=>wr
              obtain ⟨k,hk,rfl,E⟩:=hrel;have af:Z.heap.size<=wr.heap.size:=E.o.2.size;by_cases D:k<ts.length
              ·obtain ⟨I,hA,-⟩:=HX.o wr E.o.2;obtain ⟨W,ak,av,ai,aw,-⟩:=bi.o _ (gm D);have pk:=ip I.b0;have lp:=bz I.b0;have yk:=cells5 I.b1;have ly:=bz I.b1;obtain ⟨bA,oA,rfl,bs,eA⟩:=hA.atI k (by simpa using D);rw [List.getElem_map,ak]at eA;have q1:(0:Int)<=k:=by omega
               have q2:(k:Int)<ts.length:=by omega
               have au:Hid (∀V,Bl wr V->Calls prog 87 #[.agg #[.slice (some ⟨bW,oW,none⟩) h.ab.length cW,.i h.ae,.i h.old,.i h.bo,.i h.ba,.slice aO h.am.length cO,.i h.next],.agg #[.slice aC d.aj.length cC,.slice aS d.bg.length cS,.slice aF d.fields.length cF,.slice aN d.names.length cN,.slice aT d.ax.length cT],.i (W:Int)] V fun r w'=>Bl V w'/\∃v,r=.returned v/\w'.ownsRow V.heap.size 3 1 v (refsOf d.fields ts[k]).length (bw (refsOf d.fields ts[k]))):=fun V hV=>by have Y:=I.below hV;rw [aw]at ai ⊢;exact znq V B _ _ _ _ _ _ _ h d Y.sW Y.sO Y.lk (by have:=Y.le;have:=bz Y.b0;omega) W av (by have:=c1.o;omega) ai
               have d0:Hid (∀a∈refsOf d.fields ts[k],∃an:Nat,a=an/\an<h.ab.length):=fun a J=>by have:=zh2 d.fields ts[k] J;have h2:=(cp.o _ (gm D)).1;have h3:=(cp.o _ (gm D)).2;have h4:ts[k].fin=ts[k].loc+3+ts[k].len:=rfl;exact ⟨a.toNat,by omega,by omega⟩
               have bx:Hid ((refsOf d.fields ts[k]).length<=1000000):=by have:=Ek d.fields ts[k] ts[k].len.toNat;have h3:=ai.hi;have:(refsOf d.fields ts[k]).length<=ts[k].len.toNat:=this;show _<=_;omega
               have ah:=ag E.o;have a8:Hid ((refsOf d.fields ts[k]).any (sd h ts)=ze d h ts ts[k]):=rfl;generalize refsOf d.fields ts[k]=rf at*;clear I hA E ai aw;go_wp2_with fail;refine wp_region_held_drew (S:=fun W'=>∀p:Addr,p.block<wr.heap.size->W'.cell? p=wr.cell? p) (by kernel_rfl) (fun p hp=>rfl) fun A=>?_;refine zag 8 rfl fun a J=>?_;have ao:a.tmps.size=288:=by rw [J];rfl
               have ap:∀h,a.tmps[2]'h=.p w.heap.size:=by rw [J];exact fun _=>rfl
               have bf:∀h,a.tmps[3]'h=.p (w.heap.size+1):=by rw [J];exact fun _=>rfl
               have gt:∀h,a.tmps[8]'h=.slice (some ⟨bA,oA,none⟩) ts.length cA:=by rw [J];exact fun _=>rfl
               have fa:∀h,a.tmps[12]'h=.i (k:Int):=by rw [J];exact fun _=>rfl
               have HA:=ag J;clear J;refine nt 0 137 (.agg #[.slice (some ⟨bW,oW,none⟩) h.ab.length cW,.i h.ae,.i h.old,.i h.bo,.i h.ba,.slice aO h.am.length cO,.i h.next]) rfl A ?_;refine nt 1 138 (.agg #[.slice aC d.aj.length cC,.slice aS d.bg.length cS,.slice aF d.fields.length cF,.slice aN d.names.length cN,.slice aT d.ax.length cT]) rfl A ?_;refine nt 2 139 (.slice (some ⟨bA,oA,none⟩) ts.length cA) rfl A ?_;refine nt 3 140 (.i (k:Int)) rfl A ?_;refine nt 4 141 (.pointer (some ⟨bA,oA+k,none⟩)) rfl A ?_;refine nt 5 142 (.i (W:Int)) rfl A ?_;refine wpAnyH_ready (rs:=[6]) (by kernel_rfl) (by simp) ?_;refine AllReadyH.cons rfl (fun K6 d8=>?_) AllReadyH.nil;go_simp;refine (au.o _ (br _ _).drew).mono ?_;rintro r w5 ⟨al,v5,rfl,ad⟩;have aa:Bl wr w5:=(br wr.heap.size wr).drew.trans al;refine d8.o _ _ (fun p hp=>aa.cell hp) fun A=>?_;rw [A4];refine nt 7 13 (v5) rfl A ?_;refine wpAnyH_done (by kernel_rfl) ?_ _;clear A;rw [HA.o];clear HA ao ap bf gt fa;simp only [Act.put,p1q,p4q,p3q];have bl:Hid (∀V,Bl w5 V->Bl Z V/\SL 1 RI (· <w5.heap.size) V v5 rf):=fun V hV=>by have ef:=aa.size;refine ⟨ah.o.2.trans ((aa.trans (hV.mono ef)).mono af),?_⟩;exact ((ru ad bx.o).monoI (M':=(· <w5.heap.size)) fun k hk=>hk.lt).keptI (Kp.below hV)
               obtain ⟨a5,c5,rfl⟩:=kq ad;have q9:rf.length<=1000000:=bx.o;have ek:Hid (Bl Z w5):=(bl.o w5 (br _ _)).1;clear al aa ad pk yk lp ly eA bs au;go_wp2_with fail;go_loopw [14] (fun i wr=>∃j:Nat,j<=rf.length/\i=.i j/\Hid ((rf.take j).any (sd h ts)=false/\Bl w5 wr)) (fun i _=>rf.length - (intOf i).toNat)
               case atStart=>exact ⟨0,n0q _,rfl,by simp,br _ _⟩
               case round=>
                rename World=>wr
                obtain ⟨j,hj,rfl,E⟩:=hrel;by_cases ac:j<rf.length
                ·obtain ⟨a9,ca⟩:=bl.o wr E.o.2;obtain ⟨I,hA,-⟩:=HX.o wr a9;obtain ⟨an,bb,cc⟩:=d0.o _ (gm ac);have p0:=bp I.b0 0 (x:=.slice (some ⟨bW,oW,none⟩) h.ab.length cW) rfl;have lp:=bz I.b0;obtain ⟨b5,o5,rfl,al,e5⟩:=ca.atI j ac;rw [bb]at e5;obtain ⟨b',o',e',c4,eW⟩:=I.sW.atI an cc;cases e';have r1:(0:Int)<=j:=by omega
                 have r2:(j:Int)<rf.length:=by omega
                 have q3:(0:Int)<=(an:Int):=by omega
                 have q4:(an:Int)<h.ab.length:=by omega
                 have a0:Hid (∀V n,V=wr.drewN n->Calls prog 74 #[.slice (some ⟨bA,oA,none⟩) ts.length cA,.i h.ab[an]] V fun r w'=>r=.returned (.bool ((ts.map bk.loc).contains h.ab[an]))/\w'=V):=fun V n e=>by have hv:=hA.keptI (Kp.below (o7 (br Z.heap.size wr) n));subst e;simpa using Fo _ _ _ _ hv h.ab[an]
                 have G:Hid (sd h ts rf[j]=(h.ab[an] != 0&& !(ts.map bk.loc).contains h.ab[an])):=by show sd h ts rf[j]=_;unfold sd;rw [bb,pi cc]
                 have X:Hid (sd h ts rf[j]=false->(rf.take (j+1)).any (sd h ts)=false/\∀n,Bl w5 (wr.drewN n)):=fun hb=>⟨zns ac E.o.1 hb,fun n=>o7 E.o.2 n⟩;have L:Hid (sd h ts rf[j]=true->gi d h=5/\∀n,Bl w (wr.drewN n)):=fun hb=>⟨a1.o.trans (by
                  unfold iy;rw [if_neg (by rw [H1.o];decide),if_neg (by rw [decide_eq_true H2.o];decide),if_pos (znt D (by rw [<-a8.o];exact znt ac hb))]),fun n=>o7 (a6.o wr a9) n⟩
                 generalize rf[j]=a at*;generalize h.ab[an]=x at*;generalize (ts.map bk.loc).contains x=ct at*;clear I hA ca a9 E bb ah a8;by_cases hx:x=0
                 ·subst hx;have O:=ag (X.o (G.o.trans (by simp)));clear X L G a0;go_wp2_with fail;go_quiet (fail);go_wp2_with fail;go_roundw
                  case rel=>exact ⟨j+1,by omega,by go_num,O.o.1,O.o.2 _⟩
                  case measure=>simp [intOf];omega
                 have ei:(x==0)=false:=beq_eq_false_iff_ne.2 hx;cases ct with
                 | true=>
                   have O:=ag (X.o (G.o.trans (by simp)));clear X L G;go_wp2_with fail;go_quiet ((go_at_call 74;exact Calls.quiet_of_same (a0.o _ _ rfl)));go_wp2_with fail;go_roundw
                   case rel=>exact ⟨j+1,by omega,by go_num,O.o.1,O.o.2 _⟩
                   case measure=>simp [intOf];omega
                 | false=>
                   have N:=ag (L.o (G.o.trans (by simp [bne,ei])));exact absurd N.o.1 (by rw [H0.o];decide)
                have O:Hid ((ts.take (k+1)).any (ze d h ts)=false/\Bl Z wr):=⟨zns D ah.o.1 (by rw [<-a8.o];exact znu ac E.o.1),(bl.o wr E.o.2).1⟩;clear E ah;go_wp2_with fail;go_roundw
                case rel=>exact ⟨k+1,by omega,by go_num,O.o.1,O.o.2⟩
                case measure=>simp [intOf];omega
              have H3:Hid (ts.any (ze d h ts)=false):=znu D E.o.1;have fe:=ag E.o.2;clear E;go_wp2_with fail;clear af hk D;go_loopw [15] (fun i wr=>∃k:Nat,k<=h.ab.length/\i=.i k/\Hid ((∀j,j<k->rj h j=false)/\Bl Z wr)) (fun i _=>h.ab.length - (intOf i).toNat)
              case atStart=>exact ⟨0,n0q _,rfl,(fun j hj=>by omega),fe.o⟩
              case round=>
               rename World=>wr
               obtain ⟨k,hk,rfl,E⟩:=hrel;have af:Z.heap.size<=wr.heap.size:=E.o.2.size;obtain ⟨I,-,-⟩:=HX.o wr E.o.2;have p0:=bp I.b0 0 (x:=.slice (some ⟨bW,oW,none⟩) h.ab.length cW) rfl;have p1:=bp I.b0 1 (x:=.i h.ae) rfl;have p3:=bp I.b0 3 (x:=.i h.bo) rfl;have p4:=bp I.b0 4 (x:=.i h.ba) rfl;have lp:=bz I.b0;by_cases D:k<h.ab.length
               ·obtain ⟨b',o',e',c4,eW⟩:=I.sW.atI k D;cases e';have q1:(0:Int)<=k:=by omega
                have q2:(k:Int)<h.ab.length:=by omega
                have G:Hid (rj h k=(h.ab[k] != 0&&(k==0||qd k h.bo h.ae||decide (h.ba<=k)))):=by show rj h k=_;unfold rj;rw [pi D]
                have X:Hid (rj h k=false->(∀j,j<k+1->rj h j=false)/\Bl Z wr):=fun hb=>⟨fun j hj=>by
                 by_cases e:j=k
                 ·rw [e];exact hb
                 exact E.o.1 j (by omega),E.o.2⟩
                have L:Hid (rj h k=true->gi d h=1/\Bl w wr):=fun hb=>⟨a1.o.trans (by
                 unfold iy;rw [if_neg (by rw [H1.o];decide),if_neg (by rw [decide_eq_true H2.o];decide),if_neg (by rw [H3.o];decide),if_pos (znv D hb)]),a6.o wr E.o.2⟩
                generalize h.ab[k]=x at*;clear I E;have f4:((k:Int)==0)=(k==0):=by cases k<;>simp;omega
                by_cases hx:x=0
                ·subst hx;have O:=ag (X.o (G.o.trans (by simp)));clear X L G;go_wp2_with (first | (go_at_call 78;refine (Fm _ _ _ _).mono ?_;rintro r _ ⟨rfl,rfl⟩));go_roundw
                 case rel=>exact ⟨k+1,by omega,by go_num,O.o.1,O.o.2⟩
                 case measure=>simp [intOf];omega
                have ei:(x==0)=false:=beq_eq_false_iff_ne.2 hx;have gl:(x != 0)=true:=by simp [bne,ei]
                rw [gl,Bool.true_and]at G;by_cases c6:(k:Int)=0
                ·have a3:(k==0)=true:=by simp;omega
                 have f3:((k:Int)==0)=true:=beq_iff_eq.2 c6;have N:=ag (L.o (G.o.trans (by rw [a3];rfl)));exact absurd N.o.1 (by rw [H0.o];decide)
                have a3:(k==0)=false:=by simp;omega
                have f3:((k:Int)==0)=false:=beq_eq_false_iff_ne.2 c6;rw [a3,Bool.false_or]at G;cases hbt:qd k h.bo h.ae with
                | true=>
                  have N:=ag (L.o (G.o.trans (by rw [hbt];rfl)));exact absurd N.o.1 (by rw [H0.o];decide)
                | false=>
                  by_cases e6:h.ba<=k
                  ·have N:=ag (L.o (G.o.trans (by rw [hbt];simp [e6])));exact absurd N.o.1 (by rw [H0.o];decide)
                  have O:=ag (X.o (G.o.trans (by rw [hbt];simp [e6]<;>omega)));clear X L G a3 f4;go_wp2_with (first | (go_at_call 78;refine (Fm _ _ _ _).mono ?_;rintro r _ ⟨rfl,rfl⟩));go_roundw
                  case rel=>exact ⟨k+1,by omega,by go_num,O.o.1,O.o.2⟩
                  case measure=>simp [intOf];omega
               have H4:Hid ((List.range h.ab.length).any (rj h)=false):=znw fun j hj=>E.o.1 j (by omega);have ff:=ag E.o.2;clear E I;go_wp2_with fail;clear af hk D p0 p1 p3 p4 lp;go_loopw [16] (fun i wr=>∃k:Nat,k<=h.am.length/\i=.i k/\Hid ((∀j,j<k->tj d h F j=false)/\Bl Z wr)) (fun i _=>h.am.length - (intOf i).toNat)
               case atStart=>exact ⟨0,n0q _,rfl,(fun j hj=>by omega),ff.o⟩
               case round=>
                rename World=>wr
                obtain ⟨k,hk,rfl,E⟩:=hrel;have af:Z.heap.size<=wr.heap.size:=E.o.2.size;obtain ⟨I,-,hD⟩:=HX.o wr E.o.2;have pk:=ip I.b0;have lp:=bz I.b0;have yk:=cells5 I.b1;have ly:=bz I.b1;by_cases D:k<h.am.length
                ·obtain ⟨bN,oN,rfl,gx,eN⟩:=I.sO.atI k D;have q1:(0:Int)<=k:=by omega
                 have q2:(k:Int)<h.am.length:=by omega
                 have a0:Hid (∀V,Bl wr V->Calls prog 74 #[.slice aD F.length cD,.i h.am[k]] V fun r w'=>r=.returned (.bool ((F.map bk.loc).contains h.am[k]))/\w'=V):=fun V hV=>by have hv:=hD.keptI (Kp.below (hV.mono af));simpa using Fo _ _ _ _ hv h.am[k]
                 have au:Hid ((F.map bk.loc).contains h.am[k]=true->∀V,Bl wr V->Calls prog 87 #[.agg #[.slice (some ⟨bW,oW,none⟩) h.ab.length cW,.i h.ae,.i h.old,.i h.bo,.i h.ba,.slice (some ⟨bN,oN,none⟩) h.am.length cO,.i h.next],.agg #[.slice aC d.aj.length cC,.slice aS d.bg.length cS,.slice aF d.fields.length cF,.slice aN d.names.length cN,.slice aT d.ax.length cT],.i h.am[k]] V fun r w'=>Bl V w'/\∃a c,r=.returned (.slice a (refsOf d.fields (bj h.ab h.am[k])).length c)):=fun fv V hV=>by obtain ⟨t,ht,e⟩:=List.mem_map.1 (List.contains_iff_mem.1 fv);obtain ⟨W,ak,av,ai,aw,-⟩:=bi.o t (cs.o t ht);have Y:=I.below hV;rw [<-e,ak];rw [aw]at ai;refine (znq V B _ _ _ _ _ _ _ h d Y.sW Y.sO Y.lk (by have:=Y.le;have:=bz Y.b0;omega) W av (by have:=c1.o;omega) ai).mono ?_;rintro r w' ⟨hb,v,rfl,ho⟩;obtain ⟨a,c,rfl⟩:=kq ho;exact ⟨hb,a,c,rfl⟩
                 have G:Hid (tj d h F k=(decide (0<k/\wd h.am k<=wd h.am ((k:Int) - 1))|| !(F.map bk.loc).contains h.am[k]||(refsOf d.fields (bj h.ab h.am[k])).isEmpty)):=by show tj d h F k=_;unfold tj;rw [pi D]
                 have X:Hid (tj d h F k=false->(∀j,j<k+1->tj d h F j=false)/\∀V,Bl wr V->Bl Z V):=fun hb=>⟨fun j hj=>by
                  by_cases e:j=k
                  ·rw [e];exact hb
                  exact E.o.1 j (by omega),fun V hV=>E.o.2.trans (hV.mono af)⟩
                 have L:Hid (tj d h F k=true->gi d h=4/\∀V,Bl wr V->Bl w V):=fun hb=>⟨a1.o.trans (by
                  unfold iy;rw [if_neg (by rw [H1.o];decide),if_neg (by rw [decide_eq_true H2.o];decide),if_neg (by rw [H3.o];decide),if_neg (by rw [H4.o];decide),if_pos (znv D hb)]),fun V hV=>a6.o V (E.o.2.trans (hV.mono af))⟩
                 have ex:(refsOf d.fields (bj h.ab h.am[k])).isEmpty=decide (((refsOf d.fields (bj h.ab h.am[k])).length:Int)=0):=by cases refsOf d.fields (bj h.ab h.am[k])<;>simp;omega
                 rw [ex]at G;clear ex;generalize (refsOf d.fields (bj h.ab h.am[k])).length=rl at*;have c0:Hid (wd h.am k=h.am[k]):=pi D;generalize (F.map bk.loc).contains h.am[k]=ct at*;by_cases c6:0<(k:Int)
                 ·obtain ⟨k1,a3⟩:∃k1:Nat,(k:Int) - 1=k1:=⟨k - 1,by omega⟩;have df:k1<h.am.length:=by omega
                  obtain ⟨b',o',e',-,eM⟩:=I.sO.atI k1 df;cases e';have d5:Hid (wd h.am ((k:Int) - 1)=h.am[k1]):=by show _=_;rw [a3];exact pi df
                  have wk:IntKind.i64.wrap ((k:Int) - 1)=(k1:Int):=by rw [a3];exact gp _ (by omega) (by omega)
                  have q3:(0:Int)<=k1:=by omega
                  have q4:(k1:Int)<h.am.length:=by omega
                  have fz:decide (0<(k:Int))=true:=by simp;omega
                  by_cases bu:h.am[k]<=h.am[k1]
                  ·have f0:decide (h.am[k]<=h.am[k1])=true:=by simp [bu]
                   have N:=ag (L.o (G.o.trans (by rw [c0.o,d5.o,decide_eq_true ⟨by omega,bu⟩];rfl)));exact absurd N.o.1 (by rw [H0.o];decide)
                  have f0:decide (h.am[k]<=h.am[k1])=false:=by simp;omega
                  rw [c0.o,d5.o,decide_eq_false (fun hh=>bu hh.2),Bool.false_or]at G;generalize h.am[k]=n0 at*;generalize h.am[k1]=n1 at*;clear I hD E c0 d5 a3;cases ct with
                  | false=>
                    have N:=ag (L.o (G.o.trans (by simp)));exact absurd N.o.1 (by rw [H0.o];decide)
                  | true=>
                    have b2:=ag (au.o rfl);clear au;go_wp2_with fail;refine wp_region_held_drew (S:=fun W'=>∀p:Addr,p.block<wr.heap.size->W'.cell? p=wr.cell? p) (by kernel_rfl) (fun p hp=>rfl) fun A=>?_;refine zag 38 rfl fun a J=>?_;have ao:a.tmps.size=288:=by rw [J];rfl
                    have ap:∀h,a.tmps[2]'h=.p w.heap.size:=by rw [J];exact fun _=>rfl
                    have bf:∀h,a.tmps[3]'h=.p (w.heap.size+1):=by rw [J];exact fun _=>rfl
                    have az:∀h,a.tmps[6]'h=.slice aD F.length cD:=by rw [J];exact fun _=>rfl
                    have cj:∀h,a.tmps[16]'h=.i (k:Int):=by rw [J];exact fun _=>rfl
                    have HA:=ag J;clear J;refine nt 0 210 (.i (k:Int)) rfl A ?_;refine tk 1 211 (.bool true) rfl (by kernel_rfl) (fun _ _ _ h=>h) ?_ A ?_
                    ·intro w fr;go_simp;omega
                    refine nt 2 212 (.bool true) rfl A ?_;refine iq 3 213 2 212 true (.pointer (some ⟨w.heap.size,5,none⟩)) rfl rfl A ?_;refine iq 4 214 2 212 true (.slice (some ⟨bN,oN,none⟩) h.am.length cO) rfl rfl A ?_;refine iq 5 215 2 212 true (.i (k:Int)) rfl rfl A ?_;refine iq 6 216 2 212 true (.pointer (some ⟨bN,oN+k,none⟩)) rfl rfl A ?_;refine iq 7 217 2 212 true (.i n0) rfl rfl A ?_;refine iq 8 218 2 212 true (.pointer (some ⟨w.heap.size,5,none⟩)) rfl rfl A ?_;refine iq 9 219 2 212 true (.slice (some ⟨bN,oN,none⟩) h.am.length cO) rfl rfl A ?_;refine iq 10 220 2 212 true (.i (k:Int)) rfl rfl A ?_;refine iq 11 221 2 212 true (.i (k1:Int)) rfl rfl A ?_;refine iq 12 222 2 212 true (.pointer (some ⟨bN,oN+k1,none⟩)) rfl rfl A ?_;refine iq 13 223 2 212 true (.i n1) rfl rfl A ?_;refine iq 14 224 2 212 true (.bool false) rfl rfl A ?_;refine nt 15 225 (.bool false) rfl A ?_;refine nt 16 226 (.bool false) rfl A ?_;refine iq 17 227 16 226 false (.slice aD F.length cD) rfl rfl A ?_;refine iq 18 228 16 226 false (.pointer (some ⟨w.heap.size,5,none⟩)) rfl rfl A ?_;refine iq 19 229 16 226 false (.slice (some ⟨bN,oN,none⟩) h.am.length cO) rfl rfl A ?_;refine iq 20 230 16 226 false (.i (k:Int)) rfl rfl A ?_;refine iq 21 231 16 226 false (.pointer (some ⟨bN,oN+k,none⟩)) rfl rfl A ?_;refine iq 22 232 16 226 false (.i n0) rfl rfl A ?_;refine wpAnyH_ready (rs:=[23]) (by kernel_rfl) (by simp) ?_;refine AllReadyH.cons rfl (fun fk b6=>?_) AllReadyH.nil;go_simp;refine (a0.o _ (br _ _).drew).mono ?_;rintro r _ ⟨rfl,rfl⟩;refine b6.o _ _ (fun p hp=>rfl) fun A=>?_;rw [A4];refine iq 24 234 16 226 false (.bool false) rfl rfl A ?_;refine nt 25 235 (.bool false) rfl A ?_;refine nt 26 236 (.bool false) rfl A ?_;refine iq 27 237 26 236 false (.agg #[.slice (some ⟨bW,oW,none⟩) h.ab.length cW,.i h.ae,.i h.old,.i h.bo,.i h.ba,.slice (some ⟨bN,oN,none⟩) h.am.length cO,.i h.next]) rfl rfl A ?_;refine iq 28 238 26 236 false (.agg #[.slice aC d.aj.length cC,.slice aS d.bg.length cS,.slice aF d.fields.length cF,.slice aN d.names.length cN,.slice aT d.ax.length cT]) rfl rfl A ?_;refine iq 29 239 26 236 false (.pointer (some ⟨w.heap.size,5,none⟩)) rfl rfl A ?_;refine iq 30 240 26 236 false (.slice (some ⟨bN,oN,none⟩) h.am.length cO) rfl rfl A ?_;refine iq 31 241 26 236 false (.i (k:Int)) rfl rfl A ?_;refine iq 32 242 26 236 false (.pointer (some ⟨bN,oN+k,none⟩)) rfl rfl A ?_;refine iq 33 243 26 236 false (.i n0) rfl rfl A ?_;refine wpAnyH_ready (rs:=[34]) (by kernel_rfl) (by simp) ?_;refine AllReadyH.cons rfl (fun fl b7=>?_) AllReadyH.nil;go_simp;refine (b2.o _ (br _ _).drew).mono ?_;rintro r w5 ⟨al,a5,c5,rfl⟩;have aa:Bl wr w5:=(br wr.heap.size wr).drew.trans al;refine b7.o _ _ (fun p hp=>aa.cell hp) fun A=>?_;rw [A4];refine iq 35 245 26 236 false (.i (rl:Int)) rfl rfl A ?_;refine iq 36 246 26 236 false (.bool ((rl:Int)==0)) rfl rfl A ?_;refine nt 37 247 (.bool ((rl:Int)==0)) rfl A ?_;refine wpAnyH_done (by kernel_rfl) ?_ _;clear A;rw [HA.o];clear HA ao ap bf az cj;simp only [Act.put,p1q,p4q,p3q];cases hrb:((rl:Int)==0)with
                    | true=>
                      have N:=ag (L.o (G.o.trans (by have:=eq_of_beq hrb;simp;omega)));exact absurd N.o.1 (by rw [H0.o];decide)
                    | false=>
                      have O:=ag (X.o (G.o.trans (by have:=ne_of_beq_false hrb;simp;omega)));clear L G;go_wp2_with fail;go_roundw
                      case rel=>exact ⟨k+1,by omega,by go_num,O.o.1,O.o.2 _ aa⟩
                      case measure=>simp [intOf];omega
                 have fz:decide (0<(k:Int))=false:=by simp;omega
                 rw [decide_eq_false (fun hh=>c6 (by omega)),Bool.false_or]at G;generalize h.am[k]=n0 at*;clear I hD E c0;cases ct with
                 | false=>
                   have N:=ag (L.o (G.o.trans (by simp)));exact absurd N.o.1 (by rw [H0.o];decide)
                 | true=>
                   have b2:=ag (au.o rfl);clear au;go_wp2_with fail;refine wp_region_held_drew (S:=fun W'=>∀p:Addr,p.block<wr.heap.size->W'.cell? p=wr.cell? p) (by kernel_rfl) (fun p hp=>rfl) fun A=>?_;refine zag 38 rfl fun a J=>?_;have ao:a.tmps.size=288:=by rw [J];rfl
                   have ap:∀h,a.tmps[2]'h=.p w.heap.size:=by rw [J];exact fun _=>rfl
                   have bf:∀h,a.tmps[3]'h=.p (w.heap.size+1):=by rw [J];exact fun _=>rfl
                   have az:∀h,a.tmps[6]'h=.slice aD F.length cD:=by rw [J];exact fun _=>rfl
                   have cj:∀h,a.tmps[16]'h=.i (k:Int):=by rw [J];exact fun _=>rfl
                   have HA:=ag J;clear J;refine nt 0 210 (.i (k:Int)) rfl A ?_;refine tk 1 211 (.bool false) rfl (by kernel_rfl) (fun _ _ _ h=>h) ?_ A ?_
                   ·intro w fr;go_simp;omega
                   refine nt 2 212 (.bool false) rfl A ?_;refine qq 3 213 2 212 true rfl rfl A ?_;refine qq 4 214 2 212 true rfl rfl A ?_;refine qq 5 215 2 212 true rfl rfl A ?_;refine qq 6 216 2 212 true rfl rfl A ?_;refine qq 7 217 2 212 true rfl rfl A ?_;refine qq 8 218 2 212 true rfl rfl A ?_;refine qq 9 219 2 212 true rfl rfl A ?_;refine qq 10 220 2 212 true rfl rfl A ?_;refine qq 11 221 2 212 true rfl rfl A ?_;refine qq 12 222 2 212 true rfl rfl A ?_;refine qq 13 223 2 212 true rfl rfl A ?_;refine qq 14 224 2 212 true rfl rfl A ?_;refine nt 15 225 (.bool false) rfl A ?_;refine nt 16 226 (.bool false) rfl A ?_;refine iq 17 227 16 226 false (.slice aD F.length cD) rfl rfl A ?_;refine iq 18 228 16 226 false (.pointer (some ⟨w.heap.size,5,none⟩)) rfl rfl A ?_;refine iq 19 229 16 226 false (.slice (some ⟨bN,oN,none⟩) h.am.length cO) rfl rfl A ?_;refine iq 20 230 16 226 false (.i (k:Int)) rfl rfl A ?_;refine iq 21 231 16 226 false (.pointer (some ⟨bN,oN+k,none⟩)) rfl rfl A ?_;refine iq 22 232 16 226 false (.i n0) rfl rfl A ?_;refine wpAnyH_ready (rs:=[23]) (by kernel_rfl) (by simp) ?_;refine AllReadyH.cons rfl (fun fk b6=>?_) AllReadyH.nil;go_simp;refine (a0.o _ (br _ _).drew).mono ?_;rintro r _ ⟨rfl,rfl⟩;refine b6.o _ _ (fun p hp=>rfl) fun A=>?_;rw [A4];refine iq 24 234 16 226 false (.bool false) rfl rfl A ?_;refine nt 25 235 (.bool false) rfl A ?_;refine nt 26 236 (.bool false) rfl A ?_;refine iq 27 237 26 236 false (.agg #[.slice (some ⟨bW,oW,none⟩) h.ab.length cW,.i h.ae,.i h.old,.i h.bo,.i h.ba,.slice (some ⟨bN,oN,none⟩) h.am.length cO,.i h.next]) rfl rfl A ?_;refine iq 28 238 26 236 false (.agg #[.slice aC d.aj.length cC,.slice aS d.bg.length cS,.slice aF d.fields.length cF,.slice aN d.names.length cN,.slice aT d.ax.length cT]) rfl rfl A ?_;refine iq 29 239 26 236 false (.pointer (some ⟨w.heap.size,5,none⟩)) rfl rfl A ?_;refine iq 30 240 26 236 false (.slice (some ⟨bN,oN,none⟩) h.am.length cO) rfl rfl A ?_;refine iq 31 241 26 236 false (.i (k:Int)) rfl rfl A ?_;refine iq 32 242 26 236 false (.pointer (some ⟨bN,oN+k,none⟩)) rfl rfl A ?_;refine iq 33 243 26 236 false (.i n0) rfl rfl A ?_;refine wpAnyH_ready (rs:=[34]) (by kernel_rfl) (by simp) ?_;refine AllReadyH.cons rfl (fun fl b7=>?_) AllReadyH.nil;go_simp;refine (b2.o _ (br _ _).drew).mono ?_;rintro r w5 ⟨al,a5,c5,rfl⟩;have aa:Bl wr w5:=(br wr.heap.size wr).drew.trans al;refine b7.o _ _ (fun p hp=>aa.cell hp) fun A=>?_;rw [A4];refine iq 35 245 26 236 false (.i (rl:Int)) rfl rfl A ?_;refine iq 36 246 26 236 false (.bool ((rl:Int)==0)) rfl rfl A ?_;refine nt 37 247 (.bool ((rl:Int)==0)) rfl A ?_;refine wpAnyH_done (by kernel_rfl) ?_ _;clear A;rw [HA.o];clear HA ao ap bf az cj;simp only [Act.put,p1q,p4q,p3q];cases hrb:((rl:Int)==0)with
                   | true=>
                     have N:=ag (L.o (G.o.trans (by have:=eq_of_beq hrb;simp;omega)));exact absurd N.o.1 (by rw [H0.o];decide)
                   | false=>
                     have O:=ag (X.o (G.o.trans (by have:=ne_of_beq_false hrb;simp;omega)));clear L G;go_wp2_with fail;go_roundw
                     case rel=>exact ⟨k+1,by omega,by go_num,O.o.1,O.o.2 _ aa⟩
                     case measure=>simp [intOf];omega
                have H5:Hid ((List.range h.am.length).any (tj d h F)=false):=znw fun j hj=>E.o.1 j (by omega);have ek:=ag E.o.2;clear E I hD;go_wp2_with fail;clear af hk D pk lp yk ly;go_loopw [17] (fun i wr=>∃k:Nat,k<=F.length/\i=.i k/\Hid ((F.take k).any (zf d h)=false/\Bl Z wr)) (fun i _=>F.length - (intOf i).toNat)
                case atStart=>exact ⟨0,n0q _,rfl,by simp,ek.o⟩
                case round=>
                 rename World=>wr
                 obtain ⟨k,hk,rfl,E⟩:=hrel;have af:Z.heap.size<=wr.heap.size:=E.o.2.size;by_cases D:k<F.length
                 ·obtain ⟨I,-,hD⟩:=HX.o wr E.o.2;obtain ⟨W,ak,av,ai,aw,-⟩:=bi.o _ (cs.o _ (gm D));have pk:=ip I.b0;have lp:=bz I.b0;have yk:=cells5 I.b1;have ly:=bz I.b1;obtain ⟨bA,oA,rfl,bs,eA⟩:=hD.atI k (by simpa using D);rw [List.getElem_map,ak]at eA;have q1:(0:Int)<=k:=by omega
                  have q2:(k:Int)<F.length:=by omega
                  have au:Hid (∀V,Bl wr V->Calls prog 87 #[.agg #[.slice (some ⟨bW,oW,none⟩) h.ab.length cW,.i h.ae,.i h.old,.i h.bo,.i h.ba,.slice aO h.am.length cO,.i h.next],.agg #[.slice aC d.aj.length cC,.slice aS d.bg.length cS,.slice aF d.fields.length cF,.slice aN d.names.length cN,.slice aT d.ax.length cT],.i (W:Int)] V fun r w'=>Bl V w'/\∃v,r=.returned v/\w'.ownsRow V.heap.size 3 1 v (refsOf d.fields F[k]).length (bw (refsOf d.fields F[k]))):=fun V hV=>by have Y:=I.below hV;rw [aw]at ai ⊢;exact znq V B _ _ _ _ _ _ _ h d Y.sW Y.sO Y.lk (by have:=Y.le;have:=bz Y.b0;omega) W av (by have:=c1.o;omega) ai
                  have d0:Hid (∀a∈refsOf d.fields F[k],∃an:Nat,a=an/\an<h.ab.length):=fun a J=>by have:=zh2 d.fields F[k] J;have h2:=(cp.o _ (cs.o _ (gm D))).1;have h3:=(cp.o _ (cs.o _ (gm D))).2;have h4:F[k].fin=F[k].loc+3+F[k].len:=rfl;exact ⟨a.toNat,by omega,by omega⟩
                  have bx:Hid ((refsOf d.fields F[k]).length<=1000000):=by have:=Ek d.fields F[k] F[k].len.toNat;have h3:=ai.hi;have:(refsOf d.fields F[k]).length<=F[k].len.toNat:=this;show _<=_;omega
                  have ah:=ag E.o;have a8:Hid ((refsOf d.fields F[k]).any (se h F[k])=zf d h F[k]):=rfl;have a7:Hid (F[k].loc=W):=ak;generalize refsOf d.fields F[k]=rf at*;clear I hD E ai aw ak;go_wp2_with fail;refine wp_region_held_drew (S:=fun W'=>∀p:Addr,p.block<wr.heap.size->W'.cell? p=wr.cell? p) (by kernel_rfl) (fun p hp=>rfl) fun A=>?_;refine zag 8 rfl fun a J=>?_;have ao:a.tmps.size=288:=by rw [J];rfl
                  have ap:∀h,a.tmps[2]'h=.p w.heap.size:=by rw [J];exact fun _=>rfl
                  have bf:∀h,a.tmps[3]'h=.p (w.heap.size+1):=by rw [J];exact fun _=>rfl
                  have az:∀h,a.tmps[6]'h=.slice (some ⟨bA,oA,none⟩) F.length cD:=by rw [J];exact fun _=>rfl
                  have a4:∀h,a.tmps[17]'h=.i (k:Int):=by rw [J];exact fun _=>rfl
                  have HA:=ag J;clear J;refine nt 0 254 (.agg #[.slice (some ⟨bW,oW,none⟩) h.ab.length cW,.i h.ae,.i h.old,.i h.bo,.i h.ba,.slice aO h.am.length cO,.i h.next]) rfl A ?_;refine nt 1 255 (.agg #[.slice aC d.aj.length cC,.slice aS d.bg.length cS,.slice aF d.fields.length cF,.slice aN d.names.length cN,.slice aT d.ax.length cT]) rfl A ?_;refine nt 2 256 (.slice (some ⟨bA,oA,none⟩) F.length cD) rfl A ?_;refine nt 3 257 (.i (k:Int)) rfl A ?_;refine nt 4 258 (.pointer (some ⟨bA,oA+k,none⟩)) rfl A ?_;refine nt 5 259 (.i (W:Int)) rfl A ?_;refine wpAnyH_ready (rs:=[6]) (by kernel_rfl) (by simp) ?_;refine AllReadyH.cons rfl (fun K6 d8=>?_) AllReadyH.nil;go_simp;refine (au.o _ (br _ _).drew).mono ?_;rintro r w5 ⟨al,v5,rfl,ad⟩;have aa:Bl wr w5:=(br wr.heap.size wr).drew.trans al;refine d8.o _ _ (fun p hp=>aa.cell hp) fun A=>?_;rw [A4];refine nt 7 18 (v5) rfl A ?_;refine wpAnyH_done (by kernel_rfl) ?_ _;clear A;rw [HA.o];clear HA ao ap bf az a4;simp only [Act.put,p1q,p4q,p3q];have bl:Hid (∀V,Bl w5 V->Bl Z V/\SL 1 RI (· <w5.heap.size) V v5 rf):=fun V hV=>by have ef:=aa.size;refine ⟨ah.o.2.trans ((aa.trans (hV.mono ef)).mono af),?_⟩;exact ((ru ad bx.o).monoI (M':=(· <w5.heap.size)) fun k hk=>hk.lt).keptI (Kp.below hV)
                  obtain ⟨a5,c5,rfl⟩:=kq ad;have q9:rf.length<=1000000:=bx.o;clear al aa ad pk yk lp ly eA bs au;go_wp2_with fail;go_loopw [19] (fun i wr=>∃j:Nat,j<=rf.length/\i=.i j/\Hid ((rf.take j).any (se h F[k])=false/\Bl w5 wr)) (fun i _=>rf.length - (intOf i).toNat)
                  case atStart=>exact ⟨0,n0q _,rfl,by simp,br _ _⟩
                  case round=>
                   rename World=>wr
                   obtain ⟨j,hj,rfl,E⟩:=hrel;by_cases ac:j<rf.length
                   ·obtain ⟨a9,ca⟩:=bl.o wr E.o.2;obtain ⟨I,-,hD⟩:=HX.o wr a9;obtain ⟨an,bb,cc⟩:=d0.o _ (gm ac);have p0:=bp I.b0 0 (x:=.slice (some ⟨bW,oW,none⟩) h.ab.length cW) rfl;have p1:=bp I.b0 1 (x:=.i h.ae) rfl;have p5:=bp I.b0 5 (x:=.slice aO h.am.length cO) rfl;have lp:=bz I.b0;obtain ⟨b5,o5,rfl,al,e5⟩:=ca.atI j ac;rw [bb]at e5;obtain ⟨fo,gs,d6,bs,eA⟩:=hD.atI k (by simpa using D);cases d6;rw [List.getElem_map,a7.o]at eA;obtain ⟨b',o',e',c4,eW⟩:=I.sW.atI an cc;cases e';have r1:(0:Int)<=j:=by omega
                    have r2:(j:Int)<rf.length:=by omega
                    have q3:(0:Int)<=(an:Int):=by omega
                    have q4:(an:Int)<h.ab.length:=by omega
                    have a0:Hid (∀V,Bl wr V->Calls prog 74 #[.slice aO h.am.length cO,.i (W:Int)] V fun r w'=>r=.returned (.bool (h.am.contains (W:Int)))/\w'=V):=fun V hV=>by have hv:=I.sO.keptI (Kp.below (hV.mono (by have:=I.le;have:=bz I.b0;omega)));exact Fo _ _ _ _ hv W
                    have G:Hid (se h F[k] rf[j]=(qd h.ab[an] 1 h.ae&& !h.am.contains (W:Int))):=by show se h F[k] rf[j]=_;unfold se;rw [bb,pi cc,a7.o]
                    have X:Hid (se h F[k] rf[j]=false->(rf.take (j+1)).any (se h F[k])=false/\∀n,Bl w5 (wr.drewN n)):=fun hb=>⟨zns ac E.o.1 hb,fun n=>o7 E.o.2 n⟩;have L:Hid (se h F[k] rf[j]=true->gi d h=4/\∀n,Bl w (wr.drewN n)):=fun hb=>⟨a1.o.trans (by
                     unfold iy;rw [if_neg (by rw [H1.o];decide),if_neg (by rw [decide_eq_true H2.o];decide),if_neg (by rw [H3.o];decide),if_neg (by rw [H4.o];decide),if_neg (by rw [H5.o];decide),if_pos (znt D (by rw [<-a8.o];exact znt ac hb))]),fun n=>o7 (a6.o wr a9) n⟩
                    generalize rf[j]=a at*;generalize h.ab[an]=x at*;generalize h.am.contains (W:Int)=ct at*;clear I hD ca a9 E bb ah a8;cases hbt:qd x 1 h.ae with
                    | false=>
                      have O:=ag (X.o (G.o.trans (by rw [hbt];rfl)));clear X L G a0;go_wp2_with fail;refine wp_region_held_drew (S:=fun W'=>∀p:Addr,p.block<wr.heap.size->W'.cell? p=wr.cell? p) (by kernel_rfl) (fun p hp=>rfl) fun A=>?_;refine zag 21 rfl fun a J=>?_;have ao:a.tmps.size=288:=by rw [J];rfl
                      have ap:∀h,a.tmps[2]'h=.p w.heap.size:=by rw [J];exact fun _=>rfl
                      have ck:∀h,a.tmps[18]'h=.slice (some ⟨b5,o5,none⟩) rf.length c5:=by rw [J];exact fun _=>rfl
                      have cl:∀h,a.tmps[19]'h=.i (j:Int):=by rw [J];exact fun _=>rfl
                      have az:∀h,a.tmps[6]'h=.slice (some ⟨bA,oA,none⟩) F.length cD:=by rw [J];exact fun _=>rfl
                      have a4:∀h,a.tmps[17]'h=.i (k:Int):=by rw [J];exact fun _=>rfl
                      have HA:=ag J;clear J;refine nt 0 267 (.p w.heap.size) rfl A ?_;refine nt 1 268 (.slice (some ⟨bW,oW,none⟩) h.ab.length cW) rfl A ?_;refine nt 2 269 (.slice (some ⟨b5,o5,none⟩) rf.length c5) rfl A ?_;refine nt 3 270 (.i (j:Int)) rfl A ?_;refine nt 4 271 (.pointer (some ⟨b5,o5+j,none⟩)) rfl A ?_;refine nt 5 272 (.i (an:Int)) rfl A ?_;refine nt 6 273 (.pointer (some ⟨bW,oW+an,none⟩)) rfl A ?_;refine nt 7 274 (.i x) rfl A ?_;refine nt 8 275 (.pointer (some ⟨w.heap.size,1,none⟩)) rfl A ?_;refine nt 9 276 (.i h.ae) rfl A ?_;refine wpAnyH_ready (rs:=[10]) (by kernel_rfl) (by simp) ?_;refine AllReadyH.cons rfl (fun fj b4=>?_) AllReadyH.nil;go_simp;refine (Fm _ _ _ _).mono ?_;rintro r _ ⟨rfl,rfl⟩;rw [hbt];refine b4.o _ _ (fun p hp=>rfl) fun A=>?_;rw [A4];refine nt 11 278 (.bool false) rfl A ?_;refine qq 12 279 11 278 true rfl rfl A ?_;refine qq 13 280 11 278 true rfl rfl A ?_;refine qq 14 281 11 278 true rfl rfl A ?_;refine qq 15 282 11 278 true rfl rfl A ?_;refine qq 16 283 11 278 true rfl rfl A ?_;refine qq 17 284 11 278 true rfl rfl A ?_;refine qq 18 285 11 278 true rfl rfl A ?_;refine qq 19 286 11 278 true rfl rfl A ?_;refine nt 20 287 (.bool false) rfl A ?_;refine wpAnyH_done (by kernel_rfl) ?_ _;clear A;rw [HA.o];clear HA ao ap ck cl az a4;simp only [Act.put,p1q,p4q,p3q];go_wp2_with fail;go_roundw
                      case rel=>exact ⟨j+1,by omega,by go_num,O.o.1,O.o.2 1⟩
                      case measure=>simp [intOf];omega
                    | true=>
                      cases ct with
                      | true=>
                        have O:=ag (X.o (G.o.trans (by rw [hbt];rfl)));clear X L G;go_wp2_with fail;refine wp_region_held_drew (S:=fun W'=>∀p:Addr,p.block<wr.heap.size->W'.cell? p=wr.cell? p) (by kernel_rfl) (fun p hp=>rfl) fun A=>?_;refine zag 21 rfl fun a J=>?_;have ao:a.tmps.size=288:=by rw [J];rfl
                        have ap:∀h,a.tmps[2]'h=.p w.heap.size:=by rw [J];exact fun _=>rfl
                        have ck:∀h,a.tmps[18]'h=.slice (some ⟨b5,o5,none⟩) rf.length c5:=by rw [J];exact fun _=>rfl
                        have cl:∀h,a.tmps[19]'h=.i (j:Int):=by rw [J];exact fun _=>rfl
                        have az:∀h,a.tmps[6]'h=.slice (some ⟨bA,oA,none⟩) F.length cD:=by rw [J];exact fun _=>rfl
                        have a4:∀h,a.tmps[17]'h=.i (k:Int):=by rw [J];exact fun _=>rfl
                        have HA:=ag J;clear J;refine nt 0 267 (.p w.heap.size) rfl A ?_;refine nt 1 268 (.slice (some ⟨bW,oW,none⟩) h.ab.length cW) rfl A ?_;refine nt 2 269 (.slice (some ⟨b5,o5,none⟩) rf.length c5) rfl A ?_;refine nt 3 270 (.i (j:Int)) rfl A ?_;refine nt 4 271 (.pointer (some ⟨b5,o5+j,none⟩)) rfl A ?_;refine nt 5 272 (.i (an:Int)) rfl A ?_;refine nt 6 273 (.pointer (some ⟨bW,oW+an,none⟩)) rfl A ?_;refine nt 7 274 (.i x) rfl A ?_;refine nt 8 275 (.pointer (some ⟨w.heap.size,1,none⟩)) rfl A ?_;refine nt 9 276 (.i h.ae) rfl A ?_;refine wpAnyH_ready (rs:=[10]) (by kernel_rfl) (by simp) ?_;refine AllReadyH.cons rfl (fun fj b4=>?_) AllReadyH.nil;go_simp;refine (Fm _ _ _ _).mono ?_;rintro r _ ⟨rfl,rfl⟩;rw [hbt];refine b4.o _ _ (fun p hp=>rfl) fun A=>?_;rw [A4];refine nt 11 278 (.bool true) rfl A ?_;refine iq 12 279 11 278 true (.pointer (some ⟨w.heap.size,5,none⟩)) rfl rfl A ?_;refine iq 13 280 11 278 true (.slice aO h.am.length cO) rfl rfl A ?_;refine iq 14 281 11 278 true (.slice (some ⟨bA,oA,none⟩) F.length cD) rfl rfl A ?_;refine iq 15 282 11 278 true (.i (k:Int)) rfl rfl A ?_;refine iq 16 283 11 278 true (.pointer (some ⟨bA,oA+k,none⟩)) rfl rfl A ?_;refine iq 17 284 11 278 true (.i (W:Int)) rfl rfl A ?_;refine wpAnyH_ready (rs:=[18]) (by kernel_rfl) (by simp) ?_;refine AllReadyH.cons rfl (fun gv eu=>?_) AllReadyH.nil;go_simp;refine (a0.o _ (br _ _).drew).mono ?_;rintro r _ ⟨rfl,rfl⟩;refine eu.o _ _ (fun p hp=>rfl) fun A=>?_;rw [A4];refine iq 19 286 11 278 true (.bool false) rfl rfl A ?_;refine nt 20 287 (.bool false) rfl A ?_;refine wpAnyH_done (by kernel_rfl) ?_ _;clear A;rw [HA.o];clear HA ao ap ck cl az a4;simp only [Act.put,p1q,p4q,p3q];go_wp2_with fail;go_roundw
                        case rel=>exact ⟨j+1,by omega,by go_num,O.o.1,O.o.2 1⟩
                        case measure=>simp [intOf];omega
                      | false=>
                        have N:=ag (L.o (G.o.trans (by rw [hbt];rfl)));exact absurd N.o.1 (by rw [H0.o];decide)
                   have O:Hid ((F.take (k+1)).any (zf d h)=false/\Bl Z wr):=⟨zns D ah.o.1 (by rw [<-a8.o];exact znu ac E.o.1),(bl.o wr E.o.2).1⟩;clear E ah;go_wp2_with fail;go_roundw
                   case rel=>exact ⟨k+1,by omega,by go_num,O.o.1,O.o.2⟩
                   case measure=>simp [intOf];omega
                 have N:Hid (gi d h=0/\Bl w wr):=⟨a1.o.trans (by
                  unfold iy;rw [if_neg (by rw [H1.o];decide),if_neg (by rw [decide_eq_true H2.o];decide),if_neg (by rw [H3.o];decide),if_neg (by rw [H4.o];decide),if_neg (by rw [H5.o];decide),if_neg (by rw [znu D E.o.1];decide)]),a6.o wr E.o.2⟩
                 clear E;go_wp2_with fail;go_ret;exact ⟨by rw [N.o.1];rfl,N.o.2⟩
          have N:Hid (gi d h=1):=by
           show gi d h=1;rw [d1.o];unfold io at c7;cases e1:b9 d.aj.length d.fields h.ab 1 h.bo with
           | none=>rfl
           | some ys=>
             rw [e1]at c7;cases e2:b9 d.aj.length d.fields h.ab (h.ae+1) h.ba with
             | none=>rfl
             | some F=>rw [e2]at c7;cases c7
          exact absurd N.o (by rw [H0.o];decide)
     have gk:((h.ab.length:Int)==1+h.ae+h.old)=false:=beq_eq_false_iff_ne.2 hw;have N:Hid (gi d h=1):=by show gi d h=1;rw [cv.o];unfold jg;rw [decide_eq_false hw];rfl
     exact absurd N.o (by rw [H0.o];decide)
end Go.Proofs.YtjdnmblggdobgaaGreat
