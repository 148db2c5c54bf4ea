import Derived.Test.YtjdnmblggdobgaaGreatJHqBHvA
import Derived.Test.YtjdnmblggdobgaaGreatJTk2Dies
set_option maxHeartbeats 60000000
set_option maxRecDepth 100000
namespace Go.Proofs.YtjdnmblggdobgaaGreat
open Go.RowKit Go.Maps
theorem zoa (w:World) (B:Nat) (vW vO kC kS kF kN kT:Value) (h:bb) (d:bd) (sW:SL 1 RI (· <B) w vW h.ab) (sO:SL 1 RI (· <B) w vO h.am) (lk:j9 (· <B) w kC kS kF kN kT d) (hB:B<=w.heap.size) (hd:Few d) (g7:h.next<=9223372036854775807):
 Calls Tryz.prog 55 #[.agg #[vW,.int .i64 h.ag,.int .i64 h.old,.int .i64 h.be,.int .i64 h.ar,vO,.int .i64 h.next],.agg #[kC,kS,kF,kN,kT]] w fun r w'=>r=.returned (.int .i64 (ge d h))/\Below w.heap.size w w':=by
 obtain ⟨W0,b4⟩:∃W0,W0=(w.alloc (.cells #[vW,.int .i64 h.ag,.int .i64 h.old,.int .i64 h.be,.int .i64 h.ar,vO,.int .i64 h.next] 24)).alloc (.cells #[kC,kS,kF,kN,kT] 36):=⟨_,rfl⟩;have fk:Rd w.heap.size B W0 vW vO kC kS kF kN kT h d:=b4 ▸ Rd.new w B _ _ _ _ _ _ _ h d hB sW sO lk;have e8:Below w.heap.size w W0:=b4 ▸ ((br _ _).alloc (nlq _) _).alloc (by simp) _;have bx:=ae fk;have a7:=ae e8;have d2:=ae b4;have f0:Hid (W0.heap.size=w.heap.size+2):=by show _=_;rw [b4];simp
 obtain ⟨aC,cC,aS,cS,aF,cF,aN,cN,aT,cT,rfl,rfl,rfl,rfl,rfl⟩:=lk.agg;obtain ⟨aW,cW,rfl,-,gw,-⟩:=sW;obtain ⟨aO,cO,rfl,-,gv,-⟩:=sO;unfold maxLen at gw gv;rw [b4]at a7;clear lk fk e8 b4;have c3:Hid (jd h=(mx h.ag 3 2000&&mx h.old 3 2000)):=rfl;cases hy:mx h.ag 3 2000 with
 | false=>
   have O:Hid (ge d h=3):=by show ge d h=3;unfold ge;rw [c3.o,hy];rfl
   go_enter Tryz.func55,Tryz.ntmps55;go_wp2_with (first | (go_at_call 78;refine (zkv _ _ _ _).mono ?_;rintro r _ ⟨rfl,rfl⟩));go_ret;exact ⟨by rw [O.o];rfl,a7.o⟩
 | true=>
   cases ho:mx h.old 3 2000 with
   | false=>
     have O:Hid (ge d h=3):=by show ge d h=3;unfold ge;rw [c3.o,hy,ho];rfl
     go_enter Tryz.func55,Tryz.ntmps55;go_wp2_with (first | (go_at_call 78;refine (zkv _ _ _ _).mono ?_;rintro r _ ⟨rfl,rfl⟩));go_ret;exact ⟨by rw [O.o];rfl,a7.o⟩
   | true=>
     have hp:jd h=true:=by rw [c3.o,hy,ho];rfl
     have c6:Hid (ge d h=if i2 h then (if ju h then (match cb d.aj.length d.fields h.ab 1 h.be,cb d.aj.length d.fields h.ab (h.ag+1) h.ar with | some ys,some J=>ib d h (ys++J) J | _,_=>1) else 3) else 1):=by show ge d h=_;unfold ge;rw [hp];rfl
     have eu:=hy;have el:=ho;unfold mx at eu el;simp only [Bool.and_eq_true,decide_eq_true_eq]at eu el;obtain ⟨z1,z2⟩:=eu;obtain ⟨z3,z4⟩:=el;have w1:IntKind.i64.wrap (1+h.ag)=1+h.ag:=fy _ (by omega) (by omega);have w2:IntKind.i64.wrap (1+h.ag+h.old)=1+h.ag+h.old:=fy _ (by omega) (by omega);have w3:IntKind.i64.wrap (h.ag+1)=h.ag+1:=fy _ (by omega) (by omega);have w4:IntKind.i64.wrap (h.ag+h.old)=h.ag+h.old:=fy _ (by omega) (by omega);have w5:IntKind.i64.wrap (h.ag+h.old+1)=h.ag+h.old+1:=fy _ (by omega) (by omega);by_cases hw:(h.ab.length:Int)=1+h.ag+h.old
     ·have g2:((h.ab.length:Int)==1+h.ag+h.old)=true:=beq_iff_eq.2 hw;have er:i2 h=true:=by unfold i2;exact decide_eq_true hw
      have cf:Hid (ju h=(mx h.be 1 (h.ag+1)&&mx h.ar (h.ag+1) (h.ag+h.old+1)&&decide (1<=h.next))):=by show ju h=_;unfold ju mx;simp only [Bool.and_assoc]
      have c7:Hid (ju h=false->ge d h=3):=fun e=>by rw [c6.o,er,e];rfl
      have c9:=ae hw;have ee:=ae er;clear hw er;cases ht1:mx h.be 1 (h.ag+1)with
      | false=>
        have O:Hid (ge d h=3):=c7.o (by rw [cf.o,ht1];rfl);go_enter Tryz.func55,Tryz.ntmps55;go_wp2_with (first | (go_at_call 78;refine (zkv _ _ _ _).mono ?_;rintro r _ ⟨rfl,rfl⟩));go_ret;exact ⟨by rw [O.o];rfl,a7.o⟩
      | true=>
        cases ht2:mx h.ar (h.ag+1) (h.ag+h.old+1)with
        | false=>
          have O:Hid (ge d h=3):=c7.o (by rw [cf.o,ht1,ht2];rfl);go_enter Tryz.func55,Tryz.ntmps55;go_wp2_with (first | (go_at_call 78;refine (zkv _ _ _ _).mono ?_;rintro r _ ⟨rfl,rfl⟩));go_ret;exact ⟨by rw [O.o];rfl,a7.o⟩
        | true=>
          by_cases hn:h.next<1
          ·have O:Hid (ge d h=3):=c7.o (by rw [cf.o,ht1,ht2,decide_eq_false (by omega)];rfl);have g0:decide (h.next<1)=true:=by simp [hn]
           go_enter Tryz.func55,Tryz.ntmps55;go_wp2_with (first | (go_at_call 78;refine (zkv _ _ _ _).mono ?_;rintro r _ ⟨rfl,rfl⟩));go_ret;exact ⟨by rw [O.o];rfl,a7.o⟩
          have g0:decide (h.next<1)=false:=by simp;omega
          have eq:ju h=true:=by rw [cf.o,ht1,ht2,decide_eq_true (by omega)];rfl
          have hz:=zkk hd hp ee.o eq;have wn:IntKind.i64.wrap (h.next - 1)=h.next - 1:=fy _ (by omega) (by omega);have ec:=ae (znr W0 B _ _ _ _ _ _ _ h d bx.o.sW bx.o.sO bx.o.lk (by have:=bx.o.le;have:=f0.o;omega) hz (fun f hf=>lt3 (hd.fs f hf) (by omega)));rw [d2.o]at ec;have c4:Hid (ge d h=match cb d.aj.length d.fields h.ab 1 h.be,cb d.aj.length d.fields h.ab (h.ag+1) h.ar with | some ys,some J=>ib d h (ys++J) J | _,_=>1):=by show ge d h=_;rw [c6.o,ee.o,eq];rfl
          have HZ:=ae hz;have HD:=ae hd;obtain ⟨bW,oW,rfl,-,-⟩:=bx.o.sW.atI 0 (by have:=c9.o;omega);have g8:¬h.next<1:=hn;clear hz hd c6 c7 cf c3 eq hp ee hn;go_enter Tryz.func55,Tryz.ntmps55;go_wp2_with (first | (go_at_call 78;refine (zkv _ _ _ _).mono ?_;rintro r _ ⟨rfl,rfl⟩) | (go_at_call 73;refine ec.o.mono ?_));rw [<-d2.o];rintro r w1 ⟨ei,g1⟩;rw [<-d2.o]at a7;have cu:=ae ei;have d3:Hid (Below w.heap.size w w1):=a7.o.trans (ei.mono a7.o.size);clear ei ec;rcases g1 with ⟨ys,J,vy,vo,cs,cp,rfl,en,em⟩ | ⟨co,a,n,c,a',n',c',rfl⟩
          ·have gs:=zhn (by have:=HZ.o.be;omega) cs;have gl:=zhn (by have:=HZ.o.ar;omega) cp;have hg:=HZ.o.be;have he:=HZ.o.ar;have ba:Hid (ge d h=ib d h (ys++J) J):=by show ge d h=_;rw [c4.o,cs,cp]
           have bl:Hid ((ys.map bp.loc).length<=1000000/\(J.map bp.loc).length<=1000000/\ys.length+J.length<=900000):=⟨by rw [List.length_map];omega,by rw [List.length_map];omega,by omega⟩;have e3:Hid (SL 1 RI (· <w1.heap.size) w1 vy (ys.map bp.loc)):=(zfb en bl.o.1).monoI fun k hk=>hk.lt;have eb:Hid (SL 1 RI (· <w1.heap.size) w1 vo (J.map bp.loc)):=(zfb em bl.o.2.1).monoI fun k hk=>hk.lt;have d5:Hid (∀t∈ys++J,lg d t/\0<=t.loc/\t.fin<=h.ab.length):=fun t ht=>by
            have z1:=HZ.o.ag;have z2:=HZ.o.old;have z3:=HZ.o.len;rcases List.mem_append.1 ht with ht | ht
            ·have D:=zkn cs t ht;exact ⟨zkp HD.o D (by omega) (by omega),by have:=D.1;omega,by have:=D.2.1;omega⟩
            have D:=zkn cp t ht;exact ⟨zkp HD.o D (by omega) (by omega),by have:=D.1;omega,by have:=D.2.1;omega⟩
           have e4:=ae (zn5 cs cp);obtain ⟨ay,cy,rfl⟩:=kh en;obtain ⟨aD,cD,rfl⟩:=kh em;have e0:=ae (zjy w1 3 1);have d4:Hid (Below w1.heap.size w1 (w1.alloc (.cells #[] 3))):=(br _ _).alloc (nlq _) _;have ds:=ae (e3.o.keptI (Kp.below d4.o));have ey:Hid ((([]:List Int).length+(ys.map bp.loc).length<=1000000)/\w1.heap.size<=(w1.alloc (.cells #[] 3)).heap.size):=⟨by rw [List.length_nil,Nat.zero_add];exact bl.o.1,by simp⟩;clear en em gs gl cs cp c4;have fe:(ys.map bp.loc).length=ys.length:=List.length_map _;have fa:(J.map bp.loc).length=J.length:=List.length_map _;have ez:=ae fe;have c0:=ae fa;clear fe fa;generalize hyl:ys.map bp.loc=yl at*;generalize hol:J.map bp.loc=ol at*;have e6:=ae hyl;have d8:=ae hol;clear hyl hol;go_wp2_with (at_builtin;refine zis _ rfl _ _ rfl w1.heap.size (.slice (some ⟨w1.heap.size,0,none⟩) 0 0) [] rfl e0.o (· <w1.heap.size) (.slice ay yl.length cy) yl rfl ds.o ey.o.1 ey.o.2 ?_);intro v2 w2 bu du;have da:Below w1.heap.size w1 w2:=d4.o.grown du (by simp) (fun k e=>by cases e;exact nlq _);have dl:=ae (eb.o.keptI (Kp.below da));obtain ⟨a2,c2,rfl⟩:=kh bu;have d6:=ae bu;have cv:=ae da;have fl:=da.size;have d1:Hid (yl.length+ol.length<=1000000):=by have h1:=bl.o.2.2;have h2:=ez.o;have h3:=c0.o;show _<=_;omega
           clear bu du da ds e0;go_wp2_with (at_builtin;refine zis _ rfl _ _ rfl w1.heap.size (.slice a2 yl.length c2) yl rfl d6.o (· <w1.heap.size) (.slice aD ol.length cD) ol rfl dl.o d1.o fl ?_);intro v3 N cr dz;have b3:Below w1.heap.size w1 N:=cv.o.grown dz fl (fun k e=>(d6.o.lt k e).1);obtain ⟨ts,ca⟩:∃ts,ts=ys++J:=⟨_,rfl⟩;have E:(yl++ol)=ts.map bp.loc:=by rw [ca,List.map_append,e6.o,d8.o]
           have bw:N.ownsRow w1.heap.size 3 1 v3 ts.length (b8 (ts.map bp.loc)):=by
            have e:ts.length=(yl++ol).length:=by rw [E,List.length_map]
            rw [<-E,e,List.length_append];exact cr
           obtain ⟨aA,cA,rfl⟩:=kh bw;have b7:(ts.map bp.loc).length<=1000000:=by rw [<-E,List.length_append];exact d1.o
           have HX:Hid (∀V,Below N.heap.size N V->Rd w.heap.size B V (.slice (some ⟨bW,oW,none⟩) h.ab.length cW) (.slice aO h.am.length cO) (.slice aC d.aj.length cC) (.slice aS d.ax.length cS) (.slice aF d.fields.length cF) (.slice aN d.names.length cN) (.slice aT d.aq.length cT) h d/\SL 1 RI (· <N.heap.size) V (.slice aA ts.length cA) (ts.map bp.loc)/\SL 1 RI (· <N.heap.size) V (.slice aD J.length cD) (J.map bp.loc)):=fun V hV=>by
            have fo:=b3.size;have f4:Below W0.heap.size W0 V:=cu.o.trans ((b3.trans (hV.mono fo)).mono cu.o.size);refine ⟨bx.o.below f4,?_,?_⟩
            ·have:=zfb (ns:=ts.map bp.loc) (by rw [List.length_map];exact bw) b7;exact (this.monoI (M':=(· <N.heap.size)) fun k hk=>hk.lt).keptI (Kp.below hV)
            have:=(eb.o.keptI (Kp.below b3)).monoI (M':=(· <N.heap.size)) fun k hk=>ll3 hk fo;rw [d8.o,<-c0.o];exact this.keptI (Kp.below hV)
           have bi:Hid (∀V,Below N.heap.size N V->Below w.heap.size w V):=fun V hV=>d3.o.trans ((b3.trans (hV.mono b3.size)).mono d3.o.size);have c1:Hid (∀t∈J,t∈ts):=fun t ht=>by rw [ca];exact List.mem_append.2 (Or.inr ht)
           have cx:Hid (∀t∈ts,0<=t.loc/\t.fin<=h.ab.length):=fun t ht=>by rw [ca]at ht;exact (d5.o t ht).2
           have bz:Hid (∀t∈ts,∃ln:Nat,t.loc=ln/\∃(a8:ln+2<h.ab.length),lg d t/\t=bj h.ab ln/\h.ab[ln+2]=t.hash):=fun t ht=>by
            rw [ca]at ht;obtain ⟨hf,h1,h2⟩:=d5.o t ht;have h3:=hf.lo;have h4:t.fin=t.loc+3+t.len:=rfl;have h5:=e4.o t ht;have h6:t.loc=(t.loc.toNat:Int):=by omega
            have h7:t.loc.toNat+2<h.ab.length:=by omega
            refine ⟨t.loc.toNat,h6,h7,hf,by rw [<-h6];exact h5,?_⟩;have h8:t.hash=wd h.ab (t.loc+2):=by rw [h5];rfl
            rw [h8,show t.loc+2=((t.loc.toNat+2:Nat):Int) by omega,mw h7]
           rw [<-ca]at ba;have fi:=c0.o;clear cr dz b3 E bw b7 ca dl d6 cv d1 ez d5 e4 e3 eb e6 d4;rw [fi];clear fi c0 d8;have q0:ts.length<=9223372036854775807:=by obtain ⟨a,c,e,-,hm,-⟩:=(HX.o N (br _ _)).2.1;unfold maxLen at hm;rw [List.length_map]at hm;omega
           have hl:J.length<=9223372036854775807:=by obtain ⟨a,c,e,-,hm,-⟩:=(HX.o N (br _ _)).2.2;unfold maxLen at hm;rw [List.length_map]at hm;omega
           go_wp2_with fail;go_loopw [9] (fun i wr=>∃k:Nat,k<=ts.length/\i=.int .i64 k/\Hid ((ts.take k).any (bad1 h)=false/\Below N.heap.size N wr)) (fun i _=>ts.length - (intOf i).toNat)
           case atStart=>exact ⟨0,n0q _,rfl,by simp,br _ _⟩
           case round=>
            rename World=>wr
            obtain ⟨k,hk,rfl,I⟩:=hrel;have ao:N.heap.size<=wr.heap.size:=I.o.2.size;by_cases E:k<ts.length
            ·obtain ⟨D,hA,-⟩:=HX.o wr I.o.2;obtain ⟨ln,ak,a8,ah,a9,bs⟩:=bz.o _ (gm E);have p0:=aw D.b0 0 (x:=.slice (some ⟨bW,oW,none⟩) h.ab.length cW) rfl;have p6:=aw D.b0 6 (x:=.int .i64 h.next) rfl;have lp:=bk D.b0;obtain ⟨bA,oA,rfl,b6,eA⟩:=hA.atI k (by simpa using E);rw [List.getElem_map,ak]at eA;obtain ⟨b',o',e',dg,eW⟩:=D.sW.atI (ln+2) a8;cases e';rw [bs]at eW;have q1:(0:Int)<=k:=by omega
             have q2:(k:Int)<ts.length:=by omega
             have q3:(0:Int)<=(ln:Int)+2:=by omega
             have q4:(ln:Int)+2<h.ab.length:=by omega
             have q5:((ln:Int)+2).toNat=ln+2:=by omega
             have w2:IntKind.i64.wrap ((ln:Int)+2)=(ln:Int)+2:=fy _ (by omega) (by omega);cases hb:mx ts[k].hash 1 (h.next - 1)with
             | true=>
               have Z:Hid ((ts.take (k+1)).any (bad1 h)=false/\∀n,Below N.heap.size N (wr.drewN n)):=⟨zns E I.o.1 (by unfold bad1;rw [hb];rfl),fun n=>ku I.o.2 n⟩;generalize ts[k].hash=hs at*;clear D hA I ah a9 bs ak;go_wp2_with fail;go_quiet ((go_at_call 78;exact Calls.quiet_of_same (zkv _ _ _ _)));go_wp2_with fail;go_roundw
               case rel=>exact ⟨k+1,by omega,by go_num,Z.o.1,Z.o.2 _⟩
               case measure=>simp [intOf];omega
             | false=>
               have O:Hid (ge d h=3/\∀n,Below w.heap.size w (wr.drewN n)):=⟨ba.o.trans (by unfold ib;rw [if_pos (znt E (by unfold bad1;rw [hb];rfl))]),fun n=>ku (bi.o wr I.o.2) n⟩;generalize ts[k].hash=hs at*;clear D hA I ah a9 bs ak;go_wp2_with fail;go_quiet ((go_at_call 78;exact Calls.quiet_of_same (zkv _ _ _ _)));go_wp2_with fail;go_ret;exact ⟨by rw [O.o.1];rfl,O.o.2 _⟩
            have H1:Hid (ts.any (bad1 h)=false):=znu E I.o.1;have cu:=ae I.o.2;clear I;go_wp2_with fail;clear ao hk E;go_loopw [10] (fun i wr=>∃k:Nat,k<=ts.length/\i=.int .i64 k/\Hid (((ts.map bp.hash).take k).Nodup/\Below N.heap.size N wr)) (fun i _=>ts.length - (intOf i).toNat)
            case atStart=>exact ⟨0,n0q _,rfl,by simp,cu.o⟩
            case round=>
             rename World=>wr
             obtain ⟨k,hk,rfl,I⟩:=hrel;have ao:N.heap.size<=wr.heap.size:=I.o.2.size;by_cases E:k<ts.length
             ·have af:=ae I.o;clear I;go_wp2_with fail;go_loopw [11] (fun i wr=>∃j:Nat,j<=k/\i=.int .i64 j/\Hid (ts[k].hash∉((ts.map bp.hash).take j)/\Below N.heap.size N wr)) (fun i _=>k - (intOf i).toNat)
              case atStart=>exact ⟨0,n0q _,rfl,by simp,af.o.2⟩
              case round=>
               rename World=>wr
               obtain ⟨j,hj,rfl,I⟩:=hrel;by_cases gb:j<k
               ·obtain ⟨D,hA,-⟩:=HX.o wr I.o.2;have ai:j<ts.length:=by omega
                obtain ⟨ln,ak,a8,-,-,bs⟩:=bz.o _ (gm E);obtain ⟨lm,ej,gt,-,-,ek⟩:=bz.o _ (gm ai);have p0:=aw D.b0 0 (x:=.slice (some ⟨bW,oW,none⟩) h.ab.length cW) rfl;have lp:=bk D.b0;obtain ⟨bA,oA,rfl,b6,eA⟩:=hA.atI k (by simpa using E);obtain ⟨f3,g4,eg,-,eB⟩:=hA.atI j (by simpa using ai);cases eg;rw [List.getElem_map,ak]at eA;rw [List.getElem_map,ej]at eB;obtain ⟨b',o',e',dg,eW⟩:=D.sW.atI (ln+2) a8;cases e';rw [bs]at eW;obtain ⟨b',o',e',-,eV⟩:=D.sW.atI (lm+2) gt;cases e';rw [ek]at eV;have q1:(0:Int)<=k:=by omega
                have q2:(k:Int)<ts.length:=by omega
                have r1:(0:Int)<=j:=by omega
                have r2:(j:Int)<ts.length:=by omega
                have r6:(j:Int)<k:=by omega
                have q3:(0:Int)<=(ln:Int)+2:=by omega
                have q4:(ln:Int)+2<h.ab.length:=by omega
                have q5:((ln:Int)+2).toNat=ln+2:=by omega
                have w2:IntKind.i64.wrap ((ln:Int)+2)=(ln:Int)+2:=fy _ (by omega) (by omega);have r3:(0:Int)<=(lm:Int)+2:=by omega
                have r4:(lm:Int)+2<h.ab.length:=by omega
                have r5:((lm:Int)+2).toNat=lm+2:=by omega
                have w3:IntKind.i64.wrap ((lm:Int)+2)=(lm:Int)+2:=fy _ (by omega) (by omega);by_cases hh:ts[k].hash=ts[j].hash
                ·have O:Hid (ge d h=6/\∀n,Below w.heap.size w (wr.drewN n)):=⟨ba.o.trans (by
                  unfold ib;have:¬(ts.map bp.hash).Nodup:=zny (l:=ts.map bp.hash) (k:=k) (j:=j) (by simpa using E) gb (by simpa using hh.symm);rw [if_neg (by rw [H1.o];decide),if_pos (by rw [decide_eq_false this];rfl)]),fun n=>ku (bi.o wr I.o.2) n⟩
                 have f8:(ts[k].hash==ts[j].hash)=true:=beq_iff_eq.2 hh;generalize ts[k].hash=x at*;generalize ts[j].hash=y at*;clear D hA I bs ek ak ej af hh;go_wp2_with fail;go_quiet (fail);go_wp2_with fail;go_ret;exact ⟨by rw [O.o.1];rfl,O.o.2 _⟩
                have f8:(ts[k].hash==ts[j].hash)=false:=beq_eq_false_iff_ne.2 hh;have Z:Hid (ts[k].hash∉((ts.map bp.hash).take (j+1))/\∀n,Below N.heap.size N (wr.drewN n)):=⟨by
                 rw [List.take_succ_eq_append_getElem (by simpa using ai),List.mem_append];rintro (hm | hm)
                 ·exact I.o.1 hm
                 simp at hm;exact hh hm,fun n=>ku I.o.2 n⟩
                generalize ts[k].hash=x at*;generalize ts[j].hash=y at*;clear D hA I bs ek ak ej af;go_wp2_with fail;go_quiet (fail);go_wp2_with fail;go_roundw
                case rel=>exact ⟨j+1,by omega,by go_num,Z.o.1,Z.o.2 _⟩
                case measure=>simp [intOf];omega
               have f9:j=k:=by omega
               have Z:Hid (((ts.map bp.hash).take (k+1)).Nodup/\Below N.heap.size N wr):=⟨znx (by simpa using E) af.o.1 (by rw [List.getElem_map];have:=I.o.1;rw [f9]at this;exact this),I.o.2⟩;clear I af;go_wp2_with fail;go_roundw
               case rel=>exact ⟨k+1,by omega,by go_num,Z.o.1,Z.o.2⟩
               case measure=>simp [intOf];omega
             have H2:Hid ((ts.map bp.hash).Nodup):=by have:=I.o.1;rwa [List.take_of_length_le (by rw [List.length_map];omega)]at this
             have cv:=ae I.o.2;clear I;go_wp2_with fail;clear ao hk E;go_loopw [12] (fun i wr=>∃k:Nat,k<=ts.length/\i=.int .i64 k/\Hid ((ts.take k).any (bad3 d h ts)=false/\Below N.heap.size N wr)) (fun i _=>ts.length - (intOf i).toNat)
             case atStart=>exact ⟨0,n0q _,rfl,by simp,cv.o⟩
             case round=>
              rename World=>wr
              obtain ⟨k,hk,rfl,I⟩:=hrel;have ao:N.heap.size<=wr.heap.size:=I.o.2.size;by_cases E:k<ts.length
              ·obtain ⟨D,hA,-⟩:=HX.o wr I.o.2;obtain ⟨ln,ak,a8,ah,a9,-⟩:=bz.o _ (gm E);have p0:=aw D.b0 0 (x:=.slice (some ⟨bW,oW,none⟩) h.ab.length cW) rfl;have p1:=aw D.b0 1 (x:=.int .i64 h.ag) rfl;have p2:=aw D.b0 2 (x:=.int .i64 h.old) rfl;have p3:=aw D.b0 3 (x:=.int .i64 h.be) rfl;have p4:=aw D.b0 4 (x:=.int .i64 h.ar) rfl;have p5:=aw D.b0 5 (x:=.slice aO h.am.length cO) rfl;have p6:=aw D.b0 6 (x:=.int .i64 h.next) rfl;have lp:=bk D.b0;have y0:=aw D.b1 0 (x:=.slice aC d.aj.length cC) rfl;have y1:=aw D.b1 1 (x:=.slice aS d.ax.length cS) rfl;have y2:=aw D.b1 2 (x:=.slice aF d.fields.length cF) rfl;have y3:=aw D.b1 3 (x:=.slice aN d.names.length cN) rfl;have y4:=aw D.b1 4 (x:=.slice aT d.aq.length cT) rfl;have ly:=bk D.b1;obtain ⟨bA,oA,rfl,b6,eA⟩:=hA.atI k (by simpa using E);rw [List.getElem_map,ak]at eA;have q1:(0:Int)<=k:=by omega
               have q2:(k:Int)<ts.length:=by omega
               have az:Hid (∀V,Below wr.heap.size wr V->Calls Tryz.prog 87 #[.agg #[.slice (some ⟨bW,oW,none⟩) h.ab.length cW,.int .i64 h.ag,.int .i64 h.old,.int .i64 h.be,.int .i64 h.ar,.slice aO h.am.length cO,.int .i64 h.next],.agg #[.slice aC d.aj.length cC,.slice aS d.ax.length cS,.slice aF d.fields.length cF,.slice aN d.names.length cN,.slice aT d.aq.length cT],.int .i64 (ln:Int)] V fun r w'=>Below V.heap.size V w'/\∃v,r=.returned v/\w'.ownsRow V.heap.size 3 1 v (refsOf d.fields ts[k]).length (b8 (refsOf d.fields ts[k]))):=fun V hV=>by have ac:=D.below hV;rw [a9]at ah ⊢;exact znq V B _ _ _ _ _ _ _ h d ac.sW ac.sO ac.lk (by have:=ac.le;have:=bk ac.b0;omega) ln a8 (by have:=c9.o;omega) ah
               have ea:Hid (∀a∈refsOf d.fields ts[k],∃an:Nat,a=an/\an<h.ab.length):=fun a F=>by have:=zh2 d.fields ts[k] F;have h2:=(cx.o _ (gm E)).1;have h3:=(cx.o _ (gm E)).2;have h4:ts[k].fin=ts[k].loc+3+ts[k].len:=rfl;exact ⟨a.toNat,by omega,by omega⟩
               have cc:Hid ((refsOf d.fields ts[k]).length<=1000000):=by have:=zhr d.fields ts[k] ts[k].len.toNat;have h3:=ah.hi;have:(refsOf d.fields ts[k]).length<=ts[k].len.toNat:=this;show _<=_;omega
               have af:=ae I.o;have bm:Hid ((refsOf d.fields ts[k]).any (bad3a h ts)=bad3 d h ts ts[k]):=rfl;generalize refsOf d.fields ts[k]=rf at*;clear D hA I ah a9;go_wp2_with fail;refine wp_region_held_drew (S:=fun W'=>∀p:Addr,p.block<wr.heap.size->W'.cell? p=wr.cell? p) (by kernel_rfl) (fun p hp=>rfl) fun A=>?_;refine zag 8 rfl fun a F=>?_;have X:a.tmps.size=288:=by rw [F];rfl
               have Y:∀h,a.tmps[2]'h=.pointer (some ⟨w.heap.size,0,none⟩):=by rw [F];exact fun _=>rfl
               have a0:∀h,a.tmps[3]'h=.pointer (some ⟨w.heap.size+1,0,none⟩):=by rw [F];exact fun _=>rfl
               have g5:∀h,a.tmps[8]'h=.slice (some ⟨bA,oA,none⟩) ts.length cA:=by rw [F];exact fun _=>rfl
               have fr:∀h,a.tmps[12]'h=.int .i64 (k:Int):=by rw [F];exact fun _=>rfl
               have HA:=ae F;clear F;refine iy 0 137 (.agg #[.slice (some ⟨bW,oW,none⟩) h.ab.length cW,.int .i64 h.ag,.int .i64 h.old,.int .i64 h.be,.int .i64 h.ar,.slice aO h.am.length cO,.int .i64 h.next]) rfl A ?_;refine iy 1 138 (.agg #[.slice aC d.aj.length cC,.slice aS d.ax.length cS,.slice aF d.fields.length cF,.slice aN d.names.length cN,.slice aT d.aq.length cT]) rfl A ?_;refine iy 2 139 (.slice (some ⟨bA,oA,none⟩) ts.length cA) rfl A ?_;refine iy 3 140 (.int .i64 (k:Int)) rfl A ?_;refine iy 4 141 (.pointer (some ⟨bA,oA+k,none⟩)) rfl A ?_;refine iy 5 142 (.int .i64 (ln:Int)) rfl A ?_;refine wpAnyH_ready (rs:=[6]) (by kernel_rfl) (by simp) ?_;refine AllReadyH.cons rfl (fun K6 eh=>?_) AllReadyH.nil;go_simp;refine (az.o _ (br _ _).drew).mono ?_;rintro r w5 ⟨a4,v5,rfl,al⟩;have aa:Below wr.heap.size wr w5:=(br wr.heap.size wr).drew.trans a4;refine eh.o _ _ (fun p hp=>aa.cell hp) fun A=>?_;rw [zab];refine iy 7 13 (v5) rfl A ?_;refine wpAnyH_done (by kernel_rfl) ?_ _;clear A;rw [HA.o];clear HA X Y a0 g5 fr;simp only [Act.put,p1q,p4q,p3q];have b2:Hid (∀V,Below w5.heap.size w5 V->Below N.heap.size N V/\SL 1 RI (· <w5.heap.size) V v5 rf):=fun V hV=>by have eo:=aa.size;refine ⟨af.o.2.trans ((aa.trans (hV.mono eo)).mono ao),?_⟩;exact ((zfb al cc.o).monoI (M':=(· <w5.heap.size)) fun k hk=>hk.lt).keptI (Kp.below hV)
               obtain ⟨a5,c5,rfl⟩:=kh al;have q9:rf.length<=1000000:=cc.o;have ex:Hid (Below N.heap.size N w5):=(b2.o w5 (br _ _)).1;clear a4 aa al p0 p1 p2 p3 p4 p5 p6 y0 y1 y2 y3 y4 lp ly eA b6 az;go_wp2_with fail;go_loopw [14] (fun i wr=>∃j:Nat,j<=rf.length/\i=.int .i64 j/\Hid ((rf.take j).any (bad3a h ts)=false/\Below w5.heap.size w5 wr)) (fun i _=>rf.length - (intOf i).toNat)
               case atStart=>exact ⟨0,n0q _,rfl,by simp,br _ _⟩
               case round=>
                rename World=>wr
                obtain ⟨j,hj,rfl,I⟩:=hrel;by_cases ai:j<rf.length
                ·obtain ⟨bn,cl⟩:=b2.o wr I.o.2;obtain ⟨D,hA,-⟩:=HX.o wr bn;obtain ⟨an,bo,cm⟩:=ea.o _ (gm ai);have p0:=aw D.b0 0 (x:=.slice (some ⟨bW,oW,none⟩) h.ab.length cW) rfl;have lp:=bk D.b0;obtain ⟨b5,o5,rfl,a4,e5⟩:=cl.atI j ai;rw [bo]at e5;obtain ⟨b',o',e',dg,eW⟩:=D.sW.atI an cm;cases e';have r1:(0:Int)<=j:=by omega
                 have r2:(j:Int)<rf.length:=by omega
                 have q3:(0:Int)<=(an:Int):=by omega
                 have q4:(an:Int)<h.ab.length:=by omega
                 have av:Hid (∀V n,V=wr.drewN n->Calls Tryz.prog 74 #[.slice (some ⟨bA,oA,none⟩) ts.length cA,.int .i64 h.ab[an]] V fun r w'=>r=.returned (.bool ((ts.map bp.loc).contains h.ab[an]))/\w'=V):=fun V n e=>by have hv:=hA.keptI (Kp.below (ku (br N.heap.size wr) n));subst e;simpa using zkz _ _ _ _ hv h.ab[an]
                 have G:Hid (bad3a h ts rf[j]=(h.ab[an] != 0&& !(ts.map bp.loc).contains h.ab[an])):=by show bad3a h ts rf[j]=_;unfold bad3a;rw [bo,mw cm]
                 have W:Hid (bad3a h ts rf[j]=false->(rf.take (j+1)).any (bad3a h ts)=false/\∀n,Below w5.heap.size w5 (wr.drewN n)):=fun hb=>⟨zns ai I.o.1 hb,fun n=>ku I.o.2 n⟩;have L:Hid (bad3a h ts rf[j]=true->ge d h=5/\∀n,Below w.heap.size w (wr.drewN n)):=fun hb=>⟨ba.o.trans (by
                  unfold ib;rw [if_neg (by rw [H1.o];decide),if_neg (by rw [decide_eq_true H2.o];decide),if_pos (znt E (by rw [<-bm.o];exact znt ai hb))]),fun n=>ku (bi.o wr bn) n⟩
                 generalize rf[j]=a at*;generalize h.ab[an]=x at*;generalize (ts.map bp.loc).contains x=ct at*;clear D hA cl bn I bo af bm;by_cases hx:x=0
                 ·subst hx;have Z:=ae (W.o (G.o.trans (by simp)));clear W L G av;go_wp2_with fail;go_quiet (fail);go_wp2_with fail;go_roundw
                  case rel=>exact ⟨j+1,by omega,by go_num,Z.o.1,Z.o.2 _⟩
                  case measure=>simp [intOf];omega
                 have es:(x==0)=false:=beq_eq_false_iff_ne.2 hx;cases ct with
                 | true=>
                   have Z:=ae (W.o (G.o.trans (by simp)));clear W L G;go_wp2_with fail;go_quiet ((go_at_call 74;exact Calls.quiet_of_same (av.o _ _ rfl)));go_wp2_with fail;go_roundw
                   case rel=>exact ⟨j+1,by omega,by go_num,Z.o.1,Z.o.2 _⟩
                   case measure=>simp [intOf];omega
                 | false=>
                   have O:=ae (L.o (G.o.trans (by simp [bne,es])));clear W L G;go_wp2_with fail;go_quiet ((go_at_call 74;exact Calls.quiet_of_same (av.o _ _ rfl)));go_wp2_with fail;go_ret;exact ⟨by rw [O.o.1];rfl,O.o.2 _⟩
                have Z:Hid ((ts.take (k+1)).any (bad3 d h ts)=false/\Below N.heap.size N wr):=⟨zns E af.o.1 (by rw [<-bm.o];exact znu ai I.o.1),(b2.o wr I.o.2).1⟩;clear I af;go_wp2_with fail;go_roundw
                case rel=>exact ⟨k+1,by omega,by go_num,Z.o.1,Z.o.2⟩
                case measure=>simp [intOf];omega
              have H3:Hid (ts.any (bad3 d h ts)=false):=znu E I.o.1;have ft:=ae I.o.2;clear I;go_wp2_with fail;clear ao hk E;go_loopw [15] (fun i wr=>∃k:Nat,k<=h.ab.length/\i=.int .i64 k/\Hid ((∀j,j<k->bad4 h j=false)/\Below N.heap.size N wr)) (fun i _=>h.ab.length - (intOf i).toNat)
              case atStart=>exact ⟨0,n0q _,rfl,(fun j hj=>by omega),ft.o⟩
              case round=>
               rename World=>wr
               obtain ⟨k,hk,rfl,I⟩:=hrel;have ao:N.heap.size<=wr.heap.size:=I.o.2.size;obtain ⟨D,-,-⟩:=HX.o wr I.o.2;have p0:=aw D.b0 0 (x:=.slice (some ⟨bW,oW,none⟩) h.ab.length cW) rfl;have p1:=aw D.b0 1 (x:=.int .i64 h.ag) rfl;have p3:=aw D.b0 3 (x:=.int .i64 h.be) rfl;have p4:=aw D.b0 4 (x:=.int .i64 h.ar) rfl;have lp:=bk D.b0;by_cases E:k<h.ab.length
               ·obtain ⟨b',o',e',dg,eW⟩:=D.sW.atI k E;cases e';have q1:(0:Int)<=k:=by omega
                have q2:(k:Int)<h.ab.length:=by omega
                have G:Hid (bad4 h k=(h.ab[k] != 0&&(k==0||mx k h.be h.ag||decide (h.ar<=k)))):=by show bad4 h k=_;unfold bad4;rw [mw E]
                have W:Hid (bad4 h k=false->(∀j,j<k+1->bad4 h j=false)/\Below N.heap.size N wr):=fun hb=>⟨fun j hj=>by
                 by_cases e:j=k
                 ·rw [e];exact hb
                 exact I.o.1 j (by omega),I.o.2⟩
                have L:Hid (bad4 h k=true->ge d h=1/\Below w.heap.size w wr):=fun hb=>⟨ba.o.trans (by
                 unfold ib;rw [if_neg (by rw [H1.o];decide),if_neg (by rw [decide_eq_true H2.o];decide),if_neg (by rw [H3.o];decide),if_pos (znv E hb)]),bi.o wr I.o.2⟩
                generalize h.ab[k]=x at*;clear D I;have dk:((k:Int)==0)=(k==0):=by cases k<;>simp;omega
                by_cases hx:x=0
                ·subst hx;have Z:=ae (W.o (G.o.trans (by simp)));clear W L G;go_wp2_with (first | (go_at_call 78;refine (zkv _ _ _ _).mono ?_;rintro r _ ⟨rfl,rfl⟩));go_roundw
                 case rel=>exact ⟨k+1,by omega,by go_num,Z.o.1,Z.o.2⟩
                 case measure=>simp [intOf];omega
                have es:(x==0)=false:=beq_eq_false_iff_ne.2 hx;have g3:(x != 0)=true:=by simp [bne,es]
                rw [g3,Bool.true_and]at G;by_cases cn:(k:Int)=0
                ·have a1:(k==0)=true:=by simp;omega
                 have gg:((k:Int)==0)=true:=beq_iff_eq.2 cn;have O:=ae (L.o (G.o.trans (by rw [a1];rfl)));clear W L G cn a1 dk;go_wp2_with (first | (go_at_call 78;refine (zkv _ _ _ _).mono ?_;rintro r _ ⟨rfl,rfl⟩));go_ret;exact ⟨by rw [O.o.1];rfl,O.o.2⟩
                have a1:(k==0)=false:=by simp;omega
                have gg:((k:Int)==0)=false:=beq_eq_false_iff_ne.2 cn;rw [a1,Bool.false_or]at G;cases hbt:mx k h.be h.ag with
                | true=>
                  have O:=ae (L.o (G.o.trans (by rw [hbt];rfl)));clear W L G a1 dk;go_wp2_with (first | (go_at_call 78;refine (zkv _ _ _ _).mono ?_;rintro r _ ⟨rfl,rfl⟩));go_ret;exact ⟨by rw [O.o.1];rfl,O.o.2⟩
                | false=>
                  by_cases fj:h.ar<=k
                  ·have O:=ae (L.o (G.o.trans (by rw [hbt];simp [fj])));clear W L G a1 dk;go_wp2_with (first | (go_at_call 78;refine (zkv _ _ _ _).mono ?_;rintro r _ ⟨rfl,rfl⟩));go_ret;exact ⟨by rw [O.o.1];rfl,O.o.2⟩
                  have Z:=ae (W.o (G.o.trans (by rw [hbt];simp [fj]<;>omega)));clear W L G a1 dk;go_wp2_with (first | (go_at_call 78;refine (zkv _ _ _ _).mono ?_;rintro r _ ⟨rfl,rfl⟩));go_roundw
                  case rel=>exact ⟨k+1,by omega,by go_num,Z.o.1,Z.o.2⟩
                  case measure=>simp [intOf];omega
               have H4:Hid ((List.range h.ab.length).any (bad4 h)=false):=znw fun j hj=>I.o.1 j (by omega);have fz:=ae I.o.2;clear I D;go_wp2_with fail;clear ao hk E p0 p1 p3 p4 lp;go_loopw [16] (fun i wr=>∃k:Nat,k<=h.am.length/\i=.int .i64 k/\Hid ((∀j,j<k->bad5 d h J j=false)/\Below N.heap.size N wr)) (fun i _=>h.am.length - (intOf i).toNat)
               case atStart=>exact ⟨0,n0q _,rfl,(fun j hj=>by omega),fz.o⟩
               case round=>
                rename World=>wr
                obtain ⟨k,hk,rfl,I⟩:=hrel;have ao:N.heap.size<=wr.heap.size:=I.o.2.size;obtain ⟨D,-,hD⟩:=HX.o wr I.o.2;have p0:=aw D.b0 0 (x:=.slice (some ⟨bW,oW,none⟩) h.ab.length cW) rfl;have p1:=aw D.b0 1 (x:=.int .i64 h.ag) rfl;have p2:=aw D.b0 2 (x:=.int .i64 h.old) rfl;have p3:=aw D.b0 3 (x:=.int .i64 h.be) rfl;have p4:=aw D.b0 4 (x:=.int .i64 h.ar) rfl;have p5:=aw D.b0 5 (x:=.slice aO h.am.length cO) rfl;have p6:=aw D.b0 6 (x:=.int .i64 h.next) rfl;have lp:=bk D.b0;have y0:=aw D.b1 0 (x:=.slice aC d.aj.length cC) rfl;have y1:=aw D.b1 1 (x:=.slice aS d.ax.length cS) rfl;have y2:=aw D.b1 2 (x:=.slice aF d.fields.length cF) rfl;have y3:=aw D.b1 3 (x:=.slice aN d.names.length cN) rfl;have y4:=aw D.b1 4 (x:=.slice aT d.aq.length cT) rfl;have ly:=bk D.b1;by_cases E:k<h.am.length
                ·obtain ⟨bN,oN,rfl,g6,eN⟩:=D.sO.atI k E;have q1:(0:Int)<=k:=by omega
                 have q2:(k:Int)<h.am.length:=by omega
                 have av:Hid (∀V,Below wr.heap.size wr V->Calls Tryz.prog 74 #[.slice aD J.length cD,.int .i64 h.am[k]] V fun r w'=>r=.returned (.bool ((J.map bp.loc).contains h.am[k]))/\w'=V):=fun V hV=>by have hv:=hD.keptI (Kp.below (hV.mono ao));simpa using zkz _ _ _ _ hv h.am[k]
                 have az:Hid ((J.map bp.loc).contains h.am[k]=true->∀V,Below wr.heap.size wr V->Calls Tryz.prog 87 #[.agg #[.slice (some ⟨bW,oW,none⟩) h.ab.length cW,.int .i64 h.ag,.int .i64 h.old,.int .i64 h.be,.int .i64 h.ar,.slice (some ⟨bN,oN,none⟩) h.am.length cO,.int .i64 h.next],.agg #[.slice aC d.aj.length cC,.slice aS d.ax.length cS,.slice aF d.fields.length cF,.slice aN d.names.length cN,.slice aT d.aq.length cT],.int .i64 h.am[k]] V fun r w'=>Below V.heap.size V w'/\∃a c,r=.returned (.slice a (refsOf d.fields (bj h.ab h.am[k])).length c)):=fun f5 V hV=>by obtain ⟨t,ht,e⟩:=List.mem_map.1 (List.contains_iff_mem.1 f5);obtain ⟨ln,ak,a8,ah,a9,-⟩:=bz.o t (c1.o t ht);have ac:=D.below hV;rw [<-e,ak];rw [a9]at ah;refine (znq V B _ _ _ _ _ _ _ h d ac.sW ac.sO ac.lk (by have:=ac.le;have:=bk ac.b0;omega) ln a8 (by have:=c9.o;omega) ah).mono ?_;rintro r w' ⟨hb,v,rfl,ho⟩;obtain ⟨a,c,rfl⟩:=kh ho;exact ⟨hb,a,c,rfl⟩
                 have G:Hid (bad5 d h J k=(decide (0<k/\wd h.am k<=wd h.am ((k:Int) - 1))|| !(J.map bp.loc).contains h.am[k]||(refsOf d.fields (bj h.ab h.am[k])).isEmpty)):=by show bad5 d h J k=_;unfold bad5;rw [mw E]
                 have W:Hid (bad5 d h J k=false->(∀j,j<k+1->bad5 d h J j=false)/\∀V,Below wr.heap.size wr V->Below N.heap.size N V):=fun hb=>⟨fun j hj=>by
                  by_cases e:j=k
                  ·rw [e];exact hb
                  exact I.o.1 j (by omega),fun V hV=>I.o.2.trans (hV.mono ao)⟩
                 have L:Hid (bad5 d h J k=true->ge d h=4/\∀V,Below wr.heap.size wr V->Below w.heap.size w V):=fun hb=>⟨ba.o.trans (by
                  unfold ib;rw [if_neg (by rw [H1.o];decide),if_neg (by rw [decide_eq_true H2.o];decide),if_neg (by rw [H3.o];decide),if_neg (by rw [H4.o];decide),if_pos (znv E hb)]),fun V hV=>bi.o V (I.o.2.trans (hV.mono ao))⟩
                 have e9:(refsOf d.fields (bj h.ab h.am[k])).isEmpty=decide (((refsOf d.fields (bj h.ab h.am[k])).length:Int)=0):=by cases refsOf d.fields (bj h.ab h.am[k])<;>simp;omega
                 rw [e9]at G;clear e9;generalize (refsOf d.fields (bj h.ab h.am[k])).length=rl at*;have ch:Hid (wd h.am k=h.am[k]):=mw E;generalize (J.map bp.loc).contains h.am[k]=ct at*;by_cases cn:0<(k:Int)
                 ·obtain ⟨k1,a1⟩:∃k1:Nat,(k:Int) - 1=k1:=⟨k - 1,by omega⟩;have d0:k1<h.am.length:=by omega
                  obtain ⟨b',o',e',-,eM⟩:=D.sO.atI k1 d0;cases e';have c8:Hid (wd h.am ((k:Int) - 1)=h.am[k1]):=by show _=_;rw [a1];exact mw d0
                  have wk:IntKind.i64.wrap ((k:Int) - 1)=(k1:Int):=by rw [a1];exact fy _ (by omega) (by omega)
                  have q3:(0:Int)<=k1:=by omega
                  have q4:(k1:Int)<h.am.length:=by omega
                  have f6:decide (0<(k:Int))=true:=by simp;omega
                  by_cases b7:h.am[k]<=h.am[k1]
                  ·have f7:decide (h.am[k]<=h.am[k1])=true:=by simp [b7]
                   have O:=ae (L.o (G.o.trans (by rw [ch.o,c8.o,decide_eq_true ⟨by omega,b7⟩];rfl)));generalize h.am[k]=n0 at*;generalize h.am[k1]=n1 at*;clear D hD I W L G az av ch c8 a1;go_wp2_with fail;refine wp_region_held_drew (S:=fun W'=>∀p:Addr,p.block<wr.heap.size->W'.cell? p=wr.cell? p) (by kernel_rfl) (fun p hp=>rfl) fun A=>?_;refine zag 38 rfl fun a F=>?_;have X:a.tmps.size=288:=by rw [F];rfl
                   have Y:∀h,a.tmps[2]'h=.pointer (some ⟨w.heap.size,0,none⟩):=by rw [F];exact fun _=>rfl
                   have a0:∀h,a.tmps[3]'h=.pointer (some ⟨w.heap.size+1,0,none⟩):=by rw [F];exact fun _=>rfl
                   have ad:∀h,a.tmps[6]'h=.slice aD J.length cD:=by rw [F];exact fun _=>rfl
                   have au:∀h,a.tmps[16]'h=.int .i64 (k:Int):=by rw [F];exact fun _=>rfl
                   have HA:=ae F;clear F;refine iy 0 210 (.int .i64 (k:Int)) rfl A ?_;refine tk 1 211 (.bool true) rfl (by kernel_rfl) (fun _ _ _ h=>h) ?_ A ?_
                   ·intro w dd;go_simp;omega
                   refine iy 2 212 (.bool true) rfl A ?_;refine dj 3 213 2 212 true (.pointer (some ⟨w.heap.size,5,none⟩)) rfl rfl A ?_;refine dj 4 214 2 212 true (.slice (some ⟨bN,oN,none⟩) h.am.length cO) rfl rfl A ?_;refine dj 5 215 2 212 true (.int .i64 (k:Int)) rfl rfl A ?_;refine dj 6 216 2 212 true (.pointer (some ⟨bN,oN+k,none⟩)) rfl rfl A ?_;refine dj 7 217 2 212 true (.int .i64 n0) rfl rfl A ?_;refine dj 8 218 2 212 true (.pointer (some ⟨w.heap.size,5,none⟩)) rfl rfl A ?_;refine dj 9 219 2 212 true (.slice (some ⟨bN,oN,none⟩) h.am.length cO) rfl rfl A ?_;refine dj 10 220 2 212 true (.int .i64 (k:Int)) rfl rfl A ?_;refine dj 11 221 2 212 true (.int .i64 (k1:Int)) rfl rfl A ?_;refine dj 12 222 2 212 true (.pointer (some ⟨bN,oN+k1,none⟩)) rfl rfl A ?_;refine dj 13 223 2 212 true (.int .i64 n1) rfl rfl A ?_;refine dj 14 224 2 212 true (.bool true) rfl rfl A ?_;refine iy 15 225 (.bool true) rfl A ?_;refine iy 16 226 (.bool true) rfl A ?_;refine fg 17 227 16 226 false rfl rfl A ?_;refine fg 18 228 16 226 false rfl rfl A ?_;refine fg 19 229 16 226 false rfl rfl A ?_;refine fg 20 230 16 226 false rfl rfl A ?_;refine fg 21 231 16 226 false rfl rfl A ?_;refine fg 22 232 16 226 false rfl rfl A ?_;refine fg 23 233 16 226 false rfl rfl A ?_;refine fg 24 234 16 226 false rfl rfl A ?_;refine iy 25 235 (.bool true) rfl A ?_;refine iy 26 236 (.bool true) rfl A ?_;refine fg 27 237 26 236 false rfl rfl A ?_;refine fg 28 238 26 236 false rfl rfl A ?_;refine fg 29 239 26 236 false rfl rfl A ?_;refine fg 30 240 26 236 false rfl rfl A ?_;refine fg 31 241 26 236 false rfl rfl A ?_;refine fg 32 242 26 236 false rfl rfl A ?_;refine fg 33 243 26 236 false rfl rfl A ?_;refine fg 34 244 26 236 false rfl rfl A ?_;refine fg 35 245 26 236 false rfl rfl A ?_;refine fg 36 246 26 236 false rfl rfl A ?_;refine iy 37 247 (.bool true) rfl A ?_;refine wpAnyH_done (by kernel_rfl) ?_ _;clear A;rw [HA.o];clear HA X Y a0 ad au;simp only [Act.put,p1q,p4q,p3q];go_wp2_with fail;go_ret;exact ⟨by rw [O.o.1];rfl,O.o.2 _ (br _ _).drew⟩
                  have f7:decide (h.am[k]<=h.am[k1])=false:=by simp;omega
                  rw [ch.o,c8.o,decide_eq_false (fun hh=>b7 hh.2),Bool.false_or]at G;generalize h.am[k]=n0 at*;generalize h.am[k1]=n1 at*;clear D hD I ch c8 a1;cases ct with
                  | false=>
                    have O:=ae (L.o (G.o.trans (by simp)));clear W L G az;go_wp2_with fail;refine wp_region_held_drew (S:=fun W'=>∀p:Addr,p.block<wr.heap.size->W'.cell? p=wr.cell? p) (by kernel_rfl) (fun p hp=>rfl) fun A=>?_;refine zag 38 rfl fun a F=>?_;have X:a.tmps.size=288:=by rw [F];rfl
                    have Y:∀h,a.tmps[2]'h=.pointer (some ⟨w.heap.size,0,none⟩):=by rw [F];exact fun _=>rfl
                    have a0:∀h,a.tmps[3]'h=.pointer (some ⟨w.heap.size+1,0,none⟩):=by rw [F];exact fun _=>rfl
                    have ad:∀h,a.tmps[6]'h=.slice aD J.length cD:=by rw [F];exact fun _=>rfl
                    have au:∀h,a.tmps[16]'h=.int .i64 (k:Int):=by rw [F];exact fun _=>rfl
                    have HA:=ae F;clear F;refine iy 0 210 (.int .i64 (k:Int)) rfl A ?_;refine tk 1 211 (.bool true) rfl (by kernel_rfl) (fun _ _ _ h=>h) ?_ A ?_
                    ·intro w dd;go_simp;omega
                    refine iy 2 212 (.bool true) rfl A ?_;refine dj 3 213 2 212 true (.pointer (some ⟨w.heap.size,5,none⟩)) rfl rfl A ?_;refine dj 4 214 2 212 true (.slice (some ⟨bN,oN,none⟩) h.am.length cO) rfl rfl A ?_;refine dj 5 215 2 212 true (.int .i64 (k:Int)) rfl rfl A ?_;refine dj 6 216 2 212 true (.pointer (some ⟨bN,oN+k,none⟩)) rfl rfl A ?_;refine dj 7 217 2 212 true (.int .i64 n0) rfl rfl A ?_;refine dj 8 218 2 212 true (.pointer (some ⟨w.heap.size,5,none⟩)) rfl rfl A ?_;refine dj 9 219 2 212 true (.slice (some ⟨bN,oN,none⟩) h.am.length cO) rfl rfl A ?_;refine dj 10 220 2 212 true (.int .i64 (k:Int)) rfl rfl A ?_;refine dj 11 221 2 212 true (.int .i64 (k1:Int)) rfl rfl A ?_;refine dj 12 222 2 212 true (.pointer (some ⟨bN,oN+k1,none⟩)) rfl rfl A ?_;refine dj 13 223 2 212 true (.int .i64 n1) rfl rfl A ?_;refine dj 14 224 2 212 true (.bool false) rfl rfl A ?_;refine iy 15 225 (.bool false) rfl A ?_;refine iy 16 226 (.bool false) rfl A ?_;refine dj 17 227 16 226 false (.slice aD J.length cD) rfl rfl A ?_;refine dj 18 228 16 226 false (.pointer (some ⟨w.heap.size,5,none⟩)) rfl rfl A ?_;refine dj 19 229 16 226 false (.slice (some ⟨bN,oN,none⟩) h.am.length cO) rfl rfl A ?_;refine dj 20 230 16 226 false (.int .i64 (k:Int)) rfl rfl A ?_;refine dj 21 231 16 226 false (.pointer (some ⟨bN,oN+k,none⟩)) rfl rfl A ?_;refine dj 22 232 16 226 false (.int .i64 n0) rfl rfl A ?_;refine wpAnyH_ready (rs:=[23]) (by kernel_rfl) (by simp) ?_;refine AllReadyH.cons rfl (fun ef a3=>?_) AllReadyH.nil;go_simp;refine (av.o _ (br _ _).drew).mono ?_;rintro r _ ⟨rfl,rfl⟩;refine a3.o _ _ (fun p hp=>rfl) fun A=>?_;rw [zab];refine dj 24 234 16 226 false (.bool true) rfl rfl A ?_;refine iy 25 235 (.bool true) rfl A ?_;refine iy 26 236 (.bool true) rfl A ?_;refine fg 27 237 26 236 false rfl rfl A ?_;refine fg 28 238 26 236 false rfl rfl A ?_;refine fg 29 239 26 236 false rfl rfl A ?_;refine fg 30 240 26 236 false rfl rfl A ?_;refine fg 31 241 26 236 false rfl rfl A ?_;refine fg 32 242 26 236 false rfl rfl A ?_;refine fg 33 243 26 236 false rfl rfl A ?_;refine fg 34 244 26 236 false rfl rfl A ?_;refine fg 35 245 26 236 false rfl rfl A ?_;refine fg 36 246 26 236 false rfl rfl A ?_;refine iy 37 247 (.bool true) rfl A ?_;refine wpAnyH_done (by kernel_rfl) ?_ _;clear A;rw [HA.o];clear HA X Y a0 ad au;simp only [Act.put,p1q,p4q,p3q];go_wp2_with fail;go_ret;exact ⟨by rw [O.o.1];rfl,O.o.2 _ (br _ _).drew⟩
                  | true=>
                    have ce:=ae (az.o rfl);clear az;go_wp2_with fail;refine wp_region_held_drew (S:=fun W'=>∀p:Addr,p.block<wr.heap.size->W'.cell? p=wr.cell? p) (by kernel_rfl) (fun p hp=>rfl) fun A=>?_;refine zag 38 rfl fun a F=>?_;have X:a.tmps.size=288:=by rw [F];rfl
                    have Y:∀h,a.tmps[2]'h=.pointer (some ⟨w.heap.size,0,none⟩):=by rw [F];exact fun _=>rfl
                    have a0:∀h,a.tmps[3]'h=.pointer (some ⟨w.heap.size+1,0,none⟩):=by rw [F];exact fun _=>rfl
                    have ad:∀h,a.tmps[6]'h=.slice aD J.length cD:=by rw [F];exact fun _=>rfl
                    have au:∀h,a.tmps[16]'h=.int .i64 (k:Int):=by rw [F];exact fun _=>rfl
                    have HA:=ae F;clear F;refine iy 0 210 (.int .i64 (k:Int)) rfl A ?_;refine tk 1 211 (.bool true) rfl (by kernel_rfl) (fun _ _ _ h=>h) ?_ A ?_
                    ·intro w dd;go_simp;omega
                    refine iy 2 212 (.bool true) rfl A ?_;refine dj 3 213 2 212 true (.pointer (some ⟨w.heap.size,5,none⟩)) rfl rfl A ?_;refine dj 4 214 2 212 true (.slice (some ⟨bN,oN,none⟩) h.am.length cO) rfl rfl A ?_;refine dj 5 215 2 212 true (.int .i64 (k:Int)) rfl rfl A ?_;refine dj 6 216 2 212 true (.pointer (some ⟨bN,oN+k,none⟩)) rfl rfl A ?_;refine dj 7 217 2 212 true (.int .i64 n0) rfl rfl A ?_;refine dj 8 218 2 212 true (.pointer (some ⟨w.heap.size,5,none⟩)) rfl rfl A ?_;refine dj 9 219 2 212 true (.slice (some ⟨bN,oN,none⟩) h.am.length cO) rfl rfl A ?_;refine dj 10 220 2 212 true (.int .i64 (k:Int)) rfl rfl A ?_;refine dj 11 221 2 212 true (.int .i64 (k1:Int)) rfl rfl A ?_;refine dj 12 222 2 212 true (.pointer (some ⟨bN,oN+k1,none⟩)) rfl rfl A ?_;refine dj 13 223 2 212 true (.int .i64 n1) rfl rfl A ?_;refine dj 14 224 2 212 true (.bool false) rfl rfl A ?_;refine iy 15 225 (.bool false) rfl A ?_;refine iy 16 226 (.bool false) rfl A ?_;refine dj 17 227 16 226 false (.slice aD J.length cD) rfl rfl A ?_;refine dj 18 228 16 226 false (.pointer (some ⟨w.heap.size,5,none⟩)) rfl rfl A ?_;refine dj 19 229 16 226 false (.slice (some ⟨bN,oN,none⟩) h.am.length cO) rfl rfl A ?_;refine dj 20 230 16 226 false (.int .i64 (k:Int)) rfl rfl A ?_;refine dj 21 231 16 226 false (.pointer (some ⟨bN,oN+k,none⟩)) rfl rfl A ?_;refine dj 22 232 16 226 false (.int .i64 n0) rfl rfl A ?_;refine wpAnyH_ready (rs:=[23]) (by kernel_rfl) (by simp) ?_;refine AllReadyH.cons rfl (fun ef a3=>?_) AllReadyH.nil;go_simp;refine (av.o _ (br _ _).drew).mono ?_;rintro r _ ⟨rfl,rfl⟩;refine a3.o _ _ (fun p hp=>rfl) fun A=>?_;rw [zab];refine dj 24 234 16 226 false (.bool false) rfl rfl A ?_;refine iy 25 235 (.bool false) rfl A ?_;refine iy 26 236 (.bool false) rfl A ?_;refine dj 27 237 26 236 false (.agg #[.slice (some ⟨bW,oW,none⟩) h.ab.length cW,.int .i64 h.ag,.int .i64 h.old,.int .i64 h.be,.int .i64 h.ar,.slice (some ⟨bN,oN,none⟩) h.am.length cO,.int .i64 h.next]) rfl rfl A ?_;refine dj 28 238 26 236 false (.agg #[.slice aC d.aj.length cC,.slice aS d.ax.length cS,.slice aF d.fields.length cF,.slice aN d.names.length cN,.slice aT d.aq.length cT]) rfl rfl A ?_;refine dj 29 239 26 236 false (.pointer (some ⟨w.heap.size,5,none⟩)) rfl rfl A ?_;refine dj 30 240 26 236 false (.slice (some ⟨bN,oN,none⟩) h.am.length cO) rfl rfl A ?_;refine dj 31 241 26 236 false (.int .i64 (k:Int)) rfl rfl A ?_;refine dj 32 242 26 236 false (.pointer (some ⟨bN,oN+k,none⟩)) rfl rfl A ?_;refine dj 33 243 26 236 false (.int .i64 n0) rfl rfl A ?_;refine wpAnyH_ready (rs:=[34]) (by kernel_rfl) (by simp) ?_;refine AllReadyH.cons rfl (fun f2 cj=>?_) AllReadyH.nil;go_simp;refine (ce.o _ (br _ _).drew).mono ?_;rintro r w5 ⟨a4,a5,c5,rfl⟩;have aa:Below wr.heap.size wr w5:=(br wr.heap.size wr).drew.trans a4;refine cj.o _ _ (fun p hp=>aa.cell hp) fun A=>?_;rw [zab];refine dj 35 245 26 236 false (.int .i64 (rl:Int)) rfl rfl A ?_;refine dj 36 246 26 236 false (.bool ((rl:Int)==0)) rfl rfl A ?_;refine iy 37 247 (.bool ((rl:Int)==0)) rfl A ?_;refine wpAnyH_done (by kernel_rfl) ?_ _;clear A;rw [HA.o];clear HA X Y a0 ad au;simp only [Act.put,p1q,p4q,p3q];cases hrb:((rl:Int)==0)with
                    | true=>
                      have O:=ae (L.o (G.o.trans (by have:=eq_of_beq hrb;simp;omega)));go_wp2_with fail;go_ret;exact ⟨by rw [O.o.1];rfl,O.o.2 _ aa⟩
                    | false=>
                      have Z:=ae (W.o (G.o.trans (by have:=ne_of_beq_false hrb;simp;omega)));clear L G;go_wp2_with fail;go_roundw
                      case rel=>exact ⟨k+1,by omega,by go_num,Z.o.1,Z.o.2 _ aa⟩
                      case measure=>simp [intOf];omega
                 have f6:decide (0<(k:Int))=false:=by simp;omega
                 rw [decide_eq_false (fun hh=>cn (by omega)),Bool.false_or]at G;generalize h.am[k]=n0 at*;clear D hD I ch;cases ct with
                 | false=>
                   have O:=ae (L.o (G.o.trans (by simp)));clear W L G az;go_wp2_with fail;refine wp_region_held_drew (S:=fun W'=>∀p:Addr,p.block<wr.heap.size->W'.cell? p=wr.cell? p) (by kernel_rfl) (fun p hp=>rfl) fun A=>?_;refine zag 38 rfl fun a F=>?_;have X:a.tmps.size=288:=by rw [F];rfl
                   have Y:∀h,a.tmps[2]'h=.pointer (some ⟨w.heap.size,0,none⟩):=by rw [F];exact fun _=>rfl
                   have a0:∀h,a.tmps[3]'h=.pointer (some ⟨w.heap.size+1,0,none⟩):=by rw [F];exact fun _=>rfl
                   have ad:∀h,a.tmps[6]'h=.slice aD J.length cD:=by rw [F];exact fun _=>rfl
                   have au:∀h,a.tmps[16]'h=.int .i64 (k:Int):=by rw [F];exact fun _=>rfl
                   have HA:=ae F;clear F;refine iy 0 210 (.int .i64 (k:Int)) rfl A ?_;refine tk 1 211 (.bool false) rfl (by kernel_rfl) (fun _ _ _ h=>h) ?_ A ?_
                   ·intro w dd;go_simp;omega
                   refine iy 2 212 (.bool false) rfl A ?_;refine fg 3 213 2 212 true rfl rfl A ?_;refine fg 4 214 2 212 true rfl rfl A ?_;refine fg 5 215 2 212 true rfl rfl A ?_;refine fg 6 216 2 212 true rfl rfl A ?_;refine fg 7 217 2 212 true rfl rfl A ?_;refine fg 8 218 2 212 true rfl rfl A ?_;refine fg 9 219 2 212 true rfl rfl A ?_;refine fg 10 220 2 212 true rfl rfl A ?_;refine fg 11 221 2 212 true rfl rfl A ?_;refine fg 12 222 2 212 true rfl rfl A ?_;refine fg 13 223 2 212 true rfl rfl A ?_;refine fg 14 224 2 212 true rfl rfl A ?_;refine iy 15 225 (.bool false) rfl A ?_;refine iy 16 226 (.bool false) rfl A ?_;refine dj 17 227 16 226 false (.slice aD J.length cD) rfl rfl A ?_;refine dj 18 228 16 226 false (.pointer (some ⟨w.heap.size,5,none⟩)) rfl rfl A ?_;refine dj 19 229 16 226 false (.slice (some ⟨bN,oN,none⟩) h.am.length cO) rfl rfl A ?_;refine dj 20 230 16 226 false (.int .i64 (k:Int)) rfl rfl A ?_;refine dj 21 231 16 226 false (.pointer (some ⟨bN,oN+k,none⟩)) rfl rfl A ?_;refine dj 22 232 16 226 false (.int .i64 n0) rfl rfl A ?_;refine wpAnyH_ready (rs:=[23]) (by kernel_rfl) (by simp) ?_;refine AllReadyH.cons rfl (fun ef a3=>?_) AllReadyH.nil;go_simp;refine (av.o _ (br _ _).drew).mono ?_;rintro r _ ⟨rfl,rfl⟩;refine a3.o _ _ (fun p hp=>rfl) fun A=>?_;rw [zab];refine dj 24 234 16 226 false (.bool true) rfl rfl A ?_;refine iy 25 235 (.bool true) rfl A ?_;refine iy 26 236 (.bool true) rfl A ?_;refine fg 27 237 26 236 false rfl rfl A ?_;refine fg 28 238 26 236 false rfl rfl A ?_;refine fg 29 239 26 236 false rfl rfl A ?_;refine fg 30 240 26 236 false rfl rfl A ?_;refine fg 31 241 26 236 false rfl rfl A ?_;refine fg 32 242 26 236 false rfl rfl A ?_;refine fg 33 243 26 236 false rfl rfl A ?_;refine fg 34 244 26 236 false rfl rfl A ?_;refine fg 35 245 26 236 false rfl rfl A ?_;refine fg 36 246 26 236 false rfl rfl A ?_;refine iy 37 247 (.bool true) rfl A ?_;refine wpAnyH_done (by kernel_rfl) ?_ _;clear A;rw [HA.o];clear HA X Y a0 ad au;simp only [Act.put,p1q,p4q,p3q];go_wp2_with fail;go_ret;exact ⟨by rw [O.o.1];rfl,O.o.2 _ (br _ _).drew⟩
                 | true=>
                   have ce:=ae (az.o rfl);clear az;go_wp2_with fail;refine wp_region_held_drew (S:=fun W'=>∀p:Addr,p.block<wr.heap.size->W'.cell? p=wr.cell? p) (by kernel_rfl) (fun p hp=>rfl) fun A=>?_;refine zag 38 rfl fun a F=>?_;have X:a.tmps.size=288:=by rw [F];rfl
                   have Y:∀h,a.tmps[2]'h=.pointer (some ⟨w.heap.size,0,none⟩):=by rw [F];exact fun _=>rfl
                   have a0:∀h,a.tmps[3]'h=.pointer (some ⟨w.heap.size+1,0,none⟩):=by rw [F];exact fun _=>rfl
                   have ad:∀h,a.tmps[6]'h=.slice aD J.length cD:=by rw [F];exact fun _=>rfl
                   have au:∀h,a.tmps[16]'h=.int .i64 (k:Int):=by rw [F];exact fun _=>rfl
                   have HA:=ae F;clear F;refine iy 0 210 (.int .i64 (k:Int)) rfl A ?_;refine tk 1 211 (.bool false) rfl (by kernel_rfl) (fun _ _ _ h=>h) ?_ A ?_
                   ·intro w dd;go_simp;omega
                   refine iy 2 212 (.bool false) rfl A ?_;refine fg 3 213 2 212 true rfl rfl A ?_;refine fg 4 214 2 212 true rfl rfl A ?_;refine fg 5 215 2 212 true rfl rfl A ?_;refine fg 6 216 2 212 true rfl rfl A ?_;refine fg 7 217 2 212 true rfl rfl A ?_;refine fg 8 218 2 212 true rfl rfl A ?_;refine fg 9 219 2 212 true rfl rfl A ?_;refine fg 10 220 2 212 true rfl rfl A ?_;refine fg 11 221 2 212 true rfl rfl A ?_;refine fg 12 222 2 212 true rfl rfl A ?_;refine fg 13 223 2 212 true rfl rfl A ?_;refine fg 14 224 2 212 true rfl rfl A ?_;refine iy 15 225 (.bool false) rfl A ?_;refine iy 16 226 (.bool false) rfl A ?_;refine dj 17 227 16 226 false (.slice aD J.length cD) rfl rfl A ?_;refine dj 18 228 16 226 false (.pointer (some ⟨w.heap.size,5,none⟩)) rfl rfl A ?_;refine dj 19 229 16 226 false (.slice (some ⟨bN,oN,none⟩) h.am.length cO) rfl rfl A ?_;refine dj 20 230 16 226 false (.int .i64 (k:Int)) rfl rfl A ?_;refine dj 21 231 16 226 false (.pointer (some ⟨bN,oN+k,none⟩)) rfl rfl A ?_;refine dj 22 232 16 226 false (.int .i64 n0) rfl rfl A ?_;refine wpAnyH_ready (rs:=[23]) (by kernel_rfl) (by simp) ?_;refine AllReadyH.cons rfl (fun ef a3=>?_) AllReadyH.nil;go_simp;refine (av.o _ (br _ _).drew).mono ?_;rintro r _ ⟨rfl,rfl⟩;refine a3.o _ _ (fun p hp=>rfl) fun A=>?_;rw [zab];refine dj 24 234 16 226 false (.bool false) rfl rfl A ?_;refine iy 25 235 (.bool false) rfl A ?_;refine iy 26 236 (.bool false) rfl A ?_;refine dj 27 237 26 236 false (.agg #[.slice (some ⟨bW,oW,none⟩) h.ab.length cW,.int .i64 h.ag,.int .i64 h.old,.int .i64 h.be,.int .i64 h.ar,.slice (some ⟨bN,oN,none⟩) h.am.length cO,.int .i64 h.next]) rfl rfl A ?_;refine dj 28 238 26 236 false (.agg #[.slice aC d.aj.length cC,.slice aS d.ax.length cS,.slice aF d.fields.length cF,.slice aN d.names.length cN,.slice aT d.aq.length cT]) rfl rfl A ?_;refine dj 29 239 26 236 false (.pointer (some ⟨w.heap.size,5,none⟩)) rfl rfl A ?_;refine dj 30 240 26 236 false (.slice (some ⟨bN,oN,none⟩) h.am.length cO) rfl rfl A ?_;refine dj 31 241 26 236 false (.int .i64 (k:Int)) rfl rfl A ?_;refine dj 32 242 26 236 false (.pointer (some ⟨bN,oN+k,none⟩)) rfl rfl A ?_;refine dj 33 243 26 236 false (.int .i64 n0) rfl rfl A ?_;refine wpAnyH_ready (rs:=[34]) (by kernel_rfl) (by simp) ?_;refine AllReadyH.cons rfl (fun f2 cj=>?_) AllReadyH.nil;go_simp;refine (ce.o _ (br _ _).drew).mono ?_;rintro r w5 ⟨a4,a5,c5,rfl⟩;have aa:Below wr.heap.size wr w5:=(br wr.heap.size wr).drew.trans a4;refine cj.o _ _ (fun p hp=>aa.cell hp) fun A=>?_;rw [zab];refine dj 35 245 26 236 false (.int .i64 (rl:Int)) rfl rfl A ?_;refine dj 36 246 26 236 false (.bool ((rl:Int)==0)) rfl rfl A ?_;refine iy 37 247 (.bool ((rl:Int)==0)) rfl A ?_;refine wpAnyH_done (by kernel_rfl) ?_ _;clear A;rw [HA.o];clear HA X Y a0 ad au;simp only [Act.put,p1q,p4q,p3q];cases hrb:((rl:Int)==0)with
                   | true=>
                     have O:=ae (L.o (G.o.trans (by have:=eq_of_beq hrb;simp;omega)));go_wp2_with fail;go_ret;exact ⟨by rw [O.o.1];rfl,O.o.2 _ aa⟩
                   | false=>
                     have Z:=ae (W.o (G.o.trans (by have:=ne_of_beq_false hrb;simp;omega)));clear L G;go_wp2_with fail;go_roundw
                     case rel=>exact ⟨k+1,by omega,by go_num,Z.o.1,Z.o.2 _ aa⟩
                     case measure=>simp [intOf];omega
                have H5:Hid ((List.range h.am.length).any (bad5 d h J)=false):=znw fun j hj=>I.o.1 j (by omega);have ex:=ae I.o.2;clear I D hD;go_wp2_with fail;clear ao hk E p0 p1 p2 p3 p4 p5 p6 lp y0 y1 y2 y3 y4 ly;go_loopw [17] (fun i wr=>∃k:Nat,k<=J.length/\i=.int .i64 k/\Hid ((J.take k).any (bad6 d h)=false/\Below N.heap.size N wr)) (fun i _=>J.length - (intOf i).toNat)
                case atStart=>exact ⟨0,n0q _,rfl,by simp,ex.o⟩
                case round=>
                 rename World=>wr
                 obtain ⟨k,hk,rfl,I⟩:=hrel;have ao:N.heap.size<=wr.heap.size:=I.o.2.size;by_cases E:k<J.length
                 ·obtain ⟨D,-,hD⟩:=HX.o wr I.o.2;obtain ⟨ln,ak,a8,ah,a9,-⟩:=bz.o _ (c1.o _ (gm E));have p0:=aw D.b0 0 (x:=.slice (some ⟨bW,oW,none⟩) h.ab.length cW) rfl;have p1:=aw D.b0 1 (x:=.int .i64 h.ag) rfl;have p2:=aw D.b0 2 (x:=.int .i64 h.old) rfl;have p3:=aw D.b0 3 (x:=.int .i64 h.be) rfl;have p4:=aw D.b0 4 (x:=.int .i64 h.ar) rfl;have p5:=aw D.b0 5 (x:=.slice aO h.am.length cO) rfl;have p6:=aw D.b0 6 (x:=.int .i64 h.next) rfl;have lp:=bk D.b0;have y0:=aw D.b1 0 (x:=.slice aC d.aj.length cC) rfl;have y1:=aw D.b1 1 (x:=.slice aS d.ax.length cS) rfl;have y2:=aw D.b1 2 (x:=.slice aF d.fields.length cF) rfl;have y3:=aw D.b1 3 (x:=.slice aN d.names.length cN) rfl;have y4:=aw D.b1 4 (x:=.slice aT d.aq.length cT) rfl;have ly:=bk D.b1;obtain ⟨bA,oA,rfl,b6,eA⟩:=hD.atI k (by simpa using E);rw [List.getElem_map,ak]at eA;have q1:(0:Int)<=k:=by omega
                  have q2:(k:Int)<J.length:=by omega
                  have az:Hid (∀V,Below wr.heap.size wr V->Calls Tryz.prog 87 #[.agg #[.slice (some ⟨bW,oW,none⟩) h.ab.length cW,.int .i64 h.ag,.int .i64 h.old,.int .i64 h.be,.int .i64 h.ar,.slice aO h.am.length cO,.int .i64 h.next],.agg #[.slice aC d.aj.length cC,.slice aS d.ax.length cS,.slice aF d.fields.length cF,.slice aN d.names.length cN,.slice aT d.aq.length cT],.int .i64 (ln:Int)] V fun r w'=>Below V.heap.size V w'/\∃v,r=.returned v/\w'.ownsRow V.heap.size 3 1 v (refsOf d.fields J[k]).length (b8 (refsOf d.fields J[k]))):=fun V hV=>by have ac:=D.below hV;rw [a9]at ah ⊢;exact znq V B _ _ _ _ _ _ _ h d ac.sW ac.sO ac.lk (by have:=ac.le;have:=bk ac.b0;omega) ln a8 (by have:=c9.o;omega) ah
                  have ea:Hid (∀a∈refsOf d.fields J[k],∃an:Nat,a=an/\an<h.ab.length):=fun a F=>by have:=zh2 d.fields J[k] F;have h2:=(cx.o _ (c1.o _ (gm E))).1;have h3:=(cx.o _ (c1.o _ (gm E))).2;have h4:J[k].fin=J[k].loc+3+J[k].len:=rfl;exact ⟨a.toNat,by omega,by omega⟩
                  have cc:Hid ((refsOf d.fields J[k]).length<=1000000):=by have:=zhr d.fields J[k] J[k].len.toNat;have h3:=ah.hi;have:(refsOf d.fields J[k]).length<=J[k].len.toNat:=this;show _<=_;omega
                  have af:=ae I.o;have bm:Hid ((refsOf d.fields J[k]).any (bad6a h J[k])=bad6 d h J[k]):=rfl;have bl:Hid (J[k].loc=ln):=ak;generalize refsOf d.fields J[k]=rf at*;clear D hD I ah a9 ak;go_wp2_with fail;refine wp_region_held_drew (S:=fun W'=>∀p:Addr,p.block<wr.heap.size->W'.cell? p=wr.cell? p) (by kernel_rfl) (fun p hp=>rfl) fun A=>?_;refine zag 8 rfl fun a F=>?_;have X:a.tmps.size=288:=by rw [F];rfl
                  have Y:∀h,a.tmps[2]'h=.pointer (some ⟨w.heap.size,0,none⟩):=by rw [F];exact fun _=>rfl
                  have a0:∀h,a.tmps[3]'h=.pointer (some ⟨w.heap.size+1,0,none⟩):=by rw [F];exact fun _=>rfl
                  have ad:∀h,a.tmps[6]'h=.slice (some ⟨bA,oA,none⟩) J.length cD:=by rw [F];exact fun _=>rfl
                  have a6:∀h,a.tmps[17]'h=.int .i64 (k:Int):=by rw [F];exact fun _=>rfl
                  have HA:=ae F;clear F;refine iy 0 254 (.agg #[.slice (some ⟨bW,oW,none⟩) h.ab.length cW,.int .i64 h.ag,.int .i64 h.old,.int .i64 h.be,.int .i64 h.ar,.slice aO h.am.length cO,.int .i64 h.next]) rfl A ?_;refine iy 1 255 (.agg #[.slice aC d.aj.length cC,.slice aS d.ax.length cS,.slice aF d.fields.length cF,.slice aN d.names.length cN,.slice aT d.aq.length cT]) rfl A ?_;refine iy 2 256 (.slice (some ⟨bA,oA,none⟩) J.length cD) rfl A ?_;refine iy 3 257 (.int .i64 (k:Int)) rfl A ?_;refine iy 4 258 (.pointer (some ⟨bA,oA+k,none⟩)) rfl A ?_;refine iy 5 259 (.int .i64 (ln:Int)) rfl A ?_;refine wpAnyH_ready (rs:=[6]) (by kernel_rfl) (by simp) ?_;refine AllReadyH.cons rfl (fun K6 eh=>?_) AllReadyH.nil;go_simp;refine (az.o _ (br _ _).drew).mono ?_;rintro r w5 ⟨a4,v5,rfl,al⟩;have aa:Below wr.heap.size wr w5:=(br wr.heap.size wr).drew.trans a4;refine eh.o _ _ (fun p hp=>aa.cell hp) fun A=>?_;rw [zab];refine iy 7 18 (v5) rfl A ?_;refine wpAnyH_done (by kernel_rfl) ?_ _;clear A;rw [HA.o];clear HA X Y a0 ad a6;simp only [Act.put,p1q,p4q,p3q];have b2:Hid (∀V,Below w5.heap.size w5 V->Below N.heap.size N V/\SL 1 RI (· <w5.heap.size) V v5 rf):=fun V hV=>by have eo:=aa.size;refine ⟨af.o.2.trans ((aa.trans (hV.mono eo)).mono ao),?_⟩;exact ((zfb al cc.o).monoI (M':=(· <w5.heap.size)) fun k hk=>hk.lt).keptI (Kp.below hV)
                  obtain ⟨a5,c5,rfl⟩:=kh al;have q9:rf.length<=1000000:=cc.o;clear a4 aa al p0 p1 p2 p3 p4 p5 p6 y0 y1 y2 y3 y4 lp ly eA b6 az;go_wp2_with fail;go_loopw [19] (fun i wr=>∃j:Nat,j<=rf.length/\i=.int .i64 j/\Hid ((rf.take j).any (bad6a h J[k])=false/\Below w5.heap.size w5 wr)) (fun i _=>rf.length - (intOf i).toNat)
                  case atStart=>exact ⟨0,n0q _,rfl,by simp,br _ _⟩
                  case round=>
                   rename World=>wr
                   obtain ⟨j,hj,rfl,I⟩:=hrel;by_cases ai:j<rf.length
                   ·obtain ⟨bn,cl⟩:=b2.o wr I.o.2;obtain ⟨D,-,hD⟩:=HX.o wr bn;obtain ⟨an,bo,cm⟩:=ea.o _ (gm ai);have p0:=aw D.b0 0 (x:=.slice (some ⟨bW,oW,none⟩) h.ab.length cW) rfl;have p1:=aw D.b0 1 (x:=.int .i64 h.ag) rfl;have p5:=aw D.b0 5 (x:=.slice aO h.am.length cO) rfl;have lp:=bk D.b0;obtain ⟨b5,o5,rfl,a4,e5⟩:=cl.atI j ai;rw [bo]at e5;obtain ⟨f3,g4,eg,b6,eA⟩:=hD.atI k (by simpa using E);cases eg;rw [List.getElem_map,bl.o]at eA;obtain ⟨b',o',e',dg,eW⟩:=D.sW.atI an cm;cases e';have r1:(0:Int)<=j:=by omega
                    have r2:(j:Int)<rf.length:=by omega
                    have q3:(0:Int)<=(an:Int):=by omega
                    have q4:(an:Int)<h.ab.length:=by omega
                    have av:Hid (∀V,Below wr.heap.size wr V->Calls Tryz.prog 74 #[.slice aO h.am.length cO,.int .i64 (ln:Int)] V fun r w'=>r=.returned (.bool (h.am.contains (ln:Int)))/\w'=V):=fun V hV=>by have hv:=D.sO.keptI (Kp.below (hV.mono (by have:=D.le;have:=bk D.b0;omega)));exact zkz _ _ _ _ hv ln
                    have G:Hid (bad6a h J[k] rf[j]=(mx h.ab[an] 1 h.ag&& !h.am.contains (ln:Int))):=by show bad6a h J[k] rf[j]=_;unfold bad6a;rw [bo,mw cm,bl.o]
                    have W:Hid (bad6a h J[k] rf[j]=false->(rf.take (j+1)).any (bad6a h J[k])=false/\∀n,Below w5.heap.size w5 (wr.drewN n)):=fun hb=>⟨zns ai I.o.1 hb,fun n=>ku I.o.2 n⟩;have L:Hid (bad6a h J[k] rf[j]=true->ge d h=4/\∀n,Below w.heap.size w (wr.drewN n)):=fun hb=>⟨ba.o.trans (by
                     unfold ib;rw [if_neg (by rw [H1.o];decide),if_neg (by rw [decide_eq_true H2.o];decide),if_neg (by rw [H3.o];decide),if_neg (by rw [H4.o];decide),if_neg (by rw [H5.o];decide),if_pos (znt E (by rw [<-bm.o];exact znt ai hb))]),fun n=>ku (bi.o wr bn) n⟩
                    generalize rf[j]=a at*;generalize h.ab[an]=x at*;generalize h.am.contains (ln:Int)=ct at*;clear D hD cl bn I bo af bm;cases hbt:mx x 1 h.ag with
                    | false=>
                      have Z:=ae (W.o (G.o.trans (by rw [hbt];rfl)));clear W L G av;go_wp2_with fail;refine wp_region_held_drew (S:=fun W'=>∀p:Addr,p.block<wr.heap.size->W'.cell? p=wr.cell? p) (by kernel_rfl) (fun p hp=>rfl) fun A=>?_;refine zag 21 rfl fun a F=>?_;have X:a.tmps.size=288:=by rw [F];rfl
                      have Y:∀h,a.tmps[2]'h=.pointer (some ⟨w.heap.size,0,none⟩):=by rw [F];exact fun _=>rfl
                      have bf:∀h,a.tmps[18]'h=.slice (some ⟨b5,o5,none⟩) rf.length c5:=by rw [F];exact fun _=>rfl
                      have bh:∀h,a.tmps[19]'h=.int .i64 (j:Int):=by rw [F];exact fun _=>rfl
                      have ad:∀h,a.tmps[6]'h=.slice (some ⟨bA,oA,none⟩) J.length cD:=by rw [F];exact fun _=>rfl
                      have a6:∀h,a.tmps[17]'h=.int .i64 (k:Int):=by rw [F];exact fun _=>rfl
                      have HA:=ae F;clear F;refine iy 0 267 (.pointer (some ⟨w.heap.size,0,none⟩)) rfl A ?_;refine iy 1 268 (.slice (some ⟨bW,oW,none⟩) h.ab.length cW) rfl A ?_;refine iy 2 269 (.slice (some ⟨b5,o5,none⟩) rf.length c5) rfl A ?_;refine iy 3 270 (.int .i64 (j:Int)) rfl A ?_;refine iy 4 271 (.pointer (some ⟨b5,o5+j,none⟩)) rfl A ?_;refine iy 5 272 (.int .i64 (an:Int)) rfl A ?_;refine iy 6 273 (.pointer (some ⟨bW,oW+an,none⟩)) rfl A ?_;refine iy 7 274 (.int .i64 x) rfl A ?_;refine iy 8 275 (.pointer (some ⟨w.heap.size,1,none⟩)) rfl A ?_;refine iy 9 276 (.int .i64 h.ag) rfl A ?_;refine wpAnyH_ready (rs:=[10]) (by kernel_rfl) (by simp) ?_;refine AllReadyH.cons rfl (fun e7 bc=>?_) AllReadyH.nil;go_simp;refine (zkv _ _ _ _).mono ?_;rintro r _ ⟨rfl,rfl⟩;rw [hbt];refine bc.o _ _ (fun p hp=>rfl) fun A=>?_;rw [zab];refine iy 11 278 (.bool false) rfl A ?_;refine fg 12 279 11 278 true rfl rfl A ?_;refine fg 13 280 11 278 true rfl rfl A ?_;refine fg 14 281 11 278 true rfl rfl A ?_;refine fg 15 282 11 278 true rfl rfl A ?_;refine fg 16 283 11 278 true rfl rfl A ?_;refine fg 17 284 11 278 true rfl rfl A ?_;refine fg 18 285 11 278 true rfl rfl A ?_;refine fg 19 286 11 278 true rfl rfl A ?_;refine iy 20 287 (.bool false) rfl A ?_;refine wpAnyH_done (by kernel_rfl) ?_ _;clear A;rw [HA.o];clear HA X Y bf bh ad a6;simp only [Act.put,p1q,p4q,p3q];go_wp2_with fail;go_roundw
                      case rel=>exact ⟨j+1,by omega,by go_num,Z.o.1,Z.o.2 1⟩
                      case measure=>simp [intOf];omega
                    | true=>
                      cases ct with
                      | true=>
                        have Z:=ae (W.o (G.o.trans (by rw [hbt];rfl)));clear W L G;go_wp2_with fail;refine wp_region_held_drew (S:=fun W'=>∀p:Addr,p.block<wr.heap.size->W'.cell? p=wr.cell? p) (by kernel_rfl) (fun p hp=>rfl) fun A=>?_;refine zag 21 rfl fun a F=>?_;have X:a.tmps.size=288:=by rw [F];rfl
                        have Y:∀h,a.tmps[2]'h=.pointer (some ⟨w.heap.size,0,none⟩):=by rw [F];exact fun _=>rfl
                        have bf:∀h,a.tmps[18]'h=.slice (some ⟨b5,o5,none⟩) rf.length c5:=by rw [F];exact fun _=>rfl
                        have bh:∀h,a.tmps[19]'h=.int .i64 (j:Int):=by rw [F];exact fun _=>rfl
                        have ad:∀h,a.tmps[6]'h=.slice (some ⟨bA,oA,none⟩) J.length cD:=by rw [F];exact fun _=>rfl
                        have a6:∀h,a.tmps[17]'h=.int .i64 (k:Int):=by rw [F];exact fun _=>rfl
                        have HA:=ae F;clear F;refine iy 0 267 (.pointer (some ⟨w.heap.size,0,none⟩)) rfl A ?_;refine iy 1 268 (.slice (some ⟨bW,oW,none⟩) h.ab.length cW) rfl A ?_;refine iy 2 269 (.slice (some ⟨b5,o5,none⟩) rf.length c5) rfl A ?_;refine iy 3 270 (.int .i64 (j:Int)) rfl A ?_;refine iy 4 271 (.pointer (some ⟨b5,o5+j,none⟩)) rfl A ?_;refine iy 5 272 (.int .i64 (an:Int)) rfl A ?_;refine iy 6 273 (.pointer (some ⟨bW,oW+an,none⟩)) rfl A ?_;refine iy 7 274 (.int .i64 x) rfl A ?_;refine iy 8 275 (.pointer (some ⟨w.heap.size,1,none⟩)) rfl A ?_;refine iy 9 276 (.int .i64 h.ag) rfl A ?_;refine wpAnyH_ready (rs:=[10]) (by kernel_rfl) (by simp) ?_;refine AllReadyH.cons rfl (fun e7 bc=>?_) AllReadyH.nil;go_simp;refine (zkv _ _ _ _).mono ?_;rintro r _ ⟨rfl,rfl⟩;rw [hbt];refine bc.o _ _ (fun p hp=>rfl) fun A=>?_;rw [zab];refine iy 11 278 (.bool true) rfl A ?_;refine dj 12 279 11 278 true (.pointer (some ⟨w.heap.size,5,none⟩)) rfl rfl A ?_;refine dj 13 280 11 278 true (.slice aO h.am.length cO) rfl rfl A ?_;refine dj 14 281 11 278 true (.slice (some ⟨bA,oA,none⟩) J.length cD) rfl rfl A ?_;refine dj 15 282 11 278 true (.int .i64 (k:Int)) rfl rfl A ?_;refine dj 16 283 11 278 true (.pointer (some ⟨bA,oA+k,none⟩)) rfl rfl A ?_;refine dj 17 284 11 278 true (.int .i64 (ln:Int)) rfl rfl A ?_;refine wpAnyH_ready (rs:=[18]) (by kernel_rfl) (by simp) ?_;refine AllReadyH.cons rfl (fun f1 ci=>?_) AllReadyH.nil;go_simp;refine (av.o _ (br _ _).drew).mono ?_;rintro r _ ⟨rfl,rfl⟩;refine ci.o _ _ (fun p hp=>rfl) fun A=>?_;rw [zab];refine dj 19 286 11 278 true (.bool false) rfl rfl A ?_;refine iy 20 287 (.bool false) rfl A ?_;refine wpAnyH_done (by kernel_rfl) ?_ _;clear A;rw [HA.o];clear HA X Y bf bh ad a6;simp only [Act.put,p1q,p4q,p3q];go_wp2_with fail;go_roundw
                        case rel=>exact ⟨j+1,by omega,by go_num,Z.o.1,Z.o.2 1⟩
                        case measure=>simp [intOf];omega
                      | false=>
                        have O:=ae (L.o (G.o.trans (by rw [hbt];rfl)));clear W L G;go_wp2_with fail;refine wp_region_held_drew (S:=fun W'=>∀p:Addr,p.block<wr.heap.size->W'.cell? p=wr.cell? p) (by kernel_rfl) (fun p hp=>rfl) fun A=>?_;refine zag 21 rfl fun a F=>?_;have X:a.tmps.size=288:=by rw [F];rfl
                        have Y:∀h,a.tmps[2]'h=.pointer (some ⟨w.heap.size,0,none⟩):=by rw [F];exact fun _=>rfl
                        have bf:∀h,a.tmps[18]'h=.slice (some ⟨b5,o5,none⟩) rf.length c5:=by rw [F];exact fun _=>rfl
                        have bh:∀h,a.tmps[19]'h=.int .i64 (j:Int):=by rw [F];exact fun _=>rfl
                        have ad:∀h,a.tmps[6]'h=.slice (some ⟨bA,oA,none⟩) J.length cD:=by rw [F];exact fun _=>rfl
                        have a6:∀h,a.tmps[17]'h=.int .i64 (k:Int):=by rw [F];exact fun _=>rfl
                        have HA:=ae F;clear F;refine iy 0 267 (.pointer (some ⟨w.heap.size,0,none⟩)) rfl A ?_;refine iy 1 268 (.slice (some ⟨bW,oW,none⟩) h.ab.length cW) rfl A ?_;refine iy 2 269 (.slice (some ⟨b5,o5,none⟩) rf.length c5) rfl A ?_;refine iy 3 270 (.int .i64 (j:Int)) rfl A ?_;refine iy 4 271 (.pointer (some ⟨b5,o5+j,none⟩)) rfl A ?_;refine iy 5 272 (.int .i64 (an:Int)) rfl A ?_;refine iy 6 273 (.pointer (some ⟨bW,oW+an,none⟩)) rfl A ?_;refine iy 7 274 (.int .i64 x) rfl A ?_;refine iy 8 275 (.pointer (some ⟨w.heap.size,1,none⟩)) rfl A ?_;refine iy 9 276 (.int .i64 h.ag) rfl A ?_;refine wpAnyH_ready (rs:=[10]) (by kernel_rfl) (by simp) ?_;refine AllReadyH.cons rfl (fun e7 bc=>?_) AllReadyH.nil;go_simp;refine (zkv _ _ _ _).mono ?_;rintro r _ ⟨rfl,rfl⟩;rw [hbt];refine bc.o _ _ (fun p hp=>rfl) fun A=>?_;rw [zab];refine iy 11 278 (.bool true) rfl A ?_;refine dj 12 279 11 278 true (.pointer (some ⟨w.heap.size,5,none⟩)) rfl rfl A ?_;refine dj 13 280 11 278 true (.slice aO h.am.length cO) rfl rfl A ?_;refine dj 14 281 11 278 true (.slice (some ⟨bA,oA,none⟩) J.length cD) rfl rfl A ?_;refine dj 15 282 11 278 true (.int .i64 (k:Int)) rfl rfl A ?_;refine dj 16 283 11 278 true (.pointer (some ⟨bA,oA+k,none⟩)) rfl rfl A ?_;refine dj 17 284 11 278 true (.int .i64 (ln:Int)) rfl rfl A ?_;refine wpAnyH_ready (rs:=[18]) (by kernel_rfl) (by simp) ?_;refine AllReadyH.cons rfl (fun f1 ci=>?_) AllReadyH.nil;go_simp;refine (av.o _ (br _ _).drew).mono ?_;rintro r _ ⟨rfl,rfl⟩;refine ci.o _ _ (fun p hp=>rfl) fun A=>?_;rw [zab];refine dj 19 286 11 278 true (.bool true) rfl rfl A ?_;refine iy 20 287 (.bool true) rfl A ?_;refine wpAnyH_done (by kernel_rfl) ?_ _;clear A;rw [HA.o];clear HA X Y bf bh ad a6;simp only [Act.put,p1q,p4q,p3q];go_wp2_with fail;go_ret;exact ⟨by rw [O.o.1];rfl,O.o.2 1⟩
                   have Z:Hid ((J.take (k+1)).any (bad6 d h)=false/\Below N.heap.size N wr):=⟨zns E af.o.1 (by rw [<-bm.o];exact znu ai I.o.1),(b2.o wr I.o.2).1⟩;clear I af;go_wp2_with fail;go_roundw
                   case rel=>exact ⟨k+1,by omega,by go_num,Z.o.1,Z.o.2⟩
                   case measure=>simp [intOf];omega
                 have O:Hid (ge d h=0/\Below w.heap.size w wr):=⟨ba.o.trans (by
                  unfold ib;rw [if_neg (by rw [H1.o];decide),if_neg (by rw [decide_eq_true H2.o];decide),if_neg (by rw [H3.o];decide),if_neg (by rw [H4.o];decide),if_neg (by rw [H5.o];decide),if_neg (by rw [znu E I.o.1];decide)]),bi.o wr I.o.2⟩
                 clear I;go_wp2_with fail;go_ret;exact ⟨by rw [O.o.1];rfl,O.o.2⟩
          have O:Hid (ge d h=1):=by
           show ge d h=1;rw [c4.o];unfold im at co;cases e1:cb d.aj.length d.fields h.ab 1 h.be with
           | none=>rfl
           | some ys=>
             rw [e1]at co;cases e2:cb d.aj.length d.fields h.ab (h.ag+1) h.ar with
             | none=>rfl
             | some J=>rw [e2]at co;cases co
          clear co c4;go_wp2_with fail;go_ret;exact ⟨by rw [O.o];rfl,d3.o⟩
     have g2:((h.ab.length:Int)==1+h.ag+h.old)=false:=beq_eq_false_iff_ne.2 hw;have O:Hid (ge d h=1):=by show ge d h=1;rw [c6.o];unfold i2;rw [decide_eq_false hw];rfl
     have g9:¬(h.ab.length:Int)=1+h.ag+h.old:=hw;go_enter Tryz.func55,Tryz.ntmps55;go_wp2_with (first | (go_at_call 78;refine (zkv _ _ _ _).mono ?_;rintro r _ ⟨rfl,rfl⟩));go_ret;exact ⟨by rw [O.o];rfl,a7.o⟩
end Go.Proofs.YtjdnmblggdobgaaGreat
