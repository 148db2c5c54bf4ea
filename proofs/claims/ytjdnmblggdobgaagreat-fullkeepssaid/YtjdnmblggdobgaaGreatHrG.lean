import Derived.Test.YtjdnmblggdobgaaGreatJHqBHvA
import Derived.Test.YtjdnmblggdobgaaGreatJTk2Dies
set_option maxHeartbeats 60000000
set_option maxRecDepth 100000
namespace Go.Proofs.YtjdnmblggdobgaaGreat
open Go.RowKit Go.Maps
theorem zoa (w:World) (B:Nat) (vW vO kC kS kF kN kT:Value) (h:bd) (d:be) (sW:SL 1 RI (· <B) w vW h.ab) (sO:SL 1 RI (· <B) w vO h.ap) (lk:ma (· <B) w kC kS kF kN kT d) (hB:B<=w.heap.size) (hd:Few d) (g5:h.next<=9223372036854775807):
 Calls Tryz.prog 55 #[.agg #[vW,.int .i64 h.ae,.int .i64 h.old,.int .i64 h.bg,.int .i64 h.bk,vO,.int .i64 h.next],.agg #[kC,kS,kF,kN,kT]] w fun r w'=>r=.returned (.int .i64 (gh d h))/\Below w.heap.size w w':=by
 obtain ⟨W0,b4⟩:∃W0,W0=(w.alloc (.cells #[vW,.int .i64 h.ae,.int .i64 h.old,.int .i64 h.bg,.int .i64 h.bk,vO,.int .i64 h.next] 24)).alloc (.cells #[kC,kS,kF,kN,kT] 36):=⟨_,rfl⟩;have fj:Rd w.heap.size B W0 vW vO kC kS kF kN kT h d:=b4 ▸ Rd.new w B _ _ _ _ _ _ _ h d hB sW sO lk;have e8:Below w.heap.size w W0:=b4 ▸ ((br _ _).alloc (nlq _) _).alloc (by simp) _;have bu:=ag fj;have a4:=ag e8;have d1:=ag b4;have fv:Hid (W0.heap.size=w.heap.size+2):=by show _=_;rw [b4];simp
 obtain ⟨aC,cC,aS,cS,aF,cF,aN,cN,aT,cT,rfl,rfl,rfl,rfl,rfl⟩:=lk.agg;obtain ⟨aW,cW,rfl,-,gt,-⟩:=sW;obtain ⟨aO,cO,rfl,-,gs,-⟩:=sO;unfold maxLen at gt gs;rw [b4]at a4;clear lk fj e8 b4;have c3:Hid (jg h=(btw h.ae 3 2000&&btw h.old 3 2000)):=rfl;cases hy:btw h.ae 3 2000 with
 | false=>
   have N:Hid (gh d h=3):=by show gh d h=3;unfold gh;rw [c3.o,hy];rfl
   go_enter Tryz.func55,Tryz.ntmps55;go_wp2_with (first | (go_at_call 78;refine (zkv _ _ _ _).mono ?_;rintro r _ ⟨rfl,rfl⟩));go_ret;exact ⟨by rw [N.o];rfl,a4.o⟩
 | true=>
   cases ho:btw h.old 3 2000 with
   | false=>
     have N:Hid (gh d h=3):=by show gh d h=3;unfold gh;rw [c3.o,hy,ho];rfl
     go_enter Tryz.func55,Tryz.ntmps55;go_wp2_with (first | (go_at_call 78;refine (zkv _ _ _ _).mono ?_;rintro r _ ⟨rfl,rfl⟩));go_ret;exact ⟨by rw [N.o];rfl,a4.o⟩
   | true=>
     have hp:jg h=true:=by rw [c3.o,hy,ho];rfl
     have c6:Hid (gh d h=if iv h then (if ju h then (match b9 d.aj.length d.fields h.ab 1 h.bg,b9 d.aj.length d.fields h.ab (h.ae+1) h.bk with | some ys,some I=>ig d h (ys++I) I | _,_=>1) else 3) else 1):=by show gh d h=_;unfold gh;rw [hp];rfl
     have et:=hy;have ek:=ho;unfold btw at et ek;simp only [Bool.and_eq_true,decide_eq_true_eq]at et ek;obtain ⟨z1,z2⟩:=et;obtain ⟨z3,z4⟩:=ek;have w1:IntKind.i64.wrap (1+h.ae)=1+h.ae:=ge _ (by omega) (by omega);have w2:IntKind.i64.wrap (1+h.ae+h.old)=1+h.ae+h.old:=ge _ (by omega) (by omega);have w3:IntKind.i64.wrap (h.ae+1)=h.ae+1:=ge _ (by omega) (by omega);have w4:IntKind.i64.wrap (h.ae+h.old)=h.ae+h.old:=ge _ (by omega) (by omega);have w5:IntKind.i64.wrap (h.ae+h.old+1)=h.ae+h.old+1:=ge _ (by omega) (by omega);by_cases hw:(h.ab.length:Int)=1+h.ae+h.old
     ·have g0:((h.ab.length:Int)==1+h.ae+h.old)=true:=beq_iff_eq.2 hw;have er:iv h=true:=by unfold iv;exact decide_eq_true hw
      have cf:Hid (ju h=(btw h.bg 1 (h.ae+1)&&btw h.bk (h.ae+1) (h.ae+h.old+1)&&decide (1<=h.next))):=by show ju h=_;unfold ju btw;simp only [Bool.and_assoc]
      have c7:Hid (ju h=false->gh d h=3):=fun e=>by rw [c6.o,er,e];rfl
      have c9:=ag hw;have ec:=ag er;clear hw er;cases ht1:btw h.bg 1 (h.ae+1)with
      | false=>
        have N:Hid (gh d h=3):=c7.o (by rw [cf.o,ht1];rfl);go_enter Tryz.func55,Tryz.ntmps55;go_wp2_with (first | (go_at_call 78;refine (zkv _ _ _ _).mono ?_;rintro r _ ⟨rfl,rfl⟩));go_ret;exact ⟨by rw [N.o];rfl,a4.o⟩
      | true=>
        cases ht2:btw h.bk (h.ae+1) (h.ae+h.old+1)with
        | false=>
          have N:Hid (gh d h=3):=c7.o (by rw [cf.o,ht1,ht2];rfl);go_enter Tryz.func55,Tryz.ntmps55;go_wp2_with (first | (go_at_call 78;refine (zkv _ _ _ _).mono ?_;rintro r _ ⟨rfl,rfl⟩));go_ret;exact ⟨by rw [N.o];rfl,a4.o⟩
        | true=>
          by_cases hn:h.next<1
          ·have N:Hid (gh d h=3):=c7.o (by rw [cf.o,ht1,ht2,decide_eq_false (by omega)];rfl);have gv:decide (h.next<1)=true:=by simp [hn]
           go_enter Tryz.func55,Tryz.ntmps55;go_wp2_with (first | (go_at_call 78;refine (zkv _ _ _ _).mono ?_;rintro r _ ⟨rfl,rfl⟩));go_ret;exact ⟨by rw [N.o];rfl,a4.o⟩
          have gv:decide (h.next<1)=false:=by simp;omega
          have eq:ju h=true:=by rw [cf.o,ht1,ht2,decide_eq_true (by omega)];rfl
          have hz:=zkk hd hp ec.o eq;have wn:IntKind.i64.wrap (h.next - 1)=h.next - 1:=ge _ (by omega) (by omega);have eb:=ag (znr W0 B _ _ _ _ _ _ _ h d bu.o.sW bu.o.sO bu.o.lk (by have:=bu.o.le;have:=fv.o;omega) hz (fun f hf=>lt3 (hd.fs f hf) (by omega)));rw [d1.o]at eb;have c4:Hid (gh d h=match b9 d.aj.length d.fields h.ab 1 h.bg,b9 d.aj.length d.fields h.ab (h.ae+1) h.bk with | some ys,some I=>ig d h (ys++I) I | _,_=>1):=by show gh d h=_;rw [c6.o,ec.o,eq];rfl
          have HZ:=ag hz;have HD:=ag hd;obtain ⟨bW,oW,rfl,-,-⟩:=bu.o.sW.atI 0 (by have:=c9.o;omega);have g6:¬h.next<1:=hn;clear hz hd c6 c7 cf c3 eq hp ec hn;go_enter Tryz.func55,Tryz.ntmps55;go_wp2_with (first | (go_at_call 78;refine (zkv _ _ _ _).mono ?_;rintro r _ ⟨rfl,rfl⟩) | (go_at_call 73;refine eb.o.mono ?_));rw [<-d1.o];rintro r w1 ⟨eh,gx⟩;rw [<-d1.o]at a4;have cu:=ag eh;have d2:Hid (Below w.heap.size w w1):=a4.o.trans (eh.mono a4.o.size);clear eh eb;rcases gx with ⟨ys,I,vy,vo,cs,cp,rfl,em,el⟩ | ⟨co,a,n,c,a',n',c',rfl⟩
          ·have gk:=zhn (by have:=HZ.o.bg;omega) cs;have gg:=zhn (by have:=HZ.o.bk;omega) cp;have g9:=HZ.o.bg;have g8:=HZ.o.bk;have a8:Hid (gh d h=ig d h (ys++I) I):=by show gh d h=_;rw [c4.o,cs,cp]
           have bh:Hid ((ys.map bp.loc).length<=1000000/\(I.map bp.loc).length<=1000000/\ys.length+I.length<=900000):=⟨by rw [List.length_map];omega,by rw [List.length_map];omega,by omega⟩;have e3:Hid (SL 1 RI (· <w1.heap.size) w1 vy (ys.map bp.loc)):=(zfb em bh.o.1).monoI fun k hk=>hk.lt;have ea:Hid (SL 1 RI (· <w1.heap.size) w1 vo (I.map bp.loc)):=(zfb el bh.o.2.1).monoI fun k hk=>hk.lt;have d4:Hid (∀t∈ys++I,FitT d t/\0<=t.loc/\t.fin<=h.ab.length):=fun t ht=>by
            have z1:=HZ.o.ae;have z2:=HZ.o.old;have z3:=HZ.o.len;rcases List.mem_append.1 ht with ht | ht
            ·have A:=zkn cs t ht;exact ⟨zkp HD.o A (by omega) (by omega),by have:=A.1;omega,by have:=A.2.1;omega⟩
            have A:=zkn cp t ht;exact ⟨zkp HD.o A (by omega) (by omega),by have:=A.1;omega,by have:=A.2.1;omega⟩
           have e4:=ag (zn5 cs cp);obtain ⟨ay,cy,rfl⟩:=kh em;obtain ⟨aD,cD,rfl⟩:=kh el;have e0:=ag (zjy w1 3 1);have d3:Hid (Below w1.heap.size w1 (w1.alloc (.cells #[] 3))):=(br _ _).alloc (nlq _) _;have dl:=ag (e3.o.keptI (Kp.below d3.o));have ex:Hid ((([]:List Int).length+(ys.map bp.loc).length<=1000000)/\w1.heap.size<=(w1.alloc (.cells #[] 3)).heap.size):=⟨by rw [List.length_nil,Nat.zero_add];exact bh.o.1,by simp⟩;clear em el gk gg cs cp c4;have fe:(ys.map bp.loc).length=ys.length:=List.length_map _;have fa:(I.map bp.loc).length=I.length:=List.length_map _;have ez:=ag fe;have c0:=ag fa;clear fe fa;generalize hyl:ys.map bp.loc=yl at*;generalize hol:I.map bp.loc=ol at*;have e6:=ag hyl;have d6:=ag hol;clear hyl hol;go_wp2_with (at_builtin;refine zis _ rfl _ _ rfl w1.heap.size (.slice (some ⟨w1.heap.size,0,none⟩) 0 0) [] rfl e0.o (· <w1.heap.size) (.slice ay yl.length cy) yl rfl dl.o ex.o.1 ex.o.2 ?_);intro v2 w2 bq ds;have da:Below w1.heap.size w1 w2:=d3.o.grown ds (by simp) (fun k e=>by cases e;exact nlq _);have dk:=ag (ea.o.keptI (Kp.below da));obtain ⟨a2,c2,rfl⟩:=kh bq;have d5:=ag bq;have cv:=ag da;have fk:=da.size;have d0:Hid (yl.length+ol.length<=1000000):=by have h1:=bh.o.2.2;have h2:=ez.o;have h3:=c0.o;show _<=_;omega
           clear bq ds da dl e0;go_wp2_with (at_builtin;refine zis _ rfl _ _ rfl w1.heap.size (.slice a2 yl.length c2) yl rfl d5.o (· <w1.heap.size) (.slice aD ol.length cD) ol rfl dk.o d0.o fk ?_);intro v3 L cr du;have b3:Below w1.heap.size w1 L:=cv.o.grown du fk (fun k e=>(d5.o.lt k e).1);obtain ⟨ts,ca⟩:∃ts,ts=ys++I:=⟨_,rfl⟩;have D:(yl++ol)=ts.map bp.loc:=by rw [ca,List.map_append,e6.o,d6.o]
           have bs:L.ownsRow w1.heap.size 3 1 v3 ts.length (bv (ts.map bp.loc)):=by
            have e:ts.length=(yl++ol).length:=by rw [D,List.length_map]
            rw [<-D,e,List.length_append];exact cr
           obtain ⟨aA,cA,rfl⟩:=kh bs;have b7:(ts.map bp.loc).length<=1000000:=by rw [<-D,List.length_append];exact d0.o
           have HX:Hid (∀V,Below L.heap.size L V->Rd w.heap.size B V (.slice (some ⟨bW,oW,none⟩) h.ab.length cW) (.slice aO h.ap.length cO) (.slice aC d.aj.length cC) (.slice aS d.ax.length cS) (.slice aF d.fields.length cF) (.slice aN d.names.length cN) (.slice aT d.aq.length cT) h d/\SL 1 RI (· <L.heap.size) V (.slice aA ts.length cA) (ts.map bp.loc)/\SL 1 RI (· <L.heap.size) V (.slice aD I.length cD) (I.map bp.loc)):=fun V hV=>by
            have fl:=b3.size;have f2:Below W0.heap.size W0 V:=cu.o.trans ((b3.trans (hV.mono fl)).mono cu.o.size);refine ⟨bu.o.below f2,?_,?_⟩
            ·have:=zfb (ns:=ts.map bp.loc) (by rw [List.length_map];exact bs) b7;exact (this.monoI (M':=(· <L.heap.size)) fun k hk=>hk.lt).keptI (Kp.below hV)
            have:=(ea.o.keptI (Kp.below b3)).monoI (M':=(· <L.heap.size)) fun k hk=>ll3 hk fl;rw [d6.o,<-c0.o];exact this.keptI (Kp.below hV)
           have bf:Hid (∀V,Below L.heap.size L V->Below w.heap.size w V):=fun V hV=>d2.o.trans ((b3.trans (hV.mono b3.size)).mono d2.o.size);have c1:Hid (∀t∈I,t∈ts):=fun t ht=>by rw [ca];exact List.mem_append.2 (Or.inr ht)
           have cx:Hid (∀t∈ts,0<=t.loc/\t.fin<=h.ab.length):=fun t ht=>by rw [ca]at ht;exact (d4.o t ht).2
           have bx:Hid (∀t∈ts,∃Z:Nat,t.loc=Z/\∃(a6:Z+2<h.ab.length),FitT d t/\t=bj h.ab Z/\h.ab[Z+2]=t.hash):=fun t ht=>by
            rw [ca]at ht;obtain ⟨hf,h1,h2⟩:=d4.o t ht;have h3:=hf.lo;have h4:t.fin=t.loc+3+t.len:=rfl;have h5:=e4.o t ht;have h6:t.loc=(t.loc.toNat:Int):=by omega
            have h7:t.loc.toNat+2<h.ab.length:=by omega
            refine ⟨t.loc.toNat,h6,h7,hf,by rw [<-h6];exact h5,?_⟩;have h8:t.hash=wd h.ab (t.loc+2):=by rw [h5];rfl
            rw [h8,show t.loc+2=((t.loc.toNat+2:Nat):Int) by omega,zen h7]
           rw [<-ca]at a8;have ff:=c0.o;clear cr du b3 D bs b7 ca dk d5 cv d0 ez d4 e4 e3 ea e6 d3;rw [ff];clear ff c0 d6;have q0:ts.length<=9223372036854775807:=by obtain ⟨a,c,e,-,hm,-⟩:=(HX.o L (br _ _)).2.1;unfold maxLen at hm;rw [List.length_map]at hm;omega
           have he:I.length<=9223372036854775807:=by obtain ⟨a,c,e,-,hm,-⟩:=(HX.o L (br _ _)).2.2;unfold maxLen at hm;rw [List.length_map]at hm;omega
           go_wp2_with fail;go_loopw [9] (fun i wr=>∃k:Nat,k<=ts.length/\i=.int .i64 k/\Hid ((ts.take k).any (bad1 h)=false/\Below L.heap.size L wr)) (fun i _=>ts.length - (intOf i).toNat)
           case atStart=>exact ⟨0,n0q _,rfl,by simp,br _ _⟩
           case round=>
            rename World=>wr
            obtain ⟨k,hk,rfl,G⟩:=hrel;have ao:L.heap.size<=wr.heap.size:=G.o.2.size;by_cases D:k<ts.length
            ·obtain ⟨A,hA,-⟩:=HX.o wr G.o.2;obtain ⟨Z,ak,a6,ah,a7,bn⟩:=bx.o _ (gm D);have p0:=ba A.b0 0 (x:=.slice (some ⟨bW,oW,none⟩) h.ab.length cW) rfl;have p6:=ba A.b0 6 (x:=.int .i64 h.next) rfl;have lp:=bz A.b0;obtain ⟨bA,oA,rfl,b6,eA⟩:=hA.atI k (by simpa using D);rw [List.getElem_map,ak]at eA;obtain ⟨b',o',e',df,eW⟩:=A.sW.atI (Z+2) a6;cases e';rw [bn]at eW;have q1:(0:Int)<=k:=by omega
             have q2:(k:Int)<ts.length:=by omega
             have q3:(0:Int)<=(Z:Int)+2:=by omega
             have q4:(Z:Int)+2<h.ab.length:=by omega
             have q5:((Z:Int)+2).toNat=Z+2:=by omega
             have w2:IntKind.i64.wrap ((Z:Int)+2)=(Z:Int)+2:=ge _ (by omega) (by omega);cases hb:btw ts[k].hash 1 (h.next - 1)with
             | true=>
               have Y:Hid ((ts.take (k+1)).any (bad1 h)=false/\∀n,Below L.heap.size L (wr.drewN n)):=⟨zns D G.o.1 (by unfold bad1;rw [hb];rfl),fun n=>mp G.o.2 n⟩;generalize ts[k].hash=hs at*;clear A hA G ah a7 bn ak;go_wp2_with fail;go_quiet ((go_at_call 78;exact Calls.quiet_of_same (zkv _ _ _ _)));go_wp2_with fail;go_roundw
               case rel=>exact ⟨k+1,by omega,by go_num,Y.o.1,Y.o.2 _⟩
               case measure=>simp [intOf];omega
             | false=>
               have N:Hid (gh d h=3/\∀n,Below w.heap.size w (wr.drewN n)):=⟨a8.o.trans (by unfold ig;rw [if_pos (znt D (by unfold bad1;rw [hb];rfl))]),fun n=>mp (bf.o wr G.o.2) n⟩;generalize ts[k].hash=hs at*;clear A hA G ah a7 bn ak;go_wp2_with fail;go_quiet ((go_at_call 78;exact Calls.quiet_of_same (zkv _ _ _ _)));go_wp2_with fail;go_ret;exact ⟨by rw [N.o.1];rfl,N.o.2 _⟩
            have H1:Hid (ts.any (bad1 h)=false):=znu D G.o.1;have cu:=ag G.o.2;clear G;go_wp2_with fail;clear ao hk D;go_loopw [10] (fun i wr=>∃k:Nat,k<=ts.length/\i=.int .i64 k/\Hid (((ts.map bp.hash).take k).Nodup/\Below L.heap.size L wr)) (fun i _=>ts.length - (intOf i).toNat)
            case atStart=>exact ⟨0,n0q _,rfl,by simp,cu.o⟩
            case round=>
             rename World=>wr
             obtain ⟨k,hk,rfl,G⟩:=hrel;have ao:L.heap.size<=wr.heap.size:=G.o.2.size;by_cases D:k<ts.length
             ·have af:=ag G.o;clear G;go_wp2_with fail;go_loopw [11] (fun i wr=>∃j:Nat,j<=k/\i=.int .i64 j/\Hid (ts[k].hash∉((ts.map bp.hash).take j)/\Below L.heap.size L wr)) (fun i _=>k - (intOf i).toNat)
              case atStart=>exact ⟨0,n0q _,rfl,by simp,af.o.2⟩
              case round=>
               rename World=>wr
               obtain ⟨j,hj,rfl,G⟩:=hrel;by_cases f8:j<k
               ·obtain ⟨A,hA,-⟩:=HX.o wr G.o.2;have ai:j<ts.length:=by omega
                obtain ⟨Z,ak,a6,-,-,bn⟩:=bx.o _ (gm D);obtain ⟨lm,ei,gl,-,-,ej⟩:=bx.o _ (gm ai);have p0:=ba A.b0 0 (x:=.slice (some ⟨bW,oW,none⟩) h.ab.length cW) rfl;have lp:=bz A.b0;obtain ⟨bA,oA,rfl,b6,eA⟩:=hA.atI k (by simpa using D);obtain ⟨f1,g2,ef,-,eB⟩:=hA.atI j (by simpa using ai);cases ef;rw [List.getElem_map,ak]at eA;rw [List.getElem_map,ei]at eB;obtain ⟨b',o',e',df,eW⟩:=A.sW.atI (Z+2) a6;cases e';rw [bn]at eW;obtain ⟨b',o',e',-,eV⟩:=A.sW.atI (lm+2) gl;cases e';rw [ej]at eV;have q1:(0:Int)<=k:=by omega
                have q2:(k:Int)<ts.length:=by omega
                have r1:(0:Int)<=j:=by omega
                have r2:(j:Int)<ts.length:=by omega
                have r6:(j:Int)<k:=by omega
                have q3:(0:Int)<=(Z:Int)+2:=by omega
                have q4:(Z:Int)+2<h.ab.length:=by omega
                have q5:((Z:Int)+2).toNat=Z+2:=by omega
                have w2:IntKind.i64.wrap ((Z:Int)+2)=(Z:Int)+2:=ge _ (by omega) (by omega);have r3:(0:Int)<=(lm:Int)+2:=by omega
                have r4:(lm:Int)+2<h.ab.length:=by omega
                have r5:((lm:Int)+2).toNat=lm+2:=by omega
                have w3:IntKind.i64.wrap ((lm:Int)+2)=(lm:Int)+2:=ge _ (by omega) (by omega);by_cases hh:ts[k].hash=ts[j].hash
                ·have N:Hid (gh d h=6/\∀n,Below w.heap.size w (wr.drewN n)):=⟨a8.o.trans (by
                  unfold ig;have:¬(ts.map bp.hash).Nodup:=zny (l:=ts.map bp.hash) (k:=k) (j:=j) (by simpa using D) f8 (by simpa using hh.symm);rw [if_neg (by rw [H1.o];decide),if_pos (by rw [decide_eq_false this];rfl)]),fun n=>mp (bf.o wr G.o.2) n⟩
                 have f6:(ts[k].hash==ts[j].hash)=true:=beq_iff_eq.2 hh;generalize ts[k].hash=x at*;generalize ts[j].hash=y at*;clear A hA G bn ej ak ei af hh;go_wp2_with fail;go_quiet (fail);go_wp2_with fail;go_ret;exact ⟨by rw [N.o.1];rfl,N.o.2 _⟩
                have f6:(ts[k].hash==ts[j].hash)=false:=beq_eq_false_iff_ne.2 hh;have Y:Hid (ts[k].hash∉((ts.map bp.hash).take (j+1))/\∀n,Below L.heap.size L (wr.drewN n)):=⟨by
                 rw [List.take_succ_eq_append_getElem (by simpa using ai),List.mem_append];rintro (hm | hm)
                 ·exact G.o.1 hm
                 simp at hm;exact hh hm,fun n=>mp G.o.2 n⟩
                generalize ts[k].hash=x at*;generalize ts[j].hash=y at*;clear A hA G bn ej ak ei af;go_wp2_with fail;go_quiet (fail);go_wp2_with fail;go_roundw
                case rel=>exact ⟨j+1,by omega,by go_num,Y.o.1,Y.o.2 _⟩
                case measure=>simp [intOf];omega
               have f7:j=k:=by omega
               have Y:Hid (((ts.map bp.hash).take (k+1)).Nodup/\Below L.heap.size L wr):=⟨znx (by simpa using D) af.o.1 (by rw [List.getElem_map];have:=G.o.1;rw [f7]at this;exact this),G.o.2⟩;clear G af;go_wp2_with fail;go_roundw
               case rel=>exact ⟨k+1,by omega,by go_num,Y.o.1,Y.o.2⟩
               case measure=>simp [intOf];omega
             have H2:Hid ((ts.map bp.hash).Nodup):=by have:=G.o.1;rwa [List.take_of_length_le (by rw [List.length_map];omega)]at this
             have cv:=ag G.o.2;clear G;go_wp2_with fail;clear ao hk D;go_loopw [12] (fun i wr=>∃k:Nat,k<=ts.length/\i=.int .i64 k/\Hid ((ts.take k).any (bad3 d h ts)=false/\Below L.heap.size L wr)) (fun i _=>ts.length - (intOf i).toNat)
             case atStart=>exact ⟨0,n0q _,rfl,by simp,cv.o⟩
             case round=>
              rename World=>wr
              obtain ⟨k,hk,rfl,G⟩:=hrel;have ao:L.heap.size<=wr.heap.size:=G.o.2.size;by_cases D:k<ts.length
              ·obtain ⟨A,hA,-⟩:=HX.o wr G.o.2;obtain ⟨Z,ak,a6,ah,a7,-⟩:=bx.o _ (gm D);have p0:=ba A.b0 0 (x:=.slice (some ⟨bW,oW,none⟩) h.ab.length cW) rfl;have p1:=ba A.b0 1 (x:=.int .i64 h.ae) rfl;have p2:=ba A.b0 2 (x:=.int .i64 h.old) rfl;have p3:=ba A.b0 3 (x:=.int .i64 h.bg) rfl;have p4:=ba A.b0 4 (x:=.int .i64 h.bk) rfl;have p5:=ba A.b0 5 (x:=.slice aO h.ap.length cO) rfl;have p6:=ba A.b0 6 (x:=.int .i64 h.next) rfl;have lp:=bz A.b0;have y0:=ba A.b1 0 (x:=.slice aC d.aj.length cC) rfl;have y1:=ba A.b1 1 (x:=.slice aS d.ax.length cS) rfl;have y2:=ba A.b1 2 (x:=.slice aF d.fields.length cF) rfl;have y3:=ba A.b1 3 (x:=.slice aN d.names.length cN) rfl;have y4:=ba A.b1 4 (x:=.slice aT d.aq.length cT) rfl;have ly:=bz A.b1;obtain ⟨bA,oA,rfl,b6,eA⟩:=hA.atI k (by simpa using D);rw [List.getElem_map,ak]at eA;have q1:(0:Int)<=k:=by omega
               have q2:(k:Int)<ts.length:=by omega
               have av:Hid (∀V,Below wr.heap.size wr V->Calls Tryz.prog 87 #[.agg #[.slice (some ⟨bW,oW,none⟩) h.ab.length cW,.int .i64 h.ae,.int .i64 h.old,.int .i64 h.bg,.int .i64 h.bk,.slice aO h.ap.length cO,.int .i64 h.next],.agg #[.slice aC d.aj.length cC,.slice aS d.ax.length cS,.slice aF d.fields.length cF,.slice aN d.names.length cN,.slice aT d.aq.length cT],.int .i64 (Z:Int)] V fun r w'=>Below V.heap.size V w'/\∃v,r=.returned v/\w'.ownsRow V.heap.size 3 1 v (refsOf d.fields ts[k]).length (bv (refsOf d.fields ts[k]))):=fun V hV=>by have ac:=A.below hV;rw [a7]at ah ⊢;exact znq V B _ _ _ _ _ _ _ h d ac.sW ac.sO ac.lk (by have:=ac.le;have:=bz ac.b0;omega) Z a6 (by have:=c9.o;omega) ah
               have d8:Hid (∀a∈refsOf d.fields ts[k],∃an:Nat,a=an/\an<h.ab.length):=fun a E=>by have:=zh2 d.fields ts[k] E;have h2:=(cx.o _ (gm D)).1;have h3:=(cx.o _ (gm D)).2;have h4:ts[k].fin=ts[k].loc+3+ts[k].len:=rfl;exact ⟨a.toNat,by omega,by omega⟩
               have cc:Hid ((refsOf d.fields ts[k]).length<=1000000):=by have:=zhr d.fields ts[k] ts[k].len.toNat;have h3:=ah.hi;have:(refsOf d.fields ts[k]).length<=ts[k].len.toNat:=this;show _<=_;omega
               have af:=ag G.o;have bi:Hid ((refsOf d.fields ts[k]).any (bad3a h ts)=bad3 d h ts ts[k]):=rfl;generalize refsOf d.fields ts[k]=rf at*;clear A hA G ah a7;go_wp2_with fail;refine wp_region_held_drew (S:=fun W'=>∀p:Addr,p.block<wr.heap.size->W'.cell? p=wr.cell? p) (by kernel_rfl) (fun p hp=>rfl) fun u=>?_;refine zag 8 rfl fun a E=>?_;have W:a.tmps.size=288:=by rw [E];rfl
               have X:∀h,a.tmps[2]'h=.pointer (some ⟨w.heap.size,0,none⟩):=by rw [E];exact fun _=>rfl
               have aw:∀h,a.tmps[3]'h=.pointer (some ⟨w.heap.size+1,0,none⟩):=by rw [E];exact fun _=>rfl
               have g3:∀h,a.tmps[8]'h=.slice (some ⟨bA,oA,none⟩) ts.length cA:=by rw [E];exact fun _=>rfl
               have fo:∀h,a.tmps[12]'h=.int .i64 (k:Int):=by rw [E];exact fun _=>rfl
               have HA:=ag E;clear E;refine iw 0 137 (.agg #[.slice (some ⟨bW,oW,none⟩) h.ab.length cW,.int .i64 h.ae,.int .i64 h.old,.int .i64 h.bg,.int .i64 h.bk,.slice aO h.ap.length cO,.int .i64 h.next]) rfl u ?_;refine iw 1 138 (.agg #[.slice aC d.aj.length cC,.slice aS d.ax.length cS,.slice aF d.fields.length cF,.slice aN d.names.length cN,.slice aT d.aq.length cT]) rfl u ?_;refine iw 2 139 (.slice (some ⟨bA,oA,none⟩) ts.length cA) rfl u ?_;refine iw 3 140 (.int .i64 (k:Int)) rfl u ?_;refine iw 4 141 (.pointer (some ⟨bA,oA+k,none⟩)) rfl u ?_;refine iw 5 142 (.int .i64 (Z:Int)) rfl u ?_;refine wpAnyH_ready (rs:=[6]) (by kernel_rfl) (by simp) ?_;refine AllReadyH.cons rfl (fun K6 eg=>?_) AllReadyH.nil;go_simp;refine (av.o _ (br _ _).drew).mono ?_;rintro r w5 ⟨a1,v5,rfl,al⟩;have aa:Below wr.heap.size wr w5:=(br wr.heap.size wr).drew.trans a1;refine eg.o _ _ (fun p hp=>aa.cell hp) fun u=>?_;rw [zab];refine iw 7 13 (v5) rfl u ?_;refine wpAnyH_done (by kernel_rfl) ?_ _;clear u;rw [HA.o];clear HA W X aw g3 fo;simp only [Act.put,p1q,p4q,p3q];have b2:Hid (∀V,Below w5.heap.size w5 V->Below L.heap.size L V/\SL 1 RI (· <w5.heap.size) V v5 rf):=fun V hV=>by have en:=aa.size;refine ⟨af.o.2.trans ((aa.trans (hV.mono en)).mono ao),?_⟩;exact ((zfb al cc.o).monoI (M':=(· <w5.heap.size)) fun k hk=>hk.lt).keptI (Kp.below hV)
               obtain ⟨a5,c5,rfl⟩:=kh al;have q9:rf.length<=1000000:=cc.o;have eu:Hid (Below L.heap.size L w5):=(b2.o w5 (br _ _)).1;clear a1 aa al p0 p1 p2 p3 p4 p5 p6 y0 y1 y2 y3 y4 lp ly eA b6 av;go_wp2_with fail;go_loopw [14] (fun i wr=>∃j:Nat,j<=rf.length/\i=.int .i64 j/\Hid ((rf.take j).any (bad3a h ts)=false/\Below w5.heap.size w5 wr)) (fun i _=>rf.length - (intOf i).toNat)
               case atStart=>exact ⟨0,n0q _,rfl,by simp,br _ _⟩
               case round=>
                rename World=>wr
                obtain ⟨j,hj,rfl,G⟩:=hrel;by_cases ai:j<rf.length
                ·obtain ⟨bl,cl⟩:=b2.o wr G.o.2;obtain ⟨A,hA,-⟩:=HX.o wr bl;obtain ⟨an,bm,cm⟩:=d8.o _ (gm ai);have p0:=ba A.b0 0 (x:=.slice (some ⟨bW,oW,none⟩) h.ab.length cW) rfl;have lp:=bz A.b0;obtain ⟨b5,o5,rfl,a1,e5⟩:=cl.atI j ai;rw [bm]at e5;obtain ⟨b',o',e',df,eW⟩:=A.sW.atI an cm;cases e';have r1:(0:Int)<=j:=by omega
                 have r2:(j:Int)<rf.length:=by omega
                 have q3:(0:Int)<=(an:Int):=by omega
                 have q4:(an:Int)<h.ab.length:=by omega
                 have au:Hid (∀V n,V=wr.drewN n->Calls Tryz.prog 74 #[.slice (some ⟨bA,oA,none⟩) ts.length cA,.int .i64 h.ab[an]] V fun r w'=>r=.returned (.bool ((ts.map bp.loc).contains h.ab[an]))/\w'=V):=fun V n e=>by have hv:=hA.keptI (Kp.below (mp (br L.heap.size wr) n));subst e;simpa using zkz _ _ _ _ hv h.ab[an]
                 have F:Hid (bad3a h ts rf[j]=(h.ab[an] != 0&& !(ts.map bp.loc).contains h.ab[an])):=by show bad3a h ts rf[j]=_;unfold bad3a;rw [bm,zen cm]
                 have O:Hid (bad3a h ts rf[j]=false->(rf.take (j+1)).any (bad3a h ts)=false/\∀n,Below w5.heap.size w5 (wr.drewN n)):=fun hb=>⟨zns ai G.o.1 hb,fun n=>mp G.o.2 n⟩;have J:Hid (bad3a h ts rf[j]=true->gh d h=5/\∀n,Below w.heap.size w (wr.drewN n)):=fun hb=>⟨a8.o.trans (by
                  unfold ig;rw [if_neg (by rw [H1.o];decide),if_neg (by rw [decide_eq_true H2.o];decide),if_pos (znt D (by rw [<-bi.o];exact znt ai hb))]),fun n=>mp (bf.o wr bl) n⟩
                 generalize rf[j]=a at*;generalize h.ab[an]=x at*;generalize (ts.map bp.loc).contains x=ct at*;clear A hA cl bl G bm af bi;by_cases hx:x=0
                 ·subst hx;have Y:=ag (O.o (F.o.trans (by simp)));clear O J F au;go_wp2_with fail;go_quiet (fail);go_wp2_with fail;go_roundw
                  case rel=>exact ⟨j+1,by omega,by go_num,Y.o.1,Y.o.2 _⟩
                  case measure=>simp [intOf];omega
                 have es:(x==0)=false:=beq_eq_false_iff_ne.2 hx;cases ct with
                 | true=>
                   have Y:=ag (O.o (F.o.trans (by simp)));clear O J F;go_wp2_with fail;go_quiet ((go_at_call 74;exact Calls.quiet_of_same (au.o _ _ rfl)));go_wp2_with fail;go_roundw
                   case rel=>exact ⟨j+1,by omega,by go_num,Y.o.1,Y.o.2 _⟩
                   case measure=>simp [intOf];omega
                 | false=>
                   have N:=ag (J.o (F.o.trans (by simp [bne,es])));clear O J F;go_wp2_with fail;go_quiet ((go_at_call 74;exact Calls.quiet_of_same (au.o _ _ rfl)));go_wp2_with fail;go_ret;exact ⟨by rw [N.o.1];rfl,N.o.2 _⟩
                have Y:Hid ((ts.take (k+1)).any (bad3 d h ts)=false/\Below L.heap.size L wr):=⟨zns D af.o.1 (by rw [<-bi.o];exact znu ai G.o.1),(b2.o wr G.o.2).1⟩;clear G af;go_wp2_with fail;go_roundw
                case rel=>exact ⟨k+1,by omega,by go_num,Y.o.1,Y.o.2⟩
                case measure=>simp [intOf];omega
              have H3:Hid (ts.any (bad3 d h ts)=false):=znu D G.o.1;have fr:=ag G.o.2;clear G;go_wp2_with fail;clear ao hk D;go_loopw [15] (fun i wr=>∃k:Nat,k<=h.ab.length/\i=.int .i64 k/\Hid ((∀j,j<k->bad4 h j=false)/\Below L.heap.size L wr)) (fun i _=>h.ab.length - (intOf i).toNat)
              case atStart=>exact ⟨0,n0q _,rfl,(fun j hj=>by omega),fr.o⟩
              case round=>
               rename World=>wr
               obtain ⟨k,hk,rfl,G⟩:=hrel;have ao:L.heap.size<=wr.heap.size:=G.o.2.size;obtain ⟨A,-,-⟩:=HX.o wr G.o.2;have p0:=ba A.b0 0 (x:=.slice (some ⟨bW,oW,none⟩) h.ab.length cW) rfl;have p1:=ba A.b0 1 (x:=.int .i64 h.ae) rfl;have p3:=ba A.b0 3 (x:=.int .i64 h.bg) rfl;have p4:=ba A.b0 4 (x:=.int .i64 h.bk) rfl;have lp:=bz A.b0;by_cases D:k<h.ab.length
               ·obtain ⟨b',o',e',df,eW⟩:=A.sW.atI k D;cases e';have q1:(0:Int)<=k:=by omega
                have q2:(k:Int)<h.ab.length:=by omega
                have F:Hid (bad4 h k=(h.ab[k] != 0&&(k==0||btw k h.bg h.ae||decide (h.bk<=k)))):=by show bad4 h k=_;unfold bad4;rw [zen D]
                have O:Hid (bad4 h k=false->(∀j,j<k+1->bad4 h j=false)/\Below L.heap.size L wr):=fun hb=>⟨fun j hj=>by
                 by_cases e:j=k
                 ·rw [e];exact hb
                 exact G.o.1 j (by omega),G.o.2⟩
                have J:Hid (bad4 h k=true->gh d h=1/\Below w.heap.size w wr):=fun hb=>⟨a8.o.trans (by
                 unfold ig;rw [if_neg (by rw [H1.o];decide),if_neg (by rw [decide_eq_true H2.o];decide),if_neg (by rw [H3.o];decide),if_pos (znv D hb)]),bf.o wr G.o.2⟩
                generalize h.ab[k]=x at*;clear A G;have dg:((k:Int)==0)=(k==0):=by cases k<;>simp;omega
                by_cases hx:x=0
                ·subst hx;have Y:=ag (O.o (F.o.trans (by simp)));clear O J F;go_wp2_with (first | (go_at_call 78;refine (zkv _ _ _ _).mono ?_;rintro r _ ⟨rfl,rfl⟩));go_roundw
                 case rel=>exact ⟨k+1,by omega,by go_num,Y.o.1,Y.o.2⟩
                 case measure=>simp [intOf];omega
                have es:(x==0)=false:=beq_eq_false_iff_ne.2 hx;have g1:(x != 0)=true:=by simp [bne,es]
                rw [g1,Bool.true_and]at F;by_cases cn:(k:Int)=0
                ·have az:(k==0)=true:=by simp;omega
                 have gb:((k:Int)==0)=true:=beq_iff_eq.2 cn;have N:=ag (J.o (F.o.trans (by rw [az];rfl)));clear O J F cn az dg;go_wp2_with (first | (go_at_call 78;refine (zkv _ _ _ _).mono ?_;rintro r _ ⟨rfl,rfl⟩));go_ret;exact ⟨by rw [N.o.1];rfl,N.o.2⟩
                have az:(k==0)=false:=by simp;omega
                have gb:((k:Int)==0)=false:=beq_eq_false_iff_ne.2 cn;rw [az,Bool.false_or]at F;cases hbt:btw k h.bg h.ae with
                | true=>
                  have N:=ag (J.o (F.o.trans (by rw [hbt];rfl)));clear O J F az dg;go_wp2_with (first | (go_at_call 78;refine (zkv _ _ _ _).mono ?_;rintro r _ ⟨rfl,rfl⟩));go_ret;exact ⟨by rw [N.o.1];rfl,N.o.2⟩
                | false=>
                  by_cases fi:h.bk<=k
                  ·have N:=ag (J.o (F.o.trans (by rw [hbt];simp [fi])));clear O J F az dg;go_wp2_with (first | (go_at_call 78;refine (zkv _ _ _ _).mono ?_;rintro r _ ⟨rfl,rfl⟩));go_ret;exact ⟨by rw [N.o.1];rfl,N.o.2⟩
                  have Y:=ag (O.o (F.o.trans (by rw [hbt];simp [fi]<;>omega)));clear O J F az dg;go_wp2_with (first | (go_at_call 78;refine (zkv _ _ _ _).mono ?_;rintro r _ ⟨rfl,rfl⟩));go_roundw
                  case rel=>exact ⟨k+1,by omega,by go_num,Y.o.1,Y.o.2⟩
                  case measure=>simp [intOf];omega
               have H4:Hid ((List.range h.ab.length).any (bad4 h)=false):=znw fun j hj=>G.o.1 j (by omega);have ft:=ag G.o.2;clear G A;go_wp2_with fail;clear ao hk D p0 p1 p3 p4 lp;go_loopw [16] (fun i wr=>∃k:Nat,k<=h.ap.length/\i=.int .i64 k/\Hid ((∀j,j<k->bad5 d h I j=false)/\Below L.heap.size L wr)) (fun i _=>h.ap.length - (intOf i).toNat)
               case atStart=>exact ⟨0,n0q _,rfl,(fun j hj=>by omega),ft.o⟩
               case round=>
                rename World=>wr
                obtain ⟨k,hk,rfl,G⟩:=hrel;have ao:L.heap.size<=wr.heap.size:=G.o.2.size;obtain ⟨A,-,hD⟩:=HX.o wr G.o.2;have p0:=ba A.b0 0 (x:=.slice (some ⟨bW,oW,none⟩) h.ab.length cW) rfl;have p1:=ba A.b0 1 (x:=.int .i64 h.ae) rfl;have p2:=ba A.b0 2 (x:=.int .i64 h.old) rfl;have p3:=ba A.b0 3 (x:=.int .i64 h.bg) rfl;have p4:=ba A.b0 4 (x:=.int .i64 h.bk) rfl;have p5:=ba A.b0 5 (x:=.slice aO h.ap.length cO) rfl;have p6:=ba A.b0 6 (x:=.int .i64 h.next) rfl;have lp:=bz A.b0;have y0:=ba A.b1 0 (x:=.slice aC d.aj.length cC) rfl;have y1:=ba A.b1 1 (x:=.slice aS d.ax.length cS) rfl;have y2:=ba A.b1 2 (x:=.slice aF d.fields.length cF) rfl;have y3:=ba A.b1 3 (x:=.slice aN d.names.length cN) rfl;have y4:=ba A.b1 4 (x:=.slice aT d.aq.length cT) rfl;have ly:=bz A.b1;by_cases D:k<h.ap.length
                ·obtain ⟨bN,oN,rfl,g4,eN⟩:=A.sO.atI k D;have q1:(0:Int)<=k:=by omega
                 have q2:(k:Int)<h.ap.length:=by omega
                 have au:Hid (∀V,Below wr.heap.size wr V->Calls Tryz.prog 74 #[.slice aD I.length cD,.int .i64 h.ap[k]] V fun r w'=>r=.returned (.bool ((I.map bp.loc).contains h.ap[k]))/\w'=V):=fun V hV=>by have hv:=hD.keptI (Kp.below (hV.mono ao));simpa using zkz _ _ _ _ hv h.ap[k]
                 have av:Hid ((I.map bp.loc).contains h.ap[k]=true->∀V,Below wr.heap.size wr V->Calls Tryz.prog 87 #[.agg #[.slice (some ⟨bW,oW,none⟩) h.ab.length cW,.int .i64 h.ae,.int .i64 h.old,.int .i64 h.bg,.int .i64 h.bk,.slice (some ⟨bN,oN,none⟩) h.ap.length cO,.int .i64 h.next],.agg #[.slice aC d.aj.length cC,.slice aS d.ax.length cS,.slice aF d.fields.length cF,.slice aN d.names.length cN,.slice aT d.aq.length cT],.int .i64 h.ap[k]] V fun r w'=>Below V.heap.size V w'/\∃a c,r=.returned (.slice a (refsOf d.fields (bj h.ab h.ap[k])).length c)):=fun f3 V hV=>by obtain ⟨t,ht,e⟩:=List.mem_map.1 (List.contains_iff_mem.1 f3);obtain ⟨Z,ak,a6,ah,a7,-⟩:=bx.o t (c1.o t ht);have ac:=A.below hV;rw [<-e,ak];rw [a7]at ah;refine (znq V B _ _ _ _ _ _ _ h d ac.sW ac.sO ac.lk (by have:=ac.le;have:=bz ac.b0;omega) Z a6 (by have:=c9.o;omega) ah).mono ?_;rintro r w' ⟨hb,v,rfl,ho⟩;obtain ⟨a,c,rfl⟩:=kh ho;exact ⟨hb,a,c,rfl⟩
                 have F:Hid (bad5 d h I k=(decide (0<k/\wd h.ap k<=wd h.ap ((k:Int) - 1))|| !(I.map bp.loc).contains h.ap[k]||(refsOf d.fields (bj h.ab h.ap[k])).isEmpty)):=by show bad5 d h I k=_;unfold bad5;rw [zen D]
                 have O:Hid (bad5 d h I k=false->(∀j,j<k+1->bad5 d h I j=false)/\∀V,Below wr.heap.size wr V->Below L.heap.size L V):=fun hb=>⟨fun j hj=>by
                  by_cases e:j=k
                  ·rw [e];exact hb
                  exact G.o.1 j (by omega),fun V hV=>G.o.2.trans (hV.mono ao)⟩
                 have J:Hid (bad5 d h I k=true->gh d h=4/\∀V,Below wr.heap.size wr V->Below w.heap.size w V):=fun hb=>⟨a8.o.trans (by
                  unfold ig;rw [if_neg (by rw [H1.o];decide),if_neg (by rw [decide_eq_true H2.o];decide),if_neg (by rw [H3.o];decide),if_neg (by rw [H4.o];decide),if_pos (znv D hb)]),fun V hV=>bf.o V (G.o.2.trans (hV.mono ao))⟩
                 have e9:(refsOf d.fields (bj h.ab h.ap[k])).isEmpty=decide (((refsOf d.fields (bj h.ab h.ap[k])).length:Int)=0):=by cases refsOf d.fields (bj h.ab h.ap[k])<;>simp;omega
                 rw [e9]at F;clear e9;generalize (refsOf d.fields (bj h.ab h.ap[k])).length=rl at*;have ch:Hid (wd h.ap k=h.ap[k]):=zen D;generalize (I.map bp.loc).contains h.ap[k]=ct at*;by_cases cn:0<(k:Int)
                 ·obtain ⟨k1,az⟩:∃k1:Nat,(k:Int) - 1=k1:=⟨k - 1,by omega⟩;have dz:k1<h.ap.length:=by omega
                  obtain ⟨b',o',e',-,eM⟩:=A.sO.atI k1 dz;cases e';have c8:Hid (wd h.ap ((k:Int) - 1)=h.ap[k1]):=by show _=_;rw [az];exact zen dz
                  have wk:IntKind.i64.wrap ((k:Int) - 1)=(k1:Int):=by rw [az];exact ge _ (by omega) (by omega)
                  have q3:(0:Int)<=k1:=by omega
                  have q4:(k1:Int)<h.ap.length:=by omega
                  have f4:decide (0<(k:Int))=true:=by simp;omega
                  by_cases b7:h.ap[k]<=h.ap[k1]
                  ·have f5:decide (h.ap[k]<=h.ap[k1])=true:=by simp [b7]
                   have N:=ag (J.o (F.o.trans (by rw [ch.o,c8.o,decide_eq_true ⟨by omega,b7⟩];rfl)));generalize h.ap[k]=n0 at*;generalize h.ap[k1]=n1 at*;clear A hD G O J F av au ch c8 az;go_wp2_with fail;refine wp_region_held_drew (S:=fun W'=>∀p:Addr,p.block<wr.heap.size->W'.cell? p=wr.cell? p) (by kernel_rfl) (fun p hp=>rfl) fun u=>?_;refine zag 38 rfl fun a E=>?_;have W:a.tmps.size=288:=by rw [E];rfl
                   have X:∀h,a.tmps[2]'h=.pointer (some ⟨w.heap.size,0,none⟩):=by rw [E];exact fun _=>rfl
                   have aw:∀h,a.tmps[3]'h=.pointer (some ⟨w.heap.size+1,0,none⟩):=by rw [E];exact fun _=>rfl
                   have ad:∀h,a.tmps[6]'h=.slice aD I.length cD:=by rw [E];exact fun _=>rfl
                   have ar:∀h,a.tmps[16]'h=.int .i64 (k:Int):=by rw [E];exact fun _=>rfl
                   have HA:=ag E;clear E;refine iw 0 210 (.int .i64 (k:Int)) rfl u ?_;refine tk 1 211 (.bool true) rfl (by kernel_rfl) (fun _ _ _ h=>h) ?_ u ?_
                   ·intro w dd;go_simp;omega
                   refine iw 2 212 (.bool true) rfl u ?_;refine dp 3 213 2 212 true (.pointer (some ⟨w.heap.size,5,none⟩)) rfl rfl u ?_;refine dp 4 214 2 212 true (.slice (some ⟨bN,oN,none⟩) h.ap.length cO) rfl rfl u ?_;refine dp 5 215 2 212 true (.int .i64 (k:Int)) rfl rfl u ?_;refine dp 6 216 2 212 true (.pointer (some ⟨bN,oN+k,none⟩)) rfl rfl u ?_;refine dp 7 217 2 212 true (.int .i64 n0) rfl rfl u ?_;refine dp 8 218 2 212 true (.pointer (some ⟨w.heap.size,5,none⟩)) rfl rfl u ?_;refine dp 9 219 2 212 true (.slice (some ⟨bN,oN,none⟩) h.ap.length cO) rfl rfl u ?_;refine dp 10 220 2 212 true (.int .i64 (k:Int)) rfl rfl u ?_;refine dp 11 221 2 212 true (.int .i64 (k1:Int)) rfl rfl u ?_;refine dp 12 222 2 212 true (.pointer (some ⟨bN,oN+k1,none⟩)) rfl rfl u ?_;refine dp 13 223 2 212 true (.int .i64 n1) rfl rfl u ?_;refine dp 14 224 2 212 true (.bool true) rfl rfl u ?_;refine iw 15 225 (.bool true) rfl u ?_;refine iw 16 226 (.bool true) rfl u ?_;refine fh 17 227 16 226 false rfl rfl u ?_;refine fh 18 228 16 226 false rfl rfl u ?_;refine fh 19 229 16 226 false rfl rfl u ?_;refine fh 20 230 16 226 false rfl rfl u ?_;refine fh 21 231 16 226 false rfl rfl u ?_;refine fh 22 232 16 226 false rfl rfl u ?_;refine fh 23 233 16 226 false rfl rfl u ?_;refine fh 24 234 16 226 false rfl rfl u ?_;refine iw 25 235 (.bool true) rfl u ?_;refine iw 26 236 (.bool true) rfl u ?_;refine fh 27 237 26 236 false rfl rfl u ?_;refine fh 28 238 26 236 false rfl rfl u ?_;refine fh 29 239 26 236 false rfl rfl u ?_;refine fh 30 240 26 236 false rfl rfl u ?_;refine fh 31 241 26 236 false rfl rfl u ?_;refine fh 32 242 26 236 false rfl rfl u ?_;refine fh 33 243 26 236 false rfl rfl u ?_;refine fh 34 244 26 236 false rfl rfl u ?_;refine fh 35 245 26 236 false rfl rfl u ?_;refine fh 36 246 26 236 false rfl rfl u ?_;refine iw 37 247 (.bool true) rfl u ?_;refine wpAnyH_done (by kernel_rfl) ?_ _;clear u;rw [HA.o];clear HA W X aw ad ar;simp only [Act.put,p1q,p4q,p3q];go_wp2_with fail;go_ret;exact ⟨by rw [N.o.1];rfl,N.o.2 _ (br _ _).drew⟩
                  have f5:decide (h.ap[k]<=h.ap[k1])=false:=by simp;omega
                  rw [ch.o,c8.o,decide_eq_false (fun hh=>b7 hh.2),Bool.false_or]at F;generalize h.ap[k]=n0 at*;generalize h.ap[k1]=n1 at*;clear A hD G ch c8 az;cases ct with
                  | false=>
                    have N:=ag (J.o (F.o.trans (by simp)));clear O J F av;go_wp2_with fail;refine wp_region_held_drew (S:=fun W'=>∀p:Addr,p.block<wr.heap.size->W'.cell? p=wr.cell? p) (by kernel_rfl) (fun p hp=>rfl) fun u=>?_;refine zag 38 rfl fun a E=>?_;have W:a.tmps.size=288:=by rw [E];rfl
                    have X:∀h,a.tmps[2]'h=.pointer (some ⟨w.heap.size,0,none⟩):=by rw [E];exact fun _=>rfl
                    have aw:∀h,a.tmps[3]'h=.pointer (some ⟨w.heap.size+1,0,none⟩):=by rw [E];exact fun _=>rfl
                    have ad:∀h,a.tmps[6]'h=.slice aD I.length cD:=by rw [E];exact fun _=>rfl
                    have ar:∀h,a.tmps[16]'h=.int .i64 (k:Int):=by rw [E];exact fun _=>rfl
                    have HA:=ag E;clear E;refine iw 0 210 (.int .i64 (k:Int)) rfl u ?_;refine tk 1 211 (.bool true) rfl (by kernel_rfl) (fun _ _ _ h=>h) ?_ u ?_
                    ·intro w dd;go_simp;omega
                    refine iw 2 212 (.bool true) rfl u ?_;refine dp 3 213 2 212 true (.pointer (some ⟨w.heap.size,5,none⟩)) rfl rfl u ?_;refine dp 4 214 2 212 true (.slice (some ⟨bN,oN,none⟩) h.ap.length cO) rfl rfl u ?_;refine dp 5 215 2 212 true (.int .i64 (k:Int)) rfl rfl u ?_;refine dp 6 216 2 212 true (.pointer (some ⟨bN,oN+k,none⟩)) rfl rfl u ?_;refine dp 7 217 2 212 true (.int .i64 n0) rfl rfl u ?_;refine dp 8 218 2 212 true (.pointer (some ⟨w.heap.size,5,none⟩)) rfl rfl u ?_;refine dp 9 219 2 212 true (.slice (some ⟨bN,oN,none⟩) h.ap.length cO) rfl rfl u ?_;refine dp 10 220 2 212 true (.int .i64 (k:Int)) rfl rfl u ?_;refine dp 11 221 2 212 true (.int .i64 (k1:Int)) rfl rfl u ?_;refine dp 12 222 2 212 true (.pointer (some ⟨bN,oN+k1,none⟩)) rfl rfl u ?_;refine dp 13 223 2 212 true (.int .i64 n1) rfl rfl u ?_;refine dp 14 224 2 212 true (.bool false) rfl rfl u ?_;refine iw 15 225 (.bool false) rfl u ?_;refine iw 16 226 (.bool false) rfl u ?_;refine dp 17 227 16 226 false (.slice aD I.length cD) rfl rfl u ?_;refine dp 18 228 16 226 false (.pointer (some ⟨w.heap.size,5,none⟩)) rfl rfl u ?_;refine dp 19 229 16 226 false (.slice (some ⟨bN,oN,none⟩) h.ap.length cO) rfl rfl u ?_;refine dp 20 230 16 226 false (.int .i64 (k:Int)) rfl rfl u ?_;refine dp 21 231 16 226 false (.pointer (some ⟨bN,oN+k,none⟩)) rfl rfl u ?_;refine dp 22 232 16 226 false (.int .i64 n0) rfl rfl u ?_;refine wpAnyH_ready (rs:=[23]) (by kernel_rfl) (by simp) ?_;refine AllReadyH.cons rfl (fun ee a0=>?_) AllReadyH.nil;go_simp;refine (au.o _ (br _ _).drew).mono ?_;rintro r _ ⟨rfl,rfl⟩;refine a0.o _ _ (fun p hp=>rfl) fun u=>?_;rw [zab];refine dp 24 234 16 226 false (.bool true) rfl rfl u ?_;refine iw 25 235 (.bool true) rfl u ?_;refine iw 26 236 (.bool true) rfl u ?_;refine fh 27 237 26 236 false rfl rfl u ?_;refine fh 28 238 26 236 false rfl rfl u ?_;refine fh 29 239 26 236 false rfl rfl u ?_;refine fh 30 240 26 236 false rfl rfl u ?_;refine fh 31 241 26 236 false rfl rfl u ?_;refine fh 32 242 26 236 false rfl rfl u ?_;refine fh 33 243 26 236 false rfl rfl u ?_;refine fh 34 244 26 236 false rfl rfl u ?_;refine fh 35 245 26 236 false rfl rfl u ?_;refine fh 36 246 26 236 false rfl rfl u ?_;refine iw 37 247 (.bool true) rfl u ?_;refine wpAnyH_done (by kernel_rfl) ?_ _;clear u;rw [HA.o];clear HA W X aw ad ar;simp only [Act.put,p1q,p4q,p3q];go_wp2_with fail;go_ret;exact ⟨by rw [N.o.1];rfl,N.o.2 _ (br _ _).drew⟩
                  | true=>
                    have ce:=ag (av.o rfl);clear av;go_wp2_with fail;refine wp_region_held_drew (S:=fun W'=>∀p:Addr,p.block<wr.heap.size->W'.cell? p=wr.cell? p) (by kernel_rfl) (fun p hp=>rfl) fun u=>?_;refine zag 38 rfl fun a E=>?_;have W:a.tmps.size=288:=by rw [E];rfl
                    have X:∀h,a.tmps[2]'h=.pointer (some ⟨w.heap.size,0,none⟩):=by rw [E];exact fun _=>rfl
                    have aw:∀h,a.tmps[3]'h=.pointer (some ⟨w.heap.size+1,0,none⟩):=by rw [E];exact fun _=>rfl
                    have ad:∀h,a.tmps[6]'h=.slice aD I.length cD:=by rw [E];exact fun _=>rfl
                    have ar:∀h,a.tmps[16]'h=.int .i64 (k:Int):=by rw [E];exact fun _=>rfl
                    have HA:=ag E;clear E;refine iw 0 210 (.int .i64 (k:Int)) rfl u ?_;refine tk 1 211 (.bool true) rfl (by kernel_rfl) (fun _ _ _ h=>h) ?_ u ?_
                    ·intro w dd;go_simp;omega
                    refine iw 2 212 (.bool true) rfl u ?_;refine dp 3 213 2 212 true (.pointer (some ⟨w.heap.size,5,none⟩)) rfl rfl u ?_;refine dp 4 214 2 212 true (.slice (some ⟨bN,oN,none⟩) h.ap.length cO) rfl rfl u ?_;refine dp 5 215 2 212 true (.int .i64 (k:Int)) rfl rfl u ?_;refine dp 6 216 2 212 true (.pointer (some ⟨bN,oN+k,none⟩)) rfl rfl u ?_;refine dp 7 217 2 212 true (.int .i64 n0) rfl rfl u ?_;refine dp 8 218 2 212 true (.pointer (some ⟨w.heap.size,5,none⟩)) rfl rfl u ?_;refine dp 9 219 2 212 true (.slice (some ⟨bN,oN,none⟩) h.ap.length cO) rfl rfl u ?_;refine dp 10 220 2 212 true (.int .i64 (k:Int)) rfl rfl u ?_;refine dp 11 221 2 212 true (.int .i64 (k1:Int)) rfl rfl u ?_;refine dp 12 222 2 212 true (.pointer (some ⟨bN,oN+k1,none⟩)) rfl rfl u ?_;refine dp 13 223 2 212 true (.int .i64 n1) rfl rfl u ?_;refine dp 14 224 2 212 true (.bool false) rfl rfl u ?_;refine iw 15 225 (.bool false) rfl u ?_;refine iw 16 226 (.bool false) rfl u ?_;refine dp 17 227 16 226 false (.slice aD I.length cD) rfl rfl u ?_;refine dp 18 228 16 226 false (.pointer (some ⟨w.heap.size,5,none⟩)) rfl rfl u ?_;refine dp 19 229 16 226 false (.slice (some ⟨bN,oN,none⟩) h.ap.length cO) rfl rfl u ?_;refine dp 20 230 16 226 false (.int .i64 (k:Int)) rfl rfl u ?_;refine dp 21 231 16 226 false (.pointer (some ⟨bN,oN+k,none⟩)) rfl rfl u ?_;refine dp 22 232 16 226 false (.int .i64 n0) rfl rfl u ?_;refine wpAnyH_ready (rs:=[23]) (by kernel_rfl) (by simp) ?_;refine AllReadyH.cons rfl (fun ee a0=>?_) AllReadyH.nil;go_simp;refine (au.o _ (br _ _).drew).mono ?_;rintro r _ ⟨rfl,rfl⟩;refine a0.o _ _ (fun p hp=>rfl) fun u=>?_;rw [zab];refine dp 24 234 16 226 false (.bool false) rfl rfl u ?_;refine iw 25 235 (.bool false) rfl u ?_;refine iw 26 236 (.bool false) rfl u ?_;refine dp 27 237 26 236 false (.agg #[.slice (some ⟨bW,oW,none⟩) h.ab.length cW,.int .i64 h.ae,.int .i64 h.old,.int .i64 h.bg,.int .i64 h.bk,.slice (some ⟨bN,oN,none⟩) h.ap.length cO,.int .i64 h.next]) rfl rfl u ?_;refine dp 28 238 26 236 false (.agg #[.slice aC d.aj.length cC,.slice aS d.ax.length cS,.slice aF d.fields.length cF,.slice aN d.names.length cN,.slice aT d.aq.length cT]) rfl rfl u ?_;refine dp 29 239 26 236 false (.pointer (some ⟨w.heap.size,5,none⟩)) rfl rfl u ?_;refine dp 30 240 26 236 false (.slice (some ⟨bN,oN,none⟩) h.ap.length cO) rfl rfl u ?_;refine dp 31 241 26 236 false (.int .i64 (k:Int)) rfl rfl u ?_;refine dp 32 242 26 236 false (.pointer (some ⟨bN,oN+k,none⟩)) rfl rfl u ?_;refine dp 33 243 26 236 false (.int .i64 n0) rfl rfl u ?_;refine wpAnyH_ready (rs:=[34]) (by kernel_rfl) (by simp) ?_;refine AllReadyH.cons rfl (fun f0 cj=>?_) AllReadyH.nil;go_simp;refine (ce.o _ (br _ _).drew).mono ?_;rintro r w5 ⟨a1,a5,c5,rfl⟩;have aa:Below wr.heap.size wr w5:=(br wr.heap.size wr).drew.trans a1;refine cj.o _ _ (fun p hp=>aa.cell hp) fun u=>?_;rw [zab];refine dp 35 245 26 236 false (.int .i64 (rl:Int)) rfl rfl u ?_;refine dp 36 246 26 236 false (.bool ((rl:Int)==0)) rfl rfl u ?_;refine iw 37 247 (.bool ((rl:Int)==0)) rfl u ?_;refine wpAnyH_done (by kernel_rfl) ?_ _;clear u;rw [HA.o];clear HA W X aw ad ar;simp only [Act.put,p1q,p4q,p3q];cases hrb:((rl:Int)==0)with
                    | true=>
                      have N:=ag (J.o (F.o.trans (by have:=eq_of_beq hrb;simp;omega)));go_wp2_with fail;go_ret;exact ⟨by rw [N.o.1];rfl,N.o.2 _ aa⟩
                    | false=>
                      have Y:=ag (O.o (F.o.trans (by have:=ne_of_beq_false hrb;simp;omega)));clear J F;go_wp2_with fail;go_roundw
                      case rel=>exact ⟨k+1,by omega,by go_num,Y.o.1,Y.o.2 _ aa⟩
                      case measure=>simp [intOf];omega
                 have f4:decide (0<(k:Int))=false:=by simp;omega
                 rw [decide_eq_false (fun hh=>cn (by omega)),Bool.false_or]at F;generalize h.ap[k]=n0 at*;clear A hD G ch;cases ct with
                 | false=>
                   have N:=ag (J.o (F.o.trans (by simp)));clear O J F av;go_wp2_with fail;refine wp_region_held_drew (S:=fun W'=>∀p:Addr,p.block<wr.heap.size->W'.cell? p=wr.cell? p) (by kernel_rfl) (fun p hp=>rfl) fun u=>?_;refine zag 38 rfl fun a E=>?_;have W:a.tmps.size=288:=by rw [E];rfl
                   have X:∀h,a.tmps[2]'h=.pointer (some ⟨w.heap.size,0,none⟩):=by rw [E];exact fun _=>rfl
                   have aw:∀h,a.tmps[3]'h=.pointer (some ⟨w.heap.size+1,0,none⟩):=by rw [E];exact fun _=>rfl
                   have ad:∀h,a.tmps[6]'h=.slice aD I.length cD:=by rw [E];exact fun _=>rfl
                   have ar:∀h,a.tmps[16]'h=.int .i64 (k:Int):=by rw [E];exact fun _=>rfl
                   have HA:=ag E;clear E;refine iw 0 210 (.int .i64 (k:Int)) rfl u ?_;refine tk 1 211 (.bool false) rfl (by kernel_rfl) (fun _ _ _ h=>h) ?_ u ?_
                   ·intro w dd;go_simp;omega
                   refine iw 2 212 (.bool false) rfl u ?_;refine fh 3 213 2 212 true rfl rfl u ?_;refine fh 4 214 2 212 true rfl rfl u ?_;refine fh 5 215 2 212 true rfl rfl u ?_;refine fh 6 216 2 212 true rfl rfl u ?_;refine fh 7 217 2 212 true rfl rfl u ?_;refine fh 8 218 2 212 true rfl rfl u ?_;refine fh 9 219 2 212 true rfl rfl u ?_;refine fh 10 220 2 212 true rfl rfl u ?_;refine fh 11 221 2 212 true rfl rfl u ?_;refine fh 12 222 2 212 true rfl rfl u ?_;refine fh 13 223 2 212 true rfl rfl u ?_;refine fh 14 224 2 212 true rfl rfl u ?_;refine iw 15 225 (.bool false) rfl u ?_;refine iw 16 226 (.bool false) rfl u ?_;refine dp 17 227 16 226 false (.slice aD I.length cD) rfl rfl u ?_;refine dp 18 228 16 226 false (.pointer (some ⟨w.heap.size,5,none⟩)) rfl rfl u ?_;refine dp 19 229 16 226 false (.slice (some ⟨bN,oN,none⟩) h.ap.length cO) rfl rfl u ?_;refine dp 20 230 16 226 false (.int .i64 (k:Int)) rfl rfl u ?_;refine dp 21 231 16 226 false (.pointer (some ⟨bN,oN+k,none⟩)) rfl rfl u ?_;refine dp 22 232 16 226 false (.int .i64 n0) rfl rfl u ?_;refine wpAnyH_ready (rs:=[23]) (by kernel_rfl) (by simp) ?_;refine AllReadyH.cons rfl (fun ee a0=>?_) AllReadyH.nil;go_simp;refine (au.o _ (br _ _).drew).mono ?_;rintro r _ ⟨rfl,rfl⟩;refine a0.o _ _ (fun p hp=>rfl) fun u=>?_;rw [zab];refine dp 24 234 16 226 false (.bool true) rfl rfl u ?_;refine iw 25 235 (.bool true) rfl u ?_;refine iw 26 236 (.bool true) rfl u ?_;refine fh 27 237 26 236 false rfl rfl u ?_;refine fh 28 238 26 236 false rfl rfl u ?_;refine fh 29 239 26 236 false rfl rfl u ?_;refine fh 30 240 26 236 false rfl rfl u ?_;refine fh 31 241 26 236 false rfl rfl u ?_;refine fh 32 242 26 236 false rfl rfl u ?_;refine fh 33 243 26 236 false rfl rfl u ?_;refine fh 34 244 26 236 false rfl rfl u ?_;refine fh 35 245 26 236 false rfl rfl u ?_;refine fh 36 246 26 236 false rfl rfl u ?_;refine iw 37 247 (.bool true) rfl u ?_;refine wpAnyH_done (by kernel_rfl) ?_ _;clear u;rw [HA.o];clear HA W X aw ad ar;simp only [Act.put,p1q,p4q,p3q];go_wp2_with fail;go_ret;exact ⟨by rw [N.o.1];rfl,N.o.2 _ (br _ _).drew⟩
                 | true=>
                   have ce:=ag (av.o rfl);clear av;go_wp2_with fail;refine wp_region_held_drew (S:=fun W'=>∀p:Addr,p.block<wr.heap.size->W'.cell? p=wr.cell? p) (by kernel_rfl) (fun p hp=>rfl) fun u=>?_;refine zag 38 rfl fun a E=>?_;have W:a.tmps.size=288:=by rw [E];rfl
                   have X:∀h,a.tmps[2]'h=.pointer (some ⟨w.heap.size,0,none⟩):=by rw [E];exact fun _=>rfl
                   have aw:∀h,a.tmps[3]'h=.pointer (some ⟨w.heap.size+1,0,none⟩):=by rw [E];exact fun _=>rfl
                   have ad:∀h,a.tmps[6]'h=.slice aD I.length cD:=by rw [E];exact fun _=>rfl
                   have ar:∀h,a.tmps[16]'h=.int .i64 (k:Int):=by rw [E];exact fun _=>rfl
                   have HA:=ag E;clear E;refine iw 0 210 (.int .i64 (k:Int)) rfl u ?_;refine tk 1 211 (.bool false) rfl (by kernel_rfl) (fun _ _ _ h=>h) ?_ u ?_
                   ·intro w dd;go_simp;omega
                   refine iw 2 212 (.bool false) rfl u ?_;refine fh 3 213 2 212 true rfl rfl u ?_;refine fh 4 214 2 212 true rfl rfl u ?_;refine fh 5 215 2 212 true rfl rfl u ?_;refine fh 6 216 2 212 true rfl rfl u ?_;refine fh 7 217 2 212 true rfl rfl u ?_;refine fh 8 218 2 212 true rfl rfl u ?_;refine fh 9 219 2 212 true rfl rfl u ?_;refine fh 10 220 2 212 true rfl rfl u ?_;refine fh 11 221 2 212 true rfl rfl u ?_;refine fh 12 222 2 212 true rfl rfl u ?_;refine fh 13 223 2 212 true rfl rfl u ?_;refine fh 14 224 2 212 true rfl rfl u ?_;refine iw 15 225 (.bool false) rfl u ?_;refine iw 16 226 (.bool false) rfl u ?_;refine dp 17 227 16 226 false (.slice aD I.length cD) rfl rfl u ?_;refine dp 18 228 16 226 false (.pointer (some ⟨w.heap.size,5,none⟩)) rfl rfl u ?_;refine dp 19 229 16 226 false (.slice (some ⟨bN,oN,none⟩) h.ap.length cO) rfl rfl u ?_;refine dp 20 230 16 226 false (.int .i64 (k:Int)) rfl rfl u ?_;refine dp 21 231 16 226 false (.pointer (some ⟨bN,oN+k,none⟩)) rfl rfl u ?_;refine dp 22 232 16 226 false (.int .i64 n0) rfl rfl u ?_;refine wpAnyH_ready (rs:=[23]) (by kernel_rfl) (by simp) ?_;refine AllReadyH.cons rfl (fun ee a0=>?_) AllReadyH.nil;go_simp;refine (au.o _ (br _ _).drew).mono ?_;rintro r _ ⟨rfl,rfl⟩;refine a0.o _ _ (fun p hp=>rfl) fun u=>?_;rw [zab];refine dp 24 234 16 226 false (.bool false) rfl rfl u ?_;refine iw 25 235 (.bool false) rfl u ?_;refine iw 26 236 (.bool false) rfl u ?_;refine dp 27 237 26 236 false (.agg #[.slice (some ⟨bW,oW,none⟩) h.ab.length cW,.int .i64 h.ae,.int .i64 h.old,.int .i64 h.bg,.int .i64 h.bk,.slice (some ⟨bN,oN,none⟩) h.ap.length cO,.int .i64 h.next]) rfl rfl u ?_;refine dp 28 238 26 236 false (.agg #[.slice aC d.aj.length cC,.slice aS d.ax.length cS,.slice aF d.fields.length cF,.slice aN d.names.length cN,.slice aT d.aq.length cT]) rfl rfl u ?_;refine dp 29 239 26 236 false (.pointer (some ⟨w.heap.size,5,none⟩)) rfl rfl u ?_;refine dp 30 240 26 236 false (.slice (some ⟨bN,oN,none⟩) h.ap.length cO) rfl rfl u ?_;refine dp 31 241 26 236 false (.int .i64 (k:Int)) rfl rfl u ?_;refine dp 32 242 26 236 false (.pointer (some ⟨bN,oN+k,none⟩)) rfl rfl u ?_;refine dp 33 243 26 236 false (.int .i64 n0) rfl rfl u ?_;refine wpAnyH_ready (rs:=[34]) (by kernel_rfl) (by simp) ?_;refine AllReadyH.cons rfl (fun f0 cj=>?_) AllReadyH.nil;go_simp;refine (ce.o _ (br _ _).drew).mono ?_;rintro r w5 ⟨a1,a5,c5,rfl⟩;have aa:Below wr.heap.size wr w5:=(br wr.heap.size wr).drew.trans a1;refine cj.o _ _ (fun p hp=>aa.cell hp) fun u=>?_;rw [zab];refine dp 35 245 26 236 false (.int .i64 (rl:Int)) rfl rfl u ?_;refine dp 36 246 26 236 false (.bool ((rl:Int)==0)) rfl rfl u ?_;refine iw 37 247 (.bool ((rl:Int)==0)) rfl u ?_;refine wpAnyH_done (by kernel_rfl) ?_ _;clear u;rw [HA.o];clear HA W X aw ad ar;simp only [Act.put,p1q,p4q,p3q];cases hrb:((rl:Int)==0)with
                   | true=>
                     have N:=ag (J.o (F.o.trans (by have:=eq_of_beq hrb;simp;omega)));go_wp2_with fail;go_ret;exact ⟨by rw [N.o.1];rfl,N.o.2 _ aa⟩
                   | false=>
                     have Y:=ag (O.o (F.o.trans (by have:=ne_of_beq_false hrb;simp;omega)));clear J F;go_wp2_with fail;go_roundw
                     case rel=>exact ⟨k+1,by omega,by go_num,Y.o.1,Y.o.2 _ aa⟩
                     case measure=>simp [intOf];omega
                have H5:Hid ((List.range h.ap.length).any (bad5 d h I)=false):=znw fun j hj=>G.o.1 j (by omega);have eu:=ag G.o.2;clear G A hD;go_wp2_with fail;clear ao hk D p0 p1 p2 p3 p4 p5 p6 lp y0 y1 y2 y3 y4 ly;go_loopw [17] (fun i wr=>∃k:Nat,k<=I.length/\i=.int .i64 k/\Hid ((I.take k).any (bad6 d h)=false/\Below L.heap.size L wr)) (fun i _=>I.length - (intOf i).toNat)
                case atStart=>exact ⟨0,n0q _,rfl,by simp,eu.o⟩
                case round=>
                 rename World=>wr
                 obtain ⟨k,hk,rfl,G⟩:=hrel;have ao:L.heap.size<=wr.heap.size:=G.o.2.size;by_cases D:k<I.length
                 ·obtain ⟨A,-,hD⟩:=HX.o wr G.o.2;obtain ⟨Z,ak,a6,ah,a7,-⟩:=bx.o _ (c1.o _ (gm D));have p0:=ba A.b0 0 (x:=.slice (some ⟨bW,oW,none⟩) h.ab.length cW) rfl;have p1:=ba A.b0 1 (x:=.int .i64 h.ae) rfl;have p2:=ba A.b0 2 (x:=.int .i64 h.old) rfl;have p3:=ba A.b0 3 (x:=.int .i64 h.bg) rfl;have p4:=ba A.b0 4 (x:=.int .i64 h.bk) rfl;have p5:=ba A.b0 5 (x:=.slice aO h.ap.length cO) rfl;have p6:=ba A.b0 6 (x:=.int .i64 h.next) rfl;have lp:=bz A.b0;have y0:=ba A.b1 0 (x:=.slice aC d.aj.length cC) rfl;have y1:=ba A.b1 1 (x:=.slice aS d.ax.length cS) rfl;have y2:=ba A.b1 2 (x:=.slice aF d.fields.length cF) rfl;have y3:=ba A.b1 3 (x:=.slice aN d.names.length cN) rfl;have y4:=ba A.b1 4 (x:=.slice aT d.aq.length cT) rfl;have ly:=bz A.b1;obtain ⟨bA,oA,rfl,b6,eA⟩:=hD.atI k (by simpa using D);rw [List.getElem_map,ak]at eA;have q1:(0:Int)<=k:=by omega
                  have q2:(k:Int)<I.length:=by omega
                  have av:Hid (∀V,Below wr.heap.size wr V->Calls Tryz.prog 87 #[.agg #[.slice (some ⟨bW,oW,none⟩) h.ab.length cW,.int .i64 h.ae,.int .i64 h.old,.int .i64 h.bg,.int .i64 h.bk,.slice aO h.ap.length cO,.int .i64 h.next],.agg #[.slice aC d.aj.length cC,.slice aS d.ax.length cS,.slice aF d.fields.length cF,.slice aN d.names.length cN,.slice aT d.aq.length cT],.int .i64 (Z:Int)] V fun r w'=>Below V.heap.size V w'/\∃v,r=.returned v/\w'.ownsRow V.heap.size 3 1 v (refsOf d.fields I[k]).length (bv (refsOf d.fields I[k]))):=fun V hV=>by have ac:=A.below hV;rw [a7]at ah ⊢;exact znq V B _ _ _ _ _ _ _ h d ac.sW ac.sO ac.lk (by have:=ac.le;have:=bz ac.b0;omega) Z a6 (by have:=c9.o;omega) ah
                  have d8:Hid (∀a∈refsOf d.fields I[k],∃an:Nat,a=an/\an<h.ab.length):=fun a E=>by have:=zh2 d.fields I[k] E;have h2:=(cx.o _ (c1.o _ (gm D))).1;have h3:=(cx.o _ (c1.o _ (gm D))).2;have h4:I[k].fin=I[k].loc+3+I[k].len:=rfl;exact ⟨a.toNat,by omega,by omega⟩
                  have cc:Hid ((refsOf d.fields I[k]).length<=1000000):=by have:=zhr d.fields I[k] I[k].len.toNat;have h3:=ah.hi;have:(refsOf d.fields I[k]).length<=I[k].len.toNat:=this;show _<=_;omega
                  have af:=ag G.o;have bi:Hid ((refsOf d.fields I[k]).any (bad6a h I[k])=bad6 d h I[k]):=rfl;have bh:Hid (I[k].loc=Z):=ak;generalize refsOf d.fields I[k]=rf at*;clear A hD G ah a7 ak;go_wp2_with fail;refine wp_region_held_drew (S:=fun W'=>∀p:Addr,p.block<wr.heap.size->W'.cell? p=wr.cell? p) (by kernel_rfl) (fun p hp=>rfl) fun u=>?_;refine zag 8 rfl fun a E=>?_;have W:a.tmps.size=288:=by rw [E];rfl
                  have X:∀h,a.tmps[2]'h=.pointer (some ⟨w.heap.size,0,none⟩):=by rw [E];exact fun _=>rfl
                  have aw:∀h,a.tmps[3]'h=.pointer (some ⟨w.heap.size+1,0,none⟩):=by rw [E];exact fun _=>rfl
                  have ad:∀h,a.tmps[6]'h=.slice (some ⟨bA,oA,none⟩) I.length cD:=by rw [E];exact fun _=>rfl
                  have a3:∀h,a.tmps[17]'h=.int .i64 (k:Int):=by rw [E];exact fun _=>rfl
                  have HA:=ag E;clear E;refine iw 0 254 (.agg #[.slice (some ⟨bW,oW,none⟩) h.ab.length cW,.int .i64 h.ae,.int .i64 h.old,.int .i64 h.bg,.int .i64 h.bk,.slice aO h.ap.length cO,.int .i64 h.next]) rfl u ?_;refine iw 1 255 (.agg #[.slice aC d.aj.length cC,.slice aS d.ax.length cS,.slice aF d.fields.length cF,.slice aN d.names.length cN,.slice aT d.aq.length cT]) rfl u ?_;refine iw 2 256 (.slice (some ⟨bA,oA,none⟩) I.length cD) rfl u ?_;refine iw 3 257 (.int .i64 (k:Int)) rfl u ?_;refine iw 4 258 (.pointer (some ⟨bA,oA+k,none⟩)) rfl u ?_;refine iw 5 259 (.int .i64 (Z:Int)) rfl u ?_;refine wpAnyH_ready (rs:=[6]) (by kernel_rfl) (by simp) ?_;refine AllReadyH.cons rfl (fun K6 eg=>?_) AllReadyH.nil;go_simp;refine (av.o _ (br _ _).drew).mono ?_;rintro r w5 ⟨a1,v5,rfl,al⟩;have aa:Below wr.heap.size wr w5:=(br wr.heap.size wr).drew.trans a1;refine eg.o _ _ (fun p hp=>aa.cell hp) fun u=>?_;rw [zab];refine iw 7 18 (v5) rfl u ?_;refine wpAnyH_done (by kernel_rfl) ?_ _;clear u;rw [HA.o];clear HA W X aw ad a3;simp only [Act.put,p1q,p4q,p3q];have b2:Hid (∀V,Below w5.heap.size w5 V->Below L.heap.size L V/\SL 1 RI (· <w5.heap.size) V v5 rf):=fun V hV=>by have en:=aa.size;refine ⟨af.o.2.trans ((aa.trans (hV.mono en)).mono ao),?_⟩;exact ((zfb al cc.o).monoI (M':=(· <w5.heap.size)) fun k hk=>hk.lt).keptI (Kp.below hV)
                  obtain ⟨a5,c5,rfl⟩:=kh al;have q9:rf.length<=1000000:=cc.o;clear a1 aa al p0 p1 p2 p3 p4 p5 p6 y0 y1 y2 y3 y4 lp ly eA b6 av;go_wp2_with fail;go_loopw [19] (fun i wr=>∃j:Nat,j<=rf.length/\i=.int .i64 j/\Hid ((rf.take j).any (bad6a h I[k])=false/\Below w5.heap.size w5 wr)) (fun i _=>rf.length - (intOf i).toNat)
                  case atStart=>exact ⟨0,n0q _,rfl,by simp,br _ _⟩
                  case round=>
                   rename World=>wr
                   obtain ⟨j,hj,rfl,G⟩:=hrel;by_cases ai:j<rf.length
                   ·obtain ⟨bl,cl⟩:=b2.o wr G.o.2;obtain ⟨A,-,hD⟩:=HX.o wr bl;obtain ⟨an,bm,cm⟩:=d8.o _ (gm ai);have p0:=ba A.b0 0 (x:=.slice (some ⟨bW,oW,none⟩) h.ab.length cW) rfl;have p1:=ba A.b0 1 (x:=.int .i64 h.ae) rfl;have p5:=ba A.b0 5 (x:=.slice aO h.ap.length cO) rfl;have lp:=bz A.b0;obtain ⟨b5,o5,rfl,a1,e5⟩:=cl.atI j ai;rw [bm]at e5;obtain ⟨f1,g2,ef,b6,eA⟩:=hD.atI k (by simpa using D);cases ef;rw [List.getElem_map,bh.o]at eA;obtain ⟨b',o',e',df,eW⟩:=A.sW.atI an cm;cases e';have r1:(0:Int)<=j:=by omega
                    have r2:(j:Int)<rf.length:=by omega
                    have q3:(0:Int)<=(an:Int):=by omega
                    have q4:(an:Int)<h.ab.length:=by omega
                    have au:Hid (∀V,Below wr.heap.size wr V->Calls Tryz.prog 74 #[.slice aO h.ap.length cO,.int .i64 (Z:Int)] V fun r w'=>r=.returned (.bool (h.ap.contains (Z:Int)))/\w'=V):=fun V hV=>by have hv:=A.sO.keptI (Kp.below (hV.mono (by have:=A.le;have:=bz A.b0;omega)));exact zkz _ _ _ _ hv Z
                    have F:Hid (bad6a h I[k] rf[j]=(btw h.ab[an] 1 h.ae&& !h.ap.contains (Z:Int))):=by show bad6a h I[k] rf[j]=_;unfold bad6a;rw [bm,zen cm,bh.o]
                    have O:Hid (bad6a h I[k] rf[j]=false->(rf.take (j+1)).any (bad6a h I[k])=false/\∀n,Below w5.heap.size w5 (wr.drewN n)):=fun hb=>⟨zns ai G.o.1 hb,fun n=>mp G.o.2 n⟩;have J:Hid (bad6a h I[k] rf[j]=true->gh d h=4/\∀n,Below w.heap.size w (wr.drewN n)):=fun hb=>⟨a8.o.trans (by
                     unfold ig;rw [if_neg (by rw [H1.o];decide),if_neg (by rw [decide_eq_true H2.o];decide),if_neg (by rw [H3.o];decide),if_neg (by rw [H4.o];decide),if_neg (by rw [H5.o];decide),if_pos (znt D (by rw [<-bi.o];exact znt ai hb))]),fun n=>mp (bf.o wr bl) n⟩
                    generalize rf[j]=a at*;generalize h.ab[an]=x at*;generalize h.ap.contains (Z:Int)=ct at*;clear A hD cl bl G bm af bi;cases hbt:btw x 1 h.ae with
                    | false=>
                      have Y:=ag (O.o (F.o.trans (by rw [hbt];rfl)));clear O J F au;go_wp2_with fail;refine wp_region_held_drew (S:=fun W'=>∀p:Addr,p.block<wr.heap.size->W'.cell? p=wr.cell? p) (by kernel_rfl) (fun p hp=>rfl) fun u=>?_;refine zag 21 rfl fun a E=>?_;have W:a.tmps.size=288:=by rw [E];rfl
                      have X:∀h,a.tmps[2]'h=.pointer (some ⟨w.heap.size,0,none⟩):=by rw [E];exact fun _=>rfl
                      have bb:∀h,a.tmps[18]'h=.slice (some ⟨b5,o5,none⟩) rf.length c5:=by rw [E];exact fun _=>rfl
                      have bc:∀h,a.tmps[19]'h=.int .i64 (j:Int):=by rw [E];exact fun _=>rfl
                      have ad:∀h,a.tmps[6]'h=.slice (some ⟨bA,oA,none⟩) I.length cD:=by rw [E];exact fun _=>rfl
                      have a3:∀h,a.tmps[17]'h=.int .i64 (k:Int):=by rw [E];exact fun _=>rfl
                      have HA:=ag E;clear E;refine iw 0 267 (.pointer (some ⟨w.heap.size,0,none⟩)) rfl u ?_;refine iw 1 268 (.slice (some ⟨bW,oW,none⟩) h.ab.length cW) rfl u ?_;refine iw 2 269 (.slice (some ⟨b5,o5,none⟩) rf.length c5) rfl u ?_;refine iw 3 270 (.int .i64 (j:Int)) rfl u ?_;refine iw 4 271 (.pointer (some ⟨b5,o5+j,none⟩)) rfl u ?_;refine iw 5 272 (.int .i64 (an:Int)) rfl u ?_;refine iw 6 273 (.pointer (some ⟨bW,oW+an,none⟩)) rfl u ?_;refine iw 7 274 (.int .i64 x) rfl u ?_;refine iw 8 275 (.pointer (some ⟨w.heap.size,1,none⟩)) rfl u ?_;refine iw 9 276 (.int .i64 h.ae) rfl u ?_;refine wpAnyH_ready (rs:=[10]) (by kernel_rfl) (by simp) ?_;refine AllReadyH.cons rfl (fun e7 a9=>?_) AllReadyH.nil;go_simp;refine (zkv _ _ _ _).mono ?_;rintro r _ ⟨rfl,rfl⟩;rw [hbt];refine a9.o _ _ (fun p hp=>rfl) fun u=>?_;rw [zab];refine iw 11 278 (.bool false) rfl u ?_;refine fh 12 279 11 278 true rfl rfl u ?_;refine fh 13 280 11 278 true rfl rfl u ?_;refine fh 14 281 11 278 true rfl rfl u ?_;refine fh 15 282 11 278 true rfl rfl u ?_;refine fh 16 283 11 278 true rfl rfl u ?_;refine fh 17 284 11 278 true rfl rfl u ?_;refine fh 18 285 11 278 true rfl rfl u ?_;refine fh 19 286 11 278 true rfl rfl u ?_;refine iw 20 287 (.bool false) rfl u ?_;refine wpAnyH_done (by kernel_rfl) ?_ _;clear u;rw [HA.o];clear HA W X bb bc ad a3;simp only [Act.put,p1q,p4q,p3q];go_wp2_with fail;go_roundw
                      case rel=>exact ⟨j+1,by omega,by go_num,Y.o.1,Y.o.2 1⟩
                      case measure=>simp [intOf];omega
                    | true=>
                      cases ct with
                      | true=>
                        have Y:=ag (O.o (F.o.trans (by rw [hbt];rfl)));clear O J F;go_wp2_with fail;refine wp_region_held_drew (S:=fun W'=>∀p:Addr,p.block<wr.heap.size->W'.cell? p=wr.cell? p) (by kernel_rfl) (fun p hp=>rfl) fun u=>?_;refine zag 21 rfl fun a E=>?_;have W:a.tmps.size=288:=by rw [E];rfl
                        have X:∀h,a.tmps[2]'h=.pointer (some ⟨w.heap.size,0,none⟩):=by rw [E];exact fun _=>rfl
                        have bb:∀h,a.tmps[18]'h=.slice (some ⟨b5,o5,none⟩) rf.length c5:=by rw [E];exact fun _=>rfl
                        have bc:∀h,a.tmps[19]'h=.int .i64 (j:Int):=by rw [E];exact fun _=>rfl
                        have ad:∀h,a.tmps[6]'h=.slice (some ⟨bA,oA,none⟩) I.length cD:=by rw [E];exact fun _=>rfl
                        have a3:∀h,a.tmps[17]'h=.int .i64 (k:Int):=by rw [E];exact fun _=>rfl
                        have HA:=ag E;clear E;refine iw 0 267 (.pointer (some ⟨w.heap.size,0,none⟩)) rfl u ?_;refine iw 1 268 (.slice (some ⟨bW,oW,none⟩) h.ab.length cW) rfl u ?_;refine iw 2 269 (.slice (some ⟨b5,o5,none⟩) rf.length c5) rfl u ?_;refine iw 3 270 (.int .i64 (j:Int)) rfl u ?_;refine iw 4 271 (.pointer (some ⟨b5,o5+j,none⟩)) rfl u ?_;refine iw 5 272 (.int .i64 (an:Int)) rfl u ?_;refine iw 6 273 (.pointer (some ⟨bW,oW+an,none⟩)) rfl u ?_;refine iw 7 274 (.int .i64 x) rfl u ?_;refine iw 8 275 (.pointer (some ⟨w.heap.size,1,none⟩)) rfl u ?_;refine iw 9 276 (.int .i64 h.ae) rfl u ?_;refine wpAnyH_ready (rs:=[10]) (by kernel_rfl) (by simp) ?_;refine AllReadyH.cons rfl (fun e7 a9=>?_) AllReadyH.nil;go_simp;refine (zkv _ _ _ _).mono ?_;rintro r _ ⟨rfl,rfl⟩;rw [hbt];refine a9.o _ _ (fun p hp=>rfl) fun u=>?_;rw [zab];refine iw 11 278 (.bool true) rfl u ?_;refine dp 12 279 11 278 true (.pointer (some ⟨w.heap.size,5,none⟩)) rfl rfl u ?_;refine dp 13 280 11 278 true (.slice aO h.ap.length cO) rfl rfl u ?_;refine dp 14 281 11 278 true (.slice (some ⟨bA,oA,none⟩) I.length cD) rfl rfl u ?_;refine dp 15 282 11 278 true (.int .i64 (k:Int)) rfl rfl u ?_;refine dp 16 283 11 278 true (.pointer (some ⟨bA,oA+k,none⟩)) rfl rfl u ?_;refine dp 17 284 11 278 true (.int .i64 (Z:Int)) rfl rfl u ?_;refine wpAnyH_ready (rs:=[18]) (by kernel_rfl) (by simp) ?_;refine AllReadyH.cons rfl (fun fz ci=>?_) AllReadyH.nil;go_simp;refine (au.o _ (br _ _).drew).mono ?_;rintro r _ ⟨rfl,rfl⟩;refine ci.o _ _ (fun p hp=>rfl) fun u=>?_;rw [zab];refine dp 19 286 11 278 true (.bool false) rfl rfl u ?_;refine iw 20 287 (.bool false) rfl u ?_;refine wpAnyH_done (by kernel_rfl) ?_ _;clear u;rw [HA.o];clear HA W X bb bc ad a3;simp only [Act.put,p1q,p4q,p3q];go_wp2_with fail;go_roundw
                        case rel=>exact ⟨j+1,by omega,by go_num,Y.o.1,Y.o.2 1⟩
                        case measure=>simp [intOf];omega
                      | false=>
                        have N:=ag (J.o (F.o.trans (by rw [hbt];rfl)));clear O J F;go_wp2_with fail;refine wp_region_held_drew (S:=fun W'=>∀p:Addr,p.block<wr.heap.size->W'.cell? p=wr.cell? p) (by kernel_rfl) (fun p hp=>rfl) fun u=>?_;refine zag 21 rfl fun a E=>?_;have W:a.tmps.size=288:=by rw [E];rfl
                        have X:∀h,a.tmps[2]'h=.pointer (some ⟨w.heap.size,0,none⟩):=by rw [E];exact fun _=>rfl
                        have bb:∀h,a.tmps[18]'h=.slice (some ⟨b5,o5,none⟩) rf.length c5:=by rw [E];exact fun _=>rfl
                        have bc:∀h,a.tmps[19]'h=.int .i64 (j:Int):=by rw [E];exact fun _=>rfl
                        have ad:∀h,a.tmps[6]'h=.slice (some ⟨bA,oA,none⟩) I.length cD:=by rw [E];exact fun _=>rfl
                        have a3:∀h,a.tmps[17]'h=.int .i64 (k:Int):=by rw [E];exact fun _=>rfl
                        have HA:=ag E;clear E;refine iw 0 267 (.pointer (some ⟨w.heap.size,0,none⟩)) rfl u ?_;refine iw 1 268 (.slice (some ⟨bW,oW,none⟩) h.ab.length cW) rfl u ?_;refine iw 2 269 (.slice (some ⟨b5,o5,none⟩) rf.length c5) rfl u ?_;refine iw 3 270 (.int .i64 (j:Int)) rfl u ?_;refine iw 4 271 (.pointer (some ⟨b5,o5+j,none⟩)) rfl u ?_;refine iw 5 272 (.int .i64 (an:Int)) rfl u ?_;refine iw 6 273 (.pointer (some ⟨bW,oW+an,none⟩)) rfl u ?_;refine iw 7 274 (.int .i64 x) rfl u ?_;refine iw 8 275 (.pointer (some ⟨w.heap.size,1,none⟩)) rfl u ?_;refine iw 9 276 (.int .i64 h.ae) rfl u ?_;refine wpAnyH_ready (rs:=[10]) (by kernel_rfl) (by simp) ?_;refine AllReadyH.cons rfl (fun e7 a9=>?_) AllReadyH.nil;go_simp;refine (zkv _ _ _ _).mono ?_;rintro r _ ⟨rfl,rfl⟩;rw [hbt];refine a9.o _ _ (fun p hp=>rfl) fun u=>?_;rw [zab];refine iw 11 278 (.bool true) rfl u ?_;refine dp 12 279 11 278 true (.pointer (some ⟨w.heap.size,5,none⟩)) rfl rfl u ?_;refine dp 13 280 11 278 true (.slice aO h.ap.length cO) rfl rfl u ?_;refine dp 14 281 11 278 true (.slice (some ⟨bA,oA,none⟩) I.length cD) rfl rfl u ?_;refine dp 15 282 11 278 true (.int .i64 (k:Int)) rfl rfl u ?_;refine dp 16 283 11 278 true (.pointer (some ⟨bA,oA+k,none⟩)) rfl rfl u ?_;refine dp 17 284 11 278 true (.int .i64 (Z:Int)) rfl rfl u ?_;refine wpAnyH_ready (rs:=[18]) (by kernel_rfl) (by simp) ?_;refine AllReadyH.cons rfl (fun fz ci=>?_) AllReadyH.nil;go_simp;refine (au.o _ (br _ _).drew).mono ?_;rintro r _ ⟨rfl,rfl⟩;refine ci.o _ _ (fun p hp=>rfl) fun u=>?_;rw [zab];refine dp 19 286 11 278 true (.bool true) rfl rfl u ?_;refine iw 20 287 (.bool true) rfl u ?_;refine wpAnyH_done (by kernel_rfl) ?_ _;clear u;rw [HA.o];clear HA W X bb bc ad a3;simp only [Act.put,p1q,p4q,p3q];go_wp2_with fail;go_ret;exact ⟨by rw [N.o.1];rfl,N.o.2 1⟩
                   have Y:Hid ((I.take (k+1)).any (bad6 d h)=false/\Below L.heap.size L wr):=⟨zns D af.o.1 (by rw [<-bi.o];exact znu ai G.o.1),(b2.o wr G.o.2).1⟩;clear G af;go_wp2_with fail;go_roundw
                   case rel=>exact ⟨k+1,by omega,by go_num,Y.o.1,Y.o.2⟩
                   case measure=>simp [intOf];omega
                 have N:Hid (gh d h=0/\Below w.heap.size w wr):=⟨a8.o.trans (by
                  unfold ig;rw [if_neg (by rw [H1.o];decide),if_neg (by rw [decide_eq_true H2.o];decide),if_neg (by rw [H3.o];decide),if_neg (by rw [H4.o];decide),if_neg (by rw [H5.o];decide),if_neg (by rw [znu D G.o.1];decide)]),bf.o wr G.o.2⟩
                 clear G;go_wp2_with fail;go_ret;exact ⟨by rw [N.o.1];rfl,N.o.2⟩
          have N:Hid (gh d h=1):=by
           show gh d h=1;rw [c4.o];unfold im at co;cases e1:b9 d.aj.length d.fields h.ab 1 h.bg with
           | none=>rfl
           | some ys=>
             rw [e1]at co;cases e2:b9 d.aj.length d.fields h.ab (h.ae+1) h.bk with
             | none=>rfl
             | some I=>rw [e2]at co;cases co
          clear co c4;go_wp2_with fail;go_ret;exact ⟨by rw [N.o];rfl,d2.o⟩
     have g0:((h.ab.length:Int)==1+h.ae+h.old)=false:=beq_eq_false_iff_ne.2 hw;have N:Hid (gh d h=1):=by show gh d h=1;rw [c6.o];unfold iv;rw [decide_eq_false hw];rfl
     have g7:¬(h.ab.length:Int)=1+h.ae+h.old:=hw;go_enter Tryz.func55,Tryz.ntmps55;go_wp2_with (first | (go_at_call 78;refine (zkv _ _ _ _).mono ?_;rintro r _ ⟨rfl,rfl⟩));go_ret;exact ⟨by rw [N.o];rfl,a4.o⟩
end Go.Proofs.YtjdnmblggdobgaaGreat
