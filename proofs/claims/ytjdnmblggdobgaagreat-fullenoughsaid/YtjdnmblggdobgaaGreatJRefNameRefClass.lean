import Derived.Test.YtjdnmblggdobgaaGreatJChkClassCatch
set_option maxHeartbeats 16000000
set_option maxRecDepth 100000
namespace Go.Proofs.YtjdnmblggdobgaaGreat
open Go.RowKit Tryz
theorem Es (w:World) (n m:Int):
 Calls prog 78 #[.i n,.i 0,.i m] w fun r w'=>r=.returned (.bool (win n m))/\w'=w:=by
 by_cases h0:0<=n
 ·by_cases h1:n<=m
  ·go_enter func78,ntmps78;go_wp2
   go_ret;simp [win,h0,h1]
  go_enter func78,ntmps78;go_wp2
  go_ret;simp [win,h1]
 go_enter func78,ntmps78;go_wp2
 go_ret;simp [win];omega
theorem Dt (w:World) (s:ByteArray) (hs:s.size<=maxLen):
 Calls prog 266 #[.string s] w fun r w'=>r=.returned (.bool (dc s))/\w'=w:=by
 unfold maxLen at hs;have L:Hid (dc s=(decide (1<=s.size)&&decide (s.size<=20)&&j5 s)):=rfl;go_enter func266,ntmps266;go_wp2
 go_loop [3] (fun i=>∃k:Nat,k<=s.size/\i=.i k/\∀j,j<k->da (bt s j)=true) (fun i=>s.size - (intOf i).toNat)
 case atStart=>exact ⟨0,n0q _,rfl,fun j X=>by omega⟩
 case round=>
  obtain ⟨k,hk,rfl,V⟩:=hrel;have O:=ag V;clear V;by_cases E:k<s.size
  ·have eb:(s[k].toNat)=bt s k:=(D5 s k E).symm;have HE:=ag eb;generalize hn:bt s k=n at*;have I:=ag hn;clear hn;rcases (by omega:(n<48)\/(48<=n/\n<=57)\/(57<n/\n<65)\/(65<=n/\n<=90)\/(90<n/\n<97/\n≠95)\/(n=95)\/(97<=n/\n<=122)\/(122<n))with h | h | h | h | h | h | h | h
   ·have A:da n=false:=by simp [da];omega
    have J:¬(97:Int)<=n:=by omega
    have G:¬(65:Int)<=n:=by omega
    have N:¬(48:Int)<=n:=by omega
    have W:((n:Int)==95)=false:=by simp;omega
    have D:=ag A;clear A h;have F:Hid (j5 s=false):=zan E (by rw [I.o];exact D.o);go_wp2
    go_ret;exact ⟨by rw [L.o,F.o,Bool.and_false];rfl,rfl⟩
   ·have A:da n=true:=by simp [da];omega
    have J:¬(97:Int)<=n:=by omega
    have G:¬(65:Int)<=n:=by omega
    have N:(48:Int)<=n:=by omega
    have W:(n:Int)<=57:=by omega
    have D:=ag A;clear A h;go_wp2
    go_round
    case rel=>exact ⟨k+1,by omega,by go_num,fun j X=>if hjk:j=k then (by rw [hjk,I.o];exact D.o) else O.o j (by omega)⟩
    case measure=>simp [intOf];omega
   ·have A:da n=false:=by simp [da];omega
    have J:¬(97:Int)<=n:=by omega
    have G:¬(65:Int)<=n:=by omega
    have N:(48:Int)<=n:=by omega
    have W:¬(n:Int)<=57:=by omega
    have Y:((n:Int)==95)=false:=by simp;omega
    have D:=ag A;clear A h;have F:Hid (j5 s=false):=zan E (by rw [I.o];exact D.o);go_wp2
    go_ret;exact ⟨by rw [L.o,F.o,Bool.and_false];rfl,rfl⟩
   ·have A:da n=true:=by simp [da];omega
    have J:¬(97:Int)<=n:=by omega
    have G:(65:Int)<=n:=by omega
    have N:(n:Int)<=90:=by omega
    have D:=ag A;clear A h;go_wp2
    go_round
    case rel=>exact ⟨k+1,by omega,by go_num,fun j X=>if hjk:j=k then (by rw [hjk,I.o];exact D.o) else O.o j (by omega)⟩
    case measure=>simp [intOf];omega
   ·have A:da n=false:=by simp [da];omega
    have J:¬(97:Int)<=n:=by omega
    have G:(65:Int)<=n:=by omega
    have N:¬(n:Int)<=90:=by omega
    have W:(48:Int)<=n:=by omega
    have Y:¬(n:Int)<=57:=by omega
    have Z:((n:Int)==95)=false:=by simp;omega
    have D:=ag A;clear A h;have F:Hid (j5 s=false):=zan E (by rw [I.o];exact D.o);go_wp2
    go_ret;exact ⟨by rw [L.o,F.o,Bool.and_false];rfl,rfl⟩
   ·have A:da n=true:=by simp [da];omega
    have J:¬(97:Int)<=n:=by omega
    have G:(65:Int)<=n:=by omega
    have N:¬(n:Int)<=90:=by omega
    have W:(48:Int)<=n:=by omega
    have Y:¬(n:Int)<=57:=by omega
    have Z:((n:Int)==95)=true:=by simp;omega
    have D:=ag A;clear A h;go_wp2
    go_round
    case rel=>exact ⟨k+1,by omega,by go_num,fun j X=>if hjk:j=k then (by rw [hjk,I.o];exact D.o) else O.o j (by omega)⟩
    case measure=>simp [intOf];omega
   ·have A:da n=true:=by simp [da];omega
    have J:(97:Int)<=n:=by omega
    have G:(n:Int)<=122:=by omega
    have D:=ag A;clear A h;go_wp2
    go_round
    case rel=>exact ⟨k+1,by omega,by go_num,fun j X=>if hjk:j=k then (by rw [hjk,I.o];exact D.o) else O.o j (by omega)⟩
    case measure=>simp [intOf];omega
   have A:da n=false:=by simp [da];omega
   have J:(97:Int)<=n:=by omega
   have G:¬(n:Int)<=122:=by omega
   have N:(65:Int)<=n:=by omega
   have W:¬(n:Int)<=90:=by omega
   have Y:(48:Int)<=n:=by omega
   have Z:¬(n:Int)<=57:=by omega
   have a6:((n:Int)==95)=false:=by simp;omega
   have D:=ag A;clear A h;have F:Hid (j5 s=false):=zan E (by rw [I.o];exact D.o);go_wp2
   go_ret;exact ⟨by rw [L.o,F.o,Bool.and_false];rfl,rfl⟩
  have F:Hid (j5 s=true):=zao fun i hi=>O.o i (by omega);by_cases h1:1<=s.size
  ·have G:(1:Int)<=s.size:=by omega
   go_wp2
   go_ret;exact ⟨by rw [L.o,F.o,decide_eq_true h1];simp;omega,rfl⟩
  have G:¬(1:Int)<=s.size:=by omega
  go_wp2
  go_ret;exact ⟨by rw [L.o,F.o,decide_eq_false h1];rfl,rfl⟩
theorem zqh (w:World) (k:fm) (I:k.de.size<=maxLen):
 Calls prog 267 #[.agg #[.i k.kind,.string k.de]] w fun r w'=>r=.returned (.bool (je k))/\Bl w w':=by
 obtain ⟨n,s⟩:=k
 dsimp only at*
 have D:=fun o=>(br w.heap.size w).alloc (nlq _) o;have A:Hid (je ⟨n,s⟩=if mx n=true then dc s else (decide (n=1)||decide (n=2))&&decide (s.size=0)):=rfl;have X:=wo s;by_cases h1:n=1
 ·subst h1;go_enter func267,ntmps267;go_wp2
  go_ret;exact ⟨by rw [A.o];simp [mx],D _⟩
 have N:(n==1)=false:=by simp [h1]
 by_cases E:n=2
 ·subst E;go_enter func267,ntmps267;go_wp2
  go_ret;exact ⟨by rw [A.o];simp [mx],D _⟩
 have O:(n==2)=false:=by simp [E]
 by_cases F:n=3
 ·subst F;go_enter func267,ntmps267;go_wp2_with fail;refine (Dt _ _ I).mono ?_;rintro r L ⟨rfl,rfl⟩;go_wp2
  go_ret;exact ⟨by rw [A.o];rfl,D _⟩
 have V:(n==3)=false:=by simp [F]
 by_cases G:n=4
 ·subst G;go_enter func267,ntmps267;go_wp2_with fail;refine (Dt _ _ I).mono ?_;rintro r L ⟨rfl,rfl⟩;go_wp2
  go_ret;exact ⟨by rw [A.o];rfl,D _⟩
 have W:(n==4)=false:=by simp [G]
 have J:Hid (je ⟨n,s⟩=false):=by show je ⟨n,s⟩=false;rw [A.o];simp [mx,h1,E,F,G]
 clear h1 E F G;go_enter func267,ntmps267;go_wp2
 go_ret;exact ⟨by rw [J.o];rfl,D _⟩
theorem zqi {h:iz} (h1:dc h.de=false):fd h=1:=by rw [fd,h1,qt]
theorem zqj {h:iz} (h1:dc h.de=true) (A:win h.yj 200=false):fd h=3:=by rw [fd,h1,oz,A,qt]
theorem zqk {h:iz} (h1:dc h.de=true) (A:win h.yj 200=true) (D:win h.upto 200=false):fd h=3:=by rw [fd,h1,oz,A,oz,D,qt]
theorem zql {h:iz} (h1:dc h.de=true) (A:win h.yj 200=true) (D:win h.upto 200=true) (E:win h.loc 200=false):fd h=3:=by rw [fd,h1,oz,A,oz,D,oz,E,qt]
theorem zqm {h:iz} (h1:dc h.de=true) (A:win h.yj 200=true) (D:win h.upto 200=true) (E:win h.loc 200=true):fd h=0:=by rw [fd,h1,oz,A,oz,D,oz,E,oz]
theorem zqn (w:World) (B:Nat) (m:d9) (va vh:Value) (ha:SL 2 RK (· <B) w va m.args) (hh:SL 4 RH (· <B) w vh m.hands) (hB:B<=w.heap.size) (ay:m.name.size<=maxLen) (az:m.ret.de.size<=maxLen):
 Calls prog 268 #[.agg #[.string m.name,.bool m.static,va,.i m.ret.kind,.string m.ret.de,.i m.stack,.i m.locals,.string m.code,vh]] w fun r w'=>r=.returned (.i (dw m))/\Bl w w':=by
 obtain ⟨Y,N,args,⟨rk,rc⟩,J,I,L,A⟩:=m
 dsimp only at*
 have HA:=ag ha;have HH:=ag hh;obtain ⟨ao,ca,rfl,a0,aw,-⟩:=ha;obtain ⟨ho,ch,rfl,a1,ax,-⟩:=hh;unfold maxLen at aw ax;have e0:=wo rc;have af:Hid (dw ⟨Y,N,args,⟨rk,rc⟩,J,I,L,A⟩=oa (dc Y) 1 (oa (decide (args.length<=4)) 2 (oa (decide (L.size<=200)) 2 (oa (decide (A.length<=4)) 2 (oa (win J 10) 3 (oa (win I 10) 3 (pv (ik ki args) (oa (returnedB ⟨rk,rc⟩) 7 (ik fd A))))))))):=rfl;generalize dw ⟨Y,N,args,⟨rk,rc⟩,J,I,L,A⟩=X at*;go_enter func268,ntmps268;go_wp2_with fail;generalize hW:w.alloc (.cells #[.string Y,.bool N,.slice ao args.length ca,.i rk,.string rc,.i J,.i I,.string L,.slice ho A.length ch] 159)=W0;have hz:W0.heap.size=w.heap.size+1:=by rw [<-hW];simp
 have D:Bl w W0:=by rw [<-hW];exact (br w.heap.size w).alloc (nlq _) _
 have c0:W0.cell? ⟨w.heap.size,0,none⟩=some (.string Y):=by rw [<-hW];simp [go_sem]
 have c1:W0.cell? ⟨w.heap.size,1,none⟩=some (.bool N):=by rw [<-hW];simp [go_sem]
 have c2:W0.cell? ⟨w.heap.size,2,none⟩=some (.slice ao args.length ca):=by rw [<-hW];simp [go_sem]
 have c3:W0.cell? ⟨w.heap.size,3,none⟩=some (.i rk):=by rw [<-hW];simp [go_sem]
 have c4:W0.cell? ⟨w.heap.size,4,none⟩=some (.string rc):=by rw [<-hW];simp [go_sem]
 have c5:W0.cell? ⟨w.heap.size,5,none⟩=some (.i J):=by rw [<-hW];simp [go_sem]
 have c6:W0.cell? ⟨w.heap.size,6,none⟩=some (.i I):=by rw [<-hW];simp [go_sem]
 have c7:W0.cell? ⟨w.heap.size,7,none⟩=some (.string L):=by rw [<-hW];simp [go_sem]
 have c8:W0.cell? ⟨w.heap.size,8,none⟩=some (.slice ho A.length ch):=by rw [<-hW];simp [go_sem]
 clear hW;refine (Dt _ _ ay).mono ?_;rintro r w1 ⟨rfl,rfl⟩;cases hb:dc Y
 ·have G:=ag (af.o.trans (by rw [hb,qt]));go_wp2_with fail;go_ret;exact ⟨by rw [G.o];rfl,D⟩
 have ah:=ag (af.o.trans (by rw [hb,oz]));clear hb af;by_cases hq:args.length<=4
 rotate_left
 ·have au:(4:Int)<args.length:=by omega
  have G:=ag (ah.o.trans (by rw [decide_eq_false hq,qt]));go_wp2_with fail;go_ret;exact ⟨by rw [G.o];rfl,D⟩
 have a2:¬(4:Int)<args.length:=by omega
 have ai:=ag (ah.o.trans (by rw [decide_eq_true hq,oz]));clear hq ah;by_cases hq:L.size<=200
 rotate_left
 ·have au:(200:Int)<L.size:=by omega
  have G:=ag (ai.o.trans (by rw [decide_eq_false hq,qt]));go_wp2_with fail;go_ret;exact ⟨by rw [G.o];rfl,D⟩
 have a3:¬(200:Int)<L.size:=by omega
 have aj:=ag (ai.o.trans (by rw [decide_eq_true hq,oz]));clear hq ai;by_cases hq:A.length<=4
 rotate_left
 ·have au:(4:Int)<A.length:=by omega
  have G:=ag (aj.o.trans (by rw [decide_eq_false hq,qt]));go_wp2_with fail;go_ret;exact ⟨by rw [G.o];rfl,D⟩
 have a4:¬(4:Int)<A.length:=by omega
 have ak:=ag (aj.o.trans (by rw [decide_eq_true hq,oz]));clear hq aj;go_wp2_with fail;refine (Es _ _ _).mono ?_;rintro r w1 ⟨rfl,rfl⟩;cases hb:win J 10
 ·have G:=ag (ak.o.trans (by rw [hb,qt]));go_wp2_with fail;go_ret;exact ⟨by rw [G.o];rfl,D⟩
 have al:=ag (ak.o.trans (by rw [hb,oz]));clear hb ak;go_wp2_with fail;refine (Es _ _ _).mono ?_;rintro r w1 ⟨rfl,rfl⟩;cases hb:win I 10
 ·have G:=ag (al.o.trans (by rw [hb,qt]));go_wp2_with fail;go_ret;exact ⟨by rw [G.o];rfl,D⟩
 have an:=ag (al.o.trans (by rw [hb,oz]));clear hb al;go_wp2_with fail;go_loopw [3] (fun i wr=>∃k:Nat,k<=args.length/\i=.i k/\Hid (ik ki (args.drop k)=ik ki args)/\Below (w.heap.size+1) w1 wr) (fun i _=>args.length - (intOf i).toNat)
 case atStart=>exact ⟨0,n0q _,rfl,rfl,br _ _⟩
 case round=>
  obtain ⟨k,hk,rfl,Z,E⟩:=hrel;have ad:w.heap.size+1<=wr.heap.size:=by have:=E.size;omega
  have av:w.heap.size<wr.heap.size:=by omega
  have d2:=(E.cell (p:=⟨w.heap.size,2,none⟩) (by simp)).trans c2;by_cases F:k<args.length
  ·obtain ⟨b,off,rfl,ap,e0,e1,es⟩:=(HA.o.keptK (Kp.below ((D.trans (E.mono (by omega))).mono hB))).atK k F;go_wp2_with fail;refine (zqh _ args[k] es).mono ?_;rintro r w2 ⟨rfl,ac⟩;have W:=E.trans (ac.mono (by omega));clear ac E e0 e1 d2;cases hb:je args[k]
   ·have G:=ag (an.o.trans (by rw [<-Z.o,uh F (by rw [zbt hb];decide),zbt hb,Cf (by decide)]));go_wp2_with fail;go_ret;exact ⟨by rw [G.o];rfl,D.trans (W.mono (by omega))⟩
   have HB:=ag (zbu hb);clear hb;go_wp2_with fail;go_roundw
   case rel=>exact ⟨k+1,by omega,by go_num,(zp F HB.o).symm.trans Z.o,W⟩
   case measure=>simp [intOf];omega
  have aa:=ag (an.o.trans (by rw [<-Z.o,zq F,zbv]));have d3:=(E.cell (p:=⟨w.heap.size,3,none⟩) (by simp)).trans c3;have d4:=(E.cell (p:=⟨w.heap.size,4,none⟩) (by simp)).trans c4;clear Z an;go_wp2_with fail;refine (zqh _ ⟨rk,rc⟩ az).mono ?_;rintro r w2 ⟨rfl,ac⟩;have W:=E.trans (ac.mono (by omega));clear ac E d3 d4 d2;have d3:=(W.cell (p:=⟨w.heap.size,3,none⟩) (by simp)).trans c3;have d4:=(W.cell (p:=⟨w.heap.size,4,none⟩) (by simp)).trans c4;have a5:w.heap.size<w2.heap.size:=by have:=W.size;omega
  have HR:Hid (returnedB ⟨rk,rc⟩=(je ⟨rk,rc⟩||(decide (rk=0)&&decide (rc.size=0)))):=rfl;cases hb:je ⟨rk,rc⟩
  ·rw [hb,Bool.false_or]at HR;by_cases h0:rk=0
   ·by_cases h1:rc.size=0
    ·have O:=ag (aa.o.trans (by rw [HR.o,decide_eq_true h0,decide_eq_true h1,Bool.and_self,oz]));have b0:(rk != 0)=false:=by rw [h0];rfl
     have b1:rc.toList.isEmpty=true:=by rw [e0,decide_eq_true h1]
     clear HR aa h0 h1 e0 hb;go_wp2_with fail;go_loopw [4] (fun i wr=>∃k:Nat,k<=A.length/\i=.i k/\Hid (ik fd (A.drop k)=ik fd A)/\Below (w.heap.size+1) w1 wr) (fun i _=>A.length - (intOf i).toNat)
     case atStart=>exact ⟨0,n0q _,rfl,rfl,W⟩
     case round=>
      obtain ⟨k,hk,rfl,Z,E⟩:=hrel;have ad:w.heap.size+1<=wr.heap.size:=by have:=E.size;omega
      have av:w.heap.size<wr.heap.size:=by omega
      have d8:=(E.cell (p:=⟨w.heap.size,8,none⟩) (by simp)).trans c8;by_cases F:k<A.length
      ·obtain ⟨b,off,rfl,ap,e0,e1,e2,e3,es⟩:=(HH.o.keptH (Kp.below ((D.trans (E.mono (by omega))).mono hB))).atH k F;have V:=E.alloc ad (.cells #[.i A[k].yj,.i A[k].upto,.i A[k].loc,.string A[k].de] 248);go_wp2_with fail;refine (Dt _ A[k].de es).mono ?_;rintro r w2 ⟨rfl,rfl⟩;cases h1:dc A[k].de
       ·have G:=ag (O.o.trans (by rw [<-Z.o,uh F (by rw [zqi h1];decide),zqi h1]));go_wp2_with fail;go_ret;exact ⟨by rw [G.o];rfl,D.trans (V.mono (by omega))⟩
       have H1:=ag h1;clear h1;go_wp2_with fail;refine (Es _ _ _).mono ?_;rintro r w2 ⟨rfl,rfl⟩;cases h2:win A[k].yj 200
       ·have G:=ag (O.o.trans (by rw [<-Z.o,uh F (by rw [zqj H1.o h2];decide),zqj H1.o h2]));go_wp2_with fail;go_ret;exact ⟨by rw [G.o];rfl,D.trans (V.mono (by omega))⟩
       have H2:=ag h2;clear h2;go_wp2_with fail;refine (Es _ _ _).mono ?_;rintro r w2 ⟨rfl,rfl⟩;cases h3:win A[k].upto 200
       ·have G:=ag (O.o.trans (by rw [<-Z.o,uh F (by rw [zqk H1.o H2.o h3];decide),zqk H1.o H2.o h3]));go_wp2_with fail;go_ret;exact ⟨by rw [G.o];rfl,D.trans (V.mono (by omega))⟩
       have H3:=ag h3;clear h3;go_wp2_with fail;refine (Es _ _ _).mono ?_;rintro r w2 ⟨rfl,rfl⟩;cases h4:win A[k].loc 200
       ·have G:=ag (O.o.trans (by rw [<-Z.o,uh F (by rw [zql H1.o H2.o H3.o h4];decide),zql H1.o H2.o H3.o h4]));go_wp2_with fail;go_ret;exact ⟨by rw [G.o];rfl,D.trans (V.mono (by omega))⟩
       have HO:=ag (zqm H1.o H2.o H3.o h4);clear h4;go_wp2_with fail;go_roundw
       case rel=>exact ⟨k+1,by omega,by go_num,(zp F HO.o).symm.trans Z.o,V⟩
       case measure=>simp [intOf];omega
      have G:=ag (O.o.trans (by rw [<-Z.o,zq F]));go_wp2_with fail;go_ret;exact ⟨by rw [G.o];rfl,D.trans (E.mono (by omega))⟩
    have G:=ag (aa.o.trans (by rw [HR.o,decide_eq_false h1,Bool.and_false,qt]));have b0:(rk != 0)=false:=by rw [h0];rfl
    have b1:rc.toList.isEmpty=false:=by rw [e0,decide_eq_false h1]
    clear HR aa h0 h1 e0 hb;go_wp2_with fail;go_ret;exact ⟨by rw [G.o];rfl,D.trans (W.mono (by omega))⟩
   have G:=ag (aa.o.trans (by rw [HR.o,decide_eq_false h0,Bool.false_and,qt]));have b0:(rk != 0)=true:=by rw [bne_iff_ne];exact h0
   clear HR aa h0 e0 hb;go_wp2_with fail;go_ret;exact ⟨by rw [G.o];rfl,D.trans (W.mono (by omega))⟩
  have O:=ag (aa.o.trans (by rw [HR.o,hb,Bool.true_or,oz]));clear HR aa e0 hb;go_wp2_with fail;go_loopw [4] (fun i wr=>∃k:Nat,k<=A.length/\i=.i k/\Hid (ik fd (A.drop k)=ik fd A)/\Below (w.heap.size+1) w1 wr) (fun i _=>A.length - (intOf i).toNat)
  case atStart=>exact ⟨0,n0q _,rfl,rfl,W⟩
  case round=>
   obtain ⟨k,hk,rfl,Z,E⟩:=hrel;have ad:w.heap.size+1<=wr.heap.size:=by have:=E.size;omega
   have av:w.heap.size<wr.heap.size:=by omega
   have d8:=(E.cell (p:=⟨w.heap.size,8,none⟩) (by simp)).trans c8;by_cases F:k<A.length
   ·obtain ⟨b,off,rfl,ap,e0,e1,e2,e3,es⟩:=(HH.o.keptH (Kp.below ((D.trans (E.mono (by omega))).mono hB))).atH k F;have V:=E.alloc ad (.cells #[.i A[k].yj,.i A[k].upto,.i A[k].loc,.string A[k].de] 248);go_wp2_with fail;refine (Dt _ A[k].de es).mono ?_;rintro r w2 ⟨rfl,rfl⟩;cases h1:dc A[k].de
    ·have G:=ag (O.o.trans (by rw [<-Z.o,uh F (by rw [zqi h1];decide),zqi h1]));go_wp2_with fail;go_ret;exact ⟨by rw [G.o];rfl,D.trans (V.mono (by omega))⟩
    have H1:=ag h1;clear h1;go_wp2_with fail;refine (Es _ _ _).mono ?_;rintro r w2 ⟨rfl,rfl⟩;cases h2:win A[k].yj 200
    ·have G:=ag (O.o.trans (by rw [<-Z.o,uh F (by rw [zqj H1.o h2];decide),zqj H1.o h2]));go_wp2_with fail;go_ret;exact ⟨by rw [G.o];rfl,D.trans (V.mono (by omega))⟩
    have H2:=ag h2;clear h2;go_wp2_with fail;refine (Es _ _ _).mono ?_;rintro r w2 ⟨rfl,rfl⟩;cases h3:win A[k].upto 200
    ·have G:=ag (O.o.trans (by rw [<-Z.o,uh F (by rw [zqk H1.o H2.o h3];decide),zqk H1.o H2.o h3]));go_wp2_with fail;go_ret;exact ⟨by rw [G.o];rfl,D.trans (V.mono (by omega))⟩
    have H3:=ag h3;clear h3;go_wp2_with fail;refine (Es _ _ _).mono ?_;rintro r w2 ⟨rfl,rfl⟩;cases h4:win A[k].loc 200
    ·have G:=ag (O.o.trans (by rw [<-Z.o,uh F (by rw [zql H1.o H2.o H3.o h4];decide),zql H1.o H2.o H3.o h4]));go_wp2_with fail;go_ret;exact ⟨by rw [G.o];rfl,D.trans (V.mono (by omega))⟩
    have HO:=ag (zqm H1.o H2.o H3.o h4);clear h4;go_wp2_with fail;go_roundw
    case rel=>exact ⟨k+1,by omega,by go_num,(zp F HO.o).symm.trans Z.o,V⟩
    case measure=>simp [intOf];omega
   have G:=ag (O.o.trans (by rw [<-Z.o,zq F]));go_wp2_with fail;go_ret;exact ⟨by rw [G.o];rfl,D.trans (E.mono (by omega))⟩
theorem zqo (w:World) (B:Nat) (l:List aq) (v:Value) (hv:SL 4 RC (· <B) w v l) (hB:B<=w.heap.size):
 Calls prog 224 #[v] w fun r w'=>r=.returned (.i (dy l))/\Bl w w':=by
 have HV:=ag hv;obtain ⟨ao,cl,rfl,bl,bb,-⟩:=hv;unfold maxLen at bb;have ay:Hid (dy l=oa (decide (l.length<=10)) 2 (ik ev l)):=rfl;generalize dy l=X at*;go_enter func224,ntmps224;by_cases J:l.length<=10
 rotate_left
 ·have aw:(10:Int)<l.length:=by omega
  have I:=ag (ay.o.trans (by rw [decide_eq_false J,qt]));go_wp2_with fail;go_ret;exact ⟨by rw [I.o];rfl,br _ _⟩
 have bn:¬(10:Int)<l.length:=by omega
 have a3:=ag (ay.o.trans (by rw [decide_eq_true J,oz]));clear J ay;go_wp2_with fail;go_loopw [3] (fun i wr=>∃k:Nat,k<=l.length/\i=.i k/\Hid (ik ev (l.drop k)=ik ev l)/\Bl w wr) (fun i _=>l.length - (intOf i).toNat)
 case atStart=>exact ⟨0,n0q _,rfl,rfl,br _ _⟩
 case round=>
  obtain ⟨k,hk,rfl,N,au⟩:=hrel;have a4:=au.size;by_cases av:k<l.length
  rotate_left
  ·have I:=ag (a3.o.trans (by rw [<-N.o,zq av]));go_wp2_with fail;go_ret;exact ⟨by rw [I.o];rfl,au⟩
  obtain ⟨b,off,vf,vm,rfl,bh,e0,e1,e2,e3,ef,em,a6,a7⟩:=(HV.o.keptC (Kp.below (au.mono hB))).atC k av;have L:=ag (fun (e:Int) (he:e≠0) (hc:ev l[k]=e)=>a3.o.trans ((N.o.symm.trans (uh av (by rw [hc];exact he))).trans hc));have a2:=ag (fun (hc:ev l[k]=0)=>(zp av hc).symm.trans N.o);have a5:Hid (ev l[k]=ev l[k]):=rfl;generalize l[k]=c at*;obtain ⟨V,bv,A,F⟩:=c
  dsimp only at*
  have ax:Hid (ev ⟨V,bv,A,F⟩=oa (dc V) 1 (oa (decide (bv.size=0)||dc bv) 1 (oa (decide (A.length<=6)) 2 (oa (decide (F.length<=8)) 2 (pv (ik fq A) (ik dw F)))))):=rfl;generalize ev ⟨V,bv,A,F⟩=Y at*;have EF:=ag ef;have EM:=ag em;obtain ⟨fo,cf,rfl,bi,a9,-⟩:=ef;obtain ⟨mo,cm,rfl,bm,bc,-⟩:=em;unfold maxLen at a9 bc;have s0:=wo bv;clear a5 N;go_wp2_with fail;generalize hW:wr.alloc (.cells #[.string V,.string bv,.slice fo A.length cf,.slice mo F.length cm] 162)=W0;have hz:W0.heap.size=wr.heap.size+1:=by rw [<-hW];simp
  have ak:Bl wr W0:=by rw [<-hW];exact (br wr.heap.size wr).alloc (nlq _) _
  have G:Bl w W0:=au.trans (ak.mono a4);have c0:W0.cell? ⟨wr.heap.size,0,none⟩=some (.string V):=by rw [<-hW];simp [go_sem]
  have c1:W0.cell? ⟨wr.heap.size,1,none⟩=some (.string bv):=by rw [<-hW];simp [go_sem]
  have c2:W0.cell? ⟨wr.heap.size,2,none⟩=some (.slice fo A.length cf):=by rw [<-hW];simp [go_sem]
  have c3:W0.cell? ⟨wr.heap.size,3,none⟩=some (.slice mo F.length cm):=by rw [<-hW];simp [go_sem]
  have bo:wr.heap.size<W0.heap.size:=by omega
  clear hW e0 e1 e2 e3;refine (Dt _ _ a6).mono ?_;rintro r w1 ⟨rfl,rfl⟩;cases hb:dc V
  ·have I:=ag (L.o 1 (by decide) (ax.o.trans (by rw [hb,qt])));go_wp2_with fail;go_ret;exact ⟨by rw [I.o];rfl,G⟩
  have ap:=ag (ax.o.trans (by rw [hb,oz]));clear hb ax;by_cases J:bv.size=0
  ·have ac:=ag (ap.o.trans (by rw [decide_eq_true J,Bool.true_or,oz]));have s1:bv.toList.isEmpty=true:=by rw [s0,decide_eq_true J]
   clear ap J s0;by_cases J:A.length<=6
   rotate_left
   ·have aw:(6:Int)<A.length:=by omega
    have I:=ag (L.o 2 (by decide) (ac.o.trans (by rw [decide_eq_false J,qt])));go_wp2_with fail;go_ret;exact ⟨by rw [I.o];rfl,G⟩
   have bf:¬(6:Int)<A.length:=by omega
   have ad:=ag (ac.o.trans (by rw [decide_eq_true J,oz]));clear J ac;by_cases J:F.length<=8
   rotate_left
   ·have aw:(8:Int)<F.length:=by omega
    have I:=ag (L.o 2 (by decide) (ad.o.trans (by rw [decide_eq_false J,qt])));go_wp2_with fail;go_ret;exact ⟨by rw [I.o];rfl,G⟩
   have bg:¬(8:Int)<F.length:=by omega
   have W:=ag (ad.o.trans (by rw [decide_eq_true J,oz]));clear J ad;go_wp2_with fail;go_loopw [5] (fun i wi=>∃j:Nat,j<=A.length/\i=.i j/\Hid (ik fq (A.drop j)=ik fq A)/\Below (wr.heap.size+1) w1 wi) (fun i _=>A.length - (intOf i).toNat)
   case atStart=>exact ⟨0,n0q _,rfl,rfl,br _ _⟩
   case round=>
    rename World=>wi
    obtain ⟨j,hj,rfl,N,E⟩:=hrel;have a0:wr.heap.size+1<=wi.heap.size:=by have:=E.size;omega
    have a1:wr.heap.size<wi.heap.size:=by omega
    have d2:=(E.cell (p:=⟨wr.heap.size,2,none⟩) (by simp)).trans c2;by_cases D:j<A.length
    ·obtain ⟨b2,an,rfl,al,e0,e1,e2,af,ah⟩:=(EF.o.keptF (Kp.below ((ak.trans (E.mono (by omega))).mono (by omega)))).atF j D;go_wp2_with fail;refine (Dt _ A[j].name af).mono ?_;rintro r w2 ⟨rfl,rfl⟩;cases h1:dc A[j].name
     ·have I:=ag (L.o 1 (by decide) (W.o.trans (by rw [<-N.o,uh D (by rw [Ef h1];decide),Ef h1,Cf (by decide)])));go_wp2_with fail;go_ret;exact ⟨by rw [I.o];rfl,G.trans (E.mono (by omega))⟩
     have H1:=ag h1;clear h1;go_wp2_with fail;refine (zqh _ A[j].kind ah).mono ?_;rintro r w3 ⟨rfl,O⟩;have Z:=E.trans (O.mono (by omega));clear O E e0 e1 e2 d2;cases h2:je A[j].kind
     ·have I:=ag (L.o 7 (by decide) (W.o.trans (by rw [<-N.o,uh D (by rw [Eg H1.o h2];decide),Eg H1.o h2,Cf (by decide)])));go_wp2_with fail;go_ret;exact ⟨by rw [I.o];rfl,G.trans (Z.mono (by omega))⟩
     have HO:=ag (zb0 H1.o h2);clear h2;go_wp2_with fail;go_roundw
     case rel=>exact ⟨j+1,by omega,by go_num,(zp D HO.o).symm.trans N.o,Z⟩
     case measure=>simp [intOf];omega
    have aj:=ag (W.o.trans (by rw [<-N.o,zq D,zbv]));clear N W;have Z:=E;clear E;go_wp2_with fail;go_loopw [6] (fun i wi=>∃j:Nat,j<=F.length/\i=.i j/\Hid (ik dw (F.drop j)=ik dw F)/\Below (wr.heap.size+1) w1 wi) (fun i _=>F.length - (intOf i).toNat)
    case atStart=>exact ⟨0,n0q _,rfl,rfl,Z⟩
    case round=>
     rename World=>wi
     obtain ⟨j,hj,rfl,N,E⟩:=hrel;have a0:wr.heap.size+1<=wi.heap.size:=by have:=E.size;omega
     have a1:wr.heap.size<wi.heap.size:=by omega
     have d3:=(E.cell (p:=⟨wr.heap.size,3,none⟩) (by simp)).trans c3;by_cases D:j<F.length
     ·obtain ⟨b2,an,va,vh,rfl,al,e0,e1,e2,e3,e4,e5,e6,e7,e8,ea,eh,af,ah,a8⟩:=(EM.o.keptM (Kp.below ((ak.trans (E.mono (by omega))).mono (by omega)))).atM j D;have EA:=ag ea;have EH:=ag eh;obtain ⟨ao,ca,rfl,-⟩:=ea;obtain ⟨ho,ch,rfl,-⟩:=eh;go_wp2_with fail;refine (zqn _ B F[j] _ _ EA.o EH.o (by omega) af ah).mono ?_;rintro r w3 ⟨rfl,O⟩;have aa:=E.trans (O.mono (by omega));clear O E e0 e1 e2 e3 e4 e5 e6 e7 e8 d3 EA EH;by_cases hc:dw F[j]=0
      ·have HO:=ag hc;have az:(dw F[j] != 0)=false:=by rw [hc];rfl
       clear hc;go_wp2_with fail;go_roundw
       case rel=>exact ⟨j+1,by omega,by go_num,(zp D HO.o).symm.trans N.o,aa⟩
       case measure=>simp [intOf];omega
      have I:=ag (L.o (dw F[j]) hc (aj.o.trans (by rw [<-N.o,uh D hc])));have az:(dw F[j] != 0)=true:=by rw [bne_iff_ne];exact hc
      clear hc;go_wp2_with fail;go_ret;exact ⟨by rw [I.o];rfl,G.trans (aa.mono (by omega))⟩
     have HO:=ag (a2.o (aj.o.trans (by rw [<-N.o,zq D])));go_wp2_with fail;go_roundw
     case rel=>exact ⟨k+1,by omega,by go_num,HO.o,G.trans (E.mono (by omega))⟩
     case measure=>simp [intOf];omega
  have ai:=ag (ap.o.trans (by rw [decide_eq_false J,Bool.false_or]));have s1:bv.toList.isEmpty=false:=by rw [s0,decide_eq_false J]
  clear ap J s0;go_wp2_with fail;refine (Dt _ _ a7).mono ?_;rintro r w1 ⟨rfl,rfl⟩;cases hb:dc bv
  ·have I:=ag (L.o 1 (by decide) (ai.o.trans (by rw [hb,qt])));go_wp2_with fail;go_ret;exact ⟨by rw [I.o];rfl,G⟩
  have ac:=ag (ai.o.trans (by rw [hb,oz]));clear hb ai;by_cases J:A.length<=6
  rotate_left
  ·have aw:(6:Int)<A.length:=by omega
   have I:=ag (L.o 2 (by decide) (ac.o.trans (by rw [decide_eq_false J,qt])));go_wp2_with fail;go_ret;exact ⟨by rw [I.o];rfl,G⟩
  have bf:¬(6:Int)<A.length:=by omega
  have ad:=ag (ac.o.trans (by rw [decide_eq_true J,oz]));clear J ac;by_cases J:F.length<=8
  rotate_left
  ·have aw:(8:Int)<F.length:=by omega
   have I:=ag (L.o 2 (by decide) (ad.o.trans (by rw [decide_eq_false J,qt])));go_wp2_with fail;go_ret;exact ⟨by rw [I.o];rfl,G⟩
  have bg:¬(8:Int)<F.length:=by omega
  have W:=ag (ad.o.trans (by rw [decide_eq_true J,oz]));clear J ad;go_wp2_with fail;go_loopw [5] (fun i wi=>∃j:Nat,j<=A.length/\i=.i j/\Hid (ik fq (A.drop j)=ik fq A)/\Below (wr.heap.size+1) w1 wi) (fun i _=>A.length - (intOf i).toNat)
  case atStart=>exact ⟨0,n0q _,rfl,rfl,br _ _⟩
  case round=>
   rename World=>wi
   obtain ⟨j,hj,rfl,N,E⟩:=hrel;have a0:wr.heap.size+1<=wi.heap.size:=by have:=E.size;omega
   have a1:wr.heap.size<wi.heap.size:=by omega
   have d2:=(E.cell (p:=⟨wr.heap.size,2,none⟩) (by simp)).trans c2;by_cases D:j<A.length
   ·obtain ⟨b2,an,rfl,al,e0,e1,e2,af,ah⟩:=(EF.o.keptF (Kp.below ((ak.trans (E.mono (by omega))).mono (by omega)))).atF j D;go_wp2_with fail;refine (Dt _ A[j].name af).mono ?_;rintro r w2 ⟨rfl,rfl⟩;cases h1:dc A[j].name
    ·have I:=ag (L.o 1 (by decide) (W.o.trans (by rw [<-N.o,uh D (by rw [Ef h1];decide),Ef h1,Cf (by decide)])));go_wp2_with fail;go_ret;exact ⟨by rw [I.o];rfl,G.trans (E.mono (by omega))⟩
    have H1:=ag h1;clear h1;go_wp2_with fail;refine (zqh _ A[j].kind ah).mono ?_;rintro r w3 ⟨rfl,O⟩;have Z:=E.trans (O.mono (by omega));clear O E e0 e1 e2 d2;cases h2:je A[j].kind
    ·have I:=ag (L.o 7 (by decide) (W.o.trans (by rw [<-N.o,uh D (by rw [Eg H1.o h2];decide),Eg H1.o h2,Cf (by decide)])));go_wp2_with fail;go_ret;exact ⟨by rw [I.o];rfl,G.trans (Z.mono (by omega))⟩
    have HO:=ag (zb0 H1.o h2);clear h2;go_wp2_with fail;go_roundw
    case rel=>exact ⟨j+1,by omega,by go_num,(zp D HO.o).symm.trans N.o,Z⟩
    case measure=>simp [intOf];omega
   have aj:=ag (W.o.trans (by rw [<-N.o,zq D,zbv]));clear N W;have Z:=E;clear E;go_wp2_with fail;go_loopw [6] (fun i wi=>∃j:Nat,j<=F.length/\i=.i j/\Hid (ik dw (F.drop j)=ik dw F)/\Below (wr.heap.size+1) w1 wi) (fun i _=>F.length - (intOf i).toNat)
   case atStart=>exact ⟨0,n0q _,rfl,rfl,Z⟩
   case round=>
    rename World=>wi
    obtain ⟨j,hj,rfl,N,E⟩:=hrel;have a0:wr.heap.size+1<=wi.heap.size:=by have:=E.size;omega
    have a1:wr.heap.size<wi.heap.size:=by omega
    have d3:=(E.cell (p:=⟨wr.heap.size,3,none⟩) (by simp)).trans c3;by_cases D:j<F.length
    ·obtain ⟨b2,an,va,vh,rfl,al,e0,e1,e2,e3,e4,e5,e6,e7,e8,ea,eh,af,ah,a8⟩:=(EM.o.keptM (Kp.below ((ak.trans (E.mono (by omega))).mono (by omega)))).atM j D;have EA:=ag ea;have EH:=ag eh;obtain ⟨ao,ca,rfl,-⟩:=ea;obtain ⟨ho,ch,rfl,-⟩:=eh;go_wp2_with fail;refine (zqn _ B F[j] _ _ EA.o EH.o (by omega) af ah).mono ?_;rintro r w3 ⟨rfl,O⟩;have aa:=E.trans (O.mono (by omega));clear O E e0 e1 e2 e3 e4 e5 e6 e7 e8 d3 EA EH;by_cases hc:dw F[j]=0
     ·have HO:=ag hc;have az:(dw F[j] != 0)=false:=by rw [hc];rfl
      clear hc;go_wp2_with fail;go_roundw
      case rel=>exact ⟨j+1,by omega,by go_num,(zp D HO.o).symm.trans N.o,aa⟩
      case measure=>simp [intOf];omega
     have I:=ag (L.o (dw F[j]) hc (aj.o.trans (by rw [<-N.o,uh D hc])));have az:(dw F[j] != 0)=true:=by rw [bne_iff_ne];exact hc
     clear hc;go_wp2_with fail;go_ret;exact ⟨by rw [I.o];rfl,G.trans (aa.mono (by omega))⟩
    have HO:=ag (a2.o (aj.o.trans (by rw [<-N.o,zq D])));go_wp2_with fail;go_roundw
    case rel=>exact ⟨k+1,by omega,by go_num,HO.o,G.trans (E.mono (by omega))⟩
    case measure=>simp [intOf];omega
end Go.Proofs.YtjdnmblggdobgaaGreat
