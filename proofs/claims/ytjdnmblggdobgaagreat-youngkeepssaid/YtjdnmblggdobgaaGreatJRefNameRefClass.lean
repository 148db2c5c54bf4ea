import Derived.Test.YtjdnmblggdobgaaGreatJChkClassCatch
set_option maxHeartbeats 16000000
set_option maxRecDepth 100000
namespace Go.Proofs.YtjdnmblggdobgaaGreat
open Go.RowKit
theorem zqf (w:World) (n m:Int):
 Calls Tryz.prog 78 #[.int .i64 n,.int .i64 0,.int .i64 m] w fun r w'=>r=.returned (.bool (win n m))/\w'=w:=by
 by_cases h0:0<=n
 ·by_cases h1:n<=m
  ·go_enter Tryz.func78,Tryz.ntmps78;go_wp2
   go_ret;simp [win,h0,h1]
  go_enter Tryz.func78,Tryz.ntmps78;go_wp2
  go_ret;simp [win,h1]
 go_enter Tryz.func78,Tryz.ntmps78;go_wp2
 go_ret;simp [win];omega
theorem zqg (w:World) (s:ByteArray) (hs:s.size<=maxLen):
 Calls Tryz.prog 266 #[.string s] w fun r w'=>r=.returned (.bool (db s))/\w'=w:=by
 unfold maxLen at hs;have L:Hid (db s=(decide (1<=s.size)&&decide (s.size<=20)&&i5 s)):=rfl;go_enter Tryz.func266,Tryz.ntmps266;go_wp2
 go_loop [3] (fun i=>∃k:Nat,k<=s.size/\i=.int .i64 k/\∀j,j<k->cw (bt s j)=true) (fun i=>s.size - (intOf i).toNat)
 case atStart=>exact ⟨0,n0q _,rfl,fun j X=>by omega⟩
 case round=>
  obtain ⟨k,hk,rfl,V⟩:=hrel;have O:=ae V;clear V;by_cases E:k<s.size
  ·have eb:(s[k].toNat)=bt s k:=(bt_eq s k E).symm;have HE:=ae eb;generalize hn:bt s k=n at*;have I:=ae hn;clear hn;rcases (by omega:(n<48)\/(48<=n/\n<=57)\/(57<n/\n<65)\/(65<=n/\n<=90)\/(90<n/\n<97/\n≠95)\/(n=95)\/(97<=n/\n<=122)\/(122<n))with h | h | h | h | h | h | h | h
   ·have A:cw n=false:=by simp [cw];omega
    have J:¬(97:Int)<=n:=by omega
    have G:¬(65:Int)<=n:=by omega
    have N:¬(48:Int)<=n:=by omega
    have W:((n:Int)==95)=false:=by simp;omega
    have D:=ae A;clear A h;have F:Hid (i5 s=false):=zan E (by rw [I.o];exact D.o);go_wp2
    go_ret;exact ⟨by rw [L.o,F.o,Bool.and_false];rfl,rfl⟩
   ·have A:cw n=true:=by simp [cw];omega
    have J:¬(97:Int)<=n:=by omega
    have G:¬(65:Int)<=n:=by omega
    have N:(48:Int)<=n:=by omega
    have W:(n:Int)<=57:=by omega
    have D:=ae A;clear A h;go_wp2
    go_round
    case rel=>exact ⟨k+1,by omega,by go_num,fun j X=>if hjk:j=k then (by rw [hjk,I.o];exact D.o) else O.o j (by omega)⟩
    case measure=>simp [intOf];omega
   ·have A:cw n=false:=by simp [cw];omega
    have J:¬(97:Int)<=n:=by omega
    have G:¬(65:Int)<=n:=by omega
    have N:(48:Int)<=n:=by omega
    have W:¬(n:Int)<=57:=by omega
    have Y:((n:Int)==95)=false:=by simp;omega
    have D:=ae A;clear A h;have F:Hid (i5 s=false):=zan E (by rw [I.o];exact D.o);go_wp2
    go_ret;exact ⟨by rw [L.o,F.o,Bool.and_false];rfl,rfl⟩
   ·have A:cw n=true:=by simp [cw];omega
    have J:¬(97:Int)<=n:=by omega
    have G:(65:Int)<=n:=by omega
    have N:(n:Int)<=90:=by omega
    have D:=ae A;clear A h;go_wp2
    go_round
    case rel=>exact ⟨k+1,by omega,by go_num,fun j X=>if hjk:j=k then (by rw [hjk,I.o];exact D.o) else O.o j (by omega)⟩
    case measure=>simp [intOf];omega
   ·have A:cw n=false:=by simp [cw];omega
    have J:¬(97:Int)<=n:=by omega
    have G:(65:Int)<=n:=by omega
    have N:¬(n:Int)<=90:=by omega
    have W:(48:Int)<=n:=by omega
    have Y:¬(n:Int)<=57:=by omega
    have Z:((n:Int)==95)=false:=by simp;omega
    have D:=ae A;clear A h;have F:Hid (i5 s=false):=zan E (by rw [I.o];exact D.o);go_wp2
    go_ret;exact ⟨by rw [L.o,F.o,Bool.and_false];rfl,rfl⟩
   ·have A:cw n=true:=by simp [cw];omega
    have J:¬(97:Int)<=n:=by omega
    have G:(65:Int)<=n:=by omega
    have N:¬(n:Int)<=90:=by omega
    have W:(48:Int)<=n:=by omega
    have Y:¬(n:Int)<=57:=by omega
    have Z:((n:Int)==95)=true:=by simp;omega
    have D:=ae A;clear A h;go_wp2
    go_round
    case rel=>exact ⟨k+1,by omega,by go_num,fun j X=>if hjk:j=k then (by rw [hjk,I.o];exact D.o) else O.o j (by omega)⟩
    case measure=>simp [intOf];omega
   ·have A:cw n=true:=by simp [cw];omega
    have J:(97:Int)<=n:=by omega
    have G:(n:Int)<=122:=by omega
    have D:=ae A;clear A h;go_wp2
    go_round
    case rel=>exact ⟨k+1,by omega,by go_num,fun j X=>if hjk:j=k then (by rw [hjk,I.o];exact D.o) else O.o j (by omega)⟩
    case measure=>simp [intOf];omega
   have A:cw n=false:=by simp [cw];omega
   have J:(97:Int)<=n:=by omega
   have G:¬(n:Int)<=122:=by omega
   have N:(65:Int)<=n:=by omega
   have W:¬(n:Int)<=90:=by omega
   have Y:(48:Int)<=n:=by omega
   have Z:¬(n:Int)<=57:=by omega
   have a6:((n:Int)==95)=false:=by simp;omega
   have D:=ae A;clear A h;have F:Hid (i5 s=false):=zan E (by rw [I.o];exact D.o);go_wp2
   go_ret;exact ⟨by rw [L.o,F.o,Bool.and_false];rfl,rfl⟩
  have F:Hid (i5 s=true):=zao fun i hi=>O.o i (by omega);by_cases h1:1<=s.size
  ·have G:(1:Int)<=s.size:=by omega
   go_wp2
   go_ret;exact ⟨by rw [L.o,F.o,decide_eq_true h1];simp;omega,rfl⟩
  have G:¬(1:Int)<=s.size:=by omega
  go_wp2
  go_ret;exact ⟨by rw [L.o,F.o,decide_eq_false h1];rfl,rfl⟩
theorem zqh (w:World) (k:ew) (I:k.da.size<=maxLen):
 Calls Tryz.prog 267 #[.agg #[.int .i64 k.kind,.string k.da]] w fun r w'=>r=.returned (.bool (ij k))/\Below w.heap.size w w':=by
 obtain ⟨n,s⟩:=k
 dsimp only at*
 have D:=fun o=>(br w.heap.size w).alloc (nlq _) o;have A:Hid (ij ⟨n,s⟩=if ke n=true then db s else (decide (n=1)||decide (n=2))&&decide (s.size=0)):=rfl;have X:=size0 s;by_cases h1:n=1
 ·subst h1;go_enter Tryz.func267,Tryz.ntmps267;go_wp2
  go_ret;exact ⟨by rw [A.o];simp [ke],D _⟩
 have N:(n==1)=false:=by simp [h1]
 by_cases E:n=2
 ·subst E;go_enter Tryz.func267,Tryz.ntmps267;go_wp2
  go_ret;exact ⟨by rw [A.o];simp [ke],D _⟩
 have O:(n==2)=false:=by simp [E]
 by_cases F:n=3
 ·subst F;go_enter Tryz.func267,Tryz.ntmps267;go_wp2_with fail;refine (zqg _ _ I).mono ?_;rintro r L ⟨rfl,rfl⟩;go_wp2
  go_ret;exact ⟨by rw [A.o];rfl,D _⟩
 have V:(n==3)=false:=by simp [F]
 by_cases G:n=4
 ·subst G;go_enter Tryz.func267,Tryz.ntmps267;go_wp2_with fail;refine (zqg _ _ I).mono ?_;rintro r L ⟨rfl,rfl⟩;go_wp2
  go_ret;exact ⟨by rw [A.o];rfl,D _⟩
 have W:(n==4)=false:=by simp [G]
 have J:Hid (ij ⟨n,s⟩=false):=by show ij ⟨n,s⟩=false;rw [A.o];simp [ke,h1,E,F,G]
 clear h1 E F G;go_enter Tryz.func267,Tryz.ntmps267;go_wp2
 go_ret;exact ⟨by rw [J.o];rfl,D _⟩
theorem zqi {h:ic} (h1:db h.da=false):et h=1:=by rw [et,h1,nf]
theorem zqj {h:ic} (h1:db h.da=true) (A:win h.frm 200=false):et h=3:=by rw [et,h1,li,A,nf]
theorem zqk {h:ic} (h1:db h.da=true) (A:win h.frm 200=true) (D:win h.upto 200=false):et h=3:=by rw [et,h1,li,A,li,D,nf]
theorem zql {h:ic} (h1:db h.da=true) (A:win h.frm 200=true) (D:win h.upto 200=true) (E:win h.loc 200=false):et h=3:=by rw [et,h1,li,A,li,D,li,E,nf]
theorem zqm {h:ic} (h1:db h.da=true) (A:win h.frm 200=true) (D:win h.upto 200=true) (E:win h.loc 200=true):et h=0:=by rw [et,h1,li,A,li,D,li,E,li]
theorem zqn (w:World) (B:Nat) (m:dx) (va vh:Value) (ha:SL 2 RK (· <B) w va m.args) (hh:SL 4 RH (· <B) w vh m.hands) (hB:B<=w.heap.size) (ay:m.name.size<=maxLen) (az:m.ret.da.size<=maxLen):
 Calls Tryz.prog 268 #[.agg #[.string m.name,.bool m.static,va,.int .i64 m.ret.kind,.string m.ret.da,.int .i64 m.stack,.int .i64 m.locals,.string m.code,vh]] w fun r w'=>r=.returned (.int .i64 (dq m))/\Below w.heap.size w w':=by
 obtain ⟨Y,N,args,⟨rk,rc⟩,J,I,L,A⟩:=m
 dsimp only at*
 have HA:=ae ha;have HH:=ae hh;obtain ⟨ao,ca,rfl,a0,av,-⟩:=ha;obtain ⟨ho,ch,rfl,a1,ax,-⟩:=hh;unfold maxLen at av ax;have e0:=size0 rc;have af:Hid (dq ⟨Y,N,args,⟨rk,rc⟩,J,I,L,A⟩=la (db Y) 1 (la (decide (args.length<=4)) 2 (la (decide (L.size<=200)) 2 (la (decide (A.length<=4)) 2 (la (win J 10) 3 (la (win I 10) 3 (mh (gk jj args) (la (returnedB ⟨rk,rc⟩) 7 (gk et A))))))))):=rfl;generalize dq ⟨Y,N,args,⟨rk,rc⟩,J,I,L,A⟩=X at*;go_enter Tryz.func268,Tryz.ntmps268;go_wp2_with fail;generalize hW:w.alloc (.cells #[.string Y,.bool N,.slice ao args.length ca,.int .i64 rk,.string rc,.int .i64 J,.int .i64 I,.string L,.slice ho A.length ch] 159)=W0;have hz:W0.heap.size=w.heap.size+1:=by rw [<-hW];simp
 have D:Below w.heap.size w W0:=by rw [<-hW];exact (br w.heap.size w).alloc (nlq _) _
 have c0:W0.cell? ⟨w.heap.size,0,none⟩=some (.string Y):=by rw [<-hW];simp [go_sem]
 have c1:W0.cell? ⟨w.heap.size,1,none⟩=some (.bool N):=by rw [<-hW];simp [go_sem]
 have c2:W0.cell? ⟨w.heap.size,2,none⟩=some (.slice ao args.length ca):=by rw [<-hW];simp [go_sem]
 have c3:W0.cell? ⟨w.heap.size,3,none⟩=some (.int .i64 rk):=by rw [<-hW];simp [go_sem]
 have c4:W0.cell? ⟨w.heap.size,4,none⟩=some (.string rc):=by rw [<-hW];simp [go_sem]
 have c5:W0.cell? ⟨w.heap.size,5,none⟩=some (.int .i64 J):=by rw [<-hW];simp [go_sem]
 have c6:W0.cell? ⟨w.heap.size,6,none⟩=some (.int .i64 I):=by rw [<-hW];simp [go_sem]
 have c7:W0.cell? ⟨w.heap.size,7,none⟩=some (.string L):=by rw [<-hW];simp [go_sem]
 have c8:W0.cell? ⟨w.heap.size,8,none⟩=some (.slice ho A.length ch):=by rw [<-hW];simp [go_sem]
 clear hW;refine (zqg _ _ ay).mono ?_;rintro r w1 ⟨rfl,rfl⟩;cases hb:db Y
 ·have G:=ae (af.o.trans (by rw [hb,nf]));go_wp2_with fail;go_ret;exact ⟨by rw [G.o];rfl,D⟩
 have ag:=ae (af.o.trans (by rw [hb,li]));clear hb af;by_cases hq:args.length<=4
 rotate_left
 ·have aq:(4:Int)<args.length:=by omega
  have G:=ae (ag.o.trans (by rw [decide_eq_false hq,nf]));go_wp2_with fail;go_ret;exact ⟨by rw [G.o];rfl,D⟩
 have a2:¬(4:Int)<args.length:=by omega
 have ah:=ae (ag.o.trans (by rw [decide_eq_true hq,li]));clear hq ag;by_cases hq:L.size<=200
 rotate_left
 ·have aq:(200:Int)<L.size:=by omega
  have G:=ae (ah.o.trans (by rw [decide_eq_false hq,nf]));go_wp2_with fail;go_ret;exact ⟨by rw [G.o];rfl,D⟩
 have a3:¬(200:Int)<L.size:=by omega
 have ai:=ae (ah.o.trans (by rw [decide_eq_true hq,li]));clear hq ah;by_cases hq:A.length<=4
 rotate_left
 ·have aq:(4:Int)<A.length:=by omega
  have G:=ae (ai.o.trans (by rw [decide_eq_false hq,nf]));go_wp2_with fail;go_ret;exact ⟨by rw [G.o];rfl,D⟩
 have a4:¬(4:Int)<A.length:=by omega
 have aj:=ae (ai.o.trans (by rw [decide_eq_true hq,li]));clear hq ai;go_wp2_with fail;refine (zqf _ _ _).mono ?_;rintro r w1 ⟨rfl,rfl⟩;cases hb:win J 10
 ·have G:=ae (aj.o.trans (by rw [hb,nf]));go_wp2_with fail;go_ret;exact ⟨by rw [G.o];rfl,D⟩
 have ak:=ae (aj.o.trans (by rw [hb,li]));clear hb aj;go_wp2_with fail;refine (zqf _ _ _).mono ?_;rintro r w1 ⟨rfl,rfl⟩;cases hb:win I 10
 ·have G:=ae (ak.o.trans (by rw [hb,nf]));go_wp2_with fail;go_ret;exact ⟨by rw [G.o];rfl,D⟩
 have al:=ae (ak.o.trans (by rw [hb,li]));clear hb ak;go_wp2_with fail;go_loopw [3] (fun i wr=>∃k:Nat,k<=args.length/\i=.int .i64 k/\Hid (gk jj (args.drop k)=gk jj args)/\Below (w.heap.size+1) w1 wr) (fun i _=>args.length - (intOf i).toNat)
 case atStart=>exact ⟨0,n0q _,rfl,rfl,br _ _⟩
 case round=>
  obtain ⟨k,hk,rfl,Z,E⟩:=hrel;have ad:w.heap.size+1<=wr.heap.size:=by have:=E.size;omega
  have au:w.heap.size<wr.heap.size:=by omega
  have d2:=(E.cell (p:=⟨w.heap.size,2,none⟩) (by simp)).trans c2;by_cases F:k<args.length
  ·obtain ⟨b,off,rfl,an,e0,e1,es⟩:=(HA.o.keptK (Kp.below ((D.trans (E.mono (by omega))).mono hB))).atK k F;go_wp2_with fail;refine (zqh _ args[k] es).mono ?_;rintro r w2 ⟨rfl,ac⟩;have W:=E.trans (ac.mono (by omega));clear ac E e0 e1 d2;cases hb:ij args[k]
   ·have G:=ae (al.o.trans (by rw [<-Z.o,zar F (by rw [zbt hb];decide),zbt hb,zbw (by decide)]));go_wp2_with fail;go_ret;exact ⟨by rw [G.o];rfl,D.trans (W.mono (by omega))⟩
   have HB:=ae (zbu hb);clear hb;go_wp2_with fail;go_roundw
   case rel=>exact ⟨k+1,by omega,by go_num,(zas F HB.o).symm.trans Z.o,W⟩
   case measure=>simp [intOf];omega
  have aa:=ae (al.o.trans (by rw [<-Z.o,zat F,zbv]));have d3:=(E.cell (p:=⟨w.heap.size,3,none⟩) (by simp)).trans c3;have d4:=(E.cell (p:=⟨w.heap.size,4,none⟩) (by simp)).trans c4;clear Z al;go_wp2_with fail;refine (zqh _ ⟨rk,rc⟩ az).mono ?_;rintro r w2 ⟨rfl,ac⟩;have W:=E.trans (ac.mono (by omega));clear ac E d3 d4 d2;have d3:=(W.cell (p:=⟨w.heap.size,3,none⟩) (by simp)).trans c3;have d4:=(W.cell (p:=⟨w.heap.size,4,none⟩) (by simp)).trans c4;have a5:w.heap.size<w2.heap.size:=by have:=W.size;omega
  have HR:Hid (returnedB ⟨rk,rc⟩=(ij ⟨rk,rc⟩||(decide (rk=0)&&decide (rc.size=0)))):=rfl;cases hb:ij ⟨rk,rc⟩
  ·rw [hb,Bool.false_or]at HR;by_cases h0:rk=0
   ·by_cases h1:rc.size=0
    ·have O:=ae (aa.o.trans (by rw [HR.o,decide_eq_true h0,decide_eq_true h1,Bool.and_self,li]));have b0:(rk != 0)=false:=by rw [h0];rfl
     have b1:rc.toList.isEmpty=true:=by rw [e0,decide_eq_true h1]
     clear HR aa h0 h1 e0 hb;go_wp2_with fail;go_loopw [4] (fun i wr=>∃k:Nat,k<=A.length/\i=.int .i64 k/\Hid (gk et (A.drop k)=gk et A)/\Below (w.heap.size+1) w1 wr) (fun i _=>A.length - (intOf i).toNat)
     case atStart=>exact ⟨0,n0q _,rfl,rfl,W⟩
     case round=>
      obtain ⟨k,hk,rfl,Z,E⟩:=hrel;have ad:w.heap.size+1<=wr.heap.size:=by have:=E.size;omega
      have au:w.heap.size<wr.heap.size:=by omega
      have d8:=(E.cell (p:=⟨w.heap.size,8,none⟩) (by simp)).trans c8;by_cases F:k<A.length
      ·obtain ⟨b,off,rfl,an,e0,e1,e2,e3,es⟩:=(HH.o.keptH (Kp.below ((D.trans (E.mono (by omega))).mono hB))).atH k F;have V:=E.alloc ad (.cells #[.int .i64 A[k].frm,.int .i64 A[k].upto,.int .i64 A[k].loc,.string A[k].da] 248);go_wp2_with fail;refine (zqg _ A[k].da es).mono ?_;rintro r w2 ⟨rfl,rfl⟩;cases h1:db A[k].da
       ·have G:=ae (O.o.trans (by rw [<-Z.o,zar F (by rw [zqi h1];decide),zqi h1]));go_wp2_with fail;go_ret;exact ⟨by rw [G.o];rfl,D.trans (V.mono (by omega))⟩
       have H1:=ae h1;clear h1;go_wp2_with fail;refine (zqf _ _ _).mono ?_;rintro r w2 ⟨rfl,rfl⟩;cases h2:win A[k].frm 200
       ·have G:=ae (O.o.trans (by rw [<-Z.o,zar F (by rw [zqj H1.o h2];decide),zqj H1.o h2]));go_wp2_with fail;go_ret;exact ⟨by rw [G.o];rfl,D.trans (V.mono (by omega))⟩
       have H2:=ae h2;clear h2;go_wp2_with fail;refine (zqf _ _ _).mono ?_;rintro r w2 ⟨rfl,rfl⟩;cases h3:win A[k].upto 200
       ·have G:=ae (O.o.trans (by rw [<-Z.o,zar F (by rw [zqk H1.o H2.o h3];decide),zqk H1.o H2.o h3]));go_wp2_with fail;go_ret;exact ⟨by rw [G.o];rfl,D.trans (V.mono (by omega))⟩
       have H3:=ae h3;clear h3;go_wp2_with fail;refine (zqf _ _ _).mono ?_;rintro r w2 ⟨rfl,rfl⟩;cases h4:win A[k].loc 200
       ·have G:=ae (O.o.trans (by rw [<-Z.o,zar F (by rw [zql H1.o H2.o H3.o h4];decide),zql H1.o H2.o H3.o h4]));go_wp2_with fail;go_ret;exact ⟨by rw [G.o];rfl,D.trans (V.mono (by omega))⟩
       have HO:=ae (zqm H1.o H2.o H3.o h4);clear h4;go_wp2_with fail;go_roundw
       case rel=>exact ⟨k+1,by omega,by go_num,(zas F HO.o).symm.trans Z.o,V⟩
       case measure=>simp [intOf];omega
      have G:=ae (O.o.trans (by rw [<-Z.o,zat F]));go_wp2_with fail;go_ret;exact ⟨by rw [G.o];rfl,D.trans (E.mono (by omega))⟩
    have G:=ae (aa.o.trans (by rw [HR.o,decide_eq_false h1,Bool.and_false,nf]));have b0:(rk != 0)=false:=by rw [h0];rfl
    have b1:rc.toList.isEmpty=false:=by rw [e0,decide_eq_false h1]
    clear HR aa h0 h1 e0 hb;go_wp2_with fail;go_ret;exact ⟨by rw [G.o];rfl,D.trans (W.mono (by omega))⟩
   have G:=ae (aa.o.trans (by rw [HR.o,decide_eq_false h0,Bool.false_and,nf]));have b0:(rk != 0)=true:=by rw [bne_iff_ne];exact h0
   clear HR aa h0 e0 hb;go_wp2_with fail;go_ret;exact ⟨by rw [G.o];rfl,D.trans (W.mono (by omega))⟩
  have O:=ae (aa.o.trans (by rw [HR.o,hb,Bool.true_or,li]));clear HR aa e0 hb;go_wp2_with fail;go_loopw [4] (fun i wr=>∃k:Nat,k<=A.length/\i=.int .i64 k/\Hid (gk et (A.drop k)=gk et A)/\Below (w.heap.size+1) w1 wr) (fun i _=>A.length - (intOf i).toNat)
  case atStart=>exact ⟨0,n0q _,rfl,rfl,W⟩
  case round=>
   obtain ⟨k,hk,rfl,Z,E⟩:=hrel;have ad:w.heap.size+1<=wr.heap.size:=by have:=E.size;omega
   have au:w.heap.size<wr.heap.size:=by omega
   have d8:=(E.cell (p:=⟨w.heap.size,8,none⟩) (by simp)).trans c8;by_cases F:k<A.length
   ·obtain ⟨b,off,rfl,an,e0,e1,e2,e3,es⟩:=(HH.o.keptH (Kp.below ((D.trans (E.mono (by omega))).mono hB))).atH k F;have V:=E.alloc ad (.cells #[.int .i64 A[k].frm,.int .i64 A[k].upto,.int .i64 A[k].loc,.string A[k].da] 248);go_wp2_with fail;refine (zqg _ A[k].da es).mono ?_;rintro r w2 ⟨rfl,rfl⟩;cases h1:db A[k].da
    ·have G:=ae (O.o.trans (by rw [<-Z.o,zar F (by rw [zqi h1];decide),zqi h1]));go_wp2_with fail;go_ret;exact ⟨by rw [G.o];rfl,D.trans (V.mono (by omega))⟩
    have H1:=ae h1;clear h1;go_wp2_with fail;refine (zqf _ _ _).mono ?_;rintro r w2 ⟨rfl,rfl⟩;cases h2:win A[k].frm 200
    ·have G:=ae (O.o.trans (by rw [<-Z.o,zar F (by rw [zqj H1.o h2];decide),zqj H1.o h2]));go_wp2_with fail;go_ret;exact ⟨by rw [G.o];rfl,D.trans (V.mono (by omega))⟩
    have H2:=ae h2;clear h2;go_wp2_with fail;refine (zqf _ _ _).mono ?_;rintro r w2 ⟨rfl,rfl⟩;cases h3:win A[k].upto 200
    ·have G:=ae (O.o.trans (by rw [<-Z.o,zar F (by rw [zqk H1.o H2.o h3];decide),zqk H1.o H2.o h3]));go_wp2_with fail;go_ret;exact ⟨by rw [G.o];rfl,D.trans (V.mono (by omega))⟩
    have H3:=ae h3;clear h3;go_wp2_with fail;refine (zqf _ _ _).mono ?_;rintro r w2 ⟨rfl,rfl⟩;cases h4:win A[k].loc 200
    ·have G:=ae (O.o.trans (by rw [<-Z.o,zar F (by rw [zql H1.o H2.o H3.o h4];decide),zql H1.o H2.o H3.o h4]));go_wp2_with fail;go_ret;exact ⟨by rw [G.o];rfl,D.trans (V.mono (by omega))⟩
    have HO:=ae (zqm H1.o H2.o H3.o h4);clear h4;go_wp2_with fail;go_roundw
    case rel=>exact ⟨k+1,by omega,by go_num,(zas F HO.o).symm.trans Z.o,V⟩
    case measure=>simp [intOf];omega
   have G:=ae (O.o.trans (by rw [<-Z.o,zat F]));go_wp2_with fail;go_ret;exact ⟨by rw [G.o];rfl,D.trans (E.mono (by omega))⟩
theorem zqo (w:World) (B:Nat) (l:List ap) (v:Value) (hv:SL 4 RC (· <B) w v l) (hB:B<=w.heap.size):
 Calls Tryz.prog 224 #[v] w fun r w'=>r=.returned (.int .i64 (dt l))/\Below w.heap.size w w':=by
 have HV:=ae hv;obtain ⟨ao,cl,rfl,bm,bc,-⟩:=hv;unfold maxLen at bc;have ay:Hid (dt l=la (decide (l.length<=10)) 2 (gk dy l)):=rfl;generalize dt l=X at*;go_enter Tryz.func224,Tryz.ntmps224;by_cases J:l.length<=10
 rotate_left
 ·have av:(10:Int)<l.length:=by omega
  have I:=ae (ay.o.trans (by rw [decide_eq_false J,nf]));go_wp2_with fail;go_ret;exact ⟨by rw [I.o];rfl,br _ _⟩
 have bs:¬(10:Int)<l.length:=by omega
 have a3:=ae (ay.o.trans (by rw [decide_eq_true J,li]));clear J ay;go_wp2_with fail;go_loopw [3] (fun i wr=>∃k:Nat,k<=l.length/\i=.int .i64 k/\Hid (gk dy (l.drop k)=gk dy l)/\Below w.heap.size w wr) (fun i _=>l.length - (intOf i).toNat)
 case atStart=>exact ⟨0,n0q _,rfl,rfl,br _ _⟩
 case round=>
  obtain ⟨k,hk,rfl,N,aq⟩:=hrel;have a4:=aq.size;by_cases au:k<l.length
  rotate_left
  ·have I:=ae (a3.o.trans (by rw [<-N.o,zat au]));go_wp2_with fail;go_ret;exact ⟨by rw [I.o];rfl,aq⟩
  obtain ⟨b,off,vf,vm,rfl,bi,e0,e1,e2,e3,ef,em,a6,a7⟩:=(HV.o.keptC (Kp.below (aq.mono hB))).atC k au;have L:=ae (fun (e:Int) (he:e≠0) (hc:dy l[k]=e)=>a3.o.trans ((N.o.symm.trans (zar au (by rw [hc];exact he))).trans hc));have a2:=ae (fun (hc:dy l[k]=0)=>(zas au hc).symm.trans N.o);have a5:Hid (dy l[k]=dy l[k]):=rfl;generalize l[k]=c at*;obtain ⟨V,bo,A,F⟩:=c
  dsimp only at*
  have ax:Hid (dy ⟨V,bo,A,F⟩=la (db V) 1 (la (decide (bo.size=0)||db bo) 1 (la (decide (A.length<=6)) 2 (la (decide (F.length<=8)) 2 (mh (gk fc A) (gk dq F)))))):=rfl;generalize dy ⟨V,bo,A,F⟩=Y at*;have EF:=ae ef;have EM:=ae em;obtain ⟨fo,cf,rfl,bl,a9,-⟩:=ef;obtain ⟨mo,cm,rfl,bn,be,-⟩:=em;unfold maxLen at a9 be;have s0:=size0 bo;clear a5 N;go_wp2_with fail;generalize hW:wr.alloc (.cells #[.string V,.string bo,.slice fo A.length cf,.slice mo F.length cm] 162)=W0;have hz:W0.heap.size=wr.heap.size+1:=by rw [<-hW];simp
  have aj:Below wr.heap.size wr W0:=by rw [<-hW];exact (br wr.heap.size wr).alloc (nlq _) _
  have G:Below w.heap.size w W0:=aq.trans (aj.mono a4);have c0:W0.cell? ⟨wr.heap.size,0,none⟩=some (.string V):=by rw [<-hW];simp [go_sem]
  have c1:W0.cell? ⟨wr.heap.size,1,none⟩=some (.string bo):=by rw [<-hW];simp [go_sem]
  have c2:W0.cell? ⟨wr.heap.size,2,none⟩=some (.slice fo A.length cf):=by rw [<-hW];simp [go_sem]
  have c3:W0.cell? ⟨wr.heap.size,3,none⟩=some (.slice mo F.length cm):=by rw [<-hW];simp [go_sem]
  have bu:wr.heap.size<W0.heap.size:=by omega
  clear hW e0 e1 e2 e3;refine (zqg _ _ a6).mono ?_;rintro r w1 ⟨rfl,rfl⟩;cases hb:db V
  ·have I:=ae (L.o 1 (by decide) (ax.o.trans (by rw [hb,nf])));go_wp2_with fail;go_ret;exact ⟨by rw [I.o];rfl,G⟩
  have an:=ae (ax.o.trans (by rw [hb,li]));clear hb ax;by_cases J:bo.size=0
  ·have ac:=ae (an.o.trans (by rw [decide_eq_true J,Bool.true_or,li]));have s1:bo.toList.isEmpty=true:=by rw [s0,decide_eq_true J]
   clear an J s0;by_cases J:A.length<=6
   rotate_left
   ·have av:(6:Int)<A.length:=by omega
    have I:=ae (L.o 2 (by decide) (ac.o.trans (by rw [decide_eq_false J,nf])));go_wp2_with fail;go_ret;exact ⟨by rw [I.o];rfl,G⟩
   have bf:¬(6:Int)<A.length:=by omega
   have ad:=ae (ac.o.trans (by rw [decide_eq_true J,li]));clear J ac;by_cases J:F.length<=8
   rotate_left
   ·have av:(8:Int)<F.length:=by omega
    have I:=ae (L.o 2 (by decide) (ad.o.trans (by rw [decide_eq_false J,nf])));go_wp2_with fail;go_ret;exact ⟨by rw [I.o];rfl,G⟩
   have bh:¬(8:Int)<F.length:=by omega
   have W:=ae (ad.o.trans (by rw [decide_eq_true J,li]));clear J ad;go_wp2_with fail;go_loopw [5] (fun i wi=>∃j:Nat,j<=A.length/\i=.int .i64 j/\Hid (gk fc (A.drop j)=gk fc A)/\Below (wr.heap.size+1) w1 wi) (fun i _=>A.length - (intOf i).toNat)
   case atStart=>exact ⟨0,n0q _,rfl,rfl,br _ _⟩
   case round=>
    rename World=>wi
    obtain ⟨j,hj,rfl,N,E⟩:=hrel;have a0:wr.heap.size+1<=wi.heap.size:=by have:=E.size;omega
    have a1:wr.heap.size<wi.heap.size:=by omega
    have d2:=(E.cell (p:=⟨wr.heap.size,2,none⟩) (by simp)).trans c2;by_cases D:j<A.length
    ·obtain ⟨b2,al,rfl,ak,e0,e1,e2,af,ag⟩:=(EF.o.keptF (Kp.below ((aj.trans (E.mono (by omega))).mono (by omega)))).atF j D;go_wp2_with fail;refine (zqg _ A[j].name af).mono ?_;rintro r w2 ⟨rfl,rfl⟩;cases h1:db A[j].name
     ·have I:=ae (L.o 1 (by decide) (W.o.trans (by rw [<-N.o,zar D (by rw [zby h1];decide),zby h1,zbw (by decide)])));go_wp2_with fail;go_ret;exact ⟨by rw [I.o];rfl,G.trans (E.mono (by omega))⟩
     have H1:=ae h1;clear h1;go_wp2_with fail;refine (zqh _ A[j].kind ag).mono ?_;rintro r w3 ⟨rfl,O⟩;have Z:=E.trans (O.mono (by omega));clear O E e0 e1 e2 d2;cases h2:ij A[j].kind
     ·have I:=ae (L.o 7 (by decide) (W.o.trans (by rw [<-N.o,zar D (by rw [zbz H1.o h2];decide),zbz H1.o h2,zbw (by decide)])));go_wp2_with fail;go_ret;exact ⟨by rw [I.o];rfl,G.trans (Z.mono (by omega))⟩
     have HO:=ae (zb0 H1.o h2);clear h2;go_wp2_with fail;go_roundw
     case rel=>exact ⟨j+1,by omega,by go_num,(zas D HO.o).symm.trans N.o,Z⟩
     case measure=>simp [intOf];omega
    have ai:=ae (W.o.trans (by rw [<-N.o,zat D,zbv]));clear N W;have Z:=E;clear E;go_wp2_with fail;go_loopw [6] (fun i wi=>∃j:Nat,j<=F.length/\i=.int .i64 j/\Hid (gk dq (F.drop j)=gk dq F)/\Below (wr.heap.size+1) w1 wi) (fun i _=>F.length - (intOf i).toNat)
    case atStart=>exact ⟨0,n0q _,rfl,rfl,Z⟩
    case round=>
     rename World=>wi
     obtain ⟨j,hj,rfl,N,E⟩:=hrel;have a0:wr.heap.size+1<=wi.heap.size:=by have:=E.size;omega
     have a1:wr.heap.size<wi.heap.size:=by omega
     have d3:=(E.cell (p:=⟨wr.heap.size,3,none⟩) (by simp)).trans c3;by_cases D:j<F.length
     ·obtain ⟨b2,al,va,vh,rfl,ak,e0,e1,e2,e3,e4,e5,e6,e7,e8,ea,eh,af,ag,a8⟩:=(EM.o.keptM (Kp.below ((aj.trans (E.mono (by omega))).mono (by omega)))).atM j D;have EA:=ae ea;have EH:=ae eh;obtain ⟨ao,ca,rfl,-⟩:=ea;obtain ⟨ho,ch,rfl,-⟩:=eh;go_wp2_with fail;refine (zqn _ B F[j] _ _ EA.o EH.o (by omega) af ag).mono ?_;rintro r w3 ⟨rfl,O⟩;have aa:=E.trans (O.mono (by omega));clear O E e0 e1 e2 e3 e4 e5 e6 e7 e8 d3 EA EH;by_cases hc:dq F[j]=0
      ·have HO:=ae hc;have az:(dq F[j] != 0)=false:=by rw [hc];rfl
       clear hc;go_wp2_with fail;go_roundw
       case rel=>exact ⟨j+1,by omega,by go_num,(zas D HO.o).symm.trans N.o,aa⟩
       case measure=>simp [intOf];omega
      have I:=ae (L.o (dq F[j]) hc (ai.o.trans (by rw [<-N.o,zar D hc])));have az:(dq F[j] != 0)=true:=by rw [bne_iff_ne];exact hc
      clear hc;go_wp2_with fail;go_ret;exact ⟨by rw [I.o];rfl,G.trans (aa.mono (by omega))⟩
     have HO:=ae (a2.o (ai.o.trans (by rw [<-N.o,zat D])));go_wp2_with fail;go_roundw
     case rel=>exact ⟨k+1,by omega,by go_num,HO.o,G.trans (E.mono (by omega))⟩
     case measure=>simp [intOf];omega
  have ah:=ae (an.o.trans (by rw [decide_eq_false J,Bool.false_or]));have s1:bo.toList.isEmpty=false:=by rw [s0,decide_eq_false J]
  clear an J s0;go_wp2_with fail;refine (zqg _ _ a7).mono ?_;rintro r w1 ⟨rfl,rfl⟩;cases hb:db bo
  ·have I:=ae (L.o 1 (by decide) (ah.o.trans (by rw [hb,nf])));go_wp2_with fail;go_ret;exact ⟨by rw [I.o];rfl,G⟩
  have ac:=ae (ah.o.trans (by rw [hb,li]));clear hb ah;by_cases J:A.length<=6
  rotate_left
  ·have av:(6:Int)<A.length:=by omega
   have I:=ae (L.o 2 (by decide) (ac.o.trans (by rw [decide_eq_false J,nf])));go_wp2_with fail;go_ret;exact ⟨by rw [I.o];rfl,G⟩
  have bf:¬(6:Int)<A.length:=by omega
  have ad:=ae (ac.o.trans (by rw [decide_eq_true J,li]));clear J ac;by_cases J:F.length<=8
  rotate_left
  ·have av:(8:Int)<F.length:=by omega
   have I:=ae (L.o 2 (by decide) (ad.o.trans (by rw [decide_eq_false J,nf])));go_wp2_with fail;go_ret;exact ⟨by rw [I.o];rfl,G⟩
  have bh:¬(8:Int)<F.length:=by omega
  have W:=ae (ad.o.trans (by rw [decide_eq_true J,li]));clear J ad;go_wp2_with fail;go_loopw [5] (fun i wi=>∃j:Nat,j<=A.length/\i=.int .i64 j/\Hid (gk fc (A.drop j)=gk fc A)/\Below (wr.heap.size+1) w1 wi) (fun i _=>A.length - (intOf i).toNat)
  case atStart=>exact ⟨0,n0q _,rfl,rfl,br _ _⟩
  case round=>
   rename World=>wi
   obtain ⟨j,hj,rfl,N,E⟩:=hrel;have a0:wr.heap.size+1<=wi.heap.size:=by have:=E.size;omega
   have a1:wr.heap.size<wi.heap.size:=by omega
   have d2:=(E.cell (p:=⟨wr.heap.size,2,none⟩) (by simp)).trans c2;by_cases D:j<A.length
   ·obtain ⟨b2,al,rfl,ak,e0,e1,e2,af,ag⟩:=(EF.o.keptF (Kp.below ((aj.trans (E.mono (by omega))).mono (by omega)))).atF j D;go_wp2_with fail;refine (zqg _ A[j].name af).mono ?_;rintro r w2 ⟨rfl,rfl⟩;cases h1:db A[j].name
    ·have I:=ae (L.o 1 (by decide) (W.o.trans (by rw [<-N.o,zar D (by rw [zby h1];decide),zby h1,zbw (by decide)])));go_wp2_with fail;go_ret;exact ⟨by rw [I.o];rfl,G.trans (E.mono (by omega))⟩
    have H1:=ae h1;clear h1;go_wp2_with fail;refine (zqh _ A[j].kind ag).mono ?_;rintro r w3 ⟨rfl,O⟩;have Z:=E.trans (O.mono (by omega));clear O E e0 e1 e2 d2;cases h2:ij A[j].kind
    ·have I:=ae (L.o 7 (by decide) (W.o.trans (by rw [<-N.o,zar D (by rw [zbz H1.o h2];decide),zbz H1.o h2,zbw (by decide)])));go_wp2_with fail;go_ret;exact ⟨by rw [I.o];rfl,G.trans (Z.mono (by omega))⟩
    have HO:=ae (zb0 H1.o h2);clear h2;go_wp2_with fail;go_roundw
    case rel=>exact ⟨j+1,by omega,by go_num,(zas D HO.o).symm.trans N.o,Z⟩
    case measure=>simp [intOf];omega
   have ai:=ae (W.o.trans (by rw [<-N.o,zat D,zbv]));clear N W;have Z:=E;clear E;go_wp2_with fail;go_loopw [6] (fun i wi=>∃j:Nat,j<=F.length/\i=.int .i64 j/\Hid (gk dq (F.drop j)=gk dq F)/\Below (wr.heap.size+1) w1 wi) (fun i _=>F.length - (intOf i).toNat)
   case atStart=>exact ⟨0,n0q _,rfl,rfl,Z⟩
   case round=>
    rename World=>wi
    obtain ⟨j,hj,rfl,N,E⟩:=hrel;have a0:wr.heap.size+1<=wi.heap.size:=by have:=E.size;omega
    have a1:wr.heap.size<wi.heap.size:=by omega
    have d3:=(E.cell (p:=⟨wr.heap.size,3,none⟩) (by simp)).trans c3;by_cases D:j<F.length
    ·obtain ⟨b2,al,va,vh,rfl,ak,e0,e1,e2,e3,e4,e5,e6,e7,e8,ea,eh,af,ag,a8⟩:=(EM.o.keptM (Kp.below ((aj.trans (E.mono (by omega))).mono (by omega)))).atM j D;have EA:=ae ea;have EH:=ae eh;obtain ⟨ao,ca,rfl,-⟩:=ea;obtain ⟨ho,ch,rfl,-⟩:=eh;go_wp2_with fail;refine (zqn _ B F[j] _ _ EA.o EH.o (by omega) af ag).mono ?_;rintro r w3 ⟨rfl,O⟩;have aa:=E.trans (O.mono (by omega));clear O E e0 e1 e2 e3 e4 e5 e6 e7 e8 d3 EA EH;by_cases hc:dq F[j]=0
     ·have HO:=ae hc;have az:(dq F[j] != 0)=false:=by rw [hc];rfl
      clear hc;go_wp2_with fail;go_roundw
      case rel=>exact ⟨j+1,by omega,by go_num,(zas D HO.o).symm.trans N.o,aa⟩
      case measure=>simp [intOf];omega
     have I:=ae (L.o (dq F[j]) hc (ai.o.trans (by rw [<-N.o,zar D hc])));have az:(dq F[j] != 0)=true:=by rw [bne_iff_ne];exact hc
     clear hc;go_wp2_with fail;go_ret;exact ⟨by rw [I.o];rfl,G.trans (aa.mono (by omega))⟩
    have HO:=ae (a2.o (ai.o.trans (by rw [<-N.o,zat D])));go_wp2_with fail;go_roundw
    case rel=>exact ⟨k+1,by omega,by go_num,HO.o,G.trans (E.mono (by omega))⟩
    case measure=>simp [intOf];omega
end Go.Proofs.YtjdnmblggdobgaaGreat
