import Derived.Test.YtjdnmblggdobgaaGreatJChkClassCatch
set_option maxHeartbeats 16000000
set_option maxRecDepth 100000
namespace Go.Proofs.YtjdnmblggdobgaaGreat
open Go.RowKit Tryz
variable {h:jg} (w:World) (B:Nat)
theorem E0 (n m:Int):
 Calls prog 78 #[.i n,.i 0,.i m] w fun r w'=>r=.returned (.bool (win n m))/\w'=w:=by
 by_cases h0:0<=n
 ·by_cases h1:n<=m
  ·go_enter func78,ntmps78;go_wp2
   go_ret;simp [win,h0,h1]
  go_enter func78,ntmps78;go_wp2
  go_ret;simp [win,h1]
 go_enter func78,ntmps78;go_wp2
 go_ret;simp [win];omega
theorem Dz (s:ByteArray) (hs:s.size<=maxLen):
 Calls prog 266 #[.string s] w fun r w'=>r=.returned (.bool (dm s))/\w'=w:=by
 unfold maxLen at hs;have L:Hid (dm s=(decide (1<=s.size)&&decide (s.size<=20)&&ki s)):=rfl;go_enter func266,ntmps266;go_wp2
 go_loop [3] (fun i=>∃k:Nat,k<=s.size/\i=.i k/\∀j,j<k->dh (bt s j)=true) (fun i=>s.size - (intOf i).toNat)
 case atStart=>exact ⟨0,n0q _,rfl,fun j X=>by omega⟩
 case round=>
  obtain ⟨k,hk,rfl,V⟩:=hrel;have O:=aj V;clear V;by_cases E:k<s.size
  ·have eb:(s[k].toNat)=bt s k:=(D9 s k E).symm;have HE:=aj eb;generalize hn:bt s k=n at*;have I:=aj hn;clear hn;rcases (by omega:(n<48)\/(48<=n/\n<=57)\/(57<n/\n<65)\/(65<=n/\n<=90)\/(90<n/\n<97/\n≠95)\/(n=95)\/(97<=n/\n<=122)\/(122<n))with h | h | h | h | h | h | h | h
   ·have A:dh n=false:=by simp [dh];omega
    have J:¬(97:Int)<=n:=by omega
    have G:¬(65:Int)<=n:=by omega
    have N:¬(48:Int)<=n:=by omega
    have W:((n:Int)==95)=false:=by simp;omega
    have D:=aj A;clear A h;have F:Hid (ki s=false):=zan E (by rw [I.o];exact D.o);go_wp2
    go_ret;exact ⟨by rw [L.o,F.o,Bool.and_false];rfl,rfl⟩
   ·have A:dh n=true:=by simp [dh];omega
    have J:¬(97:Int)<=n:=by omega
    have G:¬(65:Int)<=n:=by omega
    have N:(48:Int)<=n:=by omega
    have W:(n:Int)<=57:=by omega
    have D:=aj A;clear A h;go_wp2
    go_round
    case rel=>exact ⟨k+1,by omega,by go_num,fun j X=>if hjk:j=k then (by rw [hjk,I.o];exact D.o) else O.o j (by omega)⟩
    case measure=>simp [intOf];omega
   ·have A:dh n=false:=by simp [dh];omega
    have J:¬(97:Int)<=n:=by omega
    have G:¬(65:Int)<=n:=by omega
    have N:(48:Int)<=n:=by omega
    have W:¬(n:Int)<=57:=by omega
    have Y:((n:Int)==95)=false:=by simp;omega
    have D:=aj A;clear A h;have F:Hid (ki s=false):=zan E (by rw [I.o];exact D.o);go_wp2
    go_ret;exact ⟨by rw [L.o,F.o,Bool.and_false];rfl,rfl⟩
   ·have A:dh n=true:=by simp [dh];omega
    have J:¬(97:Int)<=n:=by omega
    have G:(65:Int)<=n:=by omega
    have N:(n:Int)<=90:=by omega
    have D:=aj A;clear A h;go_wp2
    go_round
    case rel=>exact ⟨k+1,by omega,by go_num,fun j X=>if hjk:j=k then (by rw [hjk,I.o];exact D.o) else O.o j (by omega)⟩
    case measure=>simp [intOf];omega
   ·have A:dh n=false:=by simp [dh];omega
    have J:¬(97:Int)<=n:=by omega
    have G:(65:Int)<=n:=by omega
    have N:¬(n:Int)<=90:=by omega
    have W:(48:Int)<=n:=by omega
    have Y:¬(n:Int)<=57:=by omega
    have Z:((n:Int)==95)=false:=by simp;omega
    have D:=aj A;clear A h;have F:Hid (ki s=false):=zan E (by rw [I.o];exact D.o);go_wp2
    go_ret;exact ⟨by rw [L.o,F.o,Bool.and_false];rfl,rfl⟩
   ·have A:dh n=true:=by simp [dh];omega
    have J:¬(97:Int)<=n:=by omega
    have G:(65:Int)<=n:=by omega
    have N:¬(n:Int)<=90:=by omega
    have W:(48:Int)<=n:=by omega
    have Y:¬(n:Int)<=57:=by omega
    have Z:((n:Int)==95)=true:=by simp;omega
    have D:=aj A;clear A h;go_wp2
    go_round
    case rel=>exact ⟨k+1,by omega,by go_num,fun j X=>if hjk:j=k then (by rw [hjk,I.o];exact D.o) else O.o j (by omega)⟩
    case measure=>simp [intOf];omega
   ·have A:dh n=true:=by simp [dh];omega
    have J:(97:Int)<=n:=by omega
    have G:(n:Int)<=122:=by omega
    have D:=aj A;clear A h;go_wp2
    go_round
    case rel=>exact ⟨k+1,by omega,by go_num,fun j X=>if hjk:j=k then (by rw [hjk,I.o];exact D.o) else O.o j (by omega)⟩
    case measure=>simp [intOf];omega
   have A:dh n=false:=by simp [dh];omega
   have J:(97:Int)<=n:=by omega
   have G:¬(n:Int)<=122:=by omega
   have N:(65:Int)<=n:=by omega
   have W:¬(n:Int)<=90:=by omega
   have Y:(48:Int)<=n:=by omega
   have Z:¬(n:Int)<=57:=by omega
   have a6:((n:Int)==95)=false:=by simp;omega
   have D:=aj A;clear A h;have F:Hid (ki s=false):=zan E (by rw [I.o];exact D.o);go_wp2
   go_ret;exact ⟨by rw [L.o,F.o,Bool.and_false];rfl,rfl⟩
  have F:Hid (ki s=true):=zao fun i hi=>O.o i (by omega);by_cases h1:1<=s.size
  ·have G:(1:Int)<=s.size:=by omega
   go_wp2
   go_ret;exact ⟨by rw [L.o,F.o,decide_eq_true h1];simp;omega,rfl⟩
  have G:¬(1:Int)<=s.size:=by omega
  go_wp2
  go_ret;exact ⟨by rw [L.o,F.o,decide_eq_false h1];rfl,rfl⟩
theorem zp7 (k:fw) (I:k.dj.size<=maxLen):
 Calls prog 267 #[.agg #[.i k.kind,.string k.dj]] w fun r w'=>r=.returned (.bool (ji k))/\Bl w w':=by
 obtain ⟨n,s⟩:=k
 dsimp only at*
 have D:=fun o=>(br w.heap.size w).alloc (nlq _) o;have A:Hid (ji ⟨n,s⟩=if nr n=true then dm s else (decide (n=1)||decide (n=2))&&decide (s.size=0)):=rfl;have X:=xy s;by_cases h1:n=1
 ·subst h1;go_enter func267,ntmps267;go_wp2
  go_ret;exact ⟨by rw [A.o];simp [nr],D _⟩
 have N:(n==1)=false:=by simp [h1]
 by_cases E:n=2
 ·subst E;go_enter func267,ntmps267;go_wp2
  go_ret;exact ⟨by rw [A.o];simp [nr],D _⟩
 have O:(n==2)=false:=by simp [E]
 by_cases F:n=3
 ·subst F;go_enter func267,ntmps267
  go_wp21
  refine (Dz _ _ I).mono ?_;rintro r L ⟨rfl,rfl⟩;go_wp2
  go_ret;exact ⟨by rw [A.o];rfl,D _⟩
 have V:(n==3)=false:=by simp [F]
 by_cases G:n=4
 ·subst G;go_enter func267,ntmps267
  go_wp21
  refine (Dz _ _ I).mono ?_;rintro r L ⟨rfl,rfl⟩;go_wp2
  go_ret;exact ⟨by rw [A.o];rfl,D _⟩
 have W:(n==4)=false:=by simp [G]
 have J:Hid (ji ⟨n,s⟩=false):=by show ji ⟨n,s⟩=false;rw [A.o];simp [nr,h1,E,F,G]
 clear h1 E F G;go_enter func267,ntmps267;go_wp2
 go_ret;exact ⟨by rw [J.o];rfl,D _⟩
theorem zp8 (h1:dm h.dj=false):fm h=1:=by rw [fm,h1,rj]
theorem zp9 (h1:dm h.dj=true) (A:win h.zp 200=false):fm h=3:=by rw [fm,h1,pj,A,rj]
theorem zqa (h1:dm h.dj=true) (A:win h.zp 200=true) (D:win h.upto 200=false):fm h=3:=by rw [fm,h1,pj,A,pj,D,rj]
theorem zqb (h1:dm h.dj=true) (A:win h.zp 200=true) (D:win h.upto 200=true) (E:win h.loc 200=false):fm h=3:=by rw [fm,h1,pj,A,pj,D,pj,E,rj]
theorem zqc (h1:dm h.dj=true) (A:win h.zp 200=true) (D:win h.upto 200=true) (E:win h.loc 200=true):fm h=0:=by rw [fm,h1,pj,A,pj,D,pj,E,pj]
theorem zqd (m:ew) (va vh:Value) (ha:SL 2 RK (· <B) w va m.args) (hh:SL 4 RH (· <B) w vh m.hands) (hB:B<=w.heap.size) (az:m.name.size<=maxLen) (a0:m.ret.dj.size<=maxLen):
 Calls prog 268 #[.agg #[.string m.name,.bool m.static,va,.i m.ret.kind,.string m.ret.dj,.i m.stack,.i m.locals,.string m.code,vh]] w fun r w'=>r=.returned (.i (d7 m))/\Bl w w':=by
 obtain ⟨Y,N,args,⟨rk,rc⟩,J,I,L,A⟩:=m
 dsimp only at*
 have HA:=aj ha;have HH:=aj hh;obtain ⟨ao,ca,rfl,a1,aw,-⟩:=ha;obtain ⟨ho,ch,rfl,a2,ay,-⟩:=hh;unfold maxLen at aw ay;have e0:=xy rc;have ae:Hid (d7 ⟨Y,N,args,⟨rk,rc⟩,J,I,L,A⟩=pd (dm Y) 1 (pd (decide (args.length<=4)) 2 (pd (decide (L.size<=200)) 2 (pd (decide (A.length<=4)) 2 (pd (win J 10) 3 (pd (win I 10) 3 (ql (ip lh args) (pd (returnedB ⟨rk,rc⟩) 7 (ip fm A))))))))):=rfl;generalize d7 ⟨Y,N,args,⟨rk,rc⟩,J,I,L,A⟩=X at*;go_enter func268,ntmps268
 go_wp21
 generalize hW:w.alloc (.cells #[.string Y,.bool N,.slice ao args.length ca,.i rk,.string rc,.i J,.i I,.string L,.slice ho A.length ch] 159)=W0;have hz:W0.heap.size=w.heap.size+1:=by rw [<-hW];simp
 have D:Bl w W0:=by rw [<-hW];exact (br w.heap.size w).alloc (nlq _) _
 have c0:W0.cell? ⟨w.heap.size,0,none⟩=some (.string Y):=by rw [<-hW];simp [go_sem]
 have c1:W0.cell? ⟨w.heap.size,1,none⟩=some (.bool N):=by rw [<-hW];simp [go_sem]
 have c2:W0.cell? ⟨w.heap.size,2,none⟩=some (.slice ao args.length ca):=by rw [<-hW];simp [go_sem]
 have c3:W0.cell? ⟨w.heap.size,3,none⟩=some (.i rk):=by rw [<-hW];simp [go_sem]
 have c4:W0.cell? ⟨w.heap.size,4,none⟩=some (.string rc):=by rw [<-hW];simp [go_sem]
 have c5:W0.cell? ⟨w.heap.size,5,none⟩=some (.i J):=by rw [<-hW];simp [go_sem]
 have c6:W0.cell? ⟨w.heap.size,6,none⟩=some (.i I):=by rw [<-hW];simp [go_sem]
 have c7:W0.cell? ⟨w.heap.size,7,none⟩=some (.string L):=by rw [<-hW];simp [go_sem]
 have c8:W0.cell? ⟨w.heap.size,8,none⟩=some (.slice ho A.length ch):=by rw [<-hW];simp [go_sem]
 clear hW;refine (Dz _ _ az).mono ?_;rintro r w1 ⟨rfl,rfl⟩;cases hb:dm Y
 ·have G:=aj (ae.o.trans (by rw [hb,rj]))
  go_wp21
  go_ret;exact ⟨by rw [G.o];rfl,D⟩
 have af:=aj (ae.o.trans (by rw [hb,pj]));clear hb ae;by_cases hq:args.length<=4
 rotate_left
 ·have au:(4:Int)<args.length:=by omega
  have G:=aj (af.o.trans (by rw [decide_eq_false hq,rj]))
  go_wp21
  go_ret;exact ⟨by rw [G.o];rfl,D⟩
 have a3:¬(4:Int)<args.length:=by omega
 have ah:=aj (af.o.trans (by rw [decide_eq_true hq,pj]));clear hq af;by_cases hq:L.size<=200
 rotate_left
 ·have au:(200:Int)<L.size:=by omega
  have G:=aj (ah.o.trans (by rw [decide_eq_false hq,rj]))
  go_wp21
  go_ret;exact ⟨by rw [G.o];rfl,D⟩
 have a4:¬(200:Int)<L.size:=by omega
 have ai:=aj (ah.o.trans (by rw [decide_eq_true hq,pj]));clear hq ah;by_cases hq:A.length<=4
 rotate_left
 ·have au:(4:Int)<A.length:=by omega
  have G:=aj (ai.o.trans (by rw [decide_eq_false hq,rj]))
  go_wp21
  go_ret;exact ⟨by rw [G.o];rfl,D⟩
 have a5:¬(4:Int)<A.length:=by omega
 have ak:=aj (ai.o.trans (by rw [decide_eq_true hq,pj]));clear hq ai
 go_wp21
 refine (E0 _ _ _).mono ?_;rintro r w1 ⟨rfl,rfl⟩;cases hb:win J 10
 ·have G:=aj (ak.o.trans (by rw [hb,rj]))
  go_wp21
  go_ret;exact ⟨by rw [G.o];rfl,D⟩
 have al:=aj (ak.o.trans (by rw [hb,pj]));clear hb ak
 go_wp21
 refine (E0 _ _ _).mono ?_;rintro r w1 ⟨rfl,rfl⟩;cases hb:win I 10
 ·have G:=aj (al.o.trans (by rw [hb,rj]))
  go_wp21
  go_ret;exact ⟨by rw [G.o];rfl,D⟩
 have am:=aj (al.o.trans (by rw [hb,pj]));clear hb al
 go_wp21
 go_loopw [3] (fun i wr=>∃k:Nat,k<=args.length/\i=.i k/\Hid (ip lh (args.drop k)=ip lh args)/\Below (w.heap.size+1) w1 wr) (fun i _=>args.length - (intOf i).toNat)
 case atStart=>exact ⟨0,n0q _,rfl,rfl,br _ _⟩
 case round=>
  obtain ⟨k,hk,rfl,Z,E⟩:=hrel;have ad:w.heap.size+1<=wr.heap.size:=by have:=E.size;omega
  have av:w.heap.size<wr.heap.size:=by omega
  have d2:=(E.cell (p:=⟨w.heap.size,2,none⟩) (by simp)).trans c2;by_cases F:k<args.length
  ·obtain ⟨b,off,rfl,an,e0,e1,es⟩:=(HA.o.keptK (Kp.below ((D.trans (E.mono (by omega))).mono hB))).atK k F
   go_wp21
   refine (zp7 _ args[k] es).mono ?_;rintro r w2 ⟨rfl,ac⟩;have W:=E.trans (ac.mono (by omega));clear ac E e0 e1 d2;cases hb:ji args[k]
   ·have G:=aj (am.o.trans (by rw [<-Z.o,vg F (by rw [zbt hb];decide),zbt hb,Cw (by decide)]))
    go_wp21
    go_ret;exact ⟨by rw [G.o];rfl,D.trans (W.mono (by omega))⟩
   have HB:=aj (zbu hb);clear hb
   go_wp21
   go_roundw
   case rel=>exact ⟨k+1,by omega,by go_num,(At F HB.o).symm.trans Z.o,W⟩
   case measure=>simp [intOf];omega
  have aa:=aj (am.o.trans (by rw [<-Z.o,Au F,zbv]));have d3:=(E.cell (p:=⟨w.heap.size,3,none⟩) (by simp)).trans c3;have d4:=(E.cell (p:=⟨w.heap.size,4,none⟩) (by simp)).trans c4;clear Z am
  go_wp21
  refine (zp7 _ ⟨rk,rc⟩ a0).mono ?_;rintro r w2 ⟨rfl,ac⟩;have W:=E.trans (ac.mono (by omega));clear ac E d3 d4 d2;have d3:=(W.cell (p:=⟨w.heap.size,3,none⟩) (by simp)).trans c3;have d4:=(W.cell (p:=⟨w.heap.size,4,none⟩) (by simp)).trans c4;have a6:w.heap.size<w2.heap.size:=by have:=W.size;omega
  have HR:Hid (returnedB ⟨rk,rc⟩=(ji ⟨rk,rc⟩||(decide (rk=0)&&decide (rc.size=0)))):=rfl;cases hb:ji ⟨rk,rc⟩
  ·rw [hb,Bool.false_or]at HR;by_cases h0:rk=0;rotate_left
   ·have G:=aj (aa.o.trans (by rw [HR.o,decide_eq_false h0,Bool.false_and,rj]));have b0:(rk != 0)=true:=by rw [bne_iff_ne];exact h0
    clear HR aa h0 e0 hb
    go_wp21
    go_ret;exact ⟨by rw [G.o];rfl,D.trans (W.mono (by omega))⟩
   by_cases h1:rc.size=0;rotate_left
   ·have G:=aj (aa.o.trans (by rw [HR.o,decide_eq_false h1,Bool.and_false,rj]));have b0:(rk != 0)=false:=by rw [h0];rfl
    have b1:rc.toList.isEmpty=false:=by rw [e0,decide_eq_false h1]
    clear HR aa h0 h1 e0 hb
    go_wp21
    go_ret;exact ⟨by rw [G.o];rfl,D.trans (W.mono (by omega))⟩
   have O:=aj (aa.o.trans (by rw [HR.o,decide_eq_true h0,decide_eq_true h1,Bool.and_self,pj]));have b0:(rk != 0)=false:=by rw [h0];rfl
   have b1:rc.toList.isEmpty=true:=by rw [e0,decide_eq_true h1]
   clear HR aa h0 h1 e0 hb
   go_wp21
   go_loopw [4] (fun i wr=>∃k:Nat,k<=A.length/\i=.i k/\Hid (ip fm (A.drop k)=ip fm A)/\Below (w.heap.size+1) w1 wr) (fun i _=>A.length - (intOf i).toNat)
   case atStart=>exact ⟨0,n0q _,rfl,rfl,W⟩
   case round=>
    obtain ⟨k,hk,rfl,Z,E⟩:=hrel;have ad:w.heap.size+1<=wr.heap.size:=by have:=E.size;omega
    have av:w.heap.size<wr.heap.size:=by omega
    have d8:=(E.cell (p:=⟨w.heap.size,8,none⟩) (by simp)).trans c8;by_cases F:k<A.length;rotate_left
    ·have G:=aj (O.o.trans (by rw [<-Z.o,Au F]))
     go_wp21
     go_ret;exact ⟨by rw [G.o];rfl,D.trans (E.mono (by omega))⟩
    obtain ⟨b,off,rfl,an,e0,e1,e2,e3,es⟩:=(HH.o.keptH (Kp.below ((D.trans (E.mono (by omega))).mono hB))).atH k F;have V:=E.alloc ad (.cells #[.i A[k].zp,.i A[k].upto,.i A[k].loc,.string A[k].dj] 248)
    go_wp21
    refine (Dz _ A[k].dj es).mono ?_;rintro r w2 ⟨rfl,rfl⟩;cases h1:dm A[k].dj
    ·have G:=aj (O.o.trans (by rw [<-Z.o,vg F (by rw [zp8 h1];decide),zp8 h1]))
     go_wp21
     go_ret;exact ⟨by rw [G.o];rfl,D.trans (V.mono (by omega))⟩
    have H1:=aj h1;clear h1
    go_wp21
    refine (E0 _ _ _).mono ?_;rintro r w2 ⟨rfl,rfl⟩;cases h2:win A[k].zp 200
    ·have G:=aj (O.o.trans (by rw [<-Z.o,vg F (by rw [zp9 H1.o h2];decide),zp9 H1.o h2]))
     go_wp21
     go_ret;exact ⟨by rw [G.o];rfl,D.trans (V.mono (by omega))⟩
    have H2:=aj h2;clear h2
    go_wp21
    refine (E0 _ _ _).mono ?_;rintro r w2 ⟨rfl,rfl⟩;cases h3:win A[k].upto 200
    ·have G:=aj (O.o.trans (by rw [<-Z.o,vg F (by rw [zqa H1.o H2.o h3];decide),zqa H1.o H2.o h3]))
     go_wp21
     go_ret;exact ⟨by rw [G.o];rfl,D.trans (V.mono (by omega))⟩
    have H3:=aj h3;clear h3
    go_wp21
    refine (E0 _ _ _).mono ?_;rintro r w2 ⟨rfl,rfl⟩;cases h4:win A[k].loc 200
    ·have G:=aj (O.o.trans (by rw [<-Z.o,vg F (by rw [zqb H1.o H2.o H3.o h4];decide),zqb H1.o H2.o H3.o h4]))
     go_wp21
     go_ret;exact ⟨by rw [G.o];rfl,D.trans (V.mono (by omega))⟩
    have HO:=aj (zqc H1.o H2.o H3.o h4);clear h4
    go_wp21
    go_roundw
    case rel=>exact ⟨k+1,by omega,by go_num,(At F HO.o).symm.trans Z.o,V⟩
    case measure=>simp [intOf];omega
  have O:=aj (aa.o.trans (by rw [HR.o,hb,Bool.true_or,pj]));clear HR aa e0 hb
  go_wp21
  go_loopw [4] (fun i wr=>∃k:Nat,k<=A.length/\i=.i k/\Hid (ip fm (A.drop k)=ip fm A)/\Below (w.heap.size+1) w1 wr) (fun i _=>A.length - (intOf i).toNat)
  case atStart=>exact ⟨0,n0q _,rfl,rfl,W⟩
  case round=>
   obtain ⟨k,hk,rfl,Z,E⟩:=hrel;have ad:w.heap.size+1<=wr.heap.size:=by have:=E.size;omega
   have av:w.heap.size<wr.heap.size:=by omega
   have d8:=(E.cell (p:=⟨w.heap.size,8,none⟩) (by simp)).trans c8;by_cases F:k<A.length;rotate_left
   ·have G:=aj (O.o.trans (by rw [<-Z.o,Au F]))
    go_wp21
    go_ret;exact ⟨by rw [G.o];rfl,D.trans (E.mono (by omega))⟩
   obtain ⟨b,off,rfl,an,e0,e1,e2,e3,es⟩:=(HH.o.keptH (Kp.below ((D.trans (E.mono (by omega))).mono hB))).atH k F;have V:=E.alloc ad (.cells #[.i A[k].zp,.i A[k].upto,.i A[k].loc,.string A[k].dj] 248)
   go_wp21
   refine (Dz _ A[k].dj es).mono ?_;rintro r w2 ⟨rfl,rfl⟩;cases h1:dm A[k].dj
   ·have G:=aj (O.o.trans (by rw [<-Z.o,vg F (by rw [zp8 h1];decide),zp8 h1]))
    go_wp21
    go_ret;exact ⟨by rw [G.o];rfl,D.trans (V.mono (by omega))⟩
   have H1:=aj h1;clear h1
   go_wp21
   refine (E0 _ _ _).mono ?_;rintro r w2 ⟨rfl,rfl⟩;cases h2:win A[k].zp 200
   ·have G:=aj (O.o.trans (by rw [<-Z.o,vg F (by rw [zp9 H1.o h2];decide),zp9 H1.o h2]))
    go_wp21
    go_ret;exact ⟨by rw [G.o];rfl,D.trans (V.mono (by omega))⟩
   have H2:=aj h2;clear h2
   go_wp21
   refine (E0 _ _ _).mono ?_;rintro r w2 ⟨rfl,rfl⟩;cases h3:win A[k].upto 200
   ·have G:=aj (O.o.trans (by rw [<-Z.o,vg F (by rw [zqa H1.o H2.o h3];decide),zqa H1.o H2.o h3]))
    go_wp21
    go_ret;exact ⟨by rw [G.o];rfl,D.trans (V.mono (by omega))⟩
   have H3:=aj h3;clear h3
   go_wp21
   refine (E0 _ _ _).mono ?_;rintro r w2 ⟨rfl,rfl⟩;cases h4:win A[k].loc 200
   ·have G:=aj (O.o.trans (by rw [<-Z.o,vg F (by rw [zqb H1.o H2.o H3.o h4];decide),zqb H1.o H2.o H3.o h4]))
    go_wp21
    go_ret;exact ⟨by rw [G.o];rfl,D.trans (V.mono (by omega))⟩
   have HO:=aj (zqc H1.o H2.o H3.o h4);clear h4
   go_wp21
   go_roundw
   case rel=>exact ⟨k+1,by omega,by go_num,(At F HO.o).symm.trans Z.o,V⟩
   case measure=>simp [intOf];omega
theorem zqe (l:List aq) (v:Value) (hv:SL 4 RC (· <B) w v l) (hB:B<=w.heap.size):
 Calls prog 224 #[v] w fun r w'=>r=.returned (.i (ed l))/\Bl w w':=by
 have HV:=aj hv;obtain ⟨ao,cl,rfl,bk,bb,-⟩:=hv;unfold maxLen at bb;have az:Hid (ed l=pd (decide (l.length<=10)) 2 (ip fb l)):=rfl;generalize ed l=X at*;go_enter func224,ntmps224;by_cases J:l.length<=10
 rotate_left
 ·have aw:(10:Int)<l.length:=by omega
  have I:=aj (az.o.trans (by rw [decide_eq_false J,rj]))
  go_wp21
  go_ret;exact ⟨by rw [I.o];rfl,br _ _⟩
 have bm:¬(10:Int)<l.length:=by omega
 have a4:=aj (az.o.trans (by rw [decide_eq_true J,pj]));clear J az
 go_wp21
 go_loopw [3] (fun i wr=>∃k:Nat,k<=l.length/\i=.i k/\Hid (ip fb (l.drop k)=ip fb l)/\Bl w wr) (fun i _=>l.length - (intOf i).toNat)
 case atStart=>exact ⟨0,n0q _,rfl,rfl,br _ _⟩
 case round=>
  obtain ⟨k,hk,rfl,N,au⟩:=hrel;have a5:=au.size;by_cases av:k<l.length
  rotate_left
  ·have I:=aj (a4.o.trans (by rw [<-N.o,Au av]))
   go_wp21
   go_ret;exact ⟨by rw [I.o];rfl,au⟩
  obtain ⟨b,off,vf,vm,rfl,bi,e0,e1,e2,e3,ef,em,a7,a8⟩:=(HV.o.keptC (Kp.below (au.mono hB))).atC k av;have L:=aj (fun (e:Int) (he:e≠0) (hc:fb l[k]=e)=>a4.o.trans ((N.o.symm.trans (vg av (by rw [hc];exact he))).trans hc));have a3:=aj (fun (hc:fb l[k]=0)=>(At av hc).symm.trans N.o);have a6:Hid (fb l[k]=fb l[k]):=rfl;generalize l[k]=c at*;obtain ⟨V,b9,A,F⟩:=c
  dsimp only at*
  have ay:Hid (fb ⟨V,b9,A,F⟩=pd (dm V) 1 (pd (decide (b9.size=0)||dm b9) 1 (pd (decide (A.length<=6)) 2 (pd (decide (F.length<=8)) 2 (ql (ip fu A) (ip d7 F)))))):=rfl;generalize fb ⟨V,b9,A,F⟩=Y at*;have EF:=aj ef;have EM:=aj em;obtain ⟨fo,cf,rfl,bj,ba,-⟩:=ef;obtain ⟨mo,cm,rfl,bl,bc,-⟩:=em;unfold maxLen at ba bc;have s0:=xy b9;clear a6 N
  go_wp21
  generalize hW:wr.alloc (.cells #[.string V,.string b9,.slice fo A.length cf,.slice mo F.length cm] 162)=W0;have hz:W0.heap.size=wr.heap.size+1:=by rw [<-hW];simp
  have ak:Bl wr W0:=by rw [<-hW];exact (br wr.heap.size wr).alloc (nlq _) _
  have G:Bl w W0:=au.trans (ak.mono a5);have c0:W0.cell? ⟨wr.heap.size,0,none⟩=some (.string V):=by rw [<-hW];simp [go_sem]
  have c1:W0.cell? ⟨wr.heap.size,1,none⟩=some (.string b9):=by rw [<-hW];simp [go_sem]
  have c2:W0.cell? ⟨wr.heap.size,2,none⟩=some (.slice fo A.length cf):=by rw [<-hW];simp [go_sem]
  have c3:W0.cell? ⟨wr.heap.size,3,none⟩=some (.slice mo F.length cm):=by rw [<-hW];simp [go_sem]
  have bn:wr.heap.size<W0.heap.size:=by omega
  clear hW e0 e1 e2 e3;refine (Dz _ _ a7).mono ?_;rintro r w1 ⟨rfl,rfl⟩;cases hb:dm V
  ·have I:=aj (L.o 1 (by decide) (ay.o.trans (by rw [hb,rj])))
   go_wp21
   go_ret;exact ⟨by rw [I.o];rfl,G⟩
  have an:=aj (ay.o.trans (by rw [hb,pj]));clear hb ay;by_cases J:b9.size=0
  ·have ac:=aj (an.o.trans (by rw [decide_eq_true J,Bool.true_or,pj]));have s1:b9.toList.isEmpty=true:=by rw [s0,decide_eq_true J]
   clear an J s0;by_cases J:A.length<=6
   rotate_left
   ·have aw:(6:Int)<A.length:=by omega
    have I:=aj (L.o 2 (by decide) (ac.o.trans (by rw [decide_eq_false J,rj])))
    go_wp21
    go_ret;exact ⟨by rw [I.o];rfl,G⟩
   have bf:¬(6:Int)<A.length:=by omega
   have ad:=aj (ac.o.trans (by rw [decide_eq_true J,pj]));clear J ac;by_cases J:F.length<=8
   rotate_left
   ·have aw:(8:Int)<F.length:=by omega
    have I:=aj (L.o 2 (by decide) (ad.o.trans (by rw [decide_eq_false J,rj])))
    go_wp21
    go_ret;exact ⟨by rw [I.o];rfl,G⟩
   have bh:¬(8:Int)<F.length:=by omega
   have W:=aj (ad.o.trans (by rw [decide_eq_true J,pj]));clear J ad
   go_wp21
   go_loopw [5] (fun i wi=>∃j:Nat,j<=A.length/\i=.i j/\Hid (ip fu (A.drop j)=ip fu A)/\Below (wr.heap.size+1) w1 wi) (fun i _=>A.length - (intOf i).toNat)
   case atStart=>exact ⟨0,n0q _,rfl,rfl,br _ _⟩
   case round=>
    rename World=>wi
    obtain ⟨j,hj,rfl,N,E⟩:=hrel;have a1:wr.heap.size+1<=wi.heap.size:=by have:=E.size;omega
    have a2:wr.heap.size<wi.heap.size:=by omega
    have d2:=(E.cell (p:=⟨wr.heap.size,2,none⟩) (by simp)).trans c2;by_cases D:j<A.length
    ·obtain ⟨b2,am,rfl,al,e0,e1,e2,ae,af⟩:=(EF.o.keptF (Kp.below ((ak.trans (E.mono (by omega))).mono (by omega)))).atF j D
     go_wp21
     refine (Dz _ A[j].name ae).mono ?_;rintro r w2 ⟨rfl,rfl⟩;cases h1:dm A[j].name
     ·have I:=aj (L.o 1 (by decide) (W.o.trans (by rw [<-N.o,vg D (by rw [Em h1];decide),Em h1,Cw (by decide)])))
      go_wp21
      go_ret;exact ⟨by rw [I.o];rfl,G.trans (E.mono (by omega))⟩
     have H1:=aj h1;clear h1
     go_wp21
     refine (zp7 _ A[j].kind af).mono ?_;rintro r w3 ⟨rfl,O⟩;have Z:=E.trans (O.mono (by omega));clear O E e0 e1 e2 d2;cases h2:ji A[j].kind
     ·have I:=aj (L.o 7 (by decide) (W.o.trans (by rw [<-N.o,vg D (by rw [En H1.o h2];decide),En H1.o h2,Cw (by decide)])))
      go_wp21
      go_ret;exact ⟨by rw [I.o];rfl,G.trans (Z.mono (by omega))⟩
     have HO:=aj (zb0 H1.o h2);clear h2
     go_wp21
     go_roundw
     case rel=>exact ⟨j+1,by omega,by go_num,(At D HO.o).symm.trans N.o,Z⟩
     case measure=>simp [intOf];omega
    have ai:=aj (W.o.trans (by rw [<-N.o,Au D,zbv]));clear N W;have Z:=E;clear E
    go_wp21
    go_loopw [6] (fun i wi=>∃j:Nat,j<=F.length/\i=.i j/\Hid (ip d7 (F.drop j)=ip d7 F)/\Below (wr.heap.size+1) w1 wi) (fun i _=>F.length - (intOf i).toNat)
    case atStart=>exact ⟨0,n0q _,rfl,rfl,Z⟩
    case round=>
     rename World=>wi
     obtain ⟨j,hj,rfl,N,E⟩:=hrel;have a1:wr.heap.size+1<=wi.heap.size:=by have:=E.size;omega
     have a2:wr.heap.size<wi.heap.size:=by omega
     have d3:=(E.cell (p:=⟨wr.heap.size,3,none⟩) (by simp)).trans c3;by_cases D:j<F.length
     ·obtain ⟨b2,am,va,vh,rfl,al,e0,e1,e2,e3,e4,e5,e6,e7,e8,ea,eh,ae,af,a9⟩:=(EM.o.keptM (Kp.below ((ak.trans (E.mono (by omega))).mono (by omega)))).atM j D;have EA:=aj ea;have EH:=aj eh;obtain ⟨ao,ca,rfl,-⟩:=ea;obtain ⟨ho,ch,rfl,-⟩:=eh
      go_wp21
      refine (zqd _ B F[j] _ _ EA.o EH.o (by omega) ae af).mono ?_;rintro r w3 ⟨rfl,O⟩;have aa:=E.trans (O.mono (by omega));clear O E e0 e1 e2 e3 e4 e5 e6 e7 e8 d3 EA EH;by_cases hc:d7 F[j]=0
      ·have HO:=aj hc;have a0:(d7 F[j] != 0)=false:=by rw [hc];rfl
       clear hc
       go_wp21
       go_roundw
       case rel=>exact ⟨j+1,by omega,by go_num,(At D HO.o).symm.trans N.o,aa⟩
       case measure=>simp [intOf];omega
      have I:=aj (L.o (d7 F[j]) hc (ai.o.trans (by rw [<-N.o,vg D hc])));have a0:(d7 F[j] != 0)=true:=by rw [bne_iff_ne];exact hc
      clear hc
      go_wp21
      go_ret;exact ⟨by rw [I.o];rfl,G.trans (aa.mono (by omega))⟩
     have HO:=aj (a3.o (ai.o.trans (by rw [<-N.o,Au D])))
     go_wp21
     go_roundw
     case rel=>exact ⟨k+1,by omega,by go_num,HO.o,G.trans (E.mono (by omega))⟩
     case measure=>simp [intOf];omega
  have ah:=aj (an.o.trans (by rw [decide_eq_false J,Bool.false_or]));have s1:b9.toList.isEmpty=false:=by rw [s0,decide_eq_false J]
  clear an J s0
  go_wp21
  refine (Dz _ _ a8).mono ?_;rintro r w1 ⟨rfl,rfl⟩;cases hb:dm b9
  ·have I:=aj (L.o 1 (by decide) (ah.o.trans (by rw [hb,rj])))
   go_wp21
   go_ret;exact ⟨by rw [I.o];rfl,G⟩
  have ac:=aj (ah.o.trans (by rw [hb,pj]));clear hb ah;by_cases J:A.length<=6
  rotate_left
  ·have aw:(6:Int)<A.length:=by omega
   have I:=aj (L.o 2 (by decide) (ac.o.trans (by rw [decide_eq_false J,rj])))
   go_wp21
   go_ret;exact ⟨by rw [I.o];rfl,G⟩
  have bf:¬(6:Int)<A.length:=by omega
  have ad:=aj (ac.o.trans (by rw [decide_eq_true J,pj]));clear J ac;by_cases J:F.length<=8
  rotate_left
  ·have aw:(8:Int)<F.length:=by omega
   have I:=aj (L.o 2 (by decide) (ad.o.trans (by rw [decide_eq_false J,rj])))
   go_wp21
   go_ret;exact ⟨by rw [I.o];rfl,G⟩
  have bh:¬(8:Int)<F.length:=by omega
  have W:=aj (ad.o.trans (by rw [decide_eq_true J,pj]));clear J ad
  go_wp21
  go_loopw [5] (fun i wi=>∃j:Nat,j<=A.length/\i=.i j/\Hid (ip fu (A.drop j)=ip fu A)/\Below (wr.heap.size+1) w1 wi) (fun i _=>A.length - (intOf i).toNat)
  case atStart=>exact ⟨0,n0q _,rfl,rfl,br _ _⟩
  case round=>
   rename World=>wi
   obtain ⟨j,hj,rfl,N,E⟩:=hrel;have a1:wr.heap.size+1<=wi.heap.size:=by have:=E.size;omega
   have a2:wr.heap.size<wi.heap.size:=by omega
   have d2:=(E.cell (p:=⟨wr.heap.size,2,none⟩) (by simp)).trans c2;by_cases D:j<A.length
   ·obtain ⟨b2,am,rfl,al,e0,e1,e2,ae,af⟩:=(EF.o.keptF (Kp.below ((ak.trans (E.mono (by omega))).mono (by omega)))).atF j D
    go_wp21
    refine (Dz _ A[j].name ae).mono ?_;rintro r w2 ⟨rfl,rfl⟩;cases h1:dm A[j].name
    ·have I:=aj (L.o 1 (by decide) (W.o.trans (by rw [<-N.o,vg D (by rw [Em h1];decide),Em h1,Cw (by decide)])))
     go_wp21
     go_ret;exact ⟨by rw [I.o];rfl,G.trans (E.mono (by omega))⟩
    have H1:=aj h1;clear h1
    go_wp21
    refine (zp7 _ A[j].kind af).mono ?_;rintro r w3 ⟨rfl,O⟩;have Z:=E.trans (O.mono (by omega));clear O E e0 e1 e2 d2;cases h2:ji A[j].kind
    ·have I:=aj (L.o 7 (by decide) (W.o.trans (by rw [<-N.o,vg D (by rw [En H1.o h2];decide),En H1.o h2,Cw (by decide)])))
     go_wp21
     go_ret;exact ⟨by rw [I.o];rfl,G.trans (Z.mono (by omega))⟩
    have HO:=aj (zb0 H1.o h2);clear h2
    go_wp21
    go_roundw
    case rel=>exact ⟨j+1,by omega,by go_num,(At D HO.o).symm.trans N.o,Z⟩
    case measure=>simp [intOf];omega
   have ai:=aj (W.o.trans (by rw [<-N.o,Au D,zbv]));clear N W;have Z:=E;clear E
   go_wp21
   go_loopw [6] (fun i wi=>∃j:Nat,j<=F.length/\i=.i j/\Hid (ip d7 (F.drop j)=ip d7 F)/\Below (wr.heap.size+1) w1 wi) (fun i _=>F.length - (intOf i).toNat)
   case atStart=>exact ⟨0,n0q _,rfl,rfl,Z⟩
   case round=>
    rename World=>wi
    obtain ⟨j,hj,rfl,N,E⟩:=hrel;have a1:wr.heap.size+1<=wi.heap.size:=by have:=E.size;omega
    have a2:wr.heap.size<wi.heap.size:=by omega
    have d3:=(E.cell (p:=⟨wr.heap.size,3,none⟩) (by simp)).trans c3;by_cases D:j<F.length
    ·obtain ⟨b2,am,va,vh,rfl,al,e0,e1,e2,e3,e4,e5,e6,e7,e8,ea,eh,ae,af,a9⟩:=(EM.o.keptM (Kp.below ((ak.trans (E.mono (by omega))).mono (by omega)))).atM j D;have EA:=aj ea;have EH:=aj eh;obtain ⟨ao,ca,rfl,-⟩:=ea;obtain ⟨ho,ch,rfl,-⟩:=eh
     go_wp21
     refine (zqd _ B F[j] _ _ EA.o EH.o (by omega) ae af).mono ?_;rintro r w3 ⟨rfl,O⟩;have aa:=E.trans (O.mono (by omega));clear O E e0 e1 e2 e3 e4 e5 e6 e7 e8 d3 EA EH;by_cases hc:d7 F[j]=0
     ·have HO:=aj hc;have a0:(d7 F[j] != 0)=false:=by rw [hc];rfl
      clear hc
      go_wp21
      go_roundw
      case rel=>exact ⟨j+1,by omega,by go_num,(At D HO.o).symm.trans N.o,aa⟩
      case measure=>simp [intOf];omega
     have I:=aj (L.o (d7 F[j]) hc (ai.o.trans (by rw [<-N.o,vg D hc])));have a0:(d7 F[j] != 0)=true:=by rw [bne_iff_ne];exact hc
     clear hc
     go_wp21
     go_ret;exact ⟨by rw [I.o];rfl,G.trans (aa.mono (by omega))⟩
    have HO:=aj (a3.o (ai.o.trans (by rw [<-N.o,Au D])))
    go_wp21
    go_roundw
    case rel=>exact ⟨k+1,by omega,by go_num,HO.o,G.trans (E.mono (by omega))⟩
    case measure=>simp [intOf];omega
end Go.Proofs.YtjdnmblggdobgaaGreat
