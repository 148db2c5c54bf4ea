import Derived.Test.YtjdnmblggdobgaaGreatJChkClassCatch
set_option maxHeartbeats 16000000
set_option maxRecDepth 100000
namespace Go.Proofs.YtjdnmblggdobgaaGreat
open Go.RowKit
theorem zqf (w:World) (n m:Int):
 Calls Tryz.prog 78 #[.int .i64 n,.int .i64 0,.int .i64 m] w fun r w'=>r=.returned (.bool (win n m))/\w'=w:=by
 by_cases h0:0<=n
 ·by_cases h1:n<=m
  ·go_enter Tryz.func78,Tryz.ntmps78;go_wp2
   go_ret;simp [win,h0,h1]
  go_enter Tryz.func78,Tryz.ntmps78;go_wp2
  go_ret;simp [win,h1]
 go_enter Tryz.func78,Tryz.ntmps78;go_wp2
 go_ret;simp [win];omega
theorem zqg (w:World) (s:ByteArray) (hs:s.size<=maxLen):
 Calls Tryz.prog 266 #[.string s] w fun r w'=>r=.returned (.bool (db s))/\w'=w:=by
 unfold maxLen at hs;have J:Hid (db s=(decide (1<=s.size)&&decide (s.size<=20)&&jf s)):=rfl;go_enter Tryz.func266,Tryz.ntmps266;go_wp2
 go_loop [3] (fun i=>∃k:Nat,k<=s.size/\i=.int .i64 k/\∀j,j<k->ck (bt s j)=true) (fun i=>s.size - (intOf i).toNat)
 case atStart=>exact ⟨0,n0q _,rfl,fun j W=>by omega⟩
 case round=>
  obtain ⟨k,hk,rfl,O⟩:=hrel;have N:=ag O;clear O;by_cases D:k<s.size
  ·have Z:(s[k].toNat)=bt s k:=(bt_eq s k D).symm;have HE:=ag Z;generalize hn:bt s k=n at*;have G:=ag hn;clear hn;rcases (by omega:(n<48)\/(48<=n/\n<=57)\/(57<n/\n<65)\/(65<=n/\n<=90)\/(90<n/\n<97/\n≠95)\/(n=95)\/(97<=n/\n<=122)\/(122<n))with h | h | h | h | h | h | h | h
   ·have u:ck n=false:=by simp [ck];omega
    have I:¬(97:Int)<=n:=by omega
    have F:¬(65:Int)<=n:=by omega
    have L:¬(48:Int)<=n:=by omega
    have V:((n:Int)==95)=false:=by simp;omega
    have A:=ag u;clear u h;have E:Hid (jf s=false):=zan D (by rw [G.o];exact A.o);go_wp2
    go_ret;exact ⟨by rw [J.o,E.o,Bool.and_false];rfl,rfl⟩
   ·have u:ck n=true:=by simp [ck];omega
    have I:¬(97:Int)<=n:=by omega
    have F:¬(65:Int)<=n:=by omega
    have L:(48:Int)<=n:=by omega
    have V:(n:Int)<=57:=by omega
    have A:=ag u;clear u h;go_wp2
    go_round
    case rel=>exact ⟨k+1,by omega,by go_num,fun j W=>if hjk:j=k then (by rw [hjk,G.o];exact A.o) else N.o j (by omega)⟩
    case measure=>simp [intOf];omega
   ·have u:ck n=false:=by simp [ck];omega
    have I:¬(97:Int)<=n:=by omega
    have F:¬(65:Int)<=n:=by omega
    have L:(48:Int)<=n:=by omega
    have V:¬(n:Int)<=57:=by omega
    have X:((n:Int)==95)=false:=by simp;omega
    have A:=ag u;clear u h;have E:Hid (jf s=false):=zan D (by rw [G.o];exact A.o);go_wp2
    go_ret;exact ⟨by rw [J.o,E.o,Bool.and_false];rfl,rfl⟩
   ·have u:ck n=true:=by simp [ck];omega
    have I:¬(97:Int)<=n:=by omega
    have F:(65:Int)<=n:=by omega
    have L:(n:Int)<=90:=by omega
    have A:=ag u;clear u h;go_wp2
    go_round
    case rel=>exact ⟨k+1,by omega,by go_num,fun j W=>if hjk:j=k then (by rw [hjk,G.o];exact A.o) else N.o j (by omega)⟩
    case measure=>simp [intOf];omega
   ·have u:ck n=false:=by simp [ck];omega
    have I:¬(97:Int)<=n:=by omega
    have F:(65:Int)<=n:=by omega
    have L:¬(n:Int)<=90:=by omega
    have V:(48:Int)<=n:=by omega
    have X:¬(n:Int)<=57:=by omega
    have Y:((n:Int)==95)=false:=by simp;omega
    have A:=ag u;clear u h;have E:Hid (jf s=false):=zan D (by rw [G.o];exact A.o);go_wp2
    go_ret;exact ⟨by rw [J.o,E.o,Bool.and_false];rfl,rfl⟩
   ·have u:ck n=true:=by simp [ck];omega
    have I:¬(97:Int)<=n:=by omega
    have F:(65:Int)<=n:=by omega
    have L:¬(n:Int)<=90:=by omega
    have V:(48:Int)<=n:=by omega
    have X:¬(n:Int)<=57:=by omega
    have Y:((n:Int)==95)=true:=by simp;omega
    have A:=ag u;clear u h;go_wp2
    go_round
    case rel=>exact ⟨k+1,by omega,by go_num,fun j W=>if hjk:j=k then (by rw [hjk,G.o];exact A.o) else N.o j (by omega)⟩
    case measure=>simp [intOf];omega
   ·have u:ck n=true:=by simp [ck];omega
    have I:(97:Int)<=n:=by omega
    have F:(n:Int)<=122:=by omega
    have A:=ag u;clear u h;go_wp2
    go_round
    case rel=>exact ⟨k+1,by omega,by go_num,fun j W=>if hjk:j=k then (by rw [hjk,G.o];exact A.o) else N.o j (by omega)⟩
    case measure=>simp [intOf];omega
   have u:ck n=false:=by simp [ck];omega
   have I:(97:Int)<=n:=by omega
   have F:¬(n:Int)<=122:=by omega
   have L:(65:Int)<=n:=by omega
   have V:¬(n:Int)<=90:=by omega
   have X:(48:Int)<=n:=by omega
   have Y:¬(n:Int)<=57:=by omega
   have a6:((n:Int)==95)=false:=by simp;omega
   have A:=ag u;clear u h;have E:Hid (jf s=false):=zan D (by rw [G.o];exact A.o);go_wp2
   go_ret;exact ⟨by rw [J.o,E.o,Bool.and_false];rfl,rfl⟩
  have E:Hid (jf s=true):=zao fun i hi=>N.o i (by omega);by_cases h1:1<=s.size
  ·have F:(1:Int)<=s.size:=by omega
   go_wp2
   go_ret;exact ⟨by rw [J.o,E.o,decide_eq_true h1];simp;omega,rfl⟩
  have F:¬(1:Int)<=s.size:=by omega
  go_wp2
  go_ret;exact ⟨by rw [J.o,E.o,decide_eq_false h1];rfl,rfl⟩
theorem zqh (w:World) (k:ew) (G:k.da.size<=maxLen):
 Calls Tryz.prog 267 #[.agg #[.int .i64 k.kind,.string k.da]] w fun r w'=>r=.returned (.bool (io k))/\Below w.heap.size w w':=by
 obtain ⟨n,s⟩:=k
 dsimp only at*
 have A:=fun o=>(br w.heap.size w).alloc (nlq _) o;have u:Hid (io ⟨n,s⟩=if lh n=true then db s else (decide (n=1)||decide (n=2))&&decide (s.size=0)):=rfl;have W:=size0 s;by_cases h1:n=1
 ·subst h1;go_enter Tryz.func267,Tryz.ntmps267;go_wp2
  go_ret;exact ⟨by rw [u.o];simp [lh],A _⟩
 have L:(n==1)=false:=by simp [h1]
 by_cases D:n=2
 ·subst D;go_enter Tryz.func267,Tryz.ntmps267;go_wp2
  go_ret;exact ⟨by rw [u.o];simp [lh],A _⟩
 have N:(n==2)=false:=by simp [D]
 by_cases E:n=3
 ·subst E;go_enter Tryz.func267,Tryz.ntmps267;go_wp2_with fail;refine (zqg _ _ G).mono ?_;rintro r J ⟨rfl,rfl⟩;go_wp2
  go_ret;exact ⟨by rw [u.o];rfl,A _⟩
 have O:(n==3)=false:=by simp [E]
 by_cases F:n=4
 ·subst F;go_enter Tryz.func267,Tryz.ntmps267;go_wp2_with fail;refine (zqg _ _ G).mono ?_;rintro r J ⟨rfl,rfl⟩;go_wp2
  go_ret;exact ⟨by rw [u.o];rfl,A _⟩
 have V:(n==4)=false:=by simp [F]
 have I:Hid (io ⟨n,s⟩=false):=by show io ⟨n,s⟩=false;rw [u.o];simp [lh,h1,D,E,F]
 clear h1 D E F;go_enter Tryz.func267,Tryz.ntmps267;go_wp2
 go_ret;exact ⟨by rw [I.o];rfl,A _⟩
theorem zqi {h:ii} (h1:db h.da=false):ep h=1:=by rw [ep,h1,oq]
theorem zqj {h:ii} (h1:db h.da=true) (u:win h.frm 200=false):ep h=3:=by rw [ep,h1,mt,u,oq]
theorem zqk {h:ii} (h1:db h.da=true) (u:win h.frm 200=true) (A:win h.upto 200=false):ep h=3:=by rw [ep,h1,mt,u,mt,A,oq]
theorem zql {h:ii} (h1:db h.da=true) (u:win h.frm 200=true) (A:win h.upto 200=true) (D:win h.loc 200=false):ep h=3:=by rw [ep,h1,mt,u,mt,A,mt,D,oq]
theorem zqm {h:ii} (h1:db h.da=true) (u:win h.frm 200=true) (A:win h.upto 200=true) (D:win h.loc 200=true):ep h=0:=by rw [ep,h1,mt,u,mt,A,mt,D,mt]
theorem zqn (w:World) (B:Nat) (m:dx) (va vh:Value) (ha:SL 2 RK (· <B) w va m.args) (hh:SL 4 RH (· <B) w vh m.hands) (hB:B<=w.heap.size) (au:m.name.size<=maxLen) (av:m.ret.da.size<=maxLen):
 Calls Tryz.prog 268 #[.agg #[.string m.name,.bool m.static,va,.int .i64 m.ret.kind,.string m.ret.da,.int .i64 m.stack,.int .i64 m.locals,.string m.code,vh]] w fun r w'=>r=.returned (.int .i64 (dr m))/\Below w.heap.size w w':=by
 obtain ⟨W,L,args,⟨rk,rc⟩,I,G,J,u⟩:=m
 dsimp only at*
 have HA:=ag ha;have HH:=ag hh;obtain ⟨ao,ca,rfl,aw,aq,-⟩:=ha;obtain ⟨ho,ch,rfl,ax,ar,-⟩:=hh;unfold maxLen at aq ar;have e0:=size0 rc;have ad:Hid (dr ⟨W,L,args,⟨rk,rc⟩,I,G,J,u⟩=mg (db W) 1 (mg (decide (args.length<=4)) 2 (mg (decide (J.size<=200)) 2 (mg (decide (u.length<=4)) 2 (mg (win I 10) 3 (mg (win G 10) 3 (ng (gr jr args) (mg (returnedB ⟨rk,rc⟩) 7 (gr ep u))))))))):=rfl;generalize dr ⟨W,L,args,⟨rk,rc⟩,I,G,J,u⟩=X at*;go_enter Tryz.func268,Tryz.ntmps268;go_wp2_with fail;generalize hW:w.alloc (.cells #[.string W,.bool L,.slice ao args.length ca,.int .i64 rk,.string rc,.int .i64 I,.int .i64 G,.string J,.slice ho u.length ch] 159)=W0;have hz:W0.heap.size=w.heap.size+1:=by rw [<-hW];simp
 have A:Below w.heap.size w W0:=by rw [<-hW];exact (br w.heap.size w).alloc (nlq _) _
 have c0:W0.cell? ⟨w.heap.size,0,none⟩=some (.string W):=by rw [<-hW];simp [go_sem]
 have c1:W0.cell? ⟨w.heap.size,1,none⟩=some (.bool L):=by rw [<-hW];simp [go_sem]
 have c2:W0.cell? ⟨w.heap.size,2,none⟩=some (.slice ao args.length ca):=by rw [<-hW];simp [go_sem]
 have c3:W0.cell? ⟨w.heap.size,3,none⟩=some (.int .i64 rk):=by rw [<-hW];simp [go_sem]
 have c4:W0.cell? ⟨w.heap.size,4,none⟩=some (.string rc):=by rw [<-hW];simp [go_sem]
 have c5:W0.cell? ⟨w.heap.size,5,none⟩=some (.int .i64 I):=by rw [<-hW];simp [go_sem]
 have c6:W0.cell? ⟨w.heap.size,6,none⟩=some (.int .i64 G):=by rw [<-hW];simp [go_sem]
 have c7:W0.cell? ⟨w.heap.size,7,none⟩=some (.string J):=by rw [<-hW];simp [go_sem]
 have c8:W0.cell? ⟨w.heap.size,8,none⟩=some (.slice ho u.length ch):=by rw [<-hW];simp [go_sem]
 clear hW;refine (zqg _ _ au).mono ?_;rintro r w1 ⟨rfl,rfl⟩;cases hb:db W
 ·have F:=ag (ad.o.trans (by rw [hb,oq]));go_wp2_with fail;go_ret;exact ⟨by rw [F.o];rfl,A⟩
 have ae:=ag (ad.o.trans (by rw [hb,mt]));clear hb ad;by_cases hq:args.length<=4
 rotate_left
 ·have an:(4:Int)<args.length:=by omega
  have F:=ag (ae.o.trans (by rw [decide_eq_false hq,oq]));go_wp2_with fail;go_ret;exact ⟨by rw [F.o];rfl,A⟩
 have ay:¬(4:Int)<args.length:=by omega
 have af:=ag (ae.o.trans (by rw [decide_eq_true hq,mt]));clear hq ae;by_cases hq:J.size<=200
 rotate_left
 ·have an:(200:Int)<J.size:=by omega
  have F:=ag (af.o.trans (by rw [decide_eq_false hq,oq]));go_wp2_with fail;go_ret;exact ⟨by rw [F.o];rfl,A⟩
 have az:¬(200:Int)<J.size:=by omega
 have ah:=ag (af.o.trans (by rw [decide_eq_true hq,mt]));clear hq af;by_cases hq:u.length<=4
 rotate_left
 ·have an:(4:Int)<u.length:=by omega
  have F:=ag (ah.o.trans (by rw [decide_eq_false hq,oq]));go_wp2_with fail;go_ret;exact ⟨by rw [F.o];rfl,A⟩
 have a0:¬(4:Int)<u.length:=by omega
 have ai:=ag (ah.o.trans (by rw [decide_eq_true hq,mt]));clear hq ah;go_wp2_with fail;refine (zqf _ _ _).mono ?_;rintro r w1 ⟨rfl,rfl⟩;cases hb:win I 10
 ·have F:=ag (ai.o.trans (by rw [hb,oq]));go_wp2_with fail;go_ret;exact ⟨by rw [F.o];rfl,A⟩
 have aj:=ag (ai.o.trans (by rw [hb,mt]));clear hb ai;go_wp2_with fail;refine (zqf _ _ _).mono ?_;rintro r w1 ⟨rfl,rfl⟩;cases hb:win G 10
 ·have F:=ag (aj.o.trans (by rw [hb,oq]));go_wp2_with fail;go_ret;exact ⟨by rw [F.o];rfl,A⟩
 have ak:=ag (aj.o.trans (by rw [hb,mt]));clear hb aj;go_wp2_with fail;go_loopw [3] (fun i wr=>∃k:Nat,k<=args.length/\i=.int .i64 k/\Hid (gr jr (args.drop k)=gr jr args)/\Below (w.heap.size+1) w1 wr) (fun i _=>args.length - (intOf i).toNat)
 case atStart=>exact ⟨0,n0q _,rfl,rfl,br _ _⟩
 case round=>
  obtain ⟨k,hk,rfl,Y,D⟩:=hrel;have ac:w.heap.size+1<=wr.heap.size:=by have:=D.size;omega
  have ap:w.heap.size<wr.heap.size:=by omega
  have d2:=(D.cell (p:=⟨w.heap.size,2,none⟩) (by simp)).trans c2;by_cases E:k<args.length
  ·obtain ⟨b,off,rfl,al,e0,e1,es⟩:=(HA.o.keptK (Kp.below ((A.trans (D.mono (by omega))).mono hB))).atK k E;go_wp2_with fail;refine (zqh _ args[k] es).mono ?_;rintro r w2 ⟨rfl,aa⟩;have V:=D.trans (aa.mono (by omega));clear aa D e0 e1 d2;cases hb:io args[k]
   ·have F:=ag (ak.o.trans (by rw [<-Y.o,zar E (by rw [zbt hb];decide),zbt hb,zbw (by decide)]));go_wp2_with fail;go_ret;exact ⟨by rw [F.o];rfl,A.trans (V.mono (by omega))⟩
   have HB:=ag (zbu hb);clear hb;go_wp2_with fail;go_roundw
   case rel=>exact ⟨k+1,by omega,by go_num,(zas E HB.o).symm.trans Y.o,V⟩
   case measure=>simp [intOf];omega
  have Z:=ag (ak.o.trans (by rw [<-Y.o,zat E,zbv]));have d3:=(D.cell (p:=⟨w.heap.size,3,none⟩) (by simp)).trans c3;have d4:=(D.cell (p:=⟨w.heap.size,4,none⟩) (by simp)).trans c4;clear Y ak;go_wp2_with fail;refine (zqh _ ⟨rk,rc⟩ av).mono ?_;rintro r w2 ⟨rfl,aa⟩;have V:=D.trans (aa.mono (by omega));clear aa D d3 d4 d2;have d3:=(V.cell (p:=⟨w.heap.size,3,none⟩) (by simp)).trans c3;have d4:=(V.cell (p:=⟨w.heap.size,4,none⟩) (by simp)).trans c4;have a1:w.heap.size<w2.heap.size:=by have:=V.size;omega
  have HR:Hid (returnedB ⟨rk,rc⟩=(io ⟨rk,rc⟩||(decide (rk=0)&&decide (rc.size=0)))):=rfl;cases hb:io ⟨rk,rc⟩
  ·rw [hb,Bool.false_or]at HR;by_cases h0:rk=0
   ·by_cases h1:rc.size=0
    ·have N:=ag (Z.o.trans (by rw [HR.o,decide_eq_true h0,decide_eq_true h1,Bool.and_self,mt]));have b0:(rk != 0)=false:=by rw [h0];rfl
     have b1:rc.toList.isEmpty=true:=by rw [e0,decide_eq_true h1]
     clear HR Z h0 h1 e0 hb;go_wp2_with fail;go_loopw [4] (fun i wr=>∃k:Nat,k<=u.length/\i=.int .i64 k/\Hid (gr ep (u.drop k)=gr ep u)/\Below (w.heap.size+1) w1 wr) (fun i _=>u.length - (intOf i).toNat)
     case atStart=>exact ⟨0,n0q _,rfl,rfl,V⟩
     case round=>
      obtain ⟨k,hk,rfl,Y,D⟩:=hrel;have ac:w.heap.size+1<=wr.heap.size:=by have:=D.size;omega
      have ap:w.heap.size<wr.heap.size:=by omega
      have d8:=(D.cell (p:=⟨w.heap.size,8,none⟩) (by simp)).trans c8;by_cases E:k<u.length
      ·obtain ⟨b,off,rfl,al,e0,e1,e2,e3,es⟩:=(HH.o.keptH (Kp.below ((A.trans (D.mono (by omega))).mono hB))).atH k E;have O:=D.alloc ac (.cells #[.int .i64 u[k].frm,.int .i64 u[k].upto,.int .i64 u[k].loc,.string u[k].da] 248);go_wp2_with fail;refine (zqg _ u[k].da es).mono ?_;rintro r w2 ⟨rfl,rfl⟩;cases h1:db u[k].da
       ·have F:=ag (N.o.trans (by rw [<-Y.o,zar E (by rw [zqi h1];decide),zqi h1]));go_wp2_with fail;go_ret;exact ⟨by rw [F.o];rfl,A.trans (O.mono (by omega))⟩
       have H1:=ag h1;clear h1;go_wp2_with fail;refine (zqf _ _ _).mono ?_;rintro r w2 ⟨rfl,rfl⟩;cases h2:win u[k].frm 200
       ·have F:=ag (N.o.trans (by rw [<-Y.o,zar E (by rw [zqj H1.o h2];decide),zqj H1.o h2]));go_wp2_with fail;go_ret;exact ⟨by rw [F.o];rfl,A.trans (O.mono (by omega))⟩
       have H2:=ag h2;clear h2;go_wp2_with fail;refine (zqf _ _ _).mono ?_;rintro r w2 ⟨rfl,rfl⟩;cases h3:win u[k].upto 200
       ·have F:=ag (N.o.trans (by rw [<-Y.o,zar E (by rw [zqk H1.o H2.o h3];decide),zqk H1.o H2.o h3]));go_wp2_with fail;go_ret;exact ⟨by rw [F.o];rfl,A.trans (O.mono (by omega))⟩
       have H3:=ag h3;clear h3;go_wp2_with fail;refine (zqf _ _ _).mono ?_;rintro r w2 ⟨rfl,rfl⟩;cases h4:win u[k].loc 200
       ·have F:=ag (N.o.trans (by rw [<-Y.o,zar E (by rw [zql H1.o H2.o H3.o h4];decide),zql H1.o H2.o H3.o h4]));go_wp2_with fail;go_ret;exact ⟨by rw [F.o];rfl,A.trans (O.mono (by omega))⟩
       have HO:=ag (zqm H1.o H2.o H3.o h4);clear h4;go_wp2_with fail;go_roundw
       case rel=>exact ⟨k+1,by omega,by go_num,(zas E HO.o).symm.trans Y.o,O⟩
       case measure=>simp [intOf];omega
      have F:=ag (N.o.trans (by rw [<-Y.o,zat E]));go_wp2_with fail;go_ret;exact ⟨by rw [F.o];rfl,A.trans (D.mono (by omega))⟩
    have F:=ag (Z.o.trans (by rw [HR.o,decide_eq_false h1,Bool.and_false,oq]));have b0:(rk != 0)=false:=by rw [h0];rfl
    have b1:rc.toList.isEmpty=false:=by rw [e0,decide_eq_false h1]
    clear HR Z h0 h1 e0 hb;go_wp2_with fail;go_ret;exact ⟨by rw [F.o];rfl,A.trans (V.mono (by omega))⟩
   have F:=ag (Z.o.trans (by rw [HR.o,decide_eq_false h0,Bool.false_and,oq]));have b0:(rk != 0)=true:=by rw [bne_iff_ne];exact h0
   clear HR Z h0 e0 hb;go_wp2_with fail;go_ret;exact ⟨by rw [F.o];rfl,A.trans (V.mono (by omega))⟩
  have N:=ag (Z.o.trans (by rw [HR.o,hb,Bool.true_or,mt]));clear HR Z e0 hb;go_wp2_with fail;go_loopw [4] (fun i wr=>∃k:Nat,k<=u.length/\i=.int .i64 k/\Hid (gr ep (u.drop k)=gr ep u)/\Below (w.heap.size+1) w1 wr) (fun i _=>u.length - (intOf i).toNat)
  case atStart=>exact ⟨0,n0q _,rfl,rfl,V⟩
  case round=>
   obtain ⟨k,hk,rfl,Y,D⟩:=hrel;have ac:w.heap.size+1<=wr.heap.size:=by have:=D.size;omega
   have ap:w.heap.size<wr.heap.size:=by omega
   have d8:=(D.cell (p:=⟨w.heap.size,8,none⟩) (by simp)).trans c8;by_cases E:k<u.length
   ·obtain ⟨b,off,rfl,al,e0,e1,e2,e3,es⟩:=(HH.o.keptH (Kp.below ((A.trans (D.mono (by omega))).mono hB))).atH k E;have O:=D.alloc ac (.cells #[.int .i64 u[k].frm,.int .i64 u[k].upto,.int .i64 u[k].loc,.string u[k].da] 248);go_wp2_with fail;refine (zqg _ u[k].da es).mono ?_;rintro r w2 ⟨rfl,rfl⟩;cases h1:db u[k].da
    ·have F:=ag (N.o.trans (by rw [<-Y.o,zar E (by rw [zqi h1];decide),zqi h1]));go_wp2_with fail;go_ret;exact ⟨by rw [F.o];rfl,A.trans (O.mono (by omega))⟩
    have H1:=ag h1;clear h1;go_wp2_with fail;refine (zqf _ _ _).mono ?_;rintro r w2 ⟨rfl,rfl⟩;cases h2:win u[k].frm 200
    ·have F:=ag (N.o.trans (by rw [<-Y.o,zar E (by rw [zqj H1.o h2];decide),zqj H1.o h2]));go_wp2_with fail;go_ret;exact ⟨by rw [F.o];rfl,A.trans (O.mono (by omega))⟩
    have H2:=ag h2;clear h2;go_wp2_with fail;refine (zqf _ _ _).mono ?_;rintro r w2 ⟨rfl,rfl⟩;cases h3:win u[k].upto 200
    ·have F:=ag (N.o.trans (by rw [<-Y.o,zar E (by rw [zqk H1.o H2.o h3];decide),zqk H1.o H2.o h3]));go_wp2_with fail;go_ret;exact ⟨by rw [F.o];rfl,A.trans (O.mono (by omega))⟩
    have H3:=ag h3;clear h3;go_wp2_with fail;refine (zqf _ _ _).mono ?_;rintro r w2 ⟨rfl,rfl⟩;cases h4:win u[k].loc 200
    ·have F:=ag (N.o.trans (by rw [<-Y.o,zar E (by rw [zql H1.o H2.o H3.o h4];decide),zql H1.o H2.o H3.o h4]));go_wp2_with fail;go_ret;exact ⟨by rw [F.o];rfl,A.trans (O.mono (by omega))⟩
    have HO:=ag (zqm H1.o H2.o H3.o h4);clear h4;go_wp2_with fail;go_roundw
    case rel=>exact ⟨k+1,by omega,by go_num,(zas E HO.o).symm.trans Y.o,O⟩
    case measure=>simp [intOf];omega
   have F:=ag (N.o.trans (by rw [<-Y.o,zat E]));go_wp2_with fail;go_ret;exact ⟨by rw [F.o];rfl,A.trans (D.mono (by omega))⟩
theorem zqo (w:World) (B:Nat) (l:List am) (v:Value) (hv:SL 4 RC (· <B) w v l) (hB:B<=w.heap.size):
 Calls Tryz.prog 224 #[v] w fun r w'=>r=.returned (.int .i64 (dt l))/\Below w.heap.size w w':=by
 have HV:=ag hv;obtain ⟨ao,cl,rfl,bh,a8,-⟩:=hv;unfold maxLen at a8;have aw:Hid (dt l=mg (decide (l.length<=10)) 2 (gr dy l)):=rfl;generalize dt l=X at*;go_enter Tryz.func224,Tryz.ntmps224;by_cases I:l.length<=10
 rotate_left
 ·have au:(10:Int)<l.length:=by omega
  have G:=ag (aw.o.trans (by rw [decide_eq_false I,oq]));go_wp2_with fail;go_ret;exact ⟨by rw [G.o];rfl,br _ _⟩
 have bk:¬(10:Int)<l.length:=by omega
 have a1:=ag (aw.o.trans (by rw [decide_eq_true I,mt]));clear I aw;go_wp2_with fail;go_loopw [3] (fun i wr=>∃k:Nat,k<=l.length/\i=.int .i64 k/\Hid (gr dy (l.drop k)=gr dy l)/\Below w.heap.size w wr) (fun i _=>l.length - (intOf i).toNat)
 case atStart=>exact ⟨0,n0q _,rfl,rfl,br _ _⟩
 case round=>
  obtain ⟨k,hk,rfl,L,ap⟩:=hrel;have a2:=ap.size;by_cases aq:k<l.length
  rotate_left
  ·have G:=ag (a1.o.trans (by rw [<-L.o,zat aq]));go_wp2_with fail;go_ret;exact ⟨by rw [G.o];rfl,ap⟩
  obtain ⟨b,off,vf,vm,rfl,bf,e0,e1,e2,e3,ef,em,a4,a5⟩:=(HV.o.keptC (Kp.below (ap.mono hB))).atC k aq;have J:=ag (fun (e:Int) (he:e≠0) (hc:dy l[k]=e)=>a1.o.trans ((L.o.symm.trans (zar aq (by rw [hc];exact he))).trans hc));have a0:=ag (fun (hc:dy l[k]=0)=>(zas aq hc).symm.trans L.o);have a3:Hid (dy l[k]=dy l[k]):=rfl;generalize l[k]=c at*;obtain ⟨O,bq,u,E⟩:=c
  dsimp only at*
  have av:Hid (dy ⟨O,bq,u,E⟩=mg (db O) 1 (mg (decide (bq.size=0)||db bq) 1 (mg (decide (u.length<=6)) 2 (mg (decide (E.length<=8)) 2 (ng (gr fb u) (gr dr E)))))):=rfl;generalize dy ⟨O,bq,u,E⟩=Y at*;have EF:=ag ef;have EM:=ag em;obtain ⟨fo,cf,rfl,bg,a7,-⟩:=ef;obtain ⟨mo,cm,rfl,bi,a9,-⟩:=em;unfold maxLen at a7 a9;have s0:=size0 bq;clear a3 L;go_wp2_with fail;generalize hW:wr.alloc (.cells #[.string O,.string bq,.slice fo u.length cf,.slice mo E.length cm] 162)=W0;have hz:W0.heap.size=wr.heap.size+1:=by rw [<-hW];simp
  have aj:Below wr.heap.size wr W0:=by rw [<-hW];exact (br wr.heap.size wr).alloc (nlq _) _
  have F:Below w.heap.size w W0:=ap.trans (aj.mono a2);have c0:W0.cell? ⟨wr.heap.size,0,none⟩=some (.string O):=by rw [<-hW];simp [go_sem]
  have c1:W0.cell? ⟨wr.heap.size,1,none⟩=some (.string bq):=by rw [<-hW];simp [go_sem]
  have c2:W0.cell? ⟨wr.heap.size,2,none⟩=some (.slice fo u.length cf):=by rw [<-hW];simp [go_sem]
  have c3:W0.cell? ⟨wr.heap.size,3,none⟩=some (.slice mo E.length cm):=by rw [<-hW];simp [go_sem]
  have bl:wr.heap.size<W0.heap.size:=by omega
  clear hW e0 e1 e2 e3;refine (zqg _ _ a4).mono ?_;rintro r w1 ⟨rfl,rfl⟩;cases hb:db O
  ·have G:=ag (J.o 1 (by decide) (av.o.trans (by rw [hb,oq])));go_wp2_with fail;go_ret;exact ⟨by rw [G.o];rfl,F⟩
  have an:=ag (av.o.trans (by rw [hb,mt]));clear hb av;by_cases I:bq.size=0
  ·have ac:=ag (an.o.trans (by rw [decide_eq_true I,Bool.true_or,mt]));have s1:bq.toList.isEmpty=true:=by rw [s0,decide_eq_true I]
   clear an I s0;by_cases I:u.length<=6
   rotate_left
   ·have au:(6:Int)<u.length:=by omega
    have G:=ag (J.o 2 (by decide) (ac.o.trans (by rw [decide_eq_false I,oq])));go_wp2_with fail;go_ret;exact ⟨by rw [G.o];rfl,F⟩
   have bb:¬(6:Int)<u.length:=by omega
   have ad:=ag (ac.o.trans (by rw [decide_eq_true I,mt]));clear I ac;by_cases I:E.length<=8
   rotate_left
   ·have au:(8:Int)<E.length:=by omega
    have G:=ag (J.o 2 (by decide) (ad.o.trans (by rw [decide_eq_false I,oq])));go_wp2_with fail;go_ret;exact ⟨by rw [G.o];rfl,F⟩
   have bc:¬(8:Int)<E.length:=by omega
   have V:=ag (ad.o.trans (by rw [decide_eq_true I,mt]));clear I ad;go_wp2_with fail;go_loopw [5] (fun i Z=>∃j:Nat,j<=u.length/\i=.int .i64 j/\Hid (gr fb (u.drop j)=gr fb u)/\Below (wr.heap.size+1) w1 Z) (fun i _=>u.length - (intOf i).toNat)
   case atStart=>exact ⟨0,n0q _,rfl,rfl,br _ _⟩
   case round=>
    rename World=>Z
    obtain ⟨j,hj,rfl,L,D⟩:=hrel;have ay:wr.heap.size+1<=Z.heap.size:=by have:=D.size;omega
    have az:wr.heap.size<Z.heap.size:=by omega
    have d2:=(D.cell (p:=⟨wr.heap.size,2,none⟩) (by simp)).trans c2;by_cases A:j<u.length
    ·obtain ⟨b2,al,rfl,ak,e0,e1,e2,ae,af⟩:=(EF.o.keptF (Kp.below ((aj.trans (D.mono (by omega))).mono (by omega)))).atF j A;go_wp2_with fail;refine (zqg _ u[j].name ae).mono ?_;rintro r w2 ⟨rfl,rfl⟩;cases h1:db u[j].name
     ·have G:=ag (J.o 1 (by decide) (V.o.trans (by rw [<-L.o,zar A (by rw [zby h1];decide),zby h1,zbw (by decide)])));go_wp2_with fail;go_ret;exact ⟨by rw [G.o];rfl,F.trans (D.mono (by omega))⟩
     have H1:=ag h1;clear h1;go_wp2_with fail;refine (zqh _ u[j].kind af).mono ?_;rintro r w3 ⟨rfl,N⟩;have W:=D.trans (N.mono (by omega));clear N D e0 e1 e2 d2;cases h2:io u[j].kind
     ·have G:=ag (J.o 7 (by decide) (V.o.trans (by rw [<-L.o,zar A (by rw [zbz H1.o h2];decide),zbz H1.o h2,zbw (by decide)])));go_wp2_with fail;go_ret;exact ⟨by rw [G.o];rfl,F.trans (W.mono (by omega))⟩
     have HO:=ag (zb0 H1.o h2);clear h2;go_wp2_with fail;go_roundw
     case rel=>exact ⟨j+1,by omega,by go_num,(zas A HO.o).symm.trans L.o,W⟩
     case measure=>simp [intOf];omega
    have ai:=ag (V.o.trans (by rw [<-L.o,zat A,zbv]));clear L V;have W:=D;clear D;go_wp2_with fail;go_loopw [6] (fun i Z=>∃j:Nat,j<=E.length/\i=.int .i64 j/\Hid (gr dr (E.drop j)=gr dr E)/\Below (wr.heap.size+1) w1 Z) (fun i _=>E.length - (intOf i).toNat)
    case atStart=>exact ⟨0,n0q _,rfl,rfl,W⟩
    case round=>
     rename World=>Z
     obtain ⟨j,hj,rfl,L,D⟩:=hrel;have ay:wr.heap.size+1<=Z.heap.size:=by have:=D.size;omega
     have az:wr.heap.size<Z.heap.size:=by omega
     have d3:=(D.cell (p:=⟨wr.heap.size,3,none⟩) (by simp)).trans c3;by_cases A:j<E.length
     ·obtain ⟨b2,al,va,vh,rfl,ak,e0,e1,e2,e3,e4,e5,e6,e7,e8,ea,eh,ae,af,a6⟩:=(EM.o.keptM (Kp.below ((aj.trans (D.mono (by omega))).mono (by omega)))).atM j A;have EA:=ag ea;have EH:=ag eh;obtain ⟨ao,ca,rfl,-⟩:=ea;obtain ⟨ho,ch,rfl,-⟩:=eh;go_wp2_with fail;refine (zqn _ B E[j] _ _ EA.o EH.o (by omega) ae af).mono ?_;rintro r w3 ⟨rfl,N⟩;have aa:=D.trans (N.mono (by omega));clear N D e0 e1 e2 e3 e4 e5 e6 e7 e8 d3 EA EH;by_cases hc:dr E[j]=0
      ·have HO:=ag hc;have ax:(dr E[j] != 0)=false:=by rw [hc];rfl
       clear hc;go_wp2_with fail;go_roundw
       case rel=>exact ⟨j+1,by omega,by go_num,(zas A HO.o).symm.trans L.o,aa⟩
       case measure=>simp [intOf];omega
      have G:=ag (J.o (dr E[j]) hc (ai.o.trans (by rw [<-L.o,zar A hc])));have ax:(dr E[j] != 0)=true:=by rw [bne_iff_ne];exact hc
      clear hc;go_wp2_with fail;go_ret;exact ⟨by rw [G.o];rfl,F.trans (aa.mono (by omega))⟩
     have HO:=ag (a0.o (ai.o.trans (by rw [<-L.o,zat A])));go_wp2_with fail;go_roundw
     case rel=>exact ⟨k+1,by omega,by go_num,HO.o,F.trans (D.mono (by omega))⟩
     case measure=>simp [intOf];omega
  have ah:=ag (an.o.trans (by rw [decide_eq_false I,Bool.false_or]));have s1:bq.toList.isEmpty=false:=by rw [s0,decide_eq_false I]
  clear an I s0;go_wp2_with fail;refine (zqg _ _ a5).mono ?_;rintro r w1 ⟨rfl,rfl⟩;cases hb:db bq
  ·have G:=ag (J.o 1 (by decide) (ah.o.trans (by rw [hb,oq])));go_wp2_with fail;go_ret;exact ⟨by rw [G.o];rfl,F⟩
  have ac:=ag (ah.o.trans (by rw [hb,mt]));clear hb ah;by_cases I:u.length<=6
  rotate_left
  ·have au:(6:Int)<u.length:=by omega
   have G:=ag (J.o 2 (by decide) (ac.o.trans (by rw [decide_eq_false I,oq])));go_wp2_with fail;go_ret;exact ⟨by rw [G.o];rfl,F⟩
  have bb:¬(6:Int)<u.length:=by omega
  have ad:=ag (ac.o.trans (by rw [decide_eq_true I,mt]));clear I ac;by_cases I:E.length<=8
  rotate_left
  ·have au:(8:Int)<E.length:=by omega
   have G:=ag (J.o 2 (by decide) (ad.o.trans (by rw [decide_eq_false I,oq])));go_wp2_with fail;go_ret;exact ⟨by rw [G.o];rfl,F⟩
  have bc:¬(8:Int)<E.length:=by omega
  have V:=ag (ad.o.trans (by rw [decide_eq_true I,mt]));clear I ad;go_wp2_with fail;go_loopw [5] (fun i Z=>∃j:Nat,j<=u.length/\i=.int .i64 j/\Hid (gr fb (u.drop j)=gr fb u)/\Below (wr.heap.size+1) w1 Z) (fun i _=>u.length - (intOf i).toNat)
  case atStart=>exact ⟨0,n0q _,rfl,rfl,br _ _⟩
  case round=>
   rename World=>Z
   obtain ⟨j,hj,rfl,L,D⟩:=hrel;have ay:wr.heap.size+1<=Z.heap.size:=by have:=D.size;omega
   have az:wr.heap.size<Z.heap.size:=by omega
   have d2:=(D.cell (p:=⟨wr.heap.size,2,none⟩) (by simp)).trans c2;by_cases A:j<u.length
   ·obtain ⟨b2,al,rfl,ak,e0,e1,e2,ae,af⟩:=(EF.o.keptF (Kp.below ((aj.trans (D.mono (by omega))).mono (by omega)))).atF j A;go_wp2_with fail;refine (zqg _ u[j].name ae).mono ?_;rintro r w2 ⟨rfl,rfl⟩;cases h1:db u[j].name
    ·have G:=ag (J.o 1 (by decide) (V.o.trans (by rw [<-L.o,zar A (by rw [zby h1];decide),zby h1,zbw (by decide)])));go_wp2_with fail;go_ret;exact ⟨by rw [G.o];rfl,F.trans (D.mono (by omega))⟩
    have H1:=ag h1;clear h1;go_wp2_with fail;refine (zqh _ u[j].kind af).mono ?_;rintro r w3 ⟨rfl,N⟩;have W:=D.trans (N.mono (by omega));clear N D e0 e1 e2 d2;cases h2:io u[j].kind
    ·have G:=ag (J.o 7 (by decide) (V.o.trans (by rw [<-L.o,zar A (by rw [zbz H1.o h2];decide),zbz H1.o h2,zbw (by decide)])));go_wp2_with fail;go_ret;exact ⟨by rw [G.o];rfl,F.trans (W.mono (by omega))⟩
    have HO:=ag (zb0 H1.o h2);clear h2;go_wp2_with fail;go_roundw
    case rel=>exact ⟨j+1,by omega,by go_num,(zas A HO.o).symm.trans L.o,W⟩
    case measure=>simp [intOf];omega
   have ai:=ag (V.o.trans (by rw [<-L.o,zat A,zbv]));clear L V;have W:=D;clear D;go_wp2_with fail;go_loopw [6] (fun i Z=>∃j:Nat,j<=E.length/\i=.int .i64 j/\Hid (gr dr (E.drop j)=gr dr E)/\Below (wr.heap.size+1) w1 Z) (fun i _=>E.length - (intOf i).toNat)
   case atStart=>exact ⟨0,n0q _,rfl,rfl,W⟩
   case round=>
    rename World=>Z
    obtain ⟨j,hj,rfl,L,D⟩:=hrel;have ay:wr.heap.size+1<=Z.heap.size:=by have:=D.size;omega
    have az:wr.heap.size<Z.heap.size:=by omega
    have d3:=(D.cell (p:=⟨wr.heap.size,3,none⟩) (by simp)).trans c3;by_cases A:j<E.length
    ·obtain ⟨b2,al,va,vh,rfl,ak,e0,e1,e2,e3,e4,e5,e6,e7,e8,ea,eh,ae,af,a6⟩:=(EM.o.keptM (Kp.below ((aj.trans (D.mono (by omega))).mono (by omega)))).atM j A;have EA:=ag ea;have EH:=ag eh;obtain ⟨ao,ca,rfl,-⟩:=ea;obtain ⟨ho,ch,rfl,-⟩:=eh;go_wp2_with fail;refine (zqn _ B E[j] _ _ EA.o EH.o (by omega) ae af).mono ?_;rintro r w3 ⟨rfl,N⟩;have aa:=D.trans (N.mono (by omega));clear N D e0 e1 e2 e3 e4 e5 e6 e7 e8 d3 EA EH;by_cases hc:dr E[j]=0
     ·have HO:=ag hc;have ax:(dr E[j] != 0)=false:=by rw [hc];rfl
      clear hc;go_wp2_with fail;go_roundw
      case rel=>exact ⟨j+1,by omega,by go_num,(zas A HO.o).symm.trans L.o,aa⟩
      case measure=>simp [intOf];omega
     have G:=ag (J.o (dr E[j]) hc (ai.o.trans (by rw [<-L.o,zar A hc])));have ax:(dr E[j] != 0)=true:=by rw [bne_iff_ne];exact hc
     clear hc;go_wp2_with fail;go_ret;exact ⟨by rw [G.o];rfl,F.trans (aa.mono (by omega))⟩
    have HO:=ag (a0.o (ai.o.trans (by rw [<-L.o,zat A])));go_wp2_with fail;go_roundw
    case rel=>exact ⟨k+1,by omega,by go_num,HO.o,F.trans (D.mono (by omega))⟩
    case measure=>simp [intOf];omega
end Go.Proofs.YtjdnmblggdobgaaGreat
