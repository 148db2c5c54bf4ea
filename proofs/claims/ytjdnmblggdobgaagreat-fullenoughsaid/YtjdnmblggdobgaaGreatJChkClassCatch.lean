import Derived.Test.YtjdnmblggdobgaaGreatJMemChkMeth
import Derived.Test.YtjdnmblggdobgaaGreatJTk2Dies
set_option maxHeartbeats 4000000
namespace Go.Proofs.YtjdnmblggdobgaaGreat
open Go.RowKit Tryz
theorem Ef {f:bq} (h:dc f.name=false):fq f=1:=by rw [fq,h,qt]
theorem Eg {f:bq} (h:dc f.name=true) (A:je f.kind=false):fq f=7:=by rw [fq,h,oz,A,qt]
theorem zb0 {f:bq} (h:dc f.name=true) (A:je f.kind=true):fq f=0:=by rw [fq,h,oz,A,oz]
theorem zb1 (w:World) (B:Nat) (c:aq) (vf vm:Value) (hf:SL 3 RF (· <B) w vf c.fields) (hm:SL 9 RM (· <B) w vm c.be) (hB:B<=w.heap.size) (a1:c.name.size<=maxLen) (a2:c.bv.size<=maxLen):
 Calls prog 232 #[.agg #[.string c.name,.string c.bv,vf,vm]] w fun r w'=>pc (ev c) r/\Bl w w':=by
 obtain ⟨Y,bv,A,G⟩:=c
 dsimp only at*
 have HF:=ag hf;have HM:=ag hm;obtain ⟨fo,cf,rfl,a3,ay,_⟩:=hf;obtain ⟨mo,cm,rfl,a4,az,_⟩:=hm;unfold maxLen at ay az;have e0:=wo bv;have al:Hid (ev ⟨Y,bv,A,G⟩=oa (dc Y) 1 (oa (decide (bv.size=0)||dc bv) 1 (oa (decide (A.length<=6)) 2 (oa (decide (G.length<=8)) 2 (pv (ik fq A) (ik dw G)))))):=rfl;generalize ev ⟨Y,bv,A,G⟩=X at*;go_enter func232,ntmps232;go_wp2_with fail;generalize hW:w.alloc (.cells #[.string Y,.string bv,.slice fo A.length cf,.slice mo G.length cm] 162)=W0;have hz:W0.heap.size=w.heap.size+1:=by rw [<-hW];simp
 have I:Bl w W0:=by rw [<-hW];exact (br w.heap.size w).alloc (nlq _) _
 have c0:W0.cell? ⟨w.heap.size,0,none⟩=some (.string Y):=by rw [<-hW];simp [go_sem]
 have c1:W0.cell? ⟨w.heap.size,1,none⟩=some (.string bv):=by rw [<-hW];simp [go_sem]
 have c2:W0.cell? ⟨w.heap.size,2,none⟩=some (.slice fo A.length cf):=by rw [<-hW];simp [go_sem]
 have c3:W0.cell? ⟨w.heap.size,3,none⟩=some (.slice mo G.length cm):=by rw [<-hW];simp [go_sem]
 clear hW;refine (Fh _ _ a1).mono ?_;rintro r Z ⟨rfl,rfl⟩;go_wp2_with fail;refine (od _ _ _).mono ?_;rintro r Z ⟨rfl,⟨D,rfl⟩ | ⟨D,rfl⟩⟩
 ·exact ⟨rfl,t8 (by rw [al.o,D,qt]) (by decide),I⟩
 have ak:=ag (al.o.trans (by rw [D,oz]));clear D al;by_cases O:bv.size=0
 ·have ac:=ag (ak.o.trans (by rw [decide_eq_true O,Bool.true_or,oz]));have e1:bv.toList.isEmpty=true:=by rw [e0,decide_eq_true O]
  clear ak O e0;go_wp2_with fail;refine (od _ _ _).mono ?_;rintro r Z ⟨rfl,⟨D,rfl⟩ | ⟨D,rfl⟩⟩
  ·cases D
  clear D;by_cases O:A.length<=6
  rotate_left
  ·have av:¬(A.length:Int)<=6:=by omega
   go_wp2_with fail;refine (od _ _ _).mono ?_;rintro r Z ⟨rfl,⟨D,rfl⟩ | ⟨D,rfl⟩⟩
   ·exact ⟨rfl,t8 (by rw [ac.o,decide_eq_false O,qt]) (by decide),I⟩
   exact absurd D (by first | (simp;done) | (simp;omega))
  have a5:(A.length:Int)<=6:=by omega
  have ad:=ag (ac.o.trans (by rw [decide_eq_true O,oz]));clear O ac;go_wp2_with fail;refine (od _ _ _).mono ?_;rintro r Z ⟨rfl,⟨D,rfl⟩ | ⟨D,rfl⟩⟩
  ·exact absurd D (by simp)
  clear D;by_cases O:G.length<=8
  rotate_left
  ·have av:¬(G.length:Int)<=8:=by omega
   go_wp2_with fail;refine (od _ _ _).mono ?_;rintro r Z ⟨rfl,⟨D,rfl⟩ | ⟨D,rfl⟩⟩
   ·exact ⟨rfl,t8 (by rw [ad.o,decide_eq_false O,qt]) (by decide),I⟩
   exact absurd D (by first | (simp;done) | (simp;omega))
  have a0:(G.length:Int)<=8:=by omega
  have W:=ag (ad.o.trans (by rw [decide_eq_true O,oz]));clear O ad;go_wp2_with fail;refine (od _ _ _).mono ?_;rintro r Z ⟨rfl,⟨D,rfl⟩ | ⟨D,rfl⟩⟩
  ·exact absurd D (by simp)
  clear D;go_wp2_with fail;go_loopw [32] (fun i wr=>∃k:Nat,k<=A.length/\i=.i k/\Hid (ik fq (A.drop k)=ik fq A)/\Below (w.heap.size+1) Z wr) (fun i _=>A.length - (intOf i).toNat)
  case atStart=>exact ⟨0,n0q _,rfl,rfl,br _ _⟩
  case round=>
   obtain ⟨k,hk,rfl,V,E⟩:=hrel;have ai:w.heap.size+1<=wr.heap.size:=by have:=E.size;omega
   by_cases F:k<A.length
   ·obtain ⟨b,off,rfl,au,e0,e1,e2,es,ah⟩:=(HF.o.keptF (Kp.below ((I.trans (E.mono (by omega))).mono hB))).atF k F;have L:=E.alloc ai (.cells #[.string A[k].name,.i A[k].kind.kind,.string A[k].kind.de] 125);go_wp2_with fail;refine (Fh _ A[k].name es).mono ?_;rintro r w2 ⟨rfl,rfl⟩;go_wp2_with fail;refine (od _ _ _).mono ?_;rintro r w3 ⟨rfl,⟨D,rfl⟩ | ⟨D,rfl⟩⟩
    ·refine ⟨rfl,t8 (e:=1) ?_ (by decide),I.trans (L.mono (by omega))⟩;rw [W.o,<-V.o,uh F (by rw [Ef D];decide),Ef D,Cf (by decide)]
    have aa:=ag D;clear D;go_wp2_with fail;refine (zbo _ A[k].kind ah).mono ?_;rintro r w2 ⟨rfl,N⟩;have J:=L.trans (N.mono (by simp;omega));clear N L e0 e1 e2;go_wp2_with fail;refine (od _ _ _).mono ?_;rintro r w3 ⟨rfl,⟨D,rfl⟩ | ⟨D,rfl⟩⟩
    ·refine ⟨rfl,t8 (e:=7) ?_ (by decide),I.trans (J.mono (by omega))⟩;rw [W.o,<-V.o,uh F (by rw [Eg aa.o D];decide),Eg aa.o D,Cf (by decide)]
    have HB:=ag (zb0 aa.o D);clear D;go_wp2_with fail;go_roundw
    case rel=>exact ⟨k+1,by omega,by go_num,(zp F HB.o).symm.trans V.o,J⟩
    case measure=>simp [intOf];omega
   have af:=ag (W.o.trans (by rw [<-V.o,zq F,zbv]));have d3:=(E.cell (p:=⟨w.heap.size,3,none⟩) (by simp)).trans c3;clear V W;have J:=E;clear E;go_wp2_with fail;go_loopw [48] (fun i wr=>∃k:Nat,k<=G.length/\i=.i k/\Hid (ik dw (G.drop k)=ik dw G)/\Below (w.heap.size+1) Z wr) (fun i _=>G.length - (intOf i).toNat)
   case atStart=>exact ⟨0,n0q _,rfl,rfl,J⟩
   case round=>
    obtain ⟨k,hk,rfl,V,E⟩:=hrel;have ai:w.heap.size+1<=wr.heap.size:=by have:=E.size;omega
    by_cases F:k<G.length
    ·have ap:Bl w wr:=I.trans (E.mono (by omega));obtain ⟨b,off,va,vh,rfl,au,e0,e1,e2,e3,e4,e5,e6,e7,e8,ea,eh,an,ah,ax⟩:=(HM.o.keptM (Kp.below (ap.mono hB))).atM k F;have L:=fun t=>E.alloc ai (.cells #[.string G[k].name,.bool G[k].static,va,.i G[k].ret.kind,.string G[k].ret.de,.i G[k].stack,.i G[k].locals,.string G[k].code,vh] t);have aj:=ag L;have EA:=ag ea;have EH:=ag eh;obtain ⟨ao,ca,rfl,_⟩:=ea;obtain ⟨ho,ch,rfl,_⟩:=eh;clear L;go_wp2_with fail;refine (zbx _ B G[k] _ _ (EA.o.keptK (Kp.below ((br _ _).alloc (by omega) _))) (EH.o.keptH (Kp.below ((br _ _).alloc (by omega) _))) (by simp;omega) an ah).mono ?_;rintro r w2 ⟨hr,N⟩;have J:=(aj.o _).trans (N.mono (by simp;omega));clear N aj e0 e1 e2 e3 e4 e5 e6 e7 e8;rcases hr with ⟨hc,rfl⟩ | ⟨hc,rfl⟩
     ·refine ⟨rfl,t8 ?_ hc,I.trans (J.mono (by omega))⟩;rw [af.o,<-V.o,uh F hc]
     have HB:=ag hc;clear hc;go_wp2_with fail;go_roundw
     case rel=>exact ⟨k+1,by omega,by go_num,(zp F HB.o).symm.trans V.o,J⟩
     case measure=>simp [intOf];omega
    go_wp2_with fail;go_end0;exact ⟨zbr (by rw [af.o,<-V.o,zq F]),I.trans (E.mono (by omega))⟩
 have ac:=ag (ak.o.trans (by rw [decide_eq_false O,Bool.false_or]));have e1:bv.toList.isEmpty=false:=by rw [e0,decide_eq_false O]
 clear ak O e0;go_wp2_with fail;refine (Fh _ _ a2).mono ?_;rintro r Z ⟨rfl,rfl⟩;go_wp2_with fail;refine (od _ _ _).mono ?_;rintro r Z ⟨rfl,⟨D,rfl⟩ | ⟨D,rfl⟩⟩
 ·exact ⟨rfl,t8 (by rw [ac.o,D,qt]) (by decide),I⟩
 have ad:=ag (ac.o.trans (by rw [D,oz]));clear D ac;by_cases O:A.length<=6
 rotate_left
 ·have av:¬(A.length:Int)<=6:=by omega
  go_wp2_with fail;refine (od _ _ _).mono ?_;rintro r Z ⟨rfl,⟨D,rfl⟩ | ⟨D,rfl⟩⟩
  ·exact ⟨rfl,t8 (by rw [ad.o,decide_eq_false O,qt]) (by decide),I⟩
  exact absurd D (by first | (simp;done) | (simp;omega))
 have a0:(A.length:Int)<=6:=by omega
 have W:=ag (ad.o.trans (by rw [decide_eq_true O,oz]));clear O ad;go_wp2_with fail;refine (od _ _ _).mono ?_;rintro r Z ⟨rfl,⟨D,rfl⟩ | ⟨D,rfl⟩⟩
 ·exact absurd D (by simp)
 clear D;by_cases O:G.length<=8
 rotate_left
 ·have av:¬(G.length:Int)<=8:=by omega
  go_wp2_with fail;refine (od _ _ _).mono ?_;rintro r Z ⟨rfl,⟨D,rfl⟩ | ⟨D,rfl⟩⟩
  ·exact ⟨rfl,t8 (by rw [W.o,decide_eq_false O,qt]) (by decide),I⟩
  exact absurd D (by first | (simp;done) | (simp;omega))
 have a6:(G.length:Int)<=8:=by omega
 have af:=ag (W.o.trans (by rw [decide_eq_true O,oz]));clear O W;go_wp2_with fail;refine (od _ _ _).mono ?_;rintro r Z ⟨rfl,⟨D,rfl⟩ | ⟨D,rfl⟩⟩
 ·exact absurd D (by simp)
 clear D;go_wp2_with fail;go_loopw [32] (fun i wr=>∃k:Nat,k<=A.length/\i=.i k/\Hid (ik fq (A.drop k)=ik fq A)/\Below (w.heap.size+1) Z wr) (fun i _=>A.length - (intOf i).toNat)
 case atStart=>exact ⟨0,n0q _,rfl,rfl,br _ _⟩
 case round=>
  obtain ⟨k,hk,rfl,V,E⟩:=hrel;have ai:w.heap.size+1<=wr.heap.size:=by have:=E.size;omega
  by_cases F:k<A.length
  ·obtain ⟨b,off,rfl,au,e0,e1,e2,es,ah⟩:=(HF.o.keptF (Kp.below ((I.trans (E.mono (by omega))).mono hB))).atF k F;have L:=E.alloc ai (.cells #[.string A[k].name,.i A[k].kind.kind,.string A[k].kind.de] 125);go_wp2_with fail;refine (Fh _ A[k].name es).mono ?_;rintro r w2 ⟨rfl,rfl⟩;go_wp2_with fail;refine (od _ _ _).mono ?_;rintro r w3 ⟨rfl,⟨D,rfl⟩ | ⟨D,rfl⟩⟩
   ·refine ⟨rfl,t8 (e:=1) ?_ (by decide),I.trans (L.mono (by omega))⟩;rw [af.o,<-V.o,uh F (by rw [Ef D];decide),Ef D,Cf (by decide)]
   have aa:=ag D;clear D;go_wp2_with fail;refine (zbo _ A[k].kind ah).mono ?_;rintro r w2 ⟨rfl,N⟩;have J:=L.trans (N.mono (by simp;omega));clear N L e0 e1 e2;go_wp2_with fail;refine (od _ _ _).mono ?_;rintro r w3 ⟨rfl,⟨D,rfl⟩ | ⟨D,rfl⟩⟩
   ·refine ⟨rfl,t8 (e:=7) ?_ (by decide),I.trans (J.mono (by omega))⟩;rw [af.o,<-V.o,uh F (by rw [Eg aa.o D];decide),Eg aa.o D,Cf (by decide)]
   have HB:=ag (zb0 aa.o D);clear D;go_wp2_with fail;go_roundw
   case rel=>exact ⟨k+1,by omega,by go_num,(zp F HB.o).symm.trans V.o,J⟩
   case measure=>simp [intOf];omega
  have aw:=ag (af.o.trans (by rw [<-V.o,zq F,zbv]));have d3:=(E.cell (p:=⟨w.heap.size,3,none⟩) (by simp)).trans c3;clear V af;have J:=E;clear E;go_wp2_with fail;go_loopw [48] (fun i wr=>∃k:Nat,k<=G.length/\i=.i k/\Hid (ik dw (G.drop k)=ik dw G)/\Below (w.heap.size+1) Z wr) (fun i _=>G.length - (intOf i).toNat)
  case atStart=>exact ⟨0,n0q _,rfl,rfl,J⟩
  case round=>
   obtain ⟨k,hk,rfl,V,E⟩:=hrel;have ai:w.heap.size+1<=wr.heap.size:=by have:=E.size;omega
   by_cases F:k<G.length
   ·have ap:Bl w wr:=I.trans (E.mono (by omega));obtain ⟨b,off,va,vh,rfl,au,e0,e1,e2,e3,e4,e5,e6,e7,e8,ea,eh,an,ah,ax⟩:=(HM.o.keptM (Kp.below (ap.mono hB))).atM k F;have L:=fun t=>E.alloc ai (.cells #[.string G[k].name,.bool G[k].static,va,.i G[k].ret.kind,.string G[k].ret.de,.i G[k].stack,.i G[k].locals,.string G[k].code,vh] t);have aj:=ag L;have EA:=ag ea;have EH:=ag eh;obtain ⟨ao,ca,rfl,_⟩:=ea;obtain ⟨ho,ch,rfl,_⟩:=eh;clear L;go_wp2_with fail;refine (zbx _ B G[k] _ _ (EA.o.keptK (Kp.below ((br _ _).alloc (by omega) _))) (EH.o.keptH (Kp.below ((br _ _).alloc (by omega) _))) (by simp;omega) an ah).mono ?_;rintro r w2 ⟨hr,N⟩;have J:=(aj.o _).trans (N.mono (by simp;omega));clear N aj e0 e1 e2 e3 e4 e5 e6 e7 e8;rcases hr with ⟨hc,rfl⟩ | ⟨hc,rfl⟩
    ·refine ⟨rfl,t8 ?_ hc,I.trans (J.mono (by omega))⟩;rw [aw.o,<-V.o,uh F hc]
    have HB:=ag hc;clear hc;go_wp2_with fail;go_roundw
    case rel=>exact ⟨k+1,by omega,by go_num,(zp F HB.o).symm.trans V.o,J⟩
    case measure=>simp [intOf];omega
   go_wp2_with fail;go_end0;exact ⟨zbr (by rw [aw.o,<-V.o,zq F]),I.trans (E.mono (by omega))⟩
theorem zb2 (w:World) (B:Nat) (l:List aq) (v:Value) (hv:SL 4 RC (· <B) w v l) (hB:B<=w.heap.size):
 Calls prog 197 #[v] w fun r w'=>pc (dy l) r/\Bl w w':=by
 have HV:=ag hv;obtain ⟨ao,cl,rfl,ad,Y,_⟩:=hv;unfold maxLen at Y;have E:Hid (dy l=oa (decide (l.length<=10)) 2 (ik ev l)):=rfl;generalize dy l=X at*;go_enter func197,ntmps197;by_cases Z:l.length<=10
 rotate_left
 ·have af:¬(l.length:Int)<=10:=by omega
  go_wp2_with fail;refine (od _ _ _).mono ?_;rintro r w1 ⟨rfl,⟨F,rfl⟩ | ⟨F,rfl⟩⟩
  ·exact ⟨rfl,t8 (by rw [E.o,decide_eq_false Z,qt]) (by decide),br _ _⟩
  exact absurd F (by first | (simp;done) | (simp;omega))
 have ah:(l.length:Int)<=10:=by omega
 have I:=ag (E.o.trans (by rw [decide_eq_true Z,oz]));clear Z E;go_wp2_with fail;refine (od _ _ _).mono ?_;rintro r w1 ⟨rfl,⟨F,rfl⟩ | ⟨F,rfl⟩⟩
 ·exact absurd F (by simp)
 clear F;go_wp2_with fail;go_loopw [10] (fun i wr=>∃k:Nat,k<=l.length/\i=.i k/\Hid (ik ev (l.drop k)=ik ev l)/\Bl w1 wr) (fun i _=>l.length - (intOf i).toNat)
 case atStart=>exact ⟨0,n0q _,rfl,rfl,br _ _⟩
 case round=>
  obtain ⟨k,hk,rfl,O,A⟩:=hrel;have aa:=A.size;by_cases D:k<l.length
  ·obtain ⟨b,off,vf,vm,rfl,ac,e0,e1,e2,e3,ef,em,V,W⟩:=(HV.o.keptC (Kp.below (A.mono hB))).atC k D;have J:=fun t=>A.alloc aa (.cells #[.string l[k].name,.string l[k].bv,vf,vm] t);have G:=ag J;have EF:=ag ef;have EM:=ag em;obtain ⟨fo,cf,rfl,_⟩:=ef;obtain ⟨mo,cm,rfl,_⟩:=em;clear J;go_wp2_with fail;refine (zb1 _ B l[k] _ _ (EF.o.keptF (Kp.below ((br _ _).alloc (by omega) _))) (EM.o.keptM (Kp.below ((br _ _).alloc (by omega) _))) (by simp;omega) V W).mono ?_;rintro r w2 ⟨hr,N⟩;have L:=(G.o _).trans (N.mono (by simp;omega));clear N G e0 e1 e2 e3;rcases hr with ⟨hc,rfl⟩ | ⟨hc,rfl⟩
   ·refine ⟨rfl,t8 ?_ hc,L⟩;rw [I.o,<-O.o,uh D hc]
   have HB:=ag hc;clear hc;go_wp2_with fail;go_roundw
   case rel=>exact ⟨k+1,by omega,by go_num,(zp D HB.o).symm.trans O.o,L⟩
   case measure=>simp [intOf];omega
  go_wp2_with fail;go_end0;exact ⟨zbr (by rw [I.o,<-O.o,zq D]),A⟩
theorem zb3 (f:Addr) (w:World):
 CallsD prog 103 #[.pointer (some f)] .returning w fun e E w'=>e=.returned (.tuple #[])/\E=.returning/\w'=w:=by
 refine callsD_of_wpS func103 rfl fun A F D=>?_;apply wpS_seq;apply wpS_region;simp [wpOpsS,go_sem,recoverD,D,ntmps103,Exit.thenS];have e:(#[Value.pointer (some f)]++((Array.replicate 16 undef).setIfInBounds 3 Value.nilIface).setIfInBounds 0 Value.nilIface)=#[.pointer (some f),.nilIface,undef,undef,.nilIface,undef,undef,undef,undef,undef,undef,undef,undef,undef,undef,undef,undef]:=rfl;rw [e];refine wpS_of_wp ?_;go_wp2
 refine ⟨rfl,.returning,?_,_,(results_none rfl _ _ _),rfl,rfl,rfl⟩;cases A
 simp_all
theorem Bg (x:Value) (w:World):(Instr.typeAssert (.iface 164 x) 20 164 true).run prog w=.ok (.tuple #[x,.bool true]) w:=by kernel_rfl
theorem E9 (x:Value) (w:World):(binOp BinOp.eql 20 (.iface 164 x) .nilIface).run prog w=.ok (.bool false) w:=by kernel_rfl
theorem zb4 (b:Nat) (x y:Value) (e p:Int) (w:World) (h0:w.cell? ⟨b,0,none⟩=some x) (h1:w.cell? ⟨b,1,none⟩=some y) (I:w.frozen? ⟨b,0,none⟩=false) (J:w.frozen? ⟨b,1,none⟩=false):
 CallsD prog 103 #[.p b] (.panicking [wrongV e p]) w fun r E w'=>r=.returned (.tuple #[])/\E=.panicking [{ wrongV e p with recovered:=true }]/\
  w'=((w.setCell ⟨b,0,none⟩ (.i e)).setCell ⟨b,1,none⟩ (.i p)).alloc (.cells #[.i e,.i p] 164):=by
 have L:b<w.heap.size:=World.block_lt_of_cell? w _ h0;have N:=Bg (.agg #[.i e,.i p]);have O:=E9 (.agg #[.i e,.i p]);refine callsD_of_wpS func103 rfl fun G F D=>?_;apply wpS_seq;apply wpS_region;simp [wpOpsS,go_sem,recoverD,D,ntmps103,Exit.thenS];generalize hv:Value.iface 164 (.agg #[.i e,.i p])=V;have A:(#[Value.p b]++((Array.replicate 16 undef).setIfInBounds 3 V).setIfInBounds 0 V)=#[.p b,V,undef,undef,V,undef,undef,undef,undef,undef,undef,undef,undef,undef,undef,undef,undef]:=rfl;rw [A];clear A;subst hv;refine wpS_of_wp ?_;clear D;go_wp2_with fail;exact ⟨rfl,_,rfl,_,results_none rfl _ _ _,rfl,rfl,rfl⟩
theorem zb5 (A:World) (N:Nat) (e p:Int) (o:Obj) {x y:Value} (E:A.cell? ⟨N,0,none⟩=some x) (F:A.cell? ⟨N,1,none⟩=some y):
 A.grownBy (((A.setCell ⟨N,0,none⟩ (.i e)).setCell ⟨N,1,none⟩ (.i p)).alloc o) (some N)/\
 (((A.setCell ⟨N,0,none⟩ (.i e)).setCell ⟨N,1,none⟩ (.i p)).alloc o).cell? ⟨N,0,none⟩=some (.i e)/\
 (((A.setCell ⟨N,0,none⟩ (.i e)).setCell ⟨N,1,none⟩ (.i p)).alloc o).cell? ⟨N,1,none⟩=some (.i p):=by
 have D:N<A.heap.size:=World.block_lt_of_cell? A _ E;refine ⟨?_,?_,?_⟩
 ·refine za9 ?_ _;refine ow ?_ _ _ (Or.inl rfl);refine ow ?_ _ _ (Or.inl rfl);exact World.grownBy.refl _ _
 ·rw [World.cell?_alloc_past _ _ _ (by simpa [World.setCell]using D),World.cell?_setCell_other _ _ _ _ (by simp),World.cell?_setCell_same _ _ _ E]
 rw [World.cell?_alloc_past _ _ _ (by simpa [World.setCell]using D)];exact World.cell?_setCell_same _ _ _ ((World.cell?_setCell_other _ _ _ _ (by simp)).trans F)
theorem zb6 (g:Nat) (cap:Array Value) (w:World) (N:World->Prop) (L:Int->Int->World->Prop) (V:∀w,(callFunc g cap).run prog w=.ok (.enter g cap) w)
 (hc:Calls prog g cap (w.alloc (.cells #[.i 0,.i 0] 84)) fun r A=>A.heap[w.heap.size]? =some (.cells #[.i 0,.i 0] 84 (0,0))/\
  ((r=.returned (.tuple #[])/\N A)\/∃e p,r=.panicked [wrongV e p]/\L e p A)):
 Calls prog 51 #[.func (.func g) #[] cap] w fun r w'=>∃A,A.grownBy w' (some w.heap.size)/\
  ((r=.returned (.agg #[.i 0,.i 0])/\N A)\/∃e p,r=.returned (.agg #[.i e,.i p])/\L e p A):=by
 have X:=qj prog;have O:Hid _:=hc;clear hc
 go_enter_defers func51,ntmps51
 go_wp2_with fail;refine Calls.mono O.o ?_;rintro r A ⟨D,Y⟩;have G:A.cell? ⟨w.heap.size,0,none⟩=some (.i 0):=by simp [World.cell?,D]
 have I:A.cell? ⟨w.heap.size,1,none⟩=some (.i 0):=by simp [World.cell?,D]
 have z0:A.frozen? ⟨w.heap.size,0,none⟩=false:=by simp [World.frozen?,D]
 have z1:A.frozen? ⟨w.heap.size,1,none⟩=false:=by simp [World.frozen?,D]
 clear D;rcases Y with ⟨rfl,F⟩ | ⟨e,p,rfl,E⟩
 ·go_wp2_with fail;refine leaves_cons (f:=103) (args:=#[.p w.heap.size]) (by simp) (by simp [go_sem]) ?_;refine (zb3 ⟨w.heap.size,0,none⟩ _).mono ?_;rintro r2 u' J ⟨rfl,rfl,rfl⟩;show Leaves prog f51 _ _ [] FrameMode.returning _;refine ⟨.agg #[.i 0,.i 0],?_,A,?_,Or.inl ⟨rfl,F⟩⟩
  ·simp [results,results51,go_sem,G,I]
  exact ow (ow (World.grownBy.refl _ _) _ _ (Or.inl rfl)) _ _ (Or.inl rfl)
 refine leaves_cons (f:=103) (args:=#[.p w.heap.size]) (by simp) (by simp [go_sem]) ?_;refine (zb4 w.heap.size _ _ e p _ G I z0 z1).mono ?_;rintro r2 u' J ⟨rfl,rfl,rfl⟩;obtain ⟨W,Z,q1⟩:=zb5 A w.heap.size e p _ G I;show Leaves prog f51 _ _ [] FrameMode.returning _;generalize ((A.setCell ⟨w.heap.size,0,none⟩ (.i e)).setCell ⟨w.heap.size,1,none⟩ (.i p)).alloc (.cells #[.i e,.i p] 164)=W2 at*;refine ⟨.agg #[.i e,.i p],?_,A,W,Or.inr ⟨e,p,rfl,E⟩⟩;simp [results,results51,go_sem,Z,q1]
theorem qh (a b:Int) (w:World):(Instr.field 84 (.agg #[.i a,.i b]) 0).run prog w=.ok (.i a) w:=by kernel_rfl
theorem zh (args:Array Value) (w:World):(callFunc 196 args).run prog w=.ok (.enter 196 args) w:=by kernel_rfl
theorem zb7 (w:World) (B:Nat) (P:Nat) (l:List aq) (v:Value) (D:SL 4 RC (· <B) w v l) (F:B<=w.heap.size) (J:w.cell? ⟨P,0,none⟩=some v):
 Calls prog 196 #[.p P] w fun r w'=>pc (dy l) r/\Bl w w':=by
 have E:=ag D;obtain ⟨G,I,rfl,-⟩:=D;go_enter func196,ntmps196;go_wp2_with fail;refine (zb2 _ B l _ E.o F).mono ?_;rintro r L ⟨⟨hc,rfl⟩ | ⟨hc,rfl⟩,A⟩
 ·exact ⟨rfl,Or.inl ⟨hc,rfl⟩,A⟩
 go_wp2
 go_end0;exact ⟨Or.inr ⟨hc,rfl⟩,A⟩
theorem zb8 (w:World) (B:Nat) (l:List aq) (v:Value) (hv:SL 4 RC (· <B) w v l) (A:B<=w.heap.size):
 Calls prog 157 #[v] w fun r w'=>r=.returned (.i (dy l))/\Bl w w':=by
 have J:=qj prog;have HV:=ag hv;obtain ⟨N,O,rfl,-⟩:=hv;have D:=(br w.heap.size w).alloc (nlq _) (.cells #[.slice N l.length O] 31);have E:=D.alloc D.size (.cells #[.i 0,.i 0] 84);go_enter func157,ntmps157;go_wp2_with fail;refine (zb6 196 _ _ (fun L=>dy l=0/\Bl w L) (fun e p L=>dy l=e/\Bl w L) (zh _) ?hc).mono ?_
 case hc=>
  refine (zb7 _ B w.heap.size l (.slice N l.length O) (HV.o.keptC (Kp.below (E.mono A))) (by simp;omega) (by simp [go_sem])).mono ?_;rintro r L ⟨Y,Z⟩;have G:=E.trans (Z.mono (by simp;omega));refine ⟨?_,?_⟩
  ·rw [Z.block (w.alloc (.cells #[.slice N l.length O] 31)).heap.size (by simp)];show ((w.heap.push _).push _)[(w.heap.push _).size]? =_;rw [Array.getElem?_push,if_pos rfl]
  rcases Y with ⟨hc,rfl⟩ | ⟨hc,rfl⟩
  ·exact Or.inr ⟨_,_,rfl,rfl,G⟩
  exact Or.inl ⟨rfl,hc,G⟩
 rintro r w2 ⟨L,I,Y⟩;have hz:(w.alloc (.cells #[.slice N l.length O] 31)).heap.size=w.heap.size+1:=by simp
 rw [hz]at I;clear D E hz;rcases Y with ⟨rfl,hc,F⟩ | ⟨e,p,rfl,hc,F⟩
 ·have W:=ag hc;have V:=ag (rn F I (by omega));clear hc I F J A;have X:=qh;go_wp2
  go_ret;exact ⟨by rw [W.o];rfl,V.o⟩
 have W:=ag hc;have V:=ag (rn F I (by omega));clear hc I F J A;have X:=qh;go_wp2
 go_ret;exact ⟨by rw [W.o];rfl,V.o⟩
end Go.Proofs.YtjdnmblggdobgaaGreat
