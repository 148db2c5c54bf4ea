import Derived.Test.YtjdnmblggdobgaaGreatJMemChkMeth
import Derived.Test.YtjdnmblggdobgaaGreatJTk2Dies
set_option maxHeartbeats 4000000
namespace Go.Proofs.YtjdnmblggdobgaaGreat
open Go.RowKit
theorem zby {f:bo} (h:db f.name=false):fb f=1:=by rw [fb,h,oq]
theorem zbz {f:bo} (h:db f.name=true) (u:io f.kind=false):fb f=7:=by rw [fb,h,mt,u,oq]
theorem zb0 {f:bo} (h:db f.name=true) (u:io f.kind=true):fb f=0:=by rw [fb,h,mt,u,mt]
theorem zb1 (w:World) (B:Nat) (c:am) (vf vm:Value) (hf:SL 3 RF (· <B) w vf c.fields) (hm:SL 9 RM (· <B) w vm c.ar) (hB:B<=w.heap.size) (ay:c.name.size<=maxLen) (az:c.bq.size<=maxLen):
 Calls Tryz.prog 232 #[.agg #[.string c.name,.string c.bq,vf,vm]] w fun r w'=>my (dy c) r/\Below w.heap.size w w':=by
 obtain ⟨W,bq,u,F⟩:=c
 dsimp only at*
 have HF:=ag hf;have HM:=ag hm;obtain ⟨fo,cf,rfl,a0,av,_⟩:=hf;obtain ⟨mo,cm,rfl,a1,aw,_⟩:=hm;unfold maxLen at av aw;have e0:=size0 bq;have aj:Hid (dy ⟨W,bq,u,F⟩=mg (db W) 1 (mg (decide (bq.size=0)||db bq) 1 (mg (decide (u.length<=6)) 2 (mg (decide (F.length<=8)) 2 (ng (gr fb u) (gr dr F)))))):=rfl;generalize dy ⟨W,bq,u,F⟩=X at*;go_enter Tryz.func232,Tryz.ntmps232;go_wp2_with fail;generalize hW:w.alloc (.cells #[.string W,.string bq,.slice fo u.length cf,.slice mo F.length cm] 162)=W0;have hz:W0.heap.size=w.heap.size+1:=by rw [<-hW];simp
 have G:Below w.heap.size w W0:=by rw [<-hW];exact (br w.heap.size w).alloc (nlq _) _
 have c0:W0.cell? ⟨w.heap.size,0,none⟩=some (.string W):=by rw [<-hW];simp [go_sem]
 have c1:W0.cell? ⟨w.heap.size,1,none⟩=some (.string bq):=by rw [<-hW];simp [go_sem]
 have c2:W0.cell? ⟨w.heap.size,2,none⟩=some (.slice fo u.length cf):=by rw [<-hW];simp [go_sem]
 have c3:W0.cell? ⟨w.heap.size,3,none⟩=some (.slice mo F.length cm):=by rw [<-hW];simp [go_sem]
 clear hW;refine (zbl _ _ ay).mono ?_;rintro r Y ⟨rfl,rfl⟩;go_wp2_with fail;refine (mh _ _ _).mono ?_;rintro r Y ⟨rfl,⟨A,rfl⟩ | ⟨A,rfl⟩⟩
 ·exact ⟨rfl,zbq (by rw [aj.o,A,oq]) (by decide),G⟩
 have ai:=ag (aj.o.trans (by rw [A,mt]));clear A aj;by_cases N:bq.size=0
 ·have aa:=ag (ai.o.trans (by rw [decide_eq_true N,Bool.true_or,mt]));have e1:bq.toList.isEmpty=true:=by rw [e0,decide_eq_true N]
  clear ai N e0;go_wp2_with fail;refine (mh _ _ _).mono ?_;rintro r Y ⟨rfl,⟨A,rfl⟩ | ⟨A,rfl⟩⟩
  ·cases A
  clear A;by_cases N:u.length<=6
  rotate_left
  ·have ap:¬(u.length:Int)<=6:=by omega
   go_wp2_with fail;refine (mh _ _ _).mono ?_;rintro r Y ⟨rfl,⟨A,rfl⟩ | ⟨A,rfl⟩⟩
   ·exact ⟨rfl,zbq (by rw [aa.o,decide_eq_false N,oq]) (by decide),G⟩
   exact absurd A (by first | (simp;done) | (simp;omega))
  have a2:(u.length:Int)<=6:=by omega
  have ac:=ag (aa.o.trans (by rw [decide_eq_true N,mt]));clear N aa;go_wp2_with fail;refine (mh _ _ _).mono ?_;rintro r Y ⟨rfl,⟨A,rfl⟩ | ⟨A,rfl⟩⟩
  ·exact absurd A (by simp)
  clear A;by_cases N:F.length<=8
  rotate_left
  ·have ap:¬(F.length:Int)<=8:=by omega
   go_wp2_with fail;refine (mh _ _ _).mono ?_;rintro r Y ⟨rfl,⟨A,rfl⟩ | ⟨A,rfl⟩⟩
   ·exact ⟨rfl,zbq (by rw [ac.o,decide_eq_false N,oq]) (by decide),G⟩
   exact absurd A (by first | (simp;done) | (simp;omega))
  have ax:(F.length:Int)<=8:=by omega
  have V:=ag (ac.o.trans (by rw [decide_eq_true N,mt]));clear N ac;go_wp2_with fail;refine (mh _ _ _).mono ?_;rintro r Y ⟨rfl,⟨A,rfl⟩ | ⟨A,rfl⟩⟩
  ·exact absurd A (by simp)
  clear A;go_wp2_with fail;go_loopw [32] (fun i wr=>∃k:Nat,k<=u.length/\i=.int .i64 k/\Hid (gr fb (u.drop k)=gr fb u)/\Below (w.heap.size+1) Y wr) (fun i _=>u.length - (intOf i).toNat)
  case atStart=>exact ⟨0,n0q _,rfl,rfl,br _ _⟩
  case round=>
   obtain ⟨k,hk,rfl,O,D⟩:=hrel;have af:w.heap.size+1<=wr.heap.size:=by have:=D.size;omega
   by_cases E:k<u.length
   ·obtain ⟨b,off,rfl,an,e0,e1,e2,es,ae⟩:=(HF.o.keptF (Kp.below ((G.trans (D.mono (by omega))).mono hB))).atF k E;have J:=D.alloc af (.cells #[.string u[k].name,.int .i64 u[k].kind.kind,.string u[k].kind.da] 125);go_wp2_with fail;refine (zbl _ u[k].name es).mono ?_;rintro r w2 ⟨rfl,rfl⟩;go_wp2_with fail;refine (mh _ _ _).mono ?_;rintro r w3 ⟨rfl,⟨A,rfl⟩ | ⟨A,rfl⟩⟩
    ·refine ⟨rfl,zbq (e:=1) ?_ (by decide),G.trans (J.mono (by omega))⟩;rw [V.o,<-O.o,zar E (by rw [zby A];decide),zby A,zbw (by decide)]
    have Z:=ag A;clear A;go_wp2_with fail;refine (zbo _ u[k].kind ae).mono ?_;rintro r w2 ⟨rfl,L⟩;have I:=J.trans (L.mono (by simp;omega));clear L J e0 e1 e2;go_wp2_with fail;refine (mh _ _ _).mono ?_;rintro r w3 ⟨rfl,⟨A,rfl⟩ | ⟨A,rfl⟩⟩
    ·refine ⟨rfl,zbq (e:=7) ?_ (by decide),G.trans (I.mono (by omega))⟩;rw [V.o,<-O.o,zar E (by rw [zbz Z.o A];decide),zbz Z.o A,zbw (by decide)]
    have HB:=ag (zb0 Z.o A);clear A;go_wp2_with fail;go_roundw
    case rel=>exact ⟨k+1,by omega,by go_num,(zas E HB.o).symm.trans O.o,I⟩
    case measure=>simp [intOf];omega
   have ad:=ag (V.o.trans (by rw [<-O.o,zat E,zbv]));have d3:=(D.cell (p:=⟨w.heap.size,3,none⟩) (by simp)).trans c3;clear O V;have I:=D;clear D;go_wp2_with fail;go_loopw [48] (fun i wr=>∃k:Nat,k<=F.length/\i=.int .i64 k/\Hid (gr dr (F.drop k)=gr dr F)/\Below (w.heap.size+1) Y wr) (fun i _=>F.length - (intOf i).toNat)
   case atStart=>exact ⟨0,n0q _,rfl,rfl,I⟩
   case round=>
    obtain ⟨k,hk,rfl,O,D⟩:=hrel;have af:w.heap.size+1<=wr.heap.size:=by have:=D.size;omega
    by_cases E:k<F.length
    ·have al:Below w.heap.size w wr:=G.trans (D.mono (by omega));obtain ⟨b,off,va,vh,rfl,an,e0,e1,e2,e3,e4,e5,e6,e7,e8,ea,eh,ak,ae,au⟩:=(HM.o.keptM (Kp.below (al.mono hB))).atM k E;have J:=fun t=>D.alloc af (.cells #[.string F[k].name,.bool F[k].static,va,.int .i64 F[k].ret.kind,.string F[k].ret.da,.int .i64 F[k].stack,.int .i64 F[k].locals,.string F[k].code,vh] t);have ah:=ag J;have EA:=ag ea;have EH:=ag eh;obtain ⟨ao,ca,rfl,_⟩:=ea;obtain ⟨ho,ch,rfl,_⟩:=eh;clear J;go_wp2_with fail;refine (zbx _ B F[k] _ _ (EA.o.keptK (Kp.below ((br _ _).alloc (by omega) _))) (EH.o.keptH (Kp.below ((br _ _).alloc (by omega) _))) (by simp;omega) ak ae).mono ?_;rintro r w2 ⟨hr,L⟩;have I:=(ah.o _).trans (L.mono (by simp;omega));clear L ah e0 e1 e2 e3 e4 e5 e6 e7 e8;rcases hr with ⟨hc,rfl⟩ | ⟨hc,rfl⟩
     ·refine ⟨rfl,zbq ?_ hc,G.trans (I.mono (by omega))⟩;rw [ad.o,<-O.o,zar E hc]
     have HB:=ag hc;clear hc;go_wp2_with fail;go_roundw
     case rel=>exact ⟨k+1,by omega,by go_num,(zas E HB.o).symm.trans O.o,I⟩
     case measure=>simp [intOf];omega
    go_wp2_with fail;go_end0;exact ⟨zbr (by rw [ad.o,<-O.o,zat E]),G.trans (D.mono (by omega))⟩
 have aa:=ag (ai.o.trans (by rw [decide_eq_false N,Bool.false_or]));have e1:bq.toList.isEmpty=false:=by rw [e0,decide_eq_false N]
 clear ai N e0;go_wp2_with fail;refine (zbl _ _ az).mono ?_;rintro r Y ⟨rfl,rfl⟩;go_wp2_with fail;refine (mh _ _ _).mono ?_;rintro r Y ⟨rfl,⟨A,rfl⟩ | ⟨A,rfl⟩⟩
 ·exact ⟨rfl,zbq (by rw [aa.o,A,oq]) (by decide),G⟩
 have ac:=ag (aa.o.trans (by rw [A,mt]));clear A aa;by_cases N:u.length<=6
 rotate_left
 ·have ap:¬(u.length:Int)<=6:=by omega
  go_wp2_with fail;refine (mh _ _ _).mono ?_;rintro r Y ⟨rfl,⟨A,rfl⟩ | ⟨A,rfl⟩⟩
  ·exact ⟨rfl,zbq (by rw [ac.o,decide_eq_false N,oq]) (by decide),G⟩
  exact absurd A (by first | (simp;done) | (simp;omega))
 have ax:(u.length:Int)<=6:=by omega
 have V:=ag (ac.o.trans (by rw [decide_eq_true N,mt]));clear N ac;go_wp2_with fail;refine (mh _ _ _).mono ?_;rintro r Y ⟨rfl,⟨A,rfl⟩ | ⟨A,rfl⟩⟩
 ·exact absurd A (by simp)
 clear A;by_cases N:F.length<=8
 rotate_left
 ·have ap:¬(F.length:Int)<=8:=by omega
  go_wp2_with fail;refine (mh _ _ _).mono ?_;rintro r Y ⟨rfl,⟨A,rfl⟩ | ⟨A,rfl⟩⟩
  ·exact ⟨rfl,zbq (by rw [V.o,decide_eq_false N,oq]) (by decide),G⟩
  exact absurd A (by first | (simp;done) | (simp;omega))
 have a3:(F.length:Int)<=8:=by omega
 have ad:=ag (V.o.trans (by rw [decide_eq_true N,mt]));clear N V;go_wp2_with fail;refine (mh _ _ _).mono ?_;rintro r Y ⟨rfl,⟨A,rfl⟩ | ⟨A,rfl⟩⟩
 ·exact absurd A (by simp)
 clear A;go_wp2_with fail;go_loopw [32] (fun i wr=>∃k:Nat,k<=u.length/\i=.int .i64 k/\Hid (gr fb (u.drop k)=gr fb u)/\Below (w.heap.size+1) Y wr) (fun i _=>u.length - (intOf i).toNat)
 case atStart=>exact ⟨0,n0q _,rfl,rfl,br _ _⟩
 case round=>
  obtain ⟨k,hk,rfl,O,D⟩:=hrel;have af:w.heap.size+1<=wr.heap.size:=by have:=D.size;omega
  by_cases E:k<u.length
  ·obtain ⟨b,off,rfl,an,e0,e1,e2,es,ae⟩:=(HF.o.keptF (Kp.below ((G.trans (D.mono (by omega))).mono hB))).atF k E;have J:=D.alloc af (.cells #[.string u[k].name,.int .i64 u[k].kind.kind,.string u[k].kind.da] 125);go_wp2_with fail;refine (zbl _ u[k].name es).mono ?_;rintro r w2 ⟨rfl,rfl⟩;go_wp2_with fail;refine (mh _ _ _).mono ?_;rintro r w3 ⟨rfl,⟨A,rfl⟩ | ⟨A,rfl⟩⟩
   ·refine ⟨rfl,zbq (e:=1) ?_ (by decide),G.trans (J.mono (by omega))⟩;rw [ad.o,<-O.o,zar E (by rw [zby A];decide),zby A,zbw (by decide)]
   have Z:=ag A;clear A;go_wp2_with fail;refine (zbo _ u[k].kind ae).mono ?_;rintro r w2 ⟨rfl,L⟩;have I:=J.trans (L.mono (by simp;omega));clear L J e0 e1 e2;go_wp2_with fail;refine (mh _ _ _).mono ?_;rintro r w3 ⟨rfl,⟨A,rfl⟩ | ⟨A,rfl⟩⟩
   ·refine ⟨rfl,zbq (e:=7) ?_ (by decide),G.trans (I.mono (by omega))⟩;rw [ad.o,<-O.o,zar E (by rw [zbz Z.o A];decide),zbz Z.o A,zbw (by decide)]
   have HB:=ag (zb0 Z.o A);clear A;go_wp2_with fail;go_roundw
   case rel=>exact ⟨k+1,by omega,by go_num,(zas E HB.o).symm.trans O.o,I⟩
   case measure=>simp [intOf];omega
  have aq:=ag (ad.o.trans (by rw [<-O.o,zat E,zbv]));have d3:=(D.cell (p:=⟨w.heap.size,3,none⟩) (by simp)).trans c3;clear O ad;have I:=D;clear D;go_wp2_with fail;go_loopw [48] (fun i wr=>∃k:Nat,k<=F.length/\i=.int .i64 k/\Hid (gr dr (F.drop k)=gr dr F)/\Below (w.heap.size+1) Y wr) (fun i _=>F.length - (intOf i).toNat)
  case atStart=>exact ⟨0,n0q _,rfl,rfl,I⟩
  case round=>
   obtain ⟨k,hk,rfl,O,D⟩:=hrel;have af:w.heap.size+1<=wr.heap.size:=by have:=D.size;omega
   by_cases E:k<F.length
   ·have al:Below w.heap.size w wr:=G.trans (D.mono (by omega));obtain ⟨b,off,va,vh,rfl,an,e0,e1,e2,e3,e4,e5,e6,e7,e8,ea,eh,ak,ae,au⟩:=(HM.o.keptM (Kp.below (al.mono hB))).atM k E;have J:=fun t=>D.alloc af (.cells #[.string F[k].name,.bool F[k].static,va,.int .i64 F[k].ret.kind,.string F[k].ret.da,.int .i64 F[k].stack,.int .i64 F[k].locals,.string F[k].code,vh] t);have ah:=ag J;have EA:=ag ea;have EH:=ag eh;obtain ⟨ao,ca,rfl,_⟩:=ea;obtain ⟨ho,ch,rfl,_⟩:=eh;clear J;go_wp2_with fail;refine (zbx _ B F[k] _ _ (EA.o.keptK (Kp.below ((br _ _).alloc (by omega) _))) (EH.o.keptH (Kp.below ((br _ _).alloc (by omega) _))) (by simp;omega) ak ae).mono ?_;rintro r w2 ⟨hr,L⟩;have I:=(ah.o _).trans (L.mono (by simp;omega));clear L ah e0 e1 e2 e3 e4 e5 e6 e7 e8;rcases hr with ⟨hc,rfl⟩ | ⟨hc,rfl⟩
    ·refine ⟨rfl,zbq ?_ hc,G.trans (I.mono (by omega))⟩;rw [aq.o,<-O.o,zar E hc]
    have HB:=ag hc;clear hc;go_wp2_with fail;go_roundw
    case rel=>exact ⟨k+1,by omega,by go_num,(zas E HB.o).symm.trans O.o,I⟩
    case measure=>simp [intOf];omega
   go_wp2_with fail;go_end0;exact ⟨zbr (by rw [aq.o,<-O.o,zat E]),G.trans (D.mono (by omega))⟩
theorem zb2 (w:World) (B:Nat) (l:List am) (v:Value) (hv:SL 4 RC (· <B) w v l) (hB:B<=w.heap.size):
 Calls Tryz.prog 197 #[v] w fun r w'=>my (dt l) r/\Below w.heap.size w w':=by
 have HV:=ag hv;obtain ⟨ao,cl,rfl,ac,W,_⟩:=hv;unfold maxLen at W;have D:Hid (dt l=mg (decide (l.length<=10)) 2 (gr dy l)):=rfl;generalize dt l=X at*;go_enter Tryz.func197,Tryz.ntmps197;by_cases Y:l.length<=10
 rotate_left
 ·have ad:¬(l.length:Int)<=10:=by omega
  go_wp2_with fail;refine (mh _ _ _).mono ?_;rintro r w1 ⟨rfl,⟨E,rfl⟩ | ⟨E,rfl⟩⟩
  ·exact ⟨rfl,zbq (by rw [D.o,decide_eq_false Y,oq]) (by decide),br _ _⟩
  exact absurd E (by first | (simp;done) | (simp;omega))
 have ae:(l.length:Int)<=10:=by omega
 have G:=ag (D.o.trans (by rw [decide_eq_true Y,mt]));clear Y D;go_wp2_with fail;refine (mh _ _ _).mono ?_;rintro r w1 ⟨rfl,⟨E,rfl⟩ | ⟨E,rfl⟩⟩
 ·exact absurd E (by simp)
 clear E;go_wp2_with fail;go_loopw [10] (fun i wr=>∃k:Nat,k<=l.length/\i=.int .i64 k/\Hid (gr dy (l.drop k)=gr dy l)/\Below w1.heap.size w1 wr) (fun i _=>l.length - (intOf i).toNat)
 case atStart=>exact ⟨0,n0q _,rfl,rfl,br _ _⟩
 case round=>
  obtain ⟨k,hk,rfl,N,u⟩:=hrel;have Z:=u.size;by_cases A:k<l.length
  ·obtain ⟨b,off,vf,vm,rfl,aa,e0,e1,e2,e3,ef,em,O,V⟩:=(HV.o.keptC (Kp.below (u.mono hB))).atC k A;have I:=fun t=>u.alloc Z (.cells #[.string l[k].name,.string l[k].bq,vf,vm] t);have F:=ag I;have EF:=ag ef;have EM:=ag em;obtain ⟨fo,cf,rfl,_⟩:=ef;obtain ⟨mo,cm,rfl,_⟩:=em;clear I;go_wp2_with fail;refine (zb1 _ B l[k] _ _ (EF.o.keptF (Kp.below ((br _ _).alloc (by omega) _))) (EM.o.keptM (Kp.below ((br _ _).alloc (by omega) _))) (by simp;omega) O V).mono ?_;rintro r w2 ⟨hr,L⟩;have J:=(F.o _).trans (L.mono (by simp;omega));clear L F e0 e1 e2 e3;rcases hr with ⟨hc,rfl⟩ | ⟨hc,rfl⟩
   ·refine ⟨rfl,zbq ?_ hc,J⟩;rw [G.o,<-N.o,zar A hc]
   have HB:=ag hc;clear hc;go_wp2_with fail;go_roundw
   case rel=>exact ⟨k+1,by omega,by go_num,(zas A HB.o).symm.trans N.o,J⟩
   case measure=>simp [intOf];omega
  go_wp2_with fail;go_end0;exact ⟨zbr (by rw [G.o,<-N.o,zat A]),u⟩
theorem zb3 (f:Addr) (w:World):
 CallsD Tryz.prog 103 #[.pointer (some f)] .returning w fun e D w'=>e=.returned (.tuple #[])/\D=.returning/\w'=w:=by
 refine callsD_of_wpS Tryz.func103 rfl fun u E A=>?_;apply wpS_seq;apply wpS_region;simp [wpOpsS,go_sem,recoverD,A,Tryz.ntmps103,Exit.thenS];have e:(#[Value.pointer (some f)]++((Array.replicate 16 undef).setIfInBounds 3 Value.nilIface).setIfInBounds 0 Value.nilIface)=#[.pointer (some f),.nilIface,undef,undef,.nilIface,undef,undef,undef,undef,undef,undef,undef,undef,undef,undef,undef,undef]:=rfl;rw [e];refine wpS_of_wp ?_;go_wp2
 refine ⟨rfl,.returning,?_,_,(results_none rfl _ _ _),rfl,rfl,rfl⟩;cases u
 simp_all
theorem assert57 (x:Value) (w:World):(Instr.typeAssert (.iface 164 x) 20 164 true).run Tryz.prog w=.ok (.tuple #[x,.bool true]) w:=by kernel_rfl
theorem eqlNil (x:Value) (w:World):(binOp BinOp.eql 20 (.iface 164 x) .nilIface).run Tryz.prog w=.ok (.bool false) w:=by kernel_rfl
theorem zb4 (b:Nat) (x y:Value) (e p:Int) (w:World) (h0:w.cell? ⟨b,0,none⟩=some x) (h1:w.cell? ⟨b,1,none⟩=some y) (G:w.frozen? ⟨b,0,none⟩=false) (I:w.frozen? ⟨b,1,none⟩=false):
 CallsD Tryz.prog 103 #[.pointer (some ⟨b,0,none⟩)] (.panicking [wrongV e p]) w fun r D w'=>r=.returned (.tuple #[])/\D=.panicking [{ wrongV e p with recovered:=true }]/\
  w'=((w.setCell ⟨b,0,none⟩ (.int .i64 e)).setCell ⟨b,1,none⟩ (.int .i64 p)).alloc (.cells #[.int .i64 e,.int .i64 p] 164):=by
 have J:b<w.heap.size:=World.block_lt_of_cell? w _ h0;have L:=assert57 (.agg #[.int .i64 e,.int .i64 p]);have N:=eqlNil (.agg #[.int .i64 e,.int .i64 p]);refine callsD_of_wpS Tryz.func103 rfl fun F E A=>?_;apply wpS_seq;apply wpS_region;simp [wpOpsS,go_sem,recoverD,A,Tryz.ntmps103,Exit.thenS];generalize hv:Value.iface 164 (.agg #[.int .i64 e,.int .i64 p])=V;have u:(#[Value.pointer (some ⟨b,0,none⟩)]++((Array.replicate 16 undef).setIfInBounds 3 V).setIfInBounds 0 V)=#[.pointer (some ⟨b,0,none⟩),V,undef,undef,V,undef,undef,undef,undef,undef,undef,undef,undef,undef,undef,undef,undef]:=rfl;rw [u];clear u;subst hv;refine wpS_of_wp ?_;clear A;go_wp2_with fail;exact ⟨rfl,_,rfl,_,results_none rfl _ _ _,rfl,rfl,rfl⟩
theorem zb5 (u:World) (N:Nat) (e p:Int) (o:Obj) {x y:Value} (D:u.cell? ⟨N,0,none⟩=some x) (E:u.cell? ⟨N,1,none⟩=some y):
 u.grownBy (((u.setCell ⟨N,0,none⟩ (.int .i64 e)).setCell ⟨N,1,none⟩ (.int .i64 p)).alloc o) (some N)/\
 (((u.setCell ⟨N,0,none⟩ (.int .i64 e)).setCell ⟨N,1,none⟩ (.int .i64 p)).alloc o).cell? ⟨N,0,none⟩=some (.int .i64 e)/\
 (((u.setCell ⟨N,0,none⟩ (.int .i64 e)).setCell ⟨N,1,none⟩ (.int .i64 p)).alloc o).cell? ⟨N,1,none⟩=some (.int .i64 p):=by
 have A:N<u.heap.size:=World.block_lt_of_cell? u _ D;refine ⟨?_,?_,?_⟩
 ·refine za9 ?_ _;refine nh ?_ _ _ (Or.inl rfl);refine nh ?_ _ _ (Or.inl rfl);exact World.grownBy.refl _ _
 ·rw [World.cell?_alloc_past _ _ _ (by simpa [World.setCell]using A),World.cell?_setCell_other _ _ _ _ (by simp),World.cell?_setCell_same _ _ _ D]
 rw [World.cell?_alloc_past _ _ _ (by simpa [World.setCell]using A)];exact World.cell?_setCell_same _ _ _ ((World.cell?_setCell_other _ _ _ _ (by simp)).trans E)
theorem zb6 (g:Nat) (cap:Array Value) (w:World) (L:World->Prop) (J:Int->Int->World->Prop) (O:∀w,(callFunc g cap).run Tryz.prog w=.ok (.enter g cap) w)
 (hc:Calls Tryz.prog g cap (w.alloc (.cells #[.int .i64 0,.int .i64 0] 84)) fun r u=>u.heap[w.heap.size]? =some (.cells #[.int .i64 0,.int .i64 0] 84 (0,0))/\
  ((r=.returned (.tuple #[])/\L u)\/∃e p,r=.panicked [wrongV e p]/\J e p u)):
 Calls Tryz.prog 51 #[.func (.func g) #[] cap] w fun r w'=>∃u,u.grownBy w' (some w.heap.size)/\
  ((r=.returned (.agg #[.int .i64 0,.int .i64 0])/\L u)\/∃e p,r=.returned (.agg #[.int .i64 e,.int .i64 p])/\J e p u):=by
 have W:=np Tryz.prog;have N:Hid _:=hc;clear hc
 go_enter_defers Tryz.func51,Tryz.ntmps51
 go_wp2_with fail;refine Calls.mono N.o ?_;rintro r u ⟨A,X⟩;have F:u.cell? ⟨w.heap.size,0,none⟩=some (.int .i64 0):=by simp [World.cell?,A]
 have G:u.cell? ⟨w.heap.size,1,none⟩=some (.int .i64 0):=by simp [World.cell?,A]
 have z0:u.frozen? ⟨w.heap.size,0,none⟩=false:=by simp [World.frozen?,A]
 have z1:u.frozen? ⟨w.heap.size,1,none⟩=false:=by simp [World.frozen?,A]
 clear A;rcases X with ⟨rfl,E⟩ | ⟨e,p,rfl,D⟩
 ·go_wp2_with fail;refine leaves_cons (f:=103) (args:=#[.pointer (some ⟨w.heap.size,0,none⟩)]) (by simp) (by simp [go_sem]) ?_;refine (zb3 ⟨w.heap.size,0,none⟩ _).mono ?_;rintro Z u' I ⟨rfl,rfl,rfl⟩;show Leaves Tryz.prog Tryz.f51 _ _ [] FrameMode.returning _;refine ⟨.agg #[.int .i64 0,.int .i64 0],?_,u,?_,Or.inl ⟨rfl,E⟩⟩
  ·simp [results,Tryz.results51,go_sem,F,G]
  exact nh (nh (World.grownBy.refl _ _) _ _ (Or.inl rfl)) _ _ (Or.inl rfl)
 refine leaves_cons (f:=103) (args:=#[.pointer (some ⟨w.heap.size,0,none⟩)]) (by simp) (by simp [go_sem]) ?_;refine (zb4 w.heap.size _ _ e p _ F G z0 z1).mono ?_;rintro Z u' I ⟨rfl,rfl,rfl⟩;obtain ⟨V,Y,q1⟩:=zb5 u w.heap.size e p _ F G;show Leaves Tryz.prog Tryz.f51 _ _ [] FrameMode.returning _;generalize ((u.setCell ⟨w.heap.size,0,none⟩ (.int .i64 e)).setCell ⟨w.heap.size,1,none⟩ (.int .i64 p)).alloc (.cells #[.int .i64 e,.int .i64 p] 164)=W2 at*;refine ⟨.agg #[.int .i64 e,.int .i64 p],?_,u,V,Or.inr ⟨e,p,rfl,D⟩⟩;simp [results,Tryz.results51,go_sem,Y,q1]
theorem ny (a b:Int) (w:World):(Instr.field 84 (.agg #[.int .i64 a,.int .i64 b]) 0).run Tryz.prog w=.ok (.int .i64 a) w:=by kernel_rfl
theorem callCheck1 (args:Array Value) (w:World):(callFunc 196 args).run Tryz.prog w=.ok (.enter 196 args) w:=by kernel_rfl
theorem zb7 (w:World) (B:Nat) (P:Nat) (l:List am) (v:Value) (A:SL 4 RC (· <B) w v l) (E:B<=w.heap.size) (I:w.cell? ⟨P,0,none⟩=some v):
 Calls Tryz.prog 196 #[.pointer (some ⟨P,0,none⟩)] w fun r w'=>my (dt l) r/\Below w.heap.size w w':=by
 have D:=ag A;obtain ⟨F,G,rfl,-⟩:=A;go_enter Tryz.func196,Tryz.ntmps196;go_wp2_with fail;refine (zb2 _ B l _ D.o E).mono ?_;rintro r J ⟨⟨hc,rfl⟩ | ⟨hc,rfl⟩,u⟩
 ·exact ⟨rfl,Or.inl ⟨hc,rfl⟩,u⟩
 go_wp2
 go_end0;exact ⟨Or.inr ⟨hc,rfl⟩,u⟩
theorem zb8 (w:World) (B:Nat) (l:List am) (v:Value) (Z:SL 4 RC (· <B) w v l) (u:B<=w.heap.size):
 Calls Tryz.prog 157 #[v] w fun r w'=>r=.returned (.int .i64 (dt l))/\Below w.heap.size w w':=by
 have I:=np Tryz.prog;have HV:=ag Z;obtain ⟨L,N,rfl,-⟩:=Z;have A:=(br w.heap.size w).alloc (nlq _) (.cells #[.slice L l.length N] 31);have D:=A.alloc A.size (.cells #[.int .i64 0,.int .i64 0] 84);go_enter Tryz.func157,Tryz.ntmps157;go_wp2_with fail;refine (zb6 196 _ _ (fun J=>dt l=0/\Below w.heap.size w J) (fun e p J=>dt l=e/\Below w.heap.size w J) (callCheck1 _) ?hc).mono ?_
 case hc=>
  refine (zb7 _ B w.heap.size l (.slice L l.length N) (HV.o.keptC (Kp.below (D.mono u))) (by simp;omega) (by simp [go_sem])).mono ?_;rintro r J ⟨X,Y⟩;have F:=D.trans (Y.mono (by simp;omega));refine ⟨?_,?_⟩
  ·rw [Y.block (w.alloc (.cells #[.slice L l.length N] 31)).heap.size (by simp)];show ((w.heap.push _).push _)[(w.heap.push _).size]? =_;rw [Array.getElem?_push,if_pos rfl]
  rcases X with ⟨hc,rfl⟩ | ⟨hc,rfl⟩
  ·exact Or.inr ⟨_,_,rfl,rfl,F⟩
  exact Or.inl ⟨rfl,hc,F⟩
 rintro r w2 ⟨J,G,X⟩;have hz:(w.alloc (.cells #[.slice L l.length N] 31)).heap.size=w.heap.size+1:=by simp
 rw [hz]at G;clear A D hz;rcases X with ⟨rfl,hc,E⟩ | ⟨e,p,rfl,hc,E⟩
 ·have V:=ag hc;have O:=ag (nt E G (by omega));clear hc G E I u;have W:=ny;go_wp2
  go_ret;exact ⟨by rw [V.o];rfl,O.o⟩
 have V:=ag hc;have O:=ag (nt E G (by omega));clear hc G E I u;have W:=ny;go_wp2
 go_ret;exact ⟨by rw [V.o];rfl,O.o⟩
end Go.Proofs.YtjdnmblggdobgaaGreat
