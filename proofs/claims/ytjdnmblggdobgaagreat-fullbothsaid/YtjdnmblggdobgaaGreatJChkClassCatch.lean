import Derived.Test.YtjdnmblggdobgaaGreatJMemChkMeth
import Derived.Test.YtjdnmblggdobgaaGreatJTk2Dies
set_option maxHeartbeats 4000000
namespace Go.Proofs.YtjdnmblggdobgaaGreat
open Go.RowKit Tryz Or World
variable (args:Array Value) (g:Nat) (cap:Array Value) {f:bv} (A:World) (N b:Nat) (x y:Value) (e p:Int) (w:World) (B P:Nat) (l:List aq) (v:Value)
theorem Em (h:dm f.name=false):fu f=1:=by rw [fu,h,rj]
theorem En (h:dm f.name=true) (A:ji f.kind=false):fu f=7:=by rw [fu,h,pj,A,rj]
theorem zb0 (h:dm f.name=true) (A:ji f.kind=true):fu f=0:=by rw [fu,h,pj,A,pj]
theorem zb1 (c:aq) (vf vm:Value) (hf:SL 3 RF (· <B) w vf c.fields) (hm:SL 9 RM (· <B) w vm c.bd) (hB:B<=w.heap.size) (a2:c.name.size<=maxLen) (a3:c.b9.size<=maxLen):
 Calls prog 232 #[.agg #[.string c.name,.string c.b9,vf,vm]] w fun r w'=>pr (fb c) r/\Bl w w':=by
 obtain ⟨Y,b9,A,G⟩:=c
 dsimp only at*
 have HF:=aj hf;have HM:=aj hm;obtain ⟨fo,cf,rfl,a4,az,_⟩:=hf;obtain ⟨mo,cm,rfl,a5,a0,_⟩:=hm;unfold maxLen at az a0;have e0:=xy b9;have al:Hid (fb ⟨Y,b9,A,G⟩=pd (dm Y) 1 (pd (decide (b9.size=0)||dm b9) 1 (pd (decide (A.length<=6)) 2 (pd (decide (G.length<=8)) 2 (ql (ip fu A) (ip d7 G)))))):=rfl;generalize fb ⟨Y,b9,A,G⟩=X at*;go_enter func232,ntmps232
 go_wp21
 generalize hW:w.alloc (.cells #[.string Y,.string b9,.slice fo A.length cf,.slice mo G.length cm] 162)=W0;have hz:W0.heap.size=w.heap.size+1:=by rw [<-hW];simp
 have I:Bl w W0:=by rw [<-hW];exact (br w.heap.size w).alloc (nlq _) _
 have c0:W0.cell? ⟨w.heap.size,0,none⟩=some (.string Y):=by rw [<-hW];simp [go_sem]
 have c1:W0.cell? ⟨w.heap.size,1,none⟩=some (.string b9):=by rw [<-hW];simp [go_sem]
 have c2:W0.cell? ⟨w.heap.size,2,none⟩=some (.slice fo A.length cf):=by rw [<-hW];simp [go_sem]
 have c3:W0.cell? ⟨w.heap.size,3,none⟩=some (.slice mo G.length cm):=by rw [<-hW];simp [go_sem]
 clear hW;refine (Fm _ _ a2).mono ?_;rintro r Z ⟨rfl,rfl⟩
 go_wp21
 refine (oz _ _ _).mono ?_;rintro r Z ⟨rfl,⟨D,rfl⟩ | ⟨D,rfl⟩⟩
 ·exact ⟨rfl,ur (by rw [al.o,D,rj]) (by decide),I⟩
 have ak:=aj (al.o.trans (by rw [D,pj]));clear D al;by_cases O:b9.size=0
 ·have ac:=aj (ak.o.trans (by rw [decide_eq_true O,Bool.true_or,pj]));have e1:b9.toList.isEmpty=true:=by rw [e0,decide_eq_true O]
  clear ak O e0
  go_wp21
  refine (oz _ _ _).mono ?_;rintro r Z ⟨rfl,⟨D,rfl⟩ | ⟨D,rfl⟩⟩
  ·cases D
  clear D;by_cases O:A.length<=6
  rotate_left
  ·have av:¬(A.length:Int)<=6:=by omega
   go_wp21
   refine (oz _ _ _).mono ?_;rintro r Z ⟨rfl,⟨D,rfl⟩ | ⟨D,rfl⟩⟩
   ·exact ⟨rfl,ur (by rw [ac.o,decide_eq_false O,rj]) (by decide),I⟩
   exact absurd D (by first | (simp;done) | (simp;omega))
  have a6:(A.length:Int)<=6:=by omega
  have ad:=aj (ac.o.trans (by rw [decide_eq_true O,pj]));clear O ac
  go_wp21
  refine (oz _ _ _).mono ?_;rintro r Z ⟨rfl,⟨D,rfl⟩ | ⟨D,rfl⟩⟩
  ·exact absurd D (by simp)
  clear D;by_cases O:G.length<=8
  rotate_left
  ·have av:¬(G.length:Int)<=8:=by omega
   go_wp21
   refine (oz _ _ _).mono ?_;rintro r Z ⟨rfl,⟨D,rfl⟩ | ⟨D,rfl⟩⟩
   ·exact ⟨rfl,ur (by rw [ad.o,decide_eq_false O,rj]) (by decide),I⟩
   exact absurd D (by first | (simp;done) | (simp;omega))
  have a1:(G.length:Int)<=8:=by omega
  have W:=aj (ad.o.trans (by rw [decide_eq_true O,pj]));clear O ad
  go_wp21
  refine (oz _ _ _).mono ?_;rintro r Z ⟨rfl,⟨D,rfl⟩ | ⟨D,rfl⟩⟩
  ·exact absurd D (by simp)
  clear D
  go_wp21
  go_loopw [32] (fun i wr=>∃k:Nat,k<=A.length/\i=.i k/\Hid (ip fu (A.drop k)=ip fu A)/\Below (w.heap.size+1) Z wr) (fun i _=>A.length - (intOf i).toNat)
  case atStart=>exact ⟨0,n0q _,rfl,rfl,br _ _⟩
  case round=>
   obtain ⟨k,hk,rfl,V,E⟩:=hrel;have ah:w.heap.size+1<=wr.heap.size:=by have:=E.size;omega
   by_cases F:k<A.length
   ·obtain ⟨b,off,rfl,au,e0,e1,e2,es,af⟩:=(HF.o.keptF (Kp.below ((I.trans (E.mono (by omega))).mono hB))).atF k F;have L:=E.alloc ah (.cells #[.string A[k].name,.i A[k].kind.kind,.string A[k].kind.dj] 125)
    go_wp21
    refine (Fm _ A[k].name es).mono ?_;rintro r w2 ⟨rfl,rfl⟩
    go_wp21
    refine (oz _ _ _).mono ?_;rintro r w3 ⟨rfl,⟨D,rfl⟩ | ⟨D,rfl⟩⟩
    ·refine ⟨rfl,ur (e:=1) ?_ (by decide),I.trans (L.mono (by omega))⟩;rw [W.o,<-V.o,vg F (by rw [Em D];decide),Em D,Cw (by decide)]
    have aa:=aj D;clear D
    go_wp21
    refine (zbo _ A[k].kind af).mono ?_;rintro r w2 ⟨rfl,N⟩;have J:=L.trans (N.mono (by simp;omega));clear N L e0 e1 e2
    go_wp21
    refine (oz _ _ _).mono ?_;rintro r w3 ⟨rfl,⟨D,rfl⟩ | ⟨D,rfl⟩⟩
    ·refine ⟨rfl,ur (e:=7) ?_ (by decide),I.trans (J.mono (by omega))⟩;rw [W.o,<-V.o,vg F (by rw [En aa.o D];decide),En aa.o D,Cw (by decide)]
    have HB:=aj (zb0 aa.o D);clear D
    go_wp21
    go_roundw
    case rel=>exact ⟨k+1,by omega,by go_num,(At F HB.o).symm.trans V.o,J⟩
    case measure=>simp [intOf];omega
   have ae:=aj (W.o.trans (by rw [<-V.o,Au F,zbv]));have d3:=(E.cell (p:=⟨w.heap.size,3,none⟩) (by simp)).trans c3;clear V W;have J:=E;clear E
   go_wp21
   go_loopw [48] (fun i wr=>∃k:Nat,k<=G.length/\i=.i k/\Hid (ip d7 (G.drop k)=ip d7 G)/\Below (w.heap.size+1) Z wr) (fun i _=>G.length - (intOf i).toNat)
   case atStart=>exact ⟨0,n0q _,rfl,rfl,J⟩
   case round=>
    obtain ⟨k,hk,rfl,V,E⟩:=hrel;have ah:w.heap.size+1<=wr.heap.size:=by have:=E.size;omega
    by_cases F:k<G.length
    ·have an:Bl w wr:=I.trans (E.mono (by omega));obtain ⟨b,off,va,vh,rfl,au,e0,e1,e2,e3,e4,e5,e6,e7,e8,ea,eh,am,af,ay⟩:=(HM.o.keptM (Kp.below (an.mono hB))).atM k F;have L:=fun t=>E.alloc ah (.cells #[.string G[k].name,.bool G[k].static,va,.i G[k].ret.kind,.string G[k].ret.dj,.i G[k].stack,.i G[k].locals,.string G[k].code,vh] t);have ai:=aj L;have EA:=aj ea;have EH:=aj eh;obtain ⟨ao,ca,rfl,_⟩:=ea;obtain ⟨ho,ch,rfl,_⟩:=eh;clear L
     go_wp21
     refine (zbx _ B G[k] _ _ (EA.o.keptK (Kp.below ((br _ _).alloc (by omega) _))) (EH.o.keptH (Kp.below ((br _ _).alloc (by omega) _))) (by simp;omega) am af).mono ?_;rintro r w2 ⟨hr,N⟩;have J:=(ai.o _).trans (N.mono (by simp;omega));clear N ai e0 e1 e2 e3 e4 e5 e6 e7 e8;rcases hr with ⟨hc,rfl⟩ | ⟨hc,rfl⟩
     ·refine ⟨rfl,ur ?_ hc,I.trans (J.mono (by omega))⟩;rw [ae.o,<-V.o,vg F hc]
     have HB:=aj hc;clear hc
     go_wp21
     go_roundw
     case rel=>exact ⟨k+1,by omega,by go_num,(At F HB.o).symm.trans V.o,J⟩
     case measure=>simp [intOf];omega
    go_wp21
    go_end0;exact ⟨zbr (by rw [ae.o,<-V.o,Au F]),I.trans (E.mono (by omega))⟩
 have ac:=aj (ak.o.trans (by rw [decide_eq_false O,Bool.false_or]));have e1:b9.toList.isEmpty=false:=by rw [e0,decide_eq_false O]
 clear ak O e0
 go_wp21
 refine (Fm _ _ a3).mono ?_;rintro r Z ⟨rfl,rfl⟩
 go_wp21
 refine (oz _ _ _).mono ?_;rintro r Z ⟨rfl,⟨D,rfl⟩ | ⟨D,rfl⟩⟩
 ·exact ⟨rfl,ur (by rw [ac.o,D,rj]) (by decide),I⟩
 have ad:=aj (ac.o.trans (by rw [D,pj]));clear D ac;by_cases O:A.length<=6
 rotate_left
 ·have av:¬(A.length:Int)<=6:=by omega
  go_wp21
  refine (oz _ _ _).mono ?_;rintro r Z ⟨rfl,⟨D,rfl⟩ | ⟨D,rfl⟩⟩
  ·exact ⟨rfl,ur (by rw [ad.o,decide_eq_false O,rj]) (by decide),I⟩
  exact absurd D (by first | (simp;done) | (simp;omega))
 have a1:(A.length:Int)<=6:=by omega
 have W:=aj (ad.o.trans (by rw [decide_eq_true O,pj]));clear O ad
 go_wp21
 refine (oz _ _ _).mono ?_;rintro r Z ⟨rfl,⟨D,rfl⟩ | ⟨D,rfl⟩⟩
 ·exact absurd D (by simp)
 clear D;by_cases O:G.length<=8
 rotate_left
 ·have av:¬(G.length:Int)<=8:=by omega
  go_wp21
  refine (oz _ _ _).mono ?_;rintro r Z ⟨rfl,⟨D,rfl⟩ | ⟨D,rfl⟩⟩
  ·exact ⟨rfl,ur (by rw [W.o,decide_eq_false O,rj]) (by decide),I⟩
  exact absurd D (by first | (simp;done) | (simp;omega))
 have a7:(G.length:Int)<=8:=by omega
 have ae:=aj (W.o.trans (by rw [decide_eq_true O,pj]));clear O W
 go_wp21
 refine (oz _ _ _).mono ?_;rintro r Z ⟨rfl,⟨D,rfl⟩ | ⟨D,rfl⟩⟩
 ·exact absurd D (by simp)
 clear D
 go_wp21
 go_loopw [32] (fun i wr=>∃k:Nat,k<=A.length/\i=.i k/\Hid (ip fu (A.drop k)=ip fu A)/\Below (w.heap.size+1) Z wr) (fun i _=>A.length - (intOf i).toNat)
 case atStart=>exact ⟨0,n0q _,rfl,rfl,br _ _⟩
 case round=>
  obtain ⟨k,hk,rfl,V,E⟩:=hrel;have ah:w.heap.size+1<=wr.heap.size:=by have:=E.size;omega
  by_cases F:k<A.length
  ·obtain ⟨b,off,rfl,au,e0,e1,e2,es,af⟩:=(HF.o.keptF (Kp.below ((I.trans (E.mono (by omega))).mono hB))).atF k F;have L:=E.alloc ah (.cells #[.string A[k].name,.i A[k].kind.kind,.string A[k].kind.dj] 125)
   go_wp21
   refine (Fm _ A[k].name es).mono ?_;rintro r w2 ⟨rfl,rfl⟩
   go_wp21
   refine (oz _ _ _).mono ?_;rintro r w3 ⟨rfl,⟨D,rfl⟩ | ⟨D,rfl⟩⟩
   ·refine ⟨rfl,ur (e:=1) ?_ (by decide),I.trans (L.mono (by omega))⟩;rw [ae.o,<-V.o,vg F (by rw [Em D];decide),Em D,Cw (by decide)]
   have aa:=aj D;clear D
   go_wp21
   refine (zbo _ A[k].kind af).mono ?_;rintro r w2 ⟨rfl,N⟩;have J:=L.trans (N.mono (by simp;omega));clear N L e0 e1 e2
   go_wp21
   refine (oz _ _ _).mono ?_;rintro r w3 ⟨rfl,⟨D,rfl⟩ | ⟨D,rfl⟩⟩
   ·refine ⟨rfl,ur (e:=7) ?_ (by decide),I.trans (J.mono (by omega))⟩;rw [ae.o,<-V.o,vg F (by rw [En aa.o D];decide),En aa.o D,Cw (by decide)]
   have HB:=aj (zb0 aa.o D);clear D
   go_wp21
   go_roundw
   case rel=>exact ⟨k+1,by omega,by go_num,(At F HB.o).symm.trans V.o,J⟩
   case measure=>simp [intOf];omega
  have aw:=aj (ae.o.trans (by rw [<-V.o,Au F,zbv]));have d3:=(E.cell (p:=⟨w.heap.size,3,none⟩) (by simp)).trans c3;clear V ae;have J:=E;clear E
  go_wp21
  go_loopw [48] (fun i wr=>∃k:Nat,k<=G.length/\i=.i k/\Hid (ip d7 (G.drop k)=ip d7 G)/\Below (w.heap.size+1) Z wr) (fun i _=>G.length - (intOf i).toNat)
  case atStart=>exact ⟨0,n0q _,rfl,rfl,J⟩
  case round=>
   obtain ⟨k,hk,rfl,V,E⟩:=hrel;have ah:w.heap.size+1<=wr.heap.size:=by have:=E.size;omega
   by_cases F:k<G.length
   ·have an:Bl w wr:=I.trans (E.mono (by omega));obtain ⟨b,off,va,vh,rfl,au,e0,e1,e2,e3,e4,e5,e6,e7,e8,ea,eh,am,af,ay⟩:=(HM.o.keptM (Kp.below (an.mono hB))).atM k F;have L:=fun t=>E.alloc ah (.cells #[.string G[k].name,.bool G[k].static,va,.i G[k].ret.kind,.string G[k].ret.dj,.i G[k].stack,.i G[k].locals,.string G[k].code,vh] t);have ai:=aj L;have EA:=aj ea;have EH:=aj eh;obtain ⟨ao,ca,rfl,_⟩:=ea;obtain ⟨ho,ch,rfl,_⟩:=eh;clear L
    go_wp21
    refine (zbx _ B G[k] _ _ (EA.o.keptK (Kp.below ((br _ _).alloc (by omega) _))) (EH.o.keptH (Kp.below ((br _ _).alloc (by omega) _))) (by simp;omega) am af).mono ?_;rintro r w2 ⟨hr,N⟩;have J:=(ai.o _).trans (N.mono (by simp;omega));clear N ai e0 e1 e2 e3 e4 e5 e6 e7 e8;rcases hr with ⟨hc,rfl⟩ | ⟨hc,rfl⟩
    ·refine ⟨rfl,ur ?_ hc,I.trans (J.mono (by omega))⟩;rw [aw.o,<-V.o,vg F hc]
    have HB:=aj hc;clear hc
    go_wp21
    go_roundw
    case rel=>exact ⟨k+1,by omega,by go_num,(At F HB.o).symm.trans V.o,J⟩
    case measure=>simp [intOf];omega
   go_wp21
   go_end0;exact ⟨zbr (by rw [aw.o,<-V.o,Au F]),I.trans (E.mono (by omega))⟩
theorem zb2 (hv:SL 4 RC (· <B) w v l) (hB:B<=w.heap.size):
 Calls prog 197 #[v] w fun r w'=>pr (ed l) r/\Bl w w':=by
 have HV:=aj hv;obtain ⟨ao,cl,rfl,ad,Y,_⟩:=hv;unfold maxLen at Y;have E:Hid (ed l=pd (decide (l.length<=10)) 2 (ip fb l)):=rfl;generalize ed l=X at*;go_enter func197,ntmps197;by_cases Z:l.length<=10
 rotate_left
 ·have ae:¬(l.length:Int)<=10:=by omega
  go_wp21
  refine (oz _ _ _).mono ?_;rintro r w1 ⟨rfl,⟨F,rfl⟩ | ⟨F,rfl⟩⟩
  ·exact ⟨rfl,ur (by rw [E.o,decide_eq_false Z,rj]) (by decide),br _ _⟩
  exact absurd F (by first | (simp;done) | (simp;omega))
 have af:(l.length:Int)<=10:=by omega
 have I:=aj (E.o.trans (by rw [decide_eq_true Z,pj]));clear Z E
 go_wp21
 refine (oz _ _ _).mono ?_;rintro r w1 ⟨rfl,⟨F,rfl⟩ | ⟨F,rfl⟩⟩
 ·exact absurd F (by simp)
 clear F
 go_wp21
 go_loopw [10] (fun i wr=>∃k:Nat,k<=l.length/\i=.i k/\Hid (ip fb (l.drop k)=ip fb l)/\Bl w1 wr) (fun i _=>l.length - (intOf i).toNat)
 case atStart=>exact ⟨0,n0q _,rfl,rfl,br _ _⟩
 case round=>
  obtain ⟨k,hk,rfl,O,A⟩:=hrel;have aa:=A.size;by_cases D:k<l.length
  ·obtain ⟨b,off,vf,vm,rfl,ac,e0,e1,e2,e3,ef,em,V,W⟩:=(HV.o.keptC (Kp.below (A.mono hB))).atC k D;have J:=fun t=>A.alloc aa (.cells #[.string l[k].name,.string l[k].b9,vf,vm] t);have G:=aj J;have EF:=aj ef;have EM:=aj em;obtain ⟨fo,cf,rfl,_⟩:=ef;obtain ⟨mo,cm,rfl,_⟩:=em;clear J
   go_wp21
   refine (zb1 _ B l[k] _ _ (EF.o.keptF (Kp.below ((br _ _).alloc (by omega) _))) (EM.o.keptM (Kp.below ((br _ _).alloc (by omega) _))) (by simp;omega) V W).mono ?_;rintro r w2 ⟨hr,N⟩;have L:=(G.o _).trans (N.mono (by simp;omega));clear N G e0 e1 e2 e3;rcases hr with ⟨hc,rfl⟩ | ⟨hc,rfl⟩
   ·refine ⟨rfl,ur ?_ hc,L⟩;rw [I.o,<-O.o,vg D hc]
   have HB:=aj hc;clear hc
   go_wp21
   go_roundw
   case rel=>exact ⟨k+1,by omega,by go_num,(At D HB.o).symm.trans O.o,L⟩
   case measure=>simp [intOf];omega
  go_wp21
  go_end0;exact ⟨zbr (by rw [I.o,<-O.o,Au D]),A⟩
theorem zb3 (f:Addr) (w:World):
 CallsD prog 103 #[.pointer (some f)] .returning w fun e E w'=>e=.returned (.tuple #[])/\E=.returning/\w'=w:=by
 refine callsD_of_wpS func103 rfl fun A F D=>?_;apply wpS_seq;apply wpS_region;simp [wpOpsS,go_sem,recoverD,D,ntmps103,Exit.thenS];have e:(#[Value.pointer (some f)]++((Array.replicate 16 undef).setIfInBounds 3 Value.nilIface).setIfInBounds 0 Value.nilIface)=#[.pointer (some f),.nilIface,undef,undef,.nilIface,undef,undef,undef,undef,undef,undef,undef,undef,undef,undef,undef,undef]:=rfl;rw [e];refine wpS_of_wp ?_;go_wp2
 refine ⟨rfl,.returning,?_,_,(results_none rfl _ _ _),rfl,rfl,rfl⟩;cases A
 simp_all
theorem Cc:(Instr.typeAssert (.iface 164 x) 20 164 true).run prog w=.ok (.tuple #[x,.bool true]) w:=by kernel_rfl
theorem Ff:(binOp BinOp.eql 20 (.iface 164 x) .nilIface).run prog w=.ok (.bool false) w:=by kernel_rfl
theorem zb4 (h0:w.cell? ⟨b,0,none⟩=some x) (h1:w.cell? ⟨b,1,none⟩=some y) (I:w.frozen? ⟨b,0,none⟩=false) (J:w.frozen? ⟨b,1,none⟩=false):
 CallsD prog 103 #[.p b] (.panicking [wrongV e p]) w fun r E w'=>r=.returned (.tuple #[])/\E=.panicking [{ wrongV e p with recovered:=true }]/\
  w'=((w.setCell ⟨b,0,none⟩ (.i e)).setCell ⟨b,1,none⟩ (.i p)).alloc (.cells #[.i e,.i p] 164):=by
 have L:b<w.heap.size:=block_lt_of_cell? w _ h0;have N:=Cc (.agg #[.i e,.i p]);have O:=Ff (.agg #[.i e,.i p]);refine callsD_of_wpS func103 rfl fun G F D=>?_;apply wpS_seq;apply wpS_region;simp [wpOpsS,go_sem,recoverD,D,ntmps103,Exit.thenS];generalize hv:Value.iface 164 (.agg #[.i e,.i p])=V;have A:(#[Value.p b]++((Array.replicate 16 undef).setIfInBounds 3 V).setIfInBounds 0 V)=#[.p b,V,undef,undef,V,undef,undef,undef,undef,undef,undef,undef,undef,undef,undef,undef,undef]:=rfl;rw [A];clear A;subst hv;refine wpS_of_wp ?_;clear D
 go_wp21
 exact ⟨rfl,_,rfl,_,results_none rfl _ _ _,rfl,rfl,rfl⟩
theorem zb5 (o:Obj) {x y:Value} (E:A.cell? ⟨N,0,none⟩=some x) (F:A.cell? ⟨N,1,none⟩=some y):
 A.grownBy (((A.setCell ⟨N,0,none⟩ (.i e)).setCell ⟨N,1,none⟩ (.i p)).alloc o) (some N)/\
 (((A.setCell ⟨N,0,none⟩ (.i e)).setCell ⟨N,1,none⟩ (.i p)).alloc o).cell? ⟨N,0,none⟩=some (.i e)/\
 (((A.setCell ⟨N,0,none⟩ (.i e)).setCell ⟨N,1,none⟩ (.i p)).alloc o).cell? ⟨N,1,none⟩=some (.i p):=by
 have D:N<A.heap.size:=block_lt_of_cell? A _ E;refine ⟨?_,?_,?_⟩
 ·refine za9 ?_ _;refine pi ?_ _ _ (inl rfl);refine pi ?_ _ _ (inl rfl);exact grownBy.refl _ _
 ·rw [cell?_alloc_past _ _ _ (by simpa [setCell]using D),cell?_setCell_other _ _ _ _ (by simp),cell?_setCell_same _ _ _ E]
 rw [cell?_alloc_past _ _ _ (by simpa [setCell]using D)];exact cell?_setCell_same _ _ _ ((cell?_setCell_other _ _ _ _ (by simp)).trans F)
theorem Ek (N:World->Prop) (L:Int->Int->World->Prop) (V:∀w,(callFunc g cap).run prog w=.ok (.enter g cap) w) (hc:Calls prog g cap (w.alloc (.cells #[.i 0,.i 0] 84)) fun r A=>A.heap[w.heap.size]? =some (.cells #[.i 0,.i 0] 84 (0,0))/\
  ((r=.returned (.tuple #[])/\N A)\/∃e p,r=.panicked [wrongV e p]/\L e p A)):
 Calls prog 51 #[.func (.func g) #[] cap] w fun r w'=>∃A,A.grownBy w' (some w.heap.size)/\
  ((r=.returned (.agg #[.i 0,.i 0])/\N A)\/∃e p,r=.returned (.agg #[.i e,.i p])/\L e p A):=by
 have X:=ri prog;have O:Hid _:=hc;clear hc
 go_enter_defers func51,ntmps51
 go_wp21
 refine Calls.mono O.o ?_;rintro r A ⟨D,Y⟩;have G:A.cell? ⟨w.heap.size,0,none⟩=some (.i 0):=by simp [cell?,D]
 have I:A.cell? ⟨w.heap.size,1,none⟩=some (.i 0):=by simp [cell?,D]
 have z0:A.frozen? ⟨w.heap.size,0,none⟩=false:=by simp [frozen?,D]
 have z1:A.frozen? ⟨w.heap.size,1,none⟩=false:=by simp [frozen?,D]
 clear D;rcases Y with ⟨rfl,F⟩ | ⟨e,p,rfl,E⟩
 ·go_wp21
  refine leaves_cons (f:=103) (args:=#[.p w.heap.size]) (by simp) (by simp [go_sem]) ?_;refine (zb3 ⟨w.heap.size,0,none⟩ _).mono ?_;rintro r2 u' J ⟨rfl,rfl,rfl⟩;show Leaves prog f51 _ _ [] FrameMode.returning _;refine ⟨.agg #[.i 0,.i 0],?_,A,?_,inl ⟨rfl,F⟩⟩
  ·simp [results,results51,go_sem,G,I]
  exact pi (pi (grownBy.refl _ _) _ _ (inl rfl)) _ _ (inl rfl)
 refine leaves_cons (f:=103) (args:=#[.p w.heap.size]) (by simp) (by simp [go_sem]) ?_;refine (zb4 w.heap.size _ _ e p _ G I z0 z1).mono ?_;rintro r2 u' J ⟨rfl,rfl,rfl⟩;obtain ⟨W,Z,q1⟩:=zb5 A w.heap.size e p _ G I;show Leaves prog f51 _ _ [] FrameMode.returning _;generalize ((A.setCell ⟨w.heap.size,0,none⟩ (.i e)).setCell ⟨w.heap.size,1,none⟩ (.i p)).alloc (.cells #[.i e,.i p] 164)=W2 at*;refine ⟨.agg #[.i e,.i p],?_,A,W,inr ⟨e,p,rfl,E⟩⟩;simp [results,results51,go_sem,Z,q1]
theorem qv (a b:Int) (w:World):(Instr.field 84 (.agg #[.i a,.i b]) 0).run prog w=.ok (.i a) w:=by kernel_rfl
theorem Aj:(callFunc 196 args).run prog w=.ok (.enter 196 args) w:=by kernel_rfl
theorem zb7 (D:SL 4 RC (· <B) w v l) (F:B<=w.heap.size) (G:w.cell? ⟨P,0,none⟩=some v):
 Calls prog 196 #[.p P] w fun r w'=>pr (ed l) r/\Bl w w':=by
 have E:=aj D;obtain ⟨ao,cl,rfl,-⟩:=D;go_enter func196,ntmps196
 go_wp21
 refine (zb2 _ B l _ E.o F).mono ?_;rintro r I ⟨⟨hc,rfl⟩ | ⟨hc,rfl⟩,A⟩
 ·exact ⟨rfl,inl ⟨hc,rfl⟩,A⟩
 go_wp2
 go_end0;exact ⟨inr ⟨hc,rfl⟩,A⟩
theorem zb8 (Y:SL 4 RC (· <B) w v l) (A:B<=w.heap.size):
 Calls prog 157 #[v] w fun r w'=>r=.returned (.i (ed l))/\Bl w w':=by
 have J:=ri prog;have HV:=aj Y;obtain ⟨ao,cl,rfl,-⟩:=Y;have D:=(br w.heap.size w).alloc (nlq _) (.cells #[.slice ao l.length cl] 31);have E:=D.alloc D.size (.cells #[.i 0,.i 0] 84);go_enter func157,ntmps157
 go_wp21
 refine (Ek 196 _ _ (fun L=>ed l=0/\Bl w L) (fun e p L=>ed l=e/\Bl w L) (Aj _) ?hc).mono ?_
 case hc=>
  refine (zb7 _ B w.heap.size l (.slice ao l.length cl) (HV.o.keptC (Kp.below (E.mono A))) (by simp;omega) (by simp [go_sem])).mono ?_;rintro r L ⟨W,X⟩;have G:=E.trans (X.mono (by simp;omega));refine ⟨?_,?_⟩
  ·rw [X.block (w.alloc (.cells #[.slice ao l.length cl] 31)).heap.size (by simp)];show ((w.heap.push _).push _)[(w.heap.push _).size]? =_;rw [Array.getElem?_push,if_pos rfl]
  rcases W with ⟨hc,rfl⟩ | ⟨hc,rfl⟩
  ·exact inr ⟨_,_,rfl,rfl,G⟩
  exact inl ⟨rfl,hc,G⟩
 rintro r w2 ⟨L,I,W⟩;have Z:(w.alloc (.cells #[.slice ao l.length cl] 31)).heap.size=w.heap.size+1:=by simp
 rw [Z]at I;clear D E Z;rcases W with ⟨rfl,hc,F⟩ | ⟨e,p,rfl,hc,F⟩
 ·have O:=aj hc;have N:=aj (pf F I (by omega));clear hc I F J A;have V:=qv;go_wp2
  go_ret;exact ⟨by rw [O.o];rfl,N.o⟩
 have O:=aj hc;have N:=aj (pf F I (by omega));clear hc I F J A;have V:=qv;go_wp2
 go_ret;exact ⟨by rw [O.o];rfl,N.o⟩
end Go.Proofs.YtjdnmblggdobgaaGreat
