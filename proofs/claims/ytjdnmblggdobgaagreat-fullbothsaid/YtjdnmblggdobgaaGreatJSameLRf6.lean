import Derived.Deep.DeepCutAuto
import Derived.Test.YtjdnmblggdobgaaGreatJLErrLRf4
set_option maxHeartbeats 20000000
set_option maxRecDepth 100000
namespace Go.Proofs.YtjdnmblggdobgaaGreat
open Go.RowKit Tryz World
variable (wr:World) (t:Nat) (A D:Array Value) {B:Nat} {w w':World} {v:Value}
theorem zqi (w:World) (u v:Value) (l:List fw) (D:SL 2 RK (· <w.heap.size) w u l) (E:SL 2 RK (· <w.heap.size) w v l):
 Calls prog 227 #[u,v] w fun r w'=>r=.returned (.bool true)/\∃n,w'=w.drewN n:=by
 have G:=aj D;have I:=aj E;obtain ⟨L,X,rfl,_,J,-⟩:=D;obtain ⟨N,Y,rfl,-⟩:=E;unfold maxLen at J;go_enter func227,ntmps227;go_wp2
 go_loopw [5] (fun i wr=>∃k:Nat,k<=l.length/\i=.i k/\∃n,wr=w.drewN n) (fun i _=>l.length - (intOf i).toNat)
 case atStart=>exact ⟨0,n0q _,rfl,0,rfl⟩
 case round=>
  obtain ⟨k,hk,rfl,n,rfl⟩:=hrel;by_cases A:k<l.length
  ·obtain ⟨b,off,rfl,_,V,W,_⟩:=G.o.atK k A;obtain ⟨O,F,rfl,_,Z,d1,_⟩:=I.o.atK k A;go_wp2
   go_quiet (fail);go_wp2
   go_roundw
   case rel=>exact ⟨k+1,by omega,by go_num,_,rfl⟩
   case measure=>simp [intOf];omega
  go_wp2
  go_ret;exact ⟨rfl,n,rfl⟩
theorem zqj (w:World) (u v:Value) (l:List bv) (D:SL 3 RF (· <w.heap.size) w u l) (E:SL 3 RF (· <w.heap.size) w v l):
 Calls prog 186 #[u,v] w fun r w'=>r=.returned (.bool true)/\∃n,w'=w.drewN n:=by
 have G:=aj D;have I:=aj E;obtain ⟨L,Y,rfl,_,J,-⟩:=D;obtain ⟨N,Z,rfl,-⟩:=E;unfold maxLen at J;go_enter func186,ntmps186;go_wp2
 go_loopw [5] (fun i wr=>∃k:Nat,k<=l.length/\i=.i k/\∃n,wr=w.drewN n) (fun i _=>l.length - (intOf i).toNat)
 case atStart=>exact ⟨0,n0q _,rfl,0,rfl⟩
 case round=>
  obtain ⟨k,hk,rfl,n,rfl⟩:=hrel;by_cases A:k<l.length
  ·obtain ⟨b,off,rfl,_,V,W,X,_⟩:=G.o.atF k A;obtain ⟨O,F,rfl,_,d0,d1,d2,_⟩:=I.o.atF k A;go_wp2
   go_quiet (fail);go_wp2
   go_roundw
   case rel=>exact ⟨k+1,by omega,by go_num,_,rfl⟩
   case measure=>simp [intOf];omega
  go_wp2
  go_ret;exact ⟨rfl,n,rfl⟩
theorem zqk (h:Below B w w') (n:Nat):Below B w (w'.drewN n):=⟨h.os,h.tape,h.output,h.size,h.block⟩
structure vz (wr W:World) (px py:Value) (t:Nat) (cx cy:Array Value):Prop where
 at_:∃X Y,px=.p X/\py=.p Y/\wr.heap.size<=X/\wr.heap.size<=Y/\W.heap[X]? =some (.cells cx t (0,0))/\W.heap[Y]? =some (.cells cy t (0,0))
 below:Bl wr W
theorem vz.one:vz wr ((wr.alloc (.cells A t)).alloc (.cells D t)).drew (.p wr.heap.size) (.p (wr.heap.size+1)) t A D:=by
 refine ⟨⟨_,_,rfl,rfl,nlq _,by omega,?_,?_⟩,(((br _ _).alloc (nlq _) _).alloc (by simp) _).drew⟩
 ·show ((wr.heap.push _).push _)[wr.heap.size]? =_;rw [Array.getElem?_push,if_neg (by simp)];exact Array.getElem?_push_size
 show ((wr.heap.push _).push _)[wr.heap.size+1]? =_;rw [Array.getElem?_push,if_pos (by simp)]
theorem vz.two:vz wr ((wr.alloc (.cells D t)).alloc (.cells A t)).drew (.p (wr.heap.size+1)) (.p wr.heap.size) t A D:=by obtain ⟨⟨X,Y,h1,E,F,G,I,J⟩,L⟩:=vz.one wr t D A;exact ⟨⟨Y,X,E,h1,G,F,J,I⟩,L⟩
theorem zql {W:World} {X:Nat} {o:Obj} (h:W.heap[X]? =some o):X<W.heap.size:=(Array.getElem?_eq_some_iff.1 h).1
theorem SL.ya {l:List bv} (h:SL 3 RF (· <B) w v l) (A:Below B w w') (D:B<=w.heap.size):SL 3 RF (· <w'.heap.size) w' v l:=(h.keptF (Kp.below A)).monoF fun _ E=>ll3 E (lt3 D A.size)
theorem SL.upK {l:List fw} (h:SL 2 RK (· <B) w v l) (A:Below B w w') (D:B<=w.heap.size):SL 2 RK (· <w'.heap.size) w' v l:=(h.keptK (Kp.below A)).monoK fun _ E=>ll3 E (lt3 D A.size)
theorem zqm (w:World) (u v:Value) (l:List aq) (hu:SL 4 RC (· <w.heap.size) w u l) (hv:SL 4 RC (· <w.heap.size) w v l):
 Calls prog 185 #[u,v] w fun r w'=>r=.returned (.bool true)/\Bl w w':=by
 have HU:=aj hu;have HV:=aj hv;obtain ⟨au,cu,rfl,_,hl,-⟩:=hu;obtain ⟨av,cv,rfl,-⟩:=hv;unfold maxLen at hl;go_enter func185,ntmps185;go_wp2
 go_loopw [5] (fun i wr=>∃k:Nat,k<=l.length/\i=.i k/\Bl w wr) (fun i _=>l.length - (intOf i).toNat)
 case atStart=>exact ⟨0,n0q _,rfl,br _ _⟩
 case round=>
  obtain ⟨k,hk,rfl,ad⟩:=hrel;have E:=ad.size;by_cases a7:k<l.length
  rotate_left
  ·go_wp21
   go_ret;exact ⟨rfl,ad⟩
  obtain ⟨b,off,vf,vm,rfl,b1,e0,e1,e2,e3,ef,em,-⟩:=(HU.o.keptC (Kp.below ad)).atC k a7;obtain ⟨b',bl,b7,ce,rfl,bi,d0,d1,d2,d3,a4,a6,-⟩:=(HV.o.keptC (Kp.below ad)).atC k a7;have EF:=aj ef;have EM:=aj em;have ba:=aj a4;have bc:=aj a6;obtain ⟨fo,cf,rfl,-⟩:=ef;obtain ⟨mo,cm,rfl,_,bh,-⟩:=em;obtain ⟨az,ay,rfl,-⟩:=a4;obtain ⟨af,ae,rfl,-⟩:=a6;unfold maxLen at bh;generalize l[k]=c at*;obtain ⟨O,b9,A,bd⟩:=c
  dsimp only at*
  have bu:Hid (Bl wr wr):=br _ _
  go_wp21
  go_cut [6,7] (fun px py W=>vz wr W px py 162 #[.string O,.string b9,.slice fo A.length cf,.slice mo bd.length cm] #[.string O,.string b9,.slice az A.length ay,.slice af bd.length ae])
  case first=>
   go_region
   all_goals
    go_wp21
    go_meet
    first | exact vz.one _ _ _ _ | exact vz.two _ _ _ _
  case rest=>
   obtain ⟨⟨X,Y,rfl,rfl,hX,hY,L,N⟩,F⟩:=hcut;have am:=aj L;have aw:=aj N;have xl:=zql L;have yl:=zql N;have x0:=bg L 0 (x:=.string O) rfl;have x1:=bg L 1 (x:=.string b9) rfl;have x2:=bg L 2 (x:=.slice fo A.length cf) rfl;have x3:=bg L 3 (x:=.slice mo bd.length cm) rfl;have y0:=bg N 0 (x:=.string O) rfl;have y1:=bg N 1 (x:=.string b9) rfl;have y2:=bg N 2 (x:=.slice az A.length ay) rfl;have y3:=bg N 3 (x:=.slice af bd.length ae) rfl;clear L N e0 e1 e2 e3 d0 d1 d2 d3
   go_wp21
   refine (zqj _ _ _ A (EF.o.ya (F.mono E) E) (ba.o.ya (F.mono E) E)).mono ?_;rintro r w2 ⟨rfl,n2,rfl⟩
   go_wp21
   go_loopw [8] (fun i wi=>∃j:Nat,j<=bd.length/\i=.i j/\Bl wr wi/\Hid (wi.heap[X]? =some (.cells #[.string O,.string b9,.slice fo A.length cf,.slice mo bd.length cm] 162 (0,0)))/\Hid (wi.heap[Y]? =some (.cells #[.string O,.string b9,.slice az A.length ay,.slice af bd.length ae] 162 (0,0)))) (fun i _=>bd.length - (intOf i).toNat)
   case atStart=>exact ⟨0,n0q _,rfl,zqk F _,am.o,aw.o⟩
   case round=>
    rename World=>wi
    obtain ⟨j,hj,rfl,ac,al,an⟩:=hrel;have ak:=ac.size;clear x0 x1 x2 x3 y0 y1 y2 y3 xl yl F am aw;have xl:=zql al.o;have yl:=zql an.o;have x3:=bg al.o 3 (x:=.slice mo bd.length cm) rfl;have y3:=bg an.o 3 (x:=.slice af bd.length ae) rfl;by_cases ai:j<bd.length
    rotate_left
    ·go_wp21
     go_roundw
     case rel=>exact ⟨k+1,by omega,by go_num,ad.trans (ac.mono E)⟩
     case measure=>simp [intOf];omega
    obtain ⟨b2,bm,va,vh,rfl,bj,q0,q1,q2,q3,q4,q5,q6,q7,q8,ea,eh,-⟩:=(EM.o.keptM (Kp.below (ac.mono E))).atM j ai;obtain ⟨b3,bn,b4,cc,rfl,bk,s0,s1,s2,s3,s4,s5,s6,s7,s8,a3,a5,-⟩:=(bc.o.keptM (Kp.below (ac.mono E))).atM j ai;have EA:=aj ea;have EH:=aj eh;have a9:=aj a3;have bb:=aj a5;obtain ⟨ao,ca,rfl,-⟩:=ea;obtain ⟨ho,ch,rfl,_,bf,-⟩:=eh;obtain ⟨a0,a1,rfl,-⟩:=a3;obtain ⟨a8,a2,rfl,-⟩:=a5;unfold maxLen at bf;generalize bd[j]=m at*;obtain ⟨V,I,args,⟨rk,rc⟩,Z,G,aa,D⟩:=m
    dsimp only at*
    go_wp21
    go_cut [9,10] (fun px py W=>vz wi W px py 159 #[.string V,.bool I,.slice ao args.length ca,.i rk,.string rc,.i Z,.i G,.string aa,.slice ho D.length ch] #[.string V,.bool I,.slice a0 args.length a1,.i rk,.string rc,.i Z,.i G,.string aa,.slice a8 D.length a2])
    case first=>
     go_region
     all_goals
      go_wp21
      go_meet
      first | exact vz.one _ _ _ _ | exact vz.two _ _ _ _
    case rest=>
     obtain ⟨⟨X2,Y2,rfl,rfl,bx,b0,L,N⟩,F⟩:=hcut;have am:=aj L;have aw:=aj N;have ci:=zql L;have cj:=zql N;have m0:=bg L 0 (x:=.string V) rfl;have m1:=bg L 1 (x:=.bool I) rfl;have m2:=bg L 2 (x:=.slice ao args.length ca) rfl;have m3:=bg L 3 (x:=.i rk) rfl;have m4:=bg L 4 (x:=.string rc) rfl;have m5:=bg L 5 (x:=.i Z) rfl;have m6:=bg L 6 (x:=.i G) rfl;have m7:=bg L 7 (x:=.string aa) rfl;have m8:=bg L 8 (x:=.slice ho D.length ch) rfl;have n0:=bg N 0 (x:=.string V) rfl;have n1:=bg N 1 (x:=.bool I) rfl;have n2:=bg N 2 (x:=.slice a0 args.length a1) rfl;have n3:=bg N 3 (x:=.i rk) rfl;have n4:=bg N 4 (x:=.string rc) rfl;have n5:=bg N 5 (x:=.i Z) rfl;have n6:=bg N 6 (x:=.i G) rfl;have n7:=bg N 7 (x:=.string aa) rfl;have n8:=bg N 8 (x:=.slice a8 D.length a2) rfl;have J:w.heap.size<=wi.heap.size:=lt3 E ak;clear L N q0 q1 q2 q3 q4 q5 q6 q7 q8 s0 s1 s2 s3 s4 s5 s6 s7 s8 x3 y3
     go_wp21
     refine (zqi _ _ _ args (EA.o.upK (F.mono J) J) (a9.o.upK (F.mono J) J)).mono ?_;rintro r w3 ⟨rfl,n9,rfl⟩
     go_wp21
     go_loopw [11] (fun i wj=>∃(h n:Nat),h<=D.length/\i=.i h/\wj=wc.drewN n) (fun i _=>D.length - (intOf i).toNat)
     case atStart=>exact ⟨0,n9,n0q _,rfl,rfl⟩
     case round=>
      obtain ⟨h,nn,hh,rfl,rfl⟩:=hrel;by_cases ah:h<D.length
      ·obtain ⟨b5,bo,rfl,_,g0,g1,g2,g3,-⟩:=(EH.o.keptH (Kp.below (F.mono J))).atH h ah;obtain ⟨b6,bs,rfl,_,j0,j1,j2,j3,-⟩:=(bb.o.keptH (Kp.below (F.mono J))).atH h ah
       go_wp21
       go_quiet (fail)
       go_wp21
       go_roundw
       case rel=>exact ⟨h+1,_,by omega,by go_num,rfl⟩
       case measure=>simp [intOf];omega
      go_wp21
      go_roundw
      case rel=>exact ⟨j+1,by omega,by go_num,ac.trans ((zqk F _).mono ak),(F.block X xl).trans al.o,(F.block Y yl).trans an.o⟩
      case measure=>simp [intOf];omega
section
open Go.Maps
def gj (d e:ax):Bool:=di gc d.bj e.bj&&di (di fq) d.fields e.fields&&di (di gn) d.names e.names&&di (di ga) d.ba e.ba
theorem zqn (w:World) (B:Nat) (aC aS aF aN aT bC bS bF bN bT:Value) (d e:ax) (hd:nh (· <B) w aC aS aF aN aT d) (he:nh (· <B) w bC bS bF bN bT e) (c8:d.am=e.am) (hB:B<=w.heap.size):
 Calls prog 118 #[.agg #[aC,aS,aF,aN,aT],.agg #[bC,bS,bF,bN,bT]] w fun r w'=>r=.returned (.bool (gj d e))/\Bl w w':=by
 have b3:Bl w ((w.alloc (.cells #[aC,aS,aF,aN,aT] 36)).alloc (.cells #[bC,bS,bF,bN,bT] 36)):=((br _ _).alloc (nlq _) _).alloc (by simp) _;have ca:((w.alloc (.cells #[aC,aS,aF,aN,aT] 36)).alloc (.cells #[bC,bS,bF,bN,bT] 36)).heap[w.heap.size]? =some (.cells #[aC,aS,aF,aN,aT] 36 (0,0)):=(Below.heap_alloc _ _ _ (by simp)).trans (heap_alloc_new w _);have cj:((w.alloc (.cells #[aC,aS,aF,aN,aT] 36)).alloc (.cells #[bC,bS,bF,bN,bT] 36)).heap[w.heap.size+1]? =some (.cells #[bC,bS,bF,bN,bT] 36 (0,0)):=by have:=heap_alloc_new (w.alloc (.cells #[aC,aS,aF,aN,aT] 36)) (.cells #[bC,bS,bF,bN,bT] 36);simpa using this
 have ch:=hd.kept (Kp.below (b3.mono hB));have ci:=he.kept (Kp.below (b3.mono hB));have bs:=aj (zqm _ aC bC d.am (ch.C.monoC fun _ (h:_<B)=>by have:=b3.size;omega) (c8 ▸ ci.C.monoC fun _ (h:_<B)=>by have:=b3.size;omega));have c4:=aj ch;have cn:=aj ci;have cc:=aj b3;have bn:=aj ca;have bk:=aj cj;have a5:Hid (gj d e=(di gc d.bj e.bj&&di (di fq) d.fields e.fields&&di (di gn) d.names e.names&&di (di ga) d.ba e.ba)):=rfl;have a0:=bg ca 0 (x:=aC) rfl;have a1:=bg ca 1 (x:=aS) rfl;have b0:=bg cj 0 (x:=bC) rfl;have d4:w.heap.size<((w.alloc (.cells #[aC,aS,aF,aN,aT] 36)).alloc (.cells #[bC,bS,bF,bN,bT] 36)).heap.size:=by simp;omega
 have d5:w.heap.size+1<((w.alloc (.cells #[aC,aS,aF,aN,aT] 36)).alloc (.cells #[bC,bS,bF,bN,bT] 36)).heap.size:=by simp
 obtain ⟨ad,L,rfl,-,dj,-⟩:=hd.S;obtain ⟨aa,I,rfl,-,dk,-⟩:=hd.F;obtain ⟨ac,J,rfl,-,dl,-⟩:=hd.N;obtain ⟨ae,O,rfl,-,ds,-⟩:=hd.T;obtain ⟨ai,X,rfl,-,cr,-⟩:=he.S;obtain ⟨af,V,rfl,-,cs,-⟩:=he.F;obtain ⟨ah,W,rfl,-,ct,-⟩:=he.N;obtain ⟨ak,Y,rfl,-,cu,-⟩:=he.T;unfold maxLen at dj dk dl ds cr cs ct cu;clear hd he ch ci ca cj;have du:Hid (((w.alloc (.cells #[aC,.slice ad d.bj.length L,.slice aa d.fields.length I,.slice ac d.names.length J,.slice ae d.ba.length O] 36)).alloc (.cells #[bC,.slice ai e.bj.length X,.slice af e.fields.length V,.slice ah e.names.length W,.slice ak e.ba.length Y] 36)).heap.size=w.heap.size+2):=by show _=_;simp
 go_enter func118,ntmps118
 go_upto_region 2 with fail
 generalize hWW:((w.alloc (.cells #[aC,.slice ad d.bj.length L,.slice aa d.fields.length I,.slice ac d.names.length J,.slice ae d.ba.length O] 36)).alloc (.cells #[bC,.slice ai e.bj.length X,.slice af e.fields.length V,.slice ah e.names.length W,.slice ak e.ba.length Y] 36))=W1 at*;clear hWW;have dz:=cc.o.size;have bm:Hid (∀w',Bl W1 w'->Bl w w'):=fun w' h=>cc.o.trans (h.mono cc.o.size);by_cases av:d.bj.length=e.bj.length
 rotate_left
 ·have HR:Hid (gj d e=false):=a5.o.trans (by rw [y9 gc d.bj e.bj av];simp);have hx:¬(e.bj.length:Int)=d.bj.length:=by omega
  have b5:((e.bj.length:Int)==d.bj.length)=false:=beq_eq_false_iff_ne.2 hx;clear av;go_wp2_with (first | (go_at_call 185;refine bs.o.mono ?_;rintro r w7 ⟨rfl,G⟩;have D:=(G.block w.heap.size (by omega)).trans bn.o;have E:=(G.block (w.heap.size+1) (by omega)).trans bk.o;have p1:=bg D 1 (x:=.slice ad d.bj.length L) rfl;have p2:=bg D 2 (x:=.slice aa d.fields.length I) rfl;have p3:=bg D 3 (x:=.slice ac d.names.length J) rfl;have p4:=bg D 4 (x:=.slice ae d.ba.length O) rfl;have o1:=bg E 1 (x:=.slice ai e.bj.length X) rfl;have o2:=bg E 2 (x:=.slice af e.fields.length V) rfl;have o3:=bg E 3 (x:=.slice ah e.names.length W) rfl;have o4:=bg E 4 (x:=.slice ak e.ba.length Y) rfl;have za:=bz D;have zb:=bz E;have a2:=aj G;have a3:=aj (And.intro D E);clear G D E));go_ret;exact ⟨by rw [HR.o];rfl,bm.o _ a2.o⟩
 have bd:=aj av;by_cases au:d.fields.length=e.fields.length
 rotate_left
 ·have HR:Hid (gj d e=false):=a5.o.trans (by rw [y9 (di fq) d.fields e.fields au];simp);have hx:¬(d.fields.length:Int)=e.fields.length:=by omega
  have b5:((d.fields.length:Int)==e.fields.length)=false:=beq_eq_false_iff_ne.2 hx;clear au;go_wp2_with (first | (go_at_call 185;refine bs.o.mono ?_;rintro r w7 ⟨rfl,G⟩;have D:=(G.block w.heap.size (by omega)).trans bn.o;have E:=(G.block (w.heap.size+1) (by omega)).trans bk.o;have p1:=bg D 1 (x:=.slice ad d.bj.length L) rfl;have p2:=bg D 2 (x:=.slice aa d.fields.length I) rfl;have p3:=bg D 3 (x:=.slice ac d.names.length J) rfl;have p4:=bg D 4 (x:=.slice ae d.ba.length O) rfl;have o1:=bg E 1 (x:=.slice ai e.bj.length X) rfl;have o2:=bg E 2 (x:=.slice af e.fields.length V) rfl;have o3:=bg E 3 (x:=.slice ah e.names.length W) rfl;have o4:=bg E 4 (x:=.slice ak e.ba.length Y) rfl;have za:=bz D;have zb:=bz E;have a2:=aj G;have a3:=aj (And.intro D E);clear G D E));go_ret;exact ⟨by rw [HR.o];rfl,bm.o _ a2.o⟩
 have bc:=aj au;by_cases aw:d.names.length=e.names.length
 rotate_left
 ·have HR:Hid (gj d e=false):=a5.o.trans (by rw [y9 (di gn) d.names e.names aw];simp);have hx:¬(d.names.length:Int)=e.names.length:=by omega
  have b5:((d.names.length:Int)==e.names.length)=false:=beq_eq_false_iff_ne.2 hx;clear aw;go_wp2_with (first | (go_at_call 185;refine bs.o.mono ?_;rintro r w7 ⟨rfl,G⟩;have D:=(G.block w.heap.size (by omega)).trans bn.o;have E:=(G.block (w.heap.size+1) (by omega)).trans bk.o;have p1:=bg D 1 (x:=.slice ad d.bj.length L) rfl;have p2:=bg D 2 (x:=.slice aa d.fields.length I) rfl;have p3:=bg D 3 (x:=.slice ac d.names.length J) rfl;have p4:=bg D 4 (x:=.slice ae d.ba.length O) rfl;have o1:=bg E 1 (x:=.slice ai e.bj.length X) rfl;have o2:=bg E 2 (x:=.slice af e.fields.length V) rfl;have o3:=bg E 3 (x:=.slice ah e.names.length W) rfl;have o4:=bg E 4 (x:=.slice ak e.ba.length Y) rfl;have za:=bz D;have zb:=bz E;have a2:=aj G;have a3:=aj (And.intro D E);clear G D E));go_ret;exact ⟨by rw [HR.o];rfl,bm.o _ a2.o⟩
 have bf:=aj aw;by_cases Z:d.ba.length=e.ba.length
 rotate_left
 ·have HR:Hid (gj d e=false):=a5.o.trans (by rw [y9 (di ga) d.ba e.ba Z];simp);have hx:¬(d.ba.length:Int)=e.ba.length:=by omega
  have b5:((d.ba.length:Int)==e.ba.length)=false:=beq_eq_false_iff_ne.2 hx;clear Z;go_wp2_with (first | (go_at_call 185;refine bs.o.mono ?_;rintro r w7 ⟨rfl,G⟩;have D:=(G.block w.heap.size (by omega)).trans bn.o;have E:=(G.block (w.heap.size+1) (by omega)).trans bk.o;have p1:=bg D 1 (x:=.slice ad d.bj.length L) rfl;have p2:=bg D 2 (x:=.slice aa d.fields.length I) rfl;have p3:=bg D 3 (x:=.slice ac d.names.length J) rfl;have p4:=bg D 4 (x:=.slice ae d.ba.length O) rfl;have o1:=bg E 1 (x:=.slice ai e.bj.length X) rfl;have o2:=bg E 2 (x:=.slice af e.fields.length V) rfl;have o3:=bg E 3 (x:=.slice ah e.names.length W) rfl;have o4:=bg E 4 (x:=.slice ak e.ba.length Y) rfl;have za:=bz D;have zb:=bz E;have a2:=aj G;have a3:=aj (And.intro D E);clear G D E));go_ret;exact ⟨by rw [HR.o];rfl,bm.o _ a2.o⟩
 have a4:=aj Z;rw [<-av,<-au,<-aw,<-Z]at cn bk ⊢;clear av au aw Z;go_wp2_with (first | (go_at_call 185;refine bs.o.mono ?_;rintro r w7 ⟨rfl,G⟩;have D:=(G.block w.heap.size (by omega)).trans bn.o;have E:=(G.block (w.heap.size+1) (by omega)).trans bk.o;have p1:=bg D 1 (x:=.slice ad d.bj.length L) rfl;have p2:=bg D 2 (x:=.slice aa d.fields.length I) rfl;have p3:=bg D 3 (x:=.slice ac d.names.length J) rfl;have p4:=bg D 4 (x:=.slice ae d.ba.length O) rfl;have o1:=bg E 1 (x:=.slice ai d.bj.length X) rfl;have o2:=bg E 2 (x:=.slice af d.fields.length V) rfl;have o3:=bg E 3 (x:=.slice ah d.names.length W) rfl;have o4:=bg E 4 (x:=.slice ak d.ba.length Y) rfl;have za:=bz D;have zb:=bz E;have a2:=aj G;have a3:=aj (And.intro D E);clear G D E));have d3:=a2.o.size;have b7:Hid (nh (· <B) w7 aC (.slice ad d.bj.length L) (.slice aa d.fields.length I) (.slice ac d.names.length J) (.slice ae d.ba.length O) d):=c4.o.kept (Kp.below (a2.o.mono (by omega)));have b9:Hid (nh (· <B) w7 bC (.slice ai d.bj.length X) (.slice af d.fields.length V) (.slice ah d.names.length W) (.slice ak d.ba.length Y) e):=cn.o.kept (Kp.below (a2.o.mono (by omega)));have bi:Hid (∀n,Bl w (w7.drewN n)):=fun n=>bm.o _ (pa a2.o n);clear cr cs ct cu p1 p2 p3 p4 o1 o2 o3 o4 za zb;go_loopw [6] (fun i wx=>∃k:Nat,k<=d.bj.length/\i=.i k/\Hid (di gc d.bj e.bj=di gc (d.bj.drop k) (e.bj.drop k))/\∃n,wx=w7.drewN n) (fun i _=>d.bj.length - (intOf i).toNat)
 case atStart=>exact ⟨0,n0q _,rfl,rfl,0,rfl⟩
 case round=>
  rename World=>wr
  obtain ⟨k,hk,rfl,HQ,nz,A⟩:=hrel;have a8:Hid (nh (· <B) wr aC (.slice ad d.bj.length L) (.slice aa d.fields.length I) (.slice ac d.names.length J) (.slice ae d.ba.length O) d):=by rw [A];exact b7.o.kept ⟨nlq _,fun _ _ _=>rfl⟩
  have a9:Hid (nh (· <B) wr bC (.slice ai d.bj.length X) (.slice af d.fields.length V) (.slice ah d.names.length W) (.slice ak d.ba.length Y) e):=by rw [A];exact b9.o.kept ⟨nlq _,fun _ _ _=>rfl⟩
  have D:wr.heap[w.heap.size]? =some (.cells #[aC,.slice ad d.bj.length L,.slice aa d.fields.length I,.slice ac d.names.length J,.slice ae d.ba.length O] 36 (0,0)):=by rw [A];exact a3.o.1
  have E:wr.heap[w.heap.size+1]? =some (.cells #[bC,.slice ai d.bj.length X,.slice af d.fields.length V,.slice ah d.names.length W,.slice ak d.ba.length Y] 36 (0,0)):=by rw [A];exact a3.o.2
  have p1:=bg D 1 (x:=.slice ad d.bj.length L) rfl;have p2:=bg D 2 (x:=.slice aa d.fields.length I) rfl;have p3:=bg D 3 (x:=.slice ac d.names.length J) rfl;have p4:=bg D 4 (x:=.slice ae d.ba.length O) rfl;have o1:=bg E 1 (x:=.slice ai d.bj.length X) rfl;have o2:=bg E 2 (x:=.slice af d.fields.length V) rfl;have o3:=bg E 3 (x:=.slice ah d.names.length W) rfl;have o4:=bg E 4 (x:=.slice ak d.ba.length Y) rfl;have za:=bz D;have zb:=bz E;have ay:Hid (∀n,Bl w (wr.drewN n)):=by rw [A];exact fun n=>pa (bi.o nz) n
  have bb:Hid (∀m,∃n,wr.drewN m=w7.drewN n):=by rw [A];exact fun m=>⟨_,drewN_drewN _ _ _⟩
  have bl:=aj A;clear A D E;by_cases an:k<d.bj.length
  ·have a6:k<e.bj.length:=by have:=bd.o;omega
   obtain ⟨b,off,rfl,_,c0⟩:=a8.o.S.atI k an;obtain ⟨b2,b6,rfl,_,d0⟩:=a9.o.S.atI k a6;have az:=aj (zz gc d.bj e.bj k an a6);generalize d.bj[k]=x at*;generalize e.bj[k]=y at*;cases hs:gc x y
   ·have cm:¬x=y:=by simpa [gc]using hs
    have al:Hid (gj d e=false):=a5.o.trans (by rw [HQ.o,az.o,hs];simp);go_wp2
    go_quiet (fail);go_wp2
    go_ret;exact ⟨by rw [al.o];rfl,ay.o _⟩
   have cm:x=y:=by simpa [gc]using hs
   have al:Hid (di gc d.bj e.bj=di gc (d.bj.drop (k+1)) (e.bj.drop (k+1))):=HQ.o.trans (by rw [az.o,hs,Bool.true_and]);go_wp2
   go_quiet (fail);go_wp2
   go_roundw
   case rel=>exact ⟨k+1,by omega,by go_num,al.o,bb.o _⟩
   case measure=>simp [intOf];omega
  have cy:Hid (di gc d.bj e.bj=true):=HQ.o.trans (Aa gc _ _ k an bd.o)
  go_wp21
  clear an hk HQ p1 p2 p3 p4 o1 o2 o3 o4 za zb a8 a9 ay bb;go_loopw [7] (fun i wx=>∃k:Nat,k<=d.fields.length/\i=.i k/\Hid (di (di fq) d.fields e.fields=di (di fq) (d.fields.drop k) (e.fields.drop k))/\∃n,wx=w7.drewN n) (fun i _=>d.fields.length - (intOf i).toNat)
  case atStart=>exact ⟨0,n0q _,rfl,rfl,nz,bl.o⟩
  case round=>
   rename World=>wr
   obtain ⟨k,hk,rfl,HQ,nz,A⟩:=hrel;have a8:Hid (nh (· <B) wr aC (.slice ad d.bj.length L) (.slice aa d.fields.length I) (.slice ac d.names.length J) (.slice ae d.ba.length O) d):=by rw [A];exact b7.o.kept ⟨nlq _,fun _ _ _=>rfl⟩
   have a9:Hid (nh (· <B) wr bC (.slice ai d.bj.length X) (.slice af d.fields.length V) (.slice ah d.names.length W) (.slice ak d.ba.length Y) e):=by rw [A];exact b9.o.kept ⟨nlq _,fun _ _ _=>rfl⟩
   have D:wr.heap[w.heap.size]? =some (.cells #[aC,.slice ad d.bj.length L,.slice aa d.fields.length I,.slice ac d.names.length J,.slice ae d.ba.length O] 36 (0,0)):=by rw [A];exact a3.o.1
   have E:wr.heap[w.heap.size+1]? =some (.cells #[bC,.slice ai d.bj.length X,.slice af d.fields.length V,.slice ah d.names.length W,.slice ak d.ba.length Y] 36 (0,0)):=by rw [A];exact a3.o.2
   have p1:=bg D 1 (x:=.slice ad d.bj.length L) rfl;have p2:=bg D 2 (x:=.slice aa d.fields.length I) rfl;have p3:=bg D 3 (x:=.slice ac d.names.length J) rfl;have p4:=bg D 4 (x:=.slice ae d.ba.length O) rfl;have o1:=bg E 1 (x:=.slice ai d.bj.length X) rfl;have o2:=bg E 2 (x:=.slice af d.fields.length V) rfl;have o3:=bg E 3 (x:=.slice ah d.names.length W) rfl;have o4:=bg E 4 (x:=.slice ak d.ba.length Y) rfl;have za:=bz D;have zb:=bz E;have ay:Hid (∀n,Bl w (wr.drewN n)):=by rw [A];exact fun n=>pa (bi.o nz) n
   have bb:Hid (∀m,∃n,wr.drewN m=w7.drewN n):=by rw [A];exact fun m=>⟨_,drewN_drewN _ _ _⟩
   have bl:=aj A;clear A D E;by_cases an:k<d.fields.length
   ·have a6:k<e.fields.length:=by have:=bc.o;omega
    obtain ⟨b,off,co,cv,rfl,_,c0,su⟩:=a8.o.F.atSl k an;obtain ⟨b2,b6,cp,cx,rfl,_,d0,sv⟩:=a9.o.F.atSl k a6;have az:=aj (zz (di fq) d.fields e.fields k an a6);have HC:=aj (fun n=>zoj (wr.drewN n) _ _ _ _ d.fields[k] e.fields[k] (su.kept ⟨nlq _,fun _ _ _=>rfl⟩ fun _ _ h=>h) (sv.kept ⟨nlq _,fun _ _ _=>rfl⟩ fun _ _ h=>h));clear su sv;generalize d.fields[k]=x at*;generalize e.fields[k]=y at*;cases hs:di fq x y
    ·rw [hs]at HC;have al:Hid (gj d e=false):=a5.o.trans (by rw [HQ.o,az.o,hs];simp);clear hs;go_wp2
     go_quiet (first | (go_at_call 186;exact Calls.quiet_of (HC.o _)));go_wp2
     go_ret;exact ⟨by rw [al.o];rfl,ay.o _⟩
    rw [hs]at HC;have al:Hid (di (di fq) d.fields e.fields=di (di fq) (d.fields.drop (k+1)) (e.fields.drop (k+1))):=HQ.o.trans (by rw [az.o,hs,Bool.true_and]);clear hs;go_wp2
    go_quiet (first | (go_at_call 186;exact Calls.quiet_of (HC.o _)));go_wp2
    go_roundw
    case rel=>exact ⟨k+1,by omega,by go_num,al.o,bb.o _⟩
    case measure=>simp [intOf];omega
   have c1:Hid (di (di fq) d.fields e.fields=true):=HQ.o.trans (Aa (di fq) _ _ k an bc.o)
   go_wp21
   clear an hk HQ p1 p2 p3 p4 o1 o2 o3 o4 za zb a8 a9 ay bb;go_loopw [8] (fun i wx=>∃k:Nat,k<=d.names.length/\i=.i k/\Hid (di (di gn) d.names e.names=di (di gn) (d.names.drop k) (e.names.drop k))/\∃n,wx=w7.drewN n) (fun i _=>d.names.length - (intOf i).toNat)
   case atStart=>exact ⟨0,n0q _,rfl,rfl,nz,bl.o⟩
   case round=>
    rename World=>wr
    obtain ⟨k,hk,rfl,HQ,nz,A⟩:=hrel;have a8:Hid (nh (· <B) wr aC (.slice ad d.bj.length L) (.slice aa d.fields.length I) (.slice ac d.names.length J) (.slice ae d.ba.length O) d):=by rw [A];exact b7.o.kept ⟨nlq _,fun _ _ _=>rfl⟩
    have a9:Hid (nh (· <B) wr bC (.slice ai d.bj.length X) (.slice af d.fields.length V) (.slice ah d.names.length W) (.slice ak d.ba.length Y) e):=by rw [A];exact b9.o.kept ⟨nlq _,fun _ _ _=>rfl⟩
    have D:wr.heap[w.heap.size]? =some (.cells #[aC,.slice ad d.bj.length L,.slice aa d.fields.length I,.slice ac d.names.length J,.slice ae d.ba.length O] 36 (0,0)):=by rw [A];exact a3.o.1
    have E:wr.heap[w.heap.size+1]? =some (.cells #[bC,.slice ai d.bj.length X,.slice af d.fields.length V,.slice ah d.names.length W,.slice ak d.ba.length Y] 36 (0,0)):=by rw [A];exact a3.o.2
    have p1:=bg D 1 (x:=.slice ad d.bj.length L) rfl;have p2:=bg D 2 (x:=.slice aa d.fields.length I) rfl;have p3:=bg D 3 (x:=.slice ac d.names.length J) rfl;have p4:=bg D 4 (x:=.slice ae d.ba.length O) rfl;have o1:=bg E 1 (x:=.slice ai d.bj.length X) rfl;have o2:=bg E 2 (x:=.slice af d.fields.length V) rfl;have o3:=bg E 3 (x:=.slice ah d.names.length W) rfl;have o4:=bg E 4 (x:=.slice ak d.ba.length Y) rfl;have za:=bz D;have zb:=bz E;have ay:Hid (∀n,Bl w (wr.drewN n)):=by rw [A];exact fun n=>pa (bi.o nz) n
    have bb:Hid (∀m,∃n,wr.drewN m=w7.drewN n):=by rw [A];exact fun m=>⟨_,drewN_drewN _ _ _⟩
    have bl:=aj A;clear A D E;by_cases an:k<d.names.length
    ·have a6:k<e.names.length:=by have:=bf.o;omega
     obtain ⟨b,off,co,cv,rfl,c6,c0,su⟩:=a8.o.N.atSl k an;obtain ⟨b2,b6,cp,cx,rfl,c7,d0,sv⟩:=a9.o.N.atSl k a6;have az:=aj (zz (di gn) d.names e.names k an a6);have cf:=aj su;have b1:=aj sv;have ck:d.names[k].length<=maxLen:=by obtain ⟨_,_,e1,_,h,_⟩:=su;cases e1;exact h
     unfold maxLen at ck;clear su sv;generalize d.names[k]=x at*;generalize e.names[k]=y at*;have df:(0:Int)<=k:=by omega
     have dg:(k:Int)<d.names.length:=by omega
     by_cases a7:x.length=y.length
     rotate_left
     ·have al:Hid (gj d e=false):=a5.o.trans (by rw [HQ.o,az.o,y9 gn x y a7];simp);have b5:((x.length:Int)==y.length)=false:=beq_eq_false_iff_ne.2 (by omega);clear a7;go_wp2
      go_quiet (fail);go_wp2
      go_ret;exact ⟨by rw [al.o];rfl,ay.o _⟩
     have bo:=aj a7;rw [<-a7]at d0 b1;clear a7;go_wp2
     go_quiet (fail);go_wp2
     go_loopw [9] (fun i wx=>∃j:Nat,j<=x.length/\i=.i j/\Hid (di gn x y=di gn (x.drop j) (y.drop j))/\∃n,wx=wr.drewN n) (fun i _=>x.length - (intOf i).toNat)
     case atStart=>exact ⟨0,n0q _,rfl,rfl,_,rfl⟩
     case round=>
      obtain ⟨j,hj,rfl,HJ,n2,rfl⟩:=hrel;by_cases bh:j<x.length
      ·have b4:j<y.length:=by have:=bo.o;omega
       obtain ⟨bx,ox,rfl,_,f0,_⟩:=cf.o.atS j bh;obtain ⟨c5,oy,rfl,_,g0,_⟩:=b1.o.atS j b4;have bu:=aj (zz gn x y j bh b4);have c9:(0:Int)<=j:=by omega
       have dd:(j:Int)<x.length:=by omega
       generalize x[j]=s at*;generalize y[j]=s' at*;cases hs:gn s s'
       ·have cm:(s.toList==s'.toList)=false:=hs;have al:Hid (gj d e=false):=a5.o.trans (by rw [HQ.o,az.o,HJ.o,bu.o,hs];simp);go_wp2
        go_quiet (fail);go_wp2
        go_ret;exact ⟨by rw [al.o];rfl,pa (ay.o n2) _⟩
       have cm:(s.toList==s'.toList)=true:=hs;have ce:Hid (di gn x y=di gn (x.drop (j+1)) (y.drop (j+1))):=HJ.o.trans (by rw [bu.o,hs,Bool.true_and]);go_wp2
       go_quiet (fail);go_wp2
       go_roundw
       case rel=>exact ⟨j+1,by omega,by go_num,ce.o,_,rfl⟩
       case measure=>simp [intOf];omega
      have al:Hid (di (di gn) d.names e.names=di (di gn) (d.names.drop (k+1)) (e.names.drop (k+1))):=HQ.o.trans (by rw [az.o,HJ.o,Aa gn x y j bh bo.o,Bool.true_and]);go_wp2
      go_roundw
      case rel=>exact ⟨k+1,by omega,by go_num,al.o,bb.o n2⟩
      case measure=>simp [intOf];omega
    have c2:Hid (di (di gn) d.names e.names=true):=HQ.o.trans (Aa (di gn) _ _ k an bf.o)
    go_wp21
    clear an hk HQ p1 p2 p3 p4 o1 o2 o3 o4 za zb a8 a9 ay bb;go_loopw [10] (fun i wx=>∃k:Nat,k<=d.ba.length/\i=.i k/\Hid (di (di ga) d.ba e.ba=di (di ga) (d.ba.drop k) (e.ba.drop k))/\∃n,wx=w7.drewN n) (fun i _=>d.ba.length - (intOf i).toNat)
    case atStart=>exact ⟨0,n0q _,rfl,rfl,nz,bl.o⟩
    case round=>
     rename World=>wr
     obtain ⟨k,hk,rfl,HQ,nz,A⟩:=hrel;have a8:Hid (nh (· <B) wr aC (.slice ad d.bj.length L) (.slice aa d.fields.length I) (.slice ac d.names.length J) (.slice ae d.ba.length O) d):=by rw [A];exact b7.o.kept ⟨nlq _,fun _ _ _=>rfl⟩
     have a9:Hid (nh (· <B) wr bC (.slice ai d.bj.length X) (.slice af d.fields.length V) (.slice ah d.names.length W) (.slice ak d.ba.length Y) e):=by rw [A];exact b9.o.kept ⟨nlq _,fun _ _ _=>rfl⟩
     have D:wr.heap[w.heap.size]? =some (.cells #[aC,.slice ad d.bj.length L,.slice aa d.fields.length I,.slice ac d.names.length J,.slice ae d.ba.length O] 36 (0,0)):=by rw [A];exact a3.o.1
     have E:wr.heap[w.heap.size+1]? =some (.cells #[bC,.slice ai d.bj.length X,.slice af d.fields.length V,.slice ah d.names.length W,.slice ak d.ba.length Y] 36 (0,0)):=by rw [A];exact a3.o.2
     have p1:=bg D 1 (x:=.slice ad d.bj.length L) rfl;have p2:=bg D 2 (x:=.slice aa d.fields.length I) rfl;have p3:=bg D 3 (x:=.slice ac d.names.length J) rfl;have p4:=bg D 4 (x:=.slice ae d.ba.length O) rfl;have o1:=bg E 1 (x:=.slice ai d.bj.length X) rfl;have o2:=bg E 2 (x:=.slice af d.fields.length V) rfl;have o3:=bg E 3 (x:=.slice ah d.names.length W) rfl;have o4:=bg E 4 (x:=.slice ak d.ba.length Y) rfl;have za:=bz D;have zb:=bz E;have ay:Hid (∀n,Bl w (wr.drewN n)):=by rw [A];exact fun n=>pa (bi.o nz) n
     have bb:Hid (∀m,∃n,wr.drewN m=w7.drewN n):=by rw [A];exact fun m=>⟨_,drewN_drewN _ _ _⟩
     have bl:=aj A;clear A D E;by_cases an:k<d.ba.length
     ·have a6:k<e.ba.length:=by have:=a4.o;omega
      obtain ⟨b,off,co,cv,rfl,c6,c0,su⟩:=a8.o.T.atSl k an;obtain ⟨b2,b6,cp,cx,rfl,c7,d0,sv⟩:=a9.o.T.atSl k a6;have az:=aj (zz (di ga) d.ba e.ba k an a6);have cf:=aj su;have b1:=aj sv;have ck:d.ba[k].length<=maxLen:=by obtain ⟨_,_,e1,_,h,_⟩:=su;cases e1;exact h
      unfold maxLen at ck;clear su sv;generalize d.ba[k]=x at*;generalize e.ba[k]=y at*;have df:(0:Int)<=k:=by omega
      have dg:(k:Int)<d.ba.length:=by omega
      by_cases a7:x.length=y.length
      rotate_left
      ·have al:Hid (gj d e=false):=a5.o.trans (by rw [HQ.o,az.o,y9 ga x y a7];simp);have b5:((x.length:Int)==y.length)=false:=beq_eq_false_iff_ne.2 (by omega);clear a7;go_wp2
       go_quiet (fail);go_wp2
       go_ret;exact ⟨by rw [al.o];rfl,ay.o _⟩
      have bo:=aj a7;rw [<-a7]at d0 b1;clear a7;go_wp2
      go_quiet (fail);go_wp2
      go_loopw [11] (fun i wx=>∃j:Nat,j<=x.length/\i=.i j/\Hid (di ga x y=di ga (x.drop j) (y.drop j))/\∃n,wx=wr.drewN n) (fun i _=>x.length - (intOf i).toNat)
      case atStart=>exact ⟨0,n0q _,rfl,rfl,_,rfl⟩
      case round=>
       obtain ⟨j,hj,rfl,HJ,n2,rfl⟩:=hrel;by_cases bh:j<x.length
       ·have b4:j<y.length:=by have:=bo.o;omega
        obtain ⟨bx,ox,rfl,_,f0,f1⟩:=cf.o.atT j bh;obtain ⟨c5,oy,rfl,_,g0,g1⟩:=b1.o.atT j b4;have bu:=aj (zz ga x y j bh b4);have c9:(0:Int)<=j:=by omega
        have dd:(j:Int)<x.length:=by omega
        have d1:=A9 x[j] y[j];have d2:=zx;generalize x[j]=s at*;generalize y[j]=s' at*;cases hs:ga s s'
        ·have al:Hid (gj d e=false):=a5.o.trans (by rw [HQ.o,az.o,HJ.o,bu.o,hs];simp);go_wp2
         go_quiet (fail);go_wp2
         go_ret;exact ⟨by rw [al.o];rfl,pa (ay.o n2) _⟩
        have ce:Hid (di ga x y=di ga (x.drop (j+1)) (y.drop (j+1))):=HJ.o.trans (by rw [bu.o,hs,Bool.true_and]);go_wp2
        go_quiet (fail);go_wp2
        go_roundw
        case rel=>exact ⟨j+1,by omega,by go_num,ce.o,_,rfl⟩
        case measure=>simp [intOf];omega
       have al:Hid (di (di ga) d.ba e.ba=di (di ga) (d.ba.drop (k+1)) (e.ba.drop (k+1))):=HQ.o.trans (by rw [az.o,HJ.o,Aa ga x y j bh bo.o,Bool.true_and]);go_wp2
       go_roundw
       case rel=>exact ⟨k+1,by omega,by go_num,al.o,bb.o n2⟩
       case measure=>simp [intOf];omega
     have c3:Hid (di (di ga) d.ba e.ba=true):=HQ.o.trans (Aa (di ga) _ _ k an a4.o);have HR:Hid (gj d e=true):=a5.o.trans (by rw [cy.o,c1.o,c2.o,c3.o];rfl)
     go_wp21
     go_ret;exact ⟨by rw [HR.o];rfl,ay.o 0⟩
end
end Go.Proofs.YtjdnmblggdobgaaGreat
