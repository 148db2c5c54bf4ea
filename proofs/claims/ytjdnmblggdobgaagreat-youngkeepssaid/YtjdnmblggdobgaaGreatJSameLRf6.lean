import Derived.Test.YtjdnmblggdobgaaGreatJMemChkMeth
import Derived.Test.YtjdnmblggdobgaaGreatJTk2Dies
import Derived.Deep.RegionWith
import Derived.Deep.DeepCutAuto
import Derived.Test.YtjdnmblggdobgaaGreatJLErrLRf4
set_option maxHeartbeats 20000000
set_option maxRecDepth 100000
namespace Go.Proofs.YtjdnmblggdobgaaGreat
open Go.RowKit
theorem zqs (w:World) (u v:Value) (l:List ew) (D:SL 2 RK (· <w.heap.size) w u l) (E:SL 2 RK (· <w.heap.size) w v l):
 Calls Tryz.prog 227 #[u,v] w fun r w'=>r=.returned (.bool true)/\∃n,w'=w.drewN n:=by
 have G:=ae D;have I:=ae E;obtain ⟨L,X,rfl,_,J,-⟩:=D;obtain ⟨N,Y,rfl,-⟩:=E;unfold maxLen at J;go_enter Tryz.func227,Tryz.ntmps227;go_wp2
 go_loopw [5] (fun i wr=>∃k:Nat,k<=l.length/\i=.int .i64 k/\∃n,wr=w.drewN n) (fun i _=>l.length - (intOf i).toNat)
 case atStart=>exact ⟨0,n0q _,rfl,0,rfl⟩
 case round=>
  obtain ⟨k,hk,rfl,n,rfl⟩:=hrel;by_cases A:k<l.length
  ·obtain ⟨b,off,rfl,_,V,W,_⟩:=G.o.atK k A;obtain ⟨O,F,rfl,_,Z,d1,_⟩:=I.o.atK k A;go_wp2
   go_quiet (fail);go_wp2
   go_roundw
   case rel=>exact ⟨k+1,by omega,by go_num,_,rfl⟩
   case measure=>simp [intOf];omega
  go_wp2
  go_ret;exact ⟨rfl,n,rfl⟩
theorem zqt (w:World) (u v:Value) (l:List bg) (D:SL 3 RF (· <w.heap.size) w u l) (E:SL 3 RF (· <w.heap.size) w v l):
 Calls Tryz.prog 186 #[u,v] w fun r w'=>r=.returned (.bool true)/\∃n,w'=w.drewN n:=by
 have G:=ae D;have I:=ae E;obtain ⟨L,Y,rfl,_,J,-⟩:=D;obtain ⟨N,Z,rfl,-⟩:=E;unfold maxLen at J;go_enter Tryz.func186,Tryz.ntmps186;go_wp2
 go_loopw [5] (fun i wr=>∃k:Nat,k<=l.length/\i=.int .i64 k/\∃n,wr=w.drewN n) (fun i _=>l.length - (intOf i).toNat)
 case atStart=>exact ⟨0,n0q _,rfl,0,rfl⟩
 case round=>
  obtain ⟨k,hk,rfl,n,rfl⟩:=hrel;by_cases A:k<l.length
  ·obtain ⟨b,off,rfl,_,V,W,X,_⟩:=G.o.atF k A;obtain ⟨O,F,rfl,_,d0,d1,d2,_⟩:=I.o.atF k A;go_wp2
   go_quiet (fail);go_wp2
   go_roundw
   case rel=>exact ⟨k+1,by omega,by go_num,_,rfl⟩
   case measure=>simp [intOf];omega
  go_wp2
  go_ret;exact ⟨rfl,n,rfl⟩
theorem zqu {B:Nat} {w w':World} (h:Below B w w') (n:Nat):Below B w (w'.drewN n):=⟨h.os,h.tape,h.output,h.size,h.block⟩
structure Pair (wr W:World) (px py:Value) (t:Nat) (cx cy:Array Value):Prop where
 at_:∃X Y,px=.pointer (some ⟨X,0,none⟩)/\py=.pointer (some ⟨Y,0,none⟩)/\wr.heap.size<=X/\wr.heap.size<=Y/\W.heap[X]? =some (.cells cx t (0,0))/\W.heap[Y]? =some (.cells cy t (0,0))
 below:Below wr.heap.size wr W
theorem Pair.one (wr:World) (t:Nat) (A D:Array Value):Pair wr ((wr.alloc (.cells A t)).alloc (.cells D t)).drew (.pointer (some ⟨wr.heap.size,0,none⟩)) (.pointer (some ⟨wr.heap.size+1,0,none⟩)) t A D:=by
 refine ⟨⟨_,_,rfl,rfl,nlq _,by omega,?_,?_⟩,(((br _ _).alloc (nlq _) _).alloc (by simp) _).drew⟩
 ·show ((wr.heap.push _).push _)[wr.heap.size]? =_;rw [Array.getElem?_push,if_neg (by simp)];exact Array.getElem?_push_size
 show ((wr.heap.push _).push _)[wr.heap.size+1]? =_;rw [Array.getElem?_push,if_pos (by simp)]
theorem Pair.two (wr:World) (t:Nat) (A D:Array Value):Pair wr ((wr.alloc (.cells D t)).alloc (.cells A t)).drew (.pointer (some ⟨wr.heap.size+1,0,none⟩)) (.pointer (some ⟨wr.heap.size,0,none⟩)) t A D:=by obtain ⟨⟨X,Y,h1,E,F,G,I,J⟩,L⟩:=Pair.one wr t D A;exact ⟨⟨Y,X,E,h1,G,F,J,I⟩,L⟩
theorem zqv {W:World} {X:Nat} {o:Obj} (h:W.heap[X]? =some o):X<W.heap.size:=(Array.getElem?_eq_some_iff.1 h).1
theorem SL.upF {B:Nat} {w w':World} {v:Value} {l:List bg} (h:SL 3 RF (· <B) w v l) (A:Below B w w') (D:B<=w.heap.size):SL 3 RF (· <w'.heap.size) w' v l:=(h.keptF (Kp.below A)).monoF fun _ E=>ll3 E (lt3 D A.size)
theorem SL.upK {B:Nat} {w w':World} {v:Value} {l:List ew} (h:SL 2 RK (· <B) w v l) (A:Below B w w') (D:B<=w.heap.size):SL 2 RK (· <w'.heap.size) w' v l:=(h.keptK (Kp.below A)).monoK fun _ E=>ll3 E (lt3 D A.size)
theorem zqw (w:World) (u v:Value) (l:List ap) (hu:SL 4 RC (· <w.heap.size) w u l) (hv:SL 4 RC (· <w.heap.size) w v l):
 Calls Tryz.prog 185 #[u,v] w fun r w'=>r=.returned (.bool true)/\Below w.heap.size w w':=by
 have HU:=ae hu;have HV:=ae hv;obtain ⟨au,cu,rfl,_,hl,-⟩:=hu;obtain ⟨av,cv,rfl,-⟩:=hv;unfold maxLen at hl;go_enter Tryz.func185,Tryz.ntmps185;go_wp2
 go_loopw [5] (fun i wr=>∃k:Nat,k<=l.length/\i=.int .i64 k/\Below w.heap.size w wr) (fun i _=>l.length - (intOf i).toNat)
 case atStart=>exact ⟨0,n0q _,rfl,br _ _⟩
 case round=>
  obtain ⟨k,hk,rfl,ad⟩:=hrel;have E:=ad.size;by_cases a6:k<l.length
  rotate_left
  ·go_wp2_with fail;go_ret;exact ⟨rfl,ad⟩
  obtain ⟨b,off,vf,vm,rfl,b4,e0,e1,e2,e3,ef,em,-⟩:=(HU.o.keptC (Kp.below ad)).atC k a6;obtain ⟨b',bn,cc,ci,rfl,bi,d0,d1,d2,d3,a3,a5,-⟩:=(HV.o.keptC (Kp.below ad)).atC k a6;have EF:=ae ef;have EM:=ae em;have a9:=ae a3;have be:=ae a5;obtain ⟨fo,cf,rfl,-⟩:=ef;obtain ⟨mo,cm,rfl,_,bh,-⟩:=em;obtain ⟨ay,ax,rfl,-⟩:=a3;obtain ⟨ag,af,rfl,-⟩:=a5;unfold maxLen at bh;generalize l[k]=c at*;obtain ⟨O,bo,A,ba⟩:=c
  dsimp only at*
  have bz:Hid (Below wr.heap.size wr wr):=br _ _;go_wp2_with fail;go_cut [6,7] (fun px py W=>Pair wr W px py 162 #[.string O,.string bo,.slice fo A.length cf,.slice mo ba.length cm] #[.string O,.string bo,.slice ay A.length ax,.slice ag ba.length af])
  case first=>
   go_region
   all_goals
    go_wp2_with fail
    go_meet
    first | exact Pair.one _ _ _ _ | exact Pair.two _ _ _ _
  case rest=>
   obtain ⟨⟨X,Y,rfl,rfl,hX,hY,L,N⟩,F⟩:=hcut;have al:=ae L;have aq:=ae N;have xl:=zqv L;have yl:=zqv N;have x0:=aw L 0 (x:=.string O) rfl;have x1:=aw L 1 (x:=.string bo) rfl;have x2:=aw L 2 (x:=.slice fo A.length cf) rfl;have x3:=aw L 3 (x:=.slice mo ba.length cm) rfl;have y0:=aw N 0 (x:=.string O) rfl;have y1:=aw N 1 (x:=.string bo) rfl;have y2:=aw N 2 (x:=.slice ay A.length ax) rfl;have y3:=aw N 3 (x:=.slice ag ba.length af) rfl;clear L N e0 e1 e2 e3 d0 d1 d2 d3;go_wp2_with fail;refine (zqt _ _ _ A (EF.o.upF (F.mono E) E) (a9.o.upF (F.mono E) E)).mono ?_;rintro r w2 ⟨rfl,n2,rfl⟩;go_wp2_with fail;go_loopw [8] (fun i wi=>∃j:Nat,j<=ba.length/\i=.int .i64 j/\Below wr.heap.size wr wi/\Hid (wi.heap[X]? =some (.cells #[.string O,.string bo,.slice fo A.length cf,.slice mo ba.length cm] 162 (0,0)))/\Hid (wi.heap[Y]? =some (.cells #[.string O,.string bo,.slice ay A.length ax,.slice ag ba.length af] 162 (0,0)))) (fun i _=>ba.length - (intOf i).toNat)
   case atStart=>exact ⟨0,n0q _,rfl,zqu F _,al.o,aq.o⟩
   case round=>
    rename World=>wi
    obtain ⟨j,hj,rfl,ac,ak,an⟩:=hrel;have aj:=ac.size;clear x0 x1 x2 x3 y0 y1 y2 y3 xl yl F al aq;have xl:=zqv ak.o;have yl:=zqv an.o;have x3:=aw ak.o 3 (x:=.slice mo ba.length cm) rfl;have y3:=aw an.o 3 (x:=.slice ag ba.length af) rfl;by_cases ai:j<ba.length
    rotate_left
    ·go_wp2_with fail;go_roundw
     case rel=>exact ⟨k+1,by omega,by go_num,ad.trans (ac.mono E)⟩
     case measure=>simp [intOf];omega
    obtain ⟨b2,bs,va,vh,rfl,bl,q0,q1,q2,q3,q4,q5,q6,q7,q8,ea,eh,-⟩:=(EM.o.keptM (Kp.below (ac.mono E))).atM j ai;obtain ⟨b3,bu,b7,ce,rfl,bm,s0,s1,s2,s3,s4,s5,s6,s7,s8,a2,a4,-⟩:=(be.o.keptM (Kp.below (ac.mono E))).atM j ai;have EA:=ae ea;have EH:=ae eh;have a8:=ae a2;have bc:=ae a4;obtain ⟨ao,ca,rfl,-⟩:=ea;obtain ⟨ho,ch,rfl,_,bf,-⟩:=eh;obtain ⟨az,a0,rfl,-⟩:=a2;obtain ⟨a7,a1,rfl,-⟩:=a4;unfold maxLen at bf;generalize ba[j]=m at*;obtain ⟨V,I,args,⟨rk,rc⟩,Z,G,aa,D⟩:=m
    dsimp only at*
    go_wp2_with fail;go_cut [9,10] (fun px py W=>Pair wi W px py 159 #[.string V,.bool I,.slice ao args.length ca,.int .i64 rk,.string rc,.int .i64 Z,.int .i64 G,.string aa,.slice ho D.length ch] #[.string V,.bool I,.slice az args.length a0,.int .i64 rk,.string rc,.int .i64 Z,.int .i64 G,.string aa,.slice a7 D.length a1])
    case first=>
     go_region
     all_goals
      go_wp2_with fail
      go_meet
      first | exact Pair.one _ _ _ _ | exact Pair.two _ _ _ _
    case rest=>
     obtain ⟨⟨X2,Y2,rfl,rfl,b0,b1,L,N⟩,F⟩:=hcut;have al:=ae L;have aq:=ae N;have cj:=zqv L;have cl:=zqv N;have m0:=aw L 0 (x:=.string V) rfl;have m1:=aw L 1 (x:=.bool I) rfl;have m2:=aw L 2 (x:=.slice ao args.length ca) rfl;have m3:=aw L 3 (x:=.int .i64 rk) rfl;have m4:=aw L 4 (x:=.string rc) rfl;have m5:=aw L 5 (x:=.int .i64 Z) rfl;have m6:=aw L 6 (x:=.int .i64 G) rfl;have m7:=aw L 7 (x:=.string aa) rfl;have m8:=aw L 8 (x:=.slice ho D.length ch) rfl;have n0:=aw N 0 (x:=.string V) rfl;have n1:=aw N 1 (x:=.bool I) rfl;have n2:=aw N 2 (x:=.slice az args.length a0) rfl;have n3:=aw N 3 (x:=.int .i64 rk) rfl;have n4:=aw N 4 (x:=.string rc) rfl;have n5:=aw N 5 (x:=.int .i64 Z) rfl;have n6:=aw N 6 (x:=.int .i64 G) rfl;have n7:=aw N 7 (x:=.string aa) rfl;have n8:=aw N 8 (x:=.slice a7 D.length a1) rfl;have J:w.heap.size<=wi.heap.size:=lt3 E aj;clear L N q0 q1 q2 q3 q4 q5 q6 q7 q8 s0 s1 s2 s3 s4 s5 s6 s7 s8 x3 y3;go_wp2_with fail;refine (zqs _ _ _ args (EA.o.upK (F.mono J) J) (a8.o.upK (F.mono J) J)).mono ?_;rintro r w3 ⟨rfl,n9,rfl⟩;go_wp2_with fail;go_loopw [11] (fun i wj=>∃(h n:Nat),h<=D.length/\i=.int .i64 h/\wj=wc.drewN n) (fun i _=>D.length - (intOf i).toNat)
     case atStart=>exact ⟨0,n9,n0q _,rfl,rfl⟩
     case round=>
      obtain ⟨h,nn,hh,rfl,rfl⟩:=hrel;by_cases ah:h<D.length
      ·obtain ⟨b5,bw,rfl,_,g0,g1,g2,g3,-⟩:=(EH.o.keptH (Kp.below (F.mono J))).atH h ah;obtain ⟨b6,bx,rfl,_,j0,j1,j2,j3,-⟩:=(bc.o.keptH (Kp.below (F.mono J))).atH h ah;go_wp2_with fail;go_quiet (fail);go_wp2_with fail;go_roundw
       case rel=>exact ⟨h+1,_,by omega,by go_num,rfl⟩
       case measure=>simp [intOf];omega
      go_wp2_with fail;go_roundw
      case rel=>exact ⟨j+1,by omega,by go_num,ac.trans ((zqu F _).mono aj),(F.block X xl).trans ak.o,(F.block Y yl).trans an.o⟩
      case measure=>simp [intOf];omega
end Go.Proofs.YtjdnmblggdobgaaGreat
namespace Go.Proofs.YtjdnmblggdobgaaGreat
open Go.RowKit Go.Maps
def fu (d e:bd):Bool:=cz fh d.ax e.ax&&cz (cz fb) d.fields e.fields&&cz (cz fv) d.names e.names&&cz (cz ff) d.aq e.aq
theorem zqx (w:World) (B:Nat) (aC aS aF aN aT bC bS bF bN bT:Value) (d e:bd) (hd:j9 (· <B) w aC aS aF aN aT d) (he:j9 (· <B) w bC bS bF bN bT e) (c8:d.aj=e.aj) (hB:B<=w.heap.size):
 Calls Tryz.prog 118 #[.agg #[aC,aS,aF,aN,aT],.agg #[bC,bS,bF,bN,bT]] w fun r w'=>r=.returned (.bool (fu d e))/\Below w.heap.size w w':=by
 have b1:Below w.heap.size w ((w.alloc (.cells #[aC,aS,aF,aN,aT] 36)).alloc (.cells #[bC,bS,bF,bN,bT] 36)):=((br _ _).alloc (nlq _) _).alloc (by simp) _;have ca:((w.alloc (.cells #[aC,aS,aF,aN,aT] 36)).alloc (.cells #[bC,bS,bF,bN,bT] 36)).heap[w.heap.size]? =some (.cells #[aC,aS,aF,aN,aT] 36 (0,0)):=(Below.heap_alloc _ _ _ (by simp)).trans (heap_alloc_new w _);have cj:((w.alloc (.cells #[aC,aS,aF,aN,aT] 36)).alloc (.cells #[bC,bS,bF,bN,bT] 36)).heap[w.heap.size+1]? =some (.cells #[bC,bS,bF,bN,bT] 36 (0,0)):=by have:=heap_alloc_new (w.alloc (.cells #[aC,aS,aF,aN,aT] 36)) (.cells #[bC,bS,bF,bN,bT] 36);simpa using this
 have ch:=hd.kept (Kp.below (b1.mono hB));have ci:=he.kept (Kp.below (b1.mono hB));have bu:=ae (zqw _ aC bC d.aj (ch.C.monoC fun _ (h:_<B)=>by have:=b1.size;omega) (c8 ▸ ci.C.monoC fun _ (h:_<B)=>by have:=b1.size;omega));have c4:=ae ch;have cn:=ae ci;have cc:=ae b1;have bo:=ae ca;have bl:=ae cj;have a5:Hid (fu d e=(cz fh d.ax e.ax&&cz (cz fb) d.fields e.fields&&cz (cz fv) d.names e.names&&cz (cz ff) d.aq e.aq)):=rfl;have a0:=aw ca 0 (x:=aC) rfl;have a1:=aw ca 1 (x:=aS) rfl;have b0:=aw cj 0 (x:=bC) rfl;have d5:w.heap.size<((w.alloc (.cells #[aC,aS,aF,aN,aT] 36)).alloc (.cells #[bC,bS,bF,bN,bT] 36)).heap.size:=by simp;omega
 have d6:w.heap.size+1<((w.alloc (.cells #[aC,aS,aF,aN,aT] 36)).alloc (.cells #[bC,bS,bF,bN,bT] 36)).heap.size:=by simp
 obtain ⟨ad,L,rfl,-,dk,-⟩:=hd.S;obtain ⟨aa,I,rfl,-,dl,-⟩:=hd.F;obtain ⟨ac,J,rfl,-,ds,-⟩:=hd.N;obtain ⟨af,O,rfl,-,du,-⟩:=hd.T;obtain ⟨ai,X,rfl,-,cr,-⟩:=he.S;obtain ⟨ag,V,rfl,-,cs,-⟩:=he.F;obtain ⟨ah,W,rfl,-,ct,-⟩:=he.N;obtain ⟨ak,Y,rfl,-,cu,-⟩:=he.T;unfold maxLen at dk dl ds du cr cs ct cu;clear hd he ch ci ca cj;have dz:Hid (((w.alloc (.cells #[aC,.slice ad d.ax.length L,.slice aa d.fields.length I,.slice ac d.names.length J,.slice af d.aq.length O] 36)).alloc (.cells #[bC,.slice ai e.ax.length X,.slice ag e.fields.length V,.slice ah e.names.length W,.slice ak e.aq.length Y] 36)).heap.size=w.heap.size+2):=by show _=_;simp
 go_enter Tryz.func118,Tryz.ntmps118
 go_upto_region 2 with fail
 generalize hWW:((w.alloc (.cells #[aC,.slice ad d.ax.length L,.slice aa d.fields.length I,.slice ac d.names.length J,.slice af d.aq.length O] 36)).alloc (.cells #[bC,.slice ai e.ax.length X,.slice ag e.fields.length V,.slice ah e.names.length W,.slice ak e.aq.length Y] 36))=W1 at*;clear hWW;have d1:=cc.o.size;have bn:Hid (∀w',Below W1.heap.size W1 w'->Below w.heap.size w w'):=fun w' h=>cc.o.trans (h.mono cc.o.size);by_cases au:d.ax.length=e.ax.length
 rotate_left
 ·have HR:Hid (fu d e=false):=a5.o.trans (by rw [zd9 fh d.ax e.ax au];simp);have hx:¬(e.ax.length:Int)=d.ax.length:=by omega
  have b4:((e.ax.length:Int)==d.ax.length)=false:=beq_eq_false_iff_ne.2 hx;clear au;go_wp2_with (first | (go_at_call 185;refine bu.o.mono ?_;rintro r w7 ⟨rfl,G⟩;have D:=(G.block w.heap.size (by omega)).trans bo.o;have E:=(G.block (w.heap.size+1) (by omega)).trans bl.o;have p1:=aw D 1 (x:=.slice ad d.ax.length L) rfl;have p2:=aw D 2 (x:=.slice aa d.fields.length I) rfl;have p3:=aw D 3 (x:=.slice ac d.names.length J) rfl;have p4:=aw D 4 (x:=.slice af d.aq.length O) rfl;have o1:=aw E 1 (x:=.slice ai e.ax.length X) rfl;have o2:=aw E 2 (x:=.slice ag e.fields.length V) rfl;have o3:=aw E 3 (x:=.slice ah e.names.length W) rfl;have o4:=aw E 4 (x:=.slice ak e.aq.length Y) rfl;have za:=bk D;have zb:=bk E;have a2:=ae G;have a3:=ae (And.intro D E);clear G D E));go_ret;exact ⟨by rw [HR.o];rfl,bn.o _ a2.o⟩
 have be:=ae au;by_cases ao:d.fields.length=e.fields.length
 rotate_left
 ·have HR:Hid (fu d e=false):=a5.o.trans (by rw [zd9 (cz fb) d.fields e.fields ao];simp);have hx:¬(d.fields.length:Int)=e.fields.length:=by omega
  have b4:((d.fields.length:Int)==e.fields.length)=false:=beq_eq_false_iff_ne.2 hx;clear ao;go_wp2_with (first | (go_at_call 185;refine bu.o.mono ?_;rintro r w7 ⟨rfl,G⟩;have D:=(G.block w.heap.size (by omega)).trans bo.o;have E:=(G.block (w.heap.size+1) (by omega)).trans bl.o;have p1:=aw D 1 (x:=.slice ad d.ax.length L) rfl;have p2:=aw D 2 (x:=.slice aa d.fields.length I) rfl;have p3:=aw D 3 (x:=.slice ac d.names.length J) rfl;have p4:=aw D 4 (x:=.slice af d.aq.length O) rfl;have o1:=aw E 1 (x:=.slice ai e.ax.length X) rfl;have o2:=aw E 2 (x:=.slice ag e.fields.length V) rfl;have o3:=aw E 3 (x:=.slice ah e.names.length W) rfl;have o4:=aw E 4 (x:=.slice ak e.aq.length Y) rfl;have za:=bk D;have zb:=bk E;have a2:=ae G;have a3:=ae (And.intro D E);clear G D E));go_ret;exact ⟨by rw [HR.o];rfl,bn.o _ a2.o⟩
 have bc:=ae ao;by_cases av:d.names.length=e.names.length
 rotate_left
 ·have HR:Hid (fu d e=false):=a5.o.trans (by rw [zd9 (cz fv) d.names e.names av];simp);have hx:¬(d.names.length:Int)=e.names.length:=by omega
  have b4:((d.names.length:Int)==e.names.length)=false:=beq_eq_false_iff_ne.2 hx;clear av;go_wp2_with (first | (go_at_call 185;refine bu.o.mono ?_;rintro r w7 ⟨rfl,G⟩;have D:=(G.block w.heap.size (by omega)).trans bo.o;have E:=(G.block (w.heap.size+1) (by omega)).trans bl.o;have p1:=aw D 1 (x:=.slice ad d.ax.length L) rfl;have p2:=aw D 2 (x:=.slice aa d.fields.length I) rfl;have p3:=aw D 3 (x:=.slice ac d.names.length J) rfl;have p4:=aw D 4 (x:=.slice af d.aq.length O) rfl;have o1:=aw E 1 (x:=.slice ai e.ax.length X) rfl;have o2:=aw E 2 (x:=.slice ag e.fields.length V) rfl;have o3:=aw E 3 (x:=.slice ah e.names.length W) rfl;have o4:=aw E 4 (x:=.slice ak e.aq.length Y) rfl;have za:=bk D;have zb:=bk E;have a2:=ae G;have a3:=ae (And.intro D E);clear G D E));go_ret;exact ⟨by rw [HR.o];rfl,bn.o _ a2.o⟩
 have bf:=ae av;by_cases Z:d.aq.length=e.aq.length
 rotate_left
 ·have HR:Hid (fu d e=false):=a5.o.trans (by rw [zd9 (cz ff) d.aq e.aq Z];simp);have hx:¬(d.aq.length:Int)=e.aq.length:=by omega
  have b4:((d.aq.length:Int)==e.aq.length)=false:=beq_eq_false_iff_ne.2 hx;clear Z;go_wp2_with (first | (go_at_call 185;refine bu.o.mono ?_;rintro r w7 ⟨rfl,G⟩;have D:=(G.block w.heap.size (by omega)).trans bo.o;have E:=(G.block (w.heap.size+1) (by omega)).trans bl.o;have p1:=aw D 1 (x:=.slice ad d.ax.length L) rfl;have p2:=aw D 2 (x:=.slice aa d.fields.length I) rfl;have p3:=aw D 3 (x:=.slice ac d.names.length J) rfl;have p4:=aw D 4 (x:=.slice af d.aq.length O) rfl;have o1:=aw E 1 (x:=.slice ai e.ax.length X) rfl;have o2:=aw E 2 (x:=.slice ag e.fields.length V) rfl;have o3:=aw E 3 (x:=.slice ah e.names.length W) rfl;have o4:=aw E 4 (x:=.slice ak e.aq.length Y) rfl;have za:=bk D;have zb:=bk E;have a2:=ae G;have a3:=ae (And.intro D E);clear G D E));go_ret;exact ⟨by rw [HR.o];rfl,bn.o _ a2.o⟩
 have a4:=ae Z;rw [<-au,<-ao,<-av,<-Z]at cn bl ⊢;clear au ao av Z;go_wp2_with (first | (go_at_call 185;refine bu.o.mono ?_;rintro r w7 ⟨rfl,G⟩;have D:=(G.block w.heap.size (by omega)).trans bo.o;have E:=(G.block (w.heap.size+1) (by omega)).trans bl.o;have p1:=aw D 1 (x:=.slice ad d.ax.length L) rfl;have p2:=aw D 2 (x:=.slice aa d.fields.length I) rfl;have p3:=aw D 3 (x:=.slice ac d.names.length J) rfl;have p4:=aw D 4 (x:=.slice af d.aq.length O) rfl;have o1:=aw E 1 (x:=.slice ai d.ax.length X) rfl;have o2:=aw E 2 (x:=.slice ag d.fields.length V) rfl;have o3:=aw E 3 (x:=.slice ah d.names.length W) rfl;have o4:=aw E 4 (x:=.slice ak d.aq.length Y) rfl;have za:=bk D;have zb:=bk E;have a2:=ae G;have a3:=ae (And.intro D E);clear G D E));have d4:=a2.o.size;have b6:Hid (j9 (· <B) w7 aC (.slice ad d.ax.length L) (.slice aa d.fields.length I) (.slice ac d.names.length J) (.slice af d.aq.length O) d):=c4.o.kept (Kp.below (a2.o.mono (by omega)));have b7:Hid (j9 (· <B) w7 bC (.slice ai d.ax.length X) (.slice ag d.fields.length V) (.slice ah d.names.length W) (.slice ak d.aq.length Y) e):=cn.o.kept (Kp.below (a2.o.mono (by omega)));have bi:Hid (∀n,Below w.heap.size w (w7.drewN n)):=fun n=>bn.o _ (ku a2.o n);clear cr cs ct cu p1 p2 p3 p4 o1 o2 o3 o4 za zb;go_loopw [6] (fun i wx=>∃k:Nat,k<=d.ax.length/\i=.int .i64 k/\Hid (cz fh d.ax e.ax=cz fh (d.ax.drop k) (e.ax.drop k))/\∃n,wx=w7.drewN n) (fun i _=>d.ax.length - (intOf i).toNat)
 case atStart=>exact ⟨0,n0q _,rfl,rfl,0,rfl⟩
 case round=>
  rename World=>wr
  obtain ⟨k,hk,rfl,HQ,nz,A⟩:=hrel;have a8:Hid (j9 (· <B) wr aC (.slice ad d.ax.length L) (.slice aa d.fields.length I) (.slice ac d.names.length J) (.slice af d.aq.length O) d):=by rw [A];exact b6.o.kept ⟨nlq _,fun _ _ _=>rfl⟩
  have a9:Hid (j9 (· <B) wr bC (.slice ai d.ax.length X) (.slice ag d.fields.length V) (.slice ah d.names.length W) (.slice ak d.aq.length Y) e):=by rw [A];exact b7.o.kept ⟨nlq _,fun _ _ _=>rfl⟩
  have D:wr.heap[w.heap.size]? =some (.cells #[aC,.slice ad d.ax.length L,.slice aa d.fields.length I,.slice ac d.names.length J,.slice af d.aq.length O] 36 (0,0)):=by rw [A];exact a3.o.1
  have E:wr.heap[w.heap.size+1]? =some (.cells #[bC,.slice ai d.ax.length X,.slice ag d.fields.length V,.slice ah d.names.length W,.slice ak d.aq.length Y] 36 (0,0)):=by rw [A];exact a3.o.2
  have p1:=aw D 1 (x:=.slice ad d.ax.length L) rfl;have p2:=aw D 2 (x:=.slice aa d.fields.length I) rfl;have p3:=aw D 3 (x:=.slice ac d.names.length J) rfl;have p4:=aw D 4 (x:=.slice af d.aq.length O) rfl;have o1:=aw E 1 (x:=.slice ai d.ax.length X) rfl;have o2:=aw E 2 (x:=.slice ag d.fields.length V) rfl;have o3:=aw E 3 (x:=.slice ah d.names.length W) rfl;have o4:=aw E 4 (x:=.slice ak d.aq.length Y) rfl;have za:=bk D;have zb:=bk E;have ay:Hid (∀n,Below w.heap.size w (wr.drewN n)):=by rw [A];exact fun n=>ku (bi.o nz) n
  have ba:Hid (∀m,∃n,wr.drewN m=w7.drewN n):=by rw [A];exact fun m=>⟨_,World.drewN_drewN _ _ _⟩
  have bm:=ae A;clear A D E;by_cases an:k<d.ax.length
  ·have a6:k<e.ax.length:=by have:=be.o;omega
   obtain ⟨b,off,rfl,_,c0⟩:=a8.o.S.atI k an;obtain ⟨b2,b5,rfl,_,d0⟩:=a9.o.S.atI k a6;have az:=ae (zea fh d.ax e.ax k an a6);generalize d.ax[k]=x at*;generalize e.ax[k]=y at*;cases hs:fh x y with
   | true=>
     have cm:x=y:=by simpa [fh]using hs
     have al:Hid (cz fh d.ax e.ax=cz fh (d.ax.drop (k+1)) (e.ax.drop (k+1))):=HQ.o.trans (by rw [az.o,hs,Bool.true_and]);go_wp2
     go_quiet (fail);go_wp2
     go_roundw
     case rel=>exact ⟨k+1,by omega,by go_num,al.o,ba.o _⟩
     case measure=>simp [intOf];omega
   | false=>
     have cm:¬x=y:=by simpa [fh]using hs
     have al:Hid (fu d e=false):=a5.o.trans (by rw [HQ.o,az.o,hs];simp);go_wp2
     go_quiet (fail);go_wp2
     go_ret;exact ⟨by rw [al.o];rfl,ay.o _⟩
  have cy:Hid (cz fh d.ax e.ax=true):=HQ.o.trans (zeb fh _ _ k an be.o);go_wp2_with fail;clear an hk HQ p1 p2 p3 p4 o1 o2 o3 o4 za zb a8 a9 ay ba;go_loopw [7] (fun i wx=>∃k:Nat,k<=d.fields.length/\i=.int .i64 k/\Hid (cz (cz fb) d.fields e.fields=cz (cz fb) (d.fields.drop k) (e.fields.drop k))/\∃n,wx=w7.drewN n) (fun i _=>d.fields.length - (intOf i).toNat)
  case atStart=>exact ⟨0,n0q _,rfl,rfl,nz,bm.o⟩
  case round=>
   rename World=>wr
   obtain ⟨k,hk,rfl,HQ,nz,A⟩:=hrel;have a8:Hid (j9 (· <B) wr aC (.slice ad d.ax.length L) (.slice aa d.fields.length I) (.slice ac d.names.length J) (.slice af d.aq.length O) d):=by rw [A];exact b6.o.kept ⟨nlq _,fun _ _ _=>rfl⟩
   have a9:Hid (j9 (· <B) wr bC (.slice ai d.ax.length X) (.slice ag d.fields.length V) (.slice ah d.names.length W) (.slice ak d.aq.length Y) e):=by rw [A];exact b7.o.kept ⟨nlq _,fun _ _ _=>rfl⟩
   have D:wr.heap[w.heap.size]? =some (.cells #[aC,.slice ad d.ax.length L,.slice aa d.fields.length I,.slice ac d.names.length J,.slice af d.aq.length O] 36 (0,0)):=by rw [A];exact a3.o.1
   have E:wr.heap[w.heap.size+1]? =some (.cells #[bC,.slice ai d.ax.length X,.slice ag d.fields.length V,.slice ah d.names.length W,.slice ak d.aq.length Y] 36 (0,0)):=by rw [A];exact a3.o.2
   have p1:=aw D 1 (x:=.slice ad d.ax.length L) rfl;have p2:=aw D 2 (x:=.slice aa d.fields.length I) rfl;have p3:=aw D 3 (x:=.slice ac d.names.length J) rfl;have p4:=aw D 4 (x:=.slice af d.aq.length O) rfl;have o1:=aw E 1 (x:=.slice ai d.ax.length X) rfl;have o2:=aw E 2 (x:=.slice ag d.fields.length V) rfl;have o3:=aw E 3 (x:=.slice ah d.names.length W) rfl;have o4:=aw E 4 (x:=.slice ak d.aq.length Y) rfl;have za:=bk D;have zb:=bk E;have ay:Hid (∀n,Below w.heap.size w (wr.drewN n)):=by rw [A];exact fun n=>ku (bi.o nz) n
   have ba:Hid (∀m,∃n,wr.drewN m=w7.drewN n):=by rw [A];exact fun m=>⟨_,World.drewN_drewN _ _ _⟩
   have bm:=ae A;clear A D E;by_cases an:k<d.fields.length
   ·have a6:k<e.fields.length:=by have:=bc.o;omega
    obtain ⟨b,off,co,cv,rfl,_,c0,su⟩:=a8.o.F.atSl k an;obtain ⟨b2,b5,cp,cx,rfl,_,d0,sv⟩:=a9.o.F.atSl k a6;have az:=ae (zea (cz fb) d.fields e.fields k an a6);have HC:=ae (fun n=>zot (wr.drewN n) _ _ _ _ d.fields[k] e.fields[k] (su.kept ⟨nlq _,fun _ _ _=>rfl⟩ fun _ _ h=>h) (sv.kept ⟨nlq _,fun _ _ _=>rfl⟩ fun _ _ h=>h));clear su sv;generalize d.fields[k]=x at*;generalize e.fields[k]=y at*;cases hs:cz fb x y with
    | true=>
      rw [hs]at HC;have al:Hid (cz (cz fb) d.fields e.fields=cz (cz fb) (d.fields.drop (k+1)) (e.fields.drop (k+1))):=HQ.o.trans (by rw [az.o,hs,Bool.true_and]);clear hs;go_wp2
      go_quiet (first | (go_at_call 186;exact Calls.quiet_of (HC.o _)));go_wp2
      go_roundw
      case rel=>exact ⟨k+1,by omega,by go_num,al.o,ba.o _⟩
      case measure=>simp [intOf];omega
    | false=>
      rw [hs]at HC;have al:Hid (fu d e=false):=a5.o.trans (by rw [HQ.o,az.o,hs];simp);clear hs;go_wp2
      go_quiet (first | (go_at_call 186;exact Calls.quiet_of (HC.o _)));go_wp2
      go_ret;exact ⟨by rw [al.o];rfl,ay.o _⟩
   have c1:Hid (cz (cz fb) d.fields e.fields=true):=HQ.o.trans (zeb (cz fb) _ _ k an bc.o);go_wp2_with fail;clear an hk HQ p1 p2 p3 p4 o1 o2 o3 o4 za zb a8 a9 ay ba;go_loopw [8] (fun i wx=>∃k:Nat,k<=d.names.length/\i=.int .i64 k/\Hid (cz (cz fv) d.names e.names=cz (cz fv) (d.names.drop k) (e.names.drop k))/\∃n,wx=w7.drewN n) (fun i _=>d.names.length - (intOf i).toNat)
   case atStart=>exact ⟨0,n0q _,rfl,rfl,nz,bm.o⟩
   case round=>
    rename World=>wr
    obtain ⟨k,hk,rfl,HQ,nz,A⟩:=hrel;have a8:Hid (j9 (· <B) wr aC (.slice ad d.ax.length L) (.slice aa d.fields.length I) (.slice ac d.names.length J) (.slice af d.aq.length O) d):=by rw [A];exact b6.o.kept ⟨nlq _,fun _ _ _=>rfl⟩
    have a9:Hid (j9 (· <B) wr bC (.slice ai d.ax.length X) (.slice ag d.fields.length V) (.slice ah d.names.length W) (.slice ak d.aq.length Y) e):=by rw [A];exact b7.o.kept ⟨nlq _,fun _ _ _=>rfl⟩
    have D:wr.heap[w.heap.size]? =some (.cells #[aC,.slice ad d.ax.length L,.slice aa d.fields.length I,.slice ac d.names.length J,.slice af d.aq.length O] 36 (0,0)):=by rw [A];exact a3.o.1
    have E:wr.heap[w.heap.size+1]? =some (.cells #[bC,.slice ai d.ax.length X,.slice ag d.fields.length V,.slice ah d.names.length W,.slice ak d.aq.length Y] 36 (0,0)):=by rw [A];exact a3.o.2
    have p1:=aw D 1 (x:=.slice ad d.ax.length L) rfl;have p2:=aw D 2 (x:=.slice aa d.fields.length I) rfl;have p3:=aw D 3 (x:=.slice ac d.names.length J) rfl;have p4:=aw D 4 (x:=.slice af d.aq.length O) rfl;have o1:=aw E 1 (x:=.slice ai d.ax.length X) rfl;have o2:=aw E 2 (x:=.slice ag d.fields.length V) rfl;have o3:=aw E 3 (x:=.slice ah d.names.length W) rfl;have o4:=aw E 4 (x:=.slice ak d.aq.length Y) rfl;have za:=bk D;have zb:=bk E;have ay:Hid (∀n,Below w.heap.size w (wr.drewN n)):=by rw [A];exact fun n=>ku (bi.o nz) n
    have ba:Hid (∀m,∃n,wr.drewN m=w7.drewN n):=by rw [A];exact fun m=>⟨_,World.drewN_drewN _ _ _⟩
    have bm:=ae A;clear A D E;by_cases an:k<d.names.length
    ·have a6:k<e.names.length:=by have:=bf.o;omega
     obtain ⟨b,off,co,cv,rfl,c6,c0,su⟩:=a8.o.N.atSl k an;obtain ⟨b2,b5,cp,cx,rfl,c7,d0,sv⟩:=a9.o.N.atSl k a6;have az:=ae (zea (cz fv) d.names e.names k an a6);have cf:=ae su;have bz:=ae sv;have cl:d.names[k].length<=maxLen:=by obtain ⟨_,_,e1,_,h,_⟩:=su;cases e1;exact h
     unfold maxLen at cl;clear su sv;generalize d.names[k]=x at*;generalize e.names[k]=y at*;have dd:(0:Int)<=k:=by omega
     have dg:(k:Int)<d.names.length:=by omega
     by_cases a7:x.length=y.length
     rotate_left
     ·have al:Hid (fu d e=false):=a5.o.trans (by rw [HQ.o,az.o,zd9 fv x y a7];simp);have b4:((x.length:Int)==y.length)=false:=beq_eq_false_iff_ne.2 (by omega);clear a7;go_wp2
      go_quiet (fail);go_wp2
      go_ret;exact ⟨by rw [al.o];rfl,ay.o _⟩
     have bs:=ae a7;rw [<-a7]at d0 bz;clear a7;go_wp2
     go_quiet (fail);go_wp2
     go_loopw [9] (fun i wx=>∃j:Nat,j<=x.length/\i=.int .i64 j/\Hid (cz fv x y=cz fv (x.drop j) (y.drop j))/\∃n,wx=wr.drewN n) (fun i _=>x.length - (intOf i).toNat)
     case atStart=>exact ⟨0,n0q _,rfl,rfl,_,rfl⟩
     case round=>
      obtain ⟨j,hj,rfl,HJ,n2,rfl⟩:=hrel;by_cases bh:j<x.length
      ·have b3:j<y.length:=by have:=bs.o;omega
       obtain ⟨bx,ox,rfl,_,f0,_⟩:=cf.o.atS j bh;obtain ⟨c5,oy,rfl,_,g0,_⟩:=bz.o.atS j b3;have bw:=ae (zea fv x y j bh b3);have c9:(0:Int)<=j:=by omega
       have da:(j:Int)<x.length:=by omega
       generalize x[j]=s at*;generalize y[j]=s' at*;cases hs:fv s s' with
       | true=>
         have cm:(s.toList==s'.toList)=true:=hs;have ce:Hid (cz fv x y=cz fv (x.drop (j+1)) (y.drop (j+1))):=HJ.o.trans (by rw [bw.o,hs,Bool.true_and]);go_wp2
         go_quiet (fail);go_wp2
         go_roundw
         case rel=>exact ⟨j+1,by omega,by go_num,ce.o,_,rfl⟩
         case measure=>simp [intOf];omega
       | false=>
         have cm:(s.toList==s'.toList)=false:=hs;have al:Hid (fu d e=false):=a5.o.trans (by rw [HQ.o,az.o,HJ.o,bw.o,hs];simp);go_wp2
         go_quiet (fail);go_wp2
         go_ret;exact ⟨by rw [al.o];rfl,ku (ay.o n2) _⟩
      have al:Hid (cz (cz fv) d.names e.names=cz (cz fv) (d.names.drop (k+1)) (e.names.drop (k+1))):=HQ.o.trans (by rw [az.o,HJ.o,zeb fv x y j bh bs.o,Bool.true_and]);go_wp2
      go_roundw
      case rel=>exact ⟨k+1,by omega,by go_num,al.o,ba.o n2⟩
      case measure=>simp [intOf];omega
    have c2:Hid (cz (cz fv) d.names e.names=true):=HQ.o.trans (zeb (cz fv) _ _ k an bf.o);go_wp2_with fail;clear an hk HQ p1 p2 p3 p4 o1 o2 o3 o4 za zb a8 a9 ay ba;go_loopw [10] (fun i wx=>∃k:Nat,k<=d.aq.length/\i=.int .i64 k/\Hid (cz (cz ff) d.aq e.aq=cz (cz ff) (d.aq.drop k) (e.aq.drop k))/\∃n,wx=w7.drewN n) (fun i _=>d.aq.length - (intOf i).toNat)
    case atStart=>exact ⟨0,n0q _,rfl,rfl,nz,bm.o⟩
    case round=>
     rename World=>wr
     obtain ⟨k,hk,rfl,HQ,nz,A⟩:=hrel;have a8:Hid (j9 (· <B) wr aC (.slice ad d.ax.length L) (.slice aa d.fields.length I) (.slice ac d.names.length J) (.slice af d.aq.length O) d):=by rw [A];exact b6.o.kept ⟨nlq _,fun _ _ _=>rfl⟩
     have a9:Hid (j9 (· <B) wr bC (.slice ai d.ax.length X) (.slice ag d.fields.length V) (.slice ah d.names.length W) (.slice ak d.aq.length Y) e):=by rw [A];exact b7.o.kept ⟨nlq _,fun _ _ _=>rfl⟩
     have D:wr.heap[w.heap.size]? =some (.cells #[aC,.slice ad d.ax.length L,.slice aa d.fields.length I,.slice ac d.names.length J,.slice af d.aq.length O] 36 (0,0)):=by rw [A];exact a3.o.1
     have E:wr.heap[w.heap.size+1]? =some (.cells #[bC,.slice ai d.ax.length X,.slice ag d.fields.length V,.slice ah d.names.length W,.slice ak d.aq.length Y] 36 (0,0)):=by rw [A];exact a3.o.2
     have p1:=aw D 1 (x:=.slice ad d.ax.length L) rfl;have p2:=aw D 2 (x:=.slice aa d.fields.length I) rfl;have p3:=aw D 3 (x:=.slice ac d.names.length J) rfl;have p4:=aw D 4 (x:=.slice af d.aq.length O) rfl;have o1:=aw E 1 (x:=.slice ai d.ax.length X) rfl;have o2:=aw E 2 (x:=.slice ag d.fields.length V) rfl;have o3:=aw E 3 (x:=.slice ah d.names.length W) rfl;have o4:=aw E 4 (x:=.slice ak d.aq.length Y) rfl;have za:=bk D;have zb:=bk E;have ay:Hid (∀n,Below w.heap.size w (wr.drewN n)):=by rw [A];exact fun n=>ku (bi.o nz) n
     have ba:Hid (∀m,∃n,wr.drewN m=w7.drewN n):=by rw [A];exact fun m=>⟨_,World.drewN_drewN _ _ _⟩
     have bm:=ae A;clear A D E;by_cases an:k<d.aq.length
     ·have a6:k<e.aq.length:=by have:=a4.o;omega
      obtain ⟨b,off,co,cv,rfl,c6,c0,su⟩:=a8.o.T.atSl k an;obtain ⟨b2,b5,cp,cx,rfl,c7,d0,sv⟩:=a9.o.T.atSl k a6;have az:=ae (zea (cz ff) d.aq e.aq k an a6);have cf:=ae su;have bz:=ae sv;have cl:d.aq[k].length<=maxLen:=by obtain ⟨_,_,e1,_,h,_⟩:=su;cases e1;exact h
      unfold maxLen at cl;clear su sv;generalize d.aq[k]=x at*;generalize e.aq[k]=y at*;have dd:(0:Int)<=k:=by omega
      have dg:(k:Int)<d.aq.length:=by omega
      by_cases a7:x.length=y.length
      rotate_left
      ·have al:Hid (fu d e=false):=a5.o.trans (by rw [HQ.o,az.o,zd9 ff x y a7];simp);have b4:((x.length:Int)==y.length)=false:=beq_eq_false_iff_ne.2 (by omega);clear a7;go_wp2
       go_quiet (fail);go_wp2
       go_ret;exact ⟨by rw [al.o];rfl,ay.o _⟩
      have bs:=ae a7;rw [<-a7]at d0 bz;clear a7;go_wp2
      go_quiet (fail);go_wp2
      go_loopw [11] (fun i wx=>∃j:Nat,j<=x.length/\i=.int .i64 j/\Hid (cz ff x y=cz ff (x.drop j) (y.drop j))/\∃n,wx=wr.drewN n) (fun i _=>x.length - (intOf i).toNat)
      case atStart=>exact ⟨0,n0q _,rfl,rfl,_,rfl⟩
      case round=>
       obtain ⟨j,hj,rfl,HJ,n2,rfl⟩:=hrel;by_cases bh:j<x.length
       ·have b3:j<y.length:=by have:=bs.o;omega
        obtain ⟨bx,ox,rfl,_,f0,f1⟩:=cf.o.atT j bh;obtain ⟨c5,oy,rfl,_,g0,g1⟩:=bz.o.atT j b3;have bw:=ae (zea ff x y j bh b3);have c9:(0:Int)<=j:=by omega
        have da:(j:Int)<x.length:=by omega
        have d2:=targNeq x[j] y[j];have d3:=targNeqG;generalize x[j]=s at*;generalize y[j]=s' at*;cases hs:ff s s' with
        | true=>
          have ce:Hid (cz ff x y=cz ff (x.drop (j+1)) (y.drop (j+1))):=HJ.o.trans (by rw [bw.o,hs,Bool.true_and]);go_wp2
          go_quiet (fail);go_wp2
          go_roundw
          case rel=>exact ⟨j+1,by omega,by go_num,ce.o,_,rfl⟩
          case measure=>simp [intOf];omega
        | false=>
          have al:Hid (fu d e=false):=a5.o.trans (by rw [HQ.o,az.o,HJ.o,bw.o,hs];simp);go_wp2
          go_quiet (fail);go_wp2
          go_ret;exact ⟨by rw [al.o];rfl,ku (ay.o n2) _⟩
       have al:Hid (cz (cz ff) d.aq e.aq=cz (cz ff) (d.aq.drop (k+1)) (e.aq.drop (k+1))):=HQ.o.trans (by rw [az.o,HJ.o,zeb ff x y j bh bs.o,Bool.true_and]);go_wp2
       go_roundw
       case rel=>exact ⟨k+1,by omega,by go_num,al.o,ba.o n2⟩
       case measure=>simp [intOf];omega
     have c3:Hid (cz (cz ff) d.aq e.aq=true):=HQ.o.trans (zeb (cz ff) _ _ k an a4.o);have HR:Hid (fu d e=true):=a5.o.trans (by rw [cy.o,c1.o,c2.o,c3.o];rfl);go_wp2_with fail;go_ret;exact ⟨by rw [HR.o];rfl,ay.o 0⟩
end Go.Proofs.YtjdnmblggdobgaaGreat
