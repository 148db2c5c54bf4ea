import Derived.Test.YtjdnmblggdobgaaGreatJMemChkMeth
import Derived.Test.YtjdnmblggdobgaaGreatJTk2Dies
import Derived.Deep.RegionWith
import Derived.Deep.DeepCutAuto
import Derived.Test.YtjdnmblggdobgaaGreatJLErrLRf4
set_option maxHeartbeats 20000000
set_option maxRecDepth 100000
namespace Go.Proofs.YtjdnmblggdobgaaGreat
open Go.RowKit
theorem zqs (w:World) (u v:Value) (l:List ey) (D:SL 2 RK (· <w.heap.size) w u l) (E:SL 2 RK (· <w.heap.size) w v l):
 Calls Tryz.prog 227 #[u,v] w fun r w'=>r=.returned (.bool true)/\∃n,w'=w.drewN n:=by
 have G:=ag D;have I:=ag E;obtain ⟨L,X,rfl,_,J,-⟩:=D;obtain ⟨N,Y,rfl,-⟩:=E;unfold maxLen at J;go_enter Tryz.func227,Tryz.ntmps227;go_wp2
 go_loopw [5] (fun i wr=>∃k:Nat,k<=l.length/\i=.int .i64 k/\∃n,wr=w.drewN n) (fun i _=>l.length - (intOf i).toNat)
 case atStart=>exact ⟨0,n0q _,rfl,0,rfl⟩
 case round=>
  obtain ⟨k,hk,rfl,n,rfl⟩:=hrel;by_cases A:k<l.length
  ·obtain ⟨b,off,rfl,_,V,W,_⟩:=G.o.atK k A;obtain ⟨O,F,rfl,_,Z,d1,_⟩:=I.o.atK k A;go_wp2
   go_quiet (fail);go_wp2
   go_roundw
   case rel=>exact ⟨k+1,by omega,by go_num,_,rfl⟩
   case measure=>simp [intOf];omega
  go_wp2
  go_ret;exact ⟨rfl,n,rfl⟩
theorem zqt (w:World) (u v:Value) (l:List bk) (D:SL 3 RF (· <w.heap.size) w u l) (E:SL 3 RF (· <w.heap.size) w v l):
 Calls Tryz.prog 186 #[u,v] w fun r w'=>r=.returned (.bool true)/\∃n,w'=w.drewN n:=by
 have G:=ag D;have I:=ag E;obtain ⟨L,Y,rfl,_,J,-⟩:=D;obtain ⟨N,Z,rfl,-⟩:=E;unfold maxLen at J;go_enter Tryz.func186,Tryz.ntmps186;go_wp2
 go_loopw [5] (fun i wr=>∃k:Nat,k<=l.length/\i=.int .i64 k/\∃n,wr=w.drewN n) (fun i _=>l.length - (intOf i).toNat)
 case atStart=>exact ⟨0,n0q _,rfl,0,rfl⟩
 case round=>
  obtain ⟨k,hk,rfl,n,rfl⟩:=hrel;by_cases A:k<l.length
  ·obtain ⟨b,off,rfl,_,V,W,X,_⟩:=G.o.atF k A;obtain ⟨O,F,rfl,_,d0,d1,d2,_⟩:=I.o.atF k A;go_wp2
   go_quiet (fail);go_wp2
   go_roundw
   case rel=>exact ⟨k+1,by omega,by go_num,_,rfl⟩
   case measure=>simp [intOf];omega
  go_wp2
  go_ret;exact ⟨rfl,n,rfl⟩
theorem zqu {B:Nat} {w w':World} (h:Below B w w') (n:Nat):Below B w (w'.drewN n):=⟨h.os,h.tape,h.output,h.size,h.block⟩
structure Pair (wr W:World) (px py:Value) (t:Nat) (cx cy:Array Value):Prop where
 at_:∃X Y,px=.pointer (some ⟨X,0,none⟩)/\py=.pointer (some ⟨Y,0,none⟩)/\wr.heap.size<=X/\wr.heap.size<=Y/\W.heap[X]? =some (.cells cx t (0,0))/\W.heap[Y]? =some (.cells cy t (0,0))
 below:Below wr.heap.size wr W
theorem Pair.one (wr:World) (t:Nat) (u A:Array Value):Pair wr ((wr.alloc (.cells u t)).alloc (.cells A t)).drew (.pointer (some ⟨wr.heap.size,0,none⟩)) (.pointer (some ⟨wr.heap.size+1,0,none⟩)) t u A:=by
 refine ⟨⟨_,_,rfl,rfl,nlq _,by omega,?_,?_⟩,(((br _ _).alloc (nlq _) _).alloc (by simp) _).drew⟩
 ·show ((wr.heap.push _).push _)[wr.heap.size]? =_;rw [Array.getElem?_push,if_neg (by simp)];exact Array.getElem?_push_size
 show ((wr.heap.push _).push _)[wr.heap.size+1]? =_;rw [Array.getElem?_push,if_pos (by simp)]
theorem Pair.two (wr:World) (t:Nat) (u A:Array Value):Pair wr ((wr.alloc (.cells A t)).alloc (.cells u t)).drew (.pointer (some ⟨wr.heap.size+1,0,none⟩)) (.pointer (some ⟨wr.heap.size,0,none⟩)) t u A:=by obtain ⟨⟨X,Y,h1,D,E,F,G,I⟩,J⟩:=Pair.one wr t A u;exact ⟨⟨Y,X,D,h1,F,E,I,G⟩,J⟩
theorem zqv {W:World} {X:Nat} {o:Obj} (h:W.heap[X]? =some o):X<W.heap.size:=(Array.getElem?_eq_some_iff.1 h).1
theorem SL.upF {B:Nat} {w w':World} {v:Value} {l:List bk} (h:SL 3 RF (· <B) w v l) (u:Below B w w') (A:B<=w.heap.size):SL 3 RF (· <w'.heap.size) w' v l:=(h.keptF (Kp.below u)).monoF fun _ D=>ll3 D (lt3 A u.size)
theorem SL.upK {B:Nat} {w w':World} {v:Value} {l:List ey} (h:SL 2 RK (· <B) w v l) (u:Below B w w') (A:B<=w.heap.size):SL 2 RK (· <w'.heap.size) w' v l:=(h.keptK (Kp.below u)).monoK fun _ D=>ll3 D (lt3 A u.size)
theorem zqw (w:World) (u v:Value) (l:List am) (hu:SL 4 RC (· <w.heap.size) w u l) (hv:SL 4 RC (· <w.heap.size) w v l):
 Calls Tryz.prog 185 #[u,v] w fun r w'=>r=.returned (.bool true)/\Below w.heap.size w w':=by
 have HU:=ag hu;have HV:=ag hv;obtain ⟨au,cu,rfl,_,hl,-⟩:=hu;obtain ⟨av,cv,rfl,-⟩:=hv;unfold maxLen at hl;go_enter Tryz.func185,Tryz.ntmps185;go_wp2
 go_loopw [5] (fun i wr=>∃k:Nat,k<=l.length/\i=.int .i64 k/\Below w.heap.size w wr) (fun i _=>l.length - (intOf i).toNat)
 case atStart=>exact ⟨0,n0q _,rfl,br _ _⟩
 case round=>
  obtain ⟨k,hk,rfl,ad⟩:=hrel;have E:=ad.size;by_cases a4:k<l.length
  rotate_left
  ·go_wp2_with fail;go_ret;exact ⟨rfl,ad⟩
  obtain ⟨b,off,vf,vm,rfl,bx,e0,e1,e2,e3,ef,em,-⟩:=(HU.o.keptC (Kp.below ad)).atC k a4;obtain ⟨b',bi,b0,b4,rfl,bf,d0,d1,d2,d3,a1,a3,-⟩:=(HV.o.keptC (Kp.below ad)).atC k a4;have EF:=ag ef;have EM:=ag em;have a7:=ag a1;have a9:=ag a3;obtain ⟨fo,cf,rfl,-⟩:=ef;obtain ⟨mo,cm,rfl,_,bc,-⟩:=em;obtain ⟨ar,aq,rfl,-⟩:=a1;obtain ⟨af,ae,rfl,-⟩:=a3;unfold maxLen at bc;generalize l[k]=c at*;obtain ⟨O,bp,A,ax⟩:=c
  dsimp only at*
  have bs:Hid (Below wr.heap.size wr wr):=br _ _;go_wp2_with fail;go_cut [6,7] (fun px py W=>Pair wr W px py 162 #[.string O,.string bp,.slice fo A.length cf,.slice mo ax.length cm] #[.string O,.string bp,.slice ar A.length aq,.slice af ax.length ae])
  case first=>
   go_region
   all_goals
    go_wp2_with fail
    go_meet
    first | exact Pair.one _ _ _ _ | exact Pair.two _ _ _ _
  case rest=>
   obtain ⟨⟨X,Y,rfl,rfl,hX,hY,L,N⟩,F⟩:=hcut;have al:=ag L;have ap:=ag N;have xl:=zqv L;have yl:=zqv N;have x0:=ba L 0 (x:=.string O) rfl;have x1:=ba L 1 (x:=.string bp) rfl;have x2:=ba L 2 (x:=.slice fo A.length cf) rfl;have x3:=ba L 3 (x:=.slice mo ax.length cm) rfl;have y0:=ba N 0 (x:=.string O) rfl;have y1:=ba N 1 (x:=.string bp) rfl;have y2:=ba N 2 (x:=.slice ar A.length aq) rfl;have y3:=ba N 3 (x:=.slice af ax.length ae) rfl;clear L N e0 e1 e2 e3 d0 d1 d2 d3;go_wp2_with fail;refine (zqt _ _ _ A (EF.o.upF (F.mono E) E) (a7.o.upF (F.mono E) E)).mono ?_;rintro r w2 ⟨rfl,n2,rfl⟩;go_wp2_with fail;go_loopw [8] (fun i wi=>∃j:Nat,j<=ax.length/\i=.int .i64 j/\Below wr.heap.size wr wi/\Hid (wi.heap[X]? =some (.cells #[.string O,.string bp,.slice fo A.length cf,.slice mo ax.length cm] 162 (0,0)))/\Hid (wi.heap[Y]? =some (.cells #[.string O,.string bp,.slice ar A.length aq,.slice af ax.length ae] 162 (0,0)))) (fun i _=>ax.length - (intOf i).toNat)
   case atStart=>exact ⟨0,n0q _,rfl,zqu F _,al.o,ap.o⟩
   case round=>
    rename World=>wi
    obtain ⟨j,hj,rfl,ac,ak,an⟩:=hrel;have aj:=ac.size;clear x0 x1 x2 x3 y0 y1 y2 y3 xl yl F al ap;have xl:=zqv ak.o;have yl:=zqv an.o;have x3:=ba ak.o 3 (x:=.slice mo ax.length cm) rfl;have y3:=ba an.o 3 (x:=.slice af ax.length ae) rfl;by_cases ai:j<ax.length
    rotate_left
    ·go_wp2_with fail;go_roundw
     case rel=>exact ⟨k+1,by omega,by go_num,ad.trans (ac.mono E)⟩
     case measure=>simp [intOf];omega
    obtain ⟨b2,bj,va,vh,rfl,bg,q0,q1,q2,q3,q4,q5,q6,q7,q8,ea,eh,-⟩:=(EM.o.keptM (Kp.below (ac.mono E))).atM j ai;obtain ⟨b3,bl,bz,b1,rfl,bh,s0,s1,s2,s3,s4,s5,s6,s7,s8,a0,a2,-⟩:=(a9.o.keptM (Kp.below (ac.mono E))).atM j ai;have EA:=ag ea;have EH:=ag eh;have a6:=ag a0;have a8:=ag a2;obtain ⟨ao,ca,rfl,-⟩:=ea;obtain ⟨ho,ch,rfl,_,bb,-⟩:=eh;obtain ⟨aw,ay,rfl,-⟩:=a0;obtain ⟨a5,az,rfl,-⟩:=a2;unfold maxLen at bb;generalize ax[j]=m at*;obtain ⟨V,I,args,⟨rk,rc⟩,Z,G,aa,D⟩:=m
    dsimp only at*
    go_wp2_with fail;go_cut [9,10] (fun px py W=>Pair wi W px py 159 #[.string V,.bool I,.slice ao args.length ca,.int .i64 rk,.string rc,.int .i64 Z,.int .i64 G,.string aa,.slice ho D.length ch] #[.string V,.bool I,.slice aw args.length ay,.int .i64 rk,.string rc,.int .i64 Z,.int .i64 G,.string aa,.slice a5 D.length az])
    case first=>
     go_region
     all_goals
      go_wp2_with fail
      go_meet
      first | exact Pair.one _ _ _ _ | exact Pair.two _ _ _ _
    case rest=>
     obtain ⟨⟨X2,Y2,rfl,rfl,bu,bw,L,N⟩,F⟩:=hcut;have al:=ag L;have ap:=ag N;have b7:=zqv L;have cc:=zqv N;have m0:=ba L 0 (x:=.string V) rfl;have m1:=ba L 1 (x:=.bool I) rfl;have m2:=ba L 2 (x:=.slice ao args.length ca) rfl;have m3:=ba L 3 (x:=.int .i64 rk) rfl;have m4:=ba L 4 (x:=.string rc) rfl;have m5:=ba L 5 (x:=.int .i64 Z) rfl;have m6:=ba L 6 (x:=.int .i64 G) rfl;have m7:=ba L 7 (x:=.string aa) rfl;have m8:=ba L 8 (x:=.slice ho D.length ch) rfl;have n0:=ba N 0 (x:=.string V) rfl;have n1:=ba N 1 (x:=.bool I) rfl;have n2:=ba N 2 (x:=.slice aw args.length ay) rfl;have n3:=ba N 3 (x:=.int .i64 rk) rfl;have n4:=ba N 4 (x:=.string rc) rfl;have n5:=ba N 5 (x:=.int .i64 Z) rfl;have n6:=ba N 6 (x:=.int .i64 G) rfl;have n7:=ba N 7 (x:=.string aa) rfl;have n8:=ba N 8 (x:=.slice a5 D.length az) rfl;have J:w.heap.size<=wi.heap.size:=lt3 E aj;clear L N q0 q1 q2 q3 q4 q5 q6 q7 q8 s0 s1 s2 s3 s4 s5 s6 s7 s8 x3 y3;go_wp2_with fail;refine (zqs _ _ _ args (EA.o.upK (F.mono J) J) (a6.o.upK (F.mono J) J)).mono ?_;rintro r w3 ⟨rfl,n9,rfl⟩;go_wp2_with fail;go_loopw [11] (fun i wj=>∃(h n:Nat),h<=D.length/\i=.int .i64 h/\wj=wc.drewN n) (fun i _=>D.length - (intOf i).toNat)
     case atStart=>exact ⟨0,n9,n0q _,rfl,rfl⟩
     case round=>
      obtain ⟨h,nn,hh,rfl,rfl⟩:=hrel;by_cases ah:h<D.length
      ·obtain ⟨b5,bm,rfl,_,g0,g1,g2,g3,-⟩:=(EH.o.keptH (Kp.below (F.mono J))).atH h ah;obtain ⟨b6,bn,rfl,_,j0,j1,j2,j3,-⟩:=(a8.o.keptH (Kp.below (F.mono J))).atH h ah;go_wp2_with fail;go_quiet (fail);go_wp2_with fail;go_roundw
       case rel=>exact ⟨h+1,_,by omega,by go_num,rfl⟩
       case measure=>simp [intOf];omega
      go_wp2_with fail;go_roundw
      case rel=>exact ⟨j+1,by omega,by go_num,ac.trans ((zqu F _).mono aj),(F.block X xl).trans ak.o,(F.block Y yl).trans an.o⟩
      case measure=>simp [intOf];omega
end Go.Proofs.YtjdnmblggdobgaaGreat
namespace Go.Proofs.YtjdnmblggdobgaaGreat
open Go.RowKit Go.Maps
def fp (d e:be):Bool:=da fm d.ar e.ar&&da (da fb) d.fields e.fields&&da (da fq) d.names e.names&&da (da fg) d.aq e.aq
theorem zqx (w:World) (B:Nat) (aC aS aF aN aT bC bS bF bN bT:Value) (d e:be) (hd:lf (· <B) w aC aS aF aN aT d) (he:lf (· <B) w bC bS bF bN bT e) (c3:d.aj=e.aj) (hB:B<=w.heap.size):
 Calls Tryz.prog 118 #[.agg #[aC,aS,aF,aN,aT],.agg #[bC,bS,bF,bN,bT]] w fun r w'=>r=.returned (.bool (fp d e))/\Below w.heap.size w w':=by
 have bp:Below w.heap.size w ((w.alloc (.cells #[aC,aS,aF,aN,aT] 36)).alloc (.cells #[bC,bS,bF,bN,bT] 36)):=((br _ _).alloc (nlq _) _).alloc (by simp) _;have b3:((w.alloc (.cells #[aC,aS,aF,aN,aT] 36)).alloc (.cells #[bC,bS,bF,bN,bT] 36)).heap[w.heap.size]? =some (.cells #[aC,aS,aF,aN,aT] 36 (0,0)):=(Below.heap_alloc _ _ _ (by simp)).trans (heap_alloc_new w _);have cc:((w.alloc (.cells #[aC,aS,aF,aN,aT] 36)).alloc (.cells #[bC,bS,bF,bN,bT] 36)).heap[w.heap.size+1]? =some (.cells #[bC,bS,bF,bN,bT] 36 (0,0)):=by have:=heap_alloc_new (w.alloc (.cells #[aC,aS,aF,aN,aT] 36)) (.cells #[bC,bS,bF,bN,bT] 36);simpa using this
 have b7:=hd.kept (Kp.below (bp.mono hB));have ca:=he.kept (Kp.below (bp.mono hB));have bl:=ag (zqw _ aC bC d.aj (b7.C.monoC fun _ (h:_<B)=>by have:=bp.size;omega) (c3 ▸ ca.C.monoC fun _ (h:_<B)=>by have:=bp.size;omega));have cx:=ag b7;have ch:=ag ca;have b4:=ag bp;have bi:=ag b3;have bf:=ag cc;have az:Hid (fp d e=(da fm d.ar e.ar&&da (da fb) d.fields e.fields&&da (da fq) d.names e.names&&da (da fg) d.aq e.aq)):=rfl;have a0:=ba b3 0 (x:=aC) rfl;have a1:=ba b3 1 (x:=aS) rfl;have b0:=ba cc 0 (x:=bC) rfl;have du:w.heap.size<((w.alloc (.cells #[aC,aS,aF,aN,aT] 36)).alloc (.cells #[bC,bS,bF,bN,bT] 36)).heap.size:=by simp;omega
 have dz:w.heap.size+1<((w.alloc (.cells #[aC,aS,aF,aN,aT] 36)).alloc (.cells #[bC,bS,bF,bN,bT] 36)).heap.size:=by simp
 obtain ⟨ac,J,rfl,-,c8,-⟩:=hd.S;obtain ⟨Z,G,rfl,-,c9,-⟩:=hd.F;obtain ⟨aa,I,rfl,-,db,-⟩:=hd.N;obtain ⟨ad,L,rfl,-,dd,-⟩:=hd.T;obtain ⟨ah,W,rfl,-,cl,-⟩:=he.S;obtain ⟨ae,O,rfl,-,cm,-⟩:=he.F;obtain ⟨af,V,rfl,-,cn,-⟩:=he.N;obtain ⟨ai,X,rfl,-,co,-⟩:=he.T;unfold maxLen at c8 c9 db dd cl cm cn co;clear hd he b7 ca b3 cc;have df:Hid (((w.alloc (.cells #[aC,.slice ac d.ar.length J,.slice Z d.fields.length G,.slice aa d.names.length I,.slice ad d.aq.length L] 36)).alloc (.cells #[bC,.slice ah e.ar.length W,.slice ae e.fields.length O,.slice af e.names.length V,.slice ai e.aq.length X] 36)).heap.size=w.heap.size+2):=by show _=_;simp
 go_enter Tryz.func118,Tryz.ntmps118
 go_upto_region 2 with fail
 generalize hWW:((w.alloc (.cells #[aC,.slice ac d.ar.length J,.slice Z d.fields.length G,.slice aa d.names.length I,.slice ad d.aq.length L] 36)).alloc (.cells #[bC,.slice ah e.ar.length W,.slice ae e.fields.length O,.slice af e.names.length V,.slice ai e.aq.length X] 36))=W1 at*;clear hWW;have dg:=b4.o.size;have bh:Hid (∀w',Below W1.heap.size W1 w'->Below w.heap.size w w'):=fun w' h=>b4.o.trans (h.mono b4.o.size);by_cases ao:d.ar.length=e.ar.length
 rotate_left
 ·have HR:Hid (fp d e=false):=az.o.trans (by rw [zd9 fm d.ar e.ar ao];simp);have hx:¬(e.ar.length:Int)=d.ar.length:=by omega
  have bu:((e.ar.length:Int)==d.ar.length)=false:=beq_eq_false_iff_ne.2 hx;clear ao;go_wp2_with (first | (go_at_call 185;refine bl.o.mono ?_;rintro r w7 ⟨rfl,E⟩;have A:=(E.block w.heap.size (by omega)).trans bi.o;have D:=(E.block (w.heap.size+1) (by omega)).trans bf.o;have p1:=ba A 1 (x:=.slice ac d.ar.length J) rfl;have p2:=ba A 2 (x:=.slice Z d.fields.length G) rfl;have p3:=ba A 3 (x:=.slice aa d.names.length I) rfl;have p4:=ba A 4 (x:=.slice ad d.aq.length L) rfl;have o1:=ba D 1 (x:=.slice ah e.ar.length W) rfl;have o2:=ba D 2 (x:=.slice ae e.fields.length O) rfl;have o3:=ba D 3 (x:=.slice af e.names.length V) rfl;have o4:=ba D 4 (x:=.slice ai e.aq.length X) rfl;have za:=bv A;have zb:=bv D;have aw:=ag E;have ax:=ag (And.intro A D);clear E A D));go_ret;exact ⟨by rw [HR.o];rfl,bh.o _ aw.o⟩
 have a8:=ag ao;by_cases an:d.fields.length=e.fields.length
 rotate_left
 ·have HR:Hid (fp d e=false):=az.o.trans (by rw [zd9 (da fb) d.fields e.fields an];simp);have hx:¬(d.fields.length:Int)=e.fields.length:=by omega
  have bu:((d.fields.length:Int)==e.fields.length)=false:=beq_eq_false_iff_ne.2 hx;clear an;go_wp2_with (first | (go_at_call 185;refine bl.o.mono ?_;rintro r w7 ⟨rfl,E⟩;have A:=(E.block w.heap.size (by omega)).trans bi.o;have D:=(E.block (w.heap.size+1) (by omega)).trans bf.o;have p1:=ba A 1 (x:=.slice ac d.ar.length J) rfl;have p2:=ba A 2 (x:=.slice Z d.fields.length G) rfl;have p3:=ba A 3 (x:=.slice aa d.names.length I) rfl;have p4:=ba A 4 (x:=.slice ad d.aq.length L) rfl;have o1:=ba D 1 (x:=.slice ah e.ar.length W) rfl;have o2:=ba D 2 (x:=.slice ae e.fields.length O) rfl;have o3:=ba D 3 (x:=.slice af e.names.length V) rfl;have o4:=ba D 4 (x:=.slice ai e.aq.length X) rfl;have za:=bv A;have zb:=bv D;have aw:=ag E;have ax:=ag (And.intro A D);clear E A D));go_ret;exact ⟨by rw [HR.o];rfl,bh.o _ aw.o⟩
 have a7:=ag an;by_cases ap:d.names.length=e.names.length
 rotate_left
 ·have HR:Hid (fp d e=false):=az.o.trans (by rw [zd9 (da fq) d.names e.names ap];simp);have hx:¬(d.names.length:Int)=e.names.length:=by omega
  have bu:((d.names.length:Int)==e.names.length)=false:=beq_eq_false_iff_ne.2 hx;clear ap;go_wp2_with (first | (go_at_call 185;refine bl.o.mono ?_;rintro r w7 ⟨rfl,E⟩;have A:=(E.block w.heap.size (by omega)).trans bi.o;have D:=(E.block (w.heap.size+1) (by omega)).trans bf.o;have p1:=ba A 1 (x:=.slice ac d.ar.length J) rfl;have p2:=ba A 2 (x:=.slice Z d.fields.length G) rfl;have p3:=ba A 3 (x:=.slice aa d.names.length I) rfl;have p4:=ba A 4 (x:=.slice ad d.aq.length L) rfl;have o1:=ba D 1 (x:=.slice ah e.ar.length W) rfl;have o2:=ba D 2 (x:=.slice ae e.fields.length O) rfl;have o3:=ba D 3 (x:=.slice af e.names.length V) rfl;have o4:=ba D 4 (x:=.slice ai e.aq.length X) rfl;have za:=bv A;have zb:=bv D;have aw:=ag E;have ax:=ag (And.intro A D);clear E A D));go_ret;exact ⟨by rw [HR.o];rfl,bh.o _ aw.o⟩
 have a9:=ag ap;by_cases Y:d.aq.length=e.aq.length
 rotate_left
 ·have HR:Hid (fp d e=false):=az.o.trans (by rw [zd9 (da fg) d.aq e.aq Y];simp);have hx:¬(d.aq.length:Int)=e.aq.length:=by omega
  have bu:((d.aq.length:Int)==e.aq.length)=false:=beq_eq_false_iff_ne.2 hx;clear Y;go_wp2_with (first | (go_at_call 185;refine bl.o.mono ?_;rintro r w7 ⟨rfl,E⟩;have A:=(E.block w.heap.size (by omega)).trans bi.o;have D:=(E.block (w.heap.size+1) (by omega)).trans bf.o;have p1:=ba A 1 (x:=.slice ac d.ar.length J) rfl;have p2:=ba A 2 (x:=.slice Z d.fields.length G) rfl;have p3:=ba A 3 (x:=.slice aa d.names.length I) rfl;have p4:=ba A 4 (x:=.slice ad d.aq.length L) rfl;have o1:=ba D 1 (x:=.slice ah e.ar.length W) rfl;have o2:=ba D 2 (x:=.slice ae e.fields.length O) rfl;have o3:=ba D 3 (x:=.slice af e.names.length V) rfl;have o4:=ba D 4 (x:=.slice ai e.aq.length X) rfl;have za:=bv A;have zb:=bv D;have aw:=ag E;have ax:=ag (And.intro A D);clear E A D));go_ret;exact ⟨by rw [HR.o];rfl,bh.o _ aw.o⟩
 have ay:=ag Y;rw [<-ao,<-an,<-ap,<-Y]at ch bf ⊢;clear ao an ap Y;go_wp2_with (first | (go_at_call 185;refine bl.o.mono ?_;rintro r w7 ⟨rfl,E⟩;have A:=(E.block w.heap.size (by omega)).trans bi.o;have D:=(E.block (w.heap.size+1) (by omega)).trans bf.o;have p1:=ba A 1 (x:=.slice ac d.ar.length J) rfl;have p2:=ba A 2 (x:=.slice Z d.fields.length G) rfl;have p3:=ba A 3 (x:=.slice aa d.names.length I) rfl;have p4:=ba A 4 (x:=.slice ad d.aq.length L) rfl;have o1:=ba D 1 (x:=.slice ah d.ar.length W) rfl;have o2:=ba D 2 (x:=.slice ae d.fields.length O) rfl;have o3:=ba D 3 (x:=.slice af d.names.length V) rfl;have o4:=ba D 4 (x:=.slice ai d.aq.length X) rfl;have za:=bv A;have zb:=bv D;have aw:=ag E;have ax:=ag (And.intro A D);clear E A D));have ds:=aw.o.size;have bz:Hid (lf (· <B) w7 aC (.slice ac d.ar.length J) (.slice Z d.fields.length G) (.slice aa d.names.length I) (.slice ad d.aq.length L) d):=cx.o.kept (Kp.below (aw.o.mono (by omega)));have b1:Hid (lf (· <B) w7 bC (.slice ah d.ar.length W) (.slice ae d.fields.length O) (.slice af d.names.length V) (.slice ai d.aq.length X) e):=ch.o.kept (Kp.below (aw.o.mono (by omega)));have bc:Hid (∀n,Below w.heap.size w (w7.drewN n)):=fun n=>bh.o _ (ll aw.o n);clear cl cm cn co p1 p2 p3 p4 o1 o2 o3 o4 za zb;go_loopw [6] (fun i wx=>∃k:Nat,k<=d.ar.length/\i=.int .i64 k/\Hid (da fm d.ar e.ar=da fm (d.ar.drop k) (e.ar.drop k))/\∃n,wx=w7.drewN n) (fun i _=>d.ar.length - (intOf i).toNat)
 case atStart=>exact ⟨0,n0q _,rfl,rfl,0,rfl⟩
 case round=>
  rename World=>wr
  obtain ⟨k,hk,rfl,HQ,nz,u⟩:=hrel;have a4:Hid (lf (· <B) wr aC (.slice ac d.ar.length J) (.slice Z d.fields.length G) (.slice aa d.names.length I) (.slice ad d.aq.length L) d):=by rw [u];exact bz.o.kept ⟨nlq _,fun _ _ _=>rfl⟩
  have a5:Hid (lf (· <B) wr bC (.slice ah d.ar.length W) (.slice ae d.fields.length O) (.slice af d.names.length V) (.slice ai d.aq.length X) e):=by rw [u];exact b1.o.kept ⟨nlq _,fun _ _ _=>rfl⟩
  have A:wr.heap[w.heap.size]? =some (.cells #[aC,.slice ac d.ar.length J,.slice Z d.fields.length G,.slice aa d.names.length I,.slice ad d.aq.length L] 36 (0,0)):=by rw [u];exact ax.o.1
  have D:wr.heap[w.heap.size+1]? =some (.cells #[bC,.slice ah d.ar.length W,.slice ae d.fields.length O,.slice af d.names.length V,.slice ai d.aq.length X] 36 (0,0)):=by rw [u];exact ax.o.2
  have p1:=ba A 1 (x:=.slice ac d.ar.length J) rfl;have p2:=ba A 2 (x:=.slice Z d.fields.length G) rfl;have p3:=ba A 3 (x:=.slice aa d.names.length I) rfl;have p4:=ba A 4 (x:=.slice ad d.aq.length L) rfl;have o1:=ba D 1 (x:=.slice ah d.ar.length W) rfl;have o2:=ba D 2 (x:=.slice ae d.fields.length O) rfl;have o3:=ba D 3 (x:=.slice af d.names.length V) rfl;have o4:=ba D 4 (x:=.slice ai d.aq.length X) rfl;have za:=bv A;have zb:=bv D;have au:Hid (∀n,Below w.heap.size w (wr.drewN n)):=by rw [u];exact fun n=>ll (bc.o nz) n
  have a6:Hid (∀m,∃n,wr.drewN m=w7.drewN n):=by rw [u];exact fun m=>⟨_,World.drewN_drewN _ _ _⟩
  have bg:=ag u;clear u A D;by_cases al:k<d.ar.length
  ·have a2:k<e.ar.length:=by have:=a8.o;omega
   obtain ⟨b,off,rfl,_,c0⟩:=a4.o.S.atI k al;obtain ⟨b2,bw,rfl,_,d0⟩:=a5.o.S.atI k a2;have av:=ag (zea fm d.ar e.ar k al a2);generalize d.ar[k]=x at*;generalize e.ar[k]=y at*;cases hs:fm x y with
   | true=>
     have cf:x=y:=by simpa [fm]using hs
     have ak:Hid (da fm d.ar e.ar=da fm (d.ar.drop (k+1)) (e.ar.drop (k+1))):=HQ.o.trans (by rw [av.o,hs,Bool.true_and]);go_wp2
     go_quiet (fail);go_wp2
     go_roundw
     case rel=>exact ⟨k+1,by omega,by go_num,ak.o,a6.o _⟩
     case measure=>simp [intOf];omega
   | false=>
     have cf:¬x=y:=by simpa [fm]using hs
     have ak:Hid (fp d e=false):=az.o.trans (by rw [HQ.o,av.o,hs];simp);go_wp2
     go_quiet (fail);go_wp2
     go_ret;exact ⟨by rw [ak.o];rfl,au.o _⟩
  have cs:Hid (da fm d.ar e.ar=true):=HQ.o.trans (zeb fm _ _ k al a8.o);go_wp2_with fail;clear al hk HQ p1 p2 p3 p4 o1 o2 o3 o4 za zb a4 a5 au a6;go_loopw [7] (fun i wx=>∃k:Nat,k<=d.fields.length/\i=.int .i64 k/\Hid (da (da fb) d.fields e.fields=da (da fb) (d.fields.drop k) (e.fields.drop k))/\∃n,wx=w7.drewN n) (fun i _=>d.fields.length - (intOf i).toNat)
  case atStart=>exact ⟨0,n0q _,rfl,rfl,nz,bg.o⟩
  case round=>
   rename World=>wr
   obtain ⟨k,hk,rfl,HQ,nz,u⟩:=hrel;have a4:Hid (lf (· <B) wr aC (.slice ac d.ar.length J) (.slice Z d.fields.length G) (.slice aa d.names.length I) (.slice ad d.aq.length L) d):=by rw [u];exact bz.o.kept ⟨nlq _,fun _ _ _=>rfl⟩
   have a5:Hid (lf (· <B) wr bC (.slice ah d.ar.length W) (.slice ae d.fields.length O) (.slice af d.names.length V) (.slice ai d.aq.length X) e):=by rw [u];exact b1.o.kept ⟨nlq _,fun _ _ _=>rfl⟩
   have A:wr.heap[w.heap.size]? =some (.cells #[aC,.slice ac d.ar.length J,.slice Z d.fields.length G,.slice aa d.names.length I,.slice ad d.aq.length L] 36 (0,0)):=by rw [u];exact ax.o.1
   have D:wr.heap[w.heap.size+1]? =some (.cells #[bC,.slice ah d.ar.length W,.slice ae d.fields.length O,.slice af d.names.length V,.slice ai d.aq.length X] 36 (0,0)):=by rw [u];exact ax.o.2
   have p1:=ba A 1 (x:=.slice ac d.ar.length J) rfl;have p2:=ba A 2 (x:=.slice Z d.fields.length G) rfl;have p3:=ba A 3 (x:=.slice aa d.names.length I) rfl;have p4:=ba A 4 (x:=.slice ad d.aq.length L) rfl;have o1:=ba D 1 (x:=.slice ah d.ar.length W) rfl;have o2:=ba D 2 (x:=.slice ae d.fields.length O) rfl;have o3:=ba D 3 (x:=.slice af d.names.length V) rfl;have o4:=ba D 4 (x:=.slice ai d.aq.length X) rfl;have za:=bv A;have zb:=bv D;have au:Hid (∀n,Below w.heap.size w (wr.drewN n)):=by rw [u];exact fun n=>ll (bc.o nz) n
   have a6:Hid (∀m,∃n,wr.drewN m=w7.drewN n):=by rw [u];exact fun m=>⟨_,World.drewN_drewN _ _ _⟩
   have bg:=ag u;clear u A D;by_cases al:k<d.fields.length
   ·have a2:k<e.fields.length:=by have:=a7.o;omega
    obtain ⟨b,off,ci,cp,rfl,_,c0,su⟩:=a4.o.F.atSl k al;obtain ⟨b2,bw,cj,cr,rfl,_,d0,sv⟩:=a5.o.F.atSl k a2;have av:=ag (zea (da fb) d.fields e.fields k al a2);have HC:=ag (fun n=>zot (wr.drewN n) _ _ _ _ d.fields[k] e.fields[k] (su.kept ⟨nlq _,fun _ _ _=>rfl⟩ fun _ _ h=>h) (sv.kept ⟨nlq _,fun _ _ _=>rfl⟩ fun _ _ h=>h));clear su sv;generalize d.fields[k]=x at*;generalize e.fields[k]=y at*;cases hs:da fb x y with
    | true=>
      rw [hs]at HC;have ak:Hid (da (da fb) d.fields e.fields=da (da fb) (d.fields.drop (k+1)) (e.fields.drop (k+1))):=HQ.o.trans (by rw [av.o,hs,Bool.true_and]);clear hs;go_wp2
      go_quiet (first | (go_at_call 186;exact Calls.quiet_of (HC.o _)));go_wp2
      go_roundw
      case rel=>exact ⟨k+1,by omega,by go_num,ak.o,a6.o _⟩
      case measure=>simp [intOf];omega
    | false=>
      rw [hs]at HC;have ak:Hid (fp d e=false):=az.o.trans (by rw [HQ.o,av.o,hs];simp);clear hs;go_wp2
      go_quiet (first | (go_at_call 186;exact Calls.quiet_of (HC.o _)));go_wp2
      go_ret;exact ⟨by rw [ak.o];rfl,au.o _⟩
   have ct:Hid (da (da fb) d.fields e.fields=true):=HQ.o.trans (zeb (da fb) _ _ k al a7.o);go_wp2_with fail;clear al hk HQ p1 p2 p3 p4 o1 o2 o3 o4 za zb a4 a5 au a6;go_loopw [8] (fun i wx=>∃k:Nat,k<=d.names.length/\i=.int .i64 k/\Hid (da (da fq) d.names e.names=da (da fq) (d.names.drop k) (e.names.drop k))/\∃n,wx=w7.drewN n) (fun i _=>d.names.length - (intOf i).toNat)
   case atStart=>exact ⟨0,n0q _,rfl,rfl,nz,bg.o⟩
   case round=>
    rename World=>wr
    obtain ⟨k,hk,rfl,HQ,nz,u⟩:=hrel;have a4:Hid (lf (· <B) wr aC (.slice ac d.ar.length J) (.slice Z d.fields.length G) (.slice aa d.names.length I) (.slice ad d.aq.length L) d):=by rw [u];exact bz.o.kept ⟨nlq _,fun _ _ _=>rfl⟩
    have a5:Hid (lf (· <B) wr bC (.slice ah d.ar.length W) (.slice ae d.fields.length O) (.slice af d.names.length V) (.slice ai d.aq.length X) e):=by rw [u];exact b1.o.kept ⟨nlq _,fun _ _ _=>rfl⟩
    have A:wr.heap[w.heap.size]? =some (.cells #[aC,.slice ac d.ar.length J,.slice Z d.fields.length G,.slice aa d.names.length I,.slice ad d.aq.length L] 36 (0,0)):=by rw [u];exact ax.o.1
    have D:wr.heap[w.heap.size+1]? =some (.cells #[bC,.slice ah d.ar.length W,.slice ae d.fields.length O,.slice af d.names.length V,.slice ai d.aq.length X] 36 (0,0)):=by rw [u];exact ax.o.2
    have p1:=ba A 1 (x:=.slice ac d.ar.length J) rfl;have p2:=ba A 2 (x:=.slice Z d.fields.length G) rfl;have p3:=ba A 3 (x:=.slice aa d.names.length I) rfl;have p4:=ba A 4 (x:=.slice ad d.aq.length L) rfl;have o1:=ba D 1 (x:=.slice ah d.ar.length W) rfl;have o2:=ba D 2 (x:=.slice ae d.fields.length O) rfl;have o3:=ba D 3 (x:=.slice af d.names.length V) rfl;have o4:=ba D 4 (x:=.slice ai d.aq.length X) rfl;have za:=bv A;have zb:=bv D;have au:Hid (∀n,Below w.heap.size w (wr.drewN n)):=by rw [u];exact fun n=>ll (bc.o nz) n
    have a6:Hid (∀m,∃n,wr.drewN m=w7.drewN n):=by rw [u];exact fun m=>⟨_,World.drewN_drewN _ _ _⟩
    have bg:=ag u;clear u A D;by_cases al:k<d.names.length
    ·have a2:k<e.names.length:=by have:=a9.o;omega
     obtain ⟨b,off,ci,cp,rfl,c1,c0,su⟩:=a4.o.N.atSl k al;obtain ⟨b2,bw,cj,cr,rfl,c2,d0,sv⟩:=a5.o.N.atSl k a2;have av:=ag (zea (da fq) d.names e.names k al a2);have b6:=ag su;have bn:=ag sv;have ce:d.names[k].length<=maxLen:=by obtain ⟨_,_,e1,_,h,_⟩:=su;cases e1;exact h
     unfold maxLen at ce;clear su sv;generalize d.names[k]=x at*;generalize e.names[k]=y at*;have c6:(0:Int)<=k:=by omega
     have c7:(k:Int)<d.names.length:=by omega
     by_cases a3:x.length=y.length
     rotate_left
     ·have ak:Hid (fp d e=false):=az.o.trans (by rw [HQ.o,av.o,zd9 fq x y a3];simp);have bu:((x.length:Int)==y.length)=false:=beq_eq_false_iff_ne.2 (by omega);clear a3;go_wp2
      go_quiet (fail);go_wp2
      go_ret;exact ⟨by rw [ak.o];rfl,au.o _⟩
     have bj:=ag a3;rw [<-a3]at d0 bn;clear a3;go_wp2
     go_quiet (fail);go_wp2
     go_loopw [9] (fun i wx=>∃j:Nat,j<=x.length/\i=.int .i64 j/\Hid (da fq x y=da fq (x.drop j) (y.drop j))/\∃n,wx=wr.drewN n) (fun i _=>x.length - (intOf i).toNat)
     case atStart=>exact ⟨0,n0q _,rfl,rfl,_,rfl⟩
     case round=>
      obtain ⟨j,hj,rfl,HJ,n2,rfl⟩:=hrel;by_cases bb:j<x.length
      ·have bs:j<y.length:=by have:=bj.o;omega
       obtain ⟨bx,ox,rfl,_,f0,_⟩:=b6.o.atS j bb;obtain ⟨cy,oy,rfl,_,g0,_⟩:=bn.o.atS j bs;have bm:=ag (zea fq x y j bb bs);have c4:(0:Int)<=j:=by omega
       have c5:(j:Int)<x.length:=by omega
       generalize x[j]=s at*;generalize y[j]=s' at*;cases hs:fq s s' with
       | true=>
         have cf:(s.toList==s'.toList)=true:=hs;have b5:Hid (da fq x y=da fq (x.drop (j+1)) (y.drop (j+1))):=HJ.o.trans (by rw [bm.o,hs,Bool.true_and]);go_wp2
         go_quiet (fail);go_wp2
         go_roundw
         case rel=>exact ⟨j+1,by omega,by go_num,b5.o,_,rfl⟩
         case measure=>simp [intOf];omega
       | false=>
         have cf:(s.toList==s'.toList)=false:=hs;have ak:Hid (fp d e=false):=az.o.trans (by rw [HQ.o,av.o,HJ.o,bm.o,hs];simp);go_wp2
         go_quiet (fail);go_wp2
         go_ret;exact ⟨by rw [ak.o];rfl,ll (au.o n2) _⟩
      have ak:Hid (da (da fq) d.names e.names=da (da fq) (d.names.drop (k+1)) (e.names.drop (k+1))):=HQ.o.trans (by rw [av.o,HJ.o,zeb fq x y j bb bj.o,Bool.true_and]);go_wp2
      go_roundw
      case rel=>exact ⟨k+1,by omega,by go_num,ak.o,a6.o n2⟩
      case measure=>simp [intOf];omega
    have cu:Hid (da (da fq) d.names e.names=true):=HQ.o.trans (zeb (da fq) _ _ k al a9.o);go_wp2_with fail;clear al hk HQ p1 p2 p3 p4 o1 o2 o3 o4 za zb a4 a5 au a6;go_loopw [10] (fun i wx=>∃k:Nat,k<=d.aq.length/\i=.int .i64 k/\Hid (da (da fg) d.aq e.aq=da (da fg) (d.aq.drop k) (e.aq.drop k))/\∃n,wx=w7.drewN n) (fun i _=>d.aq.length - (intOf i).toNat)
    case atStart=>exact ⟨0,n0q _,rfl,rfl,nz,bg.o⟩
    case round=>
     rename World=>wr
     obtain ⟨k,hk,rfl,HQ,nz,u⟩:=hrel;have a4:Hid (lf (· <B) wr aC (.slice ac d.ar.length J) (.slice Z d.fields.length G) (.slice aa d.names.length I) (.slice ad d.aq.length L) d):=by rw [u];exact bz.o.kept ⟨nlq _,fun _ _ _=>rfl⟩
     have a5:Hid (lf (· <B) wr bC (.slice ah d.ar.length W) (.slice ae d.fields.length O) (.slice af d.names.length V) (.slice ai d.aq.length X) e):=by rw [u];exact b1.o.kept ⟨nlq _,fun _ _ _=>rfl⟩
     have A:wr.heap[w.heap.size]? =some (.cells #[aC,.slice ac d.ar.length J,.slice Z d.fields.length G,.slice aa d.names.length I,.slice ad d.aq.length L] 36 (0,0)):=by rw [u];exact ax.o.1
     have D:wr.heap[w.heap.size+1]? =some (.cells #[bC,.slice ah d.ar.length W,.slice ae d.fields.length O,.slice af d.names.length V,.slice ai d.aq.length X] 36 (0,0)):=by rw [u];exact ax.o.2
     have p1:=ba A 1 (x:=.slice ac d.ar.length J) rfl;have p2:=ba A 2 (x:=.slice Z d.fields.length G) rfl;have p3:=ba A 3 (x:=.slice aa d.names.length I) rfl;have p4:=ba A 4 (x:=.slice ad d.aq.length L) rfl;have o1:=ba D 1 (x:=.slice ah d.ar.length W) rfl;have o2:=ba D 2 (x:=.slice ae d.fields.length O) rfl;have o3:=ba D 3 (x:=.slice af d.names.length V) rfl;have o4:=ba D 4 (x:=.slice ai d.aq.length X) rfl;have za:=bv A;have zb:=bv D;have au:Hid (∀n,Below w.heap.size w (wr.drewN n)):=by rw [u];exact fun n=>ll (bc.o nz) n
     have a6:Hid (∀m,∃n,wr.drewN m=w7.drewN n):=by rw [u];exact fun m=>⟨_,World.drewN_drewN _ _ _⟩
     have bg:=ag u;clear u A D;by_cases al:k<d.aq.length
     ·have a2:k<e.aq.length:=by have:=ay.o;omega
      obtain ⟨b,off,ci,cp,rfl,c1,c0,su⟩:=a4.o.T.atSl k al;obtain ⟨b2,bw,cj,cr,rfl,c2,d0,sv⟩:=a5.o.T.atSl k a2;have av:=ag (zea (da fg) d.aq e.aq k al a2);have b6:=ag su;have bn:=ag sv;have ce:d.aq[k].length<=maxLen:=by obtain ⟨_,_,e1,_,h,_⟩:=su;cases e1;exact h
      unfold maxLen at ce;clear su sv;generalize d.aq[k]=x at*;generalize e.aq[k]=y at*;have c6:(0:Int)<=k:=by omega
      have c7:(k:Int)<d.aq.length:=by omega
      by_cases a3:x.length=y.length
      rotate_left
      ·have ak:Hid (fp d e=false):=az.o.trans (by rw [HQ.o,av.o,zd9 fg x y a3];simp);have bu:((x.length:Int)==y.length)=false:=beq_eq_false_iff_ne.2 (by omega);clear a3;go_wp2
       go_quiet (fail);go_wp2
       go_ret;exact ⟨by rw [ak.o];rfl,au.o _⟩
      have bj:=ag a3;rw [<-a3]at d0 bn;clear a3;go_wp2
      go_quiet (fail);go_wp2
      go_loopw [11] (fun i wx=>∃j:Nat,j<=x.length/\i=.int .i64 j/\Hid (da fg x y=da fg (x.drop j) (y.drop j))/\∃n,wx=wr.drewN n) (fun i _=>x.length - (intOf i).toNat)
      case atStart=>exact ⟨0,n0q _,rfl,rfl,_,rfl⟩
      case round=>
       obtain ⟨j,hj,rfl,HJ,n2,rfl⟩:=hrel;by_cases bb:j<x.length
       ·have bs:j<y.length:=by have:=bj.o;omega
        obtain ⟨bx,ox,rfl,_,f0,f1⟩:=b6.o.atT j bb;obtain ⟨cy,oy,rfl,_,g0,g1⟩:=bn.o.atT j bs;have bm:=ag (zea fg x y j bb bs);have c4:(0:Int)<=j:=by omega
        have c5:(j:Int)<x.length:=by omega
        have dk:=targNeq x[j] y[j];have dl:=targNeqG;generalize x[j]=s at*;generalize y[j]=s' at*;cases hs:fg s s' with
        | true=>
          have b5:Hid (da fg x y=da fg (x.drop (j+1)) (y.drop (j+1))):=HJ.o.trans (by rw [bm.o,hs,Bool.true_and]);go_wp2
          go_quiet (fail);go_wp2
          go_roundw
          case rel=>exact ⟨j+1,by omega,by go_num,b5.o,_,rfl⟩
          case measure=>simp [intOf];omega
        | false=>
          have ak:Hid (fp d e=false):=az.o.trans (by rw [HQ.o,av.o,HJ.o,bm.o,hs];simp);go_wp2
          go_quiet (fail);go_wp2
          go_ret;exact ⟨by rw [ak.o];rfl,ll (au.o n2) _⟩
       have ak:Hid (da (da fg) d.aq e.aq=da (da fg) (d.aq.drop (k+1)) (e.aq.drop (k+1))):=HQ.o.trans (by rw [av.o,HJ.o,zeb fg x y j bb bj.o,Bool.true_and]);go_wp2
       go_roundw
       case rel=>exact ⟨k+1,by omega,by go_num,ak.o,a6.o n2⟩
       case measure=>simp [intOf];omega
     have cv:Hid (da (da fg) d.aq e.aq=true):=HQ.o.trans (zeb (da fg) _ _ k al ay.o);have HR:Hid (fp d e=true):=az.o.trans (by rw [cs.o,ct.o,cu.o,cv.o];rfl);go_wp2_with fail;go_ret;exact ⟨by rw [HR.o];rfl,au.o 0⟩
end Go.Proofs.YtjdnmblggdobgaaGreat
