import Derived.Test.YtjdnmblggdobgaaGreatJMemChkMeth
import Derived.Test.YtjdnmblggdobgaaGreatJTk2Dies
import Derived.Deep.RegionWith
import Derived.Deep.DeepCutAuto
import Derived.Test.YtjdnmblggdobgaaGreatJLErrLRf4
set_option maxHeartbeats 20000000
set_option maxRecDepth 100000
namespace Go.Proofs.YtjdnmblggdobgaaGreat
open Go.RowKit
theorem zqs (w:World) (u v:Value) (l:List ew) (D:SL 2 RK (· <w.heap.size) w u l) (E:SL 2 RK (· <w.heap.size) w v l):
 Calls Tryz.prog 227 #[u,v] w fun r w'=>r=.returned (.bool true)/\∃n,w'=w.drewN n:=by
 have G:=ag D;have I:=ag E;obtain ⟨L,X,rfl,_,J,-⟩:=D;obtain ⟨N,Y,rfl,-⟩:=E;unfold maxLen at J;go_enter Tryz.func227,Tryz.ntmps227;go_wp2
 go_loopw [5] (fun i wr=>∃k:Nat,k<=l.length/\i=.int .i64 k/\∃n,wr=w.drewN n) (fun i _=>l.length - (intOf i).toNat)
 case atStart=>exact ⟨0,n0q _,rfl,0,rfl⟩
 case round=>
  obtain ⟨k,hk,rfl,n,rfl⟩:=hrel;by_cases A:k<l.length
  ·obtain ⟨b,off,rfl,_,V,W,_⟩:=G.o.atK k A;obtain ⟨O,F,rfl,_,Z,d1,_⟩:=I.o.atK k A;go_wp2
   go_quiet (fail);go_wp2
   go_roundw
   case rel=>exact ⟨k+1,by omega,by go_num,_,rfl⟩
   case measure=>simp [intOf];omega
  go_wp2
  go_ret;exact ⟨rfl,n,rfl⟩
theorem zqt (w:World) (u v:Value) (l:List bo) (D:SL 3 RF (· <w.heap.size) w u l) (E:SL 3 RF (· <w.heap.size) w v l):
 Calls Tryz.prog 186 #[u,v] w fun r w'=>r=.returned (.bool true)/\∃n,w'=w.drewN n:=by
 have G:=ag D;have I:=ag E;obtain ⟨L,Y,rfl,_,J,-⟩:=D;obtain ⟨N,Z,rfl,-⟩:=E;unfold maxLen at J;go_enter Tryz.func186,Tryz.ntmps186;go_wp2
 go_loopw [5] (fun i wr=>∃k:Nat,k<=l.length/\i=.int .i64 k/\∃n,wr=w.drewN n) (fun i _=>l.length - (intOf i).toNat)
 case atStart=>exact ⟨0,n0q _,rfl,0,rfl⟩
 case round=>
  obtain ⟨k,hk,rfl,n,rfl⟩:=hrel;by_cases A:k<l.length
  ·obtain ⟨b,off,rfl,_,V,W,X,_⟩:=G.o.atF k A;obtain ⟨O,F,rfl,_,d0,d1,d2,_⟩:=I.o.atF k A;go_wp2
   go_quiet (fail);go_wp2
   go_roundw
   case rel=>exact ⟨k+1,by omega,by go_num,_,rfl⟩
   case measure=>simp [intOf];omega
  go_wp2
  go_ret;exact ⟨rfl,n,rfl⟩
theorem zqu {B:Nat} {w w':World} (h:Below B w w') (n:Nat):Below B w (w'.drewN n):=⟨h.os,h.tape,h.output,h.size,h.block⟩
structure Pair (wr W:World) (px py:Value) (t:Nat) (cx cy:Array Value):Prop where
 at_:∃X Y,px=.pointer (some ⟨X,0,none⟩)/\py=.pointer (some ⟨Y,0,none⟩)/\wr.heap.size<=X/\wr.heap.size<=Y/\W.heap[X]? =some (.cells cx t (0,0))/\W.heap[Y]? =some (.cells cy t (0,0))
 below:Below wr.heap.size wr W
theorem Pair.one (wr:World) (t:Nat) (u A:Array Value):Pair wr ((wr.alloc (.cells u t)).alloc (.cells A t)).drew (.pointer (some ⟨wr.heap.size,0,none⟩)) (.pointer (some ⟨wr.heap.size+1,0,none⟩)) t u A:=by
 refine ⟨⟨_,_,rfl,rfl,nlq _,by omega,?_,?_⟩,(((br _ _).alloc (nlq _) _).alloc (by simp) _).drew⟩
 ·show ((wr.heap.push _).push _)[wr.heap.size]? =_;rw [Array.getElem?_push,if_neg (by simp)];exact Array.getElem?_push_size
 show ((wr.heap.push _).push _)[wr.heap.size+1]? =_;rw [Array.getElem?_push,if_pos (by simp)]
theorem Pair.two (wr:World) (t:Nat) (u A:Array Value):Pair wr ((wr.alloc (.cells A t)).alloc (.cells u t)).drew (.pointer (some ⟨wr.heap.size+1,0,none⟩)) (.pointer (some ⟨wr.heap.size,0,none⟩)) t u A:=by obtain ⟨⟨X,Y,h1,D,E,F,G,I⟩,J⟩:=Pair.one wr t A u;exact ⟨⟨Y,X,D,h1,F,E,I,G⟩,J⟩
theorem zqv {W:World} {X:Nat} {o:Obj} (h:W.heap[X]? =some o):X<W.heap.size:=(Array.getElem?_eq_some_iff.1 h).1
theorem SL.upF {B:Nat} {w w':World} {v:Value} {l:List bo} (h:SL 3 RF (· <B) w v l) (u:Below B w w') (A:B<=w.heap.size):SL 3 RF (· <w'.heap.size) w' v l:=(h.keptF (Kp.below u)).monoF fun _ D=>ll3 D (lt3 A u.size)
theorem SL.upK {B:Nat} {w w':World} {v:Value} {l:List ew} (h:SL 2 RK (· <B) w v l) (u:Below B w w') (A:B<=w.heap.size):SL 2 RK (· <w'.heap.size) w' v l:=(h.keptK (Kp.below u)).monoK fun _ D=>ll3 D (lt3 A u.size)
theorem zqw (w:World) (u v:Value) (l:List am) (hu:SL 4 RC (· <w.heap.size) w u l) (hv:SL 4 RC (· <w.heap.size) w v l):
 Calls Tryz.prog 185 #[u,v] w fun r w'=>r=.returned (.bool true)/\Below w.heap.size w w':=by
 have HU:=ag hu;have HV:=ag hv;obtain ⟨au,cu,rfl,_,hl,-⟩:=hu;obtain ⟨av,cv,rfl,-⟩:=hv;unfold maxLen at hl;go_enter Tryz.func185,Tryz.ntmps185;go_wp2
 go_loopw [5] (fun i wr=>∃k:Nat,k<=l.length/\i=.int .i64 k/\Below w.heap.size w wr) (fun i _=>l.length - (intOf i).toNat)
 case atStart=>exact ⟨0,n0q _,rfl,br _ _⟩
 case round=>
  obtain ⟨k,hk,rfl,ad⟩:=hrel;have E:=ad.size;by_cases a4:k<l.length
  rotate_left
  ·go_wp2_with fail;go_ret;exact ⟨rfl,ad⟩
  obtain ⟨b,off,vf,vm,rfl,b0,e0,e1,e2,e3,ef,em,-⟩:=(HU.o.keptC (Kp.below ad)).atC k a4;obtain ⟨b',bi,b4,cc,rfl,bf,d0,d1,d2,d3,a1,a3,-⟩:=(HV.o.keptC (Kp.below ad)).atC k a4;have EF:=ag ef;have EM:=ag em;have a7:=ag a1;have a9:=ag a3;obtain ⟨fo,cf,rfl,-⟩:=ef;obtain ⟨mo,cm,rfl,_,bc,-⟩:=em;obtain ⟨aw,aq,rfl,-⟩:=a1;obtain ⟨af,ae,rfl,-⟩:=a3;unfold maxLen at bc;generalize l[k]=c at*;obtain ⟨O,bq,A,ar⟩:=c
  dsimp only at*
  have bs:Hid (Below wr.heap.size wr wr):=br _ _;go_wp2_with fail;go_cut [6,7] (fun px py W=>Pair wr W px py 162 #[.string O,.string bq,.slice fo A.length cf,.slice mo ar.length cm] #[.string O,.string bq,.slice aw A.length aq,.slice af ar.length ae])
  case first=>
   go_region
   all_goals
    go_wp2_with fail
    go_meet
    first | exact Pair.one _ _ _ _ | exact Pair.two _ _ _ _
  case rest=>
   obtain ⟨⟨X,Y,rfl,rfl,hX,hY,L,N⟩,F⟩:=hcut;have al:=ag L;have ap:=ag N;have xl:=zqv L;have yl:=zqv N;have x0:=ba L 0 (x:=.string O) rfl;have x1:=ba L 1 (x:=.string bq) rfl;have x2:=ba L 2 (x:=.slice fo A.length cf) rfl;have x3:=ba L 3 (x:=.slice mo ar.length cm) rfl;have y0:=ba N 0 (x:=.string O) rfl;have y1:=ba N 1 (x:=.string bq) rfl;have y2:=ba N 2 (x:=.slice aw A.length aq) rfl;have y3:=ba N 3 (x:=.slice af ar.length ae) rfl;clear L N e0 e1 e2 e3 d0 d1 d2 d3;go_wp2_with fail;refine (zqt _ _ _ A (EF.o.upF (F.mono E) E) (a7.o.upF (F.mono E) E)).mono ?_;rintro r w2 ⟨rfl,n2,rfl⟩;go_wp2_with fail;go_loopw [8] (fun i wi=>∃j:Nat,j<=ar.length/\i=.int .i64 j/\Below wr.heap.size wr wi/\Hid (wi.heap[X]? =some (.cells #[.string O,.string bq,.slice fo A.length cf,.slice mo ar.length cm] 162 (0,0)))/\Hid (wi.heap[Y]? =some (.cells #[.string O,.string bq,.slice aw A.length aq,.slice af ar.length ae] 162 (0,0)))) (fun i _=>ar.length - (intOf i).toNat)
   case atStart=>exact ⟨0,n0q _,rfl,zqu F _,al.o,ap.o⟩
   case round=>
    rename World=>wi
    obtain ⟨j,hj,rfl,ac,ak,an⟩:=hrel;have aj:=ac.size;clear x0 x1 x2 x3 y0 y1 y2 y3 xl yl F al ap;have xl:=zqv ak.o;have yl:=zqv an.o;have x3:=ba ak.o 3 (x:=.slice mo ar.length cm) rfl;have y3:=ba an.o 3 (x:=.slice af ar.length ae) rfl;by_cases ai:j<ar.length
    rotate_left
    ·go_wp2_with fail;go_roundw
     case rel=>exact ⟨k+1,by omega,by go_num,ad.trans (ac.mono E)⟩
     case measure=>simp [intOf];omega
    obtain ⟨b2,bk,va,vh,rfl,bg,q0,q1,q2,q3,q4,q5,q6,q7,q8,ea,eh,-⟩:=(EM.o.keptM (Kp.below (ac.mono E))).atM j ai;obtain ⟨b3,bl,b1,b7,rfl,bh,s0,s1,s2,s3,s4,s5,s6,s7,s8,a0,a2,-⟩:=(a9.o.keptM (Kp.below (ac.mono E))).atM j ai;have EA:=ag ea;have EH:=ag eh;have a6:=ag a0;have a8:=ag a2;obtain ⟨ao,ca,rfl,-⟩:=ea;obtain ⟨ho,ch,rfl,_,bb,-⟩:=eh;obtain ⟨ax,ay,rfl,-⟩:=a0;obtain ⟨a5,az,rfl,-⟩:=a2;unfold maxLen at bb;generalize ar[j]=m at*;obtain ⟨V,I,args,⟨rk,rc⟩,Z,G,aa,D⟩:=m
    dsimp only at*
    go_wp2_with fail;go_cut [9,10] (fun px py W=>Pair wi W px py 159 #[.string V,.bool I,.slice ao args.length ca,.int .i64 rk,.string rc,.int .i64 Z,.int .i64 G,.string aa,.slice ho D.length ch] #[.string V,.bool I,.slice ax args.length ay,.int .i64 rk,.string rc,.int .i64 Z,.int .i64 G,.string aa,.slice a5 D.length az])
    case first=>
     go_region
     all_goals
      go_wp2_with fail
      go_meet
      first | exact Pair.one _ _ _ _ | exact Pair.two _ _ _ _
    case rest=>
     obtain ⟨⟨X2,Y2,rfl,rfl,bu,bx,L,N⟩,F⟩:=hcut;have al:=ag L;have ap:=ag N;have ce:=zqv L;have ci:=zqv N;have m0:=ba L 0 (x:=.string V) rfl;have m1:=ba L 1 (x:=.bool I) rfl;have m2:=ba L 2 (x:=.slice ao args.length ca) rfl;have m3:=ba L 3 (x:=.int .i64 rk) rfl;have m4:=ba L 4 (x:=.string rc) rfl;have m5:=ba L 5 (x:=.int .i64 Z) rfl;have m6:=ba L 6 (x:=.int .i64 G) rfl;have m7:=ba L 7 (x:=.string aa) rfl;have m8:=ba L 8 (x:=.slice ho D.length ch) rfl;have n0:=ba N 0 (x:=.string V) rfl;have n1:=ba N 1 (x:=.bool I) rfl;have n2:=ba N 2 (x:=.slice ax args.length ay) rfl;have n3:=ba N 3 (x:=.int .i64 rk) rfl;have n4:=ba N 4 (x:=.string rc) rfl;have n5:=ba N 5 (x:=.int .i64 Z) rfl;have n6:=ba N 6 (x:=.int .i64 G) rfl;have n7:=ba N 7 (x:=.string aa) rfl;have n8:=ba N 8 (x:=.slice a5 D.length az) rfl;have J:w.heap.size<=wi.heap.size:=lt3 E aj;clear L N q0 q1 q2 q3 q4 q5 q6 q7 q8 s0 s1 s2 s3 s4 s5 s6 s7 s8 x3 y3;go_wp2_with fail;refine (zqs _ _ _ args (EA.o.upK (F.mono J) J) (a6.o.upK (F.mono J) J)).mono ?_;rintro r w3 ⟨rfl,n9,rfl⟩;go_wp2_with fail;go_loopw [11] (fun i wj=>∃(h n:Nat),h<=D.length/\i=.int .i64 h/\wj=wc.drewN n) (fun i _=>D.length - (intOf i).toNat)
     case atStart=>exact ⟨0,n9,n0q _,rfl,rfl⟩
     case round=>
      obtain ⟨h,nn,hh,rfl,rfl⟩:=hrel;by_cases ah:h<D.length
      ·obtain ⟨b5,bm,rfl,_,g0,g1,g2,g3,-⟩:=(EH.o.keptH (Kp.below (F.mono J))).atH h ah;obtain ⟨b6,bn,rfl,_,j0,j1,j2,j3,-⟩:=(a8.o.keptH (Kp.below (F.mono J))).atH h ah;go_wp2_with fail;go_quiet (fail);go_wp2_with fail;go_roundw
       case rel=>exact ⟨h+1,_,by omega,by go_num,rfl⟩
       case measure=>simp [intOf];omega
      go_wp2_with fail;go_roundw
      case rel=>exact ⟨j+1,by omega,by go_num,ac.trans ((zqu F _).mono aj),(F.block X xl).trans ak.o,(F.block Y yl).trans an.o⟩
      case measure=>simp [intOf];omega
end Go.Proofs.YtjdnmblggdobgaaGreat
namespace Go.Proofs.YtjdnmblggdobgaaGreat
open Go.RowKit Go.Maps
def fw (d e:be):Bool:=cz fp d.ax e.ax&&cz (cz ey) d.fields e.fields&&cz (cz fx) d.names e.names&&cz (cz fg) d.aq e.aq
theorem zqx (w:World) (B:Nat) (aC aS aF aN aT bC bS bF bN bT:Value) (d e:be) (hd:ma (· <B) w aC aS aF aN aT d) (he:ma (· <B) w bC bS bF bN bT e) (c5:d.aj=e.aj) (hB:B<=w.heap.size):
 Calls Tryz.prog 118 #[.agg #[aC,aS,aF,aN,aT],.agg #[bC,bS,bF,bN,bT]] w fun r w'=>r=.returned (.bool (fw d e))/\Below w.heap.size w w':=by
 have bq:Below w.heap.size w ((w.alloc (.cells #[aC,aS,aF,aN,aT] 36)).alloc (.cells #[bC,bS,bF,bN,bT] 36)):=((br _ _).alloc (nlq _) _).alloc (by simp) _;have b5:((w.alloc (.cells #[aC,aS,aF,aN,aT] 36)).alloc (.cells #[bC,bS,bF,bN,bT] 36)).heap[w.heap.size]? =some (.cells #[aC,aS,aF,aN,aT] 36 (0,0)):=(Below.heap_alloc _ _ _ (by simp)).trans (heap_alloc_new w _);have cf:((w.alloc (.cells #[aC,aS,aF,aN,aT] 36)).alloc (.cells #[bC,bS,bF,bN,bT] 36)).heap[w.heap.size+1]? =some (.cells #[bC,bS,bF,bN,bT] 36 (0,0)):=by have:=heap_alloc_new (w.alloc (.cells #[aC,aS,aF,aN,aT] 36)) (.cells #[bC,bS,bF,bN,bT] 36);simpa using this
 have cc:=hd.kept (Kp.below (bq.mono hB));have ce:=he.kept (Kp.below (bq.mono hB));have bl:=ag (zqw _ aC bC d.aj (cc.C.monoC fun _ (h:_<B)=>by have:=bq.size;omega) (c5 ▸ ce.C.monoC fun _ (h:_<B)=>by have:=bq.size;omega));have c1:=ag cc;have cj:=ag ce;have b6:=ag bq;have bi:=ag b5;have bf:=ag cf;have az:Hid (fw d e=(cz fp d.ax e.ax&&cz (cz ey) d.fields e.fields&&cz (cz fx) d.names e.names&&cz (cz fg) d.aq e.aq)):=rfl;have a0:=ba b5 0 (x:=aC) rfl;have a1:=ba b5 1 (x:=aS) rfl;have b0:=ba cf 0 (x:=bC) rfl;have d1:w.heap.size<((w.alloc (.cells #[aC,aS,aF,aN,aT] 36)).alloc (.cells #[bC,bS,bF,bN,bT] 36)).heap.size:=by simp;omega
 have d2:w.heap.size+1<((w.alloc (.cells #[aC,aS,aF,aN,aT] 36)).alloc (.cells #[bC,bS,bF,bN,bT] 36)).heap.size:=by simp
 obtain ⟨ac,J,rfl,-,da,-⟩:=hd.S;obtain ⟨Z,G,rfl,-,dd,-⟩:=hd.F;obtain ⟨aa,I,rfl,-,df,-⟩:=hd.N;obtain ⟨ad,L,rfl,-,dg,-⟩:=hd.T;obtain ⟨ah,W,rfl,-,cn,-⟩:=he.S;obtain ⟨ae,O,rfl,-,co,-⟩:=he.F;obtain ⟨af,V,rfl,-,cp,-⟩:=he.N;obtain ⟨ai,X,rfl,-,cr,-⟩:=he.T;unfold maxLen at da dd df dg cn co cp cr;clear hd he cc ce b5 cf;have dk:Hid (((w.alloc (.cells #[aC,.slice ac d.ax.length J,.slice Z d.fields.length G,.slice aa d.names.length I,.slice ad d.aq.length L] 36)).alloc (.cells #[bC,.slice ah e.ax.length W,.slice ae e.fields.length O,.slice af e.names.length V,.slice ai e.aq.length X] 36)).heap.size=w.heap.size+2):=by show _=_;simp
 go_enter Tryz.func118,Tryz.ntmps118
 go_upto_region 2 with fail
 generalize hWW:((w.alloc (.cells #[aC,.slice ac d.ax.length J,.slice Z d.fields.length G,.slice aa d.names.length I,.slice ad d.aq.length L] 36)).alloc (.cells #[bC,.slice ah e.ax.length W,.slice ae e.fields.length O,.slice af e.names.length V,.slice ai e.aq.length X] 36))=W1 at*;clear hWW;have dl:=b6.o.size;have bh:Hid (∀w',Below W1.heap.size W1 w'->Below w.heap.size w w'):=fun w' h=>b6.o.trans (h.mono b6.o.size);by_cases ao:d.ax.length=e.ax.length
 rotate_left
 ·have HR:Hid (fw d e=false):=az.o.trans (by rw [zd9 fp d.ax e.ax ao];simp);have hx:¬(e.ax.length:Int)=d.ax.length:=by omega
  have bu:((e.ax.length:Int)==d.ax.length)=false:=beq_eq_false_iff_ne.2 hx;clear ao;go_wp2_with (first | (go_at_call 185;refine bl.o.mono ?_;rintro r w7 ⟨rfl,E⟩;have A:=(E.block w.heap.size (by omega)).trans bi.o;have D:=(E.block (w.heap.size+1) (by omega)).trans bf.o;have p1:=ba A 1 (x:=.slice ac d.ax.length J) rfl;have p2:=ba A 2 (x:=.slice Z d.fields.length G) rfl;have p3:=ba A 3 (x:=.slice aa d.names.length I) rfl;have p4:=ba A 4 (x:=.slice ad d.aq.length L) rfl;have o1:=ba D 1 (x:=.slice ah e.ax.length W) rfl;have o2:=ba D 2 (x:=.slice ae e.fields.length O) rfl;have o3:=ba D 3 (x:=.slice af e.names.length V) rfl;have o4:=ba D 4 (x:=.slice ai e.aq.length X) rfl;have za:=bz A;have zb:=bz D;have av:=ag E;have aw:=ag (And.intro A D);clear E A D));go_ret;exact ⟨by rw [HR.o];rfl,bh.o _ av.o⟩
 have a8:=ag ao;by_cases an:d.fields.length=e.fields.length
 rotate_left
 ·have HR:Hid (fw d e=false):=az.o.trans (by rw [zd9 (cz ey) d.fields e.fields an];simp);have hx:¬(d.fields.length:Int)=e.fields.length:=by omega
  have bu:((d.fields.length:Int)==e.fields.length)=false:=beq_eq_false_iff_ne.2 hx;clear an;go_wp2_with (first | (go_at_call 185;refine bl.o.mono ?_;rintro r w7 ⟨rfl,E⟩;have A:=(E.block w.heap.size (by omega)).trans bi.o;have D:=(E.block (w.heap.size+1) (by omega)).trans bf.o;have p1:=ba A 1 (x:=.slice ac d.ax.length J) rfl;have p2:=ba A 2 (x:=.slice Z d.fields.length G) rfl;have p3:=ba A 3 (x:=.slice aa d.names.length I) rfl;have p4:=ba A 4 (x:=.slice ad d.aq.length L) rfl;have o1:=ba D 1 (x:=.slice ah e.ax.length W) rfl;have o2:=ba D 2 (x:=.slice ae e.fields.length O) rfl;have o3:=ba D 3 (x:=.slice af e.names.length V) rfl;have o4:=ba D 4 (x:=.slice ai e.aq.length X) rfl;have za:=bz A;have zb:=bz D;have av:=ag E;have aw:=ag (And.intro A D);clear E A D));go_ret;exact ⟨by rw [HR.o];rfl,bh.o _ av.o⟩
 have a7:=ag an;by_cases ap:d.names.length=e.names.length
 rotate_left
 ·have HR:Hid (fw d e=false):=az.o.trans (by rw [zd9 (cz fx) d.names e.names ap];simp);have hx:¬(d.names.length:Int)=e.names.length:=by omega
  have bu:((d.names.length:Int)==e.names.length)=false:=beq_eq_false_iff_ne.2 hx;clear ap;go_wp2_with (first | (go_at_call 185;refine bl.o.mono ?_;rintro r w7 ⟨rfl,E⟩;have A:=(E.block w.heap.size (by omega)).trans bi.o;have D:=(E.block (w.heap.size+1) (by omega)).trans bf.o;have p1:=ba A 1 (x:=.slice ac d.ax.length J) rfl;have p2:=ba A 2 (x:=.slice Z d.fields.length G) rfl;have p3:=ba A 3 (x:=.slice aa d.names.length I) rfl;have p4:=ba A 4 (x:=.slice ad d.aq.length L) rfl;have o1:=ba D 1 (x:=.slice ah e.ax.length W) rfl;have o2:=ba D 2 (x:=.slice ae e.fields.length O) rfl;have o3:=ba D 3 (x:=.slice af e.names.length V) rfl;have o4:=ba D 4 (x:=.slice ai e.aq.length X) rfl;have za:=bz A;have zb:=bz D;have av:=ag E;have aw:=ag (And.intro A D);clear E A D));go_ret;exact ⟨by rw [HR.o];rfl,bh.o _ av.o⟩
 have a9:=ag ap;by_cases Y:d.aq.length=e.aq.length
 rotate_left
 ·have HR:Hid (fw d e=false):=az.o.trans (by rw [zd9 (cz fg) d.aq e.aq Y];simp);have hx:¬(d.aq.length:Int)=e.aq.length:=by omega
  have bu:((d.aq.length:Int)==e.aq.length)=false:=beq_eq_false_iff_ne.2 hx;clear Y;go_wp2_with (first | (go_at_call 185;refine bl.o.mono ?_;rintro r w7 ⟨rfl,E⟩;have A:=(E.block w.heap.size (by omega)).trans bi.o;have D:=(E.block (w.heap.size+1) (by omega)).trans bf.o;have p1:=ba A 1 (x:=.slice ac d.ax.length J) rfl;have p2:=ba A 2 (x:=.slice Z d.fields.length G) rfl;have p3:=ba A 3 (x:=.slice aa d.names.length I) rfl;have p4:=ba A 4 (x:=.slice ad d.aq.length L) rfl;have o1:=ba D 1 (x:=.slice ah e.ax.length W) rfl;have o2:=ba D 2 (x:=.slice ae e.fields.length O) rfl;have o3:=ba D 3 (x:=.slice af e.names.length V) rfl;have o4:=ba D 4 (x:=.slice ai e.aq.length X) rfl;have za:=bz A;have zb:=bz D;have av:=ag E;have aw:=ag (And.intro A D);clear E A D));go_ret;exact ⟨by rw [HR.o];rfl,bh.o _ av.o⟩
 have ay:=ag Y;rw [<-ao,<-an,<-ap,<-Y]at cj bf ⊢;clear ao an ap Y;go_wp2_with (first | (go_at_call 185;refine bl.o.mono ?_;rintro r w7 ⟨rfl,E⟩;have A:=(E.block w.heap.size (by omega)).trans bi.o;have D:=(E.block (w.heap.size+1) (by omega)).trans bf.o;have p1:=ba A 1 (x:=.slice ac d.ax.length J) rfl;have p2:=ba A 2 (x:=.slice Z d.fields.length G) rfl;have p3:=ba A 3 (x:=.slice aa d.names.length I) rfl;have p4:=ba A 4 (x:=.slice ad d.aq.length L) rfl;have o1:=ba D 1 (x:=.slice ah d.ax.length W) rfl;have o2:=ba D 2 (x:=.slice ae d.fields.length O) rfl;have o3:=ba D 3 (x:=.slice af d.names.length V) rfl;have o4:=ba D 4 (x:=.slice ai d.aq.length X) rfl;have za:=bz A;have zb:=bz D;have av:=ag E;have aw:=ag (And.intro A D);clear E A D));have dz:=av.o.size;have b3:Hid (ma (· <B) w7 aC (.slice ac d.ax.length J) (.slice Z d.fields.length G) (.slice aa d.names.length I) (.slice ad d.aq.length L) d):=c1.o.kept (Kp.below (av.o.mono (by omega)));have b4:Hid (ma (· <B) w7 bC (.slice ah d.ax.length W) (.slice ae d.fields.length O) (.slice af d.names.length V) (.slice ai d.aq.length X) e):=cj.o.kept (Kp.below (av.o.mono (by omega)));have bc:Hid (∀n,Below w.heap.size w (w7.drewN n)):=fun n=>bh.o _ (mp av.o n);clear cn co cp cr p1 p2 p3 p4 o1 o2 o3 o4 za zb;go_loopw [6] (fun i wx=>∃k:Nat,k<=d.ax.length/\i=.int .i64 k/\Hid (cz fp d.ax e.ax=cz fp (d.ax.drop k) (e.ax.drop k))/\∃n,wx=w7.drewN n) (fun i _=>d.ax.length - (intOf i).toNat)
 case atStart=>exact ⟨0,n0q _,rfl,rfl,0,rfl⟩
 case round=>
  rename World=>wr
  obtain ⟨k,hk,rfl,HQ,nz,u⟩:=hrel;have a4:Hid (ma (· <B) wr aC (.slice ac d.ax.length J) (.slice Z d.fields.length G) (.slice aa d.names.length I) (.slice ad d.aq.length L) d):=by rw [u];exact b3.o.kept ⟨nlq _,fun _ _ _=>rfl⟩
  have a5:Hid (ma (· <B) wr bC (.slice ah d.ax.length W) (.slice ae d.fields.length O) (.slice af d.names.length V) (.slice ai d.aq.length X) e):=by rw [u];exact b4.o.kept ⟨nlq _,fun _ _ _=>rfl⟩
  have A:wr.heap[w.heap.size]? =some (.cells #[aC,.slice ac d.ax.length J,.slice Z d.fields.length G,.slice aa d.names.length I,.slice ad d.aq.length L] 36 (0,0)):=by rw [u];exact aw.o.1
  have D:wr.heap[w.heap.size+1]? =some (.cells #[bC,.slice ah d.ax.length W,.slice ae d.fields.length O,.slice af d.names.length V,.slice ai d.aq.length X] 36 (0,0)):=by rw [u];exact aw.o.2
  have p1:=ba A 1 (x:=.slice ac d.ax.length J) rfl;have p2:=ba A 2 (x:=.slice Z d.fields.length G) rfl;have p3:=ba A 3 (x:=.slice aa d.names.length I) rfl;have p4:=ba A 4 (x:=.slice ad d.aq.length L) rfl;have o1:=ba D 1 (x:=.slice ah d.ax.length W) rfl;have o2:=ba D 2 (x:=.slice ae d.fields.length O) rfl;have o3:=ba D 3 (x:=.slice af d.names.length V) rfl;have o4:=ba D 4 (x:=.slice ai d.aq.length X) rfl;have za:=bz A;have zb:=bz D;have ar:Hid (∀n,Below w.heap.size w (wr.drewN n)):=by rw [u];exact fun n=>mp (bc.o nz) n
  have a6:Hid (∀m,∃n,wr.drewN m=w7.drewN n):=by rw [u];exact fun m=>⟨_,World.drewN_drewN _ _ _⟩
  have bg:=ag u;clear u A D;by_cases al:k<d.ax.length
  ·have a2:k<e.ax.length:=by have:=a8.o;omega
   obtain ⟨b,off,rfl,_,c0⟩:=a4.o.S.atI k al;obtain ⟨b2,b1,rfl,_,d0⟩:=a5.o.S.atI k a2;have au:=ag (zea fp d.ax e.ax k al a2);generalize d.ax[k]=x at*;generalize e.ax[k]=y at*;cases hs:fp x y with
   | true=>
     have ci:x=y:=by simpa [fp]using hs
     have ak:Hid (cz fp d.ax e.ax=cz fp (d.ax.drop (k+1)) (e.ax.drop (k+1))):=HQ.o.trans (by rw [au.o,hs,Bool.true_and]);go_wp2
     go_quiet (fail);go_wp2
     go_roundw
     case rel=>exact ⟨k+1,by omega,by go_num,ak.o,a6.o _⟩
     case measure=>simp [intOf];omega
   | false=>
     have ci:¬x=y:=by simpa [fp]using hs
     have ak:Hid (fw d e=false):=az.o.trans (by rw [HQ.o,au.o,hs];simp);go_wp2
     go_quiet (fail);go_wp2
     go_ret;exact ⟨by rw [ak.o];rfl,ar.o _⟩
  have cu:Hid (cz fp d.ax e.ax=true):=HQ.o.trans (zeb fp _ _ k al a8.o);go_wp2_with fail;clear al hk HQ p1 p2 p3 p4 o1 o2 o3 o4 za zb a4 a5 ar a6;go_loopw [7] (fun i wx=>∃k:Nat,k<=d.fields.length/\i=.int .i64 k/\Hid (cz (cz ey) d.fields e.fields=cz (cz ey) (d.fields.drop k) (e.fields.drop k))/\∃n,wx=w7.drewN n) (fun i _=>d.fields.length - (intOf i).toNat)
  case atStart=>exact ⟨0,n0q _,rfl,rfl,nz,bg.o⟩
  case round=>
   rename World=>wr
   obtain ⟨k,hk,rfl,HQ,nz,u⟩:=hrel;have a4:Hid (ma (· <B) wr aC (.slice ac d.ax.length J) (.slice Z d.fields.length G) (.slice aa d.names.length I) (.slice ad d.aq.length L) d):=by rw [u];exact b3.o.kept ⟨nlq _,fun _ _ _=>rfl⟩
   have a5:Hid (ma (· <B) wr bC (.slice ah d.ax.length W) (.slice ae d.fields.length O) (.slice af d.names.length V) (.slice ai d.aq.length X) e):=by rw [u];exact b4.o.kept ⟨nlq _,fun _ _ _=>rfl⟩
   have A:wr.heap[w.heap.size]? =some (.cells #[aC,.slice ac d.ax.length J,.slice Z d.fields.length G,.slice aa d.names.length I,.slice ad d.aq.length L] 36 (0,0)):=by rw [u];exact aw.o.1
   have D:wr.heap[w.heap.size+1]? =some (.cells #[bC,.slice ah d.ax.length W,.slice ae d.fields.length O,.slice af d.names.length V,.slice ai d.aq.length X] 36 (0,0)):=by rw [u];exact aw.o.2
   have p1:=ba A 1 (x:=.slice ac d.ax.length J) rfl;have p2:=ba A 2 (x:=.slice Z d.fields.length G) rfl;have p3:=ba A 3 (x:=.slice aa d.names.length I) rfl;have p4:=ba A 4 (x:=.slice ad d.aq.length L) rfl;have o1:=ba D 1 (x:=.slice ah d.ax.length W) rfl;have o2:=ba D 2 (x:=.slice ae d.fields.length O) rfl;have o3:=ba D 3 (x:=.slice af d.names.length V) rfl;have o4:=ba D 4 (x:=.slice ai d.aq.length X) rfl;have za:=bz A;have zb:=bz D;have ar:Hid (∀n,Below w.heap.size w (wr.drewN n)):=by rw [u];exact fun n=>mp (bc.o nz) n
   have a6:Hid (∀m,∃n,wr.drewN m=w7.drewN n):=by rw [u];exact fun m=>⟨_,World.drewN_drewN _ _ _⟩
   have bg:=ag u;clear u A D;by_cases al:k<d.fields.length
   ·have a2:k<e.fields.length:=by have:=a7.o;omega
    obtain ⟨b,off,cl,cs,rfl,_,c0,su⟩:=a4.o.F.atSl k al;obtain ⟨b2,b1,cm,ct,rfl,_,d0,sv⟩:=a5.o.F.atSl k a2;have au:=ag (zea (cz ey) d.fields e.fields k al a2);have HC:=ag (fun n=>zot (wr.drewN n) _ _ _ _ d.fields[k] e.fields[k] (su.kept ⟨nlq _,fun _ _ _=>rfl⟩ fun _ _ h=>h) (sv.kept ⟨nlq _,fun _ _ _=>rfl⟩ fun _ _ h=>h));clear su sv;generalize d.fields[k]=x at*;generalize e.fields[k]=y at*;cases hs:cz ey x y with
    | true=>
      rw [hs]at HC;have ak:Hid (cz (cz ey) d.fields e.fields=cz (cz ey) (d.fields.drop (k+1)) (e.fields.drop (k+1))):=HQ.o.trans (by rw [au.o,hs,Bool.true_and]);clear hs;go_wp2
      go_quiet (first | (go_at_call 186;exact Calls.quiet_of (HC.o _)));go_wp2
      go_roundw
      case rel=>exact ⟨k+1,by omega,by go_num,ak.o,a6.o _⟩
      case measure=>simp [intOf];omega
    | false=>
      rw [hs]at HC;have ak:Hid (fw d e=false):=az.o.trans (by rw [HQ.o,au.o,hs];simp);clear hs;go_wp2
      go_quiet (first | (go_at_call 186;exact Calls.quiet_of (HC.o _)));go_wp2
      go_ret;exact ⟨by rw [ak.o];rfl,ar.o _⟩
   have cv:Hid (cz (cz ey) d.fields e.fields=true):=HQ.o.trans (zeb (cz ey) _ _ k al a7.o);go_wp2_with fail;clear al hk HQ p1 p2 p3 p4 o1 o2 o3 o4 za zb a4 a5 ar a6;go_loopw [8] (fun i wx=>∃k:Nat,k<=d.names.length/\i=.int .i64 k/\Hid (cz (cz fx) d.names e.names=cz (cz fx) (d.names.drop k) (e.names.drop k))/\∃n,wx=w7.drewN n) (fun i _=>d.names.length - (intOf i).toNat)
   case atStart=>exact ⟨0,n0q _,rfl,rfl,nz,bg.o⟩
   case round=>
    rename World=>wr
    obtain ⟨k,hk,rfl,HQ,nz,u⟩:=hrel;have a4:Hid (ma (· <B) wr aC (.slice ac d.ax.length J) (.slice Z d.fields.length G) (.slice aa d.names.length I) (.slice ad d.aq.length L) d):=by rw [u];exact b3.o.kept ⟨nlq _,fun _ _ _=>rfl⟩
    have a5:Hid (ma (· <B) wr bC (.slice ah d.ax.length W) (.slice ae d.fields.length O) (.slice af d.names.length V) (.slice ai d.aq.length X) e):=by rw [u];exact b4.o.kept ⟨nlq _,fun _ _ _=>rfl⟩
    have A:wr.heap[w.heap.size]? =some (.cells #[aC,.slice ac d.ax.length J,.slice Z d.fields.length G,.slice aa d.names.length I,.slice ad d.aq.length L] 36 (0,0)):=by rw [u];exact aw.o.1
    have D:wr.heap[w.heap.size+1]? =some (.cells #[bC,.slice ah d.ax.length W,.slice ae d.fields.length O,.slice af d.names.length V,.slice ai d.aq.length X] 36 (0,0)):=by rw [u];exact aw.o.2
    have p1:=ba A 1 (x:=.slice ac d.ax.length J) rfl;have p2:=ba A 2 (x:=.slice Z d.fields.length G) rfl;have p3:=ba A 3 (x:=.slice aa d.names.length I) rfl;have p4:=ba A 4 (x:=.slice ad d.aq.length L) rfl;have o1:=ba D 1 (x:=.slice ah d.ax.length W) rfl;have o2:=ba D 2 (x:=.slice ae d.fields.length O) rfl;have o3:=ba D 3 (x:=.slice af d.names.length V) rfl;have o4:=ba D 4 (x:=.slice ai d.aq.length X) rfl;have za:=bz A;have zb:=bz D;have ar:Hid (∀n,Below w.heap.size w (wr.drewN n)):=by rw [u];exact fun n=>mp (bc.o nz) n
    have a6:Hid (∀m,∃n,wr.drewN m=w7.drewN n):=by rw [u];exact fun m=>⟨_,World.drewN_drewN _ _ _⟩
    have bg:=ag u;clear u A D;by_cases al:k<d.names.length
    ·have a2:k<e.names.length:=by have:=a9.o;omega
     obtain ⟨b,off,cl,cs,rfl,c3,c0,su⟩:=a4.o.N.atSl k al;obtain ⟨b2,b1,cm,ct,rfl,c4,d0,sv⟩:=a5.o.N.atSl k a2;have au:=ag (zea (cz fx) d.names e.names k al a2);have ca:=ag su;have bn:=ag sv;have ch:d.names[k].length<=maxLen:=by obtain ⟨_,_,e1,_,h,_⟩:=su;cases e1;exact h
     unfold maxLen at ch;clear su sv;generalize d.names[k]=x at*;generalize e.names[k]=y at*;have c8:(0:Int)<=k:=by omega
     have c9:(k:Int)<d.names.length:=by omega
     by_cases a3:x.length=y.length
     rotate_left
     ·have ak:Hid (fw d e=false):=az.o.trans (by rw [HQ.o,au.o,zd9 fx x y a3];simp);have bu:((x.length:Int)==y.length)=false:=beq_eq_false_iff_ne.2 (by omega);clear a3;go_wp2
      go_quiet (fail);go_wp2
      go_ret;exact ⟨by rw [ak.o];rfl,ar.o _⟩
     have bk:=ag a3;rw [<-a3]at d0 bn;clear a3;go_wp2
     go_quiet (fail);go_wp2
     go_loopw [9] (fun i wx=>∃j:Nat,j<=x.length/\i=.int .i64 j/\Hid (cz fx x y=cz fx (x.drop j) (y.drop j))/\∃n,wx=wr.drewN n) (fun i _=>x.length - (intOf i).toNat)
     case atStart=>exact ⟨0,n0q _,rfl,rfl,_,rfl⟩
     case round=>
      obtain ⟨j,hj,rfl,HJ,n2,rfl⟩:=hrel;by_cases bb:j<x.length
      ·have bs:j<y.length:=by have:=bk.o;omega
       obtain ⟨bx,ox,rfl,_,f0,_⟩:=ca.o.atS j bb;obtain ⟨c2,oy,rfl,_,g0,_⟩:=bn.o.atS j bs;have bm:=ag (zea fx x y j bb bs);have c6:(0:Int)<=j:=by omega
       have c7:(j:Int)<x.length:=by omega
       generalize x[j]=s at*;generalize y[j]=s' at*;cases hs:fx s s' with
       | true=>
         have ci:(s.toList==s'.toList)=true:=hs;have b7:Hid (cz fx x y=cz fx (x.drop (j+1)) (y.drop (j+1))):=HJ.o.trans (by rw [bm.o,hs,Bool.true_and]);go_wp2
         go_quiet (fail);go_wp2
         go_roundw
         case rel=>exact ⟨j+1,by omega,by go_num,b7.o,_,rfl⟩
         case measure=>simp [intOf];omega
       | false=>
         have ci:(s.toList==s'.toList)=false:=hs;have ak:Hid (fw d e=false):=az.o.trans (by rw [HQ.o,au.o,HJ.o,bm.o,hs];simp);go_wp2
         go_quiet (fail);go_wp2
         go_ret;exact ⟨by rw [ak.o];rfl,mp (ar.o n2) _⟩
      have ak:Hid (cz (cz fx) d.names e.names=cz (cz fx) (d.names.drop (k+1)) (e.names.drop (k+1))):=HQ.o.trans (by rw [au.o,HJ.o,zeb fx x y j bb bk.o,Bool.true_and]);go_wp2
      go_roundw
      case rel=>exact ⟨k+1,by omega,by go_num,ak.o,a6.o n2⟩
      case measure=>simp [intOf];omega
    have cx:Hid (cz (cz fx) d.names e.names=true):=HQ.o.trans (zeb (cz fx) _ _ k al a9.o);go_wp2_with fail;clear al hk HQ p1 p2 p3 p4 o1 o2 o3 o4 za zb a4 a5 ar a6;go_loopw [10] (fun i wx=>∃k:Nat,k<=d.aq.length/\i=.int .i64 k/\Hid (cz (cz fg) d.aq e.aq=cz (cz fg) (d.aq.drop k) (e.aq.drop k))/\∃n,wx=w7.drewN n) (fun i _=>d.aq.length - (intOf i).toNat)
    case atStart=>exact ⟨0,n0q _,rfl,rfl,nz,bg.o⟩
    case round=>
     rename World=>wr
     obtain ⟨k,hk,rfl,HQ,nz,u⟩:=hrel;have a4:Hid (ma (· <B) wr aC (.slice ac d.ax.length J) (.slice Z d.fields.length G) (.slice aa d.names.length I) (.slice ad d.aq.length L) d):=by rw [u];exact b3.o.kept ⟨nlq _,fun _ _ _=>rfl⟩
     have a5:Hid (ma (· <B) wr bC (.slice ah d.ax.length W) (.slice ae d.fields.length O) (.slice af d.names.length V) (.slice ai d.aq.length X) e):=by rw [u];exact b4.o.kept ⟨nlq _,fun _ _ _=>rfl⟩
     have A:wr.heap[w.heap.size]? =some (.cells #[aC,.slice ac d.ax.length J,.slice Z d.fields.length G,.slice aa d.names.length I,.slice ad d.aq.length L] 36 (0,0)):=by rw [u];exact aw.o.1
     have D:wr.heap[w.heap.size+1]? =some (.cells #[bC,.slice ah d.ax.length W,.slice ae d.fields.length O,.slice af d.names.length V,.slice ai d.aq.length X] 36 (0,0)):=by rw [u];exact aw.o.2
     have p1:=ba A 1 (x:=.slice ac d.ax.length J) rfl;have p2:=ba A 2 (x:=.slice Z d.fields.length G) rfl;have p3:=ba A 3 (x:=.slice aa d.names.length I) rfl;have p4:=ba A 4 (x:=.slice ad d.aq.length L) rfl;have o1:=ba D 1 (x:=.slice ah d.ax.length W) rfl;have o2:=ba D 2 (x:=.slice ae d.fields.length O) rfl;have o3:=ba D 3 (x:=.slice af d.names.length V) rfl;have o4:=ba D 4 (x:=.slice ai d.aq.length X) rfl;have za:=bz A;have zb:=bz D;have ar:Hid (∀n,Below w.heap.size w (wr.drewN n)):=by rw [u];exact fun n=>mp (bc.o nz) n
     have a6:Hid (∀m,∃n,wr.drewN m=w7.drewN n):=by rw [u];exact fun m=>⟨_,World.drewN_drewN _ _ _⟩
     have bg:=ag u;clear u A D;by_cases al:k<d.aq.length
     ·have a2:k<e.aq.length:=by have:=ay.o;omega
      obtain ⟨b,off,cl,cs,rfl,c3,c0,su⟩:=a4.o.T.atSl k al;obtain ⟨b2,b1,cm,ct,rfl,c4,d0,sv⟩:=a5.o.T.atSl k a2;have au:=ag (zea (cz fg) d.aq e.aq k al a2);have ca:=ag su;have bn:=ag sv;have ch:d.aq[k].length<=maxLen:=by obtain ⟨_,_,e1,_,h,_⟩:=su;cases e1;exact h
      unfold maxLen at ch;clear su sv;generalize d.aq[k]=x at*;generalize e.aq[k]=y at*;have c8:(0:Int)<=k:=by omega
      have c9:(k:Int)<d.aq.length:=by omega
      by_cases a3:x.length=y.length
      rotate_left
      ·have ak:Hid (fw d e=false):=az.o.trans (by rw [HQ.o,au.o,zd9 fg x y a3];simp);have bu:((x.length:Int)==y.length)=false:=beq_eq_false_iff_ne.2 (by omega);clear a3;go_wp2
       go_quiet (fail);go_wp2
       go_ret;exact ⟨by rw [ak.o];rfl,ar.o _⟩
      have bk:=ag a3;rw [<-a3]at d0 bn;clear a3;go_wp2
      go_quiet (fail);go_wp2
      go_loopw [11] (fun i wx=>∃j:Nat,j<=x.length/\i=.int .i64 j/\Hid (cz fg x y=cz fg (x.drop j) (y.drop j))/\∃n,wx=wr.drewN n) (fun i _=>x.length - (intOf i).toNat)
      case atStart=>exact ⟨0,n0q _,rfl,rfl,_,rfl⟩
      case round=>
       obtain ⟨j,hj,rfl,HJ,n2,rfl⟩:=hrel;by_cases bb:j<x.length
       ·have bs:j<y.length:=by have:=bk.o;omega
        obtain ⟨bx,ox,rfl,_,f0,f1⟩:=ca.o.atT j bb;obtain ⟨c2,oy,rfl,_,g0,g1⟩:=bn.o.atT j bs;have bm:=ag (zea fg x y j bb bs);have c6:(0:Int)<=j:=by omega
        have c7:(j:Int)<x.length:=by omega
        have ds:=targNeq x[j] y[j];have du:=targNeqG;generalize x[j]=s at*;generalize y[j]=s' at*;cases hs:fg s s' with
        | true=>
          have b7:Hid (cz fg x y=cz fg (x.drop (j+1)) (y.drop (j+1))):=HJ.o.trans (by rw [bm.o,hs,Bool.true_and]);go_wp2
          go_quiet (fail);go_wp2
          go_roundw
          case rel=>exact ⟨j+1,by omega,by go_num,b7.o,_,rfl⟩
          case measure=>simp [intOf];omega
        | false=>
          have ak:Hid (fw d e=false):=az.o.trans (by rw [HQ.o,au.o,HJ.o,bm.o,hs];simp);go_wp2
          go_quiet (fail);go_wp2
          go_ret;exact ⟨by rw [ak.o];rfl,mp (ar.o n2) _⟩
       have ak:Hid (cz (cz fg) d.aq e.aq=cz (cz fg) (d.aq.drop (k+1)) (e.aq.drop (k+1))):=HQ.o.trans (by rw [au.o,HJ.o,zeb fg x y j bb bk.o,Bool.true_and]);go_wp2
       go_roundw
       case rel=>exact ⟨k+1,by omega,by go_num,ak.o,a6.o n2⟩
       case measure=>simp [intOf];omega
     have cy:Hid (cz (cz fg) d.aq e.aq=true):=HQ.o.trans (zeb (cz fg) _ _ k al ay.o);have HR:Hid (fw d e=true):=az.o.trans (by rw [cu.o,cv.o,cx.o,cy.o];rfl);go_wp2_with fail;go_ret;exact ⟨by rw [HR.o];rfl,ar.o 0⟩
end Go.Proofs.YtjdnmblggdobgaaGreat
