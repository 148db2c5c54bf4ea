import Derived.Deep.RegionWith
import Derived.Deep.DeepCutAuto
import Derived.Test.YtjdnmblggdobgaaGreatJLErrLRf4
set_option maxHeartbeats 20000000
set_option maxRecDepth 100000
namespace Go.Proofs.YtjdnmblggdobgaaGreat
open Go.RowKit Tryz
theorem zqs (w:World) (u v:Value) (l:List fm) (D:SL 2 RK (· <w.heap.size) w u l) (E:SL 2 RK (· <w.heap.size) w v l):
 Calls prog 227 #[u,v] w fun r w'=>r=.returned (.bool true)/\∃n,w'=w.drewN n:=by
 have G:=ag D;have I:=ag E;obtain ⟨L,X,rfl,_,J,-⟩:=D;obtain ⟨N,Y,rfl,-⟩:=E;unfold maxLen at J;go_enter func227,ntmps227;go_wp2
 go_loopw [5] (fun i wr=>∃k:Nat,k<=l.length/\i=.i k/\∃n,wr=w.drewN n) (fun i _=>l.length - (intOf i).toNat)
 case atStart=>exact ⟨0,n0q _,rfl,0,rfl⟩
 case round=>
  obtain ⟨k,hk,rfl,n,rfl⟩:=hrel;by_cases A:k<l.length
  ·obtain ⟨b,off,rfl,_,V,W,_⟩:=G.o.atK k A;obtain ⟨O,F,rfl,_,Z,d1,_⟩:=I.o.atK k A;go_wp2
   go_quiet (fail);go_wp2
   go_roundw
   case rel=>exact ⟨k+1,by omega,by go_num,_,rfl⟩
   case measure=>simp [intOf];omega
  go_wp2
  go_ret;exact ⟨rfl,n,rfl⟩
theorem zqt (w:World) (u v:Value) (l:List bq) (D:SL 3 RF (· <w.heap.size) w u l) (E:SL 3 RF (· <w.heap.size) w v l):
 Calls prog 186 #[u,v] w fun r w'=>r=.returned (.bool true)/\∃n,w'=w.drewN n:=by
 have G:=ag D;have I:=ag E;obtain ⟨L,Y,rfl,_,J,-⟩:=D;obtain ⟨N,Z,rfl,-⟩:=E;unfold maxLen at J;go_enter func186,ntmps186;go_wp2
 go_loopw [5] (fun i wr=>∃k:Nat,k<=l.length/\i=.i k/\∃n,wr=w.drewN n) (fun i _=>l.length - (intOf i).toNat)
 case atStart=>exact ⟨0,n0q _,rfl,0,rfl⟩
 case round=>
  obtain ⟨k,hk,rfl,n,rfl⟩:=hrel;by_cases A:k<l.length
  ·obtain ⟨b,off,rfl,_,V,W,X,_⟩:=G.o.atF k A;obtain ⟨O,F,rfl,_,d0,d1,d2,_⟩:=I.o.atF k A;go_wp2
   go_quiet (fail);go_wp2
   go_roundw
   case rel=>exact ⟨k+1,by omega,by go_num,_,rfl⟩
   case measure=>simp [intOf];omega
  go_wp2
  go_ret;exact ⟨rfl,n,rfl⟩
theorem zqu {B:Nat} {w w':World} (h:Below B w w') (n:Nat):Below B w (w'.drewN n):=⟨h.os,h.tape,h.output,h.size,h.block⟩
structure um (wr W:World) (px py:Value) (t:Nat) (cx cy:Array Value):Prop where
 at_:∃X Y,px=.p X/\py=.p Y/\wr.heap.size<=X/\wr.heap.size<=Y/\W.heap[X]? =some (.cells cx t (0,0))/\W.heap[Y]? =some (.cells cy t (0,0))
 below:Bl wr W
theorem um.one (wr:World) (t:Nat) (A D:Array Value):um wr ((wr.alloc (.cells A t)).alloc (.cells D t)).drew (.p wr.heap.size) (.p (wr.heap.size+1)) t A D:=by
 refine ⟨⟨_,_,rfl,rfl,nlq _,by omega,?_,?_⟩,(((br _ _).alloc (nlq _) _).alloc (by simp) _).drew⟩
 ·show ((wr.heap.push _).push _)[wr.heap.size]? =_;rw [Array.getElem?_push,if_neg (by simp)];exact Array.getElem?_push_size
 show ((wr.heap.push _).push _)[wr.heap.size+1]? =_;rw [Array.getElem?_push,if_pos (by simp)]
theorem um.two (wr:World) (t:Nat) (A D:Array Value):um wr ((wr.alloc (.cells D t)).alloc (.cells A t)).drew (.p (wr.heap.size+1)) (.p wr.heap.size) t A D:=by obtain ⟨⟨X,Y,h1,E,F,G,I,J⟩,L⟩:=um.one wr t D A;exact ⟨⟨Y,X,E,h1,G,F,J,I⟩,L⟩
theorem zqv {W:World} {X:Nat} {o:Obj} (h:W.heap[X]? =some o):X<W.heap.size:=(Array.getElem?_eq_some_iff.1 h).1
theorem SL.wu {B:Nat} {w w':World} {v:Value} {l:List bq} (h:SL 3 RF (· <B) w v l) (A:Below B w w') (D:B<=w.heap.size):SL 3 RF (· <w'.heap.size) w' v l:=(h.keptF (Kp.below A)).monoF fun _ E=>ll3 E (lt3 D A.size)
theorem SL.upK {B:Nat} {w w':World} {v:Value} {l:List fm} (h:SL 2 RK (· <B) w v l) (A:Below B w w') (D:B<=w.heap.size):SL 2 RK (· <w'.heap.size) w' v l:=(h.keptK (Kp.below A)).monoK fun _ E=>ll3 E (lt3 D A.size)
theorem zqw (w:World) (u v:Value) (l:List aq) (hu:SL 4 RC (· <w.heap.size) w u l) (hv:SL 4 RC (· <w.heap.size) w v l):
 Calls prog 185 #[u,v] w fun r w'=>r=.returned (.bool true)/\Bl w w':=by
 have HU:=ag hu;have HV:=ag hv;obtain ⟨au,cu,rfl,_,hl,-⟩:=hu;obtain ⟨av,cv,rfl,-⟩:=hv;unfold maxLen at hl;go_enter func185,ntmps185;go_wp2
 go_loopw [5] (fun i wr=>∃k:Nat,k<=l.length/\i=.i k/\Bl w wr) (fun i _=>l.length - (intOf i).toNat)
 case atStart=>exact ⟨0,n0q _,rfl,br _ _⟩
 case round=>
  obtain ⟨k,hk,rfl,ad⟩:=hrel;have E:=ad.size;by_cases a6:k<l.length
  rotate_left
  ·go_wp2_with fail;go_ret;exact ⟨rfl,ad⟩
  obtain ⟨b,off,vf,vm,rfl,b4,e0,e1,e2,e3,ef,em,-⟩:=(HU.o.keptC (Kp.below ad)).atC k a6;obtain ⟨b',bm,cc,ci,rfl,bh,d0,d1,d2,d3,a3,a5,-⟩:=(HV.o.keptC (Kp.below ad)).atC k a6;have EF:=ag ef;have EM:=ag em;have a9:=ag a3;have bc:=ag a5;obtain ⟨fo,cf,rfl,-⟩:=ef;obtain ⟨mo,cm,rfl,_,bg,-⟩:=em;obtain ⟨ay,ax,rfl,-⟩:=a3;obtain ⟨ah,af,rfl,-⟩:=a5;unfold maxLen at bg;generalize l[k]=c at*;obtain ⟨O,bv,A,be⟩:=c
  dsimp only at*
  have bx:Hid (Bl wr wr):=br _ _;go_wp2_with fail;go_cut [6,7] (fun px py W=>um wr W px py 162 #[.string O,.string bv,.slice fo A.length cf,.slice mo be.length cm] #[.string O,.string bv,.slice ay A.length ax,.slice ah be.length af])
  case first=>
   go_region
   all_goals
    go_wp2_with fail
    go_meet
    first | exact um.one _ _ _ _ | exact um.two _ _ _ _
  case rest=>
   obtain ⟨⟨X,Y,rfl,rfl,hX,hY,L,N⟩,F⟩:=hcut;have an:=ag L;have aw:=ag N;have xl:=zqv L;have yl:=zqv N;have x0:=bp L 0 (x:=.string O) rfl;have x1:=bp L 1 (x:=.string bv) rfl;have x2:=bp L 2 (x:=.slice fo A.length cf) rfl;have x3:=bp L 3 (x:=.slice mo be.length cm) rfl;have y0:=bp N 0 (x:=.string O) rfl;have y1:=bp N 1 (x:=.string bv) rfl;have y2:=bp N 2 (x:=.slice ay A.length ax) rfl;have y3:=bp N 3 (x:=.slice ah be.length af) rfl;clear L N e0 e1 e2 e3 d0 d1 d2 d3;go_wp2_with fail;refine (zqt _ _ _ A (EF.o.wu (F.mono E) E) (a9.o.wu (F.mono E) E)).mono ?_;rintro r w2 ⟨rfl,n2,rfl⟩;go_wp2_with fail;go_loopw [8] (fun i wi=>∃j:Nat,j<=be.length/\i=.i j/\Bl wr wi/\Hid (wi.heap[X]? =some (.cells #[.string O,.string bv,.slice fo A.length cf,.slice mo be.length cm] 162 (0,0)))/\Hid (wi.heap[Y]? =some (.cells #[.string O,.string bv,.slice ay A.length ax,.slice ah be.length af] 162 (0,0)))) (fun i _=>be.length - (intOf i).toNat)
   case atStart=>exact ⟨0,n0q _,rfl,zqu F _,an.o,aw.o⟩
   case round=>
    rename World=>wi
    obtain ⟨j,hj,rfl,ac,al,ap⟩:=hrel;have ak:=ac.size;clear x0 x1 x2 x3 y0 y1 y2 y3 xl yl F an aw;have xl:=zqv al.o;have yl:=zqv ap.o;have x3:=bp al.o 3 (x:=.slice mo be.length cm) rfl;have y3:=bp ap.o 3 (x:=.slice ah be.length af) rfl;by_cases aj:j<be.length
    rotate_left
    ·go_wp2_with fail;go_roundw
     case rel=>exact ⟨k+1,by omega,by go_num,ad.trans (ac.mono E)⟩
     case measure=>simp [intOf];omega
    obtain ⟨b2,bn,va,vh,rfl,bi,q0,q1,q2,q3,q4,q5,q6,q7,q8,ea,eh,-⟩:=(EM.o.keptM (Kp.below (ac.mono E))).atM j aj;obtain ⟨b3,bo,b7,ce,rfl,bl,s0,s1,s2,s3,s4,s5,s6,s7,s8,a2,a4,-⟩:=(bc.o.keptM (Kp.below (ac.mono E))).atM j aj;have EA:=ag ea;have EH:=ag eh;have a8:=ag a2;have bb:=ag a4;obtain ⟨ao,ca,rfl,-⟩:=ea;obtain ⟨ho,ch,rfl,_,bf,-⟩:=eh;obtain ⟨az,a0,rfl,-⟩:=a2;obtain ⟨a7,a1,rfl,-⟩:=a4;unfold maxLen at bf;generalize be[j]=m at*;obtain ⟨V,I,args,⟨rk,rc⟩,Z,G,aa,D⟩:=m
    dsimp only at*
    go_wp2_with fail;go_cut [9,10] (fun px py W=>um wi W px py 159 #[.string V,.bool I,.slice ao args.length ca,.i rk,.string rc,.i Z,.i G,.string aa,.slice ho D.length ch] #[.string V,.bool I,.slice az args.length a0,.i rk,.string rc,.i Z,.i G,.string aa,.slice a7 D.length a1])
    case first=>
     go_region
     all_goals
      go_wp2_with fail
      go_meet
      first | exact um.one _ _ _ _ | exact um.two _ _ _ _
    case rest=>
     obtain ⟨⟨X2,Y2,rfl,rfl,b0,b1,L,N⟩,F⟩:=hcut;have an:=ag L;have aw:=ag N;have cj:=zqv L;have ck:=zqv N;have m0:=bp L 0 (x:=.string V) rfl;have m1:=bp L 1 (x:=.bool I) rfl;have m2:=bp L 2 (x:=.slice ao args.length ca) rfl;have m3:=bp L 3 (x:=.i rk) rfl;have m4:=bp L 4 (x:=.string rc) rfl;have m5:=bp L 5 (x:=.i Z) rfl;have m6:=bp L 6 (x:=.i G) rfl;have m7:=bp L 7 (x:=.string aa) rfl;have m8:=bp L 8 (x:=.slice ho D.length ch) rfl;have n0:=bp N 0 (x:=.string V) rfl;have n1:=bp N 1 (x:=.bool I) rfl;have n2:=bp N 2 (x:=.slice az args.length a0) rfl;have n3:=bp N 3 (x:=.i rk) rfl;have n4:=bp N 4 (x:=.string rc) rfl;have n5:=bp N 5 (x:=.i Z) rfl;have n6:=bp N 6 (x:=.i G) rfl;have n7:=bp N 7 (x:=.string aa) rfl;have n8:=bp N 8 (x:=.slice a7 D.length a1) rfl;have J:w.heap.size<=wi.heap.size:=lt3 E ak;clear L N q0 q1 q2 q3 q4 q5 q6 q7 q8 s0 s1 s2 s3 s4 s5 s6 s7 s8 x3 y3;go_wp2_with fail;refine (zqs _ _ _ args (EA.o.upK (F.mono J) J) (a8.o.upK (F.mono J) J)).mono ?_;rintro r w3 ⟨rfl,n9,rfl⟩;go_wp2_with fail;go_loopw [11] (fun i wj=>∃(h n:Nat),h<=D.length/\i=.i h/\wj=wc.drewN n) (fun i _=>D.length - (intOf i).toNat)
     case atStart=>exact ⟨0,n9,n0q _,rfl,rfl⟩
     case round=>
      obtain ⟨h,nn,hh,rfl,rfl⟩:=hrel;by_cases ai:h<D.length
      ·obtain ⟨b5,bs,rfl,_,g0,g1,g2,g3,-⟩:=(EH.o.keptH (Kp.below (F.mono J))).atH h ai;obtain ⟨b6,bu,rfl,_,j0,j1,j2,j3,-⟩:=(bb.o.keptH (Kp.below (F.mono J))).atH h ai;go_wp2_with fail;go_quiet (fail);go_wp2_with fail;go_roundw
       case rel=>exact ⟨h+1,_,by omega,by go_num,rfl⟩
       case measure=>simp [intOf];omega
      go_wp2_with fail;go_roundw
      case rel=>exact ⟨j+1,by omega,by go_num,ac.trans ((zqu F _).mono ak),(F.block X xl).trans al.o,(F.block Y yl).trans ap.o⟩
      case measure=>simp [intOf];omega
end Go.Proofs.YtjdnmblggdobgaaGreat
namespace Go.Proofs.YtjdnmblggdobgaaGreat
open Go.RowKit Go.Maps Tryz
def ge (d e:bd):Bool:=db f9 d.bg e.bg&&db (db fp) d.fields e.fields&&db (db gh) d.names e.names&&db (db fx) d.ax e.ax
theorem zqx (w:World) (B:Nat) (aC aS aF aN aT bC bS bF bN bT:Value) (d e:bd) (hd:mt (· <B) w aC aS aF aN aT d) (he:mt (· <B) w bC bS bF bN bT e) (c7:d.aj=e.aj) (hB:B<=w.heap.size):
 Calls prog 118 #[.agg #[aC,aS,aF,aN,aT],.agg #[bC,bS,bF,bN,bT]] w fun r w'=>r=.returned (.bool (ge d e))/\Bl w w':=by
 have b1:Bl w ((w.alloc (.cells #[aC,aS,aF,aN,aT] 36)).alloc (.cells #[bC,bS,bF,bN,bT] 36)):=((br _ _).alloc (nlq _) _).alloc (by simp) _;have ca:((w.alloc (.cells #[aC,aS,aF,aN,aT] 36)).alloc (.cells #[bC,bS,bF,bN,bT] 36)).heap[w.heap.size]? =some (.cells #[aC,aS,aF,aN,aT] 36 (0,0)):=(Below.heap_alloc _ _ _ (by simp)).trans (heap_alloc_new w _);have cj:((w.alloc (.cells #[aC,aS,aF,aN,aT] 36)).alloc (.cells #[bC,bS,bF,bN,bT] 36)).heap[w.heap.size+1]? =some (.cells #[bC,bS,bF,bN,bT] 36 (0,0)):=by have:=heap_alloc_new (w.alloc (.cells #[aC,aS,aF,aN,aT] 36)) (.cells #[bC,bS,bF,bN,bT] 36);simpa using this
 have ch:=hd.kept (Kp.below (b1.mono hB));have ci:=he.kept (Kp.below (b1.mono hB));have bs:=ag (zqw _ aC bC d.aj (ch.C.monoC fun _ (h:_<B)=>by have:=b1.size;omega) (c7 ▸ ci.C.monoC fun _ (h:_<B)=>by have:=b1.size;omega));have c3:=ag ch;have cm:=ag ci;have cc:=ag b1;have bn:=ag ca;have bi:=ag cj;have a4:Hid (ge d e=(db f9 d.bg e.bg&&db (db fp) d.fields e.fields&&db (db gh) d.names e.names&&db (db fx) d.ax e.ax)):=rfl;have a0:=bp ca 0 (x:=aC) rfl;have a1:=bp ca 1 (x:=aS) rfl;have b0:=bp cj 0 (x:=bC) rfl;have d3:w.heap.size<((w.alloc (.cells #[aC,aS,aF,aN,aT] 36)).alloc (.cells #[bC,bS,bF,bN,bT] 36)).heap.size:=by simp;omega
 have d4:w.heap.size+1<((w.alloc (.cells #[aC,aS,aF,aN,aT] 36)).alloc (.cells #[bC,bS,bF,bN,bT] 36)).heap.size:=by simp
 obtain ⟨ad,L,rfl,-,df,-⟩:=hd.S;obtain ⟨aa,I,rfl,-,dg,-⟩:=hd.F;obtain ⟨ac,J,rfl,-,dk,-⟩:=hd.N;obtain ⟨af,O,rfl,-,dl,-⟩:=hd.T;obtain ⟨ak,X,rfl,-,cp,-⟩:=he.S;obtain ⟨ah,V,rfl,-,cr,-⟩:=he.F;obtain ⟨ai,W,rfl,-,cs,-⟩:=he.N;obtain ⟨al,Y,rfl,-,ct,-⟩:=he.T;unfold maxLen at df dg dk dl cp cr cs ct;clear hd he ch ci ca cj;have ds:Hid (((w.alloc (.cells #[aC,.slice ad d.bg.length L,.slice aa d.fields.length I,.slice ac d.names.length J,.slice af d.ax.length O] 36)).alloc (.cells #[bC,.slice ak e.bg.length X,.slice ah e.fields.length V,.slice ai e.names.length W,.slice al e.ax.length Y] 36)).heap.size=w.heap.size+2):=by show _=_;simp
 go_enter func118,ntmps118
 go_upto_region 2 with fail
 generalize hWW:((w.alloc (.cells #[aC,.slice ad d.bg.length L,.slice aa d.fields.length I,.slice ac d.names.length J,.slice af d.ax.length O] 36)).alloc (.cells #[bC,.slice ak e.bg.length X,.slice ah e.fields.length V,.slice ai e.names.length W,.slice al e.ax.length Y] 36))=W1 at*;clear hWW;have du:=cc.o.size;have bm:Hid (∀w',Bl W1 w'->Bl w w'):=fun w' h=>cc.o.trans (h.mono cc.o.size);by_cases au:d.bg.length=e.bg.length
 rotate_left
 ·have HR:Hid (ge d e=false):=a4.o.trans (by rw [xt f9 d.bg e.bg au];simp);have hx:¬(e.bg.length:Int)=d.bg.length:=by omega
  have b4:((e.bg.length:Int)==d.bg.length)=false:=beq_eq_false_iff_ne.2 hx;clear au;go_wp2_with (first | (go_at_call 185;refine bs.o.mono ?_;rintro r w7 ⟨rfl,G⟩;have D:=(G.block w.heap.size (by omega)).trans bn.o;have E:=(G.block (w.heap.size+1) (by omega)).trans bi.o;have p1:=bp D 1 (x:=.slice ad d.bg.length L) rfl;have p2:=bp D 2 (x:=.slice aa d.fields.length I) rfl;have p3:=bp D 3 (x:=.slice ac d.names.length J) rfl;have p4:=bp D 4 (x:=.slice af d.ax.length O) rfl;have o1:=bp E 1 (x:=.slice ak e.bg.length X) rfl;have o2:=bp E 2 (x:=.slice ah e.fields.length V) rfl;have o3:=bp E 3 (x:=.slice ai e.names.length W) rfl;have o4:=bp E 4 (x:=.slice al e.ax.length Y) rfl;have za:=bz D;have zb:=bz E;have az:=ag G;have a2:=ag (And.intro D E);clear G D E));go_ret;exact ⟨by rw [HR.o];rfl,bm.o _ az.o⟩
 have bc:=ag au;by_cases ap:d.fields.length=e.fields.length
 rotate_left
 ·have HR:Hid (ge d e=false):=a4.o.trans (by rw [xt (db fp) d.fields e.fields ap];simp);have hx:¬(d.fields.length:Int)=e.fields.length:=by omega
  have b4:((d.fields.length:Int)==e.fields.length)=false:=beq_eq_false_iff_ne.2 hx;clear ap;go_wp2_with (first | (go_at_call 185;refine bs.o.mono ?_;rintro r w7 ⟨rfl,G⟩;have D:=(G.block w.heap.size (by omega)).trans bn.o;have E:=(G.block (w.heap.size+1) (by omega)).trans bi.o;have p1:=bp D 1 (x:=.slice ad d.bg.length L) rfl;have p2:=bp D 2 (x:=.slice aa d.fields.length I) rfl;have p3:=bp D 3 (x:=.slice ac d.names.length J) rfl;have p4:=bp D 4 (x:=.slice af d.ax.length O) rfl;have o1:=bp E 1 (x:=.slice ak e.bg.length X) rfl;have o2:=bp E 2 (x:=.slice ah e.fields.length V) rfl;have o3:=bp E 3 (x:=.slice ai e.names.length W) rfl;have o4:=bp E 4 (x:=.slice al e.ax.length Y) rfl;have za:=bz D;have zb:=bz E;have az:=ag G;have a2:=ag (And.intro D E);clear G D E));go_ret;exact ⟨by rw [HR.o];rfl,bm.o _ az.o⟩
 have bb:=ag ap;by_cases av:d.names.length=e.names.length
 rotate_left
 ·have HR:Hid (ge d e=false):=a4.o.trans (by rw [xt (db gh) d.names e.names av];simp);have hx:¬(d.names.length:Int)=e.names.length:=by omega
  have b4:((d.names.length:Int)==e.names.length)=false:=beq_eq_false_iff_ne.2 hx;clear av;go_wp2_with (first | (go_at_call 185;refine bs.o.mono ?_;rintro r w7 ⟨rfl,G⟩;have D:=(G.block w.heap.size (by omega)).trans bn.o;have E:=(G.block (w.heap.size+1) (by omega)).trans bi.o;have p1:=bp D 1 (x:=.slice ad d.bg.length L) rfl;have p2:=bp D 2 (x:=.slice aa d.fields.length I) rfl;have p3:=bp D 3 (x:=.slice ac d.names.length J) rfl;have p4:=bp D 4 (x:=.slice af d.ax.length O) rfl;have o1:=bp E 1 (x:=.slice ak e.bg.length X) rfl;have o2:=bp E 2 (x:=.slice ah e.fields.length V) rfl;have o3:=bp E 3 (x:=.slice ai e.names.length W) rfl;have o4:=bp E 4 (x:=.slice al e.ax.length Y) rfl;have za:=bz D;have zb:=bz E;have az:=ag G;have a2:=ag (And.intro D E);clear G D E));go_ret;exact ⟨by rw [HR.o];rfl,bm.o _ az.o⟩
 have be:=ag av;by_cases Z:d.ax.length=e.ax.length
 rotate_left
 ·have HR:Hid (ge d e=false):=a4.o.trans (by rw [xt (db fx) d.ax e.ax Z];simp);have hx:¬(d.ax.length:Int)=e.ax.length:=by omega
  have b4:((d.ax.length:Int)==e.ax.length)=false:=beq_eq_false_iff_ne.2 hx;clear Z;go_wp2_with (first | (go_at_call 185;refine bs.o.mono ?_;rintro r w7 ⟨rfl,G⟩;have D:=(G.block w.heap.size (by omega)).trans bn.o;have E:=(G.block (w.heap.size+1) (by omega)).trans bi.o;have p1:=bp D 1 (x:=.slice ad d.bg.length L) rfl;have p2:=bp D 2 (x:=.slice aa d.fields.length I) rfl;have p3:=bp D 3 (x:=.slice ac d.names.length J) rfl;have p4:=bp D 4 (x:=.slice af d.ax.length O) rfl;have o1:=bp E 1 (x:=.slice ak e.bg.length X) rfl;have o2:=bp E 2 (x:=.slice ah e.fields.length V) rfl;have o3:=bp E 3 (x:=.slice ai e.names.length W) rfl;have o4:=bp E 4 (x:=.slice al e.ax.length Y) rfl;have za:=bz D;have zb:=bz E;have az:=ag G;have a2:=ag (And.intro D E);clear G D E));go_ret;exact ⟨by rw [HR.o];rfl,bm.o _ az.o⟩
 have a3:=ag Z;rw [<-au,<-ap,<-av,<-Z]at cm bi ⊢;clear au ap av Z;go_wp2_with (first | (go_at_call 185;refine bs.o.mono ?_;rintro r w7 ⟨rfl,G⟩;have D:=(G.block w.heap.size (by omega)).trans bn.o;have E:=(G.block (w.heap.size+1) (by omega)).trans bi.o;have p1:=bp D 1 (x:=.slice ad d.bg.length L) rfl;have p2:=bp D 2 (x:=.slice aa d.fields.length I) rfl;have p3:=bp D 3 (x:=.slice ac d.names.length J) rfl;have p4:=bp D 4 (x:=.slice af d.ax.length O) rfl;have o1:=bp E 1 (x:=.slice ak d.bg.length X) rfl;have o2:=bp E 2 (x:=.slice ah d.fields.length V) rfl;have o3:=bp E 3 (x:=.slice ai d.names.length W) rfl;have o4:=bp E 4 (x:=.slice al d.ax.length Y) rfl;have za:=bz D;have zb:=bz E;have az:=ag G;have a2:=ag (And.intro D E);clear G D E));have d2:=az.o.size;have b6:Hid (mt (· <B) w7 aC (.slice ad d.bg.length L) (.slice aa d.fields.length I) (.slice ac d.names.length J) (.slice af d.ax.length O) d):=c3.o.kept (Kp.below (az.o.mono (by omega)));have b7:Hid (mt (· <B) w7 bC (.slice ak d.bg.length X) (.slice ah d.fields.length V) (.slice ai d.names.length W) (.slice al d.ax.length Y) e):=cm.o.kept (Kp.below (az.o.mono (by omega)));have bh:Hid (∀n,Bl w (w7.drewN n)):=fun n=>bm.o _ (o7 az.o n);clear cp cr cs ct p1 p2 p3 p4 o1 o2 o3 o4 za zb;go_loopw [6] (fun i wx=>∃k:Nat,k<=d.bg.length/\i=.i k/\Hid (db f9 d.bg e.bg=db f9 (d.bg.drop k) (e.bg.drop k))/\∃n,wx=w7.drewN n) (fun i _=>d.bg.length - (intOf i).toNat)
 case atStart=>exact ⟨0,n0q _,rfl,rfl,0,rfl⟩
 case round=>
  rename World=>wr
  obtain ⟨k,hk,rfl,HQ,nz,A⟩:=hrel;have a7:Hid (mt (· <B) wr aC (.slice ad d.bg.length L) (.slice aa d.fields.length I) (.slice ac d.names.length J) (.slice af d.ax.length O) d):=by rw [A];exact b6.o.kept ⟨nlq _,fun _ _ _=>rfl⟩
  have a8:Hid (mt (· <B) wr bC (.slice ak d.bg.length X) (.slice ah d.fields.length V) (.slice ai d.names.length W) (.slice al d.ax.length Y) e):=by rw [A];exact b7.o.kept ⟨nlq _,fun _ _ _=>rfl⟩
  have D:wr.heap[w.heap.size]? =some (.cells #[aC,.slice ad d.bg.length L,.slice aa d.fields.length I,.slice ac d.names.length J,.slice af d.ax.length O] 36 (0,0)):=by rw [A];exact a2.o.1
  have E:wr.heap[w.heap.size+1]? =some (.cells #[bC,.slice ak d.bg.length X,.slice ah d.fields.length V,.slice ai d.names.length W,.slice al d.ax.length Y] 36 (0,0)):=by rw [A];exact a2.o.2
  have p1:=bp D 1 (x:=.slice ad d.bg.length L) rfl;have p2:=bp D 2 (x:=.slice aa d.fields.length I) rfl;have p3:=bp D 3 (x:=.slice ac d.names.length J) rfl;have p4:=bp D 4 (x:=.slice af d.ax.length O) rfl;have o1:=bp E 1 (x:=.slice ak d.bg.length X) rfl;have o2:=bp E 2 (x:=.slice ah d.fields.length V) rfl;have o3:=bp E 3 (x:=.slice ai d.names.length W) rfl;have o4:=bp E 4 (x:=.slice al d.ax.length Y) rfl;have za:=bz D;have zb:=bz E;have aw:Hid (∀n,Bl w (wr.drewN n)):=by rw [A];exact fun n=>o7 (bh.o nz) n
  have a9:Hid (∀m,∃n,wr.drewN m=w7.drewN n):=by rw [A];exact fun m=>⟨_,World.drewN_drewN _ _ _⟩
  have bl:=ag A;clear A D E;by_cases ao:k<d.bg.length
  ·have a5:k<e.bg.length:=by have:=bc.o;omega
   obtain ⟨b,off,rfl,_,c0⟩:=a7.o.S.atI k ao;obtain ⟨b2,b5,rfl,_,d0⟩:=a8.o.S.atI k a5;have ay:=ag (yw f9 d.bg e.bg k ao a5);generalize d.bg[k]=x at*;generalize e.bg[k]=y at*;cases hs:f9 x y with
   | true=>
     have cl:x=y:=by simpa [f9]using hs
     have an:Hid (db f9 d.bg e.bg=db f9 (d.bg.drop (k+1)) (e.bg.drop (k+1))):=HQ.o.trans (by rw [ay.o,hs,Bool.true_and]);go_wp2
     go_quiet (fail);go_wp2
     go_roundw
     case rel=>exact ⟨k+1,by omega,by go_num,an.o,a9.o _⟩
     case measure=>simp [intOf];omega
   | false=>
     have cl:¬x=y:=by simpa [f9]using hs
     have an:Hid (ge d e=false):=a4.o.trans (by rw [HQ.o,ay.o,hs];simp);go_wp2
     go_quiet (fail);go_wp2
     go_ret;exact ⟨by rw [an.o];rfl,aw.o _⟩
  have cx:Hid (db f9 d.bg e.bg=true):=HQ.o.trans (yx f9 _ _ k ao bc.o);go_wp2_with fail;clear ao hk HQ p1 p2 p3 p4 o1 o2 o3 o4 za zb a7 a8 aw a9;go_loopw [7] (fun i wx=>∃k:Nat,k<=d.fields.length/\i=.i k/\Hid (db (db fp) d.fields e.fields=db (db fp) (d.fields.drop k) (e.fields.drop k))/\∃n,wx=w7.drewN n) (fun i _=>d.fields.length - (intOf i).toNat)
  case atStart=>exact ⟨0,n0q _,rfl,rfl,nz,bl.o⟩
  case round=>
   rename World=>wr
   obtain ⟨k,hk,rfl,HQ,nz,A⟩:=hrel;have a7:Hid (mt (· <B) wr aC (.slice ad d.bg.length L) (.slice aa d.fields.length I) (.slice ac d.names.length J) (.slice af d.ax.length O) d):=by rw [A];exact b6.o.kept ⟨nlq _,fun _ _ _=>rfl⟩
   have a8:Hid (mt (· <B) wr bC (.slice ak d.bg.length X) (.slice ah d.fields.length V) (.slice ai d.names.length W) (.slice al d.ax.length Y) e):=by rw [A];exact b7.o.kept ⟨nlq _,fun _ _ _=>rfl⟩
   have D:wr.heap[w.heap.size]? =some (.cells #[aC,.slice ad d.bg.length L,.slice aa d.fields.length I,.slice ac d.names.length J,.slice af d.ax.length O] 36 (0,0)):=by rw [A];exact a2.o.1
   have E:wr.heap[w.heap.size+1]? =some (.cells #[bC,.slice ak d.bg.length X,.slice ah d.fields.length V,.slice ai d.names.length W,.slice al d.ax.length Y] 36 (0,0)):=by rw [A];exact a2.o.2
   have p1:=bp D 1 (x:=.slice ad d.bg.length L) rfl;have p2:=bp D 2 (x:=.slice aa d.fields.length I) rfl;have p3:=bp D 3 (x:=.slice ac d.names.length J) rfl;have p4:=bp D 4 (x:=.slice af d.ax.length O) rfl;have o1:=bp E 1 (x:=.slice ak d.bg.length X) rfl;have o2:=bp E 2 (x:=.slice ah d.fields.length V) rfl;have o3:=bp E 3 (x:=.slice ai d.names.length W) rfl;have o4:=bp E 4 (x:=.slice al d.ax.length Y) rfl;have za:=bz D;have zb:=bz E;have aw:Hid (∀n,Bl w (wr.drewN n)):=by rw [A];exact fun n=>o7 (bh.o nz) n
   have a9:Hid (∀m,∃n,wr.drewN m=w7.drewN n):=by rw [A];exact fun m=>⟨_,World.drewN_drewN _ _ _⟩
   have bl:=ag A;clear A D E;by_cases ao:k<d.fields.length
   ·have a5:k<e.fields.length:=by have:=bb.o;omega
    obtain ⟨b,off,cn,cu,rfl,_,c0,su⟩:=a7.o.F.atSl k ao;obtain ⟨b2,b5,co,cv,rfl,_,d0,sv⟩:=a8.o.F.atSl k a5;have ay:=ag (yw (db fp) d.fields e.fields k ao a5);have HC:=ag (fun n=>zot (wr.drewN n) _ _ _ _ d.fields[k] e.fields[k] (su.kept ⟨nlq _,fun _ _ _=>rfl⟩ fun _ _ h=>h) (sv.kept ⟨nlq _,fun _ _ _=>rfl⟩ fun _ _ h=>h));clear su sv;generalize d.fields[k]=x at*;generalize e.fields[k]=y at*;cases hs:db fp x y with
    | true=>
      rw [hs]at HC;have an:Hid (db (db fp) d.fields e.fields=db (db fp) (d.fields.drop (k+1)) (e.fields.drop (k+1))):=HQ.o.trans (by rw [ay.o,hs,Bool.true_and]);clear hs;go_wp2
      go_quiet (first | (go_at_call 186;exact Calls.quiet_of (HC.o _)));go_wp2
      go_roundw
      case rel=>exact ⟨k+1,by omega,by go_num,an.o,a9.o _⟩
      case measure=>simp [intOf];omega
    | false=>
      rw [hs]at HC;have an:Hid (ge d e=false):=a4.o.trans (by rw [HQ.o,ay.o,hs];simp);clear hs;go_wp2
      go_quiet (first | (go_at_call 186;exact Calls.quiet_of (HC.o _)));go_wp2
      go_ret;exact ⟨by rw [an.o];rfl,aw.o _⟩
   have cy:Hid (db (db fp) d.fields e.fields=true):=HQ.o.trans (yx (db fp) _ _ k ao bb.o);go_wp2_with fail;clear ao hk HQ p1 p2 p3 p4 o1 o2 o3 o4 za zb a7 a8 aw a9;go_loopw [8] (fun i wx=>∃k:Nat,k<=d.names.length/\i=.i k/\Hid (db (db gh) d.names e.names=db (db gh) (d.names.drop k) (e.names.drop k))/\∃n,wx=w7.drewN n) (fun i _=>d.names.length - (intOf i).toNat)
   case atStart=>exact ⟨0,n0q _,rfl,rfl,nz,bl.o⟩
   case round=>
    rename World=>wr
    obtain ⟨k,hk,rfl,HQ,nz,A⟩:=hrel;have a7:Hid (mt (· <B) wr aC (.slice ad d.bg.length L) (.slice aa d.fields.length I) (.slice ac d.names.length J) (.slice af d.ax.length O) d):=by rw [A];exact b6.o.kept ⟨nlq _,fun _ _ _=>rfl⟩
    have a8:Hid (mt (· <B) wr bC (.slice ak d.bg.length X) (.slice ah d.fields.length V) (.slice ai d.names.length W) (.slice al d.ax.length Y) e):=by rw [A];exact b7.o.kept ⟨nlq _,fun _ _ _=>rfl⟩
    have D:wr.heap[w.heap.size]? =some (.cells #[aC,.slice ad d.bg.length L,.slice aa d.fields.length I,.slice ac d.names.length J,.slice af d.ax.length O] 36 (0,0)):=by rw [A];exact a2.o.1
    have E:wr.heap[w.heap.size+1]? =some (.cells #[bC,.slice ak d.bg.length X,.slice ah d.fields.length V,.slice ai d.names.length W,.slice al d.ax.length Y] 36 (0,0)):=by rw [A];exact a2.o.2
    have p1:=bp D 1 (x:=.slice ad d.bg.length L) rfl;have p2:=bp D 2 (x:=.slice aa d.fields.length I) rfl;have p3:=bp D 3 (x:=.slice ac d.names.length J) rfl;have p4:=bp D 4 (x:=.slice af d.ax.length O) rfl;have o1:=bp E 1 (x:=.slice ak d.bg.length X) rfl;have o2:=bp E 2 (x:=.slice ah d.fields.length V) rfl;have o3:=bp E 3 (x:=.slice ai d.names.length W) rfl;have o4:=bp E 4 (x:=.slice al d.ax.length Y) rfl;have za:=bz D;have zb:=bz E;have aw:Hid (∀n,Bl w (wr.drewN n)):=by rw [A];exact fun n=>o7 (bh.o nz) n
    have a9:Hid (∀m,∃n,wr.drewN m=w7.drewN n):=by rw [A];exact fun m=>⟨_,World.drewN_drewN _ _ _⟩
    have bl:=ag A;clear A D E;by_cases ao:k<d.names.length
    ·have a5:k<e.names.length:=by have:=be.o;omega
     obtain ⟨b,off,cn,cu,rfl,c5,c0,su⟩:=a7.o.N.atSl k ao;obtain ⟨b2,b5,co,cv,rfl,c6,d0,sv⟩:=a8.o.N.atSl k a5;have ay:=ag (yw (db gh) d.names e.names k ao a5);have cf:=ag su;have bv:=ag sv;have ck:d.names[k].length<=maxLen:=by obtain ⟨_,_,e1,_,h,_⟩:=su;cases e1;exact h
     unfold maxLen at ck;clear su sv;generalize d.names[k]=x at*;generalize e.names[k]=y at*;have dd:(0:Int)<=k:=by omega
     have de:(k:Int)<d.names.length:=by omega
     by_cases a6:x.length=y.length
     rotate_left
     ·have an:Hid (ge d e=false):=a4.o.trans (by rw [HQ.o,ay.o,xt gh x y a6];simp);have b4:((x.length:Int)==y.length)=false:=beq_eq_false_iff_ne.2 (by omega);clear a6;go_wp2
      go_quiet (fail);go_wp2
      go_ret;exact ⟨by rw [an.o];rfl,aw.o _⟩
     have bo:=ag a6;rw [<-a6]at d0 bv;clear a6;go_wp2
     go_quiet (fail);go_wp2
     go_loopw [9] (fun i wx=>∃j:Nat,j<=x.length/\i=.i j/\Hid (db gh x y=db gh (x.drop j) (y.drop j))/\∃n,wx=wr.drewN n) (fun i _=>x.length - (intOf i).toNat)
     case atStart=>exact ⟨0,n0q _,rfl,rfl,_,rfl⟩
     case round=>
      obtain ⟨j,hj,rfl,HJ,n2,rfl⟩:=hrel;by_cases bf:j<x.length
      ·have b3:j<y.length:=by have:=bo.o;omega
       obtain ⟨bx,ox,rfl,_,f0,_⟩:=cf.o.atS j bf;obtain ⟨c4,oy,rfl,_,g0,_⟩:=bv.o.atS j b3;have bu:=ag (yw gh x y j bf b3);have c8:(0:Int)<=j:=by omega
       have c9:(j:Int)<x.length:=by omega
       generalize x[j]=s at*;generalize y[j]=s' at*;cases hs:gh s s' with
       | true=>
         have cl:(s.toList==s'.toList)=true:=hs;have ce:Hid (db gh x y=db gh (x.drop (j+1)) (y.drop (j+1))):=HJ.o.trans (by rw [bu.o,hs,Bool.true_and]);go_wp2
         go_quiet (fail);go_wp2
         go_roundw
         case rel=>exact ⟨j+1,by omega,by go_num,ce.o,_,rfl⟩
         case measure=>simp [intOf];omega
       | false=>
         have cl:(s.toList==s'.toList)=false:=hs;have an:Hid (ge d e=false):=a4.o.trans (by rw [HQ.o,ay.o,HJ.o,bu.o,hs];simp);go_wp2
         go_quiet (fail);go_wp2
         go_ret;exact ⟨by rw [an.o];rfl,o7 (aw.o n2) _⟩
      have an:Hid (db (db gh) d.names e.names=db (db gh) (d.names.drop (k+1)) (e.names.drop (k+1))):=HQ.o.trans (by rw [ay.o,HJ.o,yx gh x y j bf bo.o,Bool.true_and]);go_wp2
      go_roundw
      case rel=>exact ⟨k+1,by omega,by go_num,an.o,a9.o n2⟩
      case measure=>simp [intOf];omega
    have c1:Hid (db (db gh) d.names e.names=true):=HQ.o.trans (yx (db gh) _ _ k ao be.o);go_wp2_with fail;clear ao hk HQ p1 p2 p3 p4 o1 o2 o3 o4 za zb a7 a8 aw a9;go_loopw [10] (fun i wx=>∃k:Nat,k<=d.ax.length/\i=.i k/\Hid (db (db fx) d.ax e.ax=db (db fx) (d.ax.drop k) (e.ax.drop k))/\∃n,wx=w7.drewN n) (fun i _=>d.ax.length - (intOf i).toNat)
    case atStart=>exact ⟨0,n0q _,rfl,rfl,nz,bl.o⟩
    case round=>
     rename World=>wr
     obtain ⟨k,hk,rfl,HQ,nz,A⟩:=hrel;have a7:Hid (mt (· <B) wr aC (.slice ad d.bg.length L) (.slice aa d.fields.length I) (.slice ac d.names.length J) (.slice af d.ax.length O) d):=by rw [A];exact b6.o.kept ⟨nlq _,fun _ _ _=>rfl⟩
     have a8:Hid (mt (· <B) wr bC (.slice ak d.bg.length X) (.slice ah d.fields.length V) (.slice ai d.names.length W) (.slice al d.ax.length Y) e):=by rw [A];exact b7.o.kept ⟨nlq _,fun _ _ _=>rfl⟩
     have D:wr.heap[w.heap.size]? =some (.cells #[aC,.slice ad d.bg.length L,.slice aa d.fields.length I,.slice ac d.names.length J,.slice af d.ax.length O] 36 (0,0)):=by rw [A];exact a2.o.1
     have E:wr.heap[w.heap.size+1]? =some (.cells #[bC,.slice ak d.bg.length X,.slice ah d.fields.length V,.slice ai d.names.length W,.slice al d.ax.length Y] 36 (0,0)):=by rw [A];exact a2.o.2
     have p1:=bp D 1 (x:=.slice ad d.bg.length L) rfl;have p2:=bp D 2 (x:=.slice aa d.fields.length I) rfl;have p3:=bp D 3 (x:=.slice ac d.names.length J) rfl;have p4:=bp D 4 (x:=.slice af d.ax.length O) rfl;have o1:=bp E 1 (x:=.slice ak d.bg.length X) rfl;have o2:=bp E 2 (x:=.slice ah d.fields.length V) rfl;have o3:=bp E 3 (x:=.slice ai d.names.length W) rfl;have o4:=bp E 4 (x:=.slice al d.ax.length Y) rfl;have za:=bz D;have zb:=bz E;have aw:Hid (∀n,Bl w (wr.drewN n)):=by rw [A];exact fun n=>o7 (bh.o nz) n
     have a9:Hid (∀m,∃n,wr.drewN m=w7.drewN n):=by rw [A];exact fun m=>⟨_,World.drewN_drewN _ _ _⟩
     have bl:=ag A;clear A D E;by_cases ao:k<d.ax.length
     ·have a5:k<e.ax.length:=by have:=a3.o;omega
      obtain ⟨b,off,cn,cu,rfl,c5,c0,su⟩:=a7.o.T.atSl k ao;obtain ⟨b2,b5,co,cv,rfl,c6,d0,sv⟩:=a8.o.T.atSl k a5;have ay:=ag (yw (db fx) d.ax e.ax k ao a5);have cf:=ag su;have bv:=ag sv;have ck:d.ax[k].length<=maxLen:=by obtain ⟨_,_,e1,_,h,_⟩:=su;cases e1;exact h
      unfold maxLen at ck;clear su sv;generalize d.ax[k]=x at*;generalize e.ax[k]=y at*;have dd:(0:Int)<=k:=by omega
      have de:(k:Int)<d.ax.length:=by omega
      by_cases a6:x.length=y.length
      rotate_left
      ·have an:Hid (ge d e=false):=a4.o.trans (by rw [HQ.o,ay.o,xt fx x y a6];simp);have b4:((x.length:Int)==y.length)=false:=beq_eq_false_iff_ne.2 (by omega);clear a6;go_wp2
       go_quiet (fail);go_wp2
       go_ret;exact ⟨by rw [an.o];rfl,aw.o _⟩
      have bo:=ag a6;rw [<-a6]at d0 bv;clear a6;go_wp2
      go_quiet (fail);go_wp2
      go_loopw [11] (fun i wx=>∃j:Nat,j<=x.length/\i=.i j/\Hid (db fx x y=db fx (x.drop j) (y.drop j))/\∃n,wx=wr.drewN n) (fun i _=>x.length - (intOf i).toNat)
      case atStart=>exact ⟨0,n0q _,rfl,rfl,_,rfl⟩
      case round=>
       obtain ⟨j,hj,rfl,HJ,n2,rfl⟩:=hrel;by_cases bf:j<x.length
       ·have b3:j<y.length:=by have:=bo.o;omega
        obtain ⟨bx,ox,rfl,_,f0,f1⟩:=cf.o.atT j bf;obtain ⟨c4,oy,rfl,_,g0,g1⟩:=bv.o.atT j b3;have bu:=ag (yw fx x y j bf b3);have c8:(0:Int)<=j:=by omega
        have c9:(j:Int)<x.length:=by omega
        have dz:=Ag x[j] y[j];have d1:=yr;generalize x[j]=s at*;generalize y[j]=s' at*;cases hs:fx s s' with
        | true=>
          have ce:Hid (db fx x y=db fx (x.drop (j+1)) (y.drop (j+1))):=HJ.o.trans (by rw [bu.o,hs,Bool.true_and]);go_wp2
          go_quiet (fail);go_wp2
          go_roundw
          case rel=>exact ⟨j+1,by omega,by go_num,ce.o,_,rfl⟩
          case measure=>simp [intOf];omega
        | false=>
          have an:Hid (ge d e=false):=a4.o.trans (by rw [HQ.o,ay.o,HJ.o,bu.o,hs];simp);go_wp2
          go_quiet (fail);go_wp2
          go_ret;exact ⟨by rw [an.o];rfl,o7 (aw.o n2) _⟩
       have an:Hid (db (db fx) d.ax e.ax=db (db fx) (d.ax.drop (k+1)) (e.ax.drop (k+1))):=HQ.o.trans (by rw [ay.o,HJ.o,yx fx x y j bf bo.o,Bool.true_and]);go_wp2
       go_roundw
       case rel=>exact ⟨k+1,by omega,by go_num,an.o,a9.o n2⟩
       case measure=>simp [intOf];omega
     have c2:Hid (db (db fx) d.ax e.ax=true):=HQ.o.trans (yx (db fx) _ _ k ao a3.o);have HR:Hid (ge d e=true):=a4.o.trans (by rw [cx.o,cy.o,c1.o,c2.o];rfl);go_wp2_with fail;go_ret;exact ⟨by rw [HR.o];rfl,aw.o 0⟩
end Go.Proofs.YtjdnmblggdobgaaGreat
