import Derived.Test.YtjdnmblggdobgaaGreatJHzBHzD
set_option maxHeartbeats 2000000
set_option maxRecDepth 100000
namespace Go.Proofs.YtjdnmblggdobgaaGreat
open Go.RowKit Go.Maps
def yg (h:bb) (v:Int):Bool:=mx v 1 h.ag
theorem zv8 (h:bb) (v:Int):yg h v=dp h v:=by unfold yg mx dp;congr 1
theorem zv9 (w:World) (b P H:Nat) (vo:Value) (o:List Int) (h:bb) (x:Bx1 b w P vo o) (af:o.length<=1000000) (v:Int) (hH:w.cell? ⟨H,1,none⟩=some (.int .i64 h.ag)) (lH:H<w.heap.size):
 Calls Tryz.prog 86 #[.int .i64 v,.pointer (some ⟨H,0,none⟩),.pointer (some ⟨P,0,none⟩)] w fun r w'=>r=.returned (.tuple #[])/\∃vo',Bx1 b w' P vo' (fq (yg h) o v)/\jc w.heap.size P P P (.slice none 0 0) vo w vo' w':=by
 obtain ⟨iI,ad,W,X,Y⟩:=info_parts Tryz.infoInt;obtain ⟨N,O,rfl⟩:=kh x.row;have HX:=ae x;have c0:=aw x.blk 0 (x:=.slice N o.length O) rfl;have lP:=bk x.blk;have L:=ae (zkz w _ _ _ (zfb x.row af) v);have A:=ae (zkv w v 1 h.ag);have ai:=x.bP;clear x;cases hy:mx v 1 h.ag with
 | false=>
   have J:Hid (fq (yg h) o v=o):=by show _=_;unfold fq yg;rw [hy];rfl
   rw [hy]at A;clear L hy;go_enter Tryz.func86,Tryz.ntmps86;go_wp2_with fail;refine A.o.mono ?_;rintro r w ⟨rfl,rfl⟩;go_wp2_with fail;go_end0;exact ⟨rfl,_,by rw [J.o];exact HX.o,jc.ofBelow (br _ _)⟩
 | true=>
   rw [hy]at A;cases hc:o.contains v with
   | true=>
     have J:Hid (fq (yg h) o v=o):=by show _=_;unfold fq;rw [hc];simp
     rw [hc]at L;clear hc hy;go_enter Tryz.func86,Tryz.ntmps86;go_wp2_with fail;refine A.o.mono ?_;rintro r w ⟨rfl,rfl⟩;go_wp2_with fail;refine L.o.mono ?_;rintro r w ⟨rfl,rfl⟩;go_wp2_with fail;go_end0;exact ⟨rfl,_,by rw [J.o];exact HX.o,jc.ofBelow (br _ _)⟩
   | false=>
     have J:Hid (fq (yg h) o v=o++ [v]):=by show _=_;unfold fq yg;rw [hc,hy];rfl
     rw [hc]at L;have aa:=ae HX.o.row;have G:Hid (o.length+1<=maxLen/\(o.length+1)*8<=140737488355328/\b<=(w.alloc (.cells #[.int .i64 v] 3)).heap.size):=⟨by unfold maxLen;omega,by omega,by simp;omega⟩;clear hc hy;go_enter Tryz.func86,Tryz.ntmps86;go_wp2_with fail;refine A.o.mono ?_;rintro r w ⟨rfl,rfl⟩;go_wp2_with fail;refine L.o.mono ?_;rintro r w ⟨rfl,rfl⟩;go_wp2_with (at_builtin;refine wpList_append_lies _ rfl _ _ 22 rfl b 3 iI (.int .i64 0) 1 8 Tryz.underlying22 ad W X Y rfl (by decide) (.slice N o.length O) o.length (b8 o) rfl (aa.o.alloc _) ⟨w.heap.size,0,none⟩ 1 1 [.int .i64 v] rfl rfl (World.news_of_block (heap_alloc_new w _)) (by intro u hu;simp at hu;subst hu;rfl) (by omega) G.o.1 G.o.2.1 G.o.2.2 _ rfl ?_);intro gA cA w3 E D V ah;have F:Below w.heap.size w (w.alloc (.cells #[.int .i64 v] 3)):=(br _ _).alloc (nlq _) _;have Z:=HX.o.below F;have k3:w3.heap[P]? =some (.cells #[.slice N o.length O] 22 (0,0)):=(D.block P (bk Z.blk) (fun e=>Z.ne e.symm)).trans Z.blk;have d0:=aw k3 0 (x:=.slice N o.length O) rfl;have dz:=lj k3 0;have dl:=bk k3;obtain ⟨W4,I⟩:∃W4,W4=w3.setCell ⟨P,0,none⟩ (.slice (some ⟨gA,0,none⟩) (o.length+1) cA):=⟨_,rfl⟩;obtain ⟨x4,m4⟩:=Z.more (v:=v) D E (V.imp id fun e=>by simp;omega) I;have HF:Hid (Bx1 b W4 P (.slice (some ⟨gA,0,none⟩) (o.length+1) cA) (o++ [v])/\jc w.heap.size P P P (.slice none 0 0) (.slice N o.length O) w (.slice (some ⟨gA,0,none⟩) (o.length+1) cA) W4):=⟨x4,(jc.ofBelow F).trans (m4 _ F.size)⟩;have ac:=ae I;clear E D V F Z k3 x4 m4 I;go_wp2_with fail;rw [<-ac.o];go_end0;exact ⟨rfl,_,by rw [J.o];exact HF.o.1,HF.o.2⟩
theorem callReachY (args:Array Value) (w:World):(callFunc 86 args).run Tryz.prog w=.ok (.enter 86 args) w:=by kernel_rfl
def mq (l:List Int) (n:Int):Int:=idx (fun x=>decide (x=n)) l
theorem zwa (w:World) (M:Nat->Prop) (v:Value) (l:List Int) (J:SL 1 RI M w v l) (n:Int):
 Calls Tryz.prog 47 #[v,.int .i64 n] w fun r w'=>r=.returned (.int .i64 (mq l n))/\w'=w:=by
 have L:=ae J;obtain ⟨N,X,rfl,-,G,-⟩:=J;unfold maxLen at G;go_enter Tryz.func47,Tryz.ntmps47;go_wp2_with fail;go_loopw [5] (fun i wr=>∃k:Nat,k<=l.length/\i=.int .i64 k/\wr=w/\Hid (∀x∈l.take k,decide (x=n)=false)) (fun i _=>l.length - (intOf i).toNat)
 case atStart=>exact ⟨0,n0q _,rfl,rfl,fun x V=>by cases V⟩
 case round=>
  obtain ⟨k,Z,rfl,rfl,F⟩:=hrel;by_cases A:k<l.length
  ·obtain ⟨W,off,rfl,O,Y⟩:=L.o.atI k A;by_cases E:l[k]=n
   ·have D:=ae (zch A F.o (decide_eq_true E));have I:(l[k]==n)=true:=by simpa using E
    go_wp2_with fail;go_ret;exact ⟨by unfold mq;rw [D.o];rfl,rfl⟩
   have D:=ae (zck A F.o (decide_eq_false E));have I:(l[k]==n)=false:=by simpa using E
   go_wp2_with fail;go_roundw
   case rel=>exact ⟨k+1,by omega,by go_num,by trivial,D.o⟩
   case measure=>simp [intOf];omega
  have D:Hid (mq l n= -1):=zci (by have:=F.o;rwa [List.take_of_length_le (by omega)]at this);go_wp2_with fail;go_ret;exact ⟨by rw [D.o];rfl,rfl⟩
theorem zwb {α:Type} (p:α->Bool):∀(l:List α),idx p l= -1\/∃k:Nat,k<l.length/\idx p l=k:=by
 intro l;by_cases h:∃k,∃E:k<l.length,p l[k]=true/\∀x∈l.take k,p x=false
 ·obtain ⟨k,E,h1,F⟩:=h;exact Or.inr ⟨k,E,zch E F h1⟩
 refine Or.inl (zci ?_);intro x A;cases hp:p x with
 | false=>rfl
 | true=>
   exfalso;have D:∀n:Nat,n<=l.length->∀x∈l.take n,p x=false:=by
    intro n;induction n with
    | zero=>intro _ x A;cases A
    | succ n ih=>
      intro G x A;rw [List.take_succ_eq_append_getElem (by omega)]at A;rcases List.mem_append.1 A with A | A
      ·exact ih (by omega) x A
      rw [List.mem_singleton]at A;cases hq:p x with
      | false=>rfl
      | true=>exact absurd ⟨n,by omega,by rw [<-A];exact hq,ih (by omega)⟩ h
   have:=D l.length (nlq _) x (by rw [List.take_length];exact A);rw [hp]at this;cases this
def ia (order news:List Int) (v:Int):Int:=if v=0\/mq order v<0 then v else wd news (mq order v)
theorem zwc (w:World) (M:Nat->Prop) (L N:Nat) (W Z:Value) (order news:List Int) (h1:w.cell? ⟨L,0,none⟩=some W) (h2:w.cell? ⟨N,0,none⟩=some Z) (l1:L<w.heap.size) (l2:N<w.heap.size) (Y:SL 1 RI M w W order) (X:SL 1 RI M w Z news) (hl:news.length=order.length) (v:Int):
 Calls Tryz.prog 143 #[.int .i64 v,.pointer (some ⟨L,0,none⟩),.pointer (some ⟨N,0,none⟩)] w fun r w'=>r=.returned (.int .i64 (ia order news v))/\w'=w:=by
 have A:=ae (zwa w M W order Y v);obtain ⟨ao,co,rfl,-⟩:=Y;have J:=ae X;obtain ⟨an,cn,rfl,-,O,-⟩:=X;unfold maxLen at O;rcases zwb (fun x=>decide (x=v)) order with G | ⟨k,hk,G⟩
 ·have D:mq order v= -1:=G;have F:Hid (ia order news v=v):=by show _=_;unfold ia;rw [D,if_pos (Or.inr (by omega))]
  rw [D]at A;clear G D;by_cases E:v=0
  ·subst E;go_enter Tryz.func143,Tryz.ntmps143;go_wp2_with fail;refine A.o.mono ?_;rintro r w ⟨rfl,rfl⟩;go_wp2_with fail;go_ret;exact ⟨by rw [F.o];rfl,rfl⟩
  have V:(v==0)=false:=by simpa using E
  go_enter Tryz.func143,Tryz.ntmps143;go_wp2_with fail;refine A.o.mono ?_;rintro r w ⟨rfl,rfl⟩;go_wp2_with fail;go_ret;exact ⟨by rw [F.o];rfl,rfl⟩
 have D:mq order v=(k:Int):=G;by_cases E:v=0
 ·have F:Hid (ia order news v=v):=by show _=_;unfold ia;rw [if_pos (Or.inl E)]
  subst E;rw [D]at A;clear G D;go_enter Tryz.func143,Tryz.ntmps143;go_wp2_with fail;refine A.o.mono ?_;rintro r w ⟨rfl,rfl⟩;go_wp2_with fail;go_ret;exact ⟨by rw [F.o];rfl,rfl⟩
 have V:(v==0)=false:=by simpa using E
 have I:k<news.length:=by omega
 have F:Hid (ia order news v=news[k]):=by show _=_;unfold ia;rw [D,if_neg (by rintro (q | q);exact E q;omega),mw I]
 rw [D]at A;clear G D;go_enter Tryz.func143,Tryz.ntmps143;go_wp2_with fail;refine A.o.mono ?_;rintro r w ⟨rfl,rfl⟩;obtain ⟨bN,oN,rfl,aa,e0⟩:=J.o.atI k I;go_wp2_with fail;go_ret;exact ⟨by rw [F.o];rfl,rfl⟩
theorem callTurn (args:Array Value) (w:World):(callFunc 143 args).run Tryz.prog w=.ok (.enter 143 args) w:=by kernel_rfl
def putW (d:bd) (fy order news:List Int) (loc i:Nat):Int:=if decide (3<=i)&&je d.fields (bj fy loc) (i - 3) then ia order news (wd fy (loc+i:Nat)) else wd fy (loc+i:Nat)
def na (d:bd) (fy order news:List Int) (loc new:Nat):Nat->List Int->List Int
 | 0,ws=>ws
 | n+1,ws=>(na d fy order news loc new n ws).set (new+n) (putW d fy order news loc n)
theorem zwd (d:bd) (fy order news:List Int) (A new:Nat):∀(n:Nat) (ws:List Int),(na d fy order news A new n ws).length=ws.length
 | 0,_=>rfl
 | n+1,ws=>by unfold na;rw [List.length_set,zwd]
structure Rb (b B:Nat) (w:World) (H K T P1 P2 O:Nat) (vW vO vo vn oW kC kS kF kN kT:Value) (h:bb) (d:bd) (cs:List Value) (order news ws:List Int):Prop where
 hH:w.heap[H]? =some (.cells #[vW,.int .i64 h.ag,.int .i64 h.old,.int .i64 h.be,.int .i64 h.ar,vO,.int .i64 h.next] 24 (0,0))
 hK:w.heap[K]? =some (.cells #[kC,kS,kF,kN,kT] 36 (0,0))
 hT:w.heap[T]? =some (.cells #[.func (.func 143) #[] #[.pointer (some ⟨P1,0,none⟩),.pointer (some ⟨P2,0,none⟩)]] 109 (0,0))
 h1:w.heap[P1]? =some (.cells #[vo] 22 (0,0))
 h2:w.heap[P2]? =some (.cells #[vn] 22 (0,0))
 hO:w.heap[O]? =some (.cells (oW::cs).toArray 24 (0,0))
 sW:SL 1 RI (· <B) w vW h.ab
 lk:j9 (· <B) w kC kS kF kN kT d
 so:SL 1 RI (· <B) w vo order
 rN:w.ownsRow b 3 1 vn news.length (b8 news)
 rO:w.ownsRow b 3 1 oW ws.length (b8 ws)
 le:B<=b
 bw:b<=w.heap.size
 neN:∀j,oW.ownBlock=some j->vn.ownBlock≠some j
 ne:∀j,oW.ownBlock=some j->j≠H/\j≠K/\j≠T/\j≠P1/\j≠P2/\j≠O
theorem Rb.below {b B H K T E F O:Nat} {w w':World} {Y X vo Z W I N J L V:Value} {h:bb} {d:bd} {G:List Value} {order news ws:List Int} (o:Rb b B w H K T E F O Y X vo Z W I N J L V h d G order news ws) (A:Below w.heap.size w w'):Rb b B w' H K T E F O Y X vo Z W I N J L V h d G order news ws:=
 have D:Kp (· <B) w w':=⟨A.size,fun j _ hl=>A.block j hl⟩
 ⟨(A.block _ (bk o.hH)).trans o.hH,(A.block _ (bk o.hK)).trans o.hK,(A.block _ (bk o.hT)).trans o.hT,(A.block _ (bk o.h1)).trans o.h1,(A.block _ (bk o.h2)).trans o.h2,(A.block _ (bk o.hO)).trans o.hO,o.sW.keptI D,o.lk.kept D,o.so.keptI D,kv o.rN A,kv o.rO A,o.le,lt3 o.bw A.size,o.neN,o.ne⟩
theorem Rb.ab {b B H K T N V O:Nat} {w w':World} {vW vO vo vn I X kS Y Z kT:Value} {h:bb} {d:bd} {W:List Value} {order news ws D:List Int} (o:Rb b B w H K T N V O vW vO vo vn I X kS Y Z kT h d W order news ws) {k:Nat} (J:I.ownBlock=some k) (A:w.grownBy w' (some k)) (hr:w'.ownsRow b 3 1 I D.length (b8 D)):Rb b B w' H K T N V O vW vO vo vn I X kS Y Z kT h d W order news D:=
 have aa:=(o.rO.lt k J).1;have L:Kp (· <B) w w':=⟨A.size,fun j G hl=>A.block j hl (fun e=>by have:=ojq e;have:=o.le;have G:j<B:=G;omega)⟩;have E:=o.ne k J;have F:∀j,k≠j->some j≠some k:=fun j G e=>G (ojq e).symm
 ⟨(A.block _ (bk o.hH) (F _ E.1)).trans o.hH,(A.block _ (bk o.hK) (F _ E.2.1)).trans o.hK,(A.block _ (bk o.hT) (F _ E.2.2.1)).trans o.hT,(A.block _ (bk o.h1) (F _ E.2.2.2.1)).trans o.h1,(A.block _ (bk o.h2) (F _ E.2.2.2.2.1)).trans o.h2,(A.block _ (bk o.hO) (F _ E.2.2.2.2.2)).trans o.hO,o.sW.keptI L,o.lk.kept L,o.so.keptI L,o.rN.kept A (Or.inr fun e=>o.neN k J e),hr,o.le,lt3 o.bw A.size,o.neN,o.ne⟩
end Go.Proofs.YtjdnmblggdobgaaGreat
