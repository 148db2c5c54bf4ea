import Derived.Ground.Names2Prog
import Derived.Shelf.Lays2
import Derived.Test.YtjdnmblggdobgaaGreatJHpQHpU
import Derived.Shelf.Slices.SearchI
import Derived.Shelf.Slices.Empties
import Derived.Lib.AppendZeros
set_option maxHeartbeats 4000000
set_option maxRecDepth 100000
namespace Go.Proofs.YtjdnmblggdobgaaGreat
open Go.Shelf Tryz
def uy:Go.Shelf.Ren:=⟨fun | 25=>180 | 31=>222 | 32=>223 | 37=>195 | n=>n,fun | 22=>22 | 3=>3 | 4=>4 | 40=>254 | 0=>0 | n=>n,fun | n=>n⟩
theorem ux:Go.Proofs.Lays2.n25 prog uy:={
 mixed:=by kernel_rfl
 f25:=func180.trans (congrArg some (by kernel_rfl))
 f31:=func222.trans (congrArg some (by kernel_rfl))
 f32:=func223.trans (congrArg some (by kernel_rfl))
 f37:=func195.trans (congrArg some (by kernel_rfl))
 t0:=underlying0
 a0:=isAgg0
 z0:=sizeOf0
 v0:=zeroValue0
 t3:=underlying3
 a3:=isAgg3
 z3:=sizeOf3
 v3:=zeroValue3
 t4:=underlying4
 a4:=isAgg4
 z4:=sizeOf4
 v4:=zeroValue4
 t22:=underlying22
 a22:=isAgg22
 z22:=sizeOf22
 v22:=zeroValue22
 t40:=underlying254
 a40:=isAgg254
 z40:=sizeOf254
 v40:=zeroValue254 }
end Go.Proofs.YtjdnmblggdobgaaGreat
namespace Go.Proofs.YtjdnmblggdobgaaGreat
open Go.RowKit Go.Maps Go.Shelf Go.Lib Tryz
theorem zil (w:World) (B:Nat) (v:Value) (l:List Int) (E:SL 1 RI (· <B) w v l) (O:l.length<=1000000) (L:l.Pairwise (· <= ·)) (x:Int):
 Calls prog 180 #[v,.i x] w fun r w'=>(∃k:Nat,r=.returned (.tuple #[.i (k:Int),.bool (l.contains x)]))/\∃q,w'=w.drewN q:=by
 have A:=ag E;obtain ⟨G,cap,rfl,-⟩:=E;cases l with
 | nil=>
   refine (Any.slices_BinarySearch_int_empty ux G cap x w).mono ?_;rintro r w' ⟨rfl,rfl⟩;exact ⟨⟨0,rfl⟩,0,rfl⟩
 | cons y l=>
   obtain ⟨b,off,rfl,-,-⟩:=A.o.atI 0 (by simp);have:=Any.slices_BinarySearch_int ux b off (y::l).length cap (y::l) x w (nlq _) (by omega) (fun j D=>by
    obtain ⟨N,F,e,-,I⟩:=A.o.atI j D;cases e;rw [I,List.getD_eq_getElem?_getD,List.getElem?_eq_getElem D];rfl) (by rw [List.take_length];exact L)
   rw [List.take_length]at this;refine this.mono ?_;rintro r w' ⟨rfl,J⟩;exact ⟨⟨_,rfl⟩,J⟩
end Go.Proofs.YtjdnmblggdobgaaGreat
namespace Go.Proofs.YtjdnmblggdobgaaGreat
open Go.RowKit Go.Maps Tryz
def ia (d:bd) (h:ar) (x:bk):Bool:=decide (h.ae<x.loc)&& !h.am.contains x.loc&&ep d.fields h.ab x (dm h)
theorem zim {l:List Int} (h:na l l.length):l.Pairwise (· <= ·):=by
 have key:∀(b a:Nat),a<=b->b<l.length->wd l a<=wd l b:=by
  intro b;induction b with
  | zero=>intro a E _;rw [show a=0 by omega];exact Int.le_refl _
  | succ b ih=>
    intro a E F;by_cases e:a=b+1
    ·subst e;exact Int.le_refl _
    have h1:=ih a (by omega) (by omega);have D:=h (b+1) (by omega) F;rw [show ((b+1:Nat):Int) - 1=(b:Int) by omega]at D;omega
 rw [List.pairwise_iff_getElem];intro i j hi A G;have:=key j i (by omega) A;rwa [pi hi,pi A]at this
theorem zin (W:World) (X B:Nat) (vW vO kC kS kF kN kT vA:Value) (h:ar) (d:bd) (ts:List bk) (hc:qr X B W vW vO kC kS kF kN kT vA h d ts) (hl:ul d h ts) (a0:h.am.length<=1000000) (av:na h.am h.am.length) (P:Nat) (hP:W.cell? ⟨P,0,none⟩=some (.p (X+1))) (x:bk) (hx:x∈ts):
 Calls prog 179 #[.agg #[.i x.loc,.i x.tag,.i x.len,.i x.hash],.p P] W fun r W'=>r=.returned (.bool (ia d h x))/\Bl W W':=by
 have ax:P<W.heap.size:=World.block_lt_of_cell? W _ hP;obtain ⟨I,hW⟩:∃I,I=W.alloc (.cells #[.i x.loc,.i x.tag,.i x.len,.i x.hash] 101):=⟨_,rfl⟩;have N:Bl W I:=hW ▸ (br _ _).alloc (nlq _) _;have aa:I.heap[W.heap.size]? =some (.cells #[.i x.loc,.i x.tag,.i x.len,.i x.hash] 101 (0,0)):=hW ▸ heap_alloc_new W _;have G:=hc.below N;have ad:Hid (∀V,Bl I V->Calls prog 180 #[vO,.i x.loc] V fun r w'=>(∃k:Nat,r=.returned (.tuple #[.i (k:Int),.bool (h.am.contains x.loc)]))/\Bl V w'):=fun V hV=>(zil V B vO h.am (G.below hV).sO a0 (zim av) x.loc).mono fun r w' ⟨hk,q,hq⟩=>⟨hk,hq ▸ o7 (br _ _) q⟩;have gl:=bz G.blk;have m5:=bp G.blk 5 (x:=vO) rfl;have b0:=bp aa 0 (x:=.i x.loc) rfl;have p0:I.cell? ⟨P,0,none⟩=some (.p (X+1)):=(N.cell (p:=⟨P,0,none⟩) ax).trans hP;have lb:=bz aa;obtain ⟨aO,cO,rfl,-⟩:=G.sO;obtain ⟨hf,h1,h2⟩:=hl.fit x hx;have HL:=ag (And.intro hl.ab (And.intro hf (And.intro h1 h2)));have L:Hid (ia d h x=(decide (h.ae<x.loc)&& !h.am.contains x.loc&&ep d.fields h.ab x (dm h))):=rfl;have ah:=ag G;have ac:=ag N;have af:=ag aa;have HW:=ag hW;have aj:=ag p0;have a1:P<I.heap.size:=by have:=N.size;omega
 clear hc G hl hP N aa hW hf h1 h2 hx av;go_enter func179,ntmps179;go_wp2_with fail;rw [<-HW.o];generalize h.am.contains x.loc=ct at*;refine wp_region_held_drew (S:=fun W'=>∀p:Addr,p.block<I.heap.size->W'.cell? p=I.cell? p) (by kernel_rfl) (fun p Y=>rfl) fun A=>?_;refine ta 0 (.p P) rfl A ?_;refine ta 1 (.p (X+1)) rfl A ?_;refine ta 2 (.p (X+1)) rfl A ?_;refine ta 3 (.p (X+1)) rfl A ?_;refine ta 4 (.p (X+1)) rfl A ?_;refine ta 5 (.pointer (some ⟨X+1,5,none⟩)) rfl A ?_;refine ta 6 (.slice aO h.am.length cO) rfl A ?_;refine ta 7 (.p W.heap.size) rfl A ?_;refine ta 8 (.i x.loc) rfl A ?_;refine wpAnyH_ready (rs:=[9]) (by kernel_rfl) (by simp) ?_;refine AllReadyH.cons rfl (fun K9 an=>?_) AllReadyH.nil;go_simp;refine (ad.o _ (br _ _).drew).mono ?_;rintro r E ⟨⟨kk,rfl⟩,ao⟩;have D:Bl I E:=(br I.heap.size I).drew.trans ao;refine an.o _ _ (fun p Y=>D.cell Y) fun A=>?_;refine ta 10 (.tuple #[.i (kk:Int),.bool ct]) rfl A ?_;refine ta 11 (.i (kk:Int)) rfl A ?_;refine ta 12 (.bool ct) rfl A ?_;refine ta 13 (.i (kk:Int)) rfl A ?_;refine ta 14 (.bool ct) rfl A ?_;refine wpAnyH_done (by kernel_rfl) ?_ _;clear A;simp only [Act.put,p1q,p4q,p3q,p2q,p5q,p6q];have a6:=D.size;have p2:=(D.cell (p:=⟨P,0,none⟩) (by show P<_;omega)).trans aj.o;have F:=(D.block W.heap.size lb).trans af.o;have s0:=bp F 0 (x:=.i x.loc) rfl;have s1:=bp F 1 (x:=.i x.tag) rfl;have s2:=bp F 2 (x:=.i x.len) rfl;have s3:=bp F 3 (x:=.i x.hash) rfl;have l8:=bz F;have g2:X+1<E.heap.size:=by omega
 have a5:P<E.heap.size:=by omega
 have ai:=ag (ah.o.below D);have Z:Hid (Bl W E):=ac.o.trans (D.mono ac.o.size);have J:Hid (∀V,Bl E V->Calls prog 177 #[.p (X+1),.i x.loc] V fun r w'=>r=.returned (.bool (decide (h.ae<x.loc)))/\w'=V):=fun V hV=>zez V B (X+1) _ _ _ _ _ _ _ h d (ai.o.below hV).gd x.loc;have aw:Hid (∀V,Bl E V->Calls prog 172 #[.p (X+1),.agg #[.i x.loc,.i x.tag,.i x.len,.i x.hash],.func (.func 153) #[.p (X+1)] #[]] V fun r w'=>r=.returned (.bool (ep d.fields h.ab x (dm h)))/\Bl V w'):=fun V hV=>by have au:=ai.o.below hV;refine zh3 V B (X+1) _ _ _ _ _ _ _ h d au.gd x HL.o.2.1 HL.o.2.2.1 HL.o.2.2.2 HL.o.1 153 _ _ (dm h) (fun args w=>by kernel_rfl) ?_;intro a ha V2 ay;exact (ze0 V2 B (X+1) _ _ _ _ _ _ _ h d (au.below ay).gd _).mono fun r w' ⟨e1,e2⟩=>⟨e1,e2 ▸ br _ _⟩
 have a4:=qj prog;generalize ep d.fields h.ab x (dm h)=hr at*;clear D F ah ac af aj ad b0 p0 m5 ao an;by_cases hy:h.ae<x.loc
 ·have hd:decide (h.ae<x.loc)=true:=by simp [hy]
  rw [hd]at J L;cases ct with
  | true=>
    go_wp2_with fail;refine wp_region_held_drew (S:=fun W'=>∀p:Addr,p.block<E.heap.size->W'.cell? p=E.cell? p) (by kernel_rfl) (fun p Y=>rfl) fun A=>?_;refine ta 0 (.p P) rfl A ?_;refine ta 1 (.p (X+1)) rfl A ?_;refine ta 2 (.p (X+1)) rfl A ?_;refine ta 3 (.p (X+1)) rfl A ?_;refine ta 4 (.p W.heap.size) rfl A ?_;refine ta 5 (.i x.loc) rfl A ?_;refine wpAnyH_ready (rs:=[6]) (by kernel_rfl) (by simp) ?_;refine AllReadyH.cons rfl (fun K6 O=>?_) AllReadyH.nil;go_simp;refine (J.o _ (br _ _).drew).mono ?_;rintro r _ ⟨rfl,rfl⟩;refine O.o _ _ (fun p Y=>rfl) fun A=>?_;refine ta 7 (.bool true) rfl A ?_;refine ta 8 (.bool true) rfl A ?_;refine ta 9 (.bool false) rfl A ?_;refine ta 10 (.bool false) rfl A ?_;refine ta 11 (.bool false) rfl A ?_;refine pb 12 rfl A ?_;refine pb 13 rfl A ?_;refine pb 14 rfl A ?_;refine pb 15 rfl A ?_;refine pb 16 rfl A ?_;refine pb 17 rfl A ?_;refine pb 18 rfl A ?_;refine pb 19 rfl A ?_;refine pb 20 rfl A ?_;refine pb 21 rfl A ?_;refine pb 22 rfl A ?_;refine ta 23 (.bool false) rfl A ?_;refine ta 24 (.bool false) rfl A ?_;refine wpAnyH_done (by kernel_rfl) ?_ _;clear A;simp only [Act.put,p1q,p4q,p3q,p2q,p5q,p6q];go_wp2_with fail;go_ret;exact ⟨by rw [L.o];rfl,Z.o.drew⟩
  | false=>
    go_wp2_with fail;refine wp_region_held_drew (S:=fun W'=>∀p:Addr,p.block<E.heap.size->W'.cell? p=E.cell? p) (by kernel_rfl) (fun p Y=>rfl) fun A=>?_;refine ta 0 (.p P) rfl A ?_;refine ta 1 (.p (X+1)) rfl A ?_;refine ta 2 (.p (X+1)) rfl A ?_;refine ta 3 (.p (X+1)) rfl A ?_;refine ta 4 (.p W.heap.size) rfl A ?_;refine ta 5 (.i x.loc) rfl A ?_;refine wpAnyH_ready (rs:=[6]) (by kernel_rfl) (by simp) ?_;refine AllReadyH.cons rfl (fun K6 O=>?_) AllReadyH.nil;go_simp;refine (J.o _ (br _ _).drew).mono ?_;rintro r _ ⟨rfl,rfl⟩;refine O.o _ _ (fun p Y=>rfl) fun A=>?_;refine ta 7 (.bool true) rfl A ?_;refine ta 8 (.bool false) rfl A ?_;refine ta 9 (.bool true) rfl A ?_;refine ta 10 (.bool true) rfl A ?_;refine ta 11 (.bool true) rfl A ?_;refine ta 12 (.p P) rfl A ?_;refine ta 13 (.p (X+1)) rfl A ?_;refine ta 14 (.p (X+1)) rfl A ?_;refine ta 15 (.p (X+1)) rfl A ?_;refine ta 16 (.agg #[.i x.loc,.i x.tag,.i x.len,.i x.hash]) rfl A ?_;refine ta 17 (.p P) rfl A ?_;refine ta 18 (.p (X+1)) rfl A ?_;refine ta 19 (.p (X+1)) rfl A ?_;refine ta 20 (.p (X+1)) rfl A ?_;refine wpAnyH_ready (rs:=[21]) (by kernel_rfl) (by simp) ?_;refine AllReadyH.cons rfl (fun a2 ak=>?_) AllReadyH.nil;go_simp;refine ak.o _ _ (fun p Y=>rfl) fun A=>?_;refine wpAnyH_ready (rs:=[22]) (by kernel_rfl) (by simp) ?_;refine AllReadyH.cons rfl (fun a3 al=>?_) AllReadyH.nil;go_simp;refine (aw.o _ (br _ _).drew).mono ?_;rintro r w5 ⟨rfl,az⟩;have ap:Bl E w5:=(br E.heap.size E).drew.trans az;refine al.o _ _ (fun p Y=>ap.cell Y) fun A=>?_;refine ta 23 (.bool hr) rfl A ?_;refine ta 24 (.bool hr) rfl A ?_;refine wpAnyH_done (by kernel_rfl) ?_ _;clear A;simp only [Act.put,p1q,p4q,p3q,p2q,p5q,p6q];go_wp2_with fail;go_ret;exact ⟨by rw [L.o];rfl,Z.o.trans (ap.mono Z.o.size)⟩
 have hd:decide (h.ae<x.loc)=false:=by simp [hy]
 rw [hd]at J L;go_wp2_with fail;refine wp_region_held_drew (S:=fun W'=>∀p:Addr,p.block<E.heap.size->W'.cell? p=E.cell? p) (by kernel_rfl) (fun p Y=>rfl) fun A=>?_;refine ta 0 (.p P) rfl A ?_;refine ta 1 (.p (X+1)) rfl A ?_;refine ta 2 (.p (X+1)) rfl A ?_;refine ta 3 (.p (X+1)) rfl A ?_;refine ta 4 (.p W.heap.size) rfl A ?_;refine ta 5 (.i x.loc) rfl A ?_;refine wpAnyH_ready (rs:=[6]) (by kernel_rfl) (by simp) ?_;refine AllReadyH.cons rfl (fun K6 O=>?_) AllReadyH.nil;go_simp;refine (J.o _ (br _ _).drew).mono ?_;rintro r _ ⟨rfl,rfl⟩;refine O.o _ _ (fun p Y=>rfl) fun A=>?_;refine ta 7 (.bool false) rfl A ?_;refine pb 8 rfl A ?_;refine pb 9 rfl A ?_;refine ta 10 (.bool false) rfl A ?_;refine ta 11 (.bool false) rfl A ?_;refine pb 12 rfl A ?_;refine pb 13 rfl A ?_;refine pb 14 rfl A ?_;refine pb 15 rfl A ?_;refine pb 16 rfl A ?_;refine pb 17 rfl A ?_;refine pb 18 rfl A ?_;refine pb 19 rfl A ?_;refine pb 20 rfl A ?_;refine pb 21 rfl A ?_;refine pb 22 rfl A ?_;refine ta 23 (.bool false) rfl A ?_;refine ta 24 (.bool false) rfl A ?_;refine wpAnyH_done (by kernel_rfl) ?_ _;clear A;simp only [Act.put,p1q,p4q,p3q,p2q,p5q,p6q];go_wp2_with fail;go_ret;exact ⟨by rw [L.o];rfl,Z.o.drew⟩
theorem zio (w:World) (X B:Nat) (vW vO kC kS kF kN kT N:Value) (h:ar) (d:bd) (ts:List bk) (hc:qr X B w vW vO kC kS kF kN kT N h d ts) (W:ul d h ts) (Y:h.am.length<=1000000) (L:na h.am h.am.length):
 Calls prog 116 #[.agg #[.p (X+1)]] w fun r w'=>r=.returned (.bool (!ts.any (ia d h)))/\Bl w w':=by
 have aa:=qj prog;obtain ⟨E,J⟩:∃E,E=w.alloc (.cells #[.p (X+1)] 88):=⟨_,rfl⟩;have F:Bl w E:=J ▸ (br _ _).alloc (nlq _) _;have ac:E.heap.size=w.heap.size+1:=by rw [J];simp
 have A:=hc.below F;have hp:E.cell? ⟨w.heap.size,0,none⟩=some (.p (X+1)):=by rw [J];simp [go_sem]
 have D:Hid (Calls prog 168 #[N,.func (.func 179) #[] #[.p w.heap.size]] E fun r w'=>r=.returned (.bool (ts.any (ia d h)))/\Bl E w'):=by refine zh0 _ _ N ts (A.all W.len) (nlq _) 179 #[] _ (ia d h) (fun args w=>by kernel_rfl) ?_;intro x hx V hV;exact zin V X B _ _ _ _ _ _ _ N h d ts (A.below hV) W Y L w.heap.size ((hV.cell (p:=⟨w.heap.size,0,none⟩) (by show w.heap.size<_;omega)).trans hp) x hx
 have gl:=bz A.blk;have Z:=bp A.blk 12 (x:=N) rfl;have I:=ag F;obtain ⟨a,q,rfl⟩:=hc.len;rw [J]at D Z gl;clear hc A F hp W L;generalize ts.any (ia d h)=b at*;go_enter func116,ntmps116;go_wp2_with fail;refine D.o.mono ?_;rintro r w1 ⟨rfl,G⟩;rw [<-J]at G;have O:Hid (Bl w w1):=I.o.trans (G.mono I.o.size);clear G D;go_wp2_with fail;go_ret;exact ⟨rfl,O.o⟩
theorem Fk (l m:List Int):bw (l++m)=bw l++bw m:=by simp [bw]
theorem ui (l:List Int):(bw l).length=l.length:=by simp [bw]
theorem SL.bw {M:Nat->Prop} {w:World} {b off len cap:Nat} {l:List Int} (h:SL 1 RI M w (.slice (some ⟨b,off,none⟩) len cap) l):∀j u,(bw l)[j]? =some u->w.cell? ((⟨b,off,none⟩:Addr).add j)=some u:=by
 intro j u A;have D:j<l.length:=by rw [<-ui l];exact (List.getElem?_eq_some_iff.1 A).1
 obtain ⟨G,E,e,-,F⟩:=h.atI j D;cases e;have:u=.i l[j]:=by rw [Go.Proofs.YtjdnmblggdobgaaGreat.bw,List.getElem?_map,List.getElem?_eq_getElem D]at A;exact (ojq A).symm
 rw [this,ua];exact F
theorem zis {ops:Array Oper} {rest:List Oper} {o:Oper} {a:Act} {Q:Exit->Act->World->Prop} (w:World) (F:o.guard=none) (s x:Operand)
 (X:o.op=.call { callee:=.builtin .append,args:=#[s,x],argTypes:=#[22,22] }) (A:Nat) (v:Value) (xs:List Int) (Y:a.eval s=v) (D:w.ownsRow A 3 1 v xs.length (bw xs))
 (M:Nat->Prop) (u:Value) (l:List Int) (Z:a.eval x=u) (O:SL 1 RI M w u l) (hb:xs.length+l.length<=1000000) (E:A<=w.heap.size)
 (h:∀v' w',w'.ownsRow A 3 1 v' (xs++l).length (bw (xs++l))->w.grownBy w' v.ownBlock->wpList prog ops Q rest (a.put o.dst v') w'):wpList prog ops Q (o::rest) a w:=by
 obtain ⟨iI,G,J,L,N⟩:=info_parts jy;have HU:=O;obtain ⟨ao,W,rfl,-,-,V⟩:=O;cases l with
 | nil=>
   obtain ⟨av,cv,rfl⟩:=kq D;have I:=zga D;refine Dp w F s x 22 X 3 iI underlying22 G av xs.length cv Y I.1 I.2 ao W Z ?_;exact h _ _ (by simpa using D) (World.grownBy.refl _ _)
 | cons y l=>
   obtain ⟨b,off,cs,e,-⟩:=V 0 (by simp);subst e;refine wpList_append_lies w F s x 22 X A 3 iI (.i 0) 1 8 underlying22 G J L N rfl (by decide) v xs.length (bw xs) Y D ⟨b,off,none⟩ (y::l).length W (bw (y::l)) Z (by rw [ui];simp) HU.bw (by
    intro u O;obtain ⟨z,-,rfl⟩:=List.mem_map.1 O;rfl) (by simp) (by unfold maxLen;omega) (by omega) E w.heap.size rfl ?_
   intro g cap w' h1 h2 _ _;refine h _ _ ?_ h2;rw [Fk,List.length_append];exact h1
theorem zit (w:World) (n:Nat) (hn:n<=1000000):
 Calls prog 220 #[.nl,.i (n:Int)] w fun r w'=>Bl w w'/\∃v,r=.returned v/\w'.ownsRow w.heap.size 3 1 v 0 []:=by
 obtain ⟨Y,O,E,F,I⟩:=info_parts jy;by_cases h0:n=0
 ·subst h0;have h1:¬((0:Int)<0):=by omega
  go_enter func220,ntmps220;go_wp2_with fail;go_ret;exact ⟨br _ _,_,rfl,World.ownsRow_nil _ _ _ _⟩
 have D:∀V,(Builtin.append_ #[22,3] V #[.nl,.i (n:Int)]).run prog w=
  .ok (.slice (some ⟨w.heap.size,0,none⟩) n (grownCap w n 0 3)) (w.drew.alloc (.cells (Builtin.zeroCells (Value.int .i64 0).cells n++Builtin.zeroCells (Value.int .i64 0).cells (grownCap w n 0 3 - n)) 3)):=fun V=>
  Lib.run_append_nil_zeros w _ _ V _ Y (.i 0) .i64 .i64 underlying22 underlying3 O E n (by omega) (by rw [F];omega) (by omega) (by rw [I];omega)
 have N:n<=grownCap w n 0 3:=grownCap_ge w _ _ _;have A:grownCap w n 0 3<=maxLen:=grownCap_le_maxLen w n 0 _ (by unfold maxLen;omega);obtain ⟨G,W⟩:∃G,G=grownCap w n 0 3:=⟨_,rfl⟩;rw [<-W]at D N A;have L:Hid ((w.drew.alloc (.cells (Builtin.zeroCells (Value.int .i64 0).cells n++Builtin.zeroCells (Value.int .i64 0).cells (G - n)) 3)).ownsRow w.heap.size 3 1 (.slice (some ⟨w.heap.size,0,none⟩) 0 G) 0 []):=by refine World.ownsRow_made w.drew _ G (nlq _) A ?_;simp [Builtin.zeroCells,Value.cells];omega
 have J:Hid (Bl w (w.drew.alloc (.cells (Builtin.zeroCells (Value.int .i64 0).cells n++Builtin.zeroCells (Value.int .i64 0).cells (G - n)) 3))):=(br _ _).drew.alloc (nlq _) _;generalize (Obj.cells (Builtin.zeroCells (Value.int .i64 0).cells n++Builtin.zeroCells (Value.int .i64 0).cells (G - n)) 3)=ob at*;have h1:¬((n:Int)<0):=by omega
 have Z:(0:Int)<n:=by omega
 have X:G<=9223372036854775807:=by unfold maxLen at A;omega
 clear W A;go_enter func220,ntmps220;go_wp2_with (at_builtin;refine Lib.wpList_append_run _ rfl _ _ _ _ rfl _ _ rfl rfl _ _ (D _) ?_);go_ret;exact ⟨J.o,_,rfl,L.o⟩
def uc (ps:List (List Int)):List Int:=ps.flatten
theorem ziu (A:List (List Int)) (k:Nat) (D:k<A.length):uc (A.take (k+1))=uc (A.take k)++A[k]:=by unfold uc;rw [List.take_succ_eq_append_getElem D,List.flatten_append];simp
theorem ziv (A:List (List Int)) (k:Nat):(uc (A.take k)).length<=(uc A).length:=by
 have:(uc A).length=(uc (A.take k)).length+(uc (A.drop k)).length:=by unfold uc;rw [<-List.length_append,<-List.flatten_append,List.take_append_drop]
 omega
theorem ziw (w:World) (B:Nat) (v:Value) (A:List (List Int)) (hv:SL 1 (kr 1 RI) (· <B) w v A) (hB:B<=w.heap.size) (hl:(uc A).length<=500000):
 Calls prog 173 #[v] w fun r w'=>Bl w w'/\∃v',r=.returned v'/\w'.ownsRow w.heap.size 3 1 v' (uc A).length (bw (uc A)):=by
 have HV:=ag hv;obtain ⟨ao,cl,rfl,-,hm,-⟩:=hv;unfold maxLen at hm;have HL:∀k,(uc (A.take k)).length<=500000:=fun k=>lt3 (ziv A k) hl;go_enter func173,ntmps173;go_wp2_with fail;go_loopw [3,11] (fun s i wr=>∃k:Nat,k<=A.length/\i=.i k/\s=.i ((uc (A.take k)).length:Nat)/\w=wr) (fun _ i _=>A.length - (intOf i).toNat)
 case atStart=>exact ⟨0,n0q _,rfl,rfl,rfl⟩
 case round=>
  obtain ⟨k,hk,rfl,rfl,rfl⟩:=hrel;have ai:=HL k;by_cases D:k<A.length
  ·obtain ⟨b,off,a1,c1,rfl,hb,e1,s1⟩:=HV.o.atSl k D;have V:=HL (k+1);rw [ziu A k D,List.length_append]at V;have N:Hid ((uc (A.take (k+1))).length=(uc (A.take k)).length+A[k].length):=by show _=_;rw [ziu A k D,List.length_append]
   have q1:(0:Int)<=k:=by omega
   have q2:(k:Int)<A.length:=by omega
   clear s1;generalize (uc (A.take k)).length=n at*;generalize A[k].length=m at*;have q3:¬((n:Int)+(m:Int)<0):=by omega
   go_wp2_with fail;go_roundw
   case rel=>exact ⟨k+1,by omega,by go_num,by rw [N.o];go_num,trivial⟩
   case measure=>simp [intOf];omega
  have G:k=A.length:=by omega
  rw [G,List.take_length]at ai ⊢;clear G D hk;have W:=ag (zit w (uc A).length (by omega));go_wp2_with fail;refine W.o.mono ?_;rintro r w1 ⟨O,v1,rfl,E⟩;have Y:Hid (w.heap.size<=w1.heap.size):=O.size;have ah:=ag (And.intro E O);obtain ⟨a1,c1,rfl⟩:=kq E;clear E O W;go_wp2_with fail;go_loopw [6,27] (fun u i wr=>∃k:Nat,k<=A.length/\i=.i k/\Hid (wr.ownsRow w.heap.size 3 1 u (uc (A.take k)).length (bw (uc (A.take k)))/\Bl w wr)) (fun _ i _=>A.length - (intOf i).toNat)
  case atStart=>exact ⟨0,n0q _,rfl,ah.o⟩
  case round=>
   obtain ⟨k,hk,rfl,I⟩:=hrel;by_cases D:k<A.length
   ·have ac:=I.o.2.size;have Z:=HV.o.keptSl (Kp.below (I.o.2.mono hB)) (fun _ _ h=>h);obtain ⟨b,off,a2,c2,rfl,hb,e1,s1⟩:=Z.atSl k D;have q1:(0:Int)<=k:=by omega
    have q2:(k:Int)<A.length:=by omega
    have V:=HL (k+1);rw [ziu A k D,List.length_append]at V;have N:=ag (ziu A k D);obtain ⟨a3,c3,rfl⟩:=kq I.o.1;have X:=ag I.o.1;have Y:=ag s1;have ad:=ag I.o.2;have af:Hid ((uc (A.take k)).length+A[k].length<=1000000):=by show _<=_;omega
    clear s1 Z I;generalize hpk:A[k]=pk at*;generalize hpt:(uc (A.take k))=pt at*;clear hpk hpt;go_wp2_with (at_builtin;refine zis _ rfl _ _ rfl w.heap.size (.slice a3 pt.length c3) pt rfl X.o (· <B) (.slice a2 pk.length c2) pk rfl Y.o af.o ac ?_);intro v' w3 F J;have aa:Bl w w3:=ad.o.grown J ac (fun k e=>(X.o.lt k e).1);have L:Hid (w3.ownsRow w.heap.size 3 1 v' (uc (A.take (k+1))).length (bw (uc (A.take (k+1))))/\Bl w w3):=by show _/\_;rw [N.o,List.length_append];exact ⟨F,aa⟩
    clear F J aa;go_wp2_with fail;go_roundw
    case rel=>exact ⟨k+1,by omega,by go_num,L.o⟩
    case measure=>simp [intOf];omega
   have G:k=A.length:=by omega
   have L:=I.o;rw [G,List.take_length]at L;have L:=ag L;clear I;go_wp2_with fail;go_ret;exact ⟨L.o.2,_,rfl,L.o.1⟩
theorem SL.sub {M:Nat->Prop} {w:World} {b off n cap:Nat} {l:List Int} (h:SL 1 RI M w (.slice (some ⟨b,off,none⟩) n cap) l) (lo hi:Nat) (h1:lo<=hi) (Z:hi<=l.length):SL 1 RI M w (sliced (some ⟨b,off,none⟩) lo hi cap 1) ((l.take hi).drop lo):=by
 obtain ⟨W,Y,e,hc,hm,E⟩:=h;cases e;have A:((l.take hi).drop lo).length=hi - lo:=by simp;omega
 refine ⟨(if cap=lo then some ⟨b,off,none⟩ else (some (⟨b,off,none⟩:Addr)).map (·.add (lo*1))),cap - lo,?_,by omega,by omega,fun k N=>?_⟩
 ·rw [A];rfl
 rw [A]at N;obtain ⟨X,F,G,e,I,J,O,D,V⟩:=E (lo+k) (by omega);cases e;refine ⟨b,off+lo,G,?_,I,J,O,fun j L=>?_,?_⟩
 ·rw [if_neg (by omega),Option.map_some,ua,Nat.mul_one]
 ·have:=D j L;rw [<-this];congr 1;congr 1;omega
 have:((l.take hi).drop lo)[k]=l[lo+k]:=by simp
 rw [this];exact V
def km (h:ar):List Int:=h.ab.take 1++((h.ab.take (h.ae+1).toNat).drop h.bo.toNat++h.ab.drop h.ba.toNat)
theorem zix (w:World) (n:Int):Calls prog 175 #[.i n] w fun r w'=>r=.returned (.bool (n != 0))/\Bl w w':=by go_enter func175,ntmps175;go_wp2_with fail;go_ret;exact ⟨rfl,br _ _⟩
theorem ziy (w:World) (X B:Nat) (vW vO kC kS kF kN kT vA:Value) (h:ar) (d:bd) (ts:List bk) (hc:qr X B w vW vO kC kS kF kN kT vA h d ts) (hz:nj d h):
 Calls prog 113 #[.agg #[.p (X+1)]] w fun r w'=>r=.returned (.bool (!(km h).any (· != 0)))/\Bl w w':=by
 obtain ⟨D,hW⟩:∃D,D=w.alloc (.cells #[.p (X+1)] 88):=⟨_,rfl⟩;have Z:Bl w D:=hW ▸ (br _ _).alloc (nlq _) _;have a0:D.heap.size=w.heap.size+1:=by rw [hW];simp
 have E:=hc.below Z;have hp:D.cell? ⟨w.heap.size,0,none⟩=some (.p (X+1)):=by rw [hW];simp [go_sem]
 have gl:=bz E.blk;have m0:=bp E.blk 0 (x:=vW) rfl;have m1:=bp E.blk 1 (x:=.i h.ae) rfl;have m3:=bp E.blk 3 (x:=.i h.bo) rfl;have m4:=bp E.blk 4 (x:=.i h.ba) rfl;have bi:=hz.ae;have bl:=hz.old;have bm:=hz.len;have bn:=hz.bo;have bs:=hz.ba;have HS:=ag E.sW;obtain ⟨aW,W,rfl,bb,a9,ay⟩:=E.sW;obtain ⟨O,Y,cs,rfl,a7,bh,-⟩:=ay 0 (by omega);unfold maxLen at a9;have bg:=hc.le;obtain ⟨G,af⟩:∃s,s=sliced (some ⟨O,Y,none⟩) 0 1 W 1:=⟨_,rfl⟩;obtain ⟨I,ah⟩:∃s,s=sliced (some ⟨O,Y,none⟩) h.bo.toNat (h.ae+1).toNat W 1:=⟨_,rfl⟩;obtain ⟨J,ai⟩:∃s,s=sliced (some ⟨O,Y,none⟩) h.ba.toNat h.ab.length W 1:=⟨_,rfl⟩;have r1:∀V,(Instr.slice 22 (.slice (some ⟨O,Y,none⟩) h.ab.length W) none (some (.i 1)) none).run prog V=.ok G V:=fun V=>by rw [af,run_slice_h V 22 _ _ _ underlying22 .i64 1 (by omega) (by omega)];rfl
 have r2:∀V,(Instr.slice 22 (.slice (some ⟨O,Y,none⟩) h.ab.length W) (some (.i h.bo)) (some (.i (h.ae+1))) none).run prog V=.ok I V:=fun V=>by rw [ah,run_slice_lh V 22 _ _ _ underlying22 .i64 .i64 h.bo (h.ae+1) (by omega) (by omega) (by omega)];rfl
 have r3:∀V,(Instr.slice 22 (.slice (some ⟨O,Y,none⟩) h.ab.length W) (some (.i h.ba)) none none).run prog V=.ok J V:=fun V=>by rw [ai,run_slice_l V 22 _ _ _ underlying22 .i64 h.ba (by omega) (by omega)];rfl
 have t1:SL 1 RI (· <B) D G (h.ab.take 1):=af ▸ HS.o.sub 0 1 (by omega) (by omega);have t2:SL 1 RI (· <B) D I ((h.ab.take (h.ae+1).toNat).drop h.bo.toNat):=ah ▸ HS.o.sub h.bo.toNat (h.ae+1).toNat (by omega) (by omega);have t3:SL 1 RI (· <B) D J (h.ab.drop h.ba.toNat):=by have:=HS.o.sub h.ba.toNat h.ab.length (by omega) (nlq _);rw [List.take_length]at this;exact ai ▸ this
 have N:Hid (Bl D (D.drew.alloc (.cells #[G,I,J] 22))):=(br _ _).drew.alloc (nlq _) _;have ap:B<=D.heap.size:=by omega
 have an:Hid (Calls prog 173 #[.slice (some ⟨D.heap.size,0,none⟩) 3 3] (D.drew.alloc (.cells #[G,I,J] 22)) fun r w'=>Below (D.drew.alloc (.cells #[G,I,J] 22)).heap.size (D.drew.alloc (.cells #[G,I,J] 22)) w'/\∃v',r=.returned v'/\w'.ownsRow (D.drew.alloc (.cells #[G,I,J] 22)).heap.size 3 1 v' (km h).length (bw (km h))):=by
  have hk:=Kp.below (N.o.mono ap);have F:(D.drew.alloc (.cells #[G,I,J] 22)).heap[D.heap.size]? =some (.cells #[G,I,J] 22 (0,0)):=heap_alloc_new D.drew _;have ac:=bz F;have aj:SL 1 (kr 1 RI) (· <D.heap.size+1) (D.drew.alloc (.cells #[G,I,J] 22)) (.slice (some ⟨D.heap.size,0,none⟩) 3 3) [h.ab.take 1,(h.ab.take (h.ae+1).toNat).drop h.bo.toNat,h.ab.drop h.ba.toNat]:=by
   refine ⟨_,3,rfl,by simp,by unfold maxLen;simp,fun k a8=>?_⟩;have ad:∀b,b<B->b<D.heap.size+1:=fun b hb=>by omega
   match k,a8 with
   | 0,_=>exact ⟨_,_,[G],rfl,Nat.lt_succ_self _,ac,rfl,(fun j hj=>by rw [Nat.lt_one_iff.1 hj];exact bp F 0 rfl),G,rfl,(t1.keptI hk).monoI ad⟩
   | 1,_=>exact ⟨_,_,[I],rfl,Nat.lt_succ_self _,ac,rfl,(fun j hj=>by rw [Nat.lt_one_iff.1 hj];exact bp F 1 rfl),I,rfl,(t2.keptI hk).monoI ad⟩
   | 2,_=>exact ⟨_,_,[J],rfl,Nat.lt_succ_self _,ac,rfl,(fun j hj=>by rw [Nat.lt_one_iff.1 hj];exact bp F 2 rfl),J,rfl,(t3.keptI hk).monoI ad⟩
  have az:uc [h.ab.take 1,(h.ab.take (h.ae+1).toNat).drop h.bo.toNat,h.ab.drop h.ba.toNat]=km h:=by simp [km,uc]
  have:=ziw (D.drew.alloc (.cells #[G,I,J] 22)) (D.heap.size+1) _ _ aj (by omega) (by rw [az];simp [km];omega);rw [az]at this;exact this
 have wy:IntKind.i64.wrap (h.ae+1)=h.ae+1:=gp _ (by omega) (by omega);have ak:=ag Z;have HW:=ag hW;have a6:Hid ((km h).length<=1000000):=by show (km h).length<=1000000;simp [km];omega
 obtain ⟨a1,n1,c1,e1⟩:∃a n c,G=.slice a n c:=by obtain ⟨a,c,e,-⟩:=t1;exact ⟨a,_,c,e⟩
 obtain ⟨a2,n2,c2,e2⟩:∃a n c,I=.slice a n c:=by obtain ⟨a,c,e,-⟩:=t2;exact ⟨a,_,c,e⟩
 obtain ⟨a3,n3,c3,e3⟩:∃a n c,J=.slice a n c:=by obtain ⟨a,c,e,-⟩:=t3;exact ⟨a,_,c,e⟩
 have bc:=ag a0;have lw:w.heap.size<D.heap.size:=by omega
 clear a0;clear hc E Z ay t1 t2 t3 af ah ai HS hz hW a7;subst e1 e2 e3;generalize km h=rl at*;obtain ⟨b,hb⟩:∃b,(rl.any (· != 0))=b:=⟨_,rfl⟩;rw [hb];have a5:=ag hb;clear hb;go_enter func113,ntmps113;go_wp2_with fail;rw [<-HW.o];refine wp_region_held_drew (S:=fun W'=>∀p:Addr,p.block<D.heap.size->W'.cell? p=D.cell? p) (by kernel_rfl) (fun p hp=>rfl) fun A=>?_;refine ta 0 (.p w.heap.size) rfl A ?_;refine ta 1 (.p (X+1)) rfl A ?_;refine ta 2 (.p (X+1)) rfl A ?_;refine ta 3 (.p (X+1)) rfl A ?_;refine ta 4 (.p (X+1)) rfl A ?_;refine ta 5 (.p (X+1)) rfl A ?_;refine ta 6 (.slice (some ⟨O,Y,none⟩) h.ab.length W) rfl A ?_;refine ta 7 (.slice a1 n1 c1) rfl A ?_;refine ta 8 (.p w.heap.size) rfl A ?_;refine ta 9 (.p (X+1)) rfl A ?_;refine ta 10 (.p (X+1)) rfl A ?_;refine ta 11 (.p (X+1)) rfl A ?_;refine ta 12 (.p (X+1)) rfl A ?_;refine ta 13 (.p (X+1)) rfl A ?_;refine ta 14 (.slice (some ⟨O,Y,none⟩) h.ab.length W) rfl A ?_;refine ta 15 (.p w.heap.size) rfl A ?_;refine ta 16 (.p (X+1)) rfl A ?_;refine ta 17 (.p (X+1)) rfl A ?_;refine ta 18 (.p (X+1)) rfl A ?_;refine ta 19 (.p (X+1)) rfl A ?_;refine ta 20 (.pointer (some ⟨X+1,3,none⟩)) rfl A ?_;refine ta 21 (.i h.bo) rfl A ?_;refine ta 22 (.p w.heap.size) rfl A ?_;refine ta 23 (.p (X+1)) rfl A ?_;refine ta 24 (.p (X+1)) rfl A ?_;refine ta 25 (.p (X+1)) rfl A ?_;refine ta 26 (.p (X+1)) rfl A ?_;refine ta 27 (.pointer (some ⟨X+1,1,none⟩)) rfl A ?_;refine ta 28 (.i h.ae) rfl A ?_;refine ta 29 (.i (h.ae+1)) rfl A ?_;refine ta 30 (.slice a2 n2 c2) rfl A ?_;refine ta 31 (.p w.heap.size) rfl A ?_;refine ta 32 (.p (X+1)) rfl A ?_;refine ta 33 (.p (X+1)) rfl A ?_;refine ta 34 (.p (X+1)) rfl A ?_;refine ta 35 (.p (X+1)) rfl A ?_;refine ta 36 (.p (X+1)) rfl A ?_;refine ta 37 (.slice (some ⟨O,Y,none⟩) h.ab.length W) rfl A ?_;refine ta 38 (.p w.heap.size) rfl A ?_;refine ta 39 (.p (X+1)) rfl A ?_;refine ta 40 (.p (X+1)) rfl A ?_;refine ta 41 (.p (X+1)) rfl A ?_;refine ta 42 (.p (X+1)) rfl A ?_;refine ta 43 (.pointer (some ⟨X+1,4,none⟩)) rfl A ?_;refine ta 44 (.i h.ba) rfl A ?_;refine ta 45 (.slice a3 n3 c3) rfl A ?_;refine wpAnyH_ready (rs:=[46]) (by kernel_rfl) (by simp) ?_;refine AllReadyH.cons rfl (fun be au=>?_) AllReadyH.nil;go_simp;refine au.o _ _ (fun p hp=>Below.cell (B:=D.heap.size) (w:=D) ((br _ _).drew.alloc (nlq _) _) hp) fun A=>?_;refine wpAnyH_ready (rs:=[47]) (by kernel_rfl) (by simp) ?_;refine AllReadyH.cons rfl (fun bf av=>?_) AllReadyH.nil;go_simp;refine an.o.mono ?_;rintro r w3 ⟨aw,v3,rfl,L⟩;have aa:Bl D w3:=N.o.trans (aw.mono N.o.size);refine av.o _ _ (fun p hp=>aa.cell hp) fun A=>?_;refine ta 48 (v3) rfl A ?_;refine wpAnyH_done (by kernel_rfl) ?_ _;clear A;simp only [Act.put,p1q,p4q,p3q,p2q,p5q,p6q];have al:Hid (Bl w w3):=ak.o.trans (aa.mono ak.o.size);have ao:Hid (Calls prog 174 #[v3,.func (.func 175) #[] #[]] w3 fun r w'=>r=.returned (.bool b)/\Bl w3 w'):=by rw [<-a5.o];have aj:=(ru L a6.o).monoI (M':=(· <w3.heap.size)) fun k hk=>hk.lt;refine zhy w3 w3.heap.size v3 rl aj (nlq _) 175 #[] #[] (· != 0) (fun args w=>by kernel_rfl) ?_;intro x hx V hV;exact zix V x
 clear aw aa L m0 m1 m3 m4 r1 r2 r3 an N hp;go_wp2_with fail;refine ao.o.mono ?_;rintro r w5 ⟨rfl,ax⟩;have a4:Hid (Bl w w5):=al.o.trans (ax.mono al.o.size);clear ax ao;go_wp2_with fail;go_ret;exact ⟨rfl,a4.o⟩
end Go.Proofs.YtjdnmblggdobgaaGreat
