import Derived.Test.YtjdnmblggdobgaaGreatJHpQHpU
import Derived.Shelf.Slices.Empties
import Derived.Lib.AppendZeros
set_option maxHeartbeats 4000000
set_option maxRecDepth 100000
namespace Go.Proofs.YtjdnmblggdobgaaGreat
open Tryz List World
section
open Go.Shelf
def xb:Go.Shelf.Ren:=⟨fun | 25=>180 | 31=>222 | 32=>223 | 37=>195 | n=>n,fun | 22=>22 | 3=>3 | 4=>4 | 40=>254 | 0=>0 | n=>n,fun | n=>n⟩
theorem wv:Go.Proofs.Lays2.n25 prog xb:={
 mixed:=by kernel_rfl
 f25:=func180.trans (congrArg some (by kernel_rfl))
 f31:=func222.trans (congrArg some (by kernel_rfl))
 f32:=func223.trans (congrArg some (by kernel_rfl))
 f37:=func195.trans (congrArg some (by kernel_rfl))
 t0:=underlying0
 a0:=isAgg0
 z0:=sizeOf0
 v0:=zeroValue0
 t3:=underlying3
 a3:=isAgg3
 z3:=sizeOf3
 v3:=zeroValue3
 t4:=underlying4
 a4:=isAgg4
 z4:=sizeOf4
 v4:=zeroValue4
 t22:=underlying22
 a22:=isAgg22
 z22:=sizeOf22
 v22:=zeroValue22
 t40:=underlying254
 a40:=isAgg254
 z40:=sizeOf254
 v40:=zeroValue254 }
end
section
open Go.Lib Go.Maps Go.RowKit Go.Shelf
theorem zic (w:World) (B:Nat) (v:Value) (l:List Int) (E:SL 1 RI (· <B) w v l) (N:l.length<=1000000) (J:l.Pairwise (· <= ·)) (x:Int):
 Calls prog 180 #[v,.i x] w fun r w'=>(∃k:Nat,r=.returned (.tuple #[.i (k:Int),.bool (l.contains x)]))/\∃q,w'=w.drewN q:=by
 have A:=aj E;obtain ⟨ao,cap,rfl,-⟩:=E;cases l with
 | nil=>
   refine (Any.slices_BinarySearch_int_empty wv ao cap x w).mono ?_;rintro r w' ⟨rfl,rfl⟩;exact ⟨⟨0,rfl⟩,0,rfl⟩
 | cons y l=>
   obtain ⟨b,off,rfl,-,-⟩:=A.o.atI 0 (by simp);have:=Any.slices_BinarySearch_int wv b off (y::l).length cap (y::l) x w (nlq _) (by omega) (fun j D=>by
    obtain ⟨L,F,e,-,G⟩:=A.o.atI j D;cases e;rw [G,getD_eq_getElem?_getD,getElem?_eq_getElem D];rfl) (by rw [take_length];exact J)
   rw [take_length]at this;refine this.mono ?_;rintro r w' ⟨rfl,I⟩;exact ⟨⟨_,rfl⟩,I⟩
end
section
open Go.Maps Go.RowKit
variable {ops:Array Oper} {rest:List Oper} {o:Oper} {a:Act} {Q:Exit->Act->World->Prop} (l:List Int) {M:Nat->Prop} (W w:World) (n X B:Nat) (v:Value) (A:List (List Int)) (k:Nat) (vW vO kC kS kF kN kT N vA:Value) (h:ar) (d:ax) (ts:List bq)
def iv (d:ax) (h:ar) (x:bq):Bool:=decide (h.ae<x.loc)&& !h.ap.contains x.loc&&fx d.fields h.ab x (dw h)
theorem zid {l:List Int} (h:nu l l.length):l.Pairwise (· <= ·):=by
 have key:∀(b a:Nat),a<=b->b<l.length->wd l a<=wd l b:=by
  intro b;induction b with
  | zero=>intro a E _;rw [show a=0 by omega];exact Int.le_refl _
  | succ b ih=>
    intro a E F;by_cases e:a=b+1
    ·subst e;exact Int.le_refl _
    have h1:=ih a (by omega) (by omega);have D:=h (b+1) (by omega) F;rw [show ((b+1:Nat):Int) - 1=(b:Int) by omega]at D;omega
 rw [pairwise_iff_getElem];intro i j hi A G;have:=key j i (by omega) A;rwa [qm hi,qm A]at this
theorem zie (hc:qc X B W vW vO kC kS kF kN kT vA h d ts) (hl:vw d h ts) (a3:h.ap.length<=1000000) (ay:nu h.ap h.ap.length) (P:Nat) (hP:W.cell? ⟨P,0,none⟩=some (.p (X+1))) (x:bq) (hx:x∈ts):
 Calls prog 179 #[.agg #[.i x.loc,.i x.tag,.i x.len,.i x.hash],.p P] W fun r W'=>r=.returned (.bool (iv d h x))/\Bl W W':=by
 have a0:P<W.heap.size:=block_lt_of_cell? W _ hP;obtain ⟨I,hW⟩:∃I,I=W.alloc (.cells #[.i x.loc,.i x.tag,.i x.len,.i x.hash] 101):=⟨_,rfl⟩;have N:Bl W I:=hW ▸ (br _ _).alloc (nlq _) _;have aa:I.heap[W.heap.size]? =some (.cells #[.i x.loc,.i x.tag,.i x.len,.i x.hash] 101 (0,0)):=hW ▸ heap_alloc_new W _;have G:=hc.below N;have ad:Hid (∀V,Bl I V->Calls prog 180 #[vO,.i x.loc] V fun r w'=>(∃k:Nat,r=.returned (.tuple #[.i (k:Int),.bool (h.ap.contains x.loc)]))/\Bl V w'):=fun V hV=>(zic V B vO h.ap (G.below hV).sO a3 (zid ay) x.loc).mono fun r w' ⟨hk,q,hq⟩=>⟨hk,hq ▸ pa (br _ _) q⟩;have gl:=bz G.blk;have m5:=bg G.blk 5 (x:=vO) rfl;have b0:=bg aa 0 (x:=.i x.loc) rfl;have p0:I.cell? ⟨P,0,none⟩=some (.p (X+1)):=(N.cell (p:=⟨P,0,none⟩) a0).trans hP;have lb:=bz aa;obtain ⟨aO,cO,rfl,-⟩:=G.sO;obtain ⟨hf,h1,h2⟩:=hl.fit x hx;have HL:=aj (And.intro hl.ab (And.intro hf (And.intro h1 h2)));have L:Hid (iv d h x=(decide (h.ae<x.loc)&& !h.ap.contains x.loc&&fx d.fields h.ab x (dw h))):=rfl;have ah:=aj G;have ac:=aj N;have af:=aj aa;have HW:=aj hW;have ak:=aj p0;have a4:P<I.heap.size:=by have:=N.size;omega
 clear hc G hl hP N aa hW hf h1 h2 hx ay;go_enter func179,ntmps179;go_wp2_with fail;rw [<-HW.o];generalize h.ap.contains x.loc=ct at*;refine wp_region_held_drew (S:=fun W'=>∀p:Addr,p.block<I.heap.size->W'.cell? p=I.cell? p) (by kernel_rfl) (fun p Y=>rfl) fun A=>?_;refine ta 0 (.p P) rfl A ?_;refine ta 1 (.p (X+1)) rfl A ?_;refine ta 2 (.p (X+1)) rfl A ?_;refine ta 3 (.p (X+1)) rfl A ?_;refine ta 4 (.p (X+1)) rfl A ?_;refine ta 5 (.pointer (some ⟨X+1,5,none⟩)) rfl A ?_;refine ta 6 (.slice aO h.ap.length cO) rfl A ?_;refine ta 7 (.p W.heap.size) rfl A ?_;refine ta 8 (.i x.loc) rfl A ?_;refine wpAnyH_ready (rs:=[9]) (by kernel_rfl) (by simp) ?_;refine AllReadyH.cons rfl (fun K9 an=>?_) AllReadyH.nil;go_simp;refine (ad.o _ (br _ _).drew).mono ?_;rintro r E ⟨⟨kk,rfl⟩,au⟩;have D:Bl I E:=(br I.heap.size I).drew.trans au;refine an.o _ _ (fun p Y=>D.cell Y) fun A=>?_;refine ta 10 (.tuple #[.i (kk:Int),.bool ct]) rfl A ?_;refine ta 11 (.i (kk:Int)) rfl A ?_;refine ta 12 (.bool ct) rfl A ?_;refine ta 13 (.i (kk:Int)) rfl A ?_;refine ta 14 (.bool ct) rfl A ?_;refine wpAnyH_done (by kernel_rfl) ?_ _;clear A;simp only [Act.put,p1q,p4q,p3q,p2q,p5q,p6q];have a9:=D.size;have p2:=(D.cell (p:=⟨P,0,none⟩) (by show P<_;omega)).trans ak.o;have F:=(D.block W.heap.size lb).trans af.o;have s0:=bg F 0 (x:=.i x.loc) rfl;have s1:=bg F 1 (x:=.i x.tag) rfl;have s2:=bg F 2 (x:=.i x.len) rfl;have s3:=bg F 3 (x:=.i x.hash) rfl;have l8:=bz F;have g2:X+1<E.heap.size:=by omega
 have a8:P<E.heap.size:=by omega
 have ai:=aj (ah.o.below D);have Z:Hid (Bl W E):=ac.o.trans (D.mono ac.o.size);have J:Hid (∀V,Bl E V->Calls prog 177 #[.p (X+1),.i x.loc] V fun r w'=>r=.returned (.bool (decide (h.ae<x.loc)))/\w'=V):=fun V hV=>zeq V B (X+1) _ _ _ _ _ _ _ h d (ai.o.below hV).gd x.loc;have az:Hid (∀V,Bl E V->Calls prog 172 #[.p (X+1),.agg #[.i x.loc,.i x.tag,.i x.len,.i x.hash],.func (.func 153) #[.p (X+1)] #[]] V fun r w'=>r=.returned (.bool (fx d.fields h.ab x (dw h)))/\Bl V w'):=fun V hV=>by have aw:=ai.o.below hV;refine zhu V B (X+1) _ _ _ _ _ _ _ h d aw.gd x HL.o.2.1 HL.o.2.2.1 HL.o.2.2.2 HL.o.1 153 _ _ (dw h) (fun args w=>by kernel_rfl) ?_;intro a ha V2 a1;exact (zer V2 B (X+1) _ _ _ _ _ _ _ h d (aw.below a1).gd _).mono fun r w' ⟨e1,e2⟩=>⟨e1,e2 ▸ br _ _⟩
 have a7:=ri prog;generalize fx d.fields h.ab x (dw h)=hr at*;clear D F ah ac af ak ad b0 p0 m5 au an;by_cases hy:h.ae<x.loc
 ·have hd:decide (h.ae<x.loc)=true:=by simp [hy]
  rw [hd]at J L;cases ct;rotate_left
  ·go_wp2_with fail;refine wp_region_held_drew (S:=fun W'=>∀p:Addr,p.block<E.heap.size->W'.cell? p=E.cell? p) (by kernel_rfl) (fun p Y=>rfl) fun A=>?_;refine ta 0 (.p P) rfl A ?_;refine ta 1 (.p (X+1)) rfl A ?_;refine ta 2 (.p (X+1)) rfl A ?_;refine ta 3 (.p (X+1)) rfl A ?_;refine ta 4 (.p W.heap.size) rfl A ?_;refine ta 5 (.i x.loc) rfl A ?_;refine wpAnyH_ready (rs:=[6]) (by kernel_rfl) (by simp) ?_;refine AllReadyH.cons rfl (fun K6 O=>?_) AllReadyH.nil;go_simp;refine (J.o _ (br _ _).drew).mono ?_;rintro r _ ⟨rfl,rfl⟩;refine O.o _ _ (fun p Y=>rfl) fun A=>?_;refine ta 7 (.bool true) rfl A ?_;refine ta 8 (.bool true) rfl A ?_;refine ta 9 (.bool false) rfl A ?_;refine ta 10 (.bool false) rfl A ?_;refine ta 11 (.bool false) rfl A ?_;refine pn 12 rfl A ?_;refine pn 13 rfl A ?_;refine pn 14 rfl A ?_;refine pn 15 rfl A ?_;refine pn 16 rfl A ?_;refine pn 17 rfl A ?_;refine pn 18 rfl A ?_;refine pn 19 rfl A ?_;refine pn 20 rfl A ?_;refine pn 21 rfl A ?_;refine pn 22 rfl A ?_;refine ta 23 (.bool false) rfl A ?_;refine ta 24 (.bool false) rfl A ?_;refine wpAnyH_done (by kernel_rfl) ?_ _;clear A;simp only [Act.put,p1q,p4q,p3q,p2q,p5q,p6q];go_wp2_with fail;go_ret;exact ⟨by rw [L.o];rfl,Z.o.drew⟩
  go_wp2_with fail;refine wp_region_held_drew (S:=fun W'=>∀p:Addr,p.block<E.heap.size->W'.cell? p=E.cell? p) (by kernel_rfl) (fun p Y=>rfl) fun A=>?_;refine ta 0 (.p P) rfl A ?_;refine ta 1 (.p (X+1)) rfl A ?_;refine ta 2 (.p (X+1)) rfl A ?_;refine ta 3 (.p (X+1)) rfl A ?_;refine ta 4 (.p W.heap.size) rfl A ?_;refine ta 5 (.i x.loc) rfl A ?_;refine wpAnyH_ready (rs:=[6]) (by kernel_rfl) (by simp) ?_;refine AllReadyH.cons rfl (fun K6 O=>?_) AllReadyH.nil;go_simp;refine (J.o _ (br _ _).drew).mono ?_;rintro r _ ⟨rfl,rfl⟩;refine O.o _ _ (fun p Y=>rfl) fun A=>?_;refine ta 7 (.bool true) rfl A ?_;refine ta 8 (.bool false) rfl A ?_;refine ta 9 (.bool true) rfl A ?_;refine ta 10 (.bool true) rfl A ?_;refine ta 11 (.bool true) rfl A ?_;refine ta 12 (.p P) rfl A ?_;refine ta 13 (.p (X+1)) rfl A ?_;refine ta 14 (.p (X+1)) rfl A ?_;refine ta 15 (.p (X+1)) rfl A ?_;refine ta 16 (.agg #[.i x.loc,.i x.tag,.i x.len,.i x.hash]) rfl A ?_;refine ta 17 (.p P) rfl A ?_;refine ta 18 (.p (X+1)) rfl A ?_;refine ta 19 (.p (X+1)) rfl A ?_;refine ta 20 (.p (X+1)) rfl A ?_;refine wpAnyH_ready (rs:=[21]) (by kernel_rfl) (by simp) ?_;refine AllReadyH.cons rfl (fun a5 al=>?_) AllReadyH.nil;go_simp;refine al.o _ _ (fun p Y=>rfl) fun A=>?_;refine wpAnyH_ready (rs:=[22]) (by kernel_rfl) (by simp) ?_;refine AllReadyH.cons rfl (fun a6 am=>?_) AllReadyH.nil;go_simp;refine (az.o _ (br _ _).drew).mono ?_;rintro r w5 ⟨rfl,a2⟩;have av:Bl E w5:=(br E.heap.size E).drew.trans a2;refine am.o _ _ (fun p Y=>av.cell Y) fun A=>?_;refine ta 23 (.bool hr) rfl A ?_;refine ta 24 (.bool hr) rfl A ?_;refine wpAnyH_done (by kernel_rfl) ?_ _;clear A;simp only [Act.put,p1q,p4q,p3q,p2q,p5q,p6q];go_wp2_with fail;go_ret;exact ⟨by rw [L.o];rfl,Z.o.trans (av.mono Z.o.size)⟩
 have hd:decide (h.ae<x.loc)=false:=by simp [hy]
 rw [hd]at J L;go_wp2_with fail;refine wp_region_held_drew (S:=fun W'=>∀p:Addr,p.block<E.heap.size->W'.cell? p=E.cell? p) (by kernel_rfl) (fun p Y=>rfl) fun A=>?_;refine ta 0 (.p P) rfl A ?_;refine ta 1 (.p (X+1)) rfl A ?_;refine ta 2 (.p (X+1)) rfl A ?_;refine ta 3 (.p (X+1)) rfl A ?_;refine ta 4 (.p W.heap.size) rfl A ?_;refine ta 5 (.i x.loc) rfl A ?_;refine wpAnyH_ready (rs:=[6]) (by kernel_rfl) (by simp) ?_;refine AllReadyH.cons rfl (fun K6 O=>?_) AllReadyH.nil;go_simp;refine (J.o _ (br _ _).drew).mono ?_;rintro r _ ⟨rfl,rfl⟩;refine O.o _ _ (fun p Y=>rfl) fun A=>?_;refine ta 7 (.bool false) rfl A ?_;refine pn 8 rfl A ?_;refine pn 9 rfl A ?_;refine ta 10 (.bool false) rfl A ?_;refine ta 11 (.bool false) rfl A ?_;refine pn 12 rfl A ?_;refine pn 13 rfl A ?_;refine pn 14 rfl A ?_;refine pn 15 rfl A ?_;refine pn 16 rfl A ?_;refine pn 17 rfl A ?_;refine pn 18 rfl A ?_;refine pn 19 rfl A ?_;refine pn 20 rfl A ?_;refine pn 21 rfl A ?_;refine pn 22 rfl A ?_;refine ta 23 (.bool false) rfl A ?_;refine ta 24 (.bool false) rfl A ?_;refine wpAnyH_done (by kernel_rfl) ?_ _;clear A;simp only [Act.put,p1q,p4q,p3q,p2q,p5q,p6q];go_wp2_with fail;go_ret;exact ⟨by rw [L.o];rfl,Z.o.drew⟩
theorem zif (hc:qc X B w vW vO kC kS kF kN kT N h d ts) (W:vw d h ts) (Y:h.ap.length<=1000000) (L:nu h.ap h.ap.length):
 Calls prog 116 #[.agg #[.p (X+1)]] w fun r w'=>r=.returned (.bool (!ts.any (iv d h)))/\Bl w w':=by
 have aa:=ri prog;obtain ⟨E,J⟩:∃E,E=w.alloc (.cells #[.p (X+1)] 88):=⟨_,rfl⟩;have F:Bl w E:=J ▸ (br _ _).alloc (nlq _) _;have ac:E.heap.size=w.heap.size+1:=by rw [J];simp
 have A:=hc.below F;have hp:E.cell? ⟨w.heap.size,0,none⟩=some (.p (X+1)):=by rw [J];simp [go_sem]
 have D:Hid (Calls prog 168 #[N,.func (.func 179) #[] #[.p w.heap.size]] E fun r w'=>r=.returned (.bool (ts.any (iv d h)))/\Bl E w'):=by refine zhr _ _ N ts (A.all W.len) (nlq _) 179 #[] _ (iv d h) (fun args w=>by kernel_rfl) ?_;intro x hx V hV;exact zie V X B _ _ _ _ _ _ _ N h d ts (A.below hV) W Y L w.heap.size ((hV.cell (p:=⟨w.heap.size,0,none⟩) (by show w.heap.size<_;omega)).trans hp) x hx
 have gl:=bz A.blk;have Z:=bg A.blk 12 (x:=N) rfl;have I:=aj F;obtain ⟨a,q,rfl⟩:=hc.len;rw [J]at D Z gl;clear hc A F hp W L;generalize ts.any (iv d h)=b at*;go_enter func116,ntmps116;go_wp2_with fail;refine D.o.mono ?_;rintro r w1 ⟨rfl,G⟩;rw [<-J]at G;have O:Hid (Bl w w1):=I.o.trans (G.mono I.o.size);clear G D;go_wp2_with fail;go_ret;exact ⟨rfl,O.o⟩
theorem zig (m:List Int):b8 (l++m)=b8 l++b8 m:=by simp [b8]
theorem vi:(b8 l).length=l.length:=by simp [b8]
theorem SL.b8 {w:World} {b off len cap:Nat} {l:List Int} (h:SL 1 RI M w (.slice (some ⟨b,off,none⟩) len cap) l):∀j u,(b8 l)[j]? =some u->w.cell? ((⟨b,off,none⟩:Addr).add j)=some u:=by
 intro j u A;have D:j<l.length:=by rw [<-vi l];exact (List.getElem?_eq_some_iff.1 A).1
 obtain ⟨G,E,e,-,F⟩:=h.atI j D;cases e;have:u=.i l[j]:=by rw [Go.Proofs.YtjdnmblggdobgaaGreat.b8,getElem?_map,getElem?_eq_getElem D]at A;exact (ojq A).symm
 rw [this,zd];exact F
theorem zii (F:o.guard=none) (s x:Operand) (W:o.op=.call { callee:=.builtin .append,args:=#[s,x],argTypes:=#[22,22] }) (A:Nat) (v:Value) (xs:List Int) (X:a.eval s=v) (D:w.ownsRow A 3 1 v xs.length (b8 xs)) (M:Nat->Prop) (u:Value) (l:List Int) (Y:a.eval x=u) (O:SL 1 RI M w u l) (hb:xs.length+l.length<=1000000) (E:A<=w.heap.size) (h:∀v' w',w'.ownsRow A 3 1 v' (xs++l).length (b8 (xs++l))->w.grownBy w' v.ownBlock->wpList prog ops Q rest (a.put o.dst v') w'):wpList prog ops Q (o::rest) a w:=by
 obtain ⟨Z,G,J,L,N⟩:=info_parts kh;have HU:=O;obtain ⟨ao,cl,rfl,-,-,V⟩:=O;cases l with
 | nil=>
   obtain ⟨av,cv,rfl⟩:=ku D;have I:=zf0 D;refine zfz w F s x 22 W 3 Z underlying22 G av xs.length cv X I.1 I.2 ao cl Y ?_;exact h _ _ (by simpa using D) (grownBy.refl _ _)
 | cons y l=>
   obtain ⟨b,off,cs,e,-⟩:=V 0 (by simp);subst e;refine wpList_append_lies w F s x 22 W A 3 Z (.i 0) 1 8 underlying22 G J L N rfl (by decide) v xs.length (b8 xs) X D ⟨b,off,none⟩ (y::l).length cl (b8 (y::l)) Y (by rw [vi];simp) HU.b8 (by
    intro u O;obtain ⟨z,-,rfl⟩:=mem_map.1 O;rfl) (by simp) (by unfold maxLen;omega) (by omega) E w.heap.size rfl ?_
   intro g cap w' h1 h2 _ _;refine h _ _ ?_ h2;rw [zig,length_append];exact h1
theorem zij (hn:n<=1000000):
 Calls prog 220 #[.nl,.i (n:Int)] w fun r w'=>Bl w w'/\∃v,r=.returned v/\w'.ownsRow w.heap.size 3 1 v 0 []:=by
 obtain ⟨Y,O,E,F,I⟩:=info_parts kh;by_cases h0:n=0
 ·subst h0;have h1:¬((0:Int)<0):=by omega
  go_enter func220,ntmps220;go_wp2_with fail;go_ret;exact ⟨br _ _,_,rfl,ownsRow_nil _ _ _ _⟩
 have D:∀V,(Builtin.append_ #[22,3] V #[.nl,.i (n:Int)]).run prog w=
  .ok (.slice (some ⟨w.heap.size,0,none⟩) n (grownCap w n 0 3)) (w.drew.alloc (.cells (Builtin.zeroCells (Value.int .i64 0).cells n++Builtin.zeroCells (Value.int .i64 0).cells (grownCap w n 0 3 - n)) 3)):=fun V=>
  Lib.run_append_nil_zeros w _ _ V _ Y (.i 0) .i64 .i64 underlying22 underlying3 O E n (by omega) (by rw [F];omega) (by omega) (by rw [I];omega)
 have N:n<=grownCap w n 0 3:=grownCap_ge w _ _ _;have A:grownCap w n 0 3<=maxLen:=grownCap_le_maxLen w n 0 _ (by unfold maxLen;omega);obtain ⟨G,W⟩:∃G,G=grownCap w n 0 3:=⟨_,rfl⟩;rw [<-W]at D N A;have L:Hid ((w.drew.alloc (.cells (Builtin.zeroCells (Value.int .i64 0).cells n++Builtin.zeroCells (Value.int .i64 0).cells (G - n)) 3)).ownsRow w.heap.size 3 1 (.slice (some ⟨w.heap.size,0,none⟩) 0 G) 0 []):=by refine ownsRow_made w.drew _ G (nlq _) A ?_;simp [Builtin.zeroCells,Value.cells];omega
 have J:Hid (Bl w (w.drew.alloc (.cells (Builtin.zeroCells (Value.int .i64 0).cells n++Builtin.zeroCells (Value.int .i64 0).cells (G - n)) 3))):=(br _ _).drew.alloc (nlq _) _;generalize (Obj.cells (Builtin.zeroCells (Value.int .i64 0).cells n++Builtin.zeroCells (Value.int .i64 0).cells (G - n)) 3)=ob at*;have h1:¬((n:Int)<0):=by omega
 have Z:(0:Int)<n:=by omega
 have X:G<=9223372036854775807:=by unfold maxLen at A;omega
 clear W A;go_enter func220,ntmps220;go_wp2_with (at_builtin;refine Lib.wpList_append_run _ rfl _ _ _ _ rfl _ _ rfl rfl _ _ (D _) ?_);go_ret;exact ⟨J.o,_,rfl,L.o⟩
def uw (ps:List (List Int)):List Int:=ps.flatten
theorem zik (D:k<A.length):uw (A.take (k+1))=uw (A.take k)++A[k]:=by unfold uw;rw [take_succ_eq_append_getElem D,flatten_append];simp
theorem zil:(uw (A.take k)).length<=(uw A).length:=by
 have:(uw A).length=(uw (A.take k)).length+(uw (A.drop k)).length:=by unfold uw;rw [<-length_append,<-flatten_append,take_append_drop]
 omega
theorem zim (hv:SL 1 (la 1 RI) (· <B) w v A) (hB:B<=w.heap.size) (hl:(uw A).length<=500000):
 Calls prog 173 #[v] w fun r w'=>Bl w w'/\∃v',r=.returned v'/\w'.ownsRow w.heap.size 3 1 v' (uw A).length (b8 (uw A)):=by
 have HV:=aj hv;obtain ⟨ao,cl,rfl,-,hm,-⟩:=hv;unfold maxLen at hm;have HL:∀k,(uw (A.take k)).length<=500000:=fun k=>lt3 (zil A k) hl;go_enter func173,ntmps173;go_wp2_with fail;go_loopw [3,11] (fun s i wr=>∃k:Nat,k<=A.length/\i=.i k/\s=.i ((uw (A.take k)).length:Nat)/\w=wr) (fun _ i _=>A.length - (intOf i).toNat)
 case atStart=>exact ⟨0,n0q _,rfl,rfl,rfl⟩
 case round=>
  obtain ⟨k,hk,rfl,rfl,rfl⟩:=hrel;have ah:=HL k;by_cases D:k<A.length
  ·obtain ⟨b,off,a1,c1,rfl,hb,e1,s1⟩:=HV.o.atSl k D;have V:=HL (k+1);rw [zik A k D,length_append]at V;have N:Hid ((uw (A.take (k+1))).length=(uw (A.take k)).length+A[k].length):=by show _=_;rw [zik A k D,length_append]
   have q1:(0:Int)<=k:=by omega
   have q2:(k:Int)<A.length:=by omega
   clear s1;generalize (uw (A.take k)).length=n at*;generalize A[k].length=m at*;have q3:¬((n:Int)+(m:Int)<0):=by omega
   go_wp2_with fail;go_roundw
   case rel=>exact ⟨k+1,by omega,by go_num,by rw [N.o];go_num,trivial⟩
   case measure=>simp [intOf];omega
  have G:k=A.length:=by omega
  rw [G,take_length]at ah ⊢;clear G D hk;have W:=aj (zij w (uw A).length (by omega));go_wp2_with fail;refine W.o.mono ?_;rintro r w1 ⟨O,v1,rfl,E⟩;have Y:Hid (w.heap.size<=w1.heap.size):=O.size;have af:=aj (And.intro E O);obtain ⟨a1,c1,rfl⟩:=ku E;clear E O W;go_wp2_with fail;go_loopw [6,27] (fun u i wr=>∃k:Nat,k<=A.length/\i=.i k/\Hid (wr.ownsRow w.heap.size 3 1 u (uw (A.take k)).length (b8 (uw (A.take k)))/\Bl w wr)) (fun _ i _=>A.length - (intOf i).toNat)
  case atStart=>exact ⟨0,n0q _,rfl,af.o⟩
  case round=>
   obtain ⟨k,hk,rfl,I⟩:=hrel;by_cases D:k<A.length
   ·have ac:=I.o.2.size;have Z:=HV.o.keptSl (Kp.below (I.o.2.mono hB)) (fun _ _ h=>h);obtain ⟨b,off,a2,c2,rfl,hb,e1,s1⟩:=Z.atSl k D;have q1:(0:Int)<=k:=by omega
    have q2:(k:Int)<A.length:=by omega
    have V:=HL (k+1);rw [zik A k D,length_append]at V;have N:=aj (zik A k D);obtain ⟨a3,c3,rfl⟩:=ku I.o.1;have X:=aj I.o.1;have Y:=aj s1;have ad:=aj I.o.2;have ae:Hid ((uw (A.take k)).length+A[k].length<=1000000):=by show _<=_;omega
    clear s1 Z I;generalize hpk:A[k]=pk at*;generalize hpt:(uw (A.take k))=pt at*;clear hpk hpt;go_wp2_with (at_builtin;refine zii _ rfl _ _ rfl w.heap.size (.slice a3 pt.length c3) pt rfl X.o (· <B) (.slice a2 pk.length c2) pk rfl Y.o ae.o ac ?_);intro v' w3 F J;have aa:Bl w w3:=ad.o.grown J ac (fun k e=>(X.o.lt k e).1);have L:Hid (w3.ownsRow w.heap.size 3 1 v' (uw (A.take (k+1))).length (b8 (uw (A.take (k+1))))/\Bl w w3):=by show _/\_;rw [N.o,length_append];exact ⟨F,aa⟩
    clear F J aa;go_wp2_with fail;go_roundw
    case rel=>exact ⟨k+1,by omega,by go_num,L.o⟩
    case measure=>simp [intOf];omega
   have G:k=A.length:=by omega
   have L:=I.o;rw [G,take_length]at L;have L:=aj L;clear I;go_wp2_with fail;go_ret;exact ⟨L.o.2,_,rfl,L.o.1⟩
theorem SL.sub {w:World} {b off n cap:Nat} {l:List Int} (h:SL 1 RI M w (.slice (some ⟨b,off,none⟩) n cap) l) (lo hi:Nat) (h1:lo<=hi) (Y:hi<=l.length):SL 1 RI M w (sliced (some ⟨b,off,none⟩) lo hi cap 1) ((l.take hi).drop lo):=by
 obtain ⟨ao,X,e,hc,Z,E⟩:=h;cases e;have A:((l.take hi).drop lo).length=hi - lo:=by simp;omega
 refine ⟨(if cap=lo then some ⟨b,off,none⟩ else (some (⟨b,off,none⟩:Addr)).map (·.add (lo*1))),cap - lo,?_,by omega,by omega,fun k N=>?_⟩
 ·rw [A];rfl
 rw [A]at N;obtain ⟨W,F,G,e,I,J,O,D,V⟩:=E (lo+k) (by omega);cases e;refine ⟨b,off+lo,G,?_,I,J,O,fun j L=>?_,?_⟩
 ·rw [if_neg (by omega),Option.map_some,zd,Nat.mul_one]
 ·have:=D j L;rw [<-this];congr 1;congr 1;omega
 have:((l.take hi).drop lo)[k]=l[lo+k]:=by simp
 rw [this];exact V
def lj (h:ar):List Int:=h.ab.take 1++((h.ab.take (h.ae+1).toNat).drop h.bk.toNat++h.ab.drop h.be.toNat)
theorem zin (n:Int):Calls prog 175 #[.i n] w fun r w'=>r=.returned (.bool (n != 0))/\Bl w w':=by go_enter func175,ntmps175;go_wp2_with fail;go_ret;exact ⟨rfl,br _ _⟩
theorem zio (hc:qc X B w vW vO kC kS kF kN kT vA h d ts) (hz:na d h):
 Calls prog 113 #[.agg #[.p (X+1)]] w fun r w'=>r=.returned (.bool (!(lj h).any (· != 0)))/\Bl w w':=by
 obtain ⟨D,hW⟩:∃D,D=w.alloc (.cells #[.p (X+1)] 88):=⟨_,rfl⟩;have Z:Bl w D:=hW ▸ (br _ _).alloc (nlq _) _;have a6:D.heap.size=w.heap.size+1:=by rw [hW];simp
 have E:=hc.below Z;have hp:D.cell? ⟨w.heap.size,0,none⟩=some (.p (X+1)):=by rw [hW];simp [go_sem]
 have gl:=bz E.blk;have m0:=bg E.blk 0 (x:=vW) rfl;have m1:=bg E.blk 1 (x:=.i h.ae) rfl;have m3:=bg E.blk 3 (x:=.i h.bk) rfl;have m4:=bg E.blk 4 (x:=.i h.be) rfl;have bm:=hz.ae;have bn:=hz.old;have bo:=hz.len;have bs:=hz.bk;have bu:=hz.be;have HS:=aj E.sW;obtain ⟨aW,W,rfl,bd,bc,a4⟩:=E.sW;obtain ⟨O,Y,cs,rfl,ba,bl,-⟩:=a4 0 (by omega);unfold maxLen at bc;have bj:=hc.le;obtain ⟨G,af⟩:∃s,s=sliced (some ⟨O,Y,none⟩) 0 1 W 1:=⟨_,rfl⟩;obtain ⟨I,ah⟩:∃s,s=sliced (some ⟨O,Y,none⟩) h.bk.toNat (h.ae+1).toNat W 1:=⟨_,rfl⟩;obtain ⟨J,ai⟩:∃s,s=sliced (some ⟨O,Y,none⟩) h.be.toNat h.ab.length W 1:=⟨_,rfl⟩;have r1:∀V,(Instr.slice 22 (.slice (some ⟨O,Y,none⟩) h.ab.length W) none (some (.i 1)) none).run prog V=.ok G V:=fun V=>by rw [af,run_slice_h V 22 _ _ _ underlying22 .i64 1 (by omega) (by omega)];rfl
 have r2:∀V,(Instr.slice 22 (.slice (some ⟨O,Y,none⟩) h.ab.length W) (some (.i h.bk)) (some (.i (h.ae+1))) none).run prog V=.ok I V:=fun V=>by rw [ah,run_slice_lh V 22 _ _ _ underlying22 .i64 .i64 h.bk (h.ae+1) (by omega) (by omega) (by omega)];rfl
 have r3:∀V,(Instr.slice 22 (.slice (some ⟨O,Y,none⟩) h.ab.length W) (some (.i h.be)) none none).run prog V=.ok J V:=fun V=>by rw [ai,run_slice_l V 22 _ _ _ underlying22 .i64 h.be (by omega) (by omega)];rfl
 have t1:SL 1 RI (· <B) D G (h.ab.take 1):=af ▸ HS.o.sub 0 1 (by omega) (by omega);have t2:SL 1 RI (· <B) D I ((h.ab.take (h.ae+1).toNat).drop h.bk.toNat):=ah ▸ HS.o.sub h.bk.toNat (h.ae+1).toNat (by omega) (by omega);have t3:SL 1 RI (· <B) D J (h.ab.drop h.be.toNat):=by have:=HS.o.sub h.be.toNat h.ab.length (by omega) (nlq _);rw [take_length]at this;exact ai ▸ this
 have N:Hid (Bl D (D.drew.alloc (.cells #[G,I,J] 22))):=(br _ _).drew.alloc (nlq _) _;have av:B<=D.heap.size:=by omega
 have an:Hid (Calls prog 173 #[.slice (some ⟨D.heap.size,0,none⟩) 3 3] (D.drew.alloc (.cells #[G,I,J] 22)) fun r w'=>Below (D.drew.alloc (.cells #[G,I,J] 22)).heap.size (D.drew.alloc (.cells #[G,I,J] 22)) w'/\∃v',r=.returned v'/\w'.ownsRow (D.drew.alloc (.cells #[G,I,J] 22)).heap.size 3 1 v' (lj h).length (b8 (lj h))):=by
  have hk:=Kp.below (N.o.mono av);have F:(D.drew.alloc (.cells #[G,I,J] 22)).heap[D.heap.size]? =some (.cells #[G,I,J] 22 (0,0)):=heap_alloc_new D.drew _;have ac:=bz F;have ak:SL 1 (la 1 RI) (· <D.heap.size+1) (D.drew.alloc (.cells #[G,I,J] 22)) (.slice (some ⟨D.heap.size,0,none⟩) 3 3) [h.ab.take 1,(h.ab.take (h.ae+1).toNat).drop h.bk.toNat,h.ab.drop h.be.toNat]:=by
   refine ⟨_,3,rfl,by simp,by unfold maxLen;simp,fun k bb=>?_⟩;have ad:∀b,b<B->b<D.heap.size+1:=fun b hb=>by omega
   match k,bb with
   | 0,_=>exact ⟨_,_,[G],rfl,Nat.lt_succ_self _,ac,rfl,(fun j hj=>by rw [Nat.lt_one_iff.1 hj];exact bg F 0 rfl),G,rfl,(t1.keptI hk).monoI ad⟩
   | 1,_=>exact ⟨_,_,[I],rfl,Nat.lt_succ_self _,ac,rfl,(fun j hj=>by rw [Nat.lt_one_iff.1 hj];exact bg F 1 rfl),I,rfl,(t2.keptI hk).monoI ad⟩
   | 2,_=>exact ⟨_,_,[J],rfl,Nat.lt_succ_self _,ac,rfl,(fun j hj=>by rw [Nat.lt_one_iff.1 hj];exact bg F 2 rfl),J,rfl,(t3.keptI hk).monoI ad⟩
  have a5:uw [h.ab.take 1,(h.ab.take (h.ae+1).toNat).drop h.bk.toNat,h.ab.drop h.be.toNat]=lj h:=by simp [lj,uw]
  have:=zim (D.drew.alloc (.cells #[G,I,J] 22)) (D.heap.size+1) _ _ ak (by omega) (by rw [a5];simp [lj];omega);rw [a5]at this;exact this
 have wy:IntKind.i64.wrap (h.ae+1)=h.ae+1:=gw _ (by omega) (by omega);have al:=aj Z;have HW:=aj hW;have a9:Hid ((lj h).length<=1000000):=by show (lj h).length<=1000000;simp [lj];omega
 obtain ⟨a1,n1,c1,e1⟩:∃a n c,G=.slice a n c:=by obtain ⟨a,c,e,-⟩:=t1;exact ⟨a,_,c,e⟩
 obtain ⟨a2,n2,c2,e2⟩:∃a n c,I=.slice a n c:=by obtain ⟨a,c,e,-⟩:=t2;exact ⟨a,_,c,e⟩
 obtain ⟨a3,n3,c3,e3⟩:∃a n c,J=.slice a n c:=by obtain ⟨a,c,e,-⟩:=t3;exact ⟨a,_,c,e⟩
 have bf:=aj a6;have lw:w.heap.size<D.heap.size:=by omega
 clear a6;clear hc E Z a4 t1 t2 t3 af ah ai HS hz hW ba;subst e1 e2 e3;generalize lj h=rl at*;obtain ⟨b,hb⟩:∃b,(rl.any (· != 0))=b:=⟨_,rfl⟩;rw [hb];have a8:=aj hb;clear hb;go_enter func113,ntmps113;go_wp2_with fail;rw [<-HW.o];refine wp_region_held_drew (S:=fun W'=>∀p:Addr,p.block<D.heap.size->W'.cell? p=D.cell? p) (by kernel_rfl) (fun p hp=>rfl) fun A=>?_;refine ta 0 (.p w.heap.size) rfl A ?_;refine ta 1 (.p (X+1)) rfl A ?_;refine ta 2 (.p (X+1)) rfl A ?_;refine ta 3 (.p (X+1)) rfl A ?_;refine ta 4 (.p (X+1)) rfl A ?_;refine ta 5 (.p (X+1)) rfl A ?_;refine ta 6 (.slice (some ⟨O,Y,none⟩) h.ab.length W) rfl A ?_;refine ta 7 (.slice a1 n1 c1) rfl A ?_;refine ta 8 (.p w.heap.size) rfl A ?_;refine ta 9 (.p (X+1)) rfl A ?_;refine ta 10 (.p (X+1)) rfl A ?_;refine ta 11 (.p (X+1)) rfl A ?_;refine ta 12 (.p (X+1)) rfl A ?_;refine ta 13 (.p (X+1)) rfl A ?_;refine ta 14 (.slice (some ⟨O,Y,none⟩) h.ab.length W) rfl A ?_;refine ta 15 (.p w.heap.size) rfl A ?_;refine ta 16 (.p (X+1)) rfl A ?_;refine ta 17 (.p (X+1)) rfl A ?_;refine ta 18 (.p (X+1)) rfl A ?_;refine ta 19 (.p (X+1)) rfl A ?_;refine ta 20 (.pointer (some ⟨X+1,3,none⟩)) rfl A ?_;refine ta 21 (.i h.bk) rfl A ?_;refine ta 22 (.p w.heap.size) rfl A ?_;refine ta 23 (.p (X+1)) rfl A ?_;refine ta 24 (.p (X+1)) rfl A ?_;refine ta 25 (.p (X+1)) rfl A ?_;refine ta 26 (.p (X+1)) rfl A ?_;refine ta 27 (.pointer (some ⟨X+1,1,none⟩)) rfl A ?_;refine ta 28 (.i h.ae) rfl A ?_;refine ta 29 (.i (h.ae+1)) rfl A ?_;refine ta 30 (.slice a2 n2 c2) rfl A ?_;refine ta 31 (.p w.heap.size) rfl A ?_;refine ta 32 (.p (X+1)) rfl A ?_;refine ta 33 (.p (X+1)) rfl A ?_;refine ta 34 (.p (X+1)) rfl A ?_;refine ta 35 (.p (X+1)) rfl A ?_;refine ta 36 (.p (X+1)) rfl A ?_;refine ta 37 (.slice (some ⟨O,Y,none⟩) h.ab.length W) rfl A ?_;refine ta 38 (.p w.heap.size) rfl A ?_;refine ta 39 (.p (X+1)) rfl A ?_;refine ta 40 (.p (X+1)) rfl A ?_;refine ta 41 (.p (X+1)) rfl A ?_;refine ta 42 (.p (X+1)) rfl A ?_;refine ta 43 (.pointer (some ⟨X+1,4,none⟩)) rfl A ?_;refine ta 44 (.i h.be) rfl A ?_;refine ta 45 (.slice a3 n3 c3) rfl A ?_;refine wpAnyH_ready (rs:=[46]) (by kernel_rfl) (by simp) ?_;refine AllReadyH.cons rfl (fun bh aw=>?_) AllReadyH.nil;go_simp;refine aw.o _ _ (fun p hp=>Below.cell (B:=D.heap.size) (w:=D) ((br _ _).drew.alloc (nlq _) _) hp) fun A=>?_;refine wpAnyH_ready (rs:=[47]) (by kernel_rfl) (by simp) ?_;refine AllReadyH.cons rfl (fun bi ay=>?_) AllReadyH.nil;go_simp;refine an.o.mono ?_;rintro r w3 ⟨az,v3,rfl,L⟩;have aa:Bl D w3:=N.o.trans (az.mono N.o.size);refine ay.o _ _ (fun p hp=>aa.cell hp) fun A=>?_;refine ta 48 (v3) rfl A ?_;refine wpAnyH_done (by kernel_rfl) ?_ _;clear A;simp only [Act.put,p1q,p4q,p3q,p2q,p5q,p6q];have am:Hid (Bl w w3):=al.o.trans (aa.mono al.o.size);have au:Hid (Calls prog 174 #[v3,.func (.func 175) #[] #[]] w3 fun r w'=>r=.returned (.bool b)/\Bl w3 w'):=by rw [<-a8.o];have ak:=(rg L a9.o).monoI (M':=(· <w3.heap.size)) fun k hk=>hk.lt;refine zhp w3 w3.heap.size v3 rl ak (nlq _) 175 #[] #[] (· != 0) (fun args w=>by kernel_rfl) ?_;intro x hx V hV;exact zin V x
 clear az aa L m0 m1 m3 m4 r1 r2 r3 an N hp;go_wp2_with fail;refine au.o.mono ?_;rintro r w5 ⟨rfl,a0⟩;have a7:Hid (Bl w w5):=am.o.trans (a0.mono am.o.size);clear a0 au;go_wp2_with fail;go_ret;exact ⟨rfl,a7.o⟩
end
end Go.Proofs.YtjdnmblggdobgaaGreat
