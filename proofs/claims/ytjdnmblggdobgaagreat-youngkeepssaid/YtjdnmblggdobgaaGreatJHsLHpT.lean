import Derived.Test.YtjdnmblggdobgaaGreatChecked
import Derived.Ground.Names2Prog
import Derived.Shelf.Lays2
import Derived.Test.YtjdnmblggdobgaaGreatJHpQHpU
import Derived.Shelf.Slices.SearchI
import Derived.Shelf.Slices.Empties
import Derived.Test.YtjdnmblggdobgaaGreatJTk2Dies
import Derived.Test.YtjdnmblggdobgaaGreatJLNoneLSaD
import Derived.Lib.AppendZeros
set_option maxHeartbeats 4000000
set_option maxRecDepth 100000
namespace Go.Proofs.YtjdnmblggdobgaaGreat
open Go.Shelf
def Tryz.laysSearch_ren:Go.Shelf.Ren:=⟨fun | 25=>180 | 31=>222 | 32=>223 | 37=>195 | n=>n,fun | 22=>22 | 3=>3 | 4=>4 | 40=>254 | 0=>0 | n=>n,fun | n=>n⟩
theorem Tryz.laysSearch:Go.Proofs.Lays2.n25 Tryz.prog Tryz.laysSearch_ren:={
 mixed:=by kernel_rfl
 f25:=Tryz.func180.trans (congrArg some (by kernel_rfl))
 f31:=Tryz.func222.trans (congrArg some (by kernel_rfl))
 f32:=Tryz.func223.trans (congrArg some (by kernel_rfl))
 f37:=Tryz.func195.trans (congrArg some (by kernel_rfl))
 t0:=Tryz.underlying0
 a0:=Tryz.isAgg0
 z0:=Tryz.sizeOf0
 v0:=Tryz.zeroValue0
 t3:=Tryz.underlying3
 a3:=Tryz.isAgg3
 z3:=Tryz.sizeOf3
 v3:=Tryz.zeroValue3
 t4:=Tryz.underlying4
 a4:=Tryz.isAgg4
 z4:=Tryz.sizeOf4
 v4:=Tryz.zeroValue4
 t22:=Tryz.underlying22
 a22:=Tryz.isAgg22
 z22:=Tryz.sizeOf22
 v22:=Tryz.zeroValue22
 t40:=Tryz.underlying254
 a40:=Tryz.isAgg254
 z40:=Tryz.sizeOf254
 v40:=Tryz.zeroValue254 }
end Go.Proofs.YtjdnmblggdobgaaGreat
namespace Go.Proofs.YtjdnmblggdobgaaGreat
open Go.RowKit Go.Maps Go.Shelf Go.Lib
theorem zil (w:World) (B:Nat) (v:Value) (l:List Int) (E:SL 1 RI (· <B) w v l) (O:l.length<=1000000) (L:l.Pairwise (· <= ·)) (x:Int):
 Calls Tryz.prog 180 #[v,.int .i64 x] w fun r w'=>(∃k:Nat,r=.returned (.tuple #[.int .i64 (k:Int),.bool (l.contains x)]))/\∃q,w'=w.drewN q:=by
 have A:=ae E;obtain ⟨G,cap,rfl,-⟩:=E;cases l with
 | nil=>
   refine (Any.slices_BinarySearch_int_empty Tryz.laysSearch G cap x w).mono ?_;rintro r w' ⟨rfl,rfl⟩;exact ⟨⟨0,rfl⟩,0,rfl⟩
 | cons y l=>
   obtain ⟨b,off,rfl,-,-⟩:=A.o.atI 0 (by simp);have:=Any.slices_BinarySearch_int Tryz.laysSearch b off (y::l).length cap (y::l) x w (nlq _) (by omega) (fun j D=>by
    obtain ⟨N,F,e,-,I⟩:=A.o.atI j D;cases e;rw [I,List.getD_eq_getElem?_getD,List.getElem?_eq_getElem D];rfl) (by rw [List.take_length];exact L)
   rw [List.take_length]at this;refine this.mono ?_;rintro r w' ⟨rfl,J⟩;exact ⟨⟨_,rfl⟩,J⟩
end Go.Proofs.YtjdnmblggdobgaaGreat
namespace Go.Proofs.YtjdnmblggdobgaaGreat
open Go.RowKit Go.Maps
def iq (d:bd) (h:bb) (x:bp):Bool:=decide (h.ag<x.loc)&& !h.am.contains x.loc&&gc d.fields h.ab x (dp h)
theorem zim {l:List Int} (h:kg l l.length):l.Pairwise (· <= ·):=by
 have key:∀(b a:Nat),a<=b->b<l.length->wd l a<=wd l b:=by
  intro b;induction b with
  | zero=>intro a E _;rw [show a=0 by omega];exact Int.le_refl _
  | succ b ih=>
    intro a E F;by_cases e:a=b+1
    ·subst e;exact Int.le_refl _
    have h1:=ih a (by omega) (by omega);have D:=h (b+1) (by omega) F;rw [show ((b+1:Nat):Int) - 1=(b:Int) by omega]at D;omega
 rw [List.pairwise_iff_getElem];intro i j G A I;have:=key j i (by omega) A;rwa [mw G,mw A]at this
theorem zin (W:World) (X B:Nat) (vW vO kC kS kF kN kT vA:Value) (h:bb) (d:bd) (ts:List bp) (hc:mc X B W vW vO kC kS kF kN kT vA h d ts) (hl:Lain d h ts) (a1:h.am.length<=1000000) (av:kg h.am h.am.length) (P:Nat) (hP:W.cell? ⟨P,0,none⟩=some (.pointer (some ⟨X+1,0,none⟩))) (x:bp) (hx:x∈ts):
 Calls Tryz.prog 179 #[.agg #[.int .i64 x.loc,.int .i64 x.tag,.int .i64 x.len,.int .i64 x.hash],.pointer (some ⟨P,0,none⟩)] W fun r W'=>r=.returned (.bool (iq d h x))/\Below W.heap.size W W':=by
 have ay:P<W.heap.size:=World.block_lt_of_cell? W _ hP;obtain ⟨F,hW⟩:∃F,F=W.alloc (.cells #[.int .i64 x.loc,.int .i64 x.tag,.int .i64 x.len,.int .i64 x.hash] 101):=⟨_,rfl⟩;have N:Below W.heap.size W F:=hW ▸ (br _ _).alloc (nlq _) _;have aa:F.heap[W.heap.size]? =some (.cells #[.int .i64 x.loc,.int .i64 x.tag,.int .i64 x.len,.int .i64 x.hash] 101 (0,0)):=hW ▸ heap_alloc_new W _;have I:=hc.below N;have ad:Hid (∀V,Below F.heap.size F V->Calls Tryz.prog 180 #[vO,.int .i64 x.loc] V fun r w'=>(∃k:Nat,r=.returned (.tuple #[.int .i64 (k:Int),.bool (h.am.contains x.loc)]))/\Below V.heap.size V w'):=fun V hV=>(zil V B vO h.am (I.below hV).sO a1 (zim av) x.loc).mono fun r w' ⟨hk,q,hq⟩=>⟨hk,hq ▸ ku (br _ _) q⟩;have gl:=bk I.blk;have m5:=aw I.blk 5 (x:=vO) rfl;have b0:=aw aa 0 (x:=.int .i64 x.loc) rfl;have p0:F.cell? ⟨P,0,none⟩=some (.pointer (some ⟨X+1,0,none⟩)):=(N.cell (p:=⟨P,0,none⟩) ay).trans hP;have lb:=bk aa;obtain ⟨aO,cO,rfl,-⟩:=I.sO;obtain ⟨hf,h1,h2⟩:=hl.fit x hx;have HL:=ae (And.intro hl.ab (And.intro hf (And.intro h1 h2)));have L:Hid (iq d h x=(decide (h.ag<x.loc)&& !h.am.contains x.loc&&gc d.fields h.ab x (dp h))):=rfl;have ah:=ae I;have ac:=ae N;have af:=ae aa;have HW:=ae hW;have aj:=ae p0;have a2:P<F.heap.size:=by have:=N.size;omega
 clear hc I hl hP N aa hW hf h1 h2 hx av;go_enter Tryz.func179,Tryz.ntmps179;go_wp2_with fail;rw [<-HW.o];generalize h.am.contains x.loc=ct at*;refine wp_region_held_drew (S:=fun W'=>∀p:Addr,p.block<F.heap.size->W'.cell? p=F.cell? p) (by kernel_rfl) (fun p Y=>rfl) fun A=>?_;refine ta 0 (.pointer (some ⟨P,0,none⟩)) rfl A ?_;refine ta 1 (.pointer (some ⟨X+1,0,none⟩)) rfl A ?_;refine ta 2 (.pointer (some ⟨X+1,0,none⟩)) rfl A ?_;refine ta 3 (.pointer (some ⟨X+1,0,none⟩)) rfl A ?_;refine ta 4 (.pointer (some ⟨X+1,0,none⟩)) rfl A ?_;refine ta 5 (.pointer (some ⟨X+1,5,none⟩)) rfl A ?_;refine ta 6 (.slice aO h.am.length cO) rfl A ?_;refine ta 7 (.pointer (some ⟨W.heap.size,0,none⟩)) rfl A ?_;refine ta 8 (.int .i64 x.loc) rfl A ?_;refine wpAnyH_ready (rs:=[9]) (by kernel_rfl) (by simp) ?_;refine AllReadyH.cons rfl (fun K9 an=>?_) AllReadyH.nil;go_simp;refine (ad.o _ (br _ _).drew).mono ?_;rintro r D ⟨⟨kk,rfl⟩,ao⟩;have E:Below F.heap.size F D:=(br F.heap.size F).drew.trans ao;refine an.o _ _ (fun p Y=>E.cell Y) fun A=>?_;refine ta 10 (.tuple #[.int .i64 (kk:Int),.bool ct]) rfl A ?_;refine ta 11 (.int .i64 (kk:Int)) rfl A ?_;refine ta 12 (.bool ct) rfl A ?_;refine ta 13 (.int .i64 (kk:Int)) rfl A ?_;refine ta 14 (.bool ct) rfl A ?_;refine wpAnyH_done (by kernel_rfl) ?_ _;clear A;simp only [Act.put,p1q,p4q,p3q,p2q,p5q,p6q];have a7:=E.size;have p2:=(E.cell (p:=⟨P,0,none⟩) (by show P<_;omega)).trans aj.o;have G:=(E.block W.heap.size lb).trans af.o;have s0:=aw G 0 (x:=.int .i64 x.loc) rfl;have s1:=aw G 1 (x:=.int .i64 x.tag) rfl;have s2:=aw G 2 (x:=.int .i64 x.len) rfl;have s3:=aw G 3 (x:=.int .i64 x.hash) rfl;have l8:=bk G;have g2:X+1<D.heap.size:=by omega
 have a6:P<D.heap.size:=by omega
 have ai:=ae (ah.o.below E);have Z:Hid (Below W.heap.size W D):=ac.o.trans (E.mono ac.o.size);have J:Hid (∀V,Below D.heap.size D V->Calls Tryz.prog 177 #[.pointer (some ⟨X+1,0,none⟩),.int .i64 x.loc] V fun r w'=>r=.returned (.bool (decide (h.ag<x.loc)))/\w'=V):=fun V hV=>zez V B (X+1) _ _ _ _ _ _ _ h d (ai.o.below hV).gd x.loc;have ax:Hid (∀V,Below D.heap.size D V->Calls Tryz.prog 172 #[.pointer (some ⟨X+1,0,none⟩),.agg #[.int .i64 x.loc,.int .i64 x.tag,.int .i64 x.len,.int .i64 x.hash],.func (.func 153) #[.pointer (some ⟨X+1,0,none⟩)] #[]] V fun r w'=>r=.returned (.bool (gc d.fields h.ab x (dp h)))/\Below V.heap.size V w'):=fun V hV=>by have au:=ai.o.below hV;refine zh3 V B (X+1) _ _ _ _ _ _ _ h d au.gd x HL.o.2.1 HL.o.2.2.1 HL.o.2.2.2 HL.o.1 153 _ _ (dp h) (fun args w=>by kernel_rfl) ?_;intro a ha V2 az;exact (ze0 V2 B (X+1) _ _ _ _ _ _ _ h d (au.below az).gd _).mono fun r w' ⟨e1,e2⟩=>⟨e1,e2 ▸ br _ _⟩
 have a5:=mm Tryz.prog;generalize gc d.fields h.ab x (dp h)=hr at*;clear E G ah ac af aj ad b0 p0 m5 ao an;by_cases hy:h.ag<x.loc
 ·have hd:decide (h.ag<x.loc)=true:=by simp [hy]
  rw [hd]at J L;cases ct with
  | true=>
    go_wp2_with fail;refine wp_region_held_drew (S:=fun W'=>∀p:Addr,p.block<D.heap.size->W'.cell? p=D.cell? p) (by kernel_rfl) (fun p Y=>rfl) fun A=>?_;refine ta 0 (.pointer (some ⟨P,0,none⟩)) rfl A ?_;refine ta 1 (.pointer (some ⟨X+1,0,none⟩)) rfl A ?_;refine ta 2 (.pointer (some ⟨X+1,0,none⟩)) rfl A ?_;refine ta 3 (.pointer (some ⟨X+1,0,none⟩)) rfl A ?_;refine ta 4 (.pointer (some ⟨W.heap.size,0,none⟩)) rfl A ?_;refine ta 5 (.int .i64 x.loc) rfl A ?_;refine wpAnyH_ready (rs:=[6]) (by kernel_rfl) (by simp) ?_;refine AllReadyH.cons rfl (fun K6 O=>?_) AllReadyH.nil;go_simp;refine (J.o _ (br _ _).drew).mono ?_;rintro r _ ⟨rfl,rfl⟩;refine O.o _ _ (fun p Y=>rfl) fun A=>?_;refine ta 7 (.bool true) rfl A ?_;refine ta 8 (.bool true) rfl A ?_;refine ta 9 (.bool false) rfl A ?_;refine ta 10 (.bool false) rfl A ?_;refine ta 11 (.bool false) rfl A ?_;refine lq 12 rfl A ?_;refine lq 13 rfl A ?_;refine lq 14 rfl A ?_;refine lq 15 rfl A ?_;refine lq 16 rfl A ?_;refine lq 17 rfl A ?_;refine lq 18 rfl A ?_;refine lq 19 rfl A ?_;refine lq 20 rfl A ?_;refine lq 21 rfl A ?_;refine lq 22 rfl A ?_;refine ta 23 (.bool false) rfl A ?_;refine ta 24 (.bool false) rfl A ?_;refine wpAnyH_done (by kernel_rfl) ?_ _;clear A;simp only [Act.put,p1q,p4q,p3q,p2q,p5q,p6q];go_wp2_with fail;go_ret;exact ⟨by rw [L.o];rfl,Z.o.drew⟩
  | false=>
    go_wp2_with fail;refine wp_region_held_drew (S:=fun W'=>∀p:Addr,p.block<D.heap.size->W'.cell? p=D.cell? p) (by kernel_rfl) (fun p Y=>rfl) fun A=>?_;refine ta 0 (.pointer (some ⟨P,0,none⟩)) rfl A ?_;refine ta 1 (.pointer (some ⟨X+1,0,none⟩)) rfl A ?_;refine ta 2 (.pointer (some ⟨X+1,0,none⟩)) rfl A ?_;refine ta 3 (.pointer (some ⟨X+1,0,none⟩)) rfl A ?_;refine ta 4 (.pointer (some ⟨W.heap.size,0,none⟩)) rfl A ?_;refine ta 5 (.int .i64 x.loc) rfl A ?_;refine wpAnyH_ready (rs:=[6]) (by kernel_rfl) (by simp) ?_;refine AllReadyH.cons rfl (fun K6 O=>?_) AllReadyH.nil;go_simp;refine (J.o _ (br _ _).drew).mono ?_;rintro r _ ⟨rfl,rfl⟩;refine O.o _ _ (fun p Y=>rfl) fun A=>?_;refine ta 7 (.bool true) rfl A ?_;refine ta 8 (.bool false) rfl A ?_;refine ta 9 (.bool true) rfl A ?_;refine ta 10 (.bool true) rfl A ?_;refine ta 11 (.bool true) rfl A ?_;refine ta 12 (.pointer (some ⟨P,0,none⟩)) rfl A ?_;refine ta 13 (.pointer (some ⟨X+1,0,none⟩)) rfl A ?_;refine ta 14 (.pointer (some ⟨X+1,0,none⟩)) rfl A ?_;refine ta 15 (.pointer (some ⟨X+1,0,none⟩)) rfl A ?_;refine ta 16 (.agg #[.int .i64 x.loc,.int .i64 x.tag,.int .i64 x.len,.int .i64 x.hash]) rfl A ?_;refine ta 17 (.pointer (some ⟨P,0,none⟩)) rfl A ?_;refine ta 18 (.pointer (some ⟨X+1,0,none⟩)) rfl A ?_;refine ta 19 (.pointer (some ⟨X+1,0,none⟩)) rfl A ?_;refine ta 20 (.pointer (some ⟨X+1,0,none⟩)) rfl A ?_;refine wpAnyH_ready (rs:=[21]) (by kernel_rfl) (by simp) ?_;refine AllReadyH.cons rfl (fun a3 ak=>?_) AllReadyH.nil;go_simp;refine ak.o _ _ (fun p Y=>rfl) fun A=>?_;refine wpAnyH_ready (rs:=[22]) (by kernel_rfl) (by simp) ?_;refine AllReadyH.cons rfl (fun a4 al=>?_) AllReadyH.nil;go_simp;refine (ax.o _ (br _ _).drew).mono ?_;rintro r w5 ⟨rfl,a0⟩;have aq:Below D.heap.size D w5:=(br D.heap.size D).drew.trans a0;refine al.o _ _ (fun p Y=>aq.cell Y) fun A=>?_;refine ta 23 (.bool hr) rfl A ?_;refine ta 24 (.bool hr) rfl A ?_;refine wpAnyH_done (by kernel_rfl) ?_ _;clear A;simp only [Act.put,p1q,p4q,p3q,p2q,p5q,p6q];go_wp2_with fail;go_ret;exact ⟨by rw [L.o];rfl,Z.o.trans (aq.mono Z.o.size)⟩
 have hd:decide (h.ag<x.loc)=false:=by simp [hy]
 rw [hd]at J L;go_wp2_with fail;refine wp_region_held_drew (S:=fun W'=>∀p:Addr,p.block<D.heap.size->W'.cell? p=D.cell? p) (by kernel_rfl) (fun p Y=>rfl) fun A=>?_;refine ta 0 (.pointer (some ⟨P,0,none⟩)) rfl A ?_;refine ta 1 (.pointer (some ⟨X+1,0,none⟩)) rfl A ?_;refine ta 2 (.pointer (some ⟨X+1,0,none⟩)) rfl A ?_;refine ta 3 (.pointer (some ⟨X+1,0,none⟩)) rfl A ?_;refine ta 4 (.pointer (some ⟨W.heap.size,0,none⟩)) rfl A ?_;refine ta 5 (.int .i64 x.loc) rfl A ?_;refine wpAnyH_ready (rs:=[6]) (by kernel_rfl) (by simp) ?_;refine AllReadyH.cons rfl (fun K6 O=>?_) AllReadyH.nil;go_simp;refine (J.o _ (br _ _).drew).mono ?_;rintro r _ ⟨rfl,rfl⟩;refine O.o _ _ (fun p Y=>rfl) fun A=>?_;refine ta 7 (.bool false) rfl A ?_;refine lq 8 rfl A ?_;refine lq 9 rfl A ?_;refine ta 10 (.bool false) rfl A ?_;refine ta 11 (.bool false) rfl A ?_;refine lq 12 rfl A ?_;refine lq 13 rfl A ?_;refine lq 14 rfl A ?_;refine lq 15 rfl A ?_;refine lq 16 rfl A ?_;refine lq 17 rfl A ?_;refine lq 18 rfl A ?_;refine lq 19 rfl A ?_;refine lq 20 rfl A ?_;refine lq 21 rfl A ?_;refine lq 22 rfl A ?_;refine ta 23 (.bool false) rfl A ?_;refine ta 24 (.bool false) rfl A ?_;refine wpAnyH_done (by kernel_rfl) ?_ _;clear A;simp only [Act.put,p1q,p4q,p3q,p2q,p5q,p6q];go_wp2_with fail;go_ret;exact ⟨by rw [L.o];rfl,Z.o.drew⟩
theorem zio (w:World) (X B:Nat) (vW vO kC kS kF kN kT N:Value) (h:bb) (d:bd) (ts:List bp) (hc:mc X B w vW vO kC kS kF kN kT N h d ts) (W:Lain d h ts) (Y:h.am.length<=1000000) (L:kg h.am h.am.length):
 Calls Tryz.prog 116 #[.agg #[.pointer (some ⟨X+1,0,none⟩)]] w fun r w'=>r=.returned (.bool (!ts.any (iq d h)))/\Below w.heap.size w w':=by
 have aa:=mm Tryz.prog;obtain ⟨D,J⟩:∃D,D=w.alloc (.cells #[.pointer (some ⟨X+1,0,none⟩)] 88):=⟨_,rfl⟩;have F:Below w.heap.size w D:=J ▸ (br _ _).alloc (nlq _) _;have ac:D.heap.size=w.heap.size+1:=by rw [J];simp
 have A:=hc.below F;have hp:D.cell? ⟨w.heap.size,0,none⟩=some (.pointer (some ⟨X+1,0,none⟩)):=by rw [J];simp [go_sem]
 have E:Hid (Calls Tryz.prog 168 #[N,.func (.func 179) #[] #[.pointer (some ⟨w.heap.size,0,none⟩)]] D fun r w'=>r=.returned (.bool (ts.any (iq d h)))/\Below D.heap.size D w'):=by refine zh0 _ _ N ts (A.all W.len) (nlq _) 179 #[] _ (iq d h) (fun args w=>by kernel_rfl) ?_;intro x hx V hV;exact zin V X B _ _ _ _ _ _ _ N h d ts (A.below hV) W Y L w.heap.size ((hV.cell (p:=⟨w.heap.size,0,none⟩) (by show w.heap.size<_;omega)).trans hp) x hx
 have gl:=bk A.blk;have Z:=aw A.blk 12 (x:=N) rfl;have I:=ae F;obtain ⟨a,q,rfl⟩:=hc.len;rw [J]at E Z gl;clear hc A F hp W L;generalize ts.any (iq d h)=b at*;go_enter Tryz.func116,Tryz.ntmps116;go_wp2_with fail;refine E.o.mono ?_;rintro r w1 ⟨rfl,G⟩;rw [<-J]at G;have O:Hid (Below w.heap.size w w1):=I.o.trans (G.mono I.o.size);clear G E;go_wp2_with fail;go_ret;exact ⟨rfl,O.o⟩
theorem ziq (l m:List Int):b8 (l++m)=b8 l++b8 m:=by simp [b8]
theorem zir (l:List Int):(b8 l).length=l.length:=by simp [b8]
theorem SL.b8 {M:Nat->Prop} {w:World} {b off len cap:Nat} {l:List Int} (h:SL 1 RI M w (.slice (some ⟨b,off,none⟩) len cap) l):∀j u,(b8 l)[j]? =some u->w.cell? ((⟨b,off,none⟩:Addr).add j)=some u:=by
 intro j u A;have D:j<l.length:=by rw [<-zir l];exact (List.getElem?_eq_some_iff.1 A).1
 obtain ⟨G,E,e,-,F⟩:=h.atI j D;cases e;have:u=.int .i64 l[j]:=by rw [Go.Proofs.YtjdnmblggdobgaaGreat.b8,List.getElem?_map,List.getElem?_eq_getElem D]at A;exact (ojq A).symm
 rw [this,zg1];exact F
theorem zis {ops:Array Oper} {rest:List Oper} {o:Oper} {a:Act} {Q:Exit->Act->World->Prop} (w:World) (F:o.guard=none) (s x:Operand)
 (X:o.op=.call { callee:=.builtin .append,args:=#[s,x],argTypes:=#[22,22] }) (A:Nat) (v:Value) (xs:List Int) (Y:a.eval s=v) (D:w.ownsRow A 3 1 v xs.length (b8 xs))
 (M:Nat->Prop) (u:Value) (l:List Int) (Z:a.eval x=u) (O:SL 1 RI M w u l) (hb:xs.length+l.length<=1000000) (E:A<=w.heap.size)
 (h:∀v' w',w'.ownsRow A 3 1 v' (xs++l).length (b8 (xs++l))->w.grownBy w' v.ownBlock->wpList Tryz.prog ops Q rest (a.put o.dst v') w'):wpList Tryz.prog ops Q (o::rest) a w:=by
 obtain ⟨iI,G,J,L,N⟩:=info_parts Tryz.infoInt;have HU:=O;obtain ⟨ao,W,rfl,-,-,V⟩:=O;cases l with
 | nil=>
   obtain ⟨av,cv,rfl⟩:=kh D;have I:=zga D;refine zf9 w F s x 22 X 3 iI Tryz.underlying22 G av xs.length cv Y I.1 I.2 ao W Z ?_;exact h _ _ (by simpa using D) (World.grownBy.refl _ _)
 | cons y l=>
   obtain ⟨b,off,cs,e,-⟩:=V 0 (by simp);subst e;refine wpList_append_lies w F s x 22 X A 3 iI (.int .i64 0) 1 8 Tryz.underlying22 G J L N rfl (by decide) v xs.length (b8 xs) Y D ⟨b,off,none⟩ (y::l).length W (b8 (y::l)) Z (by rw [zir];simp) HU.b8 (by
    intro u O;obtain ⟨z,-,rfl⟩:=List.mem_map.1 O;rfl) (by simp) (by unfold maxLen;omega) (by omega) E w.heap.size rfl ?_
   intro g cap w' h1 h2 _ _;refine h _ _ ?_ h2;rw [ziq,List.length_append];exact h1
theorem zit (w:World) (n:Nat) (hn:n<=1000000):
 Calls Tryz.prog 220 #[.slice none 0 0,.int .i64 (n:Int)] w fun r w'=>Below w.heap.size w w'/\∃v,r=.returned v/\w'.ownsRow w.heap.size 3 1 v 0 []:=by
 obtain ⟨Y,O,E,F,I⟩:=info_parts Tryz.infoInt;by_cases h0:n=0
 ·subst h0;have h1:¬((0:Int)<0):=by omega
  go_enter Tryz.func220,Tryz.ntmps220;go_wp2_with fail;go_ret;exact ⟨br _ _,_,rfl,World.ownsRow_nil _ _ _ _⟩
 have D:∀V,(Builtin.append_ #[22,3] V #[.slice none 0 0,.int .i64 (n:Int)]).run Tryz.prog w=
  .ok (.slice (some ⟨w.heap.size,0,none⟩) n (grownCap w n 0 3)) (w.drew.alloc (.cells (Builtin.zeroCells (Value.int .i64 0).cells n++Builtin.zeroCells (Value.int .i64 0).cells (grownCap w n 0 3 - n)) 3)):=fun V=>
  Lib.run_append_nil_zeros w _ _ V _ Y (.int .i64 0) .i64 .i64 Tryz.underlying22 Tryz.underlying3 O E n (by omega) (by rw [F];omega) (by omega) (by rw [I];omega)
 have N:n<=grownCap w n 0 3:=grownCap_ge w _ _ _;have A:grownCap w n 0 3<=maxLen:=grownCap_le_maxLen w n 0 _ (by unfold maxLen;omega);obtain ⟨G,W⟩:∃G,G=grownCap w n 0 3:=⟨_,rfl⟩;rw [<-W]at D N A;have L:Hid ((w.drew.alloc (.cells (Builtin.zeroCells (Value.int .i64 0).cells n++Builtin.zeroCells (Value.int .i64 0).cells (G - n)) 3)).ownsRow w.heap.size 3 1 (.slice (some ⟨w.heap.size,0,none⟩) 0 G) 0 []):=by refine World.ownsRow_made w.drew _ G (nlq _) A ?_;simp [Builtin.zeroCells,Value.cells];omega
 have J:Hid (Below w.heap.size w (w.drew.alloc (.cells (Builtin.zeroCells (Value.int .i64 0).cells n++Builtin.zeroCells (Value.int .i64 0).cells (G - n)) 3))):=(br _ _).drew.alloc (nlq _) _;generalize (Obj.cells (Builtin.zeroCells (Value.int .i64 0).cells n++Builtin.zeroCells (Value.int .i64 0).cells (G - n)) 3)=ob at*;have h1:¬((n:Int)<0):=by omega
 have Z:(0:Int)<n:=by omega
 have X:G<=9223372036854775807:=by unfold maxLen at A;omega
 clear W A;go_enter Tryz.func220,Tryz.ntmps220;go_wp2_with (at_builtin;refine Lib.wpList_append_run _ rfl _ _ _ _ rfl _ _ rfl rfl _ _ (D _) ?_);go_ret;exact ⟨J.o,_,rfl,L.o⟩
def cat (ps:List (List Int)):List Int:=ps.flatten
theorem ziu (A:List (List Int)) (k:Nat) (D:k<A.length):cat (A.take (k+1))=cat (A.take k)++A[k]:=by unfold cat;rw [List.take_succ_eq_append_getElem D,List.flatten_append];simp
theorem ziv (A:List (List Int)) (k:Nat):(cat (A.take k)).length<=(cat A).length:=by
 have:(cat A).length=(cat (A.take k)).length+(cat (A.drop k)).length:=by unfold cat;rw [<-List.length_append,<-List.flatten_append,List.take_append_drop]
 omega
theorem ziw (w:World) (B:Nat) (v:Value) (A:List (List Int)) (hv:SL 1 (jm 1 RI) (· <B) w v A) (hB:B<=w.heap.size) (hl:(cat A).length<=500000):
 Calls Tryz.prog 173 #[v] w fun r w'=>Below w.heap.size w w'/\∃v',r=.returned v'/\w'.ownsRow w.heap.size 3 1 v' (cat A).length (b8 (cat A)):=by
 have HV:=ae hv;obtain ⟨ao,cl,rfl,-,hm,-⟩:=hv;unfold maxLen at hm;have HL:∀k,(cat (A.take k)).length<=500000:=fun k=>lt3 (ziv A k) hl;go_enter Tryz.func173,Tryz.ntmps173;go_wp2_with fail;go_loopw [3,11] (fun s i wr=>∃k:Nat,k<=A.length/\i=.int .i64 k/\s=.int .i64 ((cat (A.take k)).length:Nat)/\w=wr) (fun _ i _=>A.length - (intOf i).toNat)
 case atStart=>exact ⟨0,n0q _,rfl,rfl,rfl⟩
 case round=>
  obtain ⟨k,hk,rfl,rfl,rfl⟩:=hrel;have ah:=HL k;by_cases D:k<A.length
  ·obtain ⟨b,off,a1,c1,rfl,hb,e1,s1⟩:=HV.o.atSl k D;have V:=HL (k+1);rw [ziu A k D,List.length_append]at V;have N:Hid ((cat (A.take (k+1))).length=(cat (A.take k)).length+A[k].length):=by show _=_;rw [ziu A k D,List.length_append]
   have q1:(0:Int)<=k:=by omega
   have q2:(k:Int)<A.length:=by omega
   clear s1;generalize (cat (A.take k)).length=n at*;generalize A[k].length=m at*;have q3:¬((n:Int)+(m:Int)<0):=by omega
   go_wp2_with fail;go_roundw
   case rel=>exact ⟨k+1,by omega,by go_num,by rw [N.o];go_num,trivial⟩
   case measure=>simp [intOf];omega
  have G:k=A.length:=by omega
  rw [G,List.take_length]at ah ⊢;clear G D hk;have W:=ae (zit w (cat A).length (by omega));go_wp2_with fail;refine W.o.mono ?_;rintro r w1 ⟨O,v1,rfl,E⟩;have Y:Hid (w.heap.size<=w1.heap.size):=O.size;have ag:=ae (And.intro E O);obtain ⟨a1,c1,rfl⟩:=kh E;clear E O W;go_wp2_with fail;go_loopw [6,27] (fun u i wr=>∃k:Nat,k<=A.length/\i=.int .i64 k/\Hid (wr.ownsRow w.heap.size 3 1 u (cat (A.take k)).length (b8 (cat (A.take k)))/\Below w.heap.size w wr)) (fun _ i _=>A.length - (intOf i).toNat)
  case atStart=>exact ⟨0,n0q _,rfl,ag.o⟩
  case round=>
   obtain ⟨k,hk,rfl,I⟩:=hrel;by_cases D:k<A.length
   ·have ac:=I.o.2.size;have Z:=HV.o.keptSl (Kp.below (I.o.2.mono hB)) (fun _ _ h=>h);obtain ⟨b,off,a2,c2,rfl,hb,e1,s1⟩:=Z.atSl k D;have q1:(0:Int)<=k:=by omega
    have q2:(k:Int)<A.length:=by omega
    have V:=HL (k+1);rw [ziu A k D,List.length_append]at V;have N:=ae (ziu A k D);obtain ⟨a3,c3,rfl⟩:=kh I.o.1;have X:=ae I.o.1;have Y:=ae s1;have ad:=ae I.o.2;have af:Hid ((cat (A.take k)).length+A[k].length<=1000000):=by show _<=_;omega
    clear s1 Z I;generalize hpk:A[k]=pk at*;generalize hpt:(cat (A.take k))=pt at*;clear hpk hpt;go_wp2_with (at_builtin;refine zis _ rfl _ _ rfl w.heap.size (.slice a3 pt.length c3) pt rfl X.o (· <B) (.slice a2 pk.length c2) pk rfl Y.o af.o ac ?_);intro v' w3 F J;have aa:Below w.heap.size w w3:=ad.o.grown J ac (fun k e=>(X.o.lt k e).1);have L:Hid (w3.ownsRow w.heap.size 3 1 v' (cat (A.take (k+1))).length (b8 (cat (A.take (k+1))))/\Below w.heap.size w w3):=by show _/\_;rw [N.o,List.length_append];exact ⟨F,aa⟩
    clear F J aa;go_wp2_with fail;go_roundw
    case rel=>exact ⟨k+1,by omega,by go_num,L.o⟩
    case measure=>simp [intOf];omega
   have G:k=A.length:=by omega
   have L:=I.o;rw [G,List.take_length]at L;have L:=ae L;clear I;go_wp2_with fail;go_ret;exact ⟨L.o.2,_,rfl,L.o.1⟩
theorem SL.sub {M:Nat->Prop} {w:World} {b off n cap:Nat} {l:List Int} (h:SL 1 RI M w (.slice (some ⟨b,off,none⟩) n cap) l) (lo E:Nat) (h1:lo<=E) (h2:E<=l.length):SL 1 RI M w (sliced (some ⟨b,off,none⟩) lo E cap 1) ((l.take E).drop lo):=by
 obtain ⟨X,Z,e,hc,hm,F⟩:=h;cases e;have A:((l.take E).drop lo).length=E - lo:=by simp;omega
 refine ⟨(if cap=lo then some ⟨b,off,none⟩ else (some (⟨b,off,none⟩:Addr)).map (·.add (lo*1))),cap - lo,?_,by omega,by omega,fun k O=>?_⟩
 ·rw [A];rfl
 rw [A]at O;obtain ⟨Y,G,I,e,J,L,V,D,W⟩:=F (lo+k) (by omega);cases e;refine ⟨b,off+lo,I,?_,J,L,V,fun j N=>?_,?_⟩
 ·rw [if_neg (by omega),Option.map_some,zg1,Nat.mul_one]
 ·have:=D j N;rw [<-this];congr 1;congr 1;omega
 have:((l.take E).drop lo)[k]=l[lo+k]:=by simp
 rw [this];exact W
def jq (h:bb):List Int:=h.ab.take 1++((h.ab.take (h.ag+1).toNat).drop h.be.toNat++h.ab.drop h.ar.toNat)
theorem zix (w:World) (n:Int):Calls Tryz.prog 175 #[.int .i64 n] w fun r w'=>r=.returned (.bool (n != 0))/\Below w.heap.size w w':=by go_enter Tryz.func175,Tryz.ntmps175;go_wp2_with fail;go_ret;exact ⟨rfl,br _ _⟩
theorem ziy (w:World) (X B:Nat) (vW vO kC kS kF kN kT vA:Value) (h:bb) (d:bd) (ts:List bp) (hc:mc X B w vW vO kC kS kF kN kT vA h d ts) (hz:jy d h):
 Calls Tryz.prog 113 #[.agg #[.pointer (some ⟨X+1,0,none⟩)]] w fun r w'=>r=.returned (.bool (!(jq h).any (· != 0)))/\Below w.heap.size w w':=by
 obtain ⟨D,hW⟩:∃D,D=w.alloc (.cells #[.pointer (some ⟨X+1,0,none⟩)] 88):=⟨_,rfl⟩;have aa:Below w.heap.size w D:=hW ▸ (br _ _).alloc (nlq _) _;have a5:D.heap.size=w.heap.size+1:=by rw [hW];simp
 have E:=hc.below aa;have hp:D.cell? ⟨w.heap.size,0,none⟩=some (.pointer (some ⟨X+1,0,none⟩)):=by rw [hW];simp [go_sem]
 have gl:=bk E.blk;have m0:=aw E.blk 0 (x:=vW) rfl;have m1:=aw E.blk 1 (x:=.int .i64 h.ag) rfl;have m3:=aw E.blk 3 (x:=.int .i64 h.be) rfl;have m4:=aw E.blk 4 (x:=.int .i64 h.ar) rfl;have bo:=hz.ag;have bs:=hz.old;have bu:=hz.len;have bw:=hz.be;have bx:=hz.ar;have HS:=ae E.sW;obtain ⟨aW,W,rfl,bf,bc,a0⟩:=E.sW;obtain ⟨O,Y,cs,rfl,a9,bn,-⟩:=a0 0 (by omega);unfold maxLen at bc;have bm:=hc.le;obtain ⟨G,ah⟩:∃s,s=sliced (some ⟨O,Y,none⟩) 0 1 W 1:=⟨_,rfl⟩;obtain ⟨I,ai⟩:∃s,s=sliced (some ⟨O,Y,none⟩) h.be.toNat (h.ag+1).toNat W 1:=⟨_,rfl⟩;obtain ⟨J,aj⟩:∃s,s=sliced (some ⟨O,Y,none⟩) h.ar.toNat h.ab.length W 1:=⟨_,rfl⟩;have r1:∀V,(Instr.slice 22 (.slice (some ⟨O,Y,none⟩) h.ab.length W) none (some (.int .i64 1)) none).run Tryz.prog V=.ok G V:=fun V=>by rw [ah,run_slice_h V 22 _ _ _ Tryz.underlying22 .i64 1 (by omega) (by omega)];rfl
 have r2:∀V,(Instr.slice 22 (.slice (some ⟨O,Y,none⟩) h.ab.length W) (some (.int .i64 h.be)) (some (.int .i64 (h.ag+1))) none).run Tryz.prog V=.ok I V:=fun V=>by rw [ai,run_slice_lh V 22 _ _ _ Tryz.underlying22 .i64 .i64 h.be (h.ag+1) (by omega) (by omega) (by omega)];rfl
 have r3:∀V,(Instr.slice 22 (.slice (some ⟨O,Y,none⟩) h.ab.length W) (some (.int .i64 h.ar)) none none).run Tryz.prog V=.ok J V:=fun V=>by rw [aj,run_slice_l V 22 _ _ _ Tryz.underlying22 .i64 h.ar (by omega) (by omega)];rfl
 have t1:SL 1 RI (· <B) D G (h.ab.take 1):=ah ▸ HS.o.sub 0 1 (by omega) (by omega);have t2:SL 1 RI (· <B) D I ((h.ab.take (h.ag+1).toNat).drop h.be.toNat):=ai ▸ HS.o.sub h.be.toNat (h.ag+1).toNat (by omega) (by omega);have t3:SL 1 RI (· <B) D J (h.ab.drop h.ar.toNat):=by have:=HS.o.sub h.ar.toNat h.ab.length (by omega) (nlq _);rw [List.take_length]at this;exact aj ▸ this
 have N:Hid (Below D.heap.size D (D.drew.alloc (.cells #[G,I,J] 22))):=(br _ _).drew.alloc (nlq _) _;have au:B<=D.heap.size:=by omega
 have ao:Hid (Calls Tryz.prog 173 #[.slice (some ⟨D.heap.size,0,none⟩) 3 3] (D.drew.alloc (.cells #[G,I,J] 22)) fun r w'=>Below (D.drew.alloc (.cells #[G,I,J] 22)).heap.size (D.drew.alloc (.cells #[G,I,J] 22)) w'/\∃v',r=.returned v'/\w'.ownsRow (D.drew.alloc (.cells #[G,I,J] 22)).heap.size 3 1 v' (jq h).length (b8 (jq h))):=by
  have hk:=Kp.below (N.o.mono au);have F:(D.drew.alloc (.cells #[G,I,J] 22)).heap[D.heap.size]? =some (.cells #[G,I,J] 22 (0,0)):=heap_alloc_new D.drew _;have ad:=bk F;have ak:SL 1 (jm 1 RI) (· <D.heap.size+1) (D.drew.alloc (.cells #[G,I,J] 22)) (.slice (some ⟨D.heap.size,0,none⟩) 3 3) [h.ab.take 1,(h.ab.take (h.ag+1).toNat).drop h.be.toNat,h.ab.drop h.ar.toNat]:=by
   refine ⟨_,3,rfl,by simp,by unfold maxLen;simp,fun k ba=>?_⟩;have af:∀b,b<B->b<D.heap.size+1:=fun b hb=>by omega
   match k,ba with
   | 0,_=>exact ⟨_,_,[G],rfl,Nat.lt_succ_self _,ad,rfl,(fun j hj=>by rw [Nat.lt_one_iff.1 hj];exact aw F 0 rfl),G,rfl,(t1.keptI hk).monoI af⟩
   | 1,_=>exact ⟨_,_,[I],rfl,Nat.lt_succ_self _,ad,rfl,(fun j hj=>by rw [Nat.lt_one_iff.1 hj];exact aw F 1 rfl),I,rfl,(t2.keptI hk).monoI af⟩
   | 2,_=>exact ⟨_,_,[J],rfl,Nat.lt_succ_self _,ad,rfl,(fun j hj=>by rw [Nat.lt_one_iff.1 hj];exact aw F 2 rfl),J,rfl,(t3.keptI hk).monoI af⟩
  have a4:cat [h.ab.take 1,(h.ab.take (h.ag+1).toNat).drop h.be.toNat,h.ab.drop h.ar.toNat]=jq h:=by simp [jq,cat]
  have:=ziw (D.drew.alloc (.cells #[G,I,J] 22)) (D.heap.size+1) _ _ ak (by omega) (by rw [a4];simp [jq];omega);rw [a4]at this;exact this
 have wy:IntKind.i64.wrap (h.ag+1)=h.ag+1:=fy _ (by omega) (by omega);have al:=ae aa;have HW:=ae hW;have a8:Hid ((jq h).length<=1000000):=by show (jq h).length<=1000000;simp [jq];omega
 obtain ⟨a1,n1,c1,e1⟩:∃a n c,G=.slice a n c:=by obtain ⟨a,c,e,-⟩:=t1;exact ⟨a,_,c,e⟩
 obtain ⟨a2,n2,c2,e2⟩:∃a n c,I=.slice a n c:=by obtain ⟨a,c,e,-⟩:=t2;exact ⟨a,_,c,e⟩
 obtain ⟨a3,n3,c3,e3⟩:∃a n c,J=.slice a n c:=by obtain ⟨a,c,e,-⟩:=t3;exact ⟨a,_,c,e⟩
 have bh:=ae a5;have lw:w.heap.size<D.heap.size:=by omega
 clear a5;clear hc E aa a0 t1 t2 t3 ah ai aj HS hz hW a9;subst e1 e2 e3;generalize jq h=rl at*;obtain ⟨b,hb⟩:∃b,(rl.any (· != 0))=b:=⟨_,rfl⟩;rw [hb];have a7:=ae hb;clear hb;go_enter Tryz.func113,Tryz.ntmps113;go_wp2_with fail;rw [<-HW.o];refine wp_region_held_drew (S:=fun W'=>∀p:Addr,p.block<D.heap.size->W'.cell? p=D.cell? p) (by kernel_rfl) (fun p hp=>rfl) fun A=>?_;refine ta 0 (.pointer (some ⟨w.heap.size,0,none⟩)) rfl A ?_;refine ta 1 (.pointer (some ⟨X+1,0,none⟩)) rfl A ?_;refine ta 2 (.pointer (some ⟨X+1,0,none⟩)) rfl A ?_;refine ta 3 (.pointer (some ⟨X+1,0,none⟩)) rfl A ?_;refine ta 4 (.pointer (some ⟨X+1,0,none⟩)) rfl A ?_;refine ta 5 (.pointer (some ⟨X+1,0,none⟩)) rfl A ?_;refine ta 6 (.slice (some ⟨O,Y,none⟩) h.ab.length W) rfl A ?_;refine ta 7 (.slice a1 n1 c1) rfl A ?_;refine ta 8 (.pointer (some ⟨w.heap.size,0,none⟩)) rfl A ?_;refine ta 9 (.pointer (some ⟨X+1,0,none⟩)) rfl A ?_;refine ta 10 (.pointer (some ⟨X+1,0,none⟩)) rfl A ?_;refine ta 11 (.pointer (some ⟨X+1,0,none⟩)) rfl A ?_;refine ta 12 (.pointer (some ⟨X+1,0,none⟩)) rfl A ?_;refine ta 13 (.pointer (some ⟨X+1,0,none⟩)) rfl A ?_;refine ta 14 (.slice (some ⟨O,Y,none⟩) h.ab.length W) rfl A ?_;refine ta 15 (.pointer (some ⟨w.heap.size,0,none⟩)) rfl A ?_;refine ta 16 (.pointer (some ⟨X+1,0,none⟩)) rfl A ?_;refine ta 17 (.pointer (some ⟨X+1,0,none⟩)) rfl A ?_;refine ta 18 (.pointer (some ⟨X+1,0,none⟩)) rfl A ?_;refine ta 19 (.pointer (some ⟨X+1,0,none⟩)) rfl A ?_;refine ta 20 (.pointer (some ⟨X+1,3,none⟩)) rfl A ?_;refine ta 21 (.int .i64 h.be) rfl A ?_;refine ta 22 (.pointer (some ⟨w.heap.size,0,none⟩)) rfl A ?_;refine ta 23 (.pointer (some ⟨X+1,0,none⟩)) rfl A ?_;refine ta 24 (.pointer (some ⟨X+1,0,none⟩)) rfl A ?_;refine ta 25 (.pointer (some ⟨X+1,0,none⟩)) rfl A ?_;refine ta 26 (.pointer (some ⟨X+1,0,none⟩)) rfl A ?_;refine ta 27 (.pointer (some ⟨X+1,1,none⟩)) rfl A ?_;refine ta 28 (.int .i64 h.ag) rfl A ?_;refine ta 29 (.int .i64 (h.ag+1)) rfl A ?_;refine ta 30 (.slice a2 n2 c2) rfl A ?_;refine ta 31 (.pointer (some ⟨w.heap.size,0,none⟩)) rfl A ?_;refine ta 32 (.pointer (some ⟨X+1,0,none⟩)) rfl A ?_;refine ta 33 (.pointer (some ⟨X+1,0,none⟩)) rfl A ?_;refine ta 34 (.pointer (some ⟨X+1,0,none⟩)) rfl A ?_;refine ta 35 (.pointer (some ⟨X+1,0,none⟩)) rfl A ?_;refine ta 36 (.pointer (some ⟨X+1,0,none⟩)) rfl A ?_;refine ta 37 (.slice (some ⟨O,Y,none⟩) h.ab.length W) rfl A ?_;refine ta 38 (.pointer (some ⟨w.heap.size,0,none⟩)) rfl A ?_;refine ta 39 (.pointer (some ⟨X+1,0,none⟩)) rfl A ?_;refine ta 40 (.pointer (some ⟨X+1,0,none⟩)) rfl A ?_;refine ta 41 (.pointer (some ⟨X+1,0,none⟩)) rfl A ?_;refine ta 42 (.pointer (some ⟨X+1,0,none⟩)) rfl A ?_;refine ta 43 (.pointer (some ⟨X+1,4,none⟩)) rfl A ?_;refine ta 44 (.int .i64 h.ar) rfl A ?_;refine ta 45 (.slice a3 n3 c3) rfl A ?_;refine wpAnyH_ready (rs:=[46]) (by kernel_rfl) (by simp) ?_;refine AllReadyH.cons rfl (fun bi av=>?_) AllReadyH.nil;go_simp;refine av.o _ _ (fun p hp=>Below.cell (B:=D.heap.size) (w:=D) ((br _ _).drew.alloc (nlq _) _) hp) fun A=>?_;refine wpAnyH_ready (rs:=[47]) (by kernel_rfl) (by simp) ?_;refine AllReadyH.cons rfl (fun bl ax=>?_) AllReadyH.nil;go_simp;refine ao.o.mono ?_;rintro r Z ⟨ay,v3,rfl,L⟩;have ac:Below D.heap.size D Z:=N.o.trans (ay.mono N.o.size);refine ax.o _ _ (fun p hp=>ac.cell hp) fun A=>?_;refine ta 48 (v3) rfl A ?_;refine wpAnyH_done (by kernel_rfl) ?_ _;clear A;simp only [Act.put,p1q,p4q,p3q,p2q,p5q,p6q];have an:Hid (Below w.heap.size w Z):=al.o.trans (ac.mono al.o.size);have aq:Hid (Calls Tryz.prog 174 #[v3,.func (.func 175) #[] #[]] Z fun r w'=>r=.returned (.bool b)/\Below Z.heap.size Z w'):=by rw [<-a7.o];have ak:=(zfb L a8.o).monoI (M':=(· <Z.heap.size)) fun k hk=>hk.lt;refine zhy Z Z.heap.size v3 rl ak (nlq _) 175 #[] #[] (· != 0) (fun args w=>by kernel_rfl) ?_;intro x hx V hV;exact zix V x
 clear ay ac L m0 m1 m3 m4 r1 r2 r3 ao N hp;go_wp2_with fail;refine aq.o.mono ?_;rintro r w5 ⟨rfl,az⟩;have a6:Hid (Below w.heap.size w w5):=an.o.trans (az.mono an.o.size);clear az aq;go_wp2_with fail;go_ret;exact ⟨rfl,a6.o⟩
end Go.Proofs.YtjdnmblggdobgaaGreat
