import Derived.Test.YtjdnmblggdobgaaGreatChecked
import Derived.Ground.Names2Prog
import Derived.Shelf.Lays2
import Derived.Test.YtjdnmblggdobgaaGreatJHpQHpU
import Derived.Shelf.Slices.SearchI
import Derived.Shelf.Slices.Empties
import Derived.Test.YtjdnmblggdobgaaGreatJTk2Dies
import Derived.Test.YtjdnmblggdobgaaGreatJLNoneLSaD
import Derived.Lib.AppendZeros
set_option maxHeartbeats 4000000
set_option maxRecDepth 100000
namespace Go.Proofs.YtjdnmblggdobgaaGreat
open Go.Shelf
def Tryz.laysSearch_ren:Go.Shelf.Ren:=⟨fun | 25=>180 | 31=>222 | 32=>223 | 37=>195 | n=>n,fun | 22=>22 | 3=>3 | 4=>4 | 40=>254 | 0=>0 | n=>n,fun | n=>n⟩
theorem Tryz.laysSearch:Go.Proofs.Lays2.n25 Tryz.prog Tryz.laysSearch_ren:={
 mixed:=by kernel_rfl
 f25:=Tryz.func180.trans (congrArg some (by kernel_rfl))
 f31:=Tryz.func222.trans (congrArg some (by kernel_rfl))
 f32:=Tryz.func223.trans (congrArg some (by kernel_rfl))
 f37:=Tryz.func195.trans (congrArg some (by kernel_rfl))
 t0:=Tryz.underlying0
 a0:=Tryz.isAgg0
 z0:=Tryz.sizeOf0
 v0:=Tryz.zeroValue0
 t3:=Tryz.underlying3
 a3:=Tryz.isAgg3
 z3:=Tryz.sizeOf3
 v3:=Tryz.zeroValue3
 t4:=Tryz.underlying4
 a4:=Tryz.isAgg4
 z4:=Tryz.sizeOf4
 v4:=Tryz.zeroValue4
 t22:=Tryz.underlying22
 a22:=Tryz.isAgg22
 z22:=Tryz.sizeOf22
 v22:=Tryz.zeroValue22
 t40:=Tryz.underlying254
 a40:=Tryz.isAgg254
 z40:=Tryz.sizeOf254
 v40:=Tryz.zeroValue254 }
end Go.Proofs.YtjdnmblggdobgaaGreat
namespace Go.Proofs.YtjdnmblggdobgaaGreat
open Go.RowKit Go.Maps Go.Shelf Go.Lib
theorem zil (w:World) (B:Nat) (v:Value) (l:List Int) (D:SL 1 RI (· <B) w v l) (N:l.length<=1000000) (J:l.Pairwise (· <= ·)) (x:Int):
 Calls Tryz.prog 180 #[v,.int .i64 x] w fun r w'=>(∃k:Nat,r=.returned (.tuple #[.int .i64 (k:Int),.bool (l.contains x)]))/\∃q,w'=w.drewN q:=by
 have u:=ag D;obtain ⟨F,cap,rfl,-⟩:=D;cases l with
 | nil=>
   refine (Any.slices_BinarySearch_int_empty Tryz.laysSearch F cap x w).mono ?_;rintro r w' ⟨rfl,rfl⟩;exact ⟨⟨0,rfl⟩,0,rfl⟩
 | cons y l=>
   obtain ⟨b,off,rfl,-,-⟩:=u.o.atI 0 (by simp);have:=Any.slices_BinarySearch_int Tryz.laysSearch b off (y::l).length cap (y::l) x w (nlq _) (by omega) (fun j A=>by
    obtain ⟨L,E,e,-,G⟩:=u.o.atI j A;cases e;rw [G,List.getD_eq_getElem?_getD,List.getElem?_eq_getElem A];rfl) (by rw [List.take_length];exact J)
   rw [List.take_length]at this;refine this.mono ?_;rintro r w' ⟨rfl,I⟩;exact ⟨⟨_,rfl⟩,I⟩
end Go.Proofs.YtjdnmblggdobgaaGreat
namespace Go.Proofs.YtjdnmblggdobgaaGreat
open Go.RowKit Go.Maps
def il (d:be) (h:bd) (x:bp):Bool:=decide (h.ae<x.loc)&& !h.ap.contains x.loc&&fq d.fields h.ab x (kq h)
theorem zim {l:List Int} (h:me l l.length):l.Pairwise (· <= ·):=by
 have key:∀(b a:Nat),a<=b->b<l.length->wd l a<=wd l b:=by
  intro b;induction b with
  | zero=>intro a D _;rw [show a=0 by omega];exact Int.le_refl _
  | succ b ih=>
    intro a D E;by_cases e:a=b+1
    ·subst e;exact Int.le_refl _
    have h1:=ih a (by omega) (by omega);have A:=h (b+1) (by omega) E;rw [show ((b+1:Nat):Int) - 1=(b:Int) by omega]at A;omega
 rw [List.pairwise_iff_getElem];intro i j hi u F;have:=key j i (by omega) u;rwa [zen hi,zen u]at this
theorem zin (W:World) (X B:Nat) (vW vO kC kS kF kN kT vA:Value) (h:bd) (d:be) (ts:List bp) (hc:oo X B W vW vO kC kS kF kN kT vA h d ts) (hl:Lain d h ts) (az:h.ap.length<=1000000) (au:me h.ap h.ap.length) (P:Nat) (hP:W.cell? ⟨P,0,none⟩=some (.pointer (some ⟨X+1,0,none⟩))) (x:bp) (hx:x∈ts):
 Calls Tryz.prog 179 #[.agg #[.int .i64 x.loc,.int .i64 x.tag,.int .i64 x.len,.int .i64 x.hash],.pointer (some ⟨P,0,none⟩)] W fun r Z=>r=.returned (.bool (il d h x))/\Below W.heap.size W Z:=by
 have aw:P<W.heap.size:=World.block_lt_of_cell? W _ hP;obtain ⟨E,hW⟩:∃E,E=W.alloc (.cells #[.int .i64 x.loc,.int .i64 x.tag,.int .i64 x.len,.int .i64 x.hash] 101):=⟨_,rfl⟩;have L:Below W.heap.size W E:=hW ▸ (br _ _).alloc (nlq _) _;have aa:E.heap[W.heap.size]? =some (.cells #[.int .i64 x.loc,.int .i64 x.tag,.int .i64 x.len,.int .i64 x.hash] 101 (0,0)):=hW ▸ heap_alloc_new W _;have G:=hc.below L;have ad:Hid (∀V,Below E.heap.size E V->Calls Tryz.prog 180 #[vO,.int .i64 x.loc] V fun r w'=>(∃k:Nat,r=.returned (.tuple #[.int .i64 (k:Int),.bool (h.ap.contains x.loc)]))/\Below V.heap.size V w'):=fun V hV=>(zil V B vO h.ap (G.below hV).sO az (zim au) x.loc).mono fun r w' ⟨hk,q,hq⟩=>⟨hk,hq ▸ mp (br _ _) q⟩;have gl:=bz G.blk;have m5:=ba G.blk 5 (x:=vO) rfl;have b0:=ba aa 0 (x:=.int .i64 x.loc) rfl;have p0:E.cell? ⟨P,0,none⟩=some (.pointer (some ⟨X+1,0,none⟩)):=(L.cell (p:=⟨P,0,none⟩) aw).trans hP;have lb:=bz aa;obtain ⟨aO,cO,rfl,-⟩:=G.sO;obtain ⟨hf,h1,h2⟩:=hl.fit x hx;have HL:=ag (And.intro hl.ab (And.intro hf (And.intro h1 h2)));have J:Hid (il d h x=(decide (h.ae<x.loc)&& !h.ap.contains x.loc&&fq d.fields h.ab x (kq h))):=rfl;have ah:=ag G;have ac:=ag L;have af:=ag aa;have HW:=ag hW;have aj:=ag p0;have a0:P<E.heap.size:=by have:=L.size;omega
 clear hc G hl hP L aa hW hf h1 h2 hx au;go_enter Tryz.func179,Tryz.ntmps179;go_wp2_with fail;rw [<-HW.o];generalize h.ap.contains x.loc=ct at*;refine wp_region_held_drew (S:=fun Z=>∀p:Addr,p.block<E.heap.size->Z.cell? p=E.cell? p) (by kernel_rfl) (fun p O=>rfl) fun u=>?_;refine ta 0 (.pointer (some ⟨P,0,none⟩)) rfl u ?_;refine ta 1 (.pointer (some ⟨X+1,0,none⟩)) rfl u ?_;refine ta 2 (.pointer (some ⟨X+1,0,none⟩)) rfl u ?_;refine ta 3 (.pointer (some ⟨X+1,0,none⟩)) rfl u ?_;refine ta 4 (.pointer (some ⟨X+1,0,none⟩)) rfl u ?_;refine ta 5 (.pointer (some ⟨X+1,5,none⟩)) rfl u ?_;refine ta 6 (.slice aO h.ap.length cO) rfl u ?_;refine ta 7 (.pointer (some ⟨W.heap.size,0,none⟩)) rfl u ?_;refine ta 8 (.int .i64 x.loc) rfl u ?_;refine wpAnyH_ready (rs:=[9]) (by kernel_rfl) (by simp) ?_;refine AllReadyH.cons rfl (fun K9 an=>?_) AllReadyH.nil;go_simp;refine (ad.o _ (br _ _).drew).mono ?_;rintro r A ⟨⟨kk,rfl⟩,ao⟩;have D:Below E.heap.size E A:=(br E.heap.size E).drew.trans ao;refine an.o _ _ (fun p O=>D.cell O) fun u=>?_;refine ta 10 (.tuple #[.int .i64 (kk:Int),.bool ct]) rfl u ?_;refine ta 11 (.int .i64 (kk:Int)) rfl u ?_;refine ta 12 (.bool ct) rfl u ?_;refine ta 13 (.int .i64 (kk:Int)) rfl u ?_;refine ta 14 (.bool ct) rfl u ?_;refine wpAnyH_done (by kernel_rfl) ?_ _;clear u;simp only [Act.put,p1q,p4q,p3q,p2q,p5q,p6q];have a5:=D.size;have p2:=(D.cell (p:=⟨P,0,none⟩) (by show P<_;omega)).trans aj.o;have F:=(D.block W.heap.size lb).trans af.o;have s0:=ba F 0 (x:=.int .i64 x.loc) rfl;have s1:=ba F 1 (x:=.int .i64 x.tag) rfl;have s2:=ba F 2 (x:=.int .i64 x.len) rfl;have s3:=ba F 3 (x:=.int .i64 x.hash) rfl;have l8:=bz F;have g2:X+1<A.heap.size:=by omega
 have a4:P<A.heap.size:=by omega
 have ai:=ag (ah.o.below D);have Y:Hid (Below W.heap.size W A):=ac.o.trans (D.mono ac.o.size);have I:Hid (∀V,Below A.heap.size A V->Calls Tryz.prog 177 #[.pointer (some ⟨X+1,0,none⟩),.int .i64 x.loc] V fun r w'=>r=.returned (.bool (decide (h.ae<x.loc)))/\w'=V):=fun V hV=>zez V B (X+1) _ _ _ _ _ _ _ h d (ai.o.below hV).gd x.loc;have av:Hid (∀V,Below A.heap.size A V->Calls Tryz.prog 172 #[.pointer (some ⟨X+1,0,none⟩),.agg #[.int .i64 x.loc,.int .i64 x.tag,.int .i64 x.len,.int .i64 x.hash],.func (.func 153) #[.pointer (some ⟨X+1,0,none⟩)] #[]] V fun r w'=>r=.returned (.bool (fq d.fields h.ab x (kq h)))/\Below V.heap.size V w'):=fun V hV=>by have ar:=ai.o.below hV;refine zh3 V B (X+1) _ _ _ _ _ _ _ h d ar.gd x HL.o.2.1 HL.o.2.2.1 HL.o.2.2.2 HL.o.1 153 _ _ (kq h) (fun args w=>by kernel_rfl) ?_;intro a ha V2 ax;exact (ze0 V2 B (X+1) _ _ _ _ _ _ _ h d (ar.below ax).gd _).mono fun r w' ⟨e1,e2⟩=>⟨e1,e2 ▸ br _ _⟩
 have a3:=np Tryz.prog;generalize fq d.fields h.ab x (kq h)=hr at*;clear D F ah ac af aj ad b0 p0 m5 ao an;by_cases hy:h.ae<x.loc
 ·have hd:decide (h.ae<x.loc)=true:=by simp [hy]
  rw [hd]at I J;cases ct with
  | true=>
    go_wp2_with fail;refine wp_region_held_drew (S:=fun Z=>∀p:Addr,p.block<A.heap.size->Z.cell? p=A.cell? p) (by kernel_rfl) (fun p O=>rfl) fun u=>?_;refine ta 0 (.pointer (some ⟨P,0,none⟩)) rfl u ?_;refine ta 1 (.pointer (some ⟨X+1,0,none⟩)) rfl u ?_;refine ta 2 (.pointer (some ⟨X+1,0,none⟩)) rfl u ?_;refine ta 3 (.pointer (some ⟨X+1,0,none⟩)) rfl u ?_;refine ta 4 (.pointer (some ⟨W.heap.size,0,none⟩)) rfl u ?_;refine ta 5 (.int .i64 x.loc) rfl u ?_;refine wpAnyH_ready (rs:=[6]) (by kernel_rfl) (by simp) ?_;refine AllReadyH.cons rfl (fun K6 N=>?_) AllReadyH.nil;go_simp;refine (I.o _ (br _ _).drew).mono ?_;rintro r _ ⟨rfl,rfl⟩;refine N.o _ _ (fun p O=>rfl) fun u=>?_;refine ta 7 (.bool true) rfl u ?_;refine ta 8 (.bool true) rfl u ?_;refine ta 9 (.bool false) rfl u ?_;refine ta 10 (.bool false) rfl u ?_;refine ta 11 (.bool false) rfl u ?_;refine mw 12 rfl u ?_;refine mw 13 rfl u ?_;refine mw 14 rfl u ?_;refine mw 15 rfl u ?_;refine mw 16 rfl u ?_;refine mw 17 rfl u ?_;refine mw 18 rfl u ?_;refine mw 19 rfl u ?_;refine mw 20 rfl u ?_;refine mw 21 rfl u ?_;refine mw 22 rfl u ?_;refine ta 23 (.bool false) rfl u ?_;refine ta 24 (.bool false) rfl u ?_;refine wpAnyH_done (by kernel_rfl) ?_ _;clear u;simp only [Act.put,p1q,p4q,p3q,p2q,p5q,p6q];go_wp2_with fail;go_ret;exact ⟨by rw [J.o];rfl,Y.o.drew⟩
  | false=>
    go_wp2_with fail;refine wp_region_held_drew (S:=fun Z=>∀p:Addr,p.block<A.heap.size->Z.cell? p=A.cell? p) (by kernel_rfl) (fun p O=>rfl) fun u=>?_;refine ta 0 (.pointer (some ⟨P,0,none⟩)) rfl u ?_;refine ta 1 (.pointer (some ⟨X+1,0,none⟩)) rfl u ?_;refine ta 2 (.pointer (some ⟨X+1,0,none⟩)) rfl u ?_;refine ta 3 (.pointer (some ⟨X+1,0,none⟩)) rfl u ?_;refine ta 4 (.pointer (some ⟨W.heap.size,0,none⟩)) rfl u ?_;refine ta 5 (.int .i64 x.loc) rfl u ?_;refine wpAnyH_ready (rs:=[6]) (by kernel_rfl) (by simp) ?_;refine AllReadyH.cons rfl (fun K6 N=>?_) AllReadyH.nil;go_simp;refine (I.o _ (br _ _).drew).mono ?_;rintro r _ ⟨rfl,rfl⟩;refine N.o _ _ (fun p O=>rfl) fun u=>?_;refine ta 7 (.bool true) rfl u ?_;refine ta 8 (.bool false) rfl u ?_;refine ta 9 (.bool true) rfl u ?_;refine ta 10 (.bool true) rfl u ?_;refine ta 11 (.bool true) rfl u ?_;refine ta 12 (.pointer (some ⟨P,0,none⟩)) rfl u ?_;refine ta 13 (.pointer (some ⟨X+1,0,none⟩)) rfl u ?_;refine ta 14 (.pointer (some ⟨X+1,0,none⟩)) rfl u ?_;refine ta 15 (.pointer (some ⟨X+1,0,none⟩)) rfl u ?_;refine ta 16 (.agg #[.int .i64 x.loc,.int .i64 x.tag,.int .i64 x.len,.int .i64 x.hash]) rfl u ?_;refine ta 17 (.pointer (some ⟨P,0,none⟩)) rfl u ?_;refine ta 18 (.pointer (some ⟨X+1,0,none⟩)) rfl u ?_;refine ta 19 (.pointer (some ⟨X+1,0,none⟩)) rfl u ?_;refine ta 20 (.pointer (some ⟨X+1,0,none⟩)) rfl u ?_;refine wpAnyH_ready (rs:=[21]) (by kernel_rfl) (by simp) ?_;refine AllReadyH.cons rfl (fun a1 ak=>?_) AllReadyH.nil;go_simp;refine ak.o _ _ (fun p O=>rfl) fun u=>?_;refine wpAnyH_ready (rs:=[22]) (by kernel_rfl) (by simp) ?_;refine AllReadyH.cons rfl (fun a2 al=>?_) AllReadyH.nil;go_simp;refine (av.o _ (br _ _).drew).mono ?_;rintro r w5 ⟨rfl,ay⟩;have aq:Below A.heap.size A w5:=(br A.heap.size A).drew.trans ay;refine al.o _ _ (fun p O=>aq.cell O) fun u=>?_;refine ta 23 (.bool hr) rfl u ?_;refine ta 24 (.bool hr) rfl u ?_;refine wpAnyH_done (by kernel_rfl) ?_ _;clear u;simp only [Act.put,p1q,p4q,p3q,p2q,p5q,p6q];go_wp2_with fail;go_ret;exact ⟨by rw [J.o];rfl,Y.o.trans (aq.mono Y.o.size)⟩
 have hd:decide (h.ae<x.loc)=false:=by simp [hy]
 rw [hd]at I J;go_wp2_with fail;refine wp_region_held_drew (S:=fun Z=>∀p:Addr,p.block<A.heap.size->Z.cell? p=A.cell? p) (by kernel_rfl) (fun p O=>rfl) fun u=>?_;refine ta 0 (.pointer (some ⟨P,0,none⟩)) rfl u ?_;refine ta 1 (.pointer (some ⟨X+1,0,none⟩)) rfl u ?_;refine ta 2 (.pointer (some ⟨X+1,0,none⟩)) rfl u ?_;refine ta 3 (.pointer (some ⟨X+1,0,none⟩)) rfl u ?_;refine ta 4 (.pointer (some ⟨W.heap.size,0,none⟩)) rfl u ?_;refine ta 5 (.int .i64 x.loc) rfl u ?_;refine wpAnyH_ready (rs:=[6]) (by kernel_rfl) (by simp) ?_;refine AllReadyH.cons rfl (fun K6 N=>?_) AllReadyH.nil;go_simp;refine (I.o _ (br _ _).drew).mono ?_;rintro r _ ⟨rfl,rfl⟩;refine N.o _ _ (fun p O=>rfl) fun u=>?_;refine ta 7 (.bool false) rfl u ?_;refine mw 8 rfl u ?_;refine mw 9 rfl u ?_;refine ta 10 (.bool false) rfl u ?_;refine ta 11 (.bool false) rfl u ?_;refine mw 12 rfl u ?_;refine mw 13 rfl u ?_;refine mw 14 rfl u ?_;refine mw 15 rfl u ?_;refine mw 16 rfl u ?_;refine mw 17 rfl u ?_;refine mw 18 rfl u ?_;refine mw 19 rfl u ?_;refine mw 20 rfl u ?_;refine mw 21 rfl u ?_;refine mw 22 rfl u ?_;refine ta 23 (.bool false) rfl u ?_;refine ta 24 (.bool false) rfl u ?_;refine wpAnyH_done (by kernel_rfl) ?_ _;clear u;simp only [Act.put,p1q,p4q,p3q,p2q,p5q,p6q];go_wp2_with fail;go_ret;exact ⟨by rw [J.o];rfl,Y.o.drew⟩
theorem zio (w:World) (X B:Nat) (vW vO kC kS kF kN kT L:Value) (h:bd) (d:be) (ts:List bp) (hc:oo X B w vW vO kC kS kF kN kT L h d ts) (O:Lain d h ts) (W:h.ap.length<=1000000) (J:me h.ap h.ap.length):
 Calls Tryz.prog 116 #[.agg #[.pointer (some ⟨X+1,0,none⟩)]] w fun r w'=>r=.returned (.bool (!ts.any (il d h)))/\Below w.heap.size w w':=by
 have aa:=np Tryz.prog;obtain ⟨A,I⟩:∃A,A=w.alloc (.cells #[.pointer (some ⟨X+1,0,none⟩)] 88):=⟨_,rfl⟩;have E:Below w.heap.size w A:=I ▸ (br _ _).alloc (nlq _) _;have ac:A.heap.size=w.heap.size+1:=by rw [I];simp
 have u:=hc.below E;have hp:A.cell? ⟨w.heap.size,0,none⟩=some (.pointer (some ⟨X+1,0,none⟩)):=by rw [I];simp [go_sem]
 have D:Hid (Calls Tryz.prog 168 #[L,.func (.func 179) #[] #[.pointer (some ⟨w.heap.size,0,none⟩)]] A fun r w'=>r=.returned (.bool (ts.any (il d h)))/\Below A.heap.size A w'):=by refine zh0 _ _ L ts (u.all O.len) (nlq _) 179 #[] _ (il d h) (fun args w=>by kernel_rfl) ?_;intro x hx V Z;exact zin V X B _ _ _ _ _ _ _ L h d ts (u.below Z) O W J w.heap.size ((Z.cell (p:=⟨w.heap.size,0,none⟩) (by show w.heap.size<_;omega)).trans hp) x hx
 have gl:=bz u.blk;have Y:=ba u.blk 12 (x:=L) rfl;have G:=ag E;obtain ⟨a,q,rfl⟩:=hc.len;rw [I]at D Y gl;clear hc u E hp O J;generalize ts.any (il d h)=b at*;go_enter Tryz.func116,Tryz.ntmps116;go_wp2_with fail;refine D.o.mono ?_;rintro r w1 ⟨rfl,F⟩;rw [<-I]at F;have N:Hid (Below w.heap.size w w1):=G.o.trans (F.mono G.o.size);clear F D;go_wp2_with fail;go_ret;exact ⟨rfl,N.o⟩
theorem ziq (l m:List Int):bv (l++m)=bv l++bv m:=by simp [bv]
theorem zir (l:List Int):(bv l).length=l.length:=by simp [bv]
theorem SL.bv {M:Nat->Prop} {w:World} {b off len cap:Nat} {l:List Int} (h:SL 1 RI M w (.slice (some ⟨b,off,none⟩) len cap) l):∀j u,(bv l)[j]? =some u->w.cell? ((⟨b,off,none⟩:Addr).add j)=some u:=by
 intro j u A;have D:j<l.length:=by rw [<-zir l];exact (List.getElem?_eq_some_iff.1 A).1
 obtain ⟨G,E,e,-,F⟩:=h.atI j D;cases e;have:u=.int .i64 l[j]:=by rw [Go.Proofs.YtjdnmblggdobgaaGreat.bv,List.getElem?_map,List.getElem?_eq_getElem D]at A;exact (ojq A).symm
 rw [this,zg1];exact F
theorem zis {ops:Array Oper} {rest:List Oper} {o:Oper} {a:Act} {Q:Exit->Act->World->Prop} (w:World) (F:o.guard=none) (s x:Operand)
 (X:o.op=.call { callee:=.builtin .append,args:=#[s,x],argTypes:=#[22,22] }) (A:Nat) (v:Value) (xs:List Int) (Y:a.eval s=v) (D:w.ownsRow A 3 1 v xs.length (bv xs))
 (M:Nat->Prop) (u:Value) (l:List Int) (Z:a.eval x=u) (O:SL 1 RI M w u l) (hb:xs.length+l.length<=1000000) (E:A<=w.heap.size)
 (h:∀v' w',w'.ownsRow A 3 1 v' (xs++l).length (bv (xs++l))->w.grownBy w' v.ownBlock->wpList Tryz.prog ops Q rest (a.put o.dst v') w'):wpList Tryz.prog ops Q (o::rest) a w:=by
 obtain ⟨iI,G,J,L,N⟩:=info_parts Tryz.infoInt;have HU:=O;obtain ⟨ao,W,rfl,-,-,V⟩:=O;cases l with
 | nil=>
   obtain ⟨av,cv,rfl⟩:=kh D;have I:=zga D;refine zf9 w F s x 22 X 3 iI Tryz.underlying22 G av xs.length cv Y I.1 I.2 ao W Z ?_;exact h _ _ (by simpa using D) (World.grownBy.refl _ _)
 | cons y l=>
   obtain ⟨b,off,cs,e,-⟩:=V 0 (by simp);subst e;refine wpList_append_lies w F s x 22 X A 3 iI (.int .i64 0) 1 8 Tryz.underlying22 G J L N rfl (by decide) v xs.length (bv xs) Y D ⟨b,off,none⟩ (y::l).length W (bv (y::l)) Z (by rw [zir];simp) HU.bv (by
    intro u O;obtain ⟨z,-,rfl⟩:=List.mem_map.1 O;rfl) (by simp) (by unfold maxLen;omega) (by omega) E w.heap.size rfl ?_
   intro g cap w' h1 h2 _ _;refine h _ _ ?_ h2;rw [ziq,List.length_append];exact h1
theorem zit (w:World) (n:Nat) (Z:n<=1000000):
 Calls Tryz.prog 220 #[.slice none 0 0,.int .i64 (n:Int)] w fun r w'=>Below w.heap.size w w'/\∃v,r=.returned v/\w'.ownsRow w.heap.size 3 1 v 0 []:=by
 obtain ⟨X,N,D,E,F⟩:=info_parts Tryz.infoInt;by_cases h0:n=0
 ·subst h0;have h1:¬((0:Int)<0):=by omega
  go_enter Tryz.func220,Tryz.ntmps220;go_wp2_with fail;go_ret;exact ⟨br _ _,_,rfl,World.ownsRow_nil _ _ _ _⟩
 have A:∀O,(Builtin.append_ #[22,3] O #[.slice none 0 0,.int .i64 (n:Int)]).run Tryz.prog w=
  .ok (.slice (some ⟨w.heap.size,0,none⟩) n (grownCap w n 0 3)) (w.drew.alloc (.cells (Builtin.zeroCells (Value.int .i64 0).cells n++Builtin.zeroCells (Value.int .i64 0).cells (grownCap w n 0 3 - n)) 3)):=fun O=>
  Lib.run_append_nil_zeros w _ _ O _ X (.int .i64 0) .i64 .i64 Tryz.underlying22 Tryz.underlying3 N D n (by omega) (by rw [E];omega) (by omega) (by rw [F];omega)
 have L:n<=grownCap w n 0 3:=grownCap_ge w _ _ _;have u:grownCap w n 0 3<=maxLen:=grownCap_le_maxLen w n 0 _ (by unfold maxLen;omega);obtain ⟨G,V⟩:∃G,G=grownCap w n 0 3:=⟨_,rfl⟩;rw [<-V]at A L u;have J:Hid ((w.drew.alloc (.cells (Builtin.zeroCells (Value.int .i64 0).cells n++Builtin.zeroCells (Value.int .i64 0).cells (G - n)) 3)).ownsRow w.heap.size 3 1 (.slice (some ⟨w.heap.size,0,none⟩) 0 G) 0 []):=by refine World.ownsRow_made w.drew _ G (nlq _) u ?_;simp [Builtin.zeroCells,Value.cells];omega
 have I:Hid (Below w.heap.size w (w.drew.alloc (.cells (Builtin.zeroCells (Value.int .i64 0).cells n++Builtin.zeroCells (Value.int .i64 0).cells (G - n)) 3))):=(br _ _).drew.alloc (nlq _) _;generalize (Obj.cells (Builtin.zeroCells (Value.int .i64 0).cells n++Builtin.zeroCells (Value.int .i64 0).cells (G - n)) 3)=ob at*;have h1:¬((n:Int)<0):=by omega
 have Y:(0:Int)<n:=by omega
 have W:G<=9223372036854775807:=by unfold maxLen at u;omega
 clear V u;go_enter Tryz.func220,Tryz.ntmps220;go_wp2_with (at_builtin;refine Lib.wpList_append_run _ rfl _ _ _ _ rfl _ _ rfl rfl _ _ (A _) ?_);go_ret;exact ⟨I.o,_,rfl,J.o⟩
def cat (ps:List (List Int)):List Int:=ps.flatten
theorem ziu (u:List (List Int)) (k:Nat) (A:k<u.length):cat (u.take (k+1))=cat (u.take k)++u[k]:=by unfold cat;rw [List.take_succ_eq_append_getElem A,List.flatten_append];simp
theorem ziv (u:List (List Int)) (k:Nat):(cat (u.take k)).length<=(cat u).length:=by
 have:(cat u).length=(cat (u.take k)).length+(cat (u.drop k)).length:=by unfold cat;rw [<-List.length_append,<-List.flatten_append,List.take_append_drop]
 omega
theorem ziw (w:World) (B:Nat) (v:Value) (A:List (List Int)) (hv:SL 1 (jv 1 RI) (· <B) w v A) (hB:B<=w.heap.size) (hl:(cat A).length<=500000):
 Calls Tryz.prog 173 #[v] w fun r w'=>Below w.heap.size w w'/\∃v',r=.returned v'/\w'.ownsRow w.heap.size 3 1 v' (cat A).length (bv (cat A)):=by
 have HV:=ag hv;obtain ⟨ao,cl,rfl,-,hm,-⟩:=hv;unfold maxLen at hm;have HL:∀k,(cat (A.take k)).length<=500000:=fun k=>lt3 (ziv A k) hl;go_enter Tryz.func173,Tryz.ntmps173;go_wp2_with fail;go_loopw [3,11] (fun s i wr=>∃k:Nat,k<=A.length/\i=.int .i64 k/\s=.int .i64 ((cat (A.take k)).length:Nat)/\w=wr) (fun _ i _=>A.length - (intOf i).toNat)
 case atStart=>exact ⟨0,n0q _,rfl,rfl,rfl⟩
 case round=>
  obtain ⟨k,hk,rfl,rfl,rfl⟩:=hrel;have ah:=HL k;by_cases D:k<A.length
  ·obtain ⟨b,off,a1,c1,rfl,hb,e1,s1⟩:=HV.o.atSl k D;have V:=HL (k+1);rw [ziu A k D,List.length_append]at V;have N:Hid ((cat (A.take (k+1))).length=(cat (A.take k)).length+A[k].length):=by show _=_;rw [ziu A k D,List.length_append]
   have q1:(0:Int)<=k:=by omega
   have q2:(k:Int)<A.length:=by omega
   clear s1;generalize (cat (A.take k)).length=n at*;generalize A[k].length=m at*;have q3:¬((n:Int)+(m:Int)<0):=by omega
   go_wp2_with fail;go_roundw
   case rel=>exact ⟨k+1,by omega,by go_num,by rw [N.o];go_num,trivial⟩
   case measure=>simp [intOf];omega
  have G:k=A.length:=by omega
  rw [G,List.take_length]at ah ⊢;clear G D hk;have W:=ag (zit w (cat A).length (by omega));go_wp2_with fail;refine W.o.mono ?_;rintro r w1 ⟨O,v1,rfl,E⟩;have Y:Hid (w.heap.size<=w1.heap.size):=O.size;have af:=ag (And.intro E O);obtain ⟨a1,c1,rfl⟩:=kh E;clear E O W;go_wp2_with fail;go_loopw [6,27] (fun u i wr=>∃k:Nat,k<=A.length/\i=.int .i64 k/\Hid (wr.ownsRow w.heap.size 3 1 u (cat (A.take k)).length (bv (cat (A.take k)))/\Below w.heap.size w wr)) (fun _ i _=>A.length - (intOf i).toNat)
  case atStart=>exact ⟨0,n0q _,rfl,af.o⟩
  case round=>
   obtain ⟨k,hk,rfl,I⟩:=hrel;by_cases D:k<A.length
   ·have ac:=I.o.2.size;have Z:=HV.o.keptSl (Kp.below (I.o.2.mono hB)) (fun _ _ h=>h);obtain ⟨b,off,a2,c2,rfl,hb,e1,s1⟩:=Z.atSl k D;have q1:(0:Int)<=k:=by omega
    have q2:(k:Int)<A.length:=by omega
    have V:=HL (k+1);rw [ziu A k D,List.length_append]at V;have N:=ag (ziu A k D);obtain ⟨a3,c3,rfl⟩:=kh I.o.1;have X:=ag I.o.1;have Y:=ag s1;have ad:=ag I.o.2;have ae:Hid ((cat (A.take k)).length+A[k].length<=1000000):=by show _<=_;omega
    clear s1 Z I;generalize hpk:A[k]=pk at*;generalize hpt:(cat (A.take k))=pt at*;clear hpk hpt;go_wp2_with (at_builtin;refine zis _ rfl _ _ rfl w.heap.size (.slice a3 pt.length c3) pt rfl X.o (· <B) (.slice a2 pk.length c2) pk rfl Y.o ae.o ac ?_);intro v' w3 F J;have aa:Below w.heap.size w w3:=ad.o.grown J ac (fun k e=>(X.o.lt k e).1);have L:Hid (w3.ownsRow w.heap.size 3 1 v' (cat (A.take (k+1))).length (bv (cat (A.take (k+1))))/\Below w.heap.size w w3):=by show _/\_;rw [N.o,List.length_append];exact ⟨F,aa⟩
    clear F J aa;go_wp2_with fail;go_roundw
    case rel=>exact ⟨k+1,by omega,by go_num,L.o⟩
    case measure=>simp [intOf];omega
   have G:k=A.length:=by omega
   have L:=I.o;rw [G,List.take_length]at L;have L:=ag L;clear I;go_wp2_with fail;go_ret;exact ⟨L.o.2,_,rfl,L.o.1⟩
theorem SL.sub {M:Nat->Prop} {w:World} {b off n cap:Nat} {l:List Int} (h:SL 1 RI M w (.slice (some ⟨b,off,none⟩) n cap) l) (lo hi:Nat) (h1:lo<=hi) (Y:hi<=l.length):SL 1 RI M w (sliced (some ⟨b,off,none⟩) lo hi cap 1) ((l.take hi).drop lo):=by
 obtain ⟨V,X,e,hc,Z,D⟩:=h;cases e;have u:((l.take hi).drop lo).length=hi - lo:=by simp;omega
 refine ⟨(if cap=lo then some ⟨b,off,none⟩ else (some (⟨b,off,none⟩:Addr)).map (·.add (lo*1))),cap - lo,?_,by omega,by omega,fun k L=>?_⟩
 ·rw [u];rfl
 rw [u]at L;obtain ⟨W,E,F,e,G,I,N,A,O⟩:=D (lo+k) (by omega);cases e;refine ⟨b,off+lo,F,?_,G,I,N,fun j J=>?_,?_⟩
 ·rw [if_neg (by omega),Option.map_some,zg1,Nat.mul_one]
 ·have:=A j J;rw [<-this];congr 1;congr 1;omega
 have:((l.take hi).drop lo)[k]=l[lo+k]:=by simp
 rw [this];exact O
def kf (h:bd):List Int:=h.ab.take 1++((h.ab.take (h.ae+1).toNat).drop h.bg.toNat++h.ab.drop h.bk.toNat)
theorem zix (w:World) (n:Int):Calls Tryz.prog 175 #[.int .i64 n] w fun r w'=>r=.returned (.bool (n != 0))/\Below w.heap.size w w':=by go_enter Tryz.func175,Tryz.ntmps175;go_wp2_with fail;go_ret;exact ⟨rfl,br _ _⟩
theorem ziy (w:World) (X B:Nat) (vW vO kC kS kF kN kT vA:Value) (h:bd) (d:be) (ts:List bp) (hc:oo X B w vW vO kC kS kF kN kT vA h d ts) (hz:mf d h):
 Calls Tryz.prog 113 #[.agg #[.pointer (some ⟨X+1,0,none⟩)]] w fun r w'=>r=.returned (.bool (!(kf h).any (· != 0)))/\Below w.heap.size w w':=by
 obtain ⟨A,hW⟩:∃A,A=w.alloc (.cells #[.pointer (some ⟨X+1,0,none⟩)] 88):=⟨_,rfl⟩;have Z:Below w.heap.size w A:=hW ▸ (br _ _).alloc (nlq _) _;have ay:A.heap.size=w.heap.size+1:=by rw [hW];simp
 have D:=hc.below Z;have hp:A.cell? ⟨w.heap.size,0,none⟩=some (.pointer (some ⟨X+1,0,none⟩)):=by rw [hW];simp [go_sem]
 have gl:=bz D.blk;have m0:=ba D.blk 0 (x:=vW) rfl;have m1:=ba D.blk 1 (x:=.int .i64 h.ae) rfl;have m3:=ba D.blk 3 (x:=.int .i64 h.bg) rfl;have m4:=ba D.blk 4 (x:=.int .i64 h.bk) rfl;have bi:=hz.ae;have bl:=hz.old;have bm:=hz.len;have bn:=hz.bg;have bq:=hz.bk;have HS:=ag D.sW;obtain ⟨aW,O,rfl,a8,a7,aw⟩:=D.sW;obtain ⟨N,W,cs,rfl,a5,bh,-⟩:=aw 0 (by omega);unfold maxLen at a7;have bf:=hc.le;obtain ⟨F,af⟩:∃s,s=sliced (some ⟨N,W,none⟩) 0 1 O 1:=⟨_,rfl⟩;obtain ⟨G,ah⟩:∃s,s=sliced (some ⟨N,W,none⟩) h.bg.toNat (h.ae+1).toNat O 1:=⟨_,rfl⟩;obtain ⟨I,ai⟩:∃s,s=sliced (some ⟨N,W,none⟩) h.bk.toNat h.ab.length O 1:=⟨_,rfl⟩;have r1:∀V,(Instr.slice 22 (.slice (some ⟨N,W,none⟩) h.ab.length O) none (some (.int .i64 1)) none).run Tryz.prog V=.ok F V:=fun V=>by rw [af,run_slice_h V 22 _ _ _ Tryz.underlying22 .i64 1 (by omega) (by omega)];rfl
 have r2:∀V,(Instr.slice 22 (.slice (some ⟨N,W,none⟩) h.ab.length O) (some (.int .i64 h.bg)) (some (.int .i64 (h.ae+1))) none).run Tryz.prog V=.ok G V:=fun V=>by rw [ah,run_slice_lh V 22 _ _ _ Tryz.underlying22 .i64 .i64 h.bg (h.ae+1) (by omega) (by omega) (by omega)];rfl
 have r3:∀V,(Instr.slice 22 (.slice (some ⟨N,W,none⟩) h.ab.length O) (some (.int .i64 h.bk)) none none).run Tryz.prog V=.ok I V:=fun V=>by rw [ai,run_slice_l V 22 _ _ _ Tryz.underlying22 .i64 h.bk (by omega) (by omega)];rfl
 have t1:SL 1 RI (· <B) A F (h.ab.take 1):=af ▸ HS.o.sub 0 1 (by omega) (by omega);have t2:SL 1 RI (· <B) A G ((h.ab.take (h.ae+1).toNat).drop h.bg.toNat):=ah ▸ HS.o.sub h.bg.toNat (h.ae+1).toNat (by omega) (by omega);have t3:SL 1 RI (· <B) A I (h.ab.drop h.bk.toNat):=by have:=HS.o.sub h.bk.toNat h.ab.length (by omega) (nlq _);rw [List.take_length]at this;exact ai ▸ this
 have L:Hid (Below A.heap.size A (A.drew.alloc (.cells #[F,G,I] 22))):=(br _ _).drew.alloc (nlq _) _;have ap:B<=A.heap.size:=by omega
 have an:Hid (Calls Tryz.prog 173 #[.slice (some ⟨A.heap.size,0,none⟩) 3 3] (A.drew.alloc (.cells #[F,G,I] 22)) fun r w'=>Below (A.drew.alloc (.cells #[F,G,I] 22)).heap.size (A.drew.alloc (.cells #[F,G,I] 22)) w'/\∃v',r=.returned v'/\w'.ownsRow (A.drew.alloc (.cells #[F,G,I] 22)).heap.size 3 1 v' (kf h).length (bv (kf h))):=by
  have hk:=Kp.below (L.o.mono ap);have E:(A.drew.alloc (.cells #[F,G,I] 22)).heap[A.heap.size]? =some (.cells #[F,G,I] 22 (0,0)):=heap_alloc_new A.drew _;have ac:=bz E;have aj:SL 1 (jv 1 RI) (· <A.heap.size+1) (A.drew.alloc (.cells #[F,G,I] 22)) (.slice (some ⟨A.heap.size,0,none⟩) 3 3) [h.ab.take 1,(h.ab.take (h.ae+1).toNat).drop h.bg.toNat,h.ab.drop h.bk.toNat]:=by
   refine ⟨_,3,rfl,by simp,by unfold maxLen;simp,fun k a6=>?_⟩;have ad:∀b,b<B->b<A.heap.size+1:=fun b hb=>by omega
   match k,a6 with
   | 0,_=>exact ⟨_,_,[F],rfl,Nat.lt_succ_self _,ac,rfl,(fun j hj=>by rw [Nat.lt_one_iff.1 hj];exact ba E 0 rfl),F,rfl,(t1.keptI hk).monoI ad⟩
   | 1,_=>exact ⟨_,_,[G],rfl,Nat.lt_succ_self _,ac,rfl,(fun j hj=>by rw [Nat.lt_one_iff.1 hj];exact ba E 1 rfl),G,rfl,(t2.keptI hk).monoI ad⟩
   | 2,_=>exact ⟨_,_,[I],rfl,Nat.lt_succ_self _,ac,rfl,(fun j hj=>by rw [Nat.lt_one_iff.1 hj];exact ba E 2 rfl),I,rfl,(t3.keptI hk).monoI ad⟩
  have ax:cat [h.ab.take 1,(h.ab.take (h.ae+1).toNat).drop h.bg.toNat,h.ab.drop h.bk.toNat]=kf h:=by simp [kf,cat]
  have:=ziw (A.drew.alloc (.cells #[F,G,I] 22)) (A.heap.size+1) _ _ aj (by omega) (by rw [ax];simp [kf];omega);rw [ax]at this;exact this
 have wy:IntKind.i64.wrap (h.ae+1)=h.ae+1:=ge _ (by omega) (by omega);have ak:=ag Z;have HW:=ag hW;have a4:Hid ((kf h).length<=1000000):=by show (kf h).length<=1000000;simp [kf];omega
 obtain ⟨a1,n1,c1,e1⟩:∃a n c,F=.slice a n c:=by obtain ⟨a,c,e,-⟩:=t1;exact ⟨a,_,c,e⟩
 obtain ⟨a2,n2,c2,e2⟩:∃a n c,G=.slice a n c:=by obtain ⟨a,c,e,-⟩:=t2;exact ⟨a,_,c,e⟩
 obtain ⟨a3,n3,c3,e3⟩:∃a n c,I=.slice a n c:=by obtain ⟨a,c,e,-⟩:=t3;exact ⟨a,_,c,e⟩
 have a9:=ag ay;have lw:w.heap.size<A.heap.size:=by omega
 clear ay;clear hc D Z aw t1 t2 t3 af ah ai HS hz hW a5;subst e1 e2 e3;generalize kf h=rl at*;obtain ⟨b,hb⟩:∃b,(rl.any (· != 0))=b:=⟨_,rfl⟩;rw [hb];have a0:=ag hb;clear hb;go_enter Tryz.func113,Tryz.ntmps113;go_wp2_with fail;rw [<-HW.o];refine wp_region_held_drew (S:=fun W'=>∀p:Addr,p.block<A.heap.size->W'.cell? p=A.cell? p) (by kernel_rfl) (fun p hp=>rfl) fun u=>?_;refine ta 0 (.pointer (some ⟨w.heap.size,0,none⟩)) rfl u ?_;refine ta 1 (.pointer (some ⟨X+1,0,none⟩)) rfl u ?_;refine ta 2 (.pointer (some ⟨X+1,0,none⟩)) rfl u ?_;refine ta 3 (.pointer (some ⟨X+1,0,none⟩)) rfl u ?_;refine ta 4 (.pointer (some ⟨X+1,0,none⟩)) rfl u ?_;refine ta 5 (.pointer (some ⟨X+1,0,none⟩)) rfl u ?_;refine ta 6 (.slice (some ⟨N,W,none⟩) h.ab.length O) rfl u ?_;refine ta 7 (.slice a1 n1 c1) rfl u ?_;refine ta 8 (.pointer (some ⟨w.heap.size,0,none⟩)) rfl u ?_;refine ta 9 (.pointer (some ⟨X+1,0,none⟩)) rfl u ?_;refine ta 10 (.pointer (some ⟨X+1,0,none⟩)) rfl u ?_;refine ta 11 (.pointer (some ⟨X+1,0,none⟩)) rfl u ?_;refine ta 12 (.pointer (some ⟨X+1,0,none⟩)) rfl u ?_;refine ta 13 (.pointer (some ⟨X+1,0,none⟩)) rfl u ?_;refine ta 14 (.slice (some ⟨N,W,none⟩) h.ab.length O) rfl u ?_;refine ta 15 (.pointer (some ⟨w.heap.size,0,none⟩)) rfl u ?_;refine ta 16 (.pointer (some ⟨X+1,0,none⟩)) rfl u ?_;refine ta 17 (.pointer (some ⟨X+1,0,none⟩)) rfl u ?_;refine ta 18 (.pointer (some ⟨X+1,0,none⟩)) rfl u ?_;refine ta 19 (.pointer (some ⟨X+1,0,none⟩)) rfl u ?_;refine ta 20 (.pointer (some ⟨X+1,3,none⟩)) rfl u ?_;refine ta 21 (.int .i64 h.bg) rfl u ?_;refine ta 22 (.pointer (some ⟨w.heap.size,0,none⟩)) rfl u ?_;refine ta 23 (.pointer (some ⟨X+1,0,none⟩)) rfl u ?_;refine ta 24 (.pointer (some ⟨X+1,0,none⟩)) rfl u ?_;refine ta 25 (.pointer (some ⟨X+1,0,none⟩)) rfl u ?_;refine ta 26 (.pointer (some ⟨X+1,0,none⟩)) rfl u ?_;refine ta 27 (.pointer (some ⟨X+1,1,none⟩)) rfl u ?_;refine ta 28 (.int .i64 h.ae) rfl u ?_;refine ta 29 (.int .i64 (h.ae+1)) rfl u ?_;refine ta 30 (.slice a2 n2 c2) rfl u ?_;refine ta 31 (.pointer (some ⟨w.heap.size,0,none⟩)) rfl u ?_;refine ta 32 (.pointer (some ⟨X+1,0,none⟩)) rfl u ?_;refine ta 33 (.pointer (some ⟨X+1,0,none⟩)) rfl u ?_;refine ta 34 (.pointer (some ⟨X+1,0,none⟩)) rfl u ?_;refine ta 35 (.pointer (some ⟨X+1,0,none⟩)) rfl u ?_;refine ta 36 (.pointer (some ⟨X+1,0,none⟩)) rfl u ?_;refine ta 37 (.slice (some ⟨N,W,none⟩) h.ab.length O) rfl u ?_;refine ta 38 (.pointer (some ⟨w.heap.size,0,none⟩)) rfl u ?_;refine ta 39 (.pointer (some ⟨X+1,0,none⟩)) rfl u ?_;refine ta 40 (.pointer (some ⟨X+1,0,none⟩)) rfl u ?_;refine ta 41 (.pointer (some ⟨X+1,0,none⟩)) rfl u ?_;refine ta 42 (.pointer (some ⟨X+1,0,none⟩)) rfl u ?_;refine ta 43 (.pointer (some ⟨X+1,4,none⟩)) rfl u ?_;refine ta 44 (.int .i64 h.bk) rfl u ?_;refine ta 45 (.slice a3 n3 c3) rfl u ?_;refine wpAnyH_ready (rs:=[46]) (by kernel_rfl) (by simp) ?_;refine AllReadyH.cons rfl (fun bb aq=>?_) AllReadyH.nil;go_simp;refine aq.o _ _ (fun p hp=>Below.cell (B:=A.heap.size) (w:=A) ((br _ _).drew.alloc (nlq _) _) hp) fun u=>?_;refine wpAnyH_ready (rs:=[47]) (by kernel_rfl) (by simp) ?_;refine AllReadyH.cons rfl (fun bc ar=>?_) AllReadyH.nil;go_simp;refine an.o.mono ?_;rintro r Y ⟨au,v3,rfl,J⟩;have aa:Below A.heap.size A Y:=L.o.trans (au.mono L.o.size);refine ar.o _ _ (fun p hp=>aa.cell hp) fun u=>?_;refine ta 48 (v3) rfl u ?_;refine wpAnyH_done (by kernel_rfl) ?_ _;clear u;simp only [Act.put,p1q,p4q,p3q,p2q,p5q,p6q];have al:Hid (Below w.heap.size w Y):=ak.o.trans (aa.mono ak.o.size);have ao:Hid (Calls Tryz.prog 174 #[v3,.func (.func 175) #[] #[]] Y fun r w'=>r=.returned (.bool b)/\Below Y.heap.size Y w'):=by rw [<-a0.o];have aj:=(zfb J a4.o).monoI (M':=(· <Y.heap.size)) fun k hk=>hk.lt;refine zhy Y Y.heap.size v3 rl aj (nlq _) 175 #[] #[] (· != 0) (fun args w=>by kernel_rfl) ?_;intro x hx V hV;exact zix V x
 clear au aa J m0 m1 m3 m4 r1 r2 r3 an L hp;go_wp2_with fail;refine ao.o.mono ?_;rintro r w5 ⟨rfl,av⟩;have az:Hid (Below w.heap.size w w5):=al.o.trans (av.mono al.o.size);clear av ao;go_wp2_with fail;go_ret;exact ⟨rfl,az.o⟩
end Go.Proofs.YtjdnmblggdobgaaGreat
