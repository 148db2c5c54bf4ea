import Derived.Test.YtcddpmappmjilaaGreatDoorJCatchLMem
namespace Go.Proofs.YtcddpmappmjilaaGreatDoor
open Go.RowKit
def MT (B:Nat) (T:List Nat) (w:World) (k:Nat):Prop:=B<=k/\∃c t fr,w.heap[k]? =some (.cells c t fr)/\t∈T/\fr=(0,0)
structure Stp (B:Nat) (T:List Nat) (w w':World):Prop where
 size:w.heap.size<=w'.heap.size
 block:∀k,MT B T w k->w'.heap[k]? =w.heap[k]?
theorem MT.lt {B:Nat} {T:List Nat} {w:World} {k:Nat} (h:MT B T w k):k<w.heap.size:=by
 obtain ⟨_,c,t,fr,h,_⟩:=h
 exact (Array.getElem?_eq_some_iff.1 h).1
theorem MT.step {B:Nat} {T:List Nat} {w w':World} {k:Nat} (h:MT B T w k) (hs:Stp B T w w'):MT B T w' k:=by
 have e:=hs.block k h
 obtain ⟨h1,c,t,fr,h2,h3⟩:=h
 exact ⟨h1,c,t,fr,e.trans h2,h3⟩
theorem MT.more {B B':Nat} {T T':List Nat} {w:World} {k:Nat} (h:MT B T w k) (hB:B'<=B) (hT:∀t∈T,t∈T'):MT B' T' w k:=by
 obtain ⟨h1,c,t,fr,h2,h3⟩:=h
 exact ⟨Nat.le_trans hB h1,c,t,fr,h2,hT t h3.1,h3.2⟩
theorem Stp.kp {B:Nat} {T:List Nat} {w w':World} (h:Stp B T w w'):Kp (MT B T w) w w':=⟨h.size,fun b hb _=>h.block b hb⟩
theorem Stp.grown {B:Nat} {T:List Nat} {w w':World} {b:Nat} (hg:w.grownBy w' (some b)) (hb:b<B):Stp B T w w':=⟨hg.size,fun k hk=>hg.block k hk.lt (by have:=hk.1;simp;omega)⟩
theorem Stp.row {B:Nat} {T:List Nat} {w w':World} {v:Value} {B' e n len:Nat} {xs:List Value} (hg:w.grownBy w' v.ownBlock) (ho:w.ownsRow B' e n v len xs) (he:e∉T):Stp B T w w':=
 ⟨hg.size,fun k hk=>hg.block k hk.lt (fun e'=>by
  obtain ⟨_,c,t,fr,h2,h3⟩:=hk
  rcases ho.2 with ⟨rfl,_⟩ | ⟨g,cap,cur,rfl,_,h4,_⟩
  ·
   cases e'
  cases e'
  rw [h4]at h2
  cases h2
  exact he h3.1)⟩
theorem Stp.alloc {B:Nat} {T:List Nat} {w w':World} (h:Stp B T w w') (o:Obj):Stp B T w (w'.alloc o):=
 ⟨Nat.le_trans h.size (by simp),fun k hk=>(Below.heap_alloc _ _ _ (Nat.lt_of_lt_of_le hk.lt h.size)).trans (h.block k hk)⟩
theorem Stp.refl (B:Nat) (T:List Nat) (w:World):Stp B T w w:=⟨Nat.le_refl _,fun _ _=>rfl⟩
theorem Stp.trans {B:Nat} {T:List Nat} {a b c:World} (h:Stp B T a b) (k:Stp B T b c):Stp B T a c:=⟨Nat.le_trans h.size k.size,fun i hi=>(k.block i (hi.step h)).trans (h.block i hi)⟩
theorem Stp.set {B:Nat} {T:List Nat} {w:World} {k t:Nat} {c:Array Value} {fr:Nat×Nat} (h:w.heap[k]? =some (.cells c t fr)) (ht:t∉T) (j:Nat) (v:Value):Stp B T w (w.setCell ⟨k,j,none⟩ v):=
 ⟨by simp [World.setCell],fun i hi=>Below.heap_setCell _ _ _ _ (fun e=>by
  obtain ⟨_,c',t',fr',h2,h3⟩:=hi
  rw [show i=k from e,h]at h2
  cases h2
  exact ht h3.1)⟩
theorem Stp.below {B:Nat} {T:List Nat} {w w':World} (h:Below w.heap.size w w'):Stp B T w w':=⟨h.size,fun k hk=>h.block k hk.lt⟩
theorem SL.stpK {B:Nat} {T:List Nat} {w w':World} {v:Value} {l:List KindD} (h:SL 2 RK (MT B T w) w v l) (hs:Stp B T w w'):SL 2 RK (MT B T w') w' v l:=(h.keptK hs.kp).monoK fun _ hk=>hk.step hs
theorem SL.stpF {B:Nat} {T:List Nat} {w w':World} {v:Value} {l:List FieldD} (h:SL 3 RF (MT B T w) w v l) (hs:Stp B T w w'):SL 3 RF (MT B T w') w' v l:=(h.keptF hs.kp).monoF fun _ hk=>hk.step hs
theorem SL.stpH {B:Nat} {T:List Nat} {w w':World} {v:Value} {l:List HandD} (h:SL 4 RH (MT B T w) w v l) (hs:Stp B T w w'):SL 4 RH (MT B T w') w' v l:=(h.keptH hs.kp).monoH fun _ hk=>hk.step hs
theorem SL.stpM {B:Nat} {T:List Nat} {w w':World} {v:Value} {l:List MethD} (h:SL 9 RM (MT B T w) w v l) (hs:Stp B T w w'):SL 9 RM (MT B T w') w' v l:=(h.keptM hs.kp).monoM fun _ hk=>hk.step hs
theorem RM.stp {B:Nat} {T:List Nat} {w w':World} {cs:List Value} {m:MethD} (h:RM (MT B T w) w cs m) (hs:Stp B T w w'):RM (MT B T w') w' cs m:=(h.kept hs.kp).mono fun _ hk=>hk.step hs
theorem RC.stp {B:Nat} {T:List Nat} {w w':World} {cs:List Value} {m:ClassD} (h:RC (MT B T w) w cs m) (hs:Stp B T w w'):RC (MT B T w') w' cs m:=(h.kept hs.kp).mono fun _ hk=>hk.step hs
theorem flat_get {α:Type} {n:Nat} (f:α->List Value):∀(zs:List α) (k j:Nat),(∀z∈zs,(f z).length=n)->(hk:k<zs.length)->j<n->(zs.flatMap f)[k*n+j]? =(f zs[k])[j]?
 | [],k,j,_,hk,_=>by cases hk
 | z::zs,k,j,h,hk,hj=>by
   have h0:=h z (by simp)
   rw [List.flatMap_cons]
   match k,hk with
   | 0,_=>
     rw [List.getElem?_append_left (by omega)]
     simp
   | k+1,hk=>
     rw [List.getElem?_append_right (by rw [h0,Nat.add_mul];omega),h0,show (k+1)*n+j - n=k*n+j by rw [Nat.add_mul];omega]
     exact flat_get f zs k j (fun y hy=>h y (by simp [hy])) (by simpa using hk) hj
theorem own_SL {α:Type} {n:Nat} {R:(Nat->Prop)->World->List Value->α->Prop} {B e:Nat} {T:List Nat} {w:World} {v:Value} {zs:List (List Value×α)} (ho:w.ownsRow B e n v zs.length (zs.flatMap (·.1)))
 (h:∀z∈zs,z.1.length=n/\R (MT B T w) w z.1 z.2) (he:e∈T) (hl:zs.length<=maxLen):SL n R (MT B T w) w v (zs.map (·.2)):=by
 rcases ho.2 with ⟨rfl,hn⟩ | ⟨g,cap,cur,rfl,hB,hg,hc,_⟩
 ·
  have:zs= []:=List.eq_nil_of_length_eq_zero hn
  subst this
  exact ⟨none,0,rfl,Nat.le_refl _,hl,fun k hk=>by cases hk⟩
 refine ⟨some ⟨g,0,none⟩,cap,by simp,by simpa using hc,by simpa using hl,fun k hk=>?_⟩
 have hk':k<zs.length:=by simpa using hk
 have hz:=h _ (List.getElem_mem hk')
 refine ⟨g,0,zs[k].1,rfl,⟨hB,cur,e,_,hg,he,rfl⟩,(Array.getElem?_eq_some_iff.1 hg).1,hz.1,fun j hj=>?_,by simpa using hz.2⟩
 have hj':j<zs[k].1.length:=by omega
 have:=ho.cells (g:=g) rfl (k*n+j) (zs[k].1[j]) (by rw [flat_get (n:=n) (fun z:List Value×α=>z.1) zs k j (fun z hz'=>(h z hz').1) hk' hj];simp [hj'])
 rw [List.getElem?_eq_getElem hj',<-this]
 simp [Addr.add]
 split
 ·
  rename_i hz0
  rw [hz0.1,hz0.2]
 rfl
theorem snoc_flat {α:Type} (zs:List (List Value×α)) (c:List Value) (x:α):(zs++ [(c,x)]).flatMap (·.1)=zs.flatMap (·.1)++c:=by simp
end Go.Proofs.YtcddpmappmjilaaGreatDoor
namespace Go.Proofs.YtcddpmappmjilaaGreatDoor
open Go.RowKit
def NF (B:Nat) (w:World) (k:Nat):Prop:=B<=k/\∃c t,w.heap[k]? =some (.cells c t (0,0))
theorem MT.nf {B:Nat} {T:List Nat} {w:World} {k:Nat} (h:MT B T w k):NF B w k:=by
 obtain ⟨h1,c,t,fr,h2,_,h4⟩:=h
 subst h4
 exact ⟨h1,c,t,h2⟩
theorem NF.lt {B:Nat} {w:World} {k:Nat} (h:NF B w k):k<w.heap.size:=by
 obtain ⟨_,c,t,h⟩:=h
 exact lt_of h
theorem NF.kept {B:Nat} {w w':World} {k:Nat} (h:NF B w k) (e:w'.heap[k]? =w.heap[k]?):NF B w' k:=by
 obtain ⟨h1,c,t,h2⟩:=h
 exact ⟨h1,c,t,e.trans h2⟩
theorem NF.more {B B':Nat} {w:World} {k:Nat} (h:NF B w k) (hB:B'<=B):NF B' w k:=⟨Nat.le_trans hB h.1,h.2⟩
def kin (v v':Value):Prop:=v'=v\/(∃s s',v=.string s/\v'=.string s')\/(∃n n',v=.int .i64 n/\v'=.int .i64 n')
theorem kin.refl (v:Value):kin v v:=Or.inl rfl
theorem kin.trans {a b c:Value} (h:kin a b) (k:kin b c):kin a c:=by
 rcases h with rfl | ⟨s,s',rfl,rfl⟩ | ⟨s,s',rfl,rfl⟩
 ·
  exact k
 ·
  rcases k with rfl | ⟨t,t',-,rfl⟩ | ⟨t,t',e,-⟩
  ·
   exact Or.inr (Or.inl ⟨_,_,rfl,rfl⟩)
  ·
   exact Or.inr (Or.inl ⟨_,_,rfl,rfl⟩)
  cases e
 rcases k with rfl | ⟨t,t',e,-⟩ | ⟨t,t',-,rfl⟩
 ·
  exact Or.inr (Or.inr ⟨_,_,rfl,rfl⟩)
 ·
  cases e
 exact Or.inr (Or.inr ⟨_,_,rfl,rfl⟩)
theorem kin.slice {a:Option Addr} {n c:Nat} {v:Value} (h:kin (.slice a n c) v):v=.slice a n c:=by
 rcases h with h | ⟨s,s',e,-⟩ | ⟨s,s',e,-⟩
 ·
  exact h
 ·
  cases e
 cases e
theorem kin.bool {b:Bool} {v:Value} (h:kin (.bool b) v):v=.bool b:=by
 rcases h with h | ⟨s,s',e,-⟩ | ⟨s,s',e,-⟩
 ·
  exact h
 ·
  cases e
 cases e
theorem kin.string {s:ByteArray} {v:Value} (h:kin (.string s) v):∃s',v=.string s':=by
 rcases h with h | ⟨s,s',-,h⟩ | ⟨s,s',e,-⟩
 ·
  exact ⟨_,h⟩
 ·
  exact ⟨_,h⟩
 cases e
theorem kin.int {n:Int} {v:Value} (h:kin (.int .i64 n) v):∃n',v=.int .i64 n':=by
 rcases h with h | ⟨s,s',e,-⟩ | ⟨s,s',-,h⟩
 ·
  exact ⟨_,h⟩
 ·
  cases e
 exact ⟨_,h⟩
structure Spo (B:Nat) (w w':World):Prop where
 below:Below B w w'
 nf:∀k,NF B w k->NF B w' k
 cell:∀p v,w.cell? p=some v->∃v',w'.cell? p=some v'/\kin v v'
theorem Spo.size {B:Nat} {w w':World} (h:Spo B w w'):w.heap.size<=w'.heap.size:=h.below.size
theorem Spo.refl (B:Nat) (w:World):Spo B w w:=⟨Below.refl _ _,fun _ h=>h,fun _ v h=>⟨v,h,kin.refl v⟩⟩
theorem Spo.trans {B:Nat} {a b c:World} (h:Spo B a b) (k:Spo B b c):Spo B a c:=
 ⟨h.below.trans k.below,fun i hi=>k.nf i (h.nf i hi),fun p v hv=>by
  obtain ⟨v1,h1,k1⟩:=h.cell p v hv
  obtain ⟨v2,h2,k2⟩:=k.cell p v1 h1
  exact ⟨v2,h2,k1.trans k2⟩⟩
theorem Spo.behind {B:Nat} {a b c:World} (h:Spo B a b) (hB:B<=b.heap.size) (k:Below b.heap.size b c):Spo B a c:=
 ⟨h.below.trans (k.mono hB),fun i hi=>(h.nf i hi).kept (k.block i (h.nf i hi).lt),fun p v hv=>by
  obtain ⟨v1,h1,k1⟩:=h.cell p v hv
  exact ⟨v1,(k.cell (World.block_lt_of_cell? _ _ h1)).trans h1,k1⟩⟩
theorem Spo.alloc {B:Nat} {a b:World} (h:Spo B a b) (hB:B<=b.heap.size) (o:Obj):Spo B a (b.alloc o):=h.behind hB ((Below.refl _ _).alloc (Nat.le_refl _) o)
theorem Spo.set {B:Nat} {a b:World} (h:Spo B a b) {k j:Nat} {v u:Value} (hk:NF B b k) (hv:b.cell? ⟨k,j,none⟩=some v) (hu:kin v u):Spo B a (b.setCell ⟨k,j,none⟩ u):=by
 refine h.trans ⟨(Below.refl _ _).setCell hk.1 u,fun i hi=>?_,fun p x hx=>?_⟩
 ·
  by_cases e:i=k
  ·
   subst e
   obtain ⟨h1,c,t,h2⟩:=hi
   exact ⟨h1,_,t,by simp [World.setCell,Array.getElem?_modify,h2];rfl⟩
  exact hi.kept (Below.heap_setCell _ _ _ _ e)
 by_cases e:p=⟨k,j,none⟩
 ·
  subst e
  rw [hv]at hx
  cases hx
  exact ⟨u,World.cell?_setCell_same _ _ _ hv,hu⟩
 exact ⟨x,(World.cell?_setCell_other _ _ _ _ (Ne.symm e)).trans hx,kin.refl x⟩
theorem Spo.drewN {B:Nat} {a b:World} (h:Spo B a b) (n:Nat):Spo B a (b.drewN n):=⟨⟨h.below.os,h.below.tape,h.below.output,h.below.size,h.below.block⟩,h.nf,h.cell⟩
section
variable {B:Nat} {w W:World} {ao:Option Addr} {len cap k:Nat}
theorem Spo.slice (hp:Spo B w W) {p:Addr} {a:Option Addr} {n c:Nat} (h:w.cell? p=some (.slice a n c)):W.cell? p=some (.slice a n c):=by
 obtain ⟨v,h1,h2⟩:=hp.cell p _ h
 rw [h1,h2.slice]
theorem Spo.int (hp:Spo B w W) {p:Addr} {n:Int} (h:w.cell? p=some (.int .i64 n)):∃n',W.cell? p=some (.int .i64 n'):=by
 obtain ⟨v,h1,h2⟩:=hp.cell p _ h
 obtain ⟨s',rfl⟩:=h2.int
 exact ⟨s',h1⟩
theorem Spo.bool (hp:Spo B w W) {p:Addr} {b:Bool} (h:w.cell? p=some (.bool b)):W.cell? p=some (.bool b):=by
 obtain ⟨v,h1,h2⟩:=hp.cell p _ h
 rw [h1,h2.bool]
end
section
variable {B:Nat} {w:World} {ao:Option Addr} {len cap k:Nat}
end
end Go.Proofs.YtcddpmappmjilaaGreatDoor
