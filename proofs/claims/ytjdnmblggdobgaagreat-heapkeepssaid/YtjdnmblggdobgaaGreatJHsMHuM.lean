import Derived.Test.YtjdnmblggdobgaaGreatChecked
import Derived.Ground.Names2Prog
import Derived.Shelf.Lays2
import Derived.Test.YtjdnmblggdobgaaGreatHtN
import Derived.Test.YtjdnmblggdobgaaGreatHuI
import Derived.Shelf.Spec.SlicesInsert
import Derived.Shelf.Spec.SlicesInsertGrow
set_option maxHeartbeats 2000000
set_option maxRecDepth 100000
namespace Go.Proofs.YtjdnmblggdobgaaGreat
open Go.Shelf
def Tryz.laysInsert_ren:Go.Shelf.Ren:=⟨fun | 21=>228 | 27=>269 | 28=>270 | 35=>305 | 39=>233 | n=>n,fun | 22=>22 | 3=>3 | 4=>4 | 0=>0 | n=>n,fun | n=>n⟩
theorem Tryz.laysInsert:Go.Proofs.Lays2.n21 Tryz.prog Tryz.laysInsert_ren:={
 mixed:=by kernel_rfl
 f21:=Tryz.func228.trans (congrArg some (by kernel_rfl))
 f27:=Tryz.func269.trans (congrArg some (by kernel_rfl))
 f28:=Tryz.func270.trans (congrArg some (by kernel_rfl))
 f35:=Tryz.func305.trans (congrArg some (by kernel_rfl))
 f39:=Tryz.func233.trans (congrArg some (by kernel_rfl))
 t0:=Tryz.underlying0
 a0:=Tryz.isAgg0
 z0:=Tryz.sizeOf0
 v0:=Tryz.zeroValue0
 t3:=Tryz.underlying3
 a3:=Tryz.isAgg3
 z3:=Tryz.sizeOf3
 v3:=Tryz.zeroValue3
 t4:=Tryz.underlying4
 a4:=Tryz.isAgg4
 z4:=Tryz.sizeOf4
 v4:=Tryz.zeroValue4
 t22:=Tryz.underlying22
 a22:=Tryz.isAgg22
 z22:=Tryz.sizeOf22
 v22:=Tryz.zeroValue22
 i3:=by kernel_rfl }
end Go.Proofs.YtjdnmblggdobgaaGreat
namespace Go.Proofs.YtjdnmblggdobgaaGreat
open Go.RowKit Go.Maps Go.Shelf
theorem zr3 {w:World} {b:Nat} :∀(vs:List Value) (o:Nat) {W:World},w.grownBy W (some b)->w.grownBy (W.setCells b o vs) (some b)
 | [],_,_,h=>h
 | v::r,o,_,h=>zr3 r (o+1) (za8 h ⟨b,o,none⟩ v (Or.inl rfl))
theorem zr4 {b t:Nat} :∀(vs:List Value) (o:Nat) {W:World} {cur:Array Value},W.heap[b]? =some (.cells cur t (0,0))->∃cur',(W.setCells b o vs).heap[b]? =some (.cells cur' t (0,0))/\cur'.size=cur.size
 | [],_,_,cur,h=>⟨cur,h,rfl⟩
 | v::r,o,_,cur,h=>by
   obtain ⟨c,h1,h2⟩:=zr4 r (o+1) (zg6 h (j:=o) v)
   exact ⟨c,h1,by rw [h2];simp⟩
theorem zr5 {W:World} {b t:Nat} {cur:Array Value} (h:W.heap[b]? =some (.cells cur t (0,0))) (j:Nat):W.cell? ⟨b,j,none⟩=cur[j]? :=by
 simp [World.cell?,h]
theorem zr6 {w:World} {B b t n cap:Nat} {cur:Array Value} {xs:List Value} (hb:w.heap[b]? =some (.cells cur t (0,0))) (hB:B<=b) (hs:cur.size=cap) (hn:n<=cap) (hm:cap<=maxLen) (hx:xs.length=n) (hc:∀j v,xs[j]? =some v->w.cell? ⟨b,j,none⟩=some v):
 w.ownsRow B t 1 (.slice (some ⟨b,0,none⟩) n cap) n xs:=by
 refine ⟨by rw [hx,Nat.mul_one],Or.inr ⟨b,cap,cur,rfl,hB,hb,hn,hm,by rw [hs,Nat.mul_one],?_⟩⟩
 apply List.ext_getElem?
 intro j
 rw [Nat.mul_one,List.getElem?_take]
 by_cases hj:j<n
 ·rw [if_pos hj]
  have h1:=hc j (xs[j]'(by omega)) (List.getElem?_eq_getElem (by omega))
  rw [zr5 hb]at h1
  rw [Array.getElem?_toList,h1,List.getElem?_eq_getElem (by omega)]
 rw [if_neg hj,List.getElem?_eq_none (by omega)]
theorem zr7 {w:World} {B e g cap n:Nat} {xs:List Value} (h:w.ownsRow B e 1 (.slice (some ⟨g,0,none⟩) n cap) n xs):∃cur,w.heap[g]? =some (.cells cur e (0,0))/\B<=g/\n<=cap/\cap<=maxLen/\cur.size=cap/\xs.length=n/\∀j v,xs[j]? =some v->w.cell? ⟨g,j,none⟩=some v:=by
 have hx:=h.1
 rcases h.2 with ⟨q,-⟩ | ⟨g',cap',cur,q,hB,hb,hc,hm,hs,ht⟩
 ·cases q
 cases q
 rw [Nat.mul_one]at hx hs ht
 refine ⟨cur,hb,hB,hc,hm,hs,hx,fun j v hj=>?_⟩
 rw [zr5 hb,<-Array.getElem?_toList]
 rw [<-ht,List.getElem?_take]at hj
 split at hj
 ·exact hj
 cases hj
def insAt (l:List Int) (i:Nat) (x:Int):List Int:=l.take i++x::l.drop i
theorem zr8 {l:List Int} {i:Nat} (x:Int) (h:i<=l.length):(insAt l i x).length=l.length+1:=by simp [insAt];omega
theorem zr9 (l:List Int) (j:Nat):(intV l)[j]? =(l[j]?).map fun x=>.int .i64 x:=by simp [intV]
theorem zsa (l:List Int) (i:Nat) (x:Int) (h:i<=l.length) (j:Nat):(insAt l i x)[j]? =if j<i then l[j]? else if j=i then some x else l[j - 1]? :=by
 unfold insAt
 by_cases h1:j<i
 ·rw [if_pos h1,List.getElem?_append_left (by simp;omega),List.getElem?_take,if_pos h1]
 rw [if_neg h1,List.getElem?_append_right (by simp;omega)]
 have e:(l.take i).length=i:=by simp;omega
 rw [e]
 by_cases h2:j=i
 ·rw [if_pos h2,h2,Nat.sub_self];rfl
 rw [if_neg h2]
 obtain ⟨m,hm⟩:∃m,j - i=m+1:=⟨j - i - 1,by omega⟩
 rw [hm,List.getElem?_cons_succ,List.getElem?_drop,show i+m=j - 1 by omega]
theorem zsb {W:World} {b t:Nat} {cur:Array Value} (h:W.heap[b]? =some (.cells cur t (0,0))) (o:Nat) (vs:List Value) (hs:o+vs.length<=cur.size) (j:Nat):(W.setCells b o vs).cell? ⟨b,j,none⟩=if o<=j/\j<o+vs.length then vs[j - o]? else W.cell? ⟨b,j,none⟩:=by
 by_cases hj:o<=j/\j<o+vs.length
 ·rw [if_pos hj]
  have:=World.cell?_setCells_in b vs o W (fun k hk=>by rw [zr5 h,Array.getElem?_eq_getElem (by omega)];rfl) (j - o) (by omega)
  rw [show o+(j - o)=j by omega]at this
  rw [this,List.getElem?_eq_getElem (by omega)]
 rw [if_neg hj]
 exact World.cell?_setCells_out b vs o W ⟨b,j,none⟩ (fun _ _=>by show j<o\/_<=j;omega)
theorem zsc {w w':World} (h:Below w.heap.size w w') (r:Option Nat):w.grownBy w' r:=⟨h.os,h.tape,h.output,h.size,fun k hk _=>h.block k hk⟩
def InsOut (w:World) (base:Nat) (v:Value) (l:List Int) (i:Nat) (x:Int) (r:Ending) (w':World):Prop:=
 ∃a c,r=.returned (.slice a (l.length+1) c)/\w'.ownsRow base 3 1 (.slice a (l.length+1) c) (l.length+1) (intV (insAt l i x))/\w.grownBy w' v.ownBlock/\((Value.slice a (l.length+1) c).ownBlock=v.ownBlock\/(Value.slice a (l.length+1) c).ownBlock=some w.heap.size)
theorem zsd (l:List Int):∀v∈intV l,v.oneCell'=true:=by
 intro u hu
 obtain ⟨z,-,rfl⟩:=List.mem_map.1 hu
 rfl
theorem zse (w:World) (base q:Nat) (v:Value) (l:List Int) (i:Nat) (x:Int) (hown:w.ownsRow base 3 1 v l.length (intV l)) (hq:w.heap[q]? =some (.cells #[.int .i64 x] 3 (0,0))) (hqv:v.ownBlock≠some q) (hi:i<=l.length) (hl:l.length<=1000000) (hb:base<=w.heap.size):
 Calls Tryz.prog 228 #[v,.int .i64 (i:Int),.slice (some ⟨q,0,none⟩) 1 1] w fun r w'=>InsOut w base v l i x r w':=by
 have hx:∀(j:Nat) (u:Value),[Value.int .i64 x][j]? =some u->w.cell? ⟨q,0+j,none⟩=some u:=fun j u hj=>by
  rw [Nat.zero_add,zr5 hq]
  simpa using hj
 have h1v:∀u∈ [Value.int .i64 x],u.oneCell'=true:=zsd [x]
 have hml:maxLen=9223372036854775807:=rfl
 have grown:∀(W:World) (c:Nat) (cur:Array Value),W.heap[w.heap.size]? =some (.cells cur 3 (0,0))->cur.size=grownCap w (l.length+1) c 3->w.grownBy W v.ownBlock->(∀j u,(intV (insAt l i x))[j]? =some u->W.cell? ⟨w.heap.size,j,none⟩=some u)->
  InsOut w base v l i x (.returned (.slice (some ⟨w.heap.size,0,none⟩) (l.length+1) (grownCap w (l.length+1) c 3))) W:=fun W c cur h1 h2 h3 h4=>
  ⟨_,_,rfl,zr6 h1 hb h2 (grownCap_ge _ _ _ _) (grownCap_le_maxLen _ _ _ _ (by omega)) (by rw [ziq,zr8 x hi]) h4,h3,Or.inr rfl⟩
 have hpure:∀o:Obj,w.grownBy (w.drew.alloc o) v.ownBlock:=fun o=>zsc ((Below.refl w.heap.size w).drew.alloc (Nat.le_refl _) o) _
 have hins:=zsa l i x hi
 have endG:∀(bs:Option Addr) (c:Nat),v=.slice bs l.length c->i=l.length->l.length<=c->c<l.length+1->(bs=none->l.length=0)->(∀a,bs=some a->∀(j:Nat) (u:Value),(intV l)[j]? =some u->w.cell? (a.add j)=some u)->Calls Tryz.prog 228 #[v,.int .i64 (i:Int),.slice (some ⟨q,0,none⟩) 1 1] w fun r w'=>InsOut w base v l i x r w':=by
  intro bs c hv hin hnc hroom hnil hcs
  subst hin
  rw [hv]
  rw [hv]at grown hpure
  refine (Any2.slices_Insert_int_end_grow Tryz.laysInsert bs l.length c q 0 1 1 (intV l) [.int .i64 x] w (by omega) hnc hroom (by omega) (ziq l) rfl hnil hcs hx h1v).mono ?_
  rintro r w' ⟨rfl,rfl⟩
  have hcap:=grownCap_ge w (l.length+1) c 3
  have hbk:=heap_alloc_new w.drew (.cells ((intV l++ [Value.int .i64 x]).toArray++Builtin.zeroCells (Value.int .i64 0).cells (grownCap w (l.length+1) c 3 - (l.length+1))) 3)
  refine grown _ c _ hbk (by simp [size_zeroCells,Value.cells,ziq];omega) (hpure _) (fun j u hj=>?_)
  have h0:(insAt l l.length x)[j]? ≠none:=fun e=>by rw [zr9,e]at hj;cases hj
  have hjl:j<l.length+1:=by
   rcases Nat.lt_or_ge j (l.length+1)with h | h
   ·exact h
   exact absurd (List.getElem?_eq_none (by rw [zr8 x hi];exact h)) h0
  have hcl:=zr5 hbk j
  have e2:intV (insAt l l.length x)=intV l++ [Value.int .i64 x]:=by unfold insAt;simp [intV]
  rw [e2]at hj
  refine hcl.trans ?_
  rw [Array.getElem?_append_left (by simp [ziq];omega)]
  simpa using hj
 rcases hown.2 with ⟨hv,hn0⟩ | ⟨g,cap,cur0,hv,-⟩
 ·have hl0:l= []:=List.length_eq_zero_iff.1 hn0
  refine endG none 0 (by rw [hv,hn0]) (by omega) (by omega) (by omega) (fun _=>hn0) (fun a e=>by cases e)
 rw [hv]at hown
 obtain ⟨cur,hbk,hBg,hnc,hcm,hcs,hxl,hcell⟩:=zr7 hown
 have hgq:q≠g:=fun e=>hqv (by rw [hv,e];rfl)
 have hgw:=lt0 hbk
 have hob:v.ownBlock=some g:=by rw [hv];rfl
 by_cases hin:i=l.length
 ·by_cases hroom:l.length+1<=cap
  ·subst hin
   rw [hv]
   refine (Any2.slices_Insert_int_end_room Tryz.laysInsert g 0 l.length cap q 0 1 1 [.int .i64 x] w (by omega) hroom (by omega) rfl (fun j hj=>by rw [zr5 hbk,Array.getElem?_eq_getElem (by omega)];rfl) (fun j _=>zcf hbk _) hx h1v).mono ?_
   rintro r w' ⟨rfl,rfl⟩
   obtain ⟨cur',hb',hs'⟩:=zr4 [Value.int .i64 x] (0+l.length) hbk
   refine ⟨_,_,rfl,zr6 hb' hBg (by rw [hs',hcs]) hroom hcm (by rw [ziq,zr8 x hi]) (fun j u hj=>?_),?_,Or.inl rfl⟩
   ·rw [zsb hbk (0+l.length) _ (by simp;omega)]
    rw [zr9,hins]at hj
    by_cases h1:j<l.length
    ·rw [if_pos h1]at hj
     rw [if_neg (by omega)]
     exact hcell j u (by rw [zr9];exact hj)
    rw [if_neg h1]at hj
    by_cases h2:j=l.length
    ·rw [if_pos h2]at hj
     rw [if_pos (by simp;omega),show j - (0+l.length)=0 by omega]
     exact hj
    rw [if_neg h2,List.getElem?_eq_none (by omega)]at hj
    cases hj
   exact zr3 _ _ (World.grownBy.refl _ _)
  exact endG (some ⟨g,0,none⟩) cap hv hin hnc (by omega) (fun e=>by cases e) (fun a e j u hj=>by
   cases e
   rw [zg1,Nat.zero_add]
   exact hcell j u hj)
 have hil:i<l.length:=by omega
 have hdl:((intV l).drop i).length=l.length - i:=by rw [List.length_drop,ziq]
 by_cases hroom:l.length+1<=cap
 ·rw [hv]
  refine (Any2.slices_Insert_int_shift Tryz.laysInsert g 0 l.length cap i q 0 1 1 (intV l) [.int .i64 x] w hil (by omega) hroom (by omega) hgq (ziq l) rfl (fun j u hj=>by rw [Nat.zero_add];exact hcell j u hj) (fun j hj=>by rw [Nat.zero_add,zr5 hbk,Array.getElem?_eq_getElem (by omega)];rfl) (fun j _=>zcf hbk _) hx (zsd l) h1v
   3 3 1 cap (by simp [World.shape?,hq]) (by simp [World.shape?,hbk,hcs]) (by omega) (zcf hq _) (zcf hq _)).mono ?_
  rintro r w' ⟨rfl,rfl⟩
  have hbd:w.drew.heap[g]? =some (.cells cur 3 (0,0)):=hbk
  obtain ⟨cur1,hb1,hs1⟩:=zr4 ((intV l).drop i) (0+(i+1)) hbd
  obtain ⟨cur2,hb2,hs2⟩:=zr4 [Value.int .i64 x] (0+i) hb1
  have hgd:w.grownBy w.drew (some g):=⟨rfl,rfl,rfl,Nat.le_refl _,fun _ _ _=>rfl⟩
  refine ⟨_,_,rfl,zr6 hb2 hBg (by rw [hs2,hs1,hcs]) hroom hcm (by rw [ziq,zr8 x hi]) (fun j u hj=>?_),?_,Or.inl rfl⟩
  ·rw [zsb hb1 (0+i) _ (by rw [hs1];simp;omega),zsb hbd (0+(i+1)) _ (by rw [hdl];omega),hdl]
   rw [zr9,hins]at hj
   by_cases h1:j<i
   ·rw [if_pos h1]at hj
    rw [if_neg (by simp;omega),if_neg (by omega)]
    exact hcell j u (by rw [zr9];exact hj)
   rw [if_neg h1]at hj
   by_cases h2:j=i
   ·rw [if_pos h2]at hj
    rw [if_pos (by simp;omega),show j - (0+i)=0 by omega]
    exact hj
   rw [if_neg h2]at hj
   have hjl:j - 1<l.length:=by
    rcases Nat.lt_or_ge (j - 1) l.length with h | h
    ·exact h
    rw [List.getElem?_eq_none h]at hj;cases hj
   rw [if_neg (by simp;omega),if_pos (by omega),List.getElem?_drop,show i+(j - (0+(i+1)))=j - 1 by omega,zr9]
   exact hj
  exact zr3 _ _ (zr3 _ _ hgd)
 rw [hv]
 rw [hv]at grown
 refine (Any2.slices_Insert_int_grow Tryz.laysInsert g 0 l.length cap i q 0 1 1 (intV l) [.int .i64 x] w hil (by omega) hnc (by omega) (by omega) (ziq l) rfl (fun j u hj=>by rw [Nat.zero_add];exact hcell j u hj) hx (zsd l) h1v).mono ?_
 rintro r w' ⟨rfl,rfl⟩
 have hcap:=grownCap_ge w (l.length+1) cap 3
 obtain ⟨A,hA⟩:∃A,A=((intV l).take i).toArray++Builtin.zeroCells (Value.int .i64 0).cells (l.length+1 - i)++Builtin.zeroCells (Value.int .i64 0).cells (grownCap w (l.length+1) cap 3 - (l.length+1)):=⟨_,rfl⟩
 have hAs:A.size=grownCap w (l.length+1) cap 3:=by rw [hA];simp [size_zeroCells,Value.cells,ziq];omega
 have hAj:∀j,j<i->A[j]? =(intV l)[j]? :=fun j hj=>by
  rw [hA,Array.append_assoc,Array.getElem?_append_left (by simp [ziq];omega)]
  simp [hj]
 have hb0:(w.alloc (.cells A 3)).drew.heap[w.heap.size]? =some (.cells A 3 (0,0)):=heap_alloc_new w _
 show InsOut w base _ l i x _ ((((w.alloc (.cells (((intV l).take i).toArray++Builtin.zeroCells (Value.int .i64 0).cells (l.length+1 - i)++Builtin.zeroCells (Value.int .i64 0).cells (grownCap w (l.length+1) cap 3 - (l.length+1))) 3)).drew.setCells w.heap.size i [.int .i64 x]).drew).setCells w.heap.size (i+1) ((intV l).drop i))
 rw [<-hA]
 obtain ⟨cur1,hb1,hs1⟩:=zr4 [Value.int .i64 x] i hb0
 have hb1':((w.alloc (.cells A 3)).drew.setCells w.heap.size i [.int .i64 x]).drew.heap[w.heap.size]? =some (.cells cur1 3 (0,0)):=hb1
 obtain ⟨cur2,hb2,hs2⟩:=zr4 ((intV l).drop i) (i+1) hb1'
 refine grown _ cap cur2 hb2 (by rw [hs2,hs1,hAs]) ?_ (fun j u hj=>?_)
 ·have hbl:∀(vs:List Value) (o:Nat) (V:World),Below w.heap.size w V->Below w.heap.size w (V.setCells w.heap.size o vs):=fun vs=>by
   induction vs with
   | nil=>exact fun _ _ h=>h
   | cons u r ih=>exact fun o V h=>ih (o+1) _ (bg0 h (za8 (World.grownBy.refl _ _) ⟨w.heap.size,o,none⟩ u (Or.inl rfl)) (Nat.le_refl _))
  exact zsc (hbl _ _ _ (hbl _ _ _ ((Below.refl w.heap.size w).alloc (Nat.le_refl _) _).drew).drew) _
 rw [zsb hb1' (i+1) _ (by rw [hdl,hs1,hAs];omega),hdl]
 have hcd:∀k,((w.alloc (.cells A 3)).drew.setCells w.heap.size i [.int .i64 x]).drew.cell? ⟨w.heap.size,k,none⟩=((w.alloc (.cells A 3)).drew.setCells w.heap.size i [.int .i64 x]).cell? ⟨w.heap.size,k,none⟩:=fun _=>rfl
 rw [hcd,zsb hb0 i _ (by rw [hAs];simp;omega),zr5 hb0]
 rw [zr9,hins]at hj
 by_cases h1:j<i
 ·rw [if_pos h1]at hj
  rw [if_neg (by omega),if_neg (by simp;omega),hAj j h1,zr9]
  exact hj
 rw [if_neg h1]at hj
 by_cases h2:j=i
 ·rw [if_pos h2]at hj
  rw [if_neg (by omega),if_pos (by simp;omega),show j - i=0 by omega]
  exact hj
 rw [if_neg h2]at hj
 have hjl:j - 1<l.length:=by
  rcases Nat.lt_or_ge (j - 1) l.length with h | h
  ·exact h
  rw [List.getElem?_eq_none h]at hj;cases hj
 rw [if_pos (by omega),List.getElem?_drop,show i+(j - (i+1))=j - 1 by omega,zr9]
 exact hj
end Go.Proofs.YtjdnmblggdobgaaGreat
namespace Go.Proofs.YtjdnmblggdobgaaGreat
open Go.RowKit Go.Maps Go.Shelf Go.Lib
theorem zsf (w:World) (M:Nat->Prop) (v:Value) (l:List Int) (hv:SL 1 RI M w v l) (hl:l.length<=1000000) (hs:l.Pairwise (· <= ·)) (x:Int):
 Calls Tryz.prog 180 #[v,.int .i64 x] w fun r w'=>r=.returned (.tuple #[.int .i64 ((l.countP (· <x):Nat):Int),.bool (l.contains x)])/\∃q,w'=w.drewN q:=by
 have HV:=mk0 hv
 obtain ⟨ao,cap,rfl,-⟩:=hv
 cases l with
 | nil=>
   refine (Any.slices_BinarySearch_int_empty Tryz.laysSearch ao cap x w).mono ?_
   rintro r w' ⟨rfl,rfl⟩
   exact ⟨rfl,0,rfl⟩
 | cons y l=>
   obtain ⟨b,off,rfl,-,-⟩:=HV.out.atI 0 (by simp)
   have:=Any.slices_BinarySearch_int Tryz.laysSearch b off (y::l).length cap (y::l) x w (Nat.le_refl _) (by omega) (fun j hj=>by
    obtain ⟨b',off',e,-,e0⟩:=HV.out.atI j hj
    cases e
    rw [e0,List.getD_eq_getElem?_getD,List.getElem?_eq_getElem hj]
    rfl) (by rw [List.take_length];exact hs)
   rw [List.take_length]at this
   exact this
theorem zsg (x:Int):∀l:List Int,l.Pairwise (· <= ·)->l.takeWhile (fun y=>decide (y<x))=l.take (l.countP (· <x))/\l.dropWhile (fun y=>decide (y<x))=l.drop (l.countP (· <x))
 | [],_=>⟨rfl,rfl⟩
 | a::l,hp=>by
   obtain ⟨h1,h2⟩:=List.pairwise_cons.1 hp
   obtain ⟨e1,e2⟩:=zsg x l h2
   by_cases ha:a<x
   ·rw [List.countP_cons_of_pos (by simpa using ha),List.take_succ_cons,List.drop_succ_cons,<-e1,<-e2]
    simp [ha]
   have h0:(a::l).countP (· <x)=0:=by
    rw [List.countP_eq_zero]
    intro y hy
    rcases List.mem_cons.1 hy with rfl | hy
    ·simpa using ha
    have:=h1 y hy
    simp only [decide_eq_true_eq]
    omega
   rw [h0]
   simp [ha]
theorem zsh {l:List Int} {x:Int} (hp:l.Pairwise (· <= ·)) (hc:l.contains x=false):insN l x=insAt l (l.countP (· <x)) x:=by
 obtain ⟨e1,e2⟩:=zsg x l hp
 unfold insN insAt
 rw [hc,e1,e2]
 rfl
def noteH (h:HeapD) (loc:Int):HeapD:=⟨h.words,h.young,h.old,h.ytop,h.otop,insN h.noted loc,h.next⟩
theorem zsi (B:Nat) (kC kS kF kN kT:Value) (d:LinkD) (h:HeapD) (loc:Int) (hs:h.noted.Pairwise (· <= ·)) (hl:h.noted.length<=1000000):NoteOk B kC kS kF kN kT d h loc (noteH h loc):=by
 intro W b G nW nO og
 have HO:=mk0 og
 obtain ⟨aO,cO,rfl⟩:=zfz og.ov.rO
 have HSR:=mk0 (zsf W _ _ _ (zfb og.ov.rO hl) hl hs loc)
 have c5:=cl0 og.blk 5 (x:=.slice aO h.noted.length cO) rfl
 have lG:=lt0 og.blk
 cases hc:h.noted.contains loc with
 | true=>
   rw [hc]at HSR
   have HE:Hid (noteH h loc=h):=by show _=_;unfold noteH insN;rw [hc];rfl
   clear hc og
   go_enter Tryz.func188,Tryz.ntmps188
   go_wp2_with fail
   refine HSR.out.mono ?_
   rintro r w1 ⟨rfl,q,rfl⟩
   clear HSR
   go_wp2_with fail
   go_end0
   refine ⟨rfl,⟨.slice aO h.noted.length cO,?_⟩,zdq ((Below.refl W.heap.size W).mono (by have:=HO.out.gb;omega)) q⟩
   rw [HE.out]
   exact HO.out.below (zdq (Below.refl _ _) q)
 | false=>
   rw [hc]at HSR
   have HE:=mk0 (zsh hs hc)
   have hk:=List.countP_le_length (p:=fun y:Int=>decide (y<loc)) (l:=h.noted)
   generalize h.noted.countP (· <loc)=k at*
   have HKL:=mk0 hk
   have HL:=mk0 hl
   clear hc og hs hl hk
   go_enter Tryz.func188,Tryz.ntmps188
   go_wp2_with fail
   refine HSR.out.mono ?_
   rintro r w1 ⟨rfl,q,hw1⟩
   have hb1:Below W.heap.size W w1:=hw1 ▸ zdq (Below.refl _ _) q
   have o1:=HO.out.below hb1
   have e5:=cl0 o1.blk 5 (x:=.slice aO h.noted.length cO) rfl
   have l5:=lt0 o1.blk
   obtain ⟨V1,hV1⟩:∃V1,V1=w1.alloc (.cells #[.int .i64 loc] 3):=⟨_,rfl⟩
   have hA1:Below w1.heap.size w1 V1:=hV1 ▸ (Below.refl _ _).alloc (Nat.le_refl _) _
   have hq:V1.heap[w1.heap.size]? =some (.cells #[.int .i64 loc] 3 (0,0)):=hV1 ▸ heap_alloc_new w1 _
   have o2:=o1.below hA1
   have HIN:=mk0 (zse V1 b w1.heap.size (.slice aO h.noted.length cO) h.noted k loc o2.ov.rO hq (fun e=>by have:=(o1.ov.rO.lt _ e).2;omega) HKL.out HL.out (by have:=o2.gb;have:=lt0 o2.blk;omega))
   have HV1:=mk0 hV1
   have HO2:=mk0 o2
   have HB2:=mk0 (hb1.trans (hA1.mono hb1.size))
   clear HSR c5 lG o1 o2 hq hA1 hb1 hw1 hV1
   go_wp2_with fail
   rw [<-HV1.out]
   refine HIN.out.mono ?_
   rintro r w2 ⟨aN,cN',rfl,hon,hgr,hor⟩
   have hGb:=HO2.out.gb
   have hBb:=HO2.out.le
   have lG1:=lt0 HO2.out.blk
   have k2:=(hgr.block G lG1 (fun e=>HO2.out.neO e.symm)).trans HO2.out.blk
   have r5:=cl0 k2 5 (x:=.slice aO h.noted.length cO) rfl
   have z5:=zcf k2 5
   have l2:=lt0 k2
   obtain ⟨W3,hW3⟩:∃W3,W3=w2.setCell ⟨G,5,none⟩ (.slice aN (h.noted.length+1) cN'):=⟨_,rfl⟩
   have hg3:w2.grownBy W3 (some G):=hW3 ▸ za8 (World.grownBy.refl _ _) _ _ (Or.inl rfl)
   have k3:=zg6 k2 (j:=5) (.slice aN (h.noted.length+1) cN')
   rw [<-hW3]at k3
   have hlen:(noteH h loc).noted.length=h.noted.length+1:=by show (insN h.noted loc).length=_;rw [HE.out];exact zr8 loc HKL.out
   have hneG:(Value.slice aN (h.noted.length+1) cN').ownBlock≠some G:=fun e=>by
    rcases hor with q1 | q1
    ·rw [q1]at e;exact HO2.out.neO e
    rw [q1]at e;have:=Option.some.inj e;omega
   have hbW:∀j,(Value.slice aO h.noted.length cO).ownBlock=some j->b<=j:=fun j e=>(HO2.out.ov.rO.lt j e).1
   have hB2:Below b W w2:=(HB2.out.mono (by have:=HO.out.gb;have:=lt0 HO.out.blk;omega)).grown hgr (by omega) hbW
   have hB3:Below b W W3:=hB2.grown hg3 (by have:=hgr.size;omega) (fun j e=>by cases e;exact hGb)
   have hrW:W3.ownsRow b 3 1 nW h.words.length (intV h.words):=by
    refine (HO2.out.ov.rW.kept hgr ?_).kept hg3 (Or.inr HO2.out.neW)
    cases e:nW.ownBlock with
    | none=>exact Or.inl rfl
    | some j=>exact Or.inr (fun e2=>HO2.out.ov.ne j e e2.symm)
   have HF:Hid (Og b B W3 G nW (.slice aN (h.noted.length+1) cN') kC kS kF kN kT (noteH h loc) d):=by
    refine ⟨k3,⟨hrW,?_,fun j e1 e2=>?_⟩,?_,hBb,hGb,HO2.out.neW,hneG⟩
    ·rw [hlen]
     show W3.ownsRow b 3 1 _ _ (intV (insN h.noted loc))
     rw [HE.out]
     exact hon.kept hg3 (Or.inr hneG)
    ·rcases hor with q1 | q1
     ·rw [q1]at e2;exact HO2.out.ov.ne j e1 e2
     rw [q1]at e2;have:=Option.some.inj e2;have:=(HO2.out.ov.rW.lt j e1).2;omega
    refine (HO2.out.lk.kept ⟨hgr.size,fun j hj hlj=>hgr.block j hlj (fun e=>?_)⟩).kept ⟨hg3.size,fun j hj hlj=>hg3.block j hlj (fun e=>?_)⟩
    ·have h1:=hbW j e.symm
     have:j<B:=hj
     omega
    injection e with e
    have:j<B:=hj
    omega
   have HB3:=mk0 hB3
   have hv3:=hW3.symm
   clear hW3 hg3 k3 hneG hbW hB2 hB3 hrW hon hgr hor k2 hlen HIN
   go_wp2_with fail
   go_end0
   exact ⟨rfl,⟨_,HF.out⟩,HB3.out⟩
end Go.Proofs.YtjdnmblggdobgaaGreat
