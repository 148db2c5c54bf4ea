import Derived.Test.YtjdnmblggdobgaaGreatJHtHHuC
import Derived.Test.YtjdnmblggdobgaaGreatJHqBHvA
import Derived.Deep.RegionHeld
import Derived.Test.YtjdnmblggdobgaaGreatJHtBHtF
import Derived.Test.YtjdnmblggdobgaaGreatJTk2Dies
import Derived.Test.YtjdnmblggdobgaaGreatChecked
import Derived.Ground.Names2Prog
import Derived.Shelf.Lays2
import Derived.Shelf.Spec.SlicesInsert
import Derived.Shelf.Spec.SlicesInsertGrow
import Derived.Deep.RegionLawGrows
import Derived.Test.YtjdnmblggdobgaaGreatJLPu5HuE
import Derived.Test.YtjdnmblggdobgaaGreatJHmCBx
import Derived.Test.YtjdnmblggdobgaaGreatJLSaLTie
import Derived.DataShut
namespace Go.Proofs.YtjdnmblggdobgaaGreat
open Go.RowKit Go.Maps

end Go.Proofs.YtjdnmblggdobgaaGreat
namespace Go.Proofs.YtjdnmblggdobgaaGreat
section
variable (P:Program) (md:Region.Mode) (ops:Array Oper) (Q:Exit->Act->World->Prop) (T:World->Prop) (st:Nat)
def Til:Nat->Array Bool->Act->World->Prop
 | 0,l,a,w=>Region.ready md ops l= []/\Q .normal a w
 | n+1,l,a,w=>(Region.ready md ops l= []->Q .normal a w)/\∀j∈Region.ready md ops l,wpOp P ops Q j (fun a' w'=>(j≠st->l.getD st true=false->T w')/\Til n (l.setIfInBounds j true) a' w') a w
def waitsB (i:Nat):Bool:=match ops[st]? with | some o=>o.after.any fun e=>Region.binds md e&&e.on==i | none=>false
end
section
variable {P:Program} {md:Region.Mode} {ops:Array Oper} {Q:Exit->Act->World->Prop} {T:World->Prop} {st:Nat}
theorem zry:∀(n:Nat) (l:Array Bool) (a:Act) (w:World),Til P md ops Q T st n l a w->wpAny P md ops Q n l a w
 | 0,_,_,_,h=>h
 | n+1,_,_,_,h=>⟨h.1,fun i hi=>wpOp_mono (fun a' w' h'=>zry n _ a' w' h'.2) (h.2 i hi)⟩
theorem zrz {i:Nat} {l:Array Bool} (hw:waitsB md ops st i=true) (hi:l.getD i true=false):st∉Region.ready md ops l:=fun hs=>by
 obtain ⟨-,o,ho,hall⟩:=mem_ready.1 hs
 unfold waitsB at hw
 rw [ho]at hw
 obtain ⟨k,hk,-,he⟩:=Array.any_iff_exists.1 hw
 rw [Bool.and_eq_true,beq_iff_eq]at he
 have h1:=hall _ (Array.getElem_mem hk) he.2.1
 rw [he.2.2]at h1
 rcases Nat.lt_or_ge i l.size with h' | h'
 ·
  simp [h']at h1 hi;rw [hi]at h1;cases h1
 simp [Array.getElem?_eq_none h']at h1
theorem zr0 {i:Nat} {oi:Oper} {v:Value} {U:World->Prop} (hi:ops[i]? =some oi) (hsel:∀(j:Nat) (o:Oper) cs b,ops[j]? =some o->o.op≠ .select cs b)
 (hQ:∀c a w,Q (.panic c) (a.put oi.dst v) w->Q (.panic c) a w) (hne:i≠st) (hu:(∀w,U w)\/(waitsB md ops st i=true/\∀w,T w->U w)):
 ∀(n:Nat) (l:Array Bool) (a:Act) (w:World),(∀j oj,ops[j]? =some oj->j≠i->l.getD j true=false->(∀e∈oj.after,Region.binds md e=true->e.on≠i)->oi.apart ops oj=true)->
  i∈Region.ready md ops l->YieldsIf P ops U oi v a->(l.getD st true=false->T w)->(waitsB md ops st i=true->l.getD st true=false)->
  U w->Til P md ops Q T st n (l.setIfInBounds i true) (a.put oi.dst v) w->Til P md ops Q T st (n+1) l a w:=by
 intro n
 induction n with
 | zero=>
   intro l a w _ hr hy hT _ hU H
   refine ⟨fun h=>absurd hr (by rw [h];simp),fun j hj=>?_⟩
   rcases Nat.decEq j i with e | e
   ·
    have h0:=ready_mono hj e
    rw [H.1]at h0
    cases h0
   subst e;exact hy.wpOp hi hU ⟨fun _=>hT,H⟩
 | succ n ih=>
   intro l a w hf hr hy hT hs hU H
   refine ⟨fun h=>absurd hr (by rw [h];simp),fun j hj=>?_⟩
   rcases Nat.decEq j i with e | e
   ·
    obtain ⟨hju,oj,hoj,hall⟩:=mem_ready.1 hj
    have hiu:=(mem_ready.1 hr).1
    have hno:∀d∈oj.after,Region.binds md d=true->d.on≠i:=fun d hd hb hq=>by
     have h1:=hall d hd hb
     rw [hq]at h1
     rcases Nat.lt_or_ge i l.size with h' | h'
     ·
      simp [h']at hiu h1;rw [hiu]at h1;cases h1
     simp [Array.getElem?_eq_none h']at h1
    have h2:=wpOp_putIf hoj (hf j oj hoj e hju hno) (fun cs b=>hsel i oi cs b hi) (fun cs b=>hsel j oj cs b hoj) hQ hy (H.2 j (ready_mono hj e))
    refine wpOp_mono (fun a' w' h3=>?_) h2
    have ht:j≠st->l.getD st true=false->T w':=fun hj2 hl=>h3.2.1 hj2 (by rw [getD_set_ne true hne];exact hl)
    have hs':waitsB md ops st i=true->(l.setIfInBounds j true).getD st true=false:=fun hw=>by
     have hjs:j≠st:=fun e2=>zrz hw hiu (e2 ▸ hj)
     rw [getD_set_ne true hjs];exact hs hw
    have hT':(l.setIfInBounds j true).getD st true=false->T w':=fun hl=>by
     by_cases hjs:j=st
     ·
      subst hjs
      have hlt:j<l.size:=by
       rcases Nat.lt_or_ge j l.size with h' | h'
       ·
        exact h'
       simp [Array.getElem?_eq_none h']at hju
      simp [hlt]at hl
     rw [getD_set_ne true hjs]at hl;exact ht hjs hl
    refine ⟨ht,ih (l.setIfInBounds j true) a' w' (fun k ok hk hki hun hno2=>hf k ok hk hki ?_ hno2) (ready_mono hr (Ne.symm e)) h3.1 hT' hs' ?_ ?_⟩
    ·
     by_cases hjk:j=k
     ·
      subst hjk;exact hju
     rw [getD_set_ne true hjk]at hun;exact hun
    ·
     rcases hu with hu | ⟨hw,hu⟩
     ·
      exact hu _
     exact hu _ (hT' (hs' hw))
    rw [Array.setIfInBounds_comm _ _ e];exact h3.2.2
   subst e;exact hy.wpOp hi hU ⟨fun _=>hT,H⟩
def tilB (md:Region.Mode) (ops:Array Oper) (st:Nat) (l:Array Bool) (i:Nat):Bool:=Region.noSelect ops&&Region.free md ops l i&&(Region.ready md ops l).contains i&&(i != st)&&(!(l.getD st true))
theorem zr1 (i:Nat) (v:Value) {oi:Oper} {n:Nat} {l:Array Bool} {a:Act} {w:World} (hi:ops[i]? =some oi) (hb:tilB md ops st l i=true) (hw:waitsB md ops st i=true) (hg:Region.wanted oi (yielded ops a.tmps)=true) (hQ:∀c a w,Q (.panic c) (a.put oi.dst v) w->Q (.panic c) a w)
 (hy:∀w,T w->(execOp a.eval oi).run P w=.ok (.value v) w) (hT:T w) (h:Til P md ops Q T st n (l.setIfInBounds i true) (a.put oi.dst v) w):Til P md ops Q T st (n+1) l a w:=by
 simp only [tilB,Bool.and_eq_true,bne_iff_ne,Bool.not_eq_true']at hb
 exact zr0 hi (Region.noSelect_spec hb.1.1.1.1) hQ hb.1.2 (Or.inr ⟨hw,fun _ h=>h⟩) n l a w (Region.free_spec hi hb.1.1.1.2) (by simpa using hb.1.1.2) (Or.inl ⟨hg,hy⟩) (fun _=>hT) (fun _=>hb.2) hT h
theorem zr2 (i:Nat) (v:Value) {oi:Oper} {n:Nat} {l:Array Bool} {a:Act} {w:World} (hi:ops[i]? =some oi) (hb:tilB md ops st l i=true) (hg:Region.wanted oi (yielded ops a.tmps)=true) (hQ:∀c a w,Q (.panic c) (a.put oi.dst v) w->Q (.panic c) a w)
 (hy:∀w,(execOp a.eval oi).run P w=.ok (.value v) w) (hT:T w) (h:Til P md ops Q T st n (l.setIfInBounds i true) (a.put oi.dst v) w):Til P md ops Q T st (n+1) l a w:=by
 simp only [tilB,Bool.and_eq_true,bne_iff_ne,Bool.not_eq_true']at hb
 exact zr0 (U:=fun _=>True) hi (Region.noSelect_spec hb.1.1.1.1) hQ hb.1.2 (Or.inl fun _=>trivial) n l a w (Region.free_spec hi hb.1.1.1.2) (by simpa using hb.1.1.2) (Or.inl ⟨hg,fun w _=>hy w⟩) (fun _=>hT) (fun _=>hb.2) trivial h
def TilR (P:Program) (md:Region.Mode) (ops:Array Oper) (Q:Exit->Act->World->Prop) (T:World->Prop) (st n:Nat) (l:Array Bool) (a:Act) (w:World) (rs:List Nat):Prop:=
 ∀j∈rs,wpOp P ops Q j (fun a' w'=>(j≠st->l.getD st true=false->T w')/\Til P md ops Q T st n (l.setIfInBounds j true) a' w') a w
theorem TilR.nil {n:Nat} {l:Array Bool} {a:Act} {w:World} :TilR P md ops Q T st n l a w []:=fun _ h=>by cases h
theorem TilR.cons {n j:Nat} {l:Array Bool} {a:Act} {w:World} {o:Oper} {rs:List Nat} (ho:ops[j]? =some o)
 (h:∀K:Act->World->Prop,Shut (∀a w,(j≠st->l.getD st true=false->T w)->Til P md ops Q T st n (l.setIfInBounds j true) a w->K a w)->if Region.wanted o (yielded ops a.tmps)=true then Oper.wp P o a w K Q else K (a.put o.dst undef) w)
 (hs:TilR P md ops Q T st n l a w rs):TilR P md ops Q T st n l a w (j::rs):=fun k hk=>by
 rcases List.mem_cons.1 hk with rfl | hk
 ·
  exact wpOp_step ho fun K hK=>h K fun a w h1 h2=>hK a w ⟨h1,h2⟩
 exact hs k hk
theorem zr3 {rs:List Nat} {n:Nat} {l:Array Bool} {a:Act} {w:World} (hr:Region.ready md ops l=rs) (hne:rs≠ []) (h:TilR P md ops Q T st n l a w rs):Til P md ops Q T st (n+1) l a w:=
 ⟨fun h0=>absurd (hr ▸ h0) hne,hr ▸ h⟩
theorem zr4 {l:Array Bool} {a:Act} {w:World} (hr:Region.ready md ops l= []) (h:Q .normal a w):∀n,Til P md ops Q T st n l a w
 | 0=>⟨hr,h⟩
 | _+1=>⟨fun _=>h,by rw [hr];simp⟩
theorem zr5 (T:World->Prop) (st:Nat) {id:Nat} {a:Act} {w:World} (hm:P.follows .mixedOrders=true) (hT:T w.drew) (h:T w.drew->Til P .any ops Q T st ops.size (Array.replicate ops.size false) a w.drew):(Code.region id ops true).wp P Q a w:=
 wp_region_any hm (zry _ _ _ _ (h hT))
end
end Go.Proofs.YtjdnmblggdobgaaGreat
namespace Go.Proofs.YtjdnmblggdobgaaGreat
open Go.RowKit Go.Maps
theorem cells7 {W:World} {X t:Nat} {a b c d e f g:Value} (h:W.heap[X]? =some (.cells #[a,b,c,d,e,f,g] t (0,0))):W.cell? ⟨X,0,none⟩=some a/\W.cell? ⟨X,1,none⟩=some b/\W.cell? ⟨X,2,none⟩=some c/\W.cell? ⟨X,3,none⟩=some d/\W.cell? ⟨X,4,none⟩=some e/\W.cell? ⟨X,5,none⟩=some f/\W.cell? ⟨X,6,none⟩=some g/\(∀j,W.frozen? ⟨X,j,none⟩=false)/\X<W.heap.size:=
 ⟨cl0 h 0 rfl,cl0 h 1 rfl,cl0 h 2 rfl,cl0 h 3 rfl,cl0 h 4 rfl,cl0 h 5 rfl,cl0 h 6 rfl,zcf h,lt0 h⟩
theorem cells5 {W:World} {X t:Nat} {a b c d e:Value} (h:W.heap[X]? =some (.cells #[a,b,c,d,e] t (0,0))):W.cell? ⟨X,0,none⟩=some a/\W.cell? ⟨X,1,none⟩=some b/\W.cell? ⟨X,2,none⟩=some c/\W.cell? ⟨X,3,none⟩=some d/\W.cell? ⟨X,4,none⟩=some e/\X<W.heap.size:=
 ⟨cl0 h 0 rfl,cl0 h 1 rfl,cl0 h 2 rfl,cl0 h 3 rfl,cl0 h 4 rfl,lt0 h⟩

end Go.Proofs.YtjdnmblggdobgaaGreat
namespace Go.Proofs.YtjdnmblggdobgaaGreat
open Go.Shelf

end Go.Proofs.YtjdnmblggdobgaaGreat
namespace Go.Proofs.YtjdnmblggdobgaaGreat
open Go.RowKit Go.Maps Go.Shelf
theorem zsd {w:World} {b:Nat} :∀(vs:List Value) (o:Nat) {W:World},w.grownBy W (some b)->w.grownBy (W.setCells b o vs) (some b)
 | [],_,_,h=>h
 | v::r,o,_,h=>zsd r (o+1) (za8 h ⟨b,o,none⟩ v (Or.inl rfl))
theorem zse {b t:Nat} :∀(vs:List Value) (o:Nat) {W:World} {cur:Array Value},W.heap[b]? =some (.cells cur t (0,0))->∃cur',(W.setCells b o vs).heap[b]? =some (.cells cur' t (0,0))/\cur'.size=cur.size
 | [],_,_,cur,h=>⟨cur,h,rfl⟩
 | v::r,o,_,cur,h=>by
   obtain ⟨c,h1,h2⟩:=zse r (o+1) (zg6 h (j:=o) v)
   exact ⟨c,h1,by rw [h2];simp⟩
theorem zsf {W:World} {b t:Nat} {cur:Array Value} (h:W.heap[b]? =some (.cells cur t (0,0))) (j:Nat):W.cell? ⟨b,j,none⟩=cur[j]? :=by
 simp [World.cell?,h]
theorem zsg {w:World} {B b t n cap:Nat} {cur:Array Value} {xs:List Value} (hb:w.heap[b]? =some (.cells cur t (0,0))) (hB:B<=b) (hs:cur.size=cap) (hn:n<=cap) (hm:cap<=maxLen) (hx:xs.length=n) (hc:∀j v,xs[j]? =some v->w.cell? ⟨b,j,none⟩=some v):
 w.ownsRow B t 1 (.slice (some ⟨b,0,none⟩) n cap) n xs:=by
 refine ⟨by rw [hx,Nat.mul_one],Or.inr ⟨b,cap,cur,rfl,hB,hb,hn,hm,by rw [hs,Nat.mul_one],?_⟩⟩
 apply List.ext_getElem?
 intro j
 rw [Nat.mul_one,List.getElem?_take]
 by_cases hj:j<n
 ·
  rw [if_pos hj]
  have h1:=hc j (xs[j]'(by omega)) (List.getElem?_eq_getElem (by omega))
  rw [zsf hb]at h1
  rw [Array.getElem?_toList,h1,List.getElem?_eq_getElem (by omega)]
 rw [if_neg hj,List.getElem?_eq_none (by omega)]
theorem zsh {w:World} {B e g cap n:Nat} {xs:List Value} (h:w.ownsRow B e 1 (.slice (some ⟨g,0,none⟩) n cap) n xs):∃cur,w.heap[g]? =some (.cells cur e (0,0))/\B<=g/\n<=cap/\cap<=maxLen/\cur.size=cap/\xs.length=n/\∀j v,xs[j]? =some v->w.cell? ⟨g,j,none⟩=some v:=by
 have hx:=h.1
 rcases h.2 with ⟨q,-⟩ | ⟨g',cap',cur,q,hB,hb,hc,hm,hs,ht⟩
 ·
  cases q
 cases q
 rw [Nat.mul_one]at hx hs ht
 refine ⟨cur,hb,hB,hc,hm,hs,hx,fun j v hj=>?_⟩
 rw [zsf hb,<-Array.getElem?_toList]
 rw [<-ht,List.getElem?_take]at hj
 split at hj
 ·
  exact hj
 cases hj
theorem zsj (l:List Int) (j:Nat):(intV l)[j]? =(l[j]?).map fun x=>.int .i64 x:=by simp [intV]
theorem zsl {W:World} {b t:Nat} {cur:Array Value} (h:W.heap[b]? =some (.cells cur t (0,0))) (o:Nat) (vs:List Value) (hs:o+vs.length<=cur.size) (j:Nat):(W.setCells b o vs).cell? ⟨b,j,none⟩=if o<=j/\j<o+vs.length then vs[j - o]? else W.cell? ⟨b,j,none⟩:=by
 by_cases hj:o<=j/\j<o+vs.length
 ·
  rw [if_pos hj]
  have:=World.cell?_setCells_in b vs o W (fun k hk=>by rw [zsf h,Array.getElem?_eq_getElem (by omega)];rfl) (j - o) (by omega)
  rw [show o+(j - o)=j by omega]at this
  rw [this,List.getElem?_eq_getElem (by omega)]
 rw [if_neg hj]
 exact World.cell?_setCells_out b vs o W ⟨b,j,none⟩ (fun _ _=>by show j<o\/_<=j;omega)
end Go.Proofs.YtjdnmblggdobgaaGreat
namespace Go.Proofs.YtjdnmblggdobgaaGreat
open Go.RowKit Go.Maps Go.Shelf Go.Lib

end Go.Proofs.YtjdnmblggdobgaaGreat
namespace Go.Proofs.YtjdnmblggdobgaaGreat
open Go.RowKit Go.Maps


structure Right (d:LinkD) (h:HeapD) (ts:List ThD):Prop where
 ok:okLk d=true
 parts:partsB h=true
 words:wordsB h=true
 tops:topsB h=true
 both:bothT d h=some ts
 hash:ts.any (badHash h)=false
 dup:(ts.map ThD.hash).Nodup
 lead:(ts.any fun x=>hasRefB d.fields h.words x fun n=>!leadB ts n)=false
 rest:(restL h).any (· != 0)=false
 rise:riseB h.noted=true
 note:h.noted.any (badNote d h ts)=false
 un:ts.any (unnoted d h)=false
theorem Right.err {d:LinkD} {h:HeapD} {ts:List ThD} (r:Right d h ts):heapErr d h=0:=by
 unfold heapErr heapRes
 rw [r.ok,r.parts,r.words,r.tops,r.both]
 simp only [if_true]
 unfold thingsErr
 rw [r.hash,r.lead,r.rest,r.rise,r.note,r.un,decide_eq_true r.dup]
 rfl
theorem zs6 {d:LinkD} {h:HeapD} (h0:heapErr d h=0):∃ts,Right d h ts:=by
 unfold heapErr heapRes at h0
 cases e0:okLk d with
 | false=>rw [e0]at h0;simp at h0
 | true=>
 cases e1:partsB h with
 | false=>rw [e0,e1]at h0;simp at h0
 | true=>
 cases e2:wordsB h with
 | false=>rw [e0,e1,e2]at h0;simp at h0
 | true=>
 cases e3:topsB h with
 | false=>rw [e0,e1,e2,e3]at h0;simp at h0
 | true=>
 cases e4:bothT d h with
 | none=>rw [e0,e1,e2,e3,e4]at h0;simp at h0
 | some ts=>
 rw [e0,e1,e2,e3,e4]at h0
 simp only [if_true]at h0
 unfold thingsErr at h0
 cases f1:ts.any (badHash h)with
 | true=>rw [f1]at h0;simp at h0
 | false=>
 cases f2:decide ((ts.map ThD.hash).Nodup)with
 | false=>rw [f1,f2]at h0;simp at h0
 | true=>
 cases f3:(ts.any fun x=>hasRefB d.fields h.words x fun n=>!leadB ts n)with
 | true=>rw [f1,f2,f3]at h0;simp at h0
 | false=>
 cases f4:(restL h).any (· != 0)with
 | true=>rw [f1,f2,f3,f4]at h0;simp at h0
 | false=>
 cases f5:riseB h.noted with
 | false=>rw [f1,f2,f3,f4,f5]at h0;simp at h0
 | true=>
 cases f6:h.noted.any (badNote d h ts)with
 | true=>rw [f1,f2,f3,f4,f5,f6]at h0;simp at h0
 | false=>
 cases f7:ts.any (unnoted d h)with
 | true=>rw [f1,f2,f3,f4,f5,f6,f7]at h0;simp at h0
 | false=>exact ⟨ts,e0,e1,e2,e3,e4,f1,of_decide_eq_true f2,f3,f4,f5,f6,f7⟩
theorem Right.sized {d:LinkD} {h:HeapD} {ts:List ThD} (r:Right d h ts):Sized d h:=zkj (zkh r.ok) r.parts r.words r.tops
theorem zs7 {fs:List (List FieldD)} {x:ThD} {a:Int} (h:a∈refsOf fs x):∃n:Nat,a=x.loc+3+n/\(n:Int)<x.len/\refI fs x n=true:=by
 unfold refsOf at h
 obtain ⟨n,hn,rfl⟩:=List.mem_map.1 h
 obtain ⟨h1,h2⟩:=List.mem_filter.1 hn
 have:=List.mem_range.1 h1
 exact ⟨n,rfl,by omega,h2⟩
theorem zs8 {fs:List (List FieldD)} {x:ThD} {n:Nat} (h1:(n:Int)<x.len) (h2:refI fs x n=true):x.loc+3+(n:Int)∈refsOf fs x:=by
 unfold refsOf
 exact List.mem_map.2 ⟨n,List.mem_filter.2 ⟨List.mem_range.2 (by omega),h2⟩,rfl⟩
theorem ztb {l:List Int} :riseTo l l.length↔l.Pairwise (· < ·):=by
 constructor
 ·
  intro h
  rw [List.pairwise_iff_getElem]
  intro i j hi hj hij
  have key:∀n,i+n+1<l.length->wd l i<wd l ((i+n+1:Nat):Int):=by
   intro n
   induction n with
   | zero=>
     intro hn
     have:=h (i+1) (by omega) hn
     rw [show ((i+1:Nat):Int) - 1=(i:Int) by omega]at this
     exact this
   | succ n ih=>
     intro hn
     have h1:=ih (by omega)
     have h2:=h (i+n+1+1) (by omega) hn
     rw [show ((i+n+1+1:Nat):Int) - 1=((i+n+1:Nat):Int) by omega]at h2
     exact Int.lt_trans h1 h2
  have:=key (j - i - 1) (by omega)
  rw [show i+(j - i - 1)+1=j by omega,zen hi,zen hj]at this
  exact this
 intro h j h0 hj
 rw [show (j:Int) - 1=((j - 1:Nat):Int) by omega,zen (by omega),zen hj]
 exact List.pairwise_iff_getElem.1 h (j - 1) j (by omega) hj (by omega)










end Go.Proofs.YtjdnmblggdobgaaGreat
