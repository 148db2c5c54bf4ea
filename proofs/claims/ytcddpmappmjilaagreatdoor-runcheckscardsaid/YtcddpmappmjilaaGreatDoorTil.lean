import Derived.Deep.RegionHeld
namespace Go.Proofs.YtcddpmappmjilaaGreatDoor
section
variable (P:Program) (md:Region.Mode) (ops:Array Oper) (Q:Exit->Act->World->Prop) (T:World->Prop) (st:Nat)
def Til:Nat->Array Bool->Act->World->Prop
 | 0,l,a,w=>Region.ready md ops l= []/\Q .normal a w
 | n+1,l,a,w=>(Region.ready md ops l= []->Q .normal a w)/\∀j∈Region.ready md ops l,wpOp P ops Q j (fun a' w'=>(j≠st->l.getD st true=false->T w')/\Til n (l.setIfInBounds j true) a' w') a w
def waitsB (i:Nat):Bool:=match ops[st]? with | some o=>o.after.any fun e=>Region.binds md e&&e.on==i | none=>false
end
section
variable {P:Program} {md:Region.Mode} {ops:Array Oper} {Q:Exit->Act->World->Prop} {T:World->Prop} {st:Nat}
theorem til_any:∀(n:Nat) (l:Array Bool) (a:Act) (w:World),Til P md ops Q T st n l a w->wpAny P md ops Q n l a w
 | 0,_,_,_,h=>h
 | n+1,_,_,_,h=>⟨h.1,fun i hi=>wpOp_mono (fun a' w' h'=>til_any n _ a' w' h'.2) (h.2 i hi)⟩
theorem waits_not {i:Nat} {l:Array Bool} (hw:waitsB md ops st i=true) (hi:l.getD i true=false):st∉Region.ready md ops l:=fun hs=>by
 obtain ⟨-,o,ho,hall⟩:=mem_ready.1 hs
 unfold waitsB at hw
 rw [ho]at hw
 obtain ⟨k,hk,-,he⟩:=Array.any_iff_exists.1 hw
 rw [Bool.and_eq_true,beq_iff_eq]at he
 have h1:=hall _ (Array.getElem_mem hk) he.2.1
 rw [he.2.2]at h1
 rcases Nat.lt_or_ge i l.size with h' | h'
 ·
  simp [h']at h1 hi;rw [hi]at h1;cases h1
 simp [Array.getElem?_eq_none h']at h1
theorem til_first {i:Nat} {oi:Oper} {v:Value} {U:World->Prop} (hi:ops[i]? =some oi) (hsel:∀(j:Nat) (o:Oper) cs b,ops[j]? =some o->o.op≠ .select cs b)
 (hQ:∀c a w,Q (.panic c) (a.put oi.dst v) w->Q (.panic c) a w) (hne:i≠st) (hu:(∀w,U w)\/(waitsB md ops st i=true/\∀w,T w->U w)):
 ∀(n:Nat) (l:Array Bool) (a:Act) (w:World),(∀j oj,ops[j]? =some oj->j≠i->l.getD j true=false->(∀e∈oj.after,Region.binds md e=true->e.on≠i)->oi.apart ops oj=true)->
  i∈Region.ready md ops l->YieldsIf P ops U oi v a->(l.getD st true=false->T w)->(waitsB md ops st i=true->l.getD st true=false)->
  U w->Til P md ops Q T st n (l.setIfInBounds i true) (a.put oi.dst v) w->Til P md ops Q T st (n+1) l a w:=by
 intro n
 induction n with
 | zero=>
   intro l a w _ hr hy hT _ hU H
   refine ⟨fun h=>absurd hr (by rw [h];simp),fun j hj=>?_⟩
   rcases Nat.decEq j i with e | e
   ·
    have h0:=ready_mono hj e
    rw [H.1]at h0
    cases h0
   subst e;exact hy.wpOp hi hU ⟨fun _=>hT,H⟩
 | succ n ih=>
   intro l a w hf hr hy hT hs hU H
   refine ⟨fun h=>absurd hr (by rw [h];simp),fun j hj=>?_⟩
   rcases Nat.decEq j i with e | e
   ·
    obtain ⟨hju,oj,hoj,hall⟩:=mem_ready.1 hj
    have hiu:=(mem_ready.1 hr).1
    have hno:∀d∈oj.after,Region.binds md d=true->d.on≠i:=fun d hd hb hq=>by
     have h1:=hall d hd hb
     rw [hq]at h1
     rcases Nat.lt_or_ge i l.size with h' | h'
     ·
      simp [h']at hiu h1;rw [hiu]at h1;cases h1
     simp [Array.getElem?_eq_none h']at h1
    have h2:=wpOp_putIf hoj (hf j oj hoj e hju hno) (fun cs b=>hsel i oi cs b hi) (fun cs b=>hsel j oj cs b hoj) hQ hy (H.2 j (ready_mono hj e))
    refine wpOp_mono (fun a' w' h3=>?_) h2
    have ht:j≠st->l.getD st true=false->T w':=fun hj2 hl=>h3.2.1 hj2 (by rw [getD_set_ne true hne];exact hl)
    have hs':waitsB md ops st i=true->(l.setIfInBounds j true).getD st true=false:=fun hw=>by
     have hjs:j≠st:=fun e2=>waits_not hw hiu (e2 ▸ hj)
     rw [getD_set_ne true hjs];exact hs hw
    have hT':(l.setIfInBounds j true).getD st true=false->T w':=fun hl=>by
     by_cases hjs:j=st
     ·
      subst hjs
      have hlt:j<l.size:=by
       rcases Nat.lt_or_ge j l.size with h' | h'
       ·
        exact h'
       simp [Array.getElem?_eq_none h']at hju
      simp [hlt]at hl
     rw [getD_set_ne true hjs]at hl;exact ht hjs hl
    refine ⟨ht,ih (l.setIfInBounds j true) a' w' (fun k ok hk hki hun hno2=>hf k ok hk hki ?_ hno2) (ready_mono hr (Ne.symm e)) h3.1 hT' hs' ?_ ?_⟩
    ·
     by_cases hjk:j=k
     ·
      subst hjk;exact hju
     rw [getD_set_ne true hjk]at hun;exact hun
    ·
     rcases hu with hu | ⟨hw,hu⟩
     ·
      exact hu _
     exact hu _ (hT' (hs' hw))
    rw [Array.setIfInBounds_comm _ _ e];exact h3.2.2
   subst e;exact hy.wpOp hi hU ⟨fun _=>hT,H⟩
def tilB (md:Region.Mode) (ops:Array Oper) (st:Nat) (l:Array Bool) (i:Nat):Bool:=Region.noSelect ops&&Region.free md ops l i&&(Region.ready md ops l).contains i&&(i != st)&&(!(l.getD st true))
theorem til_take (i:Nat) (v:Value) {oi:Oper} {n:Nat} {l:Array Bool} {a:Act} {w:World} (hi:ops[i]? =some oi) (hb:tilB md ops st l i=true) (hw:waitsB md ops st i=true) (hg:Region.wanted oi (yielded ops a.tmps)=true) (hQ:∀c a w,Q (.panic c) (a.put oi.dst v) w->Q (.panic c) a w)
 (hy:∀w,T w->(execOp a.eval oi).run P w=.ok (.value v) w) (hT:T w) (h:Til P md ops Q T st n (l.setIfInBounds i true) (a.put oi.dst v) w):Til P md ops Q T st (n+1) l a w:=by
 simp only [tilB,Bool.and_eq_true,bne_iff_ne,Bool.not_eq_true']at hb
 exact til_first hi (Region.noSelect_spec hb.1.1.1.1) hQ hb.1.2 (Or.inr ⟨hw,fun _ h=>h⟩) n l a w (Region.free_spec hi hb.1.1.1.2) (by simpa using hb.1.1.2) (Or.inl ⟨hg,hy⟩) (fun _=>hT) (fun _=>hb.2) hT h
theorem til_pure (i:Nat) (v:Value) {oi:Oper} {n:Nat} {l:Array Bool} {a:Act} {w:World} (hi:ops[i]? =some oi) (hb:tilB md ops st l i=true) (hg:Region.wanted oi (yielded ops a.tmps)=true) (hQ:∀c a w,Q (.panic c) (a.put oi.dst v) w->Q (.panic c) a w)
 (hy:∀w,(execOp a.eval oi).run P w=.ok (.value v) w) (hT:T w) (h:Til P md ops Q T st n (l.setIfInBounds i true) (a.put oi.dst v) w):Til P md ops Q T st (n+1) l a w:=by
 simp only [tilB,Bool.and_eq_true,bne_iff_ne,Bool.not_eq_true']at hb
 exact til_first (U:=fun _=>True) hi (Region.noSelect_spec hb.1.1.1.1) hQ hb.1.2 (Or.inl fun _=>trivial) n l a w (Region.free_spec hi hb.1.1.1.2) (by simpa using hb.1.1.2) (Or.inl ⟨hg,fun w _=>hy w⟩) (fun _=>hT) (fun _=>hb.2) trivial h
def TilR (P:Program) (md:Region.Mode) (ops:Array Oper) (Q:Exit->Act->World->Prop) (T:World->Prop) (st n:Nat) (l:Array Bool) (a:Act) (w:World) (rs:List Nat):Prop:=
 ∀j∈rs,wpOp P ops Q j (fun a' w'=>(j≠st->l.getD st true=false->T w')/\Til P md ops Q T st n (l.setIfInBounds j true) a' w') a w
theorem TilR.nil {n:Nat} {l:Array Bool} {a:Act} {w:World} :TilR P md ops Q T st n l a w []:=fun _ h=>by cases h
theorem TilR.cons {n j:Nat} {l:Array Bool} {a:Act} {w:World} {o:Oper} {rs:List Nat} (ho:ops[j]? =some o)
 (h:∀K:Act->World->Prop,Shut (∀a w,(j≠st->l.getD st true=false->T w)->Til P md ops Q T st n (l.setIfInBounds j true) a w->K a w)->if Region.wanted o (yielded ops a.tmps)=true then Oper.wp P o a w K Q else K (a.put o.dst undef) w)
 (hs:TilR P md ops Q T st n l a w rs):TilR P md ops Q T st n l a w (j::rs):=fun k hk=>by
 rcases List.mem_cons.1 hk with rfl | hk
 ·
  exact wpOp_step ho fun K hK=>h K fun a w h1 h2=>hK a w ⟨h1,h2⟩
 exact hs k hk
theorem til_ready {rs:List Nat} {n:Nat} {l:Array Bool} {a:Act} {w:World} (hr:Region.ready md ops l=rs) (hne:rs≠ []) (h:TilR P md ops Q T st n l a w rs):Til P md ops Q T st (n+1) l a w:=
 ⟨fun h0=>absurd (hr ▸ h0) hne,hr ▸ h⟩
theorem til_done {l:Array Bool} {a:Act} {w:World} (hr:Region.ready md ops l= []) (h:Q .normal a w):∀n,Til P md ops Q T st n l a w
 | 0=>⟨hr,h⟩
 | _+1=>⟨fun _=>h,by rw [hr];simp⟩
theorem wp_region_til (T:World->Prop) (st:Nat) {id:Nat} {a:Act} {w:World} (hm:P.follows .mixedOrders=true) (hT:T w.drew) (h:T w.drew->Til P .any ops Q T st ops.size (Array.replicate ops.size false) a w.drew):(Code.region id ops true).wp P Q a w:=
 wp_region_any hm (til_any _ _ _ _ (h hT))
end
end Go.Proofs.YtcddpmappmjilaaGreatDoor
