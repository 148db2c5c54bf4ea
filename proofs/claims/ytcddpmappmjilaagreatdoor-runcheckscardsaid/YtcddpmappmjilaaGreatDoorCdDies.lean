import Derived.Deep.Quiet
import Derived.Deep.QuietTactic
namespace Go.Proofs.YtcddpmappmjilaaGreatDoor.Cd
open Go
section
variable {P:Program} {ops:Array Oper} {md:Region.Mode} {C:World->Prop} {R:List PanicEntry->World->Prop}
def diesUpon (P:Program) (R:List PanicEntry->World->Prop) (w:World):Result Next->Prop
 | .ok (.enter f args) w'=>w'=w/\Calls P f args w (fun e w''=>∃chain,e=.panicked chain/\R chain w'')
 | _=>False
def DiesIn (P:Program) (ops:Array Oper) (C:World->Prop) (R:List PanicEntry->World->Prop) (o:Oper) (a:Act):Prop:=
 Region.wanted o (yielded ops a.tmps)=true/\∀w,C w->diesUpon P R w ((execOp a.eval o).run P w)
def dOp (P:Program) (ops:Array Oper) (C:World->Prop) (R:List PanicEntry->World->Prop) (i:Nat) (K:Act->Prop) (a:Act):Prop:=
 qOp P ops C i K a\/∃o,ops[i]? =some o/\DiesIn P ops C R o a
def wpAnyD (P:Program) (md:Region.Mode) (ops:Array Oper) (C:World->Prop) (R:List PanicEntry->World->Prop) (Q:Act->Prop):Nat->Array Bool->Act->Prop
 | 0,listed,a=>Region.ready md ops listed= []/\Q a
 | fuel+1,listed,a=>
   (Region.ready md ops listed= []->Q a)/\
   ∀i∈Region.ready md ops listed,dOp P ops C R i (wpAnyD P md ops C R Q fuel (listed.setIfInBounds i true)) a
theorem put_defers (a:Act) (d:Option Tmp) (v:Value):(a.put d v).defers=a.defers:=by
 cases d<;>rfl
theorem wp_of_quietD {ds:List Deferred} {o:Oper} {a:Act} {K:Act->Prop} {K':Act->World->Prop} {Q':Exit->Act->World->Prop} {w:World} (hw:C w) (ha:a.defers=ds)
 (h:∀a w',a.defers=ds->C w'->K a->K' a w') (hh:o.quiet P a C K):o.wp P a w K' Q':=by
 refine Oper.wp_of_quiet (K:=fun a'=>K a'/\a'.defers=ds) hw (fun a' w' hc hk=>h a' w' hk.2 hc hk.1) ?_
 obtain ⟨v,h1,h2⟩:=hh
 exact ⟨v,h1,h2,by rw [put_defers];exact ha⟩
theorem wpOp_of_dOp {ds:List Deferred} {i:Nat} {a:Act} {K:Act->Prop} {K':Act->World->Prop} {Q':Exit->Act->World->Prop} {w:World} (hC:C w) (ha:a.defers=ds)
 (hR:∀chain a w,a.defers=ds->R chain w->Q' (.panic chain) a w)
 (h:∀a w',a.defers=ds->C w'->K a->K' a w') (hh:dOp P ops C R i K a):wpOp P ops Q' i K' a w:=by
 rcases hh with hh | ⟨o,ho,hw,hd⟩
 ·
  unfold qOp at hh
  unfold wpOp
  split
  ·
   rename_i ho;simp only [ho]at hh;exact h _ _ ha hC hh
  rename_i o ho
  simp only [ho]at hh
  split
  ·
   rename_i hw;simp only [hw,if_true]at hh;exact .inl (wp_of_quietD hC ha h hh)
  rename_i hw;simp only [hw]at hh;exact h _ _ (by rw [put_defers];exact ha) hC hh
 unfold wpOp
 simp only [ho,hw,if_true]
 left
 have h3:=hd w hC
 unfold Oper.wp
 generalize (execOp a.eval o).run P w=r at*
 cases r with
 | ok n w'=>
   cases n<;>simp only [diesUpon]at h3
   case enter f args=>
    obtain ⟨e1,hc⟩:=h3
    simp only [Oper.upon]
    rw [e1]
    exact hc.mono fun e w'' ⟨chain,he,hr⟩=>by subst he;exact hR _ _ _ ha hr
 | halt x w'=>simp only [diesUpon]at h3
theorem wpAny_of_dies {ds:List Deferred} {Q:Act->Prop} {Q':Exit->Act->World->Prop} (hR:∀chain a w,a.defers=ds->R chain w->Q' (.panic chain) a w) (hQ:∀a w,C w->Q a->Q' .normal a w):
 ∀(fuel:Nat) (listed:Array Bool) (a:Act) (w:World),a.defers=ds->C w->wpAnyD P md ops C R Q fuel listed a->wpAny P md ops Q' fuel listed a w
 | 0,_,_,_,_,hw,h=>⟨h.1,hQ _ _ hw h.2⟩
 | fuel+1,_,_,_,ha,hw,h=>⟨fun h0=>hQ _ _ hw (h.1 h0),fun i hi=>wpOp_of_dOp hw ha hR (fun a' w' ha' hw'=>wpAny_of_dies hR hQ fuel _ a' w' ha' hw') (h.2 i hi)⟩
theorem DiesIn.back {oi oj:Oper} {v:Value} (hap:oi.apart ops oj=true) (hsj:∀cs b,oj.op≠ .select cs b) {a:Act} (h:DiesIn P ops C R oj (a.put oi.dst v)):DiesIn P ops C R oj a:=by
 obtain ⟨h1,h2,h3⟩:=Oper.apart_spec hap
 obtain ⟨hw,hd⟩:=h
 rw [wanted_put oj a oi.dst v h1]at hw
 refine ⟨hw,fun w hC=>?_⟩
 have:=hd w hC
 rwa [execOp_put oj hsj a oi.dst v h1]at this
theorem wpAnyD_first {Q:Act->Prop} {i:Nat} {oi:Oper} {v:Value} (hi:ops[i]? =some oi) (hsel:∀(j:Nat) (o:Oper) cs b,ops[j]? =some o->o.op≠ .select cs b):
 ∀(fuel:Nat) (listed:Array Bool) (a:Act),
  (∀j oj,ops[j]? =some oj->j≠i->listed.getD j true=false->(∀e∈oj.after,Region.binds md e=true->e.on≠i)->oi.apart ops oj=true)->
  i∈Region.ready md ops listed->YieldsIn P ops C oi v a->
  wpAnyD P md ops C R Q fuel (listed.setIfInBounds i true) (a.put oi.dst v)->wpAnyD P md ops C R Q (fuel+1) listed a:=by
 intro fuel
 induction fuel with
 | zero=>
   intro listed a _ hr hy H
   refine ⟨fun h=>(by rw [h]at hr;cases hr),fun j hj=>?_⟩
   by_cases hji:j=i
   ·
    subst hji;exact Or.inl (hy.qOp hi H)
   have:=ready_mono hj hji
   rw [H.1]at this
   cases this
 | succ fuel ih=>
   intro listed a hfree hr hy H
   refine ⟨fun h=>(by rw [h]at hr;cases hr),fun j hj=>?_⟩
   by_cases hji:j=i
   ·
    subst hji;exact Or.inl (hy.qOp hi H)
   have h1:=H.2 j (ready_mono hj hji)
   obtain ⟨hjun,oj,hoj,hall⟩:=mem_ready.1 hj
   have hnot:∀e∈oj.after,Region.binds md e=true->e.on≠i:=fun e he hb heq=>by
    have h1:=hall e he hb
    have h0:=(mem_ready.1 hr).1
    rw [heq]at h1
    rcases Nat.lt_or_ge i listed.size with h' | h'
    ·
     simp [h']at h0 h1;rw [h0]at h1;cases h1
    simp [Array.getElem?_eq_none h']at h1
   have hap:=hfree j oj hoj hji hjun hnot
   rcases h1 with h1 | ⟨ok,hok,hd⟩
   ·
    have h2:=qOp_put hoj hap (fun cs b=>hsel i oi cs b hi) (fun cs b=>hsel j oj cs b hoj) hy h1
    have hfree':∀k ok,ops[k]? =some ok->k≠i->(listed.setIfInBounds j true).getD k true=false->
     (∀e∈ok.after,Region.binds md e=true->e.on≠i)->oi.apart ops ok=true:=fun k ok hk hki hun hno=>by
     refine hfree k ok hk hki ?_ hno
     by_cases hjk:j=k
     ·
      subst hjk;exact hjun
     rw [getD_set_ne true hjk]at hun;exact hun
    refine Or.inl (qOp_mono (fun a' h3=>ih (listed.setIfInBounds j true) a' hfree' (ready_mono hr (Ne.symm hji)) h3.1 ?_) h2)
    rw [Array.setIfInBounds_comm _ _ hji]
    exact h3.2
   obtain rfl:=Option.some.inj (hoj.symm.trans hok)
   exact Or.inr ⟨oj,hoj,DiesIn.back hap (fun cs b=>hsel j oj cs b hoj) hd⟩
theorem wpAnyD_lex {Q:Act->Prop} {z:Oper} (hs:Region.noSelect ops=true):∀(l:List Oper) (k:Nat) (listed:Array Bool) (a:Act),(∀j,(l++ [z])[j]? =ops[k+j]?)->
 Region.lexFrom md ops (l.length+1) k listed=true->wpQuiet P ops C (fun a'=>DiesIn P ops C R z a') l a->wpAnyD P md ops C R Q (l.length+1) listed a
 | [],k,listed,a,hl,hB,h=>by
   have h0:ops[k]? =some z:=by simpa using (hl 0).symm
   simp only [List.length_nil,Region.lexFrom,Bool.and_eq_true]at hB
   obtain ⟨⟨hr,hf⟩,hB'⟩:=hB
   have hr':k∈Region.ready md ops listed:=by simpa using hr
   refine ⟨fun h=>(by rw [h]at hr';cases hr'),fun j hj=>?_⟩
   by_cases hjk:j=k
   ·
    subst hjk
    exact Or.inr ⟨z,h0,h⟩
   have:=ready_mono hj hjk
   rw [List.isEmpty_iff.1 hB']at this
   cases this
 | o::l,k,listed,a,hl,hB,h=>by
   have h0:ops[k]? =some o:=by simpa using (hl 0).symm
   rw [List.length_cons,Region.lexFrom]at hB
   simp only [Bool.and_eq_true]at hB
   obtain ⟨⟨hr,hf⟩,hB'⟩:=hB
   have hst:qOp P ops C k (wpQuiet P ops C (fun a'=>DiesIn P ops C R z a') l) a:=by unfold qOp;simp only [h0];exact h
   obtain ⟨v,hy,hK⟩:=yieldsIn_of_qOp h0 hst
   exact wpAnyD_first h0 (Region.noSelect_spec hs) (l.length+1) listed a (Region.free_spec h0 hf) (by simpa using hr) hy
    (wpAnyD_lex hs l (k+1) _ _ (fun j=>by have:=hl (j+1);simpa [Nat.add_assoc,Nat.add_comm 1 j]using this) hB' hK)
theorem wp_region_dies {id:Nat} {Q:Exit->Act->World->Prop} {a:Act} {w:World} {l:List Oper} {z:Oper} (R:List PanicEntry->World->Prop) (hm:P.follows .mixedOrders=true) (hB:Region.lexB .any (l++ [z]).toArray=true)
 (hR:∀chain a' w,a'.defers=a.defers->R chain w->Q (.panic chain) a' w)
 (h:wpQuiet P (l++ [z]).toArray (fun w'=>∃n,w'=w.drewN n) (fun a'=>DiesIn P (l++ [z]).toArray (fun w'=>∃n,w'=w.drewN n) R z a') l a):(Code.region id (l++ [z]).toArray true).wp P Q a w:=by
 simp only [Region.lexB,Bool.and_eq_true]at hB
 refine wp_region_any hm (wpAny_of_dies (R:=R) (Q:=fun _=>False) (C:=fun w'=>∃n,w'=w.drewN n) hR (fun _ _ _ h=>h.elim) _ _ _ _ rfl ⟨1,rfl⟩ ?_)
 have:=wpAnyD_lex (Q:=fun _=>False) (C:=fun w'=>∃n,w'=w.drewN n) (R:=R) (md:=.any) (z:=z) hB.1 l 0 (Array.replicate (l++ [z]).toArray.size false) a (by simp) (by simpa using hB.2) h
 simpa using this
theorem wp_region_dies_lit {id:Nat} {Q:Exit->Act->World->Prop} {a:Act} {w:World} {L l:List Oper} {z:Oper} (R:List PanicEntry->World->Prop) (hm:P.follows .mixedOrders=true) (hB:Region.lexB .any L.toArray=true)
 (hz:L.getLast? =some z) (hl:L.dropLast=l)
 (hR:∀chain a' w,a'.defers=a.defers->R chain w->Q (.panic chain) a' w)
 (h:wpQuiet P L.toArray (fun w'=>∃n,w'=w.drewN n) (fun a'=>DiesIn P L.toArray (fun w'=>∃n,w'=w.drewN n) R z a') l a):(Code.region id L.toArray true).wp P Q a w:=by
 have e:L=l++ [z]:=by
  obtain ⟨ys,e⟩:=List.getLast?_eq_some_iff.1 hz
  rw [<-hl,e,List.dropLast_concat]
 subst e
 exact wp_region_dies R hm hB hR h
end
end Go.Proofs.YtcddpmappmjilaaGreatDoor.Cd
