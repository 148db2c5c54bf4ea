import Derived.Deep.RegionHeld
import Derived.Deep.Quiet
import Derived.Deep.QuietTactic
import Derived.BigQuiet
import Derived.Below
namespace Go.Proofs.YtjdnmblggdobgaaGreat
def bits (n m:Nat):Array Bool:=((List.range n).map fun i=>m.testBit i).toArray
theorem zaa (n:Nat):Array.replicate n false=bits n 0:=by
 apply Array.ext
 ·
  simp [bits]
 ·
  intro i h1 h2
  simp [bits]
theorem zab (n m i:Nat):(bits n m).setIfInBounds i true=bits n (m|||1<<<i):=by
 apply Array.ext
 ·
  simp [bits]
 ·
  intro j h1 h2
  simp only [bits,List.getElem_toArray,List.getElem_map,List.getElem_range,Nat.testBit_or,Nat.one_shiftLeft,Nat.testBit_two_pow]
  by_cases e:i=j
  ·
   simp [e]
  ·
   simp [e]
def tkB (md:Region.Mode) (ops:Array Oper) (n m i d:Nat) (g:Option (Nat×Bool)):Bool:=
 Region.noSelect ops&&Region.free md ops (bits n m) i&&(Region.ready md ops (bits n m)).contains i&&((ops[i]?).map (·.dst)==some (some d))&&((ops[i]?).map (·.guard)==some g)
theorem zaf {md:Region.Mode} {ops:Array Oper} {n m i d:Nat} {g:Option (Nat×Bool)} {oi:Oper} (hi:ops[i]? =some oi) (h:tkB md ops n m i d g=true):
 Region.noSelect ops=true/\Region.free md ops (bits n m) i=true/\(Region.ready md ops (bits n m)).contains i=true/\oi.dst=some d/\oi.guard=g:=by
 simp only [tkB,hi,Option.map_some,Bool.and_eq_true,beq_iff_eq,Option.some.injEq]at h
 exact ⟨h.1.1.1.1,h.1.1.1.2,h.1.1.2,h.1.2,h.2⟩
theorem zag {P:Program} {ops:Array Oper} {Q:Exit->Act->World->Prop} {S:World->Prop} (n:Nat) {a:Act} {w:World} (hn:ops.size=n) (h:∀a',a'=a->wpAnyH P .any ops Q S n (bits n 0) a' w):wpAnyH P .any ops Q S ops.size (Array.replicate ops.size false) a w:=by
 subst hn
 rw [zaa]
 exact h a rfl
section
variable {P:Program} {md:Region.Mode} {ops:Array Oper} {Q:Exit->Act->World->Prop} {S:World->Prop} {n m fuel:Nat} {a:Act} {w:World}
theorem tk (i d:Nat) (v:Value) {oi:Oper} (hi:ops[i]? =some oi) (hb:tkB md ops n m i d none=true) (hQ:∀c a w,Q (.panic c) (a.put (some d) v) w->Q (.panic c) a w)
 (hy:∀w,S w->(execOp a.eval oi).run P w=.ok (.value v) w) (hS:S w) (h:wpAnyH P md ops Q S fuel (bits n (m|||1<<<i)) (a.put (some d) v) w):wpAnyH P md ops Q S (fuel+1) (bits n m) a w:=by
 obtain ⟨h1,h2,h3,h4,h5⟩:=zaf hi hb
 rw [<-zab]at h
 rw [<-h4]at h hQ
 exact wpAnyH_take hi h1 h2 h3 hQ (Or.inl ⟨by simp [Region.wanted,h5],hy⟩) hS h
theorem zah {oi:Oper} {g dg:Nat} {b c:Bool} (hg:oi.guard=some (g,b)) (hd:(ops[g]?).bind (·.dst)=some dg) (he:a.tmps[dg]? =some (.bool c)):Region.wanted oi (yielded ops a.tmps)=(c==b):=by
 simp [Region.wanted,hg,yielded,hd,he]
theorem tkg (i d g dg:Nat) (b:Bool) (v:Value) {oi:Oper} (hi:ops[i]? =some oi) (hb:tkB md ops n m i d (some (g,b))=true) (hd:(ops[g]?).bind (·.dst)=some dg) (he:a.tmps[dg]? =some (.bool b)) (hQ:∀c a w,Q (.panic c) (a.put (some d) v) w->Q (.panic c) a w)
 (hy:∀w,S w->(execOp a.eval oi).run P w=.ok (.value v) w) (hS:S w) (h:wpAnyH P md ops Q S fuel (bits n (m|||1<<<i)) (a.put (some d) v) w):wpAnyH P md ops Q S (fuel+1) (bits n m) a w:=by
 obtain ⟨h1,h2,h3,h4,h5⟩:=zaf hi hb
 rw [<-zab]at h
 rw [<-h4]at h hQ
 exact wpAnyH_take hi h1 h2 h3 hQ (Or.inl ⟨by rw [zah h5 hd he];simp,hy⟩) hS h
theorem tks (i d g dg:Nat) (b:Bool) {oi:Oper} (hi:ops[i]? =some oi) (hb:tkB md ops n m i d (some (g,b))=true) (hd:(ops[g]?).bind (·.dst)=some dg) (he:a.tmps[dg]? =some (.bool (!b))) (hQ:∀c a w,Q (.panic c) (a.put (some d) undef) w->Q (.panic c) a w)
 (hS:S w) (h:wpAnyH P md ops Q S fuel (bits n (m|||1<<<i)) (a.put (some d) undef) w):wpAnyH P md ops Q S (fuel+1) (bits n m) a w:=by
 obtain ⟨h1,h2,h3,h4,h5⟩:=zaf hi hb
 rw [<-zab]at h
 rw [<-h4]at h hQ
 exact wpAnyH_take hi h1 h2 h3 hQ (Or.inr ⟨by rw [zah h5 hd he];cases b<;>rfl,rfl⟩) hS h
def tqB (md:Region.Mode) (ops:Array Oper) (listed:Array Bool) (i:Nat):Bool:=Region.noSelect ops&&Region.free md ops listed i&&(Region.ready md ops listed).contains i
theorem zai {listed:Array Bool} {i:Nat} (h:tqB md ops listed i=true):Region.noSelect ops=true/\Region.free md ops listed i=true/\(Region.ready md ops listed).contains i=true:=by
 simp only [tqB,Bool.and_eq_true]at h
 exact ⟨h.1.1,h.1.2,h.2⟩
theorem tq (i:Nat) (v:Value) {oi:Oper} {listed:Array Bool} (hi:ops[i]? =some oi) (hb:tqB md ops listed i=true) (hw:Region.wanted oi (yielded ops a.tmps)=true) (hQ:∀c a w,Q (.panic c) (a.put oi.dst v) w->Q (.panic c) a w)
 (hy:∀w,S w->(execOp a.eval oi).run P w=.ok (.value v) w) (hS:S w) (h:wpAnyH P md ops Q S fuel (listed.setIfInBounds i true) (a.put oi.dst v) w):wpAnyH P md ops Q S (fuel+1) listed a w:=
 wpAnyH_take hi (zai hb).1 (zai hb).2.1 (zai hb).2.2 hQ (Or.inl ⟨hw,hy⟩) hS h
theorem tn (i:Nat) {oi:Oper} {listed:Array Bool} (hi:ops[i]? =some oi) (hb:tqB md ops listed i=true) (hw:Region.wanted oi (yielded ops a.tmps)=false) (hQ:∀c a w,Q (.panic c) (a.put oi.dst undef) w->Q (.panic c) a w)
 (hS:S w) (h:wpAnyH P md ops Q S fuel (listed.setIfInBounds i true) (a.put oi.dst undef) w):wpAnyH P md ops Q S (fuel+1) listed a w:=
 wpAnyH_take hi (zai hb).1 (zai hb).2.1 (zai hb).2.2 hQ (Or.inr ⟨hw,rfl⟩) hS h
theorem ta (i:Nat) (v:Value) {oi:Oper} {listed:Array Bool} (hi:ops[i]? =some oi) (hS:S w) (h:wpAnyH P md ops Q S fuel (listed.setIfInBounds i true) (a.put oi.dst v) w) (hb:tqB md ops listed i=true:=by kernel_rfl) (hw:Region.wanted oi (yielded ops a.tmps)=true:=by kernel_rfl)
 (hQ:∀c a w,Q (.panic c) (a.put oi.dst v) w->Q (.panic c) a w:=by exact fun _ _ _ h=>h) (hy:∀w,S w->(execOp a.eval oi).run P w=.ok (.value v) w:=by intro w hSw;go_simp):wpAnyH P md ops Q S (fuel+1) listed a w:=tq i v hi hb hw hQ hy hS h
theorem tan (i:Nat) {oi:Oper} {listed:Array Bool} (hi:ops[i]? =some oi) (hS:S w) (h:wpAnyH P md ops Q S fuel (listed.setIfInBounds i true) (a.put oi.dst undef) w) (hb:tqB md ops listed i=true:=by kernel_rfl) (hw:Region.wanted oi (yielded ops a.tmps)=false:=by kernel_rfl)
 (hQ:∀c a w,Q (.panic c) (a.put oi.dst undef) w->Q (.panic c) a w:=by exact fun _ _ _ h=>h):wpAnyH P md ops Q S (fuel+1) listed a w:=tn i hi hb hw hQ hS h
theorem tka (i d:Nat) (v:Value) {oi:Oper} (hi:ops[i]? =some oi) (hS:S w) (h:wpAnyH P md ops Q S fuel (bits n (m|||1<<<i)) (a.put (some d) v) w) (hb:tkB md ops n m i d none=true:=by kernel_rfl) (hQ:∀c a w,Q (.panic c) (a.put (some d) v) w->Q (.panic c) a w:=by exact fun _ _ _ h=>h)
 (hy:∀w,S w->(execOp a.eval oi).run P w=.ok (.value v) w:=by intro w hSw;go_simp):wpAnyH P md ops Q S (fuel+1) (bits n m) a w:=tk i d v hi hb hQ hy hS h
theorem tkga (i d g dg:Nat) (b:Bool) (v:Value) {oi:Oper} (hi:ops[i]? =some oi) (hd:(ops[g]?).bind (·.dst)=some dg) (hS:S w) (h:wpAnyH P md ops Q S fuel (bits n (m|||1<<<i)) (a.put (some d) v) w) (hb:tkB md ops n m i d (some (g,b))=true:=by kernel_rfl) (he:a.tmps[dg]? =some (.bool b):=by go_simp) (hQ:∀c a w,Q (.panic c) (a.put (some d) v) w->Q (.panic c) a w:=by exact fun _ _ _ h=>h)
 (hy:∀w,S w->(execOp a.eval oi).run P w=.ok (.value v) w:=by intro w hSw;go_simp):wpAnyH P md ops Q S (fuel+1) (bits n m) a w:=tkg i d g dg b v hi hb hd he hQ hy hS h
theorem tksa (i d g dg:Nat) (b:Bool) {oi:Oper} (hi:ops[i]? =some oi) (hd:(ops[g]?).bind (·.dst)=some dg) (hS:S w) (h:wpAnyH P md ops Q S fuel (bits n (m|||1<<<i)) (a.put (some d) undef) w) (hb:tkB md ops n m i d (some (g,b))=true:=by kernel_rfl) (he:a.tmps[dg]? =some (.bool (!b)):=by go_simp) (hQ:∀c a w,Q (.panic c) (a.put (some d) undef) w->Q (.panic c) a w:=by exact fun _ _ _ h=>h):wpAnyH P md ops Q S (fuel+1) (bits n m) a w:=tks i d g dg b hi hb hd he hQ hS h
end
theorem mkf (P:Program) (fn:Fn) (first cap:Array Value) (w:World):(Instr.makeFunc fn first cap).run P w=.ok (.func fn first cap) w:=rfl
end Go.Proofs.YtjdnmblggdobgaaGreat
namespace Go.Proofs.YtjdnmblggdobgaaGreat
open Go Go.RowKit
structure Gr (B:Nat) (W:World) where
 w:World
 ok:Below B W w
theorem zev {P:Program} {id:Nat} {Q:Exit->Act->World->Prop} {a:Act} {w:World} {l:List Oper} (B:Nat) (W:World) (hm:P.follows .mixedOrders=true) (hB:Region.lexB .any l.toArray=true) (hw:Below B W w)
 (h:wpQuiet P l.toArray (fun w'=>∃g:Gr B W,w'=g.w) (fun a'=>∀w',(∃g:Gr B W,w'=g.w)->Q .normal a' w') l a):(Code.region id l.toArray true).wp P Q a w:=
 wp_region_quiet (C:=fun w'=>∃g:Gr B W,w'=g.w) hm hB ⟨⟨_,hw.drew⟩,rfl⟩ (by simpa using h)
theorem Gr.calls {P:Program} {f:FuncId} {args:Array Value} {B:Nat} {W:World} {v:Value} (g:Gr B W) (hB:B<=W.heap.size)
 (h:Calls P f args g.w fun e w'=>e=.returned v/\Below g.w.heap.size g.w w'):Calls P f args g.w fun e w''=>e=.returned v/\∃g':Gr B W,w''=g'.w:=
 h.mono fun _ w'' ⟨he,hb⟩=>⟨he,⟨w'',g.ok.trans (hb.mono (Nat.le_trans hB g.ok.size))⟩,rfl⟩
end Go.Proofs.YtjdnmblggdobgaaGreat
namespace Go.Proofs.YtjdnmblggdobgaaGreat
open Go
section
variable {P:Program} {ops:Array Oper} {md:Region.Mode} {C:World->Prop} {R:List PanicEntry->World->Prop}
def diesUpon (P:Program) (R:List PanicEntry->World->Prop) (w:World):Result Next->Prop
 | .ok (.enter f args) w'=>w'=w/\Calls P f args w (fun e w''=>∃chain,e=.panicked chain/\R chain w'')
 | _=>False
def DiesIn (P:Program) (ops:Array Oper) (C:World->Prop) (R:List PanicEntry->World->Prop) (o:Oper) (a:Act):Prop:=
 Region.wanted o (yielded ops a.tmps)=true/\∀w,C w->diesUpon P R w ((execOp a.eval o).run P w)
def dOp (P:Program) (ops:Array Oper) (C:World->Prop) (R:List PanicEntry->World->Prop) (i:Nat) (K:Act->Prop) (a:Act):Prop:=
 qOp P ops C i K a\/∃o,ops[i]? =some o/\DiesIn P ops C R o a
def wpAnyD (P:Program) (md:Region.Mode) (ops:Array Oper) (C:World->Prop) (R:List PanicEntry->World->Prop) (Q:Act->Prop):Nat->Array Bool->Act->Prop
 | 0,listed,a=>Region.ready md ops listed= []/\Q a
 | fuel+1,listed,a=>
   (Region.ready md ops listed= []->Q a)/\
   ∀i∈Region.ready md ops listed,dOp P ops C R i (wpAnyD P md ops C R Q fuel (listed.setIfInBounds i true)) a
theorem zi4 (a:Act) (d:Option Tmp) (v:Value):(a.put d v).defers=a.defers:=by
 cases d<;>rfl
theorem zi5 {ds:List Deferred} {o:Oper} {a:Act} {K:Act->Prop} {K':Act->World->Prop} {Q':Exit->Act->World->Prop} {w:World} (hw:C w) (ha:a.defers=ds)
 (h:∀a w',a.defers=ds->C w'->K a->K' a w') (hh:o.quiet P a C K):o.wp P a w K' Q':=by
 refine Oper.wp_of_quiet (K:=fun a'=>K a'/\a'.defers=ds) hw (fun a' w' hc hk=>h a' w' hk.2 hc hk.1) ?_
 obtain ⟨v,h1,h2⟩:=hh
 exact ⟨v,h1,h2,by rw [zi4];exact ha⟩
theorem zi6 {ds:List Deferred} {i:Nat} {a:Act} {K:Act->Prop} {K':Act->World->Prop} {Q':Exit->Act->World->Prop} {w:World} (hC:C w) (ha:a.defers=ds)
 (hR:∀chain a w,a.defers=ds->R chain w->Q' (.panic chain) a w)
 (h:∀a w',a.defers=ds->C w'->K a->K' a w') (hh:dOp P ops C R i K a):wpOp P ops Q' i K' a w:=by
 rcases hh with hh | ⟨o,ho,hw,hd⟩
 ·
  unfold qOp at hh
  unfold wpOp
  split
  ·
   rename_i ho;simp only [ho]at hh;exact h _ _ ha hC hh
  rename_i o ho
  simp only [ho]at hh
  split
  ·
   rename_i hw;simp only [hw,if_true]at hh;exact .inl (zi5 hC ha h hh)
  rename_i hw;simp only [hw]at hh;exact h _ _ (by rw [zi4];exact ha) hC hh
 unfold wpOp
 simp only [ho,hw,if_true]
 left
 have h3:=hd w hC
 unfold Oper.wp
 generalize (execOp a.eval o).run P w=r at*
 cases r with
 | ok n w'=>
   cases n<;>simp only [diesUpon]at h3
   case enter f args=>
    obtain ⟨e1,hc⟩:=h3
    simp only [Oper.upon]
    rw [e1]
    exact hc.mono fun e w'' ⟨chain,he,hr⟩=>by subst he;exact hR _ _ _ ha hr
 | halt x w'=>simp only [diesUpon]at h3
theorem zi7 {ds:List Deferred} {Q:Act->Prop} {Q':Exit->Act->World->Prop} (hR:∀chain a w,a.defers=ds->R chain w->Q' (.panic chain) a w) (hQ:∀a w,C w->Q a->Q' .normal a w):
 ∀(fuel:Nat) (listed:Array Bool) (a:Act) (w:World),a.defers=ds->C w->wpAnyD P md ops C R Q fuel listed a->wpAny P md ops Q' fuel listed a w
 | 0,_,_,_,_,hw,h=>⟨h.1,hQ _ _ hw h.2⟩
 | fuel+1,_,_,_,ha,hw,h=>⟨fun h0=>hQ _ _ hw (h.1 h0),fun i hi=>zi6 hw ha hR (fun a' w' ha' hw'=>zi7 hR hQ fuel _ a' w' ha' hw') (h.2 i hi)⟩
theorem DiesIn.back {oi oj:Oper} {v:Value} (hap:oi.apart ops oj=true) (hsj:∀cs b,oj.op≠ .select cs b) {a:Act} (h:DiesIn P ops C R oj (a.put oi.dst v)):DiesIn P ops C R oj a:=by
 obtain ⟨h1,h2,h3⟩:=Oper.apart_spec hap
 obtain ⟨hw,hd⟩:=h
 rw [wanted_put oj a oi.dst v h1]at hw
 refine ⟨hw,fun w hC=>?_⟩
 have:=hd w hC
 rwa [execOp_put oj hsj a oi.dst v h1]at this
theorem zi8 {Q:Act->Prop} {i:Nat} {oi:Oper} {v:Value} (hi:ops[i]? =some oi) (hsel:∀(j:Nat) (o:Oper) cs b,ops[j]? =some o->o.op≠ .select cs b):
 ∀(fuel:Nat) (listed:Array Bool) (a:Act),
  (∀j oj,ops[j]? =some oj->j≠i->listed.getD j true=false->(∀e∈oj.after,Region.binds md e=true->e.on≠i)->oi.apart ops oj=true)->
  i∈Region.ready md ops listed->YieldsIn P ops C oi v a->
  wpAnyD P md ops C R Q fuel (listed.setIfInBounds i true) (a.put oi.dst v)->wpAnyD P md ops C R Q (fuel+1) listed a:=by
 intro fuel
 induction fuel with
 | zero=>
   intro listed a _ hr hy H
   refine ⟨fun h=>(by rw [h]at hr;cases hr),fun j hj=>?_⟩
   by_cases hji:j=i
   ·
    subst hji;exact Or.inl (hy.qOp hi H)
   have:=ready_mono hj hji
   rw [H.1]at this
   cases this
 | succ fuel ih=>
   intro listed a hfree hr hy H
   refine ⟨fun h=>(by rw [h]at hr;cases hr),fun j hj=>?_⟩
   by_cases hji:j=i
   ·
    subst hji;exact Or.inl (hy.qOp hi H)
   have h1:=H.2 j (ready_mono hj hji)
   obtain ⟨hjun,oj,hoj,hall⟩:=mem_ready.1 hj
   have hnot:∀e∈oj.after,Region.binds md e=true->e.on≠i:=fun e he hb heq=>by
    have h1:=hall e he hb
    have h0:=(mem_ready.1 hr).1
    rw [heq]at h1
    rcases Nat.lt_or_ge i listed.size with h' | h'
    ·
     simp [h']at h0 h1;rw [h0]at h1;cases h1
    simp [Array.getElem?_eq_none h']at h1
   have hap:=hfree j oj hoj hji hjun hnot
   rcases h1 with h1 | ⟨ok,hok,hd⟩
   ·
    have h2:=qOp_put hoj hap (fun cs b=>hsel i oi cs b hi) (fun cs b=>hsel j oj cs b hoj) hy h1
    have hfree':∀k ok,ops[k]? =some ok->k≠i->(listed.setIfInBounds j true).getD k true=false->
     (∀e∈ok.after,Region.binds md e=true->e.on≠i)->oi.apart ops ok=true:=fun k ok hk hki hun hno=>by
     refine hfree k ok hk hki ?_ hno
     by_cases hjk:j=k
     ·
      subst hjk;exact hjun
     rw [getD_set_ne true hjk]at hun;exact hun
    refine Or.inl (qOp_mono (fun a' h3=>ih (listed.setIfInBounds j true) a' hfree' (ready_mono hr (Ne.symm hji)) h3.1 ?_) h2)
    rw [Array.setIfInBounds_comm _ _ hji]
    exact h3.2
   obtain rfl:=Option.some.inj (hoj.symm.trans hok)
   exact Or.inr ⟨oj,hoj,DiesIn.back hap (fun cs b=>hsel j oj cs b hoj) hd⟩
theorem zi9 {Q:Act->Prop} {z:Oper} (hs:Region.noSelect ops=true):∀(l:List Oper) (k:Nat) (listed:Array Bool) (a:Act),(∀j,(l++ [z])[j]? =ops[k+j]?)->
 Region.lexFrom md ops (l.length+1) k listed=true->wpQuiet P ops C (fun a'=>DiesIn P ops C R z a') l a->wpAnyD P md ops C R Q (l.length+1) listed a
 | [],k,listed,a,hl,hB,h=>by
   have h0:ops[k]? =some z:=by simpa using (hl 0).symm
   simp only [List.length_nil,Region.lexFrom,Bool.and_eq_true]at hB
   obtain ⟨⟨hr,hf⟩,hB'⟩:=hB
   have hr':k∈Region.ready md ops listed:=by simpa using hr
   refine ⟨fun h=>(by rw [h]at hr';cases hr'),fun j hj=>?_⟩
   by_cases hjk:j=k
   ·
    subst hjk
    exact Or.inr ⟨z,h0,h⟩
   have:=ready_mono hj hjk
   rw [List.isEmpty_iff.1 hB']at this
   cases this
 | o::l,k,listed,a,hl,hB,h=>by
   have h0:ops[k]? =some o:=by simpa using (hl 0).symm
   rw [List.length_cons,Region.lexFrom]at hB
   simp only [Bool.and_eq_true]at hB
   obtain ⟨⟨hr,hf⟩,hB'⟩:=hB
   have hst:qOp P ops C k (wpQuiet P ops C (fun a'=>DiesIn P ops C R z a') l) a:=by unfold qOp;simp only [h0];exact h
   obtain ⟨v,hy,hK⟩:=yieldsIn_of_qOp h0 hst
   exact zi8 h0 (Region.noSelect_spec hs) (l.length+1) listed a (Region.free_spec h0 hf) (by simpa using hr) hy
    (zi9 hs l (k+1) _ _ (fun j=>by have:=hl (j+1);simpa [Nat.add_assoc,Nat.add_comm 1 j]using this) hB' hK)
end
end Go.Proofs.YtjdnmblggdobgaaGreat
