import Derived.Test.YtjdnmblggdobgaaGreatAl
import Derived.Deep.RegionHeld
import Derived.Deep.Quiet
import Derived.Deep.QuietTactic
import Derived.BigQuiet
import Derived.Below
namespace Go.Proofs.YtjdnmblggdobgaaGreat
def bits (n m:Nat):Array Bool:=((List.range n).map fun i=>m.testBit i).toArray
theorem zaa (n:Nat):Array.replicate n false=bits n 0:=by
 apply Array.ext
 ·simp [bits]
 ·intro i h1 u;simp [bits]
theorem zab (n m i:Nat):(bits n m).setIfInBounds i true=bits n (m|||1<<<i):=by
 apply Array.ext
 ·simp [bits]
 ·intro j h1 u;simp only [bits,p2q,List.getElem_map,List.getElem_range,Nat.testBit_or,Nat.one_shiftLeft,Nat.testBit_two_pow];by_cases e:i=j
  ·simp [e]
  ·simp [e]
def tkB (md:Region.Mode) (ops:Array Oper) (n m i d:Nat) (g:Option (Nat×Bool)):Bool:=
 Region.noSelect ops&&Region.free md ops (bits n m) i&&(Region.ready md ops (bits n m)).contains i&&((ops[i]?).map (·.dst)==some (some d))&&((ops[i]?).map (·.guard)==some g)
theorem zaf {md:Region.Mode} {ops:Array Oper} {n m i d:Nat} {g:Option (Nat×Bool)} {u:Oper} (hi:ops[i]? =some u) (h:tkB md ops n m i d g=true):
 Region.noSelect ops=true/\Region.free md ops (bits n m) i=true/\(Region.ready md ops (bits n m)).contains i=true/\u.dst=some d/\u.guard=g:=by
 simp only [tkB,hi,Option.map_some,Bool.and_eq_true,beq_iff_eq,Option.some.injEq]at h;exact ⟨h.1.1.1.1,h.1.1.1.2,h.1.1.2,h.1.2,h.2⟩
theorem zag {P:Program} {ops:Array Oper} {Q:Exit->Act->World->Prop} {S:World->Prop} (n:Nat) {a:Act} {w:World} (u:ops.size=n) (h:∀a',a'=a->wpAnyH P .any ops Q S n (bits n 0) a' w):wpAnyH P .any ops Q S ops.size (Array.replicate ops.size false) a w:=by subst u;rw [zaa];exact h a rfl
section
variable {P:Program} {md:Region.Mode} {ops:Array Oper} {Q:Exit->Act->World->Prop} {S:World->Prop} {n m fuel:Nat} {a:Act} {w:World}
theorem tk (i d:Nat) (v:Value) {A:Oper} (hi:ops[i]? =some A) (J:tkB md ops n m i d none=true) (u:∀c a w,Q (.panic c) (a.put (some d) v) w->Q (.panic c) a w)
 (L:∀w,S w->(execOp a.eval A).run P w=.ok (.value v) w) (I:S w) (h:wpAnyH P md ops Q S fuel (bits n (m|||1<<<i)) (a.put (some d) v) w):wpAnyH P md ops Q S (fuel+1) (bits n m) a w:=by
 obtain ⟨h1,D,E,F,G⟩:=zaf hi J;rw [<-zab]at h;rw [<-F]at h u;exact wpAnyH_take hi h1 D E u (Or.inl ⟨by simp [Region.wanted,G],L⟩) I h
theorem zah {A:Oper} {g u:Nat} {b c:Bool} (F:A.guard=some (g,b)) (D:(ops[g]?).bind (·.dst)=some u) (E:a.tmps[u]? =some (.bool c)):Region.wanted A (yielded ops a.tmps)=(c==b):=by simp [Region.wanted,F,yielded,D,E]
theorem tkg (i d g u:Nat) (b:Bool) (v:Value) {D:Oper} (hi:ops[i]? =some D) (L:tkB md ops n m i d (some (g,b))=true) (N:(ops[g]?).bind (·.dst)=some u) (O:a.tmps[u]? =some (.bool b)) (A:∀c a w,Q (.panic c) (a.put (some d) v) w->Q (.panic c) a w)
 (V:∀w,S w->(execOp a.eval D).run P w=.ok (.value v) w) (J:S w) (h:wpAnyH P md ops Q S fuel (bits n (m|||1<<<i)) (a.put (some d) v) w):wpAnyH P md ops Q S (fuel+1) (bits n m) a w:=by
 obtain ⟨h1,E,F,G,I⟩:=zaf hi L;rw [<-zab]at h;rw [<-G]at h A;exact wpAnyH_take hi h1 E F A (Or.inl ⟨by rw [zah I N O];simp,V⟩) J h
theorem tks (i d g u:Nat) (b:Bool) {O:Oper} (hi:ops[i]? =some O) (J:tkB md ops n m i d (some (g,b))=true) (L:(ops[g]?).bind (·.dst)=some u) (N:a.tmps[u]? =some (.bool (!b))) (A:∀c a w,Q (.panic c) (a.put (some d) undef) w->Q (.panic c) a w)
 (I:S w) (h:wpAnyH P md ops Q S fuel (bits n (m|||1<<<i)) (a.put (some d) undef) w):wpAnyH P md ops Q S (fuel+1) (bits n m) a w:=by
 obtain ⟨h1,D,E,F,G⟩:=zaf hi J;rw [<-zab]at h;rw [<-F]at h A;exact wpAnyH_take hi h1 D E A (Or.inr ⟨by rw [zah G L N];cases b<;>rfl,rfl⟩) I h
def tqB (md:Region.Mode) (ops:Array Oper) (listed:Array Bool) (i:Nat):Bool:=Region.noSelect ops&&Region.free md ops listed i&&(Region.ready md ops listed).contains i
theorem zai {u:Array Bool} {i:Nat} (h:tqB md ops u i=true):Region.noSelect ops=true/\Region.free md ops u i=true/\(Region.ready md ops u).contains i=true:=by simp only [tqB,Bool.and_eq_true]at h;exact ⟨h.1.1,h.1.2,h.2⟩
theorem tq (i:Nat) (v:Value) {A:Oper} {u:Array Bool} (hi:ops[i]? =some A) (D:tqB md ops u i=true) (G:Region.wanted A (yielded ops a.tmps)=true) (E:∀c a w,Q (.panic c) (a.put A.dst v) w->Q (.panic c) a w)
 (I:∀w,S w->(execOp a.eval A).run P w=.ok (.value v) w) (F:S w) (h:wpAnyH P md ops Q S fuel (u.setIfInBounds i true) (a.put A.dst v) w):wpAnyH P md ops Q S (fuel+1) u a w:=
 wpAnyH_take hi (zai D).1 (zai D).2.1 (zai D).2.2 E (Or.inl ⟨G,I⟩) F h
theorem tn (i:Nat) {A:Oper} {u:Array Bool} (hi:ops[i]? =some A) (D:tqB md ops u i=true) (G:Region.wanted A (yielded ops a.tmps)=false) (E:∀c a w,Q (.panic c) (a.put A.dst undef) w->Q (.panic c) a w)
 (F:S w) (h:wpAnyH P md ops Q S fuel (u.setIfInBounds i true) (a.put A.dst undef) w):wpAnyH P md ops Q S (fuel+1) u a w:=
 wpAnyH_take hi (zai D).1 (zai D).2.1 (zai D).2.2 E (Or.inr ⟨G,rfl⟩) F h
theorem ta (i:Nat) (v:Value) {A:Oper} {u:Array Bool} (hi:ops[i]? =some A) (E:S w) (h:wpAnyH P md ops Q S fuel (u.setIfInBounds i true) (a.put A.dst v) w) (G:tqB md ops u i=true:=by kernel_rfl) (I:Region.wanted A (yielded ops a.tmps)=true:=by kernel_rfl)
 (D:∀c a w,Q (.panic c) (a.put A.dst v) w->Q (.panic c) a w:=by exact fun _ _ _ h=>h) (J:∀w,S w->(execOp a.eval A).run P w=.ok (.value v) w:=by intro w F;go_simp):wpAnyH P md ops Q S (fuel+1) u a w:=tq i v hi G I D J E h
theorem mw (i:Nat) {A:Oper} {u:Array Bool} (hi:ops[i]? =some A) (E:S w) (h:wpAnyH P md ops Q S fuel (u.setIfInBounds i true) (a.put A.dst undef) w) (F:tqB md ops u i=true:=by kernel_rfl) (G:Region.wanted A (yielded ops a.tmps)=false:=by kernel_rfl)
 (D:∀c a w,Q (.panic c) (a.put A.dst undef) w->Q (.panic c) a w:=by exact fun _ _ _ h=>h):wpAnyH P md ops Q S (fuel+1) u a w:=tn i hi F G D E h
theorem iw (i d:Nat) (v:Value) {u:Oper} (hi:ops[i]? =some u) (D:S w) (h:wpAnyH P md ops Q S fuel (bits n (m|||1<<<i)) (a.put (some d) v) w) (F:tkB md ops n m i d none=true:=by kernel_rfl) (A:∀c a w,Q (.panic c) (a.put (some d) v) w->Q (.panic c) a w:=by exact fun _ _ _ h=>h)
 (G:∀w,S w->(execOp a.eval u).run P w=.ok (.value v) w:=by intro w E;go_simp):wpAnyH P md ops Q S (fuel+1) (bits n m) a w:=tk i d v hi F A G D h
theorem dp (i d g u:Nat) (b:Bool) (v:Value) {A:Oper} (hi:ops[i]? =some A) (I:(ops[g]?).bind (·.dst)=some u) (E:S w) (h:wpAnyH P md ops Q S fuel (bits n (m|||1<<<i)) (a.put (some d) v) w) (G:tkB md ops n m i d (some (g,b))=true:=by kernel_rfl) (J:a.tmps[u]? =some (.bool b):=by go_simp) (D:∀c a w,Q (.panic c) (a.put (some d) v) w->Q (.panic c) a w:=by exact fun _ _ _ h=>h)
 (L:∀w,S w->(execOp a.eval A).run P w=.ok (.value v) w:=by intro w F;go_simp):wpAnyH P md ops Q S (fuel+1) (bits n m) a w:=tkg i d g u b v hi G I J D L E h
theorem fh (i d g u:Nat) (b:Bool) {I:Oper} (hi:ops[i]? =some I) (F:(ops[g]?).bind (·.dst)=some u) (D:S w) (h:wpAnyH P md ops Q S fuel (bits n (m|||1<<<i)) (a.put (some d) undef) w) (E:tkB md ops n m i d (some (g,b))=true:=by kernel_rfl) (G:a.tmps[u]? =some (.bool (!b)):=by go_simp) (A:∀c a w,Q (.panic c) (a.put (some d) undef) w->Q (.panic c) a w:=by exact fun _ _ _ h=>h):wpAnyH P md ops Q S (fuel+1) (bits n m) a w:=tks i d g u b hi E F G A D h
end
theorem np (P:Program) (u:Fn) (first cap:Array Value) (w:World):(Instr.makeFunc u first cap).run P w=.ok (.func u first cap) w:=rfl
end Go.Proofs.YtjdnmblggdobgaaGreat
namespace Go.Proofs.YtjdnmblggdobgaaGreat
open Go Go.RowKit
structure Gr (B:Nat) (W:World) where
 w:World
 ok:Below B W w
theorem zev {P:Program} {F:Nat} {Q:Exit->Act->World->Prop} {a:Act} {w:World} {l:List Oper} (B:Nat) (W:World) (D:P.follows .mixedOrders=true) (A:Region.lexB .any l.toArray=true) (E:Below B W w)
 (h:wpQuiet P l.toArray (fun w'=>∃g:Gr B W,w'=g.w) (fun u=>∀w',(∃g:Gr B W,w'=g.w)->Q .normal u w') l a):(Code.region F l.toArray true).wp P Q a w:=
 wp_region_quiet (C:=fun w'=>∃g:Gr B W,w'=g.w) D A ⟨⟨_,E.drew⟩,rfl⟩ (by simpa using h)
theorem Gr.calls {P:Program} {f:FuncId} {args:Array Value} {B:Nat} {W:World} {v:Value} (g:Gr B W) (A:B<=W.heap.size)
 (h:Calls P f args g.w fun e w'=>e=.returned v/\Below g.w.heap.size g.w w'):Calls P f args g.w fun e u=>e=.returned v/\∃g':Gr B W,u=g'.w:=
 h.mono fun _ u ⟨E,D⟩=>⟨E,⟨u,g.ok.trans (D.mono (lt3 A g.ok.size))⟩,rfl⟩
end Go.Proofs.YtjdnmblggdobgaaGreat
namespace Go.Proofs.YtjdnmblggdobgaaGreat
open Go
section
variable {P:Program} {ops:Array Oper} {md:Region.Mode} {C:World->Prop} {R:List PanicEntry->World->Prop}
def diesUpon (P:Program) (R:List PanicEntry->World->Prop) (w:World):Result Next->Prop
 | .ok (.enter f args) w'=>w'=w/\Calls P f args w (fun e w''=>∃chain,e=.panicked chain/\R chain w'')
 | _=>False
def DiesIn (P:Program) (ops:Array Oper) (C:World->Prop) (R:List PanicEntry->World->Prop) (o:Oper) (a:Act):Prop:=
 Region.wanted o (yielded ops a.tmps)=true/\∀w,C w->diesUpon P R w ((execOp a.eval o).run P w)
def dOp (P:Program) (ops:Array Oper) (C:World->Prop) (R:List PanicEntry->World->Prop) (i:Nat) (K:Act->Prop) (a:Act):Prop:=
 qOp P ops C i K a\/∃o,ops[i]? =some o/\DiesIn P ops C R o a
def wpAnyD (P:Program) (md:Region.Mode) (ops:Array Oper) (C:World->Prop) (R:List PanicEntry->World->Prop) (Q:Act->Prop):Nat->Array Bool->Act->Prop
 | 0,listed,a=>Region.ready md ops listed= []/\Q a
 | fuel+1,listed,a=>
   (Region.ready md ops listed= []->Q a)/\
   ∀i∈Region.ready md ops listed,dOp P ops C R i (wpAnyD P md ops C R Q fuel (listed.setIfInBounds i true)) a
theorem zi5 (a:Act) (d:Option Tmp) (v:Value):(a.put d v).defers=a.defers:=by cases d<;>rfl
theorem zi6 {A:List Deferred} {o:Oper} {a:Act} {K:Act->Prop} {D:Act->World->Prop} {F:Exit->Act->World->Prop} {w:World} (L:C w) (I:a.defers=A)
 (h:∀a w',a.defers=A->C w'->K a->D a w') (J:o.quiet P a C K):o.wp P a w D F:=by
 refine Oper.wp_of_quiet (K:=fun u=>K u/\u.defers=A) L (fun u w' hc E=>h u w' E.2 hc E.1) ?_;obtain ⟨v,h1,G⟩:=J;exact ⟨v,h1,G,by rw [zi5];exact I⟩
theorem zi7 {I:List Deferred} {i:Nat} {a:Act} {K:Act->Prop} {L:Act->World->Prop} {N:Exit->Act->World->Prop} {w:World} (F:C w) (G:a.defers=I)
 (V:∀u a w,a.defers=I->R u w->N (.panic u) a w)
 (h:∀a w',a.defers=I->C w'->K a->L a w') (A:dOp P ops C R i K a):wpOp P ops N i L a w:=by
 rcases A with A | ⟨o,D,E,W⟩
 ·unfold qOp at A;unfold wpOp;split
  ·rename_i D;simp only [D]at A;exact h _ _ G F A
  rename_i o D;simp only [D]at A;split
  ·rename_i E;simp only [E,if_true]at A;exact .inl (zi6 F G h A)
  rename_i E;simp only [E]at A;exact h _ _ (by rw [zi5];exact G) F A
 unfold wpOp;simp only [D,E,if_true];left;have J:=W w F;unfold Oper.wp;generalize (execOp a.eval o).run P w=r at*;cases r with
 | ok n w'=>
   cases n<;>simp only [diesUpon]at J
   case enter f args=>
    obtain ⟨O,hc⟩:=J;simp only [Oper.upon];rw [O];exact hc.mono fun e Z ⟨u,X,Y⟩=>by subst X;exact V _ _ _ G Y
 | halt x w'=>simp only [diesUpon]at J
theorem zi8 {F:List Deferred} {Q:Act->Prop} {u:Exit->Act->World->Prop} (G:∀chain a w,a.defers=F->R chain w->u (.panic chain) a w) (A:∀a w,C w->Q a->u .normal a w):
 ∀(fuel:Nat) (listed:Array Bool) (a:Act) (w:World),a.defers=F->C w->wpAnyD P md ops C R Q fuel listed a->wpAny P md ops u fuel listed a w
 | 0,_,_,_,_,hw,h=>⟨h.1,A _ _ hw h.2⟩
 | fuel+1,_,_,_,ha,hw,h=>⟨fun h0=>A _ _ hw (h.1 h0),fun i hi=>zi7 hw ha G (fun I w' D E=>zi8 G A fuel _ I w' D E) (h.2 i hi)⟩
theorem DiesIn.back {A u:Oper} {v:Value} (D:A.apart ops u=true) (E:∀cs b,u.op≠ .select cs b) {a:Act} (h:DiesIn P ops C R u (a.put A.dst v)):DiesIn P ops C R u a:=by obtain ⟨h1,J,L⟩:=Oper.apart_spec D;obtain ⟨F,I⟩:=h;rw [wanted_put u a A.dst v h1]at F;refine ⟨F,fun w G=>?_⟩;have:=I w G;rwa [execOp_put u E a A.dst v h1]at this
theorem zi9 {Q:Act->Prop} {i:Nat} {O:Oper} {v:Value} (hi:ops[i]? =some O) (F:∀(j:Nat) (o:Oper) L b,ops[j]? =some o->o.op≠ .select L b):
 ∀(fuel:Nat) (u:Array Bool) (a:Act),
  (∀j I,ops[j]? =some I->j≠i->u.getD j true=false->(∀e∈I.after,Region.binds md e=true->e.on≠i)->O.apart ops I=true)->
  i∈Region.ready md ops u->YieldsIn P ops C O v a->
  wpAnyD P md ops C R Q fuel (u.setIfInBounds i true) (a.put O.dst v)->wpAnyD P md ops C R Q (fuel+1) u a:=by
 intro fuel;induction fuel with
 | zero=>
   intro u a _ N hy H;refine ⟨fun h=>(by rw [h]at N;cases N),fun j hj=>?_⟩;by_cases A:j=i
   ·subst A;exact Or.inl (hy.qOp hi H)
   have:=ready_mono hj A;rw [H.1]at this;cases this
 | succ fuel ih=>
   intro u a E N hy H;refine ⟨fun h=>(by rw [h]at N;cases N),fun j hj=>?_⟩;by_cases A:j=i
   ·subst A;exact Or.inl (hy.qOp hi H)
   have h1:=H.2 j (ready_mono hj A);obtain ⟨J,I,D,V⟩:=mem_ready.1 hj;have Y:∀e∈I.after,Region.binds md e=true->e.on≠i:=fun e he hb aa=>by
    have h1:=V e he hb;have h0:=(mem_ready.1 N).1;rw [aa]at h1;rcases Nat.lt_or_ge i u.size with h' | h'
    ·simp [h']at h0 h1;rw [h0]at h1;cases h1
    simp [Array.getElem?_eq_none h']at h1
   have W:=E j I D A J Y;rcases h1 with h1 | ⟨ok,ae,hd⟩
   ·have h2:=qOp_put D W (fun L b=>F i O L b hi) (fun L b=>F j I L b D) hy h1;have G:∀k ok,ops[k]? =some ok->k≠i->(u.setIfInBounds j true).getD k true=false->
     (∀e∈ok.after,Region.binds md e=true->e.on≠i)->O.apart ops ok=true:=fun k ok hk ac Z ad=>by
     refine E k ok hk ac ?_ ad;by_cases X:j=k
     ·subst X;exact J
     rw [getD_set_ne true X]at Z;exact Z
    refine Or.inl (qOp_mono (fun a' h3=>ih (u.setIfInBounds j true) a' G (ready_mono N (Ne.symm A)) h3.1 ?_) h2);rw [Array.setIfInBounds_comm _ _ A];exact h3.2
   obtain rfl:=ojq (D.symm.trans ae);exact Or.inr ⟨I,D,DiesIn.back W (fun L b=>F j I L b D) hd⟩
theorem zja {Q:Act->Prop} {z:Oper} (I:Region.noSelect ops=true):∀(l:List Oper) (k:Nat) (listed:Array Bool) (a:Act),(∀j,(l++ [z])[j]? =ops[k+j]?)->
 Region.lexFrom md ops (l.length+1) k listed=true->wpQuiet P ops C (fun E=>DiesIn P ops C R z E) l a->wpAnyD P md ops C R Q (l.length+1) listed a
 | [],k,listed,a,hl,hB,h=>by
   have h0:ops[k]? =some z:=by simpa using (hl 0).symm
   simp only [List.length_nil,Region.lexFrom,Bool.and_eq_true]at hB;obtain ⟨⟨F,G⟩,u⟩:=hB;have D:k∈Region.ready md ops listed:=by simpa using F
   refine ⟨fun h=>(by rw [h]at D;cases D),fun j L=>?_⟩;by_cases A:j=k
   ·subst A;exact Or.inr ⟨z,h0,h⟩
   have:=ready_mono L A;rw [List.isEmpty_iff.1 u]at this;cases this
 | o::l,k,listed,a,hl,hB,h=>by
   have h0:ops[k]? =some o:=by simpa using (hl 0).symm
   rw [List.length_cons,Region.lexFrom]at hB;simp only [Bool.and_eq_true]at hB;obtain ⟨⟨F,G⟩,u⟩:=hB;have hst:qOp P ops C k (wpQuiet P ops C (fun E=>DiesIn P ops C R z E) l) a:=by unfold qOp;simp only [h0];exact h
   obtain ⟨v,N,J⟩:=yieldsIn_of_qOp h0 hst;exact zi9 h0 (Region.noSelect_spec I) (l.length+1) listed a (Region.free_spec h0 G) (by simpa using F) N
    (zja I l (k+1) _ _ (fun j=>by have:=hl (j+1);simpa [Nat.add_assoc,Nat.add_comm 1 j]using this) u J)
end
end Go.Proofs.YtjdnmblggdobgaaGreat
