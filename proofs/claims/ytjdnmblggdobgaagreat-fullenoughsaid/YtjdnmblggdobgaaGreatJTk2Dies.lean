import Derived.Test.YtjdnmblggdobgaaGreatAl
import Derived.Deep.Quiet
import Derived.Deep.QuietTactic
import Derived.BigQuiet
namespace Go.Proofs.YtjdnmblggdobgaaGreat
def bits (n m:Nat):Array Bool:=((List.range n).map fun i=>m.testBit i).toArray
theorem zaa (n:Nat):Array.replicate n false=bits n 0:=by
 apply Array.ext
 ·simp [bits]
 ·intro i h1 A;simp [bits]
theorem A4 (n m i:Nat):(bits n m).setIfInBounds i true=bits n (m|||1<<<i):=by
 apply Array.ext
 ·simp [bits]
 ·intro j h1 A;simp only [bits,p2q,List.getElem_map,List.getElem_range,Nat.testBit_or,Nat.one_shiftLeft,Nat.testBit_two_pow];by_cases e:i=j
  ·simp [e]
  ·simp [e]
def Ec (md:Region.Mode) (ops:Array Oper) (n m i d:Nat) (g:Option (Nat×Bool)):Bool:=
 Region.noSelect ops&&Region.free md ops (bits n m) i&&(Region.ready md ops (bits n m)).contains i&&((ops[i]?).map (·.dst)==some (some d))&&((ops[i]?).map (·.guard)==some g)
theorem zaf {md:Region.Mode} {ops:Array Oper} {n m i d:Nat} {g:Option (Nat×Bool)} {A:Oper} (hi:ops[i]? =some A) (h:Ec md ops n m i d g=true):
 Region.noSelect ops=true/\Region.free md ops (bits n m) i=true/\(Region.ready md ops (bits n m)).contains i=true/\A.dst=some d/\A.guard=g:=by
 simp only [Ec,hi,Option.map_some,Bool.and_eq_true,beq_iff_eq,Option.some.injEq]at h;exact ⟨h.1.1.1.1,h.1.1.1.2,h.1.1.2,h.1.2,h.2⟩
theorem zag {P:Program} {ops:Array Oper} {Q:Exit->Act->World->Prop} {S:World->Prop} (n:Nat) {a:Act} {w:World} (A:ops.size=n) (h:∀a',a'=a->wpAnyH P .any ops Q S n (bits n 0) a' w):wpAnyH P .any ops Q S ops.size (Array.replicate ops.size false) a w:=by subst A;rw [zaa];exact h a rfl
section
variable {P:Program} {md:Region.Mode} {ops:Array Oper} {Q:Exit->Act->World->Prop} {S:World->Prop} {n m fuel:Nat} {a:Act} {w:World}
theorem tk (i d:Nat) (v:Value) {D:Oper} (hi:ops[i]? =some D) (L:Ec md ops n m i d none=true) (A:∀c a w,Q (.panic c) (a.put (some d) v) w->Q (.panic c) a w)
 (N:∀w,S w->(execOp a.eval D).run P w=.ok (.value v) w) (J:S w) (h:wpAnyH P md ops Q S fuel (bits n (m|||1<<<i)) (a.put (some d) v) w):wpAnyH P md ops Q S (fuel+1) (bits n m) a w:=by
 obtain ⟨h1,E,F,G,I⟩:=zaf hi L;rw [<-A4]at h;rw [<-G]at h A;exact wpAnyH_take hi h1 E F A (Or.inl ⟨by simp [Region.wanted,I],N⟩) J h
theorem zah {D:Oper} {g A:Nat} {b c:Bool} (G:D.guard=some (g,b)) (E:(ops[g]?).bind (·.dst)=some A) (F:a.tmps[A]? =some (.bool c)):Region.wanted D (yielded ops a.tmps)=(c==b):=by simp [Region.wanted,G,yielded,E,F]
theorem tkg (i d g A:Nat) (b:Bool) (v:Value) {E:Oper} (hi:ops[i]? =some E) (N:Ec md ops n m i d (some (g,b))=true) (O:(ops[g]?).bind (·.dst)=some A) (V:a.tmps[A]? =some (.bool b)) (D:∀c a w,Q (.panic c) (a.put (some d) v) w->Q (.panic c) a w)
 (W:∀w,S w->(execOp a.eval E).run P w=.ok (.value v) w) (L:S w) (h:wpAnyH P md ops Q S fuel (bits n (m|||1<<<i)) (a.put (some d) v) w):wpAnyH P md ops Q S (fuel+1) (bits n m) a w:=by
 obtain ⟨h1,F,G,I,J⟩:=zaf hi N;rw [<-A4]at h;rw [<-I]at h D;exact wpAnyH_take hi h1 F G D (Or.inl ⟨by rw [zah J O V];simp,W⟩) L h
theorem tks (i d g A:Nat) (b:Bool) {V:Oper} (hi:ops[i]? =some V) (L:Ec md ops n m i d (some (g,b))=true) (N:(ops[g]?).bind (·.dst)=some A) (O:a.tmps[A]? =some (.bool (!b))) (D:∀c a w,Q (.panic c) (a.put (some d) undef) w->Q (.panic c) a w)
 (J:S w) (h:wpAnyH P md ops Q S fuel (bits n (m|||1<<<i)) (a.put (some d) undef) w):wpAnyH P md ops Q S (fuel+1) (bits n m) a w:=by
 obtain ⟨h1,E,F,G,I⟩:=zaf hi L;rw [<-A4]at h;rw [<-G]at h D;exact wpAnyH_take hi h1 E F D (Or.inr ⟨by rw [zah I N O];cases b<;>rfl,rfl⟩) J h
def tqB (md:Region.Mode) (ops:Array Oper) (listed:Array Bool) (i:Nat):Bool:=Region.noSelect ops&&Region.free md ops listed i&&(Region.ready md ops listed).contains i
theorem zai {A:Array Bool} {i:Nat} (h:tqB md ops A i=true):Region.noSelect ops=true/\Region.free md ops A i=true/\(Region.ready md ops A).contains i=true:=by simp only [tqB,Bool.and_eq_true]at h;exact ⟨h.1.1,h.1.2,h.2⟩
theorem tq (i:Nat) (v:Value) {D:Oper} {A:Array Bool} (hi:ops[i]? =some D) (E:tqB md ops A i=true) (I:Region.wanted D (yielded ops a.tmps)=true) (F:∀c a w,Q (.panic c) (a.put D.dst v) w->Q (.panic c) a w)
 (J:∀w,S w->(execOp a.eval D).run P w=.ok (.value v) w) (G:S w) (h:wpAnyH P md ops Q S fuel (A.setIfInBounds i true) (a.put D.dst v) w):wpAnyH P md ops Q S (fuel+1) A a w:=
 wpAnyH_take hi (zai E).1 (zai E).2.1 (zai E).2.2 F (Or.inl ⟨I,J⟩) G h
theorem tn (i:Nat) {D:Oper} {A:Array Bool} (hi:ops[i]? =some D) (E:tqB md ops A i=true) (I:Region.wanted D (yielded ops a.tmps)=false) (F:∀c a w,Q (.panic c) (a.put D.dst undef) w->Q (.panic c) a w)
 (G:S w) (h:wpAnyH P md ops Q S fuel (A.setIfInBounds i true) (a.put D.dst undef) w):wpAnyH P md ops Q S (fuel+1) A a w:=
 wpAnyH_take hi (zai E).1 (zai E).2.1 (zai E).2.2 F (Or.inr ⟨I,rfl⟩) G h
theorem ta (i:Nat) (v:Value) {D:Oper} {A:Array Bool} (hi:ops[i]? =some D) (F:S w) (h:wpAnyH P md ops Q S fuel (A.setIfInBounds i true) (a.put D.dst v) w) (I:tqB md ops A i=true:=by kernel_rfl) (J:Region.wanted D (yielded ops a.tmps)=true:=by kernel_rfl)
 (E:∀c a w,Q (.panic c) (a.put D.dst v) w->Q (.panic c) a w:=by exact fun _ _ _ h=>h) (L:∀w,S w->(execOp a.eval D).run P w=.ok (.value v) w:=by intro w G;go_simp):wpAnyH P md ops Q S (fuel+1) A a w:=tq i v hi I J E L F h
theorem pb (i:Nat) {D:Oper} {A:Array Bool} (hi:ops[i]? =some D) (F:S w) (h:wpAnyH P md ops Q S fuel (A.setIfInBounds i true) (a.put D.dst undef) w) (G:tqB md ops A i=true:=by kernel_rfl) (I:Region.wanted D (yielded ops a.tmps)=false:=by kernel_rfl)
 (E:∀c a w,Q (.panic c) (a.put D.dst undef) w->Q (.panic c) a w:=by exact fun _ _ _ h=>h):wpAnyH P md ops Q S (fuel+1) A a w:=tn i hi G I E F h
theorem nt (i d:Nat) (v:Value) {A:Oper} (hi:ops[i]? =some A) (E:S w) (h:wpAnyH P md ops Q S fuel (bits n (m|||1<<<i)) (a.put (some d) v) w) (G:Ec md ops n m i d none=true:=by kernel_rfl) (D:∀c a w,Q (.panic c) (a.put (some d) v) w->Q (.panic c) a w:=by exact fun _ _ _ h=>h)
 (I:∀w,S w->(execOp a.eval A).run P w=.ok (.value v) w:=by intro w F;go_simp):wpAnyH P md ops Q S (fuel+1) (bits n m) a w:=tk i d v hi G D I E h
theorem iq (i d g A:Nat) (b:Bool) (v:Value) {D:Oper} (hi:ops[i]? =some D) (J:(ops[g]?).bind (·.dst)=some A) (F:S w) (h:wpAnyH P md ops Q S fuel (bits n (m|||1<<<i)) (a.put (some d) v) w) (I:Ec md ops n m i d (some (g,b))=true:=by kernel_rfl) (L:a.tmps[A]? =some (.bool b):=by go_simp) (E:∀c a w,Q (.panic c) (a.put (some d) v) w->Q (.panic c) a w:=by exact fun _ _ _ h=>h)
 (N:∀w,S w->(execOp a.eval D).run P w=.ok (.value v) w:=by intro w G;go_simp):wpAnyH P md ops Q S (fuel+1) (bits n m) a w:=tkg i d g A b v hi I J L E N F h
theorem qq (i d g A:Nat) (b:Bool) {J:Oper} (hi:ops[i]? =some J) (G:(ops[g]?).bind (·.dst)=some A) (E:S w) (h:wpAnyH P md ops Q S fuel (bits n (m|||1<<<i)) (a.put (some d) undef) w) (F:Ec md ops n m i d (some (g,b))=true:=by kernel_rfl) (I:a.tmps[A]? =some (.bool (!b)):=by go_simp) (D:∀c a w,Q (.panic c) (a.put (some d) undef) w->Q (.panic c) a w:=by exact fun _ _ _ h=>h):wpAnyH P md ops Q S (fuel+1) (bits n m) a w:=tks i d g A b hi F G I D E h
end
theorem qj (P:Program) (A:Fn) (first cap:Array Value) (w:World):(Instr.makeFunc A first cap).run P w=.ok (.func A first cap) w:=rfl
end Go.Proofs.YtjdnmblggdobgaaGreat
namespace Go.Proofs.YtjdnmblggdobgaaGreat
open Go Go.RowKit
structure Gr (B:Nat) (W:World) where
 w:World
 ok:Below B W w
theorem Ch {P:Program} {G:Nat} {Q:Exit->Act->World->Prop} {a:Act} {w:World} {l:List Oper} (B:Nat) (W:World) (E:P.follows .mixedOrders=true) (D:Region.lexB .any l.toArray=true) (F:Below B W w)
 (h:wpQuiet P l.toArray (fun w'=>∃g:Gr B W,w'=g.w) (fun A=>∀w',(∃g:Gr B W,w'=g.w)->Q .normal A w') l a):(Code.region G l.toArray true).wp P Q a w:=
 wp_region_quiet (C:=fun w'=>∃g:Gr B W,w'=g.w) E D ⟨⟨_,F.drew⟩,rfl⟩ (by simpa using h)
theorem Gr.calls {P:Program} {f:FuncId} {args:Array Value} {B:Nat} {W:World} {v:Value} (g:Gr B W) (D:B<=W.heap.size)
 (h:Calls P f args g.w fun e w'=>e=.returned v/\Below g.w.heap.size g.w w'):Calls P f args g.w fun e A=>e=.returned v/\∃g':Gr B W,A=g'.w:=
 h.mono fun _ A ⟨F,E⟩=>⟨F,⟨A,g.ok.trans (E.mono (lt3 D g.ok.size))⟩,rfl⟩
end Go.Proofs.YtjdnmblggdobgaaGreat
namespace Go.Proofs.YtjdnmblggdobgaaGreat
open Go
section
variable {P:Program} {ops:Array Oper} {md:Region.Mode} {C:World->Prop} {R:List PanicEntry->World->Prop}
def ur (P:Program) (R:List PanicEntry->World->Prop) (w:World):Result Next->Prop
 | .ok (.enter f args) w'=>w'=w/\Calls P f args w (fun e w''=>∃chain,e=.panicked chain/\R chain w'')
 | _=>False
def rh (P:Program) (ops:Array Oper) (C:World->Prop) (R:List PanicEntry->World->Prop) (o:Oper) (a:Act):Prop:=
 Region.wanted o (yielded ops a.tmps)=true/\∀w,C w->ur P R w ((execOp a.eval o).run P w)
def dOp (P:Program) (ops:Array Oper) (C:World->Prop) (R:List PanicEntry->World->Prop) (i:Nat) (K:Act->Prop) (a:Act):Prop:=
 qOp P ops C i K a\/∃o,ops[i]? =some o/\rh P ops C R o a
def vc (P:Program) (md:Region.Mode) (ops:Array Oper) (C:World->Prop) (R:List PanicEntry->World->Prop) (Q:Act->Prop):Nat->Array Bool->Act->Prop
 | 0,listed,a=>Region.ready md ops listed= []/\Q a
 | fuel+1,listed,a=>
   (Region.ready md ops listed= []->Q a)/\
   ∀i∈Region.ready md ops listed,dOp P ops C R i (vc P md ops C R Q fuel (listed.setIfInBounds i true)) a
theorem zi5 (a:Act) (d:Option Tmp) (v:Value):(a.put d v).defers=a.defers:=by cases d<;>rfl
theorem zi6 {D:List Deferred} {o:Oper} {a:Act} {K:Act->Prop} {E:Act->World->Prop} {G:Exit->Act->World->Prop} {w:World} (N:C w) (J:a.defers=D)
 (h:∀a w',a.defers=D->C w'->K a->E a w') (L:o.quiet P a C K):o.wp P a w E G:=by
 refine Oper.wp_of_quiet (K:=fun A=>K A/\A.defers=D) N (fun A w' hc F=>h A w' F.2 hc F.1) ?_;obtain ⟨v,h1,I⟩:=L;exact ⟨v,h1,I,by rw [zi5];exact J⟩
theorem zi7 {J:List Deferred} {i:Nat} {a:Act} {K:Act->Prop} {N:Act->World->Prop} {O:Exit->Act->World->Prop} {w:World} (G:C w) (I:a.defers=J)
 (W:∀A a w,a.defers=J->R A w->O (.panic A) a w)
 (h:∀a w',a.defers=J->C w'->K a->N a w') (D:dOp P ops C R i K a):wpOp P ops O i N a w:=by
 rcases D with D | ⟨o,E,F,X⟩
 ·unfold qOp at D;unfold wpOp;split
  ·rename_i E;simp only [E]at D;exact h _ _ I G D
  rename_i o E;simp only [E]at D;split
  ·rename_i F;simp only [F,if_true]at D;exact .inl (zi6 G I h D)
  rename_i F;simp only [F]at D;exact h _ _ (by rw [zi5];exact I) G D
 unfold wpOp;simp only [E,F,if_true];left;have L:=X w G;unfold Oper.wp;generalize (execOp a.eval o).run P w=r at*;cases r with
 | ok n w'=>
   cases n<;>simp only [ur]at L
   case enter f args=>
    obtain ⟨V,hc⟩:=L;simp only [Oper.upon];rw [V];exact hc.mono fun e aa ⟨A,Y,Z⟩=>by subst Y;exact W _ _ _ I Z
 | halt x w'=>simp only [ur]at L
theorem zi8 {G:List Deferred} {Q:Act->Prop} {A:Exit->Act->World->Prop} (I:∀chain a w,a.defers=G->R chain w->A (.panic chain) a w) (D:∀a w,C w->Q a->A .normal a w):
 ∀(fuel:Nat) (listed:Array Bool) (a:Act) (w:World),a.defers=G->C w->vc P md ops C R Q fuel listed a->wpAny P md ops A fuel listed a w
 | 0,_,_,_,_,hw,h=>⟨h.1,D _ _ hw h.2⟩
 | fuel+1,_,_,_,ha,hw,h=>⟨fun h0=>D _ _ hw (h.1 h0),fun i hi=>zi7 hw ha I (fun J w' E F=>zi8 I D fuel _ J w' E F) (h.2 i hi)⟩
theorem rh.back {D A:Oper} {v:Value} (E:D.apart ops A=true) (F:∀cs b,A.op≠ .select cs b) {a:Act} (h:rh P ops C R A (a.put D.dst v)):rh P ops C R A a:=by obtain ⟨h1,L,N⟩:=Oper.apart_spec E;obtain ⟨G,J⟩:=h;rw [wanted_put A a D.dst v h1]at G;refine ⟨G,fun w I=>?_⟩;have:=J w I;rwa [execOp_put A F a D.dst v h1]at this
theorem zi9 {Q:Act->Prop} {i:Nat} {V:Oper} {v:Value} (hi:ops[i]? =some V) (G:∀(j:Nat) (o:Oper) N b,ops[j]? =some o->o.op≠ .select N b):
 ∀(fuel:Nat) (A:Array Bool) (a:Act),
  (∀j J,ops[j]? =some J->j≠i->A.getD j true=false->(∀e∈J.after,Region.binds md e=true->e.on≠i)->V.apart ops J=true)->
  i∈Region.ready md ops A->YieldsIn P ops C V v a->
  vc P md ops C R Q fuel (A.setIfInBounds i true) (a.put V.dst v)->vc P md ops C R Q (fuel+1) A a:=by
 intro fuel;induction fuel with
 | zero=>
   intro A a _ O hy H;refine ⟨fun h=>(by rw [h]at O;cases O),fun j hj=>?_⟩;by_cases D:j=i
   ·subst D;exact Or.inl (hy.qOp hi H)
   have:=ready_mono hj D;rw [H.1]at this;cases this
 | succ fuel ih=>
   intro A a F O hy H;refine ⟨fun h=>(by rw [h]at O;cases O),fun j hj=>?_⟩;by_cases D:j=i
   ·subst D;exact Or.inl (hy.qOp hi H)
   have h1:=H.2 j (ready_mono hj D);obtain ⟨L,J,E,W⟩:=mem_ready.1 hj;have Z:∀e∈J.after,Region.binds md e=true->e.on≠i:=fun e he hb ac=>by
    have h1:=W e he hb;have h0:=(mem_ready.1 O).1;rw [ac]at h1;rcases Nat.lt_or_ge i A.size with h' | h'
    ·simp [h']at h0 h1;rw [h0]at h1;cases h1
    simp [Array.getElem?_eq_none h']at h1
   have X:=F j J E D L Z;rcases h1 with h1 | ⟨ok,ah,hd⟩
   ·have h2:=qOp_put E X (fun N b=>G i V N b hi) (fun N b=>G j J N b E) hy h1;have I:∀k ok,ops[k]? =some ok->k≠i->(A.setIfInBounds j true).getD k true=false->
     (∀e∈ok.after,Region.binds md e=true->e.on≠i)->V.apart ops ok=true:=fun k ok hk ad aa af=>by
     refine F k ok hk ad ?_ af;by_cases Y:j=k
     ·subst Y;exact L
     rw [getD_set_ne true Y]at aa;exact aa
    refine Or.inl (qOp_mono (fun a' h3=>ih (A.setIfInBounds j true) a' I (ready_mono O (Ne.symm D)) h3.1 ?_) h2);rw [Array.setIfInBounds_comm _ _ D];exact h3.2
   obtain rfl:=ojq (E.symm.trans ah);exact Or.inr ⟨J,E,rh.back X (fun N b=>G j J N b E) hd⟩
theorem zja {Q:Act->Prop} {z:Oper} (J:Region.noSelect ops=true):∀(l:List Oper) (k:Nat) (listed:Array Bool) (a:Act),(∀j,(l++ [z])[j]? =ops[k+j]?)->
 Region.lexFrom md ops (l.length+1) k listed=true->wpQuiet P ops C (fun F=>rh P ops C R z F) l a->vc P md ops C R Q (l.length+1) listed a
 | [],k,listed,a,hl,hB,h=>by
   have h0:ops[k]? =some z:=by simpa using (hl 0).symm
   simp only [List.length_nil,Region.lexFrom,Bool.and_eq_true]at hB;obtain ⟨⟨G,I⟩,A⟩:=hB;have E:k∈Region.ready md ops listed:=by simpa using G
   refine ⟨fun h=>(by rw [h]at E;cases E),fun j N=>?_⟩;by_cases D:j=k
   ·subst D;exact Or.inr ⟨z,h0,h⟩
   have:=ready_mono N D;rw [List.isEmpty_iff.1 A]at this;cases this
 | o::l,k,listed,a,hl,hB,h=>by
   have h0:ops[k]? =some o:=by simpa using (hl 0).symm
   rw [List.length_cons,Region.lexFrom]at hB;simp only [Bool.and_eq_true]at hB;obtain ⟨⟨G,I⟩,A⟩:=hB;have hst:qOp P ops C k (wpQuiet P ops C (fun F=>rh P ops C R z F) l) a:=by unfold qOp;simp only [h0];exact h
   obtain ⟨v,O,L⟩:=yieldsIn_of_qOp h0 hst;exact zi9 h0 (Region.noSelect_spec J) (l.length+1) listed a (Region.free_spec h0 I) (by simpa using G) O
    (zja J l (k+1) _ _ (fun j=>by have:=hl (j+1);simpa [Nat.add_assoc,Nat.add_comm 1 j]using this) A L)
end
end Go.Proofs.YtjdnmblggdobgaaGreat
