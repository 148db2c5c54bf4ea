import Derived.Shelf.Spec.SlicesInsert
import Derived.Shelf.Spec.SlicesInsertGrow
import Derived.Deep.RegionLawGrows
import Derived.Test.YtjdnmblggdobgaaGreatJLPu5HuE
import Derived.DataShut
set_option maxHeartbeats 2000000
set_option maxRecDepth 100000
namespace Go.Proofs.YtjdnmblggdobgaaGreat
open Go.RowKit Go.Maps Tryz
theorem zrh {d:bd} {h:ar} {ts E D:List bk} (A:io d h=some ts) (h1:b9 d.aj.length d.fields h.ab 1 h.bo=some E) (F:b9 d.aj.length d.fields h.ab (h.ae+1) h.ba=some D):ts=E++D:=by unfold io at A;rw [h1,F]at A;exact (ojq A).symm
theorem zri (w:World) (B:Nat) (vW vO kC kS kF kN kT:Value) (h:ar) (d:bd) (g:Hd B w vW vO kC kS kF kN kT h d) (hz:nj d h) (hd:Cu d) (ts:List bk) (D:io d h=some ts) (A:Int):
 Calls prog 28 #[.agg #[vW,.i h.ae,.i h.old,.i h.bo,.i h.ba,vO,.i h.next],.agg #[kC,kS,kF,kN,kT],.i A] w fun r w'=>r=.returned (.bool (j9 ts A).isSome)/\Bl w w':=by
 have HG:=ag g;obtain ⟨aW,cW,aO,cO,aC,cC,aS,cS,aF,cF,aN,cN,aT,cT,rfl,rfl,rfl,rfl,rfl,rfl,rfl⟩:=g.agg;clear g;obtain ⟨W0,aa,J,al,k0,k1⟩:=ro w #[.slice aW h.ab.length cW,.i h.ae,.i h.old,.i h.bo,.i h.ba,.slice aO h.am.length cO,.i h.next] #[.slice aC d.aj.length cC,.slice aS d.bg.length cS,.slice aF d.fields.length cF,.slice aN d.names.length cN,.slice aT d.ax.length cT] 24 36;have Z:=HG.o.below (J.mono HG.o.le);have I:=ag (znr W0 B _ _ _ _ _ _ _ h d Z.sW Z.sO Z.lk Z.le hz (fun f hf=>lt3 (hd.fs f hf) (by omega)));have Y:=ag D;have HZ:=ag hz;have V:=ag J;have X:=ag aa;rw [X.o]at I;clear k0 k1 J aa al Z D hz hd;go_enter func28,ntmps28;go_wp2_with fail;refine I.o.mono ?_;rw [<-X.o];rintro r O ⟨ac,⟨ys,os,vy,vo,h1,h2,rfl,F,G⟩ | ⟨ah,-⟩⟩
 rotate_left
 ·rw [Y.o]at ah;cases ah
 have D:=zrh Y.o h1 h2;have E:Hid ((j9 ts A).isSome=((ys.map bk.loc).contains A||(os.map bk.loc).contains A)):=by show _=_;rw [Cd,D,List.map_append,List.contains_append]
 obtain ⟨m1,L⟩:∃m:List Int,ys.map bk.loc=m:=⟨_,rfl⟩;obtain ⟨m2,N⟩:∃m:List Int,os.map bk.loc=m:=⟨_,rfl⟩;rw [L]at F E;rw [N]at G E;have z1:=HZ.o.ae;have z2:=HZ.o.old;have z4:=HZ.o.bo;have z5:=HZ.o.ba;have ad:m1.length<=1000000:=by have:=Dq (by omega) h1;rw [<-L,List.length_map];omega
 have af:m2.length<=1000000:=by have:=Dq (by omega) h2;rw [<-N,List.length_map];omega
 clear z1 z2 z4 z5;have s1:=ru F ad;have s2:=ru G af;have ai:Hid (Calls prog 74 #[vy,.i A] O fun r w'=>r=.returned (.bool (m1.contains A))/\w'=O):=Fo O _ _ _ s1 A;have ak:Hid (Calls prog 74 #[vo,.i A] O fun r w'=>r=.returned (.bool (m2.contains A))/\w'=O):=Fo O _ _ _ s2 A;obtain ⟨a1,c1,rfl⟩:=zms F;obtain ⟨a2,c2,rfl⟩:=zms G;generalize m1.contains A=q1 at*;generalize m2.contains A=q2 at*;have W:=ag (V.o.trans (ac.mono V.o.size));clear ac F G s1 s2 L N h1 h2 D ad af I;go_wp2_with fail;refine ai.o.mono ?_;rintro r _ ⟨rfl,rfl⟩;cases q1 with
 | true=>
   go_wp2_with fail;go_ret;exact ⟨by rw [E.o];rfl,W.o⟩
 | false=>
   go_wp2_with fail;refine ak.o.mono ?_;rintro r _ ⟨rfl,rfl⟩;go_wp2_with fail;go_ret;exact ⟨by rw [E.o];rfl,W.o⟩
end Go.Proofs.YtjdnmblggdobgaaGreat
namespace Go.Proofs.YtjdnmblggdobgaaGreat
section
variable (P:Program) (md:Region.Mode) (ops:Array Oper) (Q:Exit->Act->World->Prop) (T:World->Prop) (st:Nat)
def Am:Nat->Array Bool->Act->World->Prop
 | 0,l,a,w=>Region.ready md ops l= []/\Q .normal a w
 | n+1,l,a,w=>(Region.ready md ops l= []->Q .normal a w)/\∀j∈Region.ready md ops l,wpOp P ops Q j (fun a' w'=>(j≠st->l.getD st true=false->T w')/\Am n (l.setIfInBounds j true) a' w') a w
def tw (i:Nat):Bool:=match ops[st]? with | some o=>o.after.any fun e=>Region.binds md e&&e.on==i | none=>false
end
section
variable {P:Program} {md:Region.Mode} {ops:Array Oper} {Q:Exit->Act->World->Prop} {T:World->Prop} {st:Nat}
theorem zrj:∀(n:Nat) (l:Array Bool) (a:Act) (w:World),Am P md ops Q T st n l a w->wpAny P md ops Q n l a w
 | 0,_,_,_,h=>h
 | n+1,_,_,_,h=>⟨h.1,fun i hi=>wpOp_mono (fun A w' h'=>zrj n _ A w' h'.2) (h.2 i hi)⟩
theorem zrk {i:Nat} {l:Array Bool} (E:tw md ops st i=true) (hi:l.getD i true=false):st∉Region.ready md ops l:=fun I=>by
 obtain ⟨-,o,G,A⟩:=mem_ready.1 I;unfold tw at E;rw [G]at E;obtain ⟨k,F,-,D⟩:=Array.any_iff_exists.1 E;rw [Bool.and_eq_true,beq_iff_eq]at D;have h1:=A _ (Array.getElem_mem F) D.2.1;rw [D.2.2]at h1;rcases Nat.lt_or_ge i l.size with h' | h'
 ·simp [h']at h1 hi;rw [hi]at h1;cases h1
 simp [Array.getElem?_eq_none h']at h1
theorem zrl {i:Nat} {J:Oper} {v:Value} {U:World->Prop} (hi:ops[i]? =some J) (D:∀(j:Nat) (o:Oper) L b,ops[j]? =some o->o.op≠ .select L b)
 (hQ:∀c a w,Q (.panic c) (a.put J.dst v) w->Q (.panic c) a w) (ai:i≠st) (hu:(∀w,U w)\/(tw md ops st i=true/\∀w,T w->U w)):
 ∀(n:Nat) (l:Array Bool) (a:Act) (w:World),(∀j I,ops[j]? =some I->j≠i->l.getD j true=false->(∀e∈I.after,Region.binds md e=true->e.on≠i)->J.apart ops I=true)->
  i∈Region.ready md ops l->YieldsIf P ops U J v a->(l.getD st true=false->T w)->(tw md ops st i=true->l.getD st true=false)->
  U w->Am P md ops Q T st n (l.setIfInBounds i true) (a.put J.dst v) w->Am P md ops Q T st (n+1) l a w:=by
 intro n;induction n with
 | zero=>
   intro l a w _ Z hy hT _ hU H;refine ⟨fun h=>absurd Z (by rw [h];simp),fun j V=>?_⟩;rcases Nat.decEq j i with e | e
   ·have h0:=ready_mono V e;rw [H.1]at h0;cases h0
   subst e;exact hy.wpOp hi hU ⟨fun _=>hT,H⟩
 | succ n ih=>
   intro l a w hf Z hy hT hs hU H;refine ⟨fun h=>absurd Z (by rw [h];simp),fun j V=>?_⟩;rcases Nat.decEq j i with e | e
   ·obtain ⟨F,I,G,O⟩:=mem_ready.1 V;have E:=(mem_ready.1 Z).1;have aj:∀d∈I.after,Region.binds md d=true->d.on≠i:=fun d hd hb hq=>by
     have h1:=O d hd hb;rw [hq]at h1;rcases Nat.lt_or_ge i l.size with h' | h'
     ·simp [h']at E h1;rw [E]at h1;cases h1
     simp [Array.getElem?_eq_none h']at h1
    have h2:=wpOp_putIf G (hf j I G e F aj) (fun L b=>D i J L b hi) (fun L b=>D j I L b G) hQ hy (H.2 j (ready_mono V e));refine wpOp_mono (fun a' w' h3=>?_) h2;have ht:j≠st->l.getD st true=false->T w':=fun ad X=>h3.2.1 ad (by rw [getD_set_ne true ai];exact X);have aa:tw md ops st i=true->(l.setIfInBounds j true).getD st true=false:=fun hw=>by have A:j≠st:=fun e2=>zrk hw E (e2 ▸ V);rw [getD_set_ne true A];exact hs hw
    have N:(l.setIfInBounds j true).getD st true=false->T w':=fun X=>by
     by_cases A:j=st
     ·subst A;have ah:j<l.size:=by
       rcases Nat.lt_or_ge j l.size with h' | h'
       ·exact h'
       simp [Array.getElem?_eq_none h']at F
      simp [ah]at X
     rw [getD_set_ne true A]at X;exact ht A X
    refine ⟨ht,ih (l.setIfInBounds j true) a' w' (fun k ok hk af ac Y=>hf k ok hk af ?_ Y) (ready_mono Z (Ne.symm e)) h3.1 N aa ?_ ?_⟩
    ·by_cases W:j=k
     ·subst W;exact F
     rw [getD_set_ne true W]at ac;exact ac
    ·rcases hu with hu | ⟨hw,hu⟩
     ·exact hu _
     exact hu _ (N (aa hw))
    rw [Array.setIfInBounds_comm _ _ e];exact h3.2.2
   subst e;exact hy.wpOp hi hU ⟨fun _=>hT,H⟩
def Dm (md:Region.Mode) (ops:Array Oper) (st:Nat) (l:Array Bool) (i:Nat):Bool:=Region.noSelect ops&&Region.free md ops l i&&(Region.ready md ops l).contains i&&(i != st)&&(!(l.getD st true))
theorem A9 (i:Nat) (v:Value) {D:Oper} {n:Nat} {l:Array Bool} {a:Act} {w:World} (hi:ops[i]? =some D) (A:Dm md ops st l i=true) (I:tw md ops st i=true) (G:Region.wanted D (yielded ops a.tmps)=true) (F:∀c a w,Q (.panic c) (a.put D.dst v) w->Q (.panic c) a w)
 (J:∀w,T w->(execOp a.eval D).run P w=.ok (.value v) w) (E:T w) (h:Am P md ops Q T st n (l.setIfInBounds i true) (a.put D.dst v) w):Am P md ops Q T st (n+1) l a w:=by
 simp only [Dm,Bool.and_eq_true,bne_iff_ne,Bool.not_eq_true']at A;exact zrl hi (Region.noSelect_spec A.1.1.1.1) F A.1.2 (Or.inr ⟨I,fun _ h=>h⟩) n l a w (Region.free_spec hi A.1.1.1.2) (by simpa using A.1.1.2) (Or.inl ⟨G,J⟩) (fun _=>E) (fun _=>A.2) E h
theorem pr (i:Nat) (v:Value) {D:Oper} {n:Nat} {l:Array Bool} {a:Act} {w:World} (hi:ops[i]? =some D) (A:Dm md ops st l i=true) (G:Region.wanted D (yielded ops a.tmps)=true) (E:∀c a w,Q (.panic c) (a.put D.dst v) w->Q (.panic c) a w)
 (I:∀w,(execOp a.eval D).run P w=.ok (.value v) w) (F:T w) (h:Am P md ops Q T st n (l.setIfInBounds i true) (a.put D.dst v) w):Am P md ops Q T st (n+1) l a w:=by
 simp only [Dm,Bool.and_eq_true,bne_iff_ne,Bool.not_eq_true']at A;exact zrl (U:=fun _=>True) hi (Region.noSelect_spec A.1.1.1.1) E A.1.2 (Or.inl fun _=>trivial) n l a w (Region.free_spec hi A.1.1.1.2) (by simpa using A.1.1.2) (Or.inl ⟨G,fun w _=>I w⟩) (fun _=>F) (fun _=>A.2) trivial h
def ku (P:Program) (md:Region.Mode) (ops:Array Oper) (Q:Exit->Act->World->Prop) (T:World->Prop) (st n:Nat) (l:Array Bool) (a:Act) (w:World) (rs:List Nat):Prop:=
 ∀j∈rs,wpOp P ops Q j (fun a' w'=>(j≠st->l.getD st true=false->T w')/\Am P md ops Q T st n (l.setIfInBounds j true) a' w') a w
theorem ku.nil {n:Nat} {l:Array Bool} {a:Act} {w:World} :ku P md ops Q T st n l a w []:=fun _ h=>by cases h
theorem ku.cons {n j:Nat} {l:Array Bool} {a:Act} {w:World} {o:Oper} {rs:List Nat} (F:ops[j]? =some o)
 (h:∀K:Act->World->Prop,Shut (∀a w,(j≠st->l.getD st true=false->T w)->Am P md ops Q T st n (l.setIfInBounds j true) a w->K a w)->if Region.wanted o (yielded ops a.tmps)=true then Oper.wp P o a w K Q else K (a.put o.dst undef) w)
 (G:ku P md ops Q T st n l a w rs):ku P md ops Q T st n l a w (j::rs):=fun k A=>by
 rcases List.mem_cons.1 A with rfl | A
 ·exact wpOp_step F fun K E=>h K fun a w h1 D=>E a w ⟨h1,D⟩
 exact G k A
theorem Aj {rs:List Nat} {n:Nat} {l:Array Bool} {a:Act} {w:World} (D:Region.ready md ops l=rs) (A:rs≠ []) (h:ku P md ops Q T st n l a w rs):Am P md ops Q T st (n+1) l a w:=
 ⟨fun h0=>absurd (D ▸ h0) A,D ▸ h⟩
theorem zrp {l:Array Bool} {a:Act} {w:World} (A:Region.ready md ops l= []) (h:Q .normal a w):∀n,Am P md ops Q T st n l a w
 | 0=>⟨A,h⟩
 | _+1=>⟨fun _=>h,by rw [A];simp⟩
theorem zrq (T:World->Prop) (st:Nat) {E:Nat} {a:Act} {w:World} (D:P.follows .mixedOrders=true) (A:T w.drew) (h:T w.drew->Am P .any ops Q T st ops.size (Array.replicate ops.size false) a w.drew):(Code.region E ops true).wp P Q a w:=
 wp_region_any D (zrj _ _ _ _ (h A))
end
end Go.Proofs.YtjdnmblggdobgaaGreat
namespace Go.Proofs.YtjdnmblggdobgaaGreat
open Go.RowKit Go.Maps Tryz
theorem zrr {ops:Array Oper} {o:Oper} {a:Act} {K:Act->World->Prop} {Q:Exit->Act->World->Prop} {E:Prop} (w:World) (I:o.guard=none) (s x:Operand)
 (Z:o.op=.call { callee:=.builtin .append,args:=#[s,x],argTypes:=#[22,22] }) (A:Nat) (v:Value) (xs:List Int) (hs:a.eval s=v) (D:w.ownsRow A 3 1 v xs.length (bw xs))
 (M:Nat->Prop) (u:Value) (l:List Int) (hx:a.eval x=u) (W:SL 1 RI M w u l) (hb:xs.length+l.length<=2000000) (F:A<=w.heap.size)
 (h:∀v' w',w'.ownsRow A 3 1 v' (xs++l).length (bw (xs++l))->w.grownBy w' v.ownBlock->(v'.ownBlock=v.ownBlock\/v'.ownBlock=some w.heap.size)->K (a.put o.dst v') w'):if Region.wanted o (yielded ops a.tmps)=true then Oper.wp prog o a w K Q else E:=by
 obtain ⟨iI,J,N,O,V⟩:=info_parts jy;have HU:=W;obtain ⟨ao,Y,rfl,-,-,X⟩:=W;cases l with
 | nil=>
   obtain ⟨av,cv,rfl⟩:=kq D;have L:=zga D;rw [if_pos (by simp [Region.wanted,I])];have hr:=zf8 (P:=prog) w 22 o.type 3 iI underlying22 J av xs.length cv L.1 L.2 ao Y;unfold Oper.wp execOp;simp only [Z,resolve,invoke,builtin,Sem.run_bind,Sem.run_pure,Result.andThen_ok,List.map_toArray,List.map_cons,List.map_nil,hs,hx,List.length_nil,hr];exact h _ _ (by simpa using D) (World.grownBy.refl _ _) (Or.inl rfl)
 | cons y l=>
   obtain ⟨b,off,cs,e,-⟩:=X 0 (by simp);subst e;refine step_append_lies w I s x 22 Z A 3 iI (.i 0) 1 8 underlying22 J N O V rfl (by decide) v xs.length (bw xs) hs D ⟨b,off,none⟩ (y::l).length Y (bw (y::l)) hx (by rw [ui];simp) HU.bw (by
    intro u W;obtain ⟨z,-,rfl⟩:=List.mem_map.1 W;rfl) (by simp) (by unfold maxLen;omega) (by omega) F w.heap.size rfl ?_
   intro g cap w' h1 h2 G _;refine h _ _ ?_ h2 ?_
   ·rw [Fk,List.length_append];exact h1
   rcases G with G | G
   ·exact Or.inl G.symm
   exact Or.inr (congrArg some G)





theorem zsp (x y z:Int):∀(m:Nat) (ws:List Int),m+2<ws.length->((ws.set m x).set (m+1) y).set (m+2) z=lu ws m x y z
 | 0,_::_::_::_,_=>by simp [lu]
 | m+1,a::r,h=>by have:=zsp x y z m r (by simp at h;omega);simp only [lu]at this;simp [lu,this]
end Go.Proofs.YtjdnmblggdobgaaGreat
namespace Go.Proofs.YtjdnmblggdobgaaGreat
open Go.Shelf Tryz

end Go.Proofs.YtjdnmblggdobgaaGreat
namespace Go.Proofs.YtjdnmblggdobgaaGreat
open Go.RowKit Go.Maps Go.Shelf Tryz
theorem zsu {w:World} {b:Nat} :∀(vs:List Value) (o:Nat) {W:World},w.grownBy W (some b)->w.grownBy (W.setCells b o vs) (some b)
 | [],_,_,h=>h
 | v::r,o,_,h=>zsu r (o+1) (ow h ⟨b,o,none⟩ v (Or.inl rfl))
theorem zsv {b t:Nat} :∀(vs:List Value) (o:Nat) {W:World} {cur:Array Value},W.heap[b]? =some (.cells cur t (0,0))->∃cur',(W.setCells b o vs).heap[b]? =some (.cells cur' t (0,0))/\cur'.size=cur.size
 | [],_,_,cur,h=>⟨cur,h,rfl⟩
 | v::r,o,_,cur,h=>by obtain ⟨c,h1,A⟩:=zsv r (o+1) (rr h (j:=o) v);exact ⟨c,h1,by rw [A];simp⟩
theorem zsw {W:World} {b t:Nat} {A:Array Value} (h:W.heap[b]? =some (.cells A t (0,0))) (j:Nat):W.cell? ⟨b,j,none⟩=A[j]? :=by simp [World.cell?,h]
theorem zsx {w:World} {B b t n cap:Nat} {A:Array Value} {xs:List Value} (D:w.heap[b]? =some (.cells A t (0,0))) (F:B<=b) (J:A.size=cap) (I:n<=cap) (G:cap<=maxLen) (L:xs.length=n) (hc:∀j v,xs[j]? =some v->w.cell? ⟨b,j,none⟩=some v):
 w.ownsRow B t 1 (.slice (some ⟨b,0,none⟩) n cap) n xs:=by
 refine ⟨by rw [L,Nat.mul_one],Or.inr ⟨b,cap,A,rfl,F,D,I,G,by rw [J,Nat.mul_one],?_⟩⟩;apply List.ext_getElem?;intro j;rw [Nat.mul_one,List.getElem?_take];by_cases E:j<n
 ·rw [if_pos E];have h1:=hc j (xs[j]'(by omega)) (List.getElem?_eq_getElem (by omega));rw [zsw D]at h1;rw [Array.getElem?_toList,h1,List.getElem?_eq_getElem (by omega)]
 rw [if_neg E,List.getElem?_eq_none (by omega)]
theorem zsy {w:World} {B e g cap n:Nat} {xs:List Value} (h:w.ownsRow B e 1 (.slice (some ⟨g,0,none⟩) n cap) n xs):∃A,w.heap[g]? =some (.cells A e (0,0))/\B<=g/\n<=cap/\cap<=maxLen/\A.size=cap/\xs.length=n/\∀j v,xs[j]? =some v->w.cell? ⟨g,j,none⟩=some v:=by
 have J:=h.1;rcases h.2 with ⟨q,-⟩ | ⟨O,E,A,q,L,F,hc,N,G,I⟩
 ·cases q
 cases q;rw [Nat.mul_one]at J G I;refine ⟨A,F,L,hc,N,G,J,fun j v D=>?_⟩;rw [zsw F,<-Array.getElem?_toList];rw [<-I,List.getElem?_take]at D;split at D
 ·exact D
 cases D
theorem zs1 (l:List Int) (j:Nat):(bw l)[j]? =(l[j]?).map fun x=>.i x:=by simp [bw]
theorem zs3 {W:World} {b t:Nat} {D:Array Value} (h:W.heap[b]? =some (.cells D t (0,0))) (o:Nat) (A:List Value) (G:o+A.length<=D.size) (j:Nat):(W.setCells b o A).cell? ⟨b,j,none⟩=if o<=j/\j<o+A.length then A[j - o]? else W.cell? ⟨b,j,none⟩:=by
 by_cases E:o<=j/\j<o+A.length
 ·rw [if_pos E];have:=World.cell?_setCells_in b A o W (fun k F=>by rw [zsw h,Array.getElem?_eq_getElem (by omega)];rfl) (j - o) (by omega);rw [show o+(j - o)=j by omega]at this;rw [this,List.getElem?_eq_getElem (by omega)]
 rw [if_neg E];exact World.cell?_setCells_out b A o W ⟨b,j,none⟩ (fun _ _=>by show j<o\/_<=j;omega)
end Go.Proofs.YtjdnmblggdobgaaGreat
namespace Go.Proofs.YtjdnmblggdobgaaGreat
open Go.RowKit Go.Maps Go.Shelf Go.Lib Tryz

end Go.Proofs.YtjdnmblggdobgaaGreat
namespace Go.Proofs.YtjdnmblggdobgaaGreat
open Go.RowKit Go.Maps Tryz


structure Right (d:bd) (h:ar) (ts:List bk):Prop where
 ok:ql d=true
 parts:j6 h=true
 ab:jg h=true
 B8:jx h=true
 both:io d h=some ts
 hash:ts.any (jd h)=false
 dup:(ts.map bk.hash).Nodup
 lead:(ts.any fun x=>ep d.fields h.ab x fun n=>!b8 ts n)=false
 rest:(km h).any (· != 0)=false
 rise:pd h.am=true
 note:h.am.any (fh d h ts)=false
 un:ts.any (ia d h)=false
theorem Right.err {d:bd} {h:ar} {ts:List bk} (r:Right d h ts):dt d h=0:=by unfold dt ng;rw [r.ok,r.parts,r.ab,r.B8,r.both];simp only [if_true];unfold kw;rw [r.hash,r.lead,r.rest,r.rise,r.note,r.un,decide_eq_true r.dup];rfl
theorem ztn {d:bd} {h:ar} (h0:dt d h=0):∃ts,Right d h ts:=by
 unfold dt ng at h0;cases e0:ql d with
 | false=>rw [e0]at h0;simp at h0
 | true=>
 cases e1:j6 h with
 | false=>rw [e0,e1]at h0;simp at h0
 | true=>
 cases e2:jg h with
 | false=>rw [e0,e1,e2]at h0;simp at h0
 | true=>
 cases e3:jx h with
 | false=>rw [e0,e1,e2,e3]at h0;simp at h0
 | true=>
 cases e4:io d h with
 | none=>rw [e0,e1,e2,e3,e4]at h0;simp at h0
 | some ts=>
 rw [e0,e1,e2,e3,e4]at h0;simp only [if_true]at h0;unfold kw at h0;cases f1:ts.any (jd h)with
 | true=>rw [f1]at h0;simp at h0
 | false=>
 cases f2:decide ((ts.map bk.hash).Nodup)with
 | false=>rw [f1,f2]at h0;simp at h0
 | true=>
 cases f3:(ts.any fun x=>ep d.fields h.ab x fun n=>!b8 ts n)with
 | true=>rw [f1,f2,f3]at h0;simp at h0
 | false=>
 cases f4:(km h).any (· != 0)with
 | true=>rw [f1,f2,f3,f4]at h0;simp at h0
 | false=>
 cases f5:pd h.am with
 | false=>rw [f1,f2,f3,f4,f5]at h0;simp at h0
 | true=>
 cases f6:h.am.any (fh d h ts)with
 | true=>rw [f1,f2,f3,f4,f5,f6]at h0;simp at h0
 | false=>
 cases f7:ts.any (ia d h)with
 | true=>rw [f1,f2,f3,f4,f5,f6,f7]at h0;simp at h0
 | false=>exact ⟨ts,e0,e1,e2,e3,e4,f1,of_decide_eq_true f2,f3,f4,f5,f6,f7⟩
theorem Right.sized {d:bd} {h:ar} {ts:List bk} (r:Right d h ts):nj d h:=zkk (Ds r.ok) r.parts r.ab r.B8
theorem y9 {fs:List (List bq)} {x:bk} {a:Int} (h:a∈refsOf fs x):∃n:Nat,a=x.loc+3+n/\(n:Int)<x.len/\jp fs x n=true:=by unfold refsOf at h;obtain ⟨n,D,rfl⟩:=List.mem_map.1 h;obtain ⟨h1,A⟩:=List.mem_filter.1 D;have:=List.mem_range.1 h1;exact ⟨n,rfl,by omega,A⟩
theorem Co {fs:List (List bq)} {x:bk} {n:Nat} (h1:(n:Int)<x.len) (A:jp fs x n=true):x.loc+3+(n:Int)∈refsOf fs x:=by unfold refsOf;exact List.mem_map.2 ⟨n,List.mem_filter.2 ⟨List.mem_range.2 (by omega),A⟩,rfl⟩
theorem zts {l:List Int} :na l l.length↔l.Pairwise (· < ·):=by
 constructor
 ·intro h;rw [List.pairwise_iff_getElem];intro i j hi A F;have key:∀n,i+n+1<l.length->wd l i<wd l ((i+n+1:Nat):Int):=by
   intro n;induction n with
   | zero=>
     intro D;have:=h (i+1) (by omega) D;rw [show ((i+1:Nat):Int) - 1=(i:Int) by omega]at this;exact this
   | succ n ih=>
     intro D;have h1:=ih (by omega);have E:=h (i+n+1+1) (by omega) D;rw [show ((i+n+1+1:Nat):Int) - 1=((i+n+1:Nat):Int) by omega]at E;exact Int.lt_trans h1 E
  have:=key (j - i - 1) (by omega);rw [show i+(j - i - 1)+1=j by omega,pi hi,pi A]at this;exact this
 intro h j h0 A;rw [show (j:Int) - 1=((j - 1:Nat):Int) by omega,pi (by omega),pi A];exact List.pairwise_iff_getElem.1 h (j - 1) j (by omega) A (by omega)
theorem ztv {ws:List Int} {m:Nat} (E:m+2<ws.length) (x y z:Int):wd (lu ws m x y z) (m:Int)=x/\wd (lu ws m x y z) ((m:Int)+1)=y/\wd (lu ws m x y z) ((m:Int)+2)=z/\∀i:Int,(i<m\/(m:Int)+3<=i)->0<=i->wd (lu ws m x y z) i=wd ws i:=by
 rw [<-zsp x y z m ws E];have A:(m:Int)+1=((m+1:Nat):Int):=by omega
 have D:(m:Int)+2=((m+2:Nat):Int):=by omega
 refine ⟨?_,?_,?_,fun i hi h0=>?_⟩
 ·rw [Cn (by omega),Cn (by omega),zsa (by omega)]
 ·rw [Cn (by omega),A,zsa (by simp;omega)]
 ·rw [D,zsa (by simp;omega)]
 rw [Cn (by omega),Cn (by omega),Cn (by omega)]
theorem ztw {d:bd} {h:ar} {ts:List bk} (r:Right d h ts) {A:Bool} {len:Int} (_:0<=len) (Y:kd h A len=true):
 (∀x∈ts,x.fin<=fy h A\/fy h A+3+len<=x.loc)/\(∀i:Nat,fy h A<=i->(i:Int)<fy h A+3+len->wd h.ab i=0)/\1<=fy h A/\fy h A+3+len<=h.ab.length:=by
 have I:=r.sized;have h1:=I.ae;have h2:=I.old;have h3:=I.len;have h4:=I.bo;have h5:=I.ba;have F:=of_decide_eq_true Y;unfold ss at F;have E:=r.rest;rw [<-zn3 I,List.any_eq_false]at E;obtain ⟨ys,Z,V,W,rfl⟩:=xu r.both;have O:=zsf _ _ ys (nlq _) V;have L:=zsf _ _ Z (nlq _) W;have D:fy h A=if A then h.ba else h.bo:=rfl
 have G:∀i:Nat,i<h.ab.length->(i=0\/(h.bo<=i/\(i:Int)<=h.ae)\/h.ba<=i)->wd h.ab i=0:=fun i hi X=>by
  have:=E i (List.mem_range.2 hi);unfold rj qd at this;by_cases N:wd h.ab i=0
  ·exact N
  refine absurd ?_ this;simp only [Bool.and_eq_true,Bool.or_eq_true,bne_iff_ne,beq_iff_eq,decide_eq_true_eq];exact ⟨N,by rcases X with q | q | q<;>simp [q]⟩
 cases A with
 | false=>
   simp only [Bool.false_eq_true,if_false]at D F;rw [D]at F ⊢;refine ⟨fun x J=>?_,fun i a b=>G i (by omega) (Or.inr (Or.inl ⟨by omega,by omega⟩)),by omega,by omega⟩;rcases List.mem_append.1 J with q | q
   ·exact Or.inl (O x q).2.2.1
   have:=(L x q).1;exact Or.inr (by omega)
 | true=>
   simp only [if_true]at D F;rw [D]at F ⊢;refine ⟨fun x J=>?_,fun i a b=>G i (by omega) (Or.inr (Or.inr (by omega))),by omega,by omega⟩;rcases List.mem_append.1 J with q | q
   ·have:=(O x q).2.2.1;exact Or.inl (by omega)
   exact Or.inl (L x q).2.2.1
theorem ztx {d:bd} {h:ar} {ts:List bk} (r:Right d h ts) {A len:Int} {D:Bool} (aa:dq d.aj.length A=true) (L:cg d.fields A len=true) (hr:kd h D len=true):
 ∃ts',io d (ir h A len D)=some ts'/\ts'.Perm (⟨fy h D,A,len,h.next⟩::ts):=by
 have hl:=vd L;obtain ⟨f1,-,f3,f4⟩:=ztw r hl hr;have hz:=r.sized;obtain ⟨E,F⟩:∃E:Nat,fy h D=(E:Int):=⟨(fy h D).toNat,by omega⟩;obtain ⟨p1,p2,p3,p4⟩:=ztv (ws:=h.ab) (m:=E) (by omega) A len h.next;have Y:(ir h A len D).ab=lu h.ab E A len h.next:=by show lu h.ab (fy h D).toNat A len h.next=_;rw [F];rfl
 have I:bj (lu h.ab E A len h.next) (E:Int)=⟨fy h D,A,len,h.next⟩:=by unfold bj;rw [p1,p2,p3,F]
 have G:(bj (lu h.ab E A len h.next) (E:Int)).fin=(E:Int)+3+len:=by rw [I,F];rfl
 have N:gr d.aj.length d.fields (lu h.ab E A len h.next) (E:Int) (bj (lu h.ab E A len h.next) (E:Int)).fin=true:=by unfold gr;rw [p1,p2,aa,L,G];simp;omega
 have ap:=wv hz r.both;have O:∀x∈ts,mh h.ab (lu h.ab E A len h.next) x.loc:=fun x J=>by have a:=ap x J;have b:=f1 x J;rw [F]at b;exact ⟨p4 _ (by omega) (by omega),p4 _ (by omega) (by omega),p4 _ (by omega) (by omega)⟩
 obtain ⟨ys,os,e1,e2,rfl⟩:=xu r.both;have h4:=hz.bo;have h5:=hz.ba;have W:=fun x (J:x∈ys)=>O x (List.mem_append_left _ J);have V:=fun x (J:x∈os)=>O x (List.mem_append_right _ J);cases D with
 | false=>
   have X:h.bo=(E:Int):=F;have Z:=zse (by omega) (X ▸ e1) W N;rw [G,I]at Z;have w2:=zsd (by omega) e2 V;refine ⟨ys++ [⟨fy h false,A,len,h.next⟩]++os,?_,?_⟩
   ·unfold io;rw [Y];have y1:(ir h A len false).bo=(E:Int)+3+len:=by rw [<-X];rfl
    rw [y1,Z];show Option.map _ (b9 _ _ _ (h.ae+1) h.ba)=_;rw [w2];rfl
   rw [List.append_assoc];exact List.perm_middle
 | true=>
   have X:h.ba=(E:Int):=F;have Z:=zsd (by omega) e1 W;have w2:=zse (by omega) (X ▸ e2) V N;rw [G,I]at w2;refine ⟨ys++(os++ [⟨fy h true,A,len,h.next⟩]),?_,?_⟩
   ·unfold io;rw [Y];have y1:(ir h A len true).bo=h.bo:=rfl;have y2:(ir h A len true).ba=(E:Int)+3+len:=by rw [<-X];rfl
    rw [y1,y2,Z];show Option.map _ (b9 _ _ _ (h.ae+1) ((E:Int)+3+len))=_;rw [w2];rfl
   rw [<-List.append_assoc];exact List.perm_append_singleton _ _
theorem zty {ts A:List bk} (h:∀x∈ts,x∈A) {n:Int} (D:b8 ts n=true):b8 A n=true:=by
 unfold b8 at D ⊢;rw [Bool.or_eq_true]at D ⊢;rcases D with q | q
 ·rw [Cd,List.contains_iff_mem,List.mem_map]at q ⊢;obtain ⟨x,E,e⟩:=q;exact Or.inl ⟨x,h x E,e⟩
 exact Or.inr q
theorem Right.make {d:bd} {h:ar} {ts:List bk} (r:Right d h ts) {D len:Int} {A:Bool} (a7:dq d.aj.length D=true) (an:cg d.fields D len=true) (hr:kd h A len=true) (hn:h.next<=4611686018427387904):
 ∃F,Right d (ir h D len A) F/\F.Perm (⟨fy h A,D,len,h.next⟩::ts):=by
 have hl:=vd an;obtain ⟨f1,f2,f3,f4⟩:=ztw r hl hr;obtain ⟨F,hb,ah⟩:=ztx r a7 an hr;have Y:=r.sized;obtain ⟨tp,ay⟩:∃tp:Nat,fy h A=(tp:Int):=⟨(fy h A).toNat,by omega⟩;obtain ⟨p1,p2,p3,p4⟩:=ztv (ws:=h.ab) (m:=tp) (by omega) D len h.next;have L:(ir h D len A).ab=lu h.ab tp D len h.next:=by show lu h.ab (fy h A).toNat D len h.next=_;rw [ay];rfl
 have V:(lu h.ab tp D len h.next).length=h.ab.length:=zlu _ _ _ (by omega);have a9:1<=h.next:=by have:=r.B8;unfold jx at this;simp only [Bool.and_eq_true,decide_eq_true_eq]at this;exact this.2
 have ao:(ir h D len A).next=h.next+1:=gp _ (by omega) (by omega);have Z:=of_decide_eq_true hr;unfold ss at Z;have h1:=Y.ae;have h2:=Y.old;have h3:=Y.len;have h4:=Y.bo;have h5:=Y.ba;have X:fy h A=if A then h.ba else h.bo:=rfl
 have a3:(ir h D len A).bo=if A then h.bo else h.bo+3+len:=rfl
 have au:(ir h D len A).ba=if A then h.ba+3+len else h.ba:=rfl
 have aa:nj d (ir h D len A):=by
  refine ⟨h1,h2,by rw [L,V];exact h3,?_,?_,Y.fl,Y.fs,Y.cn⟩
  ·rw [a3];show 1<=_/\_<=h.ae+1;cases A<;>simp at X Z ⊢ <;>omega
  rw [au];show h.ae+1<=_/\_<=h.ae+h.old+1;cases A<;>simp at X Z ⊢ <;>omega
 have I:∀x,x∈F↔x=⟨fy h A,D,len,h.next⟩\/x∈ts:=fun x=>by rw [ah.mem_iff,List.mem_cons]
 have W:∀x∈ts,x∈F:=fun x J=>(I x).2 (Or.inr J);have ap:=wv Y r.both;have ak:=wv aa hb;have a0:∀x∈ts,∀a∈refsOf d.fields x,wd (ir h D len A).ab a=wd h.ab a:=fun x J a O=>by obtain ⟨n,rfl,af,-⟩:=y9 O;have q:=ap x J;have b:=f1 x J;have a8:x.fin=x.loc+3+x.len:=rfl;rw [ay]at b;rw [L];exact p4 _ (by omega) (by omega)
 have az:∀a∈refsOf d.fields ⟨fy h A,D,len,h.next⟩,wd (ir h D len A).ab a=0:=fun a O=>by obtain ⟨n,e,af,-⟩:=y9 O;have e:a=fy h A+3+(n:Int):=e;have af:(n:Int)<len:=af;rw [L,p4 a (by omega) (by omega)];have:=f2 (tp+3+n) (by omega) (by omega);rw [show ((tp+3+n:Nat):Int)=a by omega]at this;exact this
 have G:∀x∈ts,1<=x.hash/\x.hash<h.next:=fun x J=>by have:=List.any_eq_false.1 r.hash x J;unfold jd at this;simp at this;omega
 refine ⟨F,⟨r.ok,r.parts,?_,?_,hb,?_,?_,?_,?_,r.rise,?_,?_⟩,ah⟩
 ·have:=r.ab;unfold jg at this ⊢;rw [L,V];exact this
 ·unfold jx;have a1:=aa.bo;have a2:=aa.ba;have y1:(ir h D len A).ae=h.ae:=rfl;have y2:(ir h D len A).old=h.old:=rfl;rw [ao];simp only [Bool.and_eq_true,decide_eq_true_eq];omega
 ·rw [List.any_eq_false];intro x J E;unfold jd at E;rw [ao]at E;simp at E;rcases (I x).1 J with rfl | q
  ·have e:(⟨fy h A,D,len,h.next⟩:bk).hash=h.next:=rfl;rw [e]at E;omega
  have:=G x q;omega
 ·rw [(ah.map bk.hash).nodup_iff,List.map_cons,List.nodup_cons];refine ⟨fun hm=>?_,r.dup⟩;obtain ⟨x,J,e⟩:=List.mem_map.1 hm;have:=G x J;have e:x.hash=h.next:=e;omega
 ·rw [List.any_eq_false];intro x J aw;unfold ep at aw;obtain ⟨a,O,N⟩:=List.any_eq_true.1 aw;rcases (I x).1 J with rfl | q
  ·rw [az a O]at N;simp [b8]at N
  rw [a0 x q a O]at N;refine absurd ?_ (List.any_eq_false.1 r.lead x q);unfold ep;refine List.any_eq_true.2 ⟨a,O,?_⟩;cases hlb:b8 ts (wd h.ab a)with
  | false=>
    show (!b8 ts (wd h.ab a))=true;rw [hlb];rfl
  | true=>
    have N:(!b8 F (wd h.ab a))=true:=N;rw [zty W hlb]at N;cases N
 ·have h6:=r.rest;rw [<-zn3 Y,List.any_eq_false]at h6;rw [<-zn3 aa,List.any_eq_false];intro i hi E;have a4:i<h.ab.length:=by
   have:=List.mem_range.1 hi;rw [L,V]at this;exact this
  have E:rj (ir h D len A) i=true:=E;unfold rj qd at E;have y1:(ir h D len A).ae=h.ae:=rfl;rw [a3,au,y1]at E;simp only [Bool.and_eq_true,Bool.or_eq_true,bne_iff_ne,beq_iff_eq,decide_eq_true_eq]at E;have av:(i:Int)<tp\/(tp:Int)+3<=i:=by have:=E.2;cases A<;>simp at X this Z<;>omega
  have e:wd (ir h D len A).ab (i:Int)=wd h.ab i:=by rw [L];exact p4 _ av (by omega)
  rw [e]at E;refine h6 i (List.mem_range.2 a4) ?_;unfold rj qd;simp only [Bool.and_eq_true,Bool.or_eq_true,bne_iff_ne,beq_iff_eq,decide_eq_true_eq];refine ⟨E.1,?_⟩;have:=E.2;cases A<;>simp at this ⊢ <;>omega
 ·rw [List.any_eq_false];intro y hy E;refine absurd ?_ (List.any_eq_false.1 r.note y hy);have E:fh d (ir h D len A) F y=true:=E;have ad:fh d h ts y=false:=by
   cases q:fh d h ts y with
   | false=>rfl
   | true=>exact absurd q (List.any_eq_false.1 r.note y hy)
  unfold fh at ad;simp only [Bool.or_eq_false_iff]at ad;have hs:(j9 ts y).isSome=true:=by simpa using ad.1.1
  obtain ⟨t,ht⟩:=Option.isSome_iff_exists.1 hs;obtain ⟨ax,al⟩:=Dr ts ht;have a6:(j9 F y).isSome=true:=by rw [Cd,List.contains_iff_mem,List.mem_map];exact ⟨t,W t ax,al⟩
  obtain ⟨t',ai⟩:=Option.isSome_iff_exists.1 a6;obtain ⟨ac,a5⟩:=Dr F ai;have et:t'=t:=by
   have a:=ak t' ac;have b:=ak t (W t ax);rcases b.2.2.2 t' ac with q | q | q
   ·exact q
   ·omega
   omega
  have e1:nu ts y=t:=by unfold nu;rw [ht];rfl
  have e2:nu F y=t:=by unfold nu;rw [ai,et];rfl
  unfold fh at E ⊢;rw [e2,ai]at E;rw [e1,ht];exact E
 rw [List.any_eq_false];intro x J hu;have hu:ia d (ir h D len A) x=true:=hu;unfold ia ep at hu;simp only [Bool.and_eq_true]at hu;obtain ⟨⟨u1,u2⟩,u3⟩:=hu;obtain ⟨a,O,N⟩:=List.any_eq_true.1 u3;rcases (I x).1 J with rfl | q
 ·rw [az a O]at N;simp [dm]at N
 rw [a0 x q a O]at N;refine absurd ?_ (List.any_eq_false.1 r.un x q);unfold ia ep;simp only [Bool.and_eq_true];exact ⟨⟨u1,u2⟩,List.any_eq_true.2 ⟨a,O,N⟩⟩




end Go.Proofs.YtjdnmblggdobgaaGreat
