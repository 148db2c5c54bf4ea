import Derived.Shelf.Spec.SlicesInsertGrow
import Derived.Deep.RegionLawGrows
import Derived.Test.YtjdnmblggdobgaaGreatJLPu5HuE
import Derived.DataShut
namespace Go.Proofs.YtjdnmblggdobgaaGreat
open List Or World
section
open Go.Maps Go.RowKit Tryz
theorem zq7 {d:ax} {h:ar} {ts E D:List bq} (A:jh d h=some ts) (h1:cw d.am.length d.fields h.ab 1 h.bk=some E) (F:cw d.am.length d.fields h.ab (h.ae+1) h.be=some D):ts=E++D:=by unfold jh at A;rw [h1,F]at A;exact (ojq A).symm
end
section
variable (P:Program) (md:Region.Mode) (ops:Array Oper) (Q:Exit->Act->World->Prop) (T:World->Prop) (st:Nat)
def Be:Nat->Array Bool->Act->World->Prop
 | 0,l,a,w=>Region.ready md ops l= []/\Q .normal a w
 | n+1,l,a,w=>(Region.ready md ops l= []->Q .normal a w)/\∀j∈Region.ready md ops l,wpOp P ops Q j (fun a' w'=>(j≠st->l.getD st true=false->T w')/\Be n (l.setIfInBounds j true) a' w') a w
def uq (i:Nat):Bool:=match ops[st]? with | some o=>o.after.any fun e=>Region.binds md e&&e.on==i | none=>false
end
section
variable {P:Program} {md:Region.Mode} {ops:Array Oper} {Q:Exit->Act->World->Prop} {T:World->Prop} {st:Nat}
theorem zq9:∀(n:Nat) (l:Array Bool) (a:Act) (w:World),Be P md ops Q T st n l a w->wpAny P md ops Q n l a w
 | 0,_,_,_,h=>h
 | n+1,_,_,_,h=>⟨h.1,fun i hi=>wpOp_mono (fun A w' h'=>zq9 n _ A w' h'.2) (h.2 i hi)⟩
theorem zra {i:Nat} {l:Array Bool} (E:uq md ops st i=true) (hi:l.getD i true=false):st∉Region.ready md ops l:=fun I=>by
 obtain ⟨-,o,G,A⟩:=mem_ready.1 I;unfold uq at E;rw [G]at E;obtain ⟨k,F,-,D⟩:=Array.any_iff_exists.1 E;rw [Bool.and_eq_true,beq_iff_eq]at D;have h1:=A _ (Array.getElem_mem F) D.2.1;rw [D.2.2]at h1;rcases Nat.lt_or_ge i l.size with h' | h'
 ·simp [h']at h1 hi;rw [hi]at h1;cases h1
 simp [Array.getElem?_eq_none h']at h1
theorem zrb {i:Nat} {J:Oper} {v:Value} {U:World->Prop} (hi:ops[i]? =some J) (D:∀(j:Nat) (o:Oper) L b,ops[j]? =some o->o.op≠ .select L b)
 (hQ:∀c a w,Q (.panic c) (a.put J.dst v) w->Q (.panic c) a w) (ah:i≠st) (hu:(∀w,U w)\/(uq md ops st i=true/\∀w,T w->U w)):
 ∀(n:Nat) (l:Array Bool) (a:Act) (w:World),(∀j I,ops[j]? =some I->j≠i->l.getD j true=false->(∀e∈I.after,Region.binds md e=true->e.on≠i)->J.apart ops I=true)->
  i∈Region.ready md ops l->YieldsIf P ops U J v a->(l.getD st true=false->T w)->(uq md ops st i=true->l.getD st true=false)->
  U w->Be P md ops Q T st n (l.setIfInBounds i true) (a.put J.dst v) w->Be P md ops Q T st (n+1) l a w:=by
 intro n;induction n with
 | zero=>
   intro l a w _ Z hy hT _ hU H;refine ⟨fun h=>absurd Z (by rw [h];simp),fun j V=>?_⟩;rcases Nat.decEq j i with e | e
   ·have h0:=ready_mono V e;rw [H.1]at h0;cases h0
   subst e;exact hy.wpOp hi hU ⟨fun _=>hT,H⟩
 | succ n ih=>
   intro l a w hf Z hy hT hs hU H;refine ⟨fun h=>absurd Z (by rw [h];simp),fun j V=>?_⟩;rcases Nat.decEq j i with e | e
   ·obtain ⟨F,I,G,O⟩:=mem_ready.1 V;have E:=(mem_ready.1 Z).1;have ai:∀d∈I.after,Region.binds md d=true->d.on≠i:=fun d hd hb hq=>by
     have h1:=O d hd hb;rw [hq]at h1;rcases Nat.lt_or_ge i l.size with h' | h'
     ·simp [h']at E h1;rw [E]at h1;cases h1
     simp [Array.getElem?_eq_none h']at h1
    have h2:=wpOp_putIf G (hf j I G e F ai) (fun L b=>D i J L b hi) (fun L b=>D j I L b G) hQ hy (H.2 j (ready_mono V e));refine wpOp_mono (fun a' w' h3=>?_) h2;have ht:j≠st->l.getD st true=false->T w':=fun ad X=>h3.2.1 ad (by rw [getD_set_ne true ah];exact X);have aa:uq md ops st i=true->(l.setIfInBounds j true).getD st true=false:=fun hw=>by have A:j≠st:=fun e2=>zra hw E (e2 ▸ V);rw [getD_set_ne true A];exact hs hw
    have N:(l.setIfInBounds j true).getD st true=false->T w':=fun X=>by
     by_cases A:j=st
     ·subst A;have af:j<l.size:=by
       rcases Nat.lt_or_ge j l.size with h' | h'
       ·exact h'
       simp [Array.getElem?_eq_none h']at F
      simp [af]at X
     rw [getD_set_ne true A]at X;exact ht A X
    refine ⟨ht,ih (l.setIfInBounds j true) a' w' (fun k ok hk ae ac Y=>hf k ok hk ae ?_ Y) (ready_mono Z (Ne.symm e)) h3.1 N aa ?_ ?_⟩
    ·by_cases W:j=k
     ·subst W;exact F
     rw [getD_set_ne true W]at ac;exact ac
    ·rcases hu with hu | ⟨hw,hu⟩
     ·exact hu _
     exact hu _ (N (aa hw))
    rw [Array.setIfInBounds_comm _ _ e];exact h3.2.2
   subst e;exact hy.wpOp hi hU ⟨fun _=>hT,H⟩
def Du (md:Region.Mode) (ops:Array Oper) (st:Nat) (l:Array Bool) (i:Nat):Bool:=Region.noSelect ops&&Region.free md ops l i&&(Region.ready md ops l).contains i&&(i != st)&&(!(l.getD st true))
theorem B6 (i:Nat) (v:Value) {D:Oper} {n:Nat} {l:Array Bool} {a:Act} {w:World} (hi:ops[i]? =some D) (A:Du md ops st l i=true) (I:uq md ops st i=true) (G:Region.wanted D (yielded ops a.tmps)=true) (F:∀c a w,Q (.panic c) (a.put D.dst v) w->Q (.panic c) a w)
 (J:∀w,T w->(execOp a.eval D).run P w=.ok (.value v) w) (E:T w) (h:Be P md ops Q T st n (l.setIfInBounds i true) (a.put D.dst v) w):Be P md ops Q T st (n+1) l a w:=by
 simp only [Du,Bool.and_eq_true,bne_iff_ne,Bool.not_eq_true']at A;exact zrb hi (Region.noSelect_spec A.1.1.1.1) F A.1.2 (inr ⟨I,fun _ h=>h⟩) n l a w (Region.free_spec hi A.1.1.1.2) (by simpa using A.1.1.2) (inl ⟨G,J⟩) (fun _=>E) (fun _=>A.2) E h
theorem qi (i:Nat) (v:Value) {D:Oper} {n:Nat} {l:Array Bool} {a:Act} {w:World} (hi:ops[i]? =some D) (A:Du md ops st l i=true) (G:Region.wanted D (yielded ops a.tmps)=true) (E:∀c a w,Q (.panic c) (a.put D.dst v) w->Q (.panic c) a w)
 (I:∀w,(execOp a.eval D).run P w=.ok (.value v) w) (F:T w) (h:Be P md ops Q T st n (l.setIfInBounds i true) (a.put D.dst v) w):Be P md ops Q T st (n+1) l a w:=by
 simp only [Du,Bool.and_eq_true,bne_iff_ne,Bool.not_eq_true']at A;exact zrb (U:=fun _=>True) hi (Region.noSelect_spec A.1.1.1.1) E A.1.2 (inl fun _=>trivial) n l a w (Region.free_spec hi A.1.1.1.2) (by simpa using A.1.1.2) (inl ⟨G,fun w _=>I w⟩) (fun _=>F) (fun _=>A.2) trivial h
def lr (P:Program) (md:Region.Mode) (ops:Array Oper) (Q:Exit->Act->World->Prop) (T:World->Prop) (st n:Nat) (l:Array Bool) (a:Act) (w:World) (rs:List Nat):Prop:=
 ∀j∈rs,wpOp P ops Q j (fun a' w'=>(j≠st->l.getD st true=false->T w')/\Be P md ops Q T st n (l.setIfInBounds j true) a' w') a w
theorem lr.nil {n:Nat} {l:Array Bool} {a:Act} {w:World} :lr P md ops Q T st n l a w []:=fun _ h=>by cases h
theorem lr.cons {n j:Nat} {l:Array Bool} {a:Act} {w:World} {o:Oper} {rs:List Nat} (F:ops[j]? =some o)
 (h:∀K:Act->World->Prop,Shut (∀a w,(j≠st->l.getD st true=false->T w)->Be P md ops Q T st n (l.setIfInBounds j true) a w->K a w)->if Region.wanted o (yielded ops a.tmps)=true then Oper.wp P o a w K Q else K (a.put o.dst undef) w)
 (G:lr P md ops Q T st n l a w rs):lr P md ops Q T st n l a w (j::rs):=fun k A=>by
 rcases mem_cons.1 A with rfl | A
 ·exact wpOp_step F fun K E=>h K fun a w h1 D=>E a w ⟨h1,D⟩
 exact G k A
theorem Ba {rs:List Nat} {n:Nat} {l:Array Bool} {a:Act} {w:World} (D:Region.ready md ops l=rs) (A:rs≠ []) (h:lr P md ops Q T st n l a w rs):Be P md ops Q T st (n+1) l a w:=
 ⟨fun h0=>absurd (D ▸ h0) A,D ▸ h⟩
theorem zrf {l:Array Bool} {a:Act} {w:World} (A:Region.ready md ops l= []) (h:Q .normal a w):∀n,Be P md ops Q T st n l a w
 | 0=>⟨A,h⟩
 | _+1=>⟨fun _=>h,by rw [A];simp⟩
theorem zrg (T:World->Prop) (st:Nat) {E:Nat} {a:Act} {w:World} (D:P.follows .mixedOrders=true) (A:T w.drew) (h:T w.drew->Be P .any ops Q T st ops.size (Array.replicate ops.size false) a w.drew):(Code.region E ops true).wp P Q a w:=
 wp_region_any D (zq9 _ _ _ _ (h A))
end
section
open Go.Maps Go.RowKit Tryz
theorem zrh {ops:Array Oper} {o:Oper} {a:Act} {K:Act->World->Prop} {Q:Exit->Act->World->Prop} {E:Prop} (w:World) (I:o.guard=none) (s x:Operand)
 (Y:o.op=.call { callee:=.builtin .append,args:=#[s,x],argTypes:=#[22,22] }) (A:Nat) (v:Value) (xs:List Int) (Z:a.eval s=v) (D:w.ownsRow A 3 1 v xs.length (b8 xs))
 (M:Nat->Prop) (u:Value) (l:List Int) (hx:a.eval x=u) (W:SL 1 RI M w u l) (hb:xs.length+l.length<=2000000) (F:A<=w.heap.size)
 (h:∀v' w',w'.ownsRow A 3 1 v' (xs++l).length (b8 (xs++l))->w.grownBy w' v.ownBlock->(v'.ownBlock=v.ownBlock\/v'.ownBlock=some w.heap.size)->K (a.put o.dst v') w'):if Region.wanted o (yielded ops a.tmps)=true then Oper.wp prog o a w K Q else E:=by
 obtain ⟨iI,J,N,O,V⟩:=info_parts kh;have HU:=W;obtain ⟨ao,cl,rfl,-,-,X⟩:=W;cases l with
 | nil=>
   obtain ⟨av,cv,rfl⟩:=ku D;have L:=zf0 D;rw [if_pos (by simp [Region.wanted,I])];have hr:=zfy (P:=prog) w 22 o.type 3 iI underlying22 J av xs.length cv L.1 L.2 ao cl;unfold Oper.wp execOp;simp only [Y,resolve,invoke,builtin,Sem.run_bind,Sem.run_pure,Result.andThen_ok,map_toArray,map_cons,map_nil,Z,hx,length_nil,hr];exact h _ _ (by simpa using D) (grownBy.refl _ _) (inl rfl)
 | cons y l=>
   obtain ⟨b,off,cs,e,-⟩:=X 0 (by simp);subst e;refine step_append_lies w I s x 22 Y A 3 iI (.i 0) 1 8 underlying22 J N O V rfl (by decide) v xs.length (b8 xs) Z D ⟨b,off,none⟩ (y::l).length cl (b8 (y::l)) hx (by rw [vi];simp) HU.b8 (by
    intro u W;obtain ⟨z,-,rfl⟩:=mem_map.1 W;rfl) (by simp) (by unfold maxLen;omega) (by omega) F w.heap.size rfl ?_
   intro g cap w' h1 h2 G _;refine h _ _ ?_ h2 ?_
   ·rw [zig,length_append];exact h1
   rcases G with G | G
   ·exact inl G.symm
   exact inr (congrArg some G)
end
section
open Go.Shelf Tryz
end
section
open Go.Maps Go.RowKit Go.Shelf Tryz
variable {W w:World} {B e g b t n cap:Nat} {A D:Array Value}
theorem zsk {w:World} {b:Nat} :∀(vs:List Value) (o:Nat) {W:World},w.grownBy W (some b)->w.grownBy (W.setCells b o vs) (some b)
 | [],_,_,h=>h
 | v::r,o,_,h=>zsk r (o+1) (pi h ⟨b,o,none⟩ v (inl rfl))
theorem zsl {b t:Nat} :∀(vs:List Value) (o:Nat) {W:World} {cur:Array Value},W.heap[b]? =some (.cells cur t (0,0))->∃cur',(W.setCells b o vs).heap[b]? =some (.cells cur' t (0,0))/\cur'.size=cur.size
 | [],_,_,cur,h=>⟨cur,h,rfl⟩
 | v::r,o,_,cur,h=>by obtain ⟨c,h1,A⟩:=zsl r (o+1) (s9 h (j:=o) v);exact ⟨c,h1,by rw [A];simp⟩
theorem zsm (h:W.heap[b]? =some (.cells A t (0,0))) (j:Nat):W.cell? ⟨b,j,none⟩=A[j]? :=by simp [cell?,h]
theorem zsn {xs:List Value} (D:w.heap[b]? =some (.cells A t (0,0))) (F:B<=b) (J:A.size=cap) (I:n<=cap) (G:cap<=maxLen) (L:xs.length=n) (hc:∀j v,xs[j]? =some v->w.cell? ⟨b,j,none⟩=some v):
 w.ownsRow B t 1 (.slice (some ⟨b,0,none⟩) n cap) n xs:=by
 refine ⟨by rw [L,Nat.mul_one],inr ⟨b,cap,A,rfl,F,D,I,G,by rw [J,Nat.mul_one],?_⟩⟩;apply ext_getElem?;intro j;rw [Nat.mul_one,getElem?_take];by_cases E:j<n
 ·rw [if_pos E];have h1:=hc j (xs[j]'(by omega)) (getElem?_eq_getElem (by omega));rw [zsm D]at h1;rw [Array.getElem?_toList,h1,getElem?_eq_getElem (by omega)]
 rw [if_neg E,getElem?_eq_none (by omega)]
theorem zso {n:Nat} {xs:List Value} (h:w.ownsRow B e 1 (.slice (some ⟨g,0,none⟩) n cap) n xs):∃A,w.heap[g]? =some (.cells A e (0,0))/\B<=g/\n<=cap/\cap<=maxLen/\A.size=cap/\xs.length=n/\∀j v,xs[j]? =some v->w.cell? ⟨g,j,none⟩=some v:=by
 have J:=h.1;rcases h.2 with ⟨q,-⟩ | ⟨O,E,A,q,L,F,hc,N,G,I⟩
 ·cases q
 cases q;rw [Nat.mul_one]at J G I;refine ⟨A,F,L,hc,N,G,J,fun j v D=>?_⟩;rw [zsm F,<-Array.getElem?_toList];rw [<-I,getElem?_take]at D;split at D
 ·exact D
 cases D
theorem zsq (l:List Int) (j:Nat):(b8 l)[j]? =(l[j]?).map fun x=>.i x:=by simp [b8]
theorem zss (h:W.heap[b]? =some (.cells D t (0,0))) (o:Nat) (A:List Value) (G:o+A.length<=D.size) (j:Nat):(W.setCells b o A).cell? ⟨b,j,none⟩=if o<=j/\j<o+A.length then A[j - o]? else W.cell? ⟨b,j,none⟩:=by
 by_cases E:o<=j/\j<o+A.length
 ·rw [if_pos E];have:=cell?_setCells_in b A o W (fun k F=>by rw [zsm h,Array.getElem?_eq_getElem (by omega)];rfl) (j - o) (by omega);rw [show o+(j - o)=j by omega]at this;rw [this,getElem?_eq_getElem (by omega)]
 rw [if_neg E];exact cell?_setCells_out b A o W ⟨b,j,none⟩ (fun _ _=>by show j<o\/_<=j;omega)
end
section
open Go.Lib Go.Maps Go.RowKit Go.Shelf Tryz
end
section
open Go.Maps Go.RowKit Tryz
variable {fs:List (List bv)} {x:bq} {d:ax} {h:ar} {ts:List bq}
structure Right (d:ax) (h:ar) (ts:List bq):Prop where
 ok:qw d=true
 parts:kj h=true
 ab:ju h=true
 Fl:lq h=true
 both:jh d h=some ts
 hash:ts.any (jx h)=false
 dup:(ts.map bq.hash).Nodup
 lead:(ts.any fun x=>fx d.fields h.ab x fun n=>!cq ts n)=false
 rest:(lj h).any (· != 0)=false
 rise:pv h.ap=true
 note:h.ap.any (ib d h ts)=false
 un:ts.any (iv d h)=false
theorem Right.err (r:Right d h ts):cg d h=0:=by unfold cg oa;rw [r.ok,r.parts,r.ab,r.Fl,r.both];simp only [if_true];unfold mc;rw [r.hash,r.lead,r.rest,r.rise,r.note,r.un,decide_eq_true r.dup];rfl
theorem ztd (h0:cg d h=0):∃ts,Right d h ts:=by
 unfold cg oa at h0;cases e0:qw d with
 | false=>rw [e0]at h0;simp at h0
 | true=>
 cases e1:kj h with
 | false=>rw [e0,e1]at h0;simp at h0
 | true=>
 cases e2:ju h with
 | false=>rw [e0,e1,e2]at h0;simp at h0
 | true=>
 cases e3:lq h with
 | false=>rw [e0,e1,e2,e3]at h0;simp at h0
 | true=>
 cases e4:jh d h with
 | none=>rw [e0,e1,e2,e3,e4]at h0;simp at h0
 | some ts=>
 rw [e0,e1,e2,e3,e4]at h0;simp only [if_true]at h0;unfold mc at h0;cases f1:ts.any (jx h)with
 | true=>rw [f1]at h0;simp at h0
 | false=>
 cases f2:decide ((ts.map bq.hash).Nodup)with
 | false=>rw [f1,f2]at h0;simp at h0
 | true=>
 cases f3:(ts.any fun x=>fx d.fields h.ab x fun n=>!cq ts n)with
 | true=>rw [f1,f2,f3]at h0;simp at h0
 | false=>
 cases f4:(lj h).any (· != 0)with
 | true=>rw [f1,f2,f3,f4]at h0;simp at h0
 | false=>
 cases f5:pv h.ap with
 | false=>rw [f1,f2,f3,f4,f5]at h0;simp at h0
 | true=>
 cases f6:h.ap.any (ib d h ts)with
 | true=>rw [f1,f2,f3,f4,f5,f6]at h0;simp at h0
 | false=>
 cases f7:ts.any (iv d h)
 ·exact ⟨ts,e0,e1,e2,e3,e4,f1,of_decide_eq_true f2,f3,f4,f5,f6,f7⟩
 rw [f1,f2,f3,f4,f5,f6,f7]at h0;simp at h0
theorem Right.sized (r:Right d h ts):na d h:=zkb (Fu r.ok) r.parts r.ab r.Fl
theorem Bb {a:Int} (h:a∈refsOf fs x):∃n:Nat,a=x.loc+3+n/\(n:Int)<x.len/\jw fs x n=true:=by unfold refsOf at h;obtain ⟨n,D,rfl⟩:=mem_map.1 h;obtain ⟨h1,A⟩:=mem_filter.1 D;have:=mem_range.1 h1;exact ⟨n,rfl,by omega,A⟩
theorem C6 {n:Nat} (h1:(n:Int)<x.len) (A:jw fs x n=true):x.loc+3+(n:Int)∈refsOf fs x:=by unfold refsOf;exact mem_map.2 ⟨n,mem_filter.2 ⟨mem_range.2 (by omega),A⟩,rfl⟩
theorem zti {l:List Int} :nu l l.length↔l.Pairwise (· < ·):=by
 constructor
 ·intro h;rw [pairwise_iff_getElem];intro i j hi A F;have key:∀n,i+n+1<l.length->wd l i<wd l ((i+n+1:Nat):Int):=by
   intro n;induction n with
   | zero=>
     intro D;have:=h (i+1) (by omega) D;rw [show ((i+1:Nat):Int) - 1=(i:Int) by omega]at this;exact this
   | succ n ih=>
     intro D;have h1:=ih (by omega);have E:=h (i+n+1+1) (by omega) D;rw [show ((i+n+1+1:Nat):Int) - 1=((i+n+1:Nat):Int) by omega]at E;exact Int.lt_trans h1 E
  have:=key (j - i - 1) (by omega);rw [show i+(j - i - 1)+1=j by omega,qm hi,qm A]at this;exact this
 intro h j h0 A;rw [show (j:Int) - 1=((j - 1:Nat):Int) by omega,qm (by omega),qm A];exact pairwise_iff_getElem.1 h (j - 1) j (by omega) A (by omega)
end
end Go.Proofs.YtjdnmblggdobgaaGreat
