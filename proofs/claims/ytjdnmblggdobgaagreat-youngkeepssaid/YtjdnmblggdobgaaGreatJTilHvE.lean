import Derived.Test.YtjdnmblggdobgaaGreatJHtHHuC
import Derived.Test.YtjdnmblggdobgaaGreatJHqBHvA
import Derived.Deep.RegionHeld
import Derived.Test.YtjdnmblggdobgaaGreatJHtBHtF
import Derived.Test.YtjdnmblggdobgaaGreatJTk2Dies
import Derived.Test.YtjdnmblggdobgaaGreatJHmCBx
import Derived.Test.YtjdnmblggdobgaaGreatJLSaLTie
import Derived.Test.YtjdnmblggdobgaaGreatChecked
import Derived.Ground.Names2Prog
import Derived.Shelf.Lays2
import Derived.Shelf.Spec.SlicesInsert
import Derived.Shelf.Spec.SlicesInsertGrow
import Derived.Deep.RegionLawGrows
import Derived.Test.YtjdnmblggdobgaaGreatJLPu5HuE
import Derived.DataShut
namespace Go.Proofs.YtjdnmblggdobgaaGreat
open Go.RowKit Go.Maps
theorem zrh {d:bd} {h:bb} {ts E D:List bp} (A:im d h=some ts) (h1:cb d.aj.length d.fields h.ab 1 h.be=some E) (F:cb d.aj.length d.fields h.ab (h.ag+1) h.ar=some D):ts=E++D:=by unfold im at A;rw [h1,F]at A;exact (ojq A).symm
end Go.Proofs.YtjdnmblggdobgaaGreat
namespace Go.Proofs.YtjdnmblggdobgaaGreat
section
variable (P:Program) (md:Region.Mode) (ops:Array Oper) (Q:Exit->Act->World->Prop) (T:World->Prop) (st:Nat)
def Til:Nat->Array Bool->Act->World->Prop
 | 0,l,a,w=>Region.ready md ops l= []/\Q .normal a w
 | n+1,l,a,w=>(Region.ready md ops l= []->Q .normal a w)/\∀j∈Region.ready md ops l,wpOp P ops Q j (fun a' w'=>(j≠st->l.getD st true=false->T w')/\Til n (l.setIfInBounds j true) a' w') a w
def waitsB (i:Nat):Bool:=match ops[st]? with | some o=>o.after.any fun e=>Region.binds md e&&e.on==i | none=>false
end
section
variable {P:Program} {md:Region.Mode} {ops:Array Oper} {Q:Exit->Act->World->Prop} {T:World->Prop} {st:Nat}
theorem zrj:∀(n:Nat) (l:Array Bool) (a:Act) (w:World),Til P md ops Q T st n l a w->wpAny P md ops Q n l a w
 | 0,_,_,_,h=>h
 | n+1,_,_,_,h=>⟨h.1,fun i D=>wpOp_mono (fun A w' h'=>zrj n _ A w' h'.2) (h.2 i D)⟩
theorem zrk {i:Nat} {l:Array Bool} (E:waitsB md ops st i=true) (F:l.getD i true=false):st∉Region.ready md ops l:=fun J=>by
 obtain ⟨-,o,I,A⟩:=mem_ready.1 J;unfold waitsB at E;rw [I]at E;obtain ⟨k,G,-,D⟩:=Array.any_iff_exists.1 E;rw [Bool.and_eq_true,beq_iff_eq]at D;have h1:=A _ (Array.getElem_mem G) D.2.1;rw [D.2.2]at h1;rcases Nat.lt_or_ge i l.size with h' | h'
 ·simp [h']at h1 F;rw [F]at h1;cases h1
 simp [Array.getElem?_eq_none h']at h1
theorem zrl {i:Nat} {J:Oper} {v:Value} {U:World->Prop} (hi:ops[i]? =some J) (D:∀(j:Nat) (o:Oper) L b,ops[j]? =some o->o.op≠ .select L b)
 (hQ:∀c a w,Q (.panic c) (a.put J.dst v) w->Q (.panic c) a w) (ah:i≠st) (hu:(∀w,U w)\/(waitsB md ops st i=true/\∀w,T w->U w)):
 ∀(n:Nat) (l:Array Bool) (a:Act) (w:World),(∀j I,ops[j]? =some I->j≠i->l.getD j true=false->(∀e∈I.after,Region.binds md e=true->e.on≠i)->J.apart ops I=true)->
  i∈Region.ready md ops l->YieldsIf P ops U J v a->(l.getD st true=false->T w)->(waitsB md ops st i=true->l.getD st true=false)->
  U w->Til P md ops Q T st n (l.setIfInBounds i true) (a.put J.dst v) w->Til P md ops Q T st (n+1) l a w:=by
 intro n;induction n with
 | zero=>
   intro l a w _ Z hy hT _ hU H;refine ⟨fun h=>absurd Z (by rw [h];simp),fun j V=>?_⟩;rcases Nat.decEq j i with e | e
   ·have h0:=ready_mono V e;rw [H.1]at h0;cases h0
   subst e;exact hy.wpOp hi hU ⟨fun _=>hT,H⟩
 | succ n ih=>
   intro l a w hf Z hy hT hs hU H;refine ⟨fun h=>absurd Z (by rw [h];simp),fun j V=>?_⟩;rcases Nat.decEq j i with e | e
   ·obtain ⟨F,I,G,O⟩:=mem_ready.1 V;have E:=(mem_ready.1 Z).1;have ai:∀d∈I.after,Region.binds md d=true->d.on≠i:=fun d hd hb hq=>by
     have h1:=O d hd hb;rw [hq]at h1;rcases Nat.lt_or_ge i l.size with h' | h'
     ·simp [h']at E h1;rw [E]at h1;cases h1
     simp [Array.getElem?_eq_none h']at h1
    have h2:=wpOp_putIf G (hf j I G e F ai) (fun L b=>D i J L b hi) (fun L b=>D j I L b G) hQ hy (H.2 j (ready_mono V e));refine wpOp_mono (fun a' w' h3=>?_) h2;have ht:j≠st->l.getD st true=false->T w':=fun ad X=>h3.2.1 ad (by rw [getD_set_ne true ah];exact X);have aa:waitsB md ops st i=true->(l.setIfInBounds j true).getD st true=false:=fun hw=>by have A:j≠st:=fun e2=>zrk hw E (e2 ▸ V);rw [getD_set_ne true A];exact hs hw
    have N:(l.setIfInBounds j true).getD st true=false->T w':=fun X=>by
     by_cases A:j=st
     ·subst A;have ag:j<l.size:=by
       rcases Nat.lt_or_ge j l.size with h' | h'
       ·exact h'
       simp [Array.getElem?_eq_none h']at F
      simp [ag]at X
     rw [getD_set_ne true A]at X;exact ht A X
    refine ⟨ht,ih (l.setIfInBounds j true) a' w' (fun k ok hk af ac Y=>hf k ok hk af ?_ Y) (ready_mono Z (Ne.symm e)) h3.1 N aa ?_ ?_⟩
    ·by_cases W:j=k
     ·subst W;exact F
     rw [getD_set_ne true W]at ac;exact ac
    ·rcases hu with hu | ⟨hw,hu⟩
     ·exact hu _
     exact hu _ (N (aa hw))
    rw [Array.setIfInBounds_comm _ _ e];exact h3.2.2
   subst e;exact hy.wpOp hi hU ⟨fun _=>hT,H⟩
def tilB (md:Region.Mode) (ops:Array Oper) (st:Nat) (l:Array Bool) (i:Nat):Bool:=Region.noSelect ops&&Region.free md ops l i&&(Region.ready md ops l).contains i&&(i != st)&&(!(l.getD st true))
theorem zrm (i:Nat) (v:Value) {D:Oper} {n:Nat} {l:Array Bool} {a:Act} {w:World} (F:ops[i]? =some D) (A:tilB md ops st l i=true) (J:waitsB md ops st i=true) (I:Region.wanted D (yielded ops a.tmps)=true) (G:∀c a w,Q (.panic c) (a.put D.dst v) w->Q (.panic c) a w)
 (L:∀w,T w->(execOp a.eval D).run P w=.ok (.value v) w) (E:T w) (h:Til P md ops Q T st n (l.setIfInBounds i true) (a.put D.dst v) w):Til P md ops Q T st (n+1) l a w:=by
 simp only [tilB,Bool.and_eq_true,bne_iff_ne,Bool.not_eq_true']at A;exact zrl F (Region.noSelect_spec A.1.1.1.1) G A.1.2 (Or.inr ⟨J,fun _ h=>h⟩) n l a w (Region.free_spec F A.1.1.1.2) (by simpa using A.1.1.2) (Or.inl ⟨I,L⟩) (fun _=>E) (fun _=>A.2) E h
theorem zrn (i:Nat) (v:Value) {D:Oper} {n:Nat} {l:Array Bool} {a:Act} {w:World} (E:ops[i]? =some D) (A:tilB md ops st l i=true) (I:Region.wanted D (yielded ops a.tmps)=true) (F:∀c a w,Q (.panic c) (a.put D.dst v) w->Q (.panic c) a w)
 (J:∀w,(execOp a.eval D).run P w=.ok (.value v) w) (G:T w) (h:Til P md ops Q T st n (l.setIfInBounds i true) (a.put D.dst v) w):Til P md ops Q T st (n+1) l a w:=by
 simp only [tilB,Bool.and_eq_true,bne_iff_ne,Bool.not_eq_true']at A;exact zrl (U:=fun _=>True) E (Region.noSelect_spec A.1.1.1.1) F A.1.2 (Or.inl fun _=>trivial) n l a w (Region.free_spec E A.1.1.1.2) (by simpa using A.1.1.2) (Or.inl ⟨I,fun w _=>J w⟩) (fun _=>G) (fun _=>A.2) trivial h
def kl (P:Program) (md:Region.Mode) (ops:Array Oper) (Q:Exit->Act->World->Prop) (T:World->Prop) (st n:Nat) (l:Array Bool) (a:Act) (w:World) (rs:List Nat):Prop:=
 ∀j∈rs,wpOp P ops Q j (fun a' w'=>(j≠st->l.getD st true=false->T w')/\Til P md ops Q T st n (l.setIfInBounds j true) a' w') a w
theorem kl.nil {n:Nat} {l:Array Bool} {a:Act} {w:World} :kl P md ops Q T st n l a w []:=fun _ h=>by cases h
theorem kl.cons {n j:Nat} {l:Array Bool} {a:Act} {w:World} {o:Oper} {rs:List Nat} (F:ops[j]? =some o)
 (h:∀K:Act->World->Prop,Shut (∀a w,(j≠st->l.getD st true=false->T w)->Til P md ops Q T st n (l.setIfInBounds j true) a w->K a w)->if Region.wanted o (yielded ops a.tmps)=true then Oper.wp P o a w K Q else K (a.put o.dst undef) w)
 (G:kl P md ops Q T st n l a w rs):kl P md ops Q T st n l a w (j::rs):=fun k A=>by
 rcases List.mem_cons.1 A with rfl | A
 ·exact wpOp_step F fun K E=>h K fun a w h1 D=>E a w ⟨h1,D⟩
 exact G k A
theorem zro {rs:List Nat} {n:Nat} {l:Array Bool} {a:Act} {w:World} (D:Region.ready md ops l=rs) (A:rs≠ []) (h:kl P md ops Q T st n l a w rs):Til P md ops Q T st (n+1) l a w:=
 ⟨fun h0=>absurd (D ▸ h0) A,D ▸ h⟩
theorem zrp {l:Array Bool} {a:Act} {w:World} (A:Region.ready md ops l= []) (h:Q .normal a w):∀n,Til P md ops Q T st n l a w
 | 0=>⟨A,h⟩
 | _+1=>⟨fun _=>h,by rw [A];simp⟩
theorem zrq (T:World->Prop) (st:Nat) {E:Nat} {a:Act} {w:World} (D:P.follows .mixedOrders=true) (A:T w.drew) (h:T w.drew->Til P .any ops Q T st ops.size (Array.replicate ops.size false) a w.drew):(Code.region E ops true).wp P Q a w:=
 wp_region_any D (zrj _ _ _ _ (h A))
end
end Go.Proofs.YtjdnmblggdobgaaGreat
namespace Go.Proofs.YtjdnmblggdobgaaGreat
open Go.RowKit Go.Maps
theorem iu {W:World} {X t:Nat} {a b c d e f g:Value} (h:W.heap[X]? =some (.cells #[a,b,c,d,e,f,g] t (0,0))):W.cell? ⟨X,0,none⟩=some a/\W.cell? ⟨X,1,none⟩=some b/\W.cell? ⟨X,2,none⟩=some c/\W.cell? ⟨X,3,none⟩=some d/\W.cell? ⟨X,4,none⟩=some e/\W.cell? ⟨X,5,none⟩=some f/\W.cell? ⟨X,6,none⟩=some g/\(∀j,W.frozen? ⟨X,j,none⟩=false)/\X<W.heap.size:=
 ⟨aw h 0 rfl,aw h 1 rfl,aw h 2 rfl,aw h 3 rfl,aw h 4 rfl,aw h 5 rfl,aw h 6 rfl,lj h,bk h⟩
theorem cells5 {W:World} {X t:Nat} {a b c d e:Value} (h:W.heap[X]? =some (.cells #[a,b,c,d,e] t (0,0))):W.cell? ⟨X,0,none⟩=some a/\W.cell? ⟨X,1,none⟩=some b/\W.cell? ⟨X,2,none⟩=some c/\W.cell? ⟨X,3,none⟩=some d/\W.cell? ⟨X,4,none⟩=some e/\X<W.heap.size:=
 ⟨aw h 0 rfl,aw h 1 rfl,aw h 2 rfl,aw h 3 rfl,aw h 4 rfl,bk h⟩
theorem zrr {ops:Array Oper} {o:Oper} {a:Act} {K:Act->World->Prop} {Q:Exit->Act->World->Prop} {E:Prop} (w:World) (I:o.guard=none) (s x:Operand)
 (Z:o.op=.call { callee:=.builtin .append,args:=#[s,x],argTypes:=#[22,22] }) (A:Nat) (v:Value) (xs:List Int) (hs:a.eval s=v) (D:w.ownsRow A 3 1 v xs.length (b8 xs))
 (M:Nat->Prop) (u:Value) (l:List Int) (hx:a.eval x=u) (W:SL 1 RI M w u l) (hb:xs.length+l.length<=2000000) (F:A<=w.heap.size)
 (h:∀v' w',w'.ownsRow A 3 1 v' (xs++l).length (b8 (xs++l))->w.grownBy w' v.ownBlock->(v'.ownBlock=v.ownBlock\/v'.ownBlock=some w.heap.size)->K (a.put o.dst v') w'):if Region.wanted o (yielded ops a.tmps)=true then Oper.wp Tryz.prog o a w K Q else E:=by
 obtain ⟨iI,J,N,O,V⟩:=info_parts Tryz.infoInt;have HU:=W;obtain ⟨ao,Y,rfl,-,-,X⟩:=W;cases l with
 | nil=>
   obtain ⟨av,cv,rfl⟩:=kh D;have L:=zga D;rw [if_pos (by simp [Region.wanted,I])];have hr:=zf8 (P:=Tryz.prog) w 22 o.type 3 iI Tryz.underlying22 J av xs.length cv L.1 L.2 ao Y;unfold Oper.wp execOp;simp only [Z,resolve,invoke,builtin,Sem.run_bind,Sem.run_pure,Result.andThen_ok,List.map_toArray,List.map_cons,List.map_nil,hs,hx,List.length_nil,hr];exact h _ _ (by simpa using D) (World.grownBy.refl _ _) (Or.inl rfl)
 | cons y l=>
   obtain ⟨b,off,cs,e,-⟩:=X 0 (by simp);subst e;refine step_append_lies w I s x 22 Z A 3 iI (.int .i64 0) 1 8 Tryz.underlying22 J N O V rfl (by decide) v xs.length (b8 xs) hs D ⟨b,off,none⟩ (y::l).length Y (b8 (y::l)) hx (by rw [zir];simp) HU.b8 (by
    intro u W;obtain ⟨z,-,rfl⟩:=List.mem_map.1 W;rfl) (by simp) (by unfold maxLen;omega) (by omega) F w.heap.size rfl ?_
   intro g cap w' h1 h2 G _;refine h _ _ ?_ h2 ?_
   ·rw [ziq,List.length_append];exact h1
   rcases G with G | G
   ·exact Or.inl G.symm
   exact Or.inr (congrArg some G)






end Go.Proofs.YtjdnmblggdobgaaGreat
namespace Go.Proofs.YtjdnmblggdobgaaGreat
open Go.Shelf

end Go.Proofs.YtjdnmblggdobgaaGreat
namespace Go.Proofs.YtjdnmblggdobgaaGreat
open Go.RowKit Go.Maps Go.Shelf
theorem zsu {w:World} {b:Nat} :∀(vs:List Value) (o:Nat) {W:World},w.grownBy W (some b)->w.grownBy (W.setCells b o vs) (some b)
 | [],_,_,h=>h
 | v::r,o,_,h=>zsu r (o+1) (mf h ⟨b,o,none⟩ v (Or.inl rfl))
theorem zsv {b t:Nat} :∀(vs:List Value) (o:Nat) {W:World} {cur:Array Value},W.heap[b]? =some (.cells cur t (0,0))->∃cur',(W.setCells b o vs).heap[b]? =some (.cells cur' t (0,0))/\cur'.size=cur.size
 | [],_,_,cur,h=>⟨cur,h,rfl⟩
 | v::r,o,_,cur,h=>by obtain ⟨c,h1,A⟩:=zsv r (o+1) (mu h (j:=o) v);exact ⟨c,h1,by rw [A];simp⟩
theorem zsw {W:World} {b t:Nat} {A:Array Value} (h:W.heap[b]? =some (.cells A t (0,0))) (j:Nat):W.cell? ⟨b,j,none⟩=A[j]? :=by simp [World.cell?,h]
theorem zsx {w:World} {B b t n cap:Nat} {A:Array Value} {xs:List Value} (D:w.heap[b]? =some (.cells A t (0,0))) (F:B<=b) (J:A.size=cap) (I:n<=cap) (G:cap<=maxLen) (L:xs.length=n) (hc:∀j v,xs[j]? =some v->w.cell? ⟨b,j,none⟩=some v):
 w.ownsRow B t 1 (.slice (some ⟨b,0,none⟩) n cap) n xs:=by
 refine ⟨by rw [L,Nat.mul_one],Or.inr ⟨b,cap,A,rfl,F,D,I,G,by rw [J,Nat.mul_one],?_⟩⟩;apply List.ext_getElem?;intro j;rw [Nat.mul_one,List.getElem?_take];by_cases E:j<n
 ·rw [if_pos E];have h1:=hc j (xs[j]'(by omega)) (List.getElem?_eq_getElem (by omega));rw [zsw D]at h1;rw [Array.getElem?_toList,h1,List.getElem?_eq_getElem (by omega)]
 rw [if_neg E,List.getElem?_eq_none (by omega)]
theorem zsy {w:World} {B e g cap n:Nat} {xs:List Value} (h:w.ownsRow B e 1 (.slice (some ⟨g,0,none⟩) n cap) n xs):∃A,w.heap[g]? =some (.cells A e (0,0))/\B<=g/\n<=cap/\cap<=maxLen/\A.size=cap/\xs.length=n/\∀j v,xs[j]? =some v->w.cell? ⟨g,j,none⟩=some v:=by
 have J:=h.1;rcases h.2 with ⟨q,-⟩ | ⟨O,E,A,q,L,F,hc,N,G,I⟩
 ·cases q
 cases q;rw [Nat.mul_one]at J G I;refine ⟨A,F,L,hc,N,G,J,fun j v D=>?_⟩;rw [zsw F,<-Array.getElem?_toList];rw [<-I,List.getElem?_take]at D;split at D
 ·exact D
 cases D
theorem zs1 (l:List Int) (j:Nat):(b8 l)[j]? =(l[j]?).map fun x=>.int .i64 x:=by simp [b8]
theorem zs3 {W:World} {b t:Nat} {D:Array Value} (h:W.heap[b]? =some (.cells D t (0,0))) (o:Nat) (A:List Value) (G:o+A.length<=D.size) (j:Nat):(W.setCells b o A).cell? ⟨b,j,none⟩=if o<=j/\j<o+A.length then A[j - o]? else W.cell? ⟨b,j,none⟩:=by
 by_cases E:o<=j/\j<o+A.length
 ·rw [if_pos E];have:=World.cell?_setCells_in b A o W (fun k F=>by rw [zsw h,Array.getElem?_eq_getElem (by omega)];rfl) (j - o) (by omega);rw [show o+(j - o)=j by omega]at this;rw [this,List.getElem?_eq_getElem (by omega)]
 rw [if_neg E];exact World.cell?_setCells_out b A o W ⟨b,j,none⟩ (fun _ _=>by show j<o\/_<=j;omega)
end Go.Proofs.YtjdnmblggdobgaaGreat
namespace Go.Proofs.YtjdnmblggdobgaaGreat
open Go.RowKit Go.Maps Go.Shelf Go.Lib

end Go.Proofs.YtjdnmblggdobgaaGreat
namespace Go.Proofs.YtjdnmblggdobgaaGreat
open Go.RowKit Go.Maps


structure Right (d:bd) (h:bb) (ts:List bp):Prop where
 ok:nh d=true
 parts:jd h=true
 ab:i2 h=true
 tops:ju h=true
 both:im d h=some ts
 hash:ts.any (i4 h)=false
 dup:(ts.map bp.hash).Nodup
 lead:(ts.any fun x=>gc d.fields h.ab x fun n=>!dh ts n)=false
 rest:(jq h).any (· != 0)=false
 rise:lu h.am=true
 note:h.am.any (ga d h ts)=false
 un:ts.any (iq d h)=false
theorem Right.err {d:bd} {h:bb} {ts:List bp} (r:Right d h ts):bq d h=0:=by unfold bq kj;rw [r.ok,r.parts,r.ab,r.tops,r.both];simp only [if_true];unfold jo;rw [r.hash,r.lead,r.rest,r.rise,r.note,r.un,decide_eq_true r.dup];rfl
theorem ztn {d:bd} {h:bb} (h0:bq d h=0):∃ts,Right d h ts:=by
 unfold bq kj at h0;cases e0:nh d with
 | false=>rw [e0]at h0;simp at h0
 | true=>
 cases e1:jd h with
 | false=>rw [e0,e1]at h0;simp at h0
 | true=>
 cases e2:i2 h with
 | false=>rw [e0,e1,e2]at h0;simp at h0
 | true=>
 cases e3:ju h with
 | false=>rw [e0,e1,e2,e3]at h0;simp at h0
 | true=>
 cases e4:im d h with
 | none=>rw [e0,e1,e2,e3,e4]at h0;simp at h0
 | some ts=>
 rw [e0,e1,e2,e3,e4]at h0;simp only [if_true]at h0;unfold jo at h0;cases f1:ts.any (i4 h)with
 | true=>rw [f1]at h0;simp at h0
 | false=>
 cases f2:decide ((ts.map bp.hash).Nodup)with
 | false=>rw [f1,f2]at h0;simp at h0
 | true=>
 cases f3:(ts.any fun x=>gc d.fields h.ab x fun n=>!dh ts n)with
 | true=>rw [f1,f2,f3]at h0;simp at h0
 | false=>
 cases f4:(jq h).any (· != 0)with
 | true=>rw [f1,f2,f3,f4]at h0;simp at h0
 | false=>
 cases f5:lu h.am with
 | false=>rw [f1,f2,f3,f4,f5]at h0;simp at h0
 | true=>
 cases f6:h.am.any (ga d h ts)with
 | true=>rw [f1,f2,f3,f4,f5,f6]at h0;simp at h0
 | false=>
 cases f7:ts.any (iq d h)with
 | true=>rw [f1,f2,f3,f4,f5,f6,f7]at h0;simp at h0
 | false=>exact ⟨ts,e0,e1,e2,e3,e4,f1,of_decide_eq_true f2,f3,f4,f5,f6,f7⟩
theorem Right.sized {d:bd} {h:bb} {ts:List bp} (r:Right d h ts):jy d h:=zkk (zki r.ok) r.parts r.ab r.tops
theorem zto {fs:List (List bg)} {x:bp} {a:Int} (h:a∈refsOf fs x):∃n:Nat,a=x.loc+3+n/\(n:Int)<x.len/\je fs x n=true:=by unfold refsOf at h;obtain ⟨n,D,rfl⟩:=List.mem_map.1 h;obtain ⟨h1,A⟩:=List.mem_filter.1 D;have:=List.mem_range.1 h1;exact ⟨n,rfl,by omega,A⟩
theorem ztp {fs:List (List bg)} {x:bp} {n:Nat} (h1:(n:Int)<x.len) (A:je fs x n=true):x.loc+3+(n:Int)∈refsOf fs x:=by unfold refsOf;exact List.mem_map.2 ⟨n,List.mem_filter.2 ⟨List.mem_range.2 (by omega),A⟩,rfl⟩
theorem zts {l:List Int} :kg l l.length↔l.Pairwise (· < ·):=by
 constructor
 ·intro h;rw [List.pairwise_iff_getElem];intro i j F A G;have key:∀n,i+n+1<l.length->wd l i<wd l ((i+n+1:Nat):Int):=by
   intro n;induction n with
   | zero=>
     intro D;have:=h (i+1) (by omega) D;rw [show ((i+1:Nat):Int) - 1=(i:Int) by omega]at this;exact this
   | succ n ih=>
     intro D;have h1:=ih (by omega);have E:=h (i+n+1+1) (by omega) D;rw [show ((i+n+1+1:Nat):Int) - 1=((i+n+1:Nat):Int) by omega]at E;exact Int.lt_trans h1 E
  have:=key (j - i - 1) (by omega);rw [show i+(j - i - 1)+1=j by omega,mw F,mw A]at this;exact this
 intro h j h0 A;rw [show (j:Int) - 1=((j - 1:Nat):Int) by omega,mw (by omega),mw A];exact List.pairwise_iff_getElem.1 h (j - 1) j (by omega) A (by omega)





end Go.Proofs.YtjdnmblggdobgaaGreat
