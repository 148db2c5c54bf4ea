import Derived.Test.YtjdnmblggdobgaaGreatJHtGHuC
import Derived.Test.YtjdnmblggdobgaaGreatJHqBHvA
import Derived.Deep.RegionHeld
import Derived.Test.YtjdnmblggdobgaaGreatJHtBHtF
import Derived.Test.YtjdnmblggdobgaaGreatJTk2Dies
import Derived.Test.YtjdnmblggdobgaaGreatJHmCBx
import Derived.Test.YtjdnmblggdobgaaGreatJLSaLTie
import Derived.Test.YtjdnmblggdobgaaGreatChecked
import Derived.Ground.Names2Prog
import Derived.Shelf.Lays2
import Derived.Shelf.Spec.SlicesInsert
import Derived.Shelf.Spec.SlicesInsertGrow
import Derived.Deep.RegionLawGrows
import Derived.Test.YtjdnmblggdobgaaGreatJLPu5HuE
import Derived.DataShut
namespace Go.Proofs.YtjdnmblggdobgaaGreat
open Go.RowKit Go.Maps
theorem zrh {d:be} {h:bd} {ts D A:List bp} (u:im d h=some ts) (h1:b9 d.aj.length d.fields h.ab 1 h.bg=some D) (E:b9 d.aj.length d.fields h.ab (h.ae+1) h.bk=some A):ts=D++A:=by unfold im at u;rw [h1,E]at u;exact (ojq u).symm
end Go.Proofs.YtjdnmblggdobgaaGreat
namespace Go.Proofs.YtjdnmblggdobgaaGreat
section
variable (P:Program) (md:Region.Mode) (ops:Array Oper) (Q:Exit->Act->World->Prop) (T:World->Prop) (st:Nat)
def Til:Nat->Array Bool->Act->World->Prop
 | 0,l,a,w=>Region.ready md ops l= []/\Q .normal a w
 | n+1,l,a,w=>(Region.ready md ops l= []->Q .normal a w)/\∀j∈Region.ready md ops l,wpOp P ops Q j (fun a' w'=>(j≠st->l.getD st true=false->T w')/\Til n (l.setIfInBounds j true) a' w') a w
def waitsB (i:Nat):Bool:=match ops[st]? with | some o=>o.after.any fun e=>Region.binds md e&&e.on==i | none=>false
end
section
variable {P:Program} {md:Region.Mode} {ops:Array Oper} {Q:Exit->Act->World->Prop} {T:World->Prop} {st:Nat}
theorem zrj:∀(n:Nat) (l:Array Bool) (a:Act) (w:World),Til P md ops Q T st n l a w->wpAny P md ops Q n l a w
 | 0,_,_,_,h=>h
 | n+1,_,_,_,h=>⟨h.1,fun i hi=>wpOp_mono (fun u w' h'=>zrj n _ u w' h'.2) (h.2 i hi)⟩
theorem zrk {i:Nat} {l:Array Bool} (D:waitsB md ops st i=true) (hi:l.getD i true=false):st∉Region.ready md ops l:=fun G=>by
 obtain ⟨-,o,F,u⟩:=mem_ready.1 G;unfold waitsB at D;rw [F]at D;obtain ⟨k,E,-,A⟩:=Array.any_iff_exists.1 D;rw [Bool.and_eq_true,beq_iff_eq]at A;have h1:=u _ (Array.getElem_mem E) A.2.1;rw [A.2.2]at h1;rcases Nat.lt_or_ge i l.size with h' | h'
 ·simp [h']at h1 hi;rw [hi]at h1;cases h1
 simp [Array.getElem?_eq_none h']at h1
theorem zrl {i:Nat} {I:Oper} {v:Value} {U:World->Prop} (hi:ops[i]? =some I) (A:∀(j:Nat) (o:Oper) J b,ops[j]? =some o->o.op≠ .select J b)
 (hQ:∀c a w,Q (.panic c) (a.put I.dst v) w->Q (.panic c) a w) (af:i≠st) (hu:(∀w,U w)\/(waitsB md ops st i=true/\∀w,T w->U w)):
 ∀(n:Nat) (l:Array Bool) (a:Act) (w:World),(∀j G,ops[j]? =some G->j≠i->l.getD j true=false->(∀e∈G.after,Region.binds md e=true->e.on≠i)->I.apart ops G=true)->
  i∈Region.ready md ops l->YieldsIf P ops U I v a->(l.getD st true=false->T w)->(waitsB md ops st i=true->l.getD st true=false)->
  U w->Til P md ops Q T st n (l.setIfInBounds i true) (a.put I.dst v) w->Til P md ops Q T st (n+1) l a w:=by
 intro n;induction n with
 | zero=>
   intro l a w _ Y hy hT _ hU H;refine ⟨fun h=>absurd Y (by rw [h];simp),fun j O=>?_⟩;rcases Nat.decEq j i with e | e
   ·have h0:=ready_mono O e;rw [H.1]at h0;cases h0
   subst e;exact hy.wpOp hi hU ⟨fun _=>hT,H⟩
 | succ n ih=>
   intro l a w hf Y hy hT hs hU H;refine ⟨fun h=>absurd Y (by rw [h];simp),fun j O=>?_⟩;rcases Nat.decEq j i with e | e
   ·obtain ⟨E,G,F,N⟩:=mem_ready.1 O;have D:=(mem_ready.1 Y).1;have ah:∀d∈G.after,Region.binds md d=true->d.on≠i:=fun d hd hb hq=>by
     have h1:=N d hd hb;rw [hq]at h1;rcases Nat.lt_or_ge i l.size with h' | h'
     ·simp [h']at D h1;rw [D]at h1;cases h1
     simp [Array.getElem?_eq_none h']at h1
    have h2:=wpOp_putIf F (hf j G F e E ah) (fun J b=>A i I J b hi) (fun J b=>A j G J b F) hQ hy (H.2 j (ready_mono O e));refine wpOp_mono (fun a' w' h3=>?_) h2;have ht:j≠st->l.getD st true=false->T w':=fun ac W=>h3.2.1 ac (by rw [getD_set_ne true af];exact W);have Z:waitsB md ops st i=true->(l.setIfInBounds j true).getD st true=false:=fun hw=>by have u:j≠st:=fun e2=>zrk hw D (e2 ▸ O);rw [getD_set_ne true u];exact hs hw
    have L:(l.setIfInBounds j true).getD st true=false->T w':=fun W=>by
     by_cases u:j=st
     ·subst u;have ae:j<l.size:=by
       rcases Nat.lt_or_ge j l.size with h' | h'
       ·exact h'
       simp [Array.getElem?_eq_none h']at E
      simp [ae]at W
     rw [getD_set_ne true u]at W;exact ht u W
    refine ⟨ht,ih (l.setIfInBounds j true) a' w' (fun k ok hk ad aa X=>hf k ok hk ad ?_ X) (ready_mono Y (Ne.symm e)) h3.1 L Z ?_ ?_⟩
    ·by_cases V:j=k
     ·subst V;exact E
     rw [getD_set_ne true V]at aa;exact aa
    ·rcases hu with hu | ⟨hw,hu⟩
     ·exact hu _
     exact hu _ (L (Z hw))
    rw [Array.setIfInBounds_comm _ _ e];exact h3.2.2
   subst e;exact hy.wpOp hi hU ⟨fun _=>hT,H⟩
def tilB (md:Region.Mode) (ops:Array Oper) (st:Nat) (l:Array Bool) (i:Nat):Bool:=Region.noSelect ops&&Region.free md ops l i&&(Region.ready md ops l).contains i&&(i != st)&&(!(l.getD st true))
theorem zrm (i:Nat) (v:Value) {A:Oper} {n:Nat} {l:Array Bool} {a:Act} {w:World} (hi:ops[i]? =some A) (u:tilB md ops st l i=true) (G:waitsB md ops st i=true) (F:Region.wanted A (yielded ops a.tmps)=true) (E:∀c a w,Q (.panic c) (a.put A.dst v) w->Q (.panic c) a w)
 (I:∀w,T w->(execOp a.eval A).run P w=.ok (.value v) w) (D:T w) (h:Til P md ops Q T st n (l.setIfInBounds i true) (a.put A.dst v) w):Til P md ops Q T st (n+1) l a w:=by
 simp only [tilB,Bool.and_eq_true,bne_iff_ne,Bool.not_eq_true']at u;exact zrl hi (Region.noSelect_spec u.1.1.1.1) E u.1.2 (Or.inr ⟨G,fun _ h=>h⟩) n l a w (Region.free_spec hi u.1.1.1.2) (by simpa using u.1.1.2) (Or.inl ⟨F,I⟩) (fun _=>D) (fun _=>u.2) D h
theorem zrn (i:Nat) (v:Value) {A:Oper} {n:Nat} {l:Array Bool} {a:Act} {w:World} (hi:ops[i]? =some A) (u:tilB md ops st l i=true) (F:Region.wanted A (yielded ops a.tmps)=true) (D:∀c a w,Q (.panic c) (a.put A.dst v) w->Q (.panic c) a w)
 (G:∀w,(execOp a.eval A).run P w=.ok (.value v) w) (E:T w) (h:Til P md ops Q T st n (l.setIfInBounds i true) (a.put A.dst v) w):Til P md ops Q T st (n+1) l a w:=by
 simp only [tilB,Bool.and_eq_true,bne_iff_ne,Bool.not_eq_true']at u;exact zrl (U:=fun _=>True) hi (Region.noSelect_spec u.1.1.1.1) D u.1.2 (Or.inl fun _=>trivial) n l a w (Region.free_spec hi u.1.1.1.2) (by simpa using u.1.1.2) (Or.inl ⟨F,fun w _=>G w⟩) (fun _=>E) (fun _=>u.2) trivial h
def TilR (P:Program) (md:Region.Mode) (ops:Array Oper) (Q:Exit->Act->World->Prop) (T:World->Prop) (st n:Nat) (l:Array Bool) (a:Act) (w:World) (rs:List Nat):Prop:=
 ∀j∈rs,wpOp P ops Q j (fun a' w'=>(j≠st->l.getD st true=false->T w')/\Til P md ops Q T st n (l.setIfInBounds j true) a' w') a w
theorem TilR.nil {n:Nat} {l:Array Bool} {a:Act} {w:World} :TilR P md ops Q T st n l a w []:=fun _ h=>by cases h
theorem TilR.cons {n j:Nat} {l:Array Bool} {a:Act} {w:World} {o:Oper} {rs:List Nat} (E:ops[j]? =some o)
 (h:∀K:Act->World->Prop,Shut (∀a w,(j≠st->l.getD st true=false->T w)->Til P md ops Q T st n (l.setIfInBounds j true) a w->K a w)->if Region.wanted o (yielded ops a.tmps)=true then Oper.wp P o a w K Q else K (a.put o.dst undef) w)
 (F:TilR P md ops Q T st n l a w rs):TilR P md ops Q T st n l a w (j::rs):=fun k u=>by
 rcases List.mem_cons.1 u with rfl | u
 ·exact wpOp_step E fun K D=>h K fun a w h1 A=>D a w ⟨h1,A⟩
 exact F k u
theorem zro {rs:List Nat} {n:Nat} {l:Array Bool} {a:Act} {w:World} (A:Region.ready md ops l=rs) (u:rs≠ []) (h:TilR P md ops Q T st n l a w rs):Til P md ops Q T st (n+1) l a w:=
 ⟨fun h0=>absurd (A ▸ h0) u,A ▸ h⟩
theorem zrp {l:Array Bool} {a:Act} {w:World} (u:Region.ready md ops l= []) (h:Q .normal a w):∀n,Til P md ops Q T st n l a w
 | 0=>⟨u,h⟩
 | _+1=>⟨fun _=>h,by rw [u];simp⟩
theorem zrq (T:World->Prop) (st:Nat) {D:Nat} {a:Act} {w:World} (A:P.follows .mixedOrders=true) (u:T w.drew) (h:T w.drew->Til P .any ops Q T st ops.size (Array.replicate ops.size false) a w.drew):(Code.region D ops true).wp P Q a w:=
 wp_region_any A (zrj _ _ _ _ (h u))
end
end Go.Proofs.YtjdnmblggdobgaaGreat
namespace Go.Proofs.YtjdnmblggdobgaaGreat
open Go.RowKit Go.Maps
theorem jk {W:World} {X t:Nat} {a b c d e f g:Value} (h:W.heap[X]? =some (.cells #[a,b,c,d,e,f,g] t (0,0))):W.cell? ⟨X,0,none⟩=some a/\W.cell? ⟨X,1,none⟩=some b/\W.cell? ⟨X,2,none⟩=some c/\W.cell? ⟨X,3,none⟩=some d/\W.cell? ⟨X,4,none⟩=some e/\W.cell? ⟨X,5,none⟩=some f/\W.cell? ⟨X,6,none⟩=some g/\(∀j,W.frozen? ⟨X,j,none⟩=false)/\X<W.heap.size:=
 ⟨ba h 0 rfl,ba h 1 rfl,ba h 2 rfl,ba h 3 rfl,ba h 4 rfl,ba h 5 rfl,ba h 6 rfl,nu h,bz h⟩
theorem cells5 {W:World} {X t:Nat} {a b c d e:Value} (h:W.heap[X]? =some (.cells #[a,b,c,d,e] t (0,0))):W.cell? ⟨X,0,none⟩=some a/\W.cell? ⟨X,1,none⟩=some b/\W.cell? ⟨X,2,none⟩=some c/\W.cell? ⟨X,3,none⟩=some d/\W.cell? ⟨X,4,none⟩=some e/\X<W.heap.size:=
 ⟨ba h 0 rfl,ba h 1 rfl,ba h 2 rfl,ba h 3 rfl,ba h 4 rfl,bz h⟩
theorem zrr {ops:Array Oper} {o:Oper} {a:Act} {K:Act->World->Prop} {Q:Exit->Act->World->Prop} {E:Prop} (w:World) (I:o.guard=none) (s x:Operand)
 (Z:o.op=.call { callee:=.builtin .append,args:=#[s,x],argTypes:=#[22,22] }) (A:Nat) (v:Value) (xs:List Int) (hs:a.eval s=v) (D:w.ownsRow A 3 1 v xs.length (bv xs))
 (M:Nat->Prop) (u:Value) (l:List Int) (hx:a.eval x=u) (W:SL 1 RI M w u l) (hb:xs.length+l.length<=2000000) (F:A<=w.heap.size)
 (h:∀v' w',w'.ownsRow A 3 1 v' (xs++l).length (bv (xs++l))->w.grownBy w' v.ownBlock->(v'.ownBlock=v.ownBlock\/v'.ownBlock=some w.heap.size)->K (a.put o.dst v') w'):if Region.wanted o (yielded ops a.tmps)=true then Oper.wp Tryz.prog o a w K Q else E:=by
 obtain ⟨iI,J,N,O,V⟩:=info_parts Tryz.infoInt;have HU:=W;obtain ⟨ao,Y,rfl,-,-,X⟩:=W;cases l with
 | nil=>
   obtain ⟨av,cv,rfl⟩:=kh D;have L:=zga D;rw [if_pos (by simp [Region.wanted,I])];have hr:=zf8 (P:=Tryz.prog) w 22 o.type 3 iI Tryz.underlying22 J av xs.length cv L.1 L.2 ao Y;unfold Oper.wp execOp;simp only [Z,resolve,invoke,builtin,Sem.run_bind,Sem.run_pure,Result.andThen_ok,List.map_toArray,List.map_cons,List.map_nil,hs,hx,List.length_nil,hr];exact h _ _ (by simpa using D) (World.grownBy.refl _ _) (Or.inl rfl)
 | cons y l=>
   obtain ⟨b,off,cs,e,-⟩:=X 0 (by simp);subst e;refine step_append_lies w I s x 22 Z A 3 iI (.int .i64 0) 1 8 Tryz.underlying22 J N O V rfl (by decide) v xs.length (bv xs) hs D ⟨b,off,none⟩ (y::l).length Y (bv (y::l)) hx (by rw [zir];simp) HU.bv (by
    intro u W;obtain ⟨z,-,rfl⟩:=List.mem_map.1 W;rfl) (by simp) (by unfold maxLen;omega) (by omega) F w.heap.size rfl ?_
   intro g cap w' h1 h2 G _;refine h _ _ ?_ h2 ?_
   ·rw [ziq,List.length_append];exact h1
   rcases G with G | G
   ·exact Or.inl G.symm
   exact Or.inr (congrArg some G)






end Go.Proofs.YtjdnmblggdobgaaGreat
namespace Go.Proofs.YtjdnmblggdobgaaGreat
open Go.Shelf

end Go.Proofs.YtjdnmblggdobgaaGreat
namespace Go.Proofs.YtjdnmblggdobgaaGreat
open Go.RowKit Go.Maps Go.Shelf
theorem zsu {w:World} {b:Nat} :∀(vs:List Value) (o:Nat) {W:World},w.grownBy W (some b)->w.grownBy (W.setCells b o vs) (some b)
 | [],_,_,h=>h
 | v::r,o,_,h=>zsu r (o+1) (nh h ⟨b,o,none⟩ v (Or.inl rfl))
theorem zsv {b t:Nat} :∀(vs:List Value) (o:Nat) {W:World} {cur:Array Value},W.heap[b]? =some (.cells cur t (0,0))->∃cur',(W.setCells b o vs).heap[b]? =some (.cells cur' t (0,0))/\cur'.size=cur.size
 | [],_,_,cur,h=>⟨cur,h,rfl⟩
 | v::r,o,_,cur,h=>by obtain ⟨c,h1,u⟩:=zsv r (o+1) (zg6 h (j:=o) v);exact ⟨c,h1,by rw [u];simp⟩
theorem zsw {W:World} {b t:Nat} {u:Array Value} (h:W.heap[b]? =some (.cells u t (0,0))) (j:Nat):W.cell? ⟨b,j,none⟩=u[j]? :=by simp [World.cell?,h]
theorem zsx {w:World} {B b t n cap:Nat} {u:Array Value} {xs:List Value} (A:w.heap[b]? =some (.cells u t (0,0))) (E:B<=b) (I:u.size=cap) (G:n<=cap) (F:cap<=maxLen) (J:xs.length=n) (hc:∀j v,xs[j]? =some v->w.cell? ⟨b,j,none⟩=some v):
 w.ownsRow B t 1 (.slice (some ⟨b,0,none⟩) n cap) n xs:=by
 refine ⟨by rw [J,Nat.mul_one],Or.inr ⟨b,cap,u,rfl,E,A,G,F,by rw [I,Nat.mul_one],?_⟩⟩;apply List.ext_getElem?;intro j;rw [Nat.mul_one,List.getElem?_take];by_cases D:j<n
 ·rw [if_pos D];have h1:=hc j (xs[j]'(by omega)) (List.getElem?_eq_getElem (by omega));rw [zsw A]at h1;rw [Array.getElem?_toList,h1,List.getElem?_eq_getElem (by omega)]
 rw [if_neg D,List.getElem?_eq_none (by omega)]
theorem zsy {w:World} {B e g cap n:Nat} {xs:List Value} (h:w.ownsRow B e 1 (.slice (some ⟨g,0,none⟩) n cap) n xs):∃u,w.heap[g]? =some (.cells u e (0,0))/\B<=g/\n<=cap/\cap<=maxLen/\u.size=cap/\xs.length=n/\∀j v,xs[j]? =some v->w.cell? ⟨g,j,none⟩=some v:=by
 have I:=h.1;rcases h.2 with ⟨q,-⟩ | ⟨N,D,u,q,J,E,hc,L,F,G⟩
 ·cases q
 cases q;rw [Nat.mul_one]at I F G;refine ⟨u,E,J,hc,L,F,I,fun j v A=>?_⟩;rw [zsw E,<-Array.getElem?_toList];rw [<-G,List.getElem?_take]at A;split at A
 ·exact A
 cases A
theorem zs1 (l:List Int) (j:Nat):(bv l)[j]? =(l[j]?).map fun x=>.int .i64 x:=by simp [bv]
theorem zs3 {W:World} {b t:Nat} {A:Array Value} (h:W.heap[b]? =some (.cells A t (0,0))) (o:Nat) (u:List Value) (F:o+u.length<=A.size) (j:Nat):(W.setCells b o u).cell? ⟨b,j,none⟩=if o<=j/\j<o+u.length then u[j - o]? else W.cell? ⟨b,j,none⟩:=by
 by_cases D:o<=j/\j<o+u.length
 ·rw [if_pos D];have:=World.cell?_setCells_in b u o W (fun k E=>by rw [zsw h,Array.getElem?_eq_getElem (by omega)];rfl) (j - o) (by omega);rw [show o+(j - o)=j by omega]at this;rw [this,List.getElem?_eq_getElem (by omega)]
 rw [if_neg D];exact World.cell?_setCells_out b u o W ⟨b,j,none⟩ (fun _ _=>by show j<o\/_<=j;omega)
end Go.Proofs.YtjdnmblggdobgaaGreat
namespace Go.Proofs.YtjdnmblggdobgaaGreat
open Go.RowKit Go.Maps Go.Shelf Go.Lib

end Go.Proofs.YtjdnmblggdobgaaGreat
namespace Go.Proofs.YtjdnmblggdobgaaGreat
open Go.RowKit Go.Maps


structure Right (d:be) (h:bd) (ts:List bp):Prop where
 ok:o7 d=true
 parts:jg h=true
 ab:iv h=true
 tops:ju h=true
 both:im d h=some ts
 hash:ts.any (iy h)=false
 dup:(ts.map bp.hash).Nodup
 lead:(ts.any fun x=>fq d.fields h.ab x fun n=>!cw ts n)=false
 rest:(kf h).any (· != 0)=false
 rise:nb h.ap=true
 note:h.ap.any (gi d h ts)=false
 un:ts.any (il d h)=false
theorem Right.err {d:be} {h:bd} {ts:List bp} (r:Right d h ts):dm d h=0:=by unfold dm lq;rw [r.ok,r.parts,r.ab,r.tops,r.both];simp only [if_true];unfold jw;rw [r.hash,r.lead,r.rest,r.rise,r.note,r.un,decide_eq_true r.dup];rfl
theorem ztn {d:be} {h:bd} (h0:dm d h=0):∃ts,Right d h ts:=by
 unfold dm lq at h0;cases e0:o7 d with
 | false=>rw [e0]at h0;simp at h0
 | true=>
 cases e1:jg h with
 | false=>rw [e0,e1]at h0;simp at h0
 | true=>
 cases e2:iv h with
 | false=>rw [e0,e1,e2]at h0;simp at h0
 | true=>
 cases e3:ju h with
 | false=>rw [e0,e1,e2,e3]at h0;simp at h0
 | true=>
 cases e4:im d h with
 | none=>rw [e0,e1,e2,e3,e4]at h0;simp at h0
 | some ts=>
 rw [e0,e1,e2,e3,e4]at h0;simp only [if_true]at h0;unfold jw at h0;cases f1:ts.any (iy h)with
 | true=>rw [f1]at h0;simp at h0
 | false=>
 cases f2:decide ((ts.map bp.hash).Nodup)with
 | false=>rw [f1,f2]at h0;simp at h0
 | true=>
 cases f3:(ts.any fun x=>fq d.fields h.ab x fun n=>!cw ts n)with
 | true=>rw [f1,f2,f3]at h0;simp at h0
 | false=>
 cases f4:(kf h).any (· != 0)with
 | true=>rw [f1,f2,f3,f4]at h0;simp at h0
 | false=>
 cases f5:nb h.ap with
 | false=>rw [f1,f2,f3,f4,f5]at h0;simp at h0
 | true=>
 cases f6:h.ap.any (gi d h ts)with
 | true=>rw [f1,f2,f3,f4,f5,f6]at h0;simp at h0
 | false=>
 cases f7:ts.any (il d h)with
 | true=>rw [f1,f2,f3,f4,f5,f6,f7]at h0;simp at h0
 | false=>exact ⟨ts,e0,e1,e2,e3,e4,f1,of_decide_eq_true f2,f3,f4,f5,f6,f7⟩
theorem Right.sized {d:be} {h:bd} {ts:List bp} (r:Right d h ts):mf d h:=zkk (zki r.ok) r.parts r.ab r.tops
theorem zto {fs:List (List bo)} {x:bp} {a:Int} (h:a∈refsOf fs x):∃n:Nat,a=x.loc+3+n/\(n:Int)<x.len/\jh fs x n=true:=by unfold refsOf at h;obtain ⟨n,A,rfl⟩:=List.mem_map.1 h;obtain ⟨h1,u⟩:=List.mem_filter.1 A;have:=List.mem_range.1 h1;exact ⟨n,rfl,by omega,u⟩
theorem ztp {fs:List (List bo)} {x:bp} {n:Nat} (h1:(n:Int)<x.len) (u:jh fs x n=true):x.loc+3+(n:Int)∈refsOf fs x:=by unfold refsOf;exact List.mem_map.2 ⟨n,List.mem_filter.2 ⟨List.mem_range.2 (by omega),u⟩,rfl⟩





end Go.Proofs.YtjdnmblggdobgaaGreat
