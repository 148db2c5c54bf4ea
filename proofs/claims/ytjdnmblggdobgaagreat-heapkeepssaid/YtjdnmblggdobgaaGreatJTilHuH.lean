import Derived.Deep.RegionHeld
import Derived.Test.YtjdnmblggdobgaaGreatJHtBHtF
set_option maxHeartbeats 2000000
set_option maxRecDepth 100000
namespace Go.Proofs.YtjdnmblggdobgaaGreat
section
variable (P:Program) (md:Region.Mode) (ops:Array Oper) (Q:Exit->Act->World->Prop) (T:World->Prop) (st:Nat)
def Til:Nat->Array Bool->Act->World->Prop
 | 0,l,a,w=>Region.ready md ops l= []/\Q .normal a w
 | n+1,l,a,w=>(Region.ready md ops l= []->Q .normal a w)/\∀j∈Region.ready md ops l,wpOp P ops Q j (fun a' w'=>(j≠st->l.getD st true=false->T w')/\Til n (l.setIfInBounds j true) a' w') a w
def waitsB (i:Nat):Bool:=match ops[st]? with | some o=>o.after.any fun e=>Region.binds md e&&e.on==i | none=>false
end
section
variable {P:Program} {md:Region.Mode} {ops:Array Oper} {Q:Exit->Act->World->Prop} {T:World->Prop} {st:Nat}
theorem zro:∀(n:Nat) (l:Array Bool) (a:Act) (w:World),Til P md ops Q T st n l a w->wpAny P md ops Q n l a w
 | 0,_,_,_,h=>h
 | n+1,_,_,_,h=>⟨h.1,fun i hi=>wpOp_mono (fun a' w' h'=>zro n _ a' w' h'.2) (h.2 i hi)⟩
theorem zrp {i:Nat} {l:Array Bool} (hw:waitsB md ops st i=true) (hi:l.getD i true=false):st∉Region.ready md ops l:=fun hs=>by
 obtain ⟨-,o,ho,hall⟩:=mem_ready.1 hs
 unfold waitsB at hw
 rw [ho]at hw
 obtain ⟨k,hk,-,he⟩:=Array.any_iff_exists.1 hw
 rw [Bool.and_eq_true,beq_iff_eq]at he
 have h1:=hall _ (Array.getElem_mem hk) he.2.1
 rw [he.2.2]at h1
 rcases Nat.lt_or_ge i l.size with h' | h'
 ·simp [h']at h1 hi;rw [hi]at h1;cases h1
 simp [Array.getElem?_eq_none h']at h1
theorem zrq {i:Nat} {oi:Oper} {v:Value} {U:World->Prop} (hi:ops[i]? =some oi) (hsel:∀(j:Nat) (o:Oper) cs b,ops[j]? =some o->o.op≠ .select cs b)
 (hQ:∀c a w,Q (.panic c) (a.put oi.dst v) w->Q (.panic c) a w) (hne:i≠st) (hu:(∀w,U w)\/(waitsB md ops st i=true/\∀w,T w->U w)):
 ∀(n:Nat) (l:Array Bool) (a:Act) (w:World),(∀j oj,ops[j]? =some oj->j≠i->l.getD j true=false->(∀e∈oj.after,Region.binds md e=true->e.on≠i)->oi.apart ops oj=true)->
  i∈Region.ready md ops l->YieldsIf P ops U oi v a->(l.getD st true=false->T w)->(waitsB md ops st i=true->l.getD st true=false)->
  U w->Til P md ops Q T st n (l.setIfInBounds i true) (a.put oi.dst v) w->Til P md ops Q T st (n+1) l a w:=by
 intro n
 induction n with
 | zero=>
   intro l a w _ hr hy hT _ hU H
   refine ⟨fun h=>absurd hr (by rw [h];simp),fun j hj=>?_⟩
   rcases Nat.decEq j i with e | e
   ·have h0:=ready_mono hj e
    rw [H.1]at h0
    cases h0
   subst e;exact hy.wpOp hi hU ⟨fun _=>hT,H⟩
 | succ n ih=>
   intro l a w hf hr hy hT hs hU H
   refine ⟨fun h=>absurd hr (by rw [h];simp),fun j hj=>?_⟩
   rcases Nat.decEq j i with e | e
   ·obtain ⟨hju,oj,hoj,hall⟩:=mem_ready.1 hj
    have hiu:=(mem_ready.1 hr).1
    have hno:∀d∈oj.after,Region.binds md d=true->d.on≠i:=fun d hd hb hq=>by
     have h1:=hall d hd hb
     rw [hq]at h1
     rcases Nat.lt_or_ge i l.size with h' | h'
     ·simp [h']at hiu h1;rw [hiu]at h1;cases h1
     simp [Array.getElem?_eq_none h']at h1
    have h2:=wpOp_putIf hoj (hf j oj hoj e hju hno) (fun cs b=>hsel i oi cs b hi) (fun cs b=>hsel j oj cs b hoj) hQ hy (H.2 j (ready_mono hj e))
    refine wpOp_mono (fun a' w' h3=>?_) h2
    have ht:j≠st->l.getD st true=false->T w':=fun hj2 hl=>h3.2.1 hj2 (by rw [getD_set_ne true hne];exact hl)
    have hs':waitsB md ops st i=true->(l.setIfInBounds j true).getD st true=false:=fun hw=>by
     have hjs:j≠st:=fun e2=>zrp hw hiu (e2 ▸ hj)
     rw [getD_set_ne true hjs];exact hs hw
    have hT':(l.setIfInBounds j true).getD st true=false->T w':=fun hl=>by
     by_cases hjs:j=st
     ·subst hjs
      have hlt:j<l.size:=by
       rcases Nat.lt_or_ge j l.size with h' | h'
       ·exact h'
       simp [Array.getElem?_eq_none h']at hju
      simp [hlt]at hl
     rw [getD_set_ne true hjs]at hl;exact ht hjs hl
    refine ⟨ht,ih (l.setIfInBounds j true) a' w' (fun k ok hk hki hun hno2=>hf k ok hk hki ?_ hno2) (ready_mono hr (Ne.symm e)) h3.1 hT' hs' ?_ ?_⟩
    ·by_cases hjk:j=k
     ·subst hjk;exact hju
     rw [getD_set_ne true hjk]at hun;exact hun
    ·rcases hu with hu | ⟨hw,hu⟩
     ·exact hu _
     exact hu _ (hT' (hs' hw))
    rw [Array.setIfInBounds_comm _ _ e];exact h3.2.2
   subst e;exact hy.wpOp hi hU ⟨fun _=>hT,H⟩
def tilB (md:Region.Mode) (ops:Array Oper) (st:Nat) (l:Array Bool) (i:Nat):Bool:=Region.noSelect ops&&Region.free md ops l i&&(Region.ready md ops l).contains i&&(i != st)&&(!(l.getD st true))
theorem zrr (i:Nat) (v:Value) {oi:Oper} {n:Nat} {l:Array Bool} {a:Act} {w:World} (hi:ops[i]? =some oi) (hb:tilB md ops st l i=true) (hw:waitsB md ops st i=true) (hg:Region.wanted oi (yielded ops a.tmps)=true) (hQ:∀c a w,Q (.panic c) (a.put oi.dst v) w->Q (.panic c) a w)
 (hy:∀w,T w->(execOp a.eval oi).run P w=.ok (.value v) w) (hT:T w) (h:Til P md ops Q T st n (l.setIfInBounds i true) (a.put oi.dst v) w):Til P md ops Q T st (n+1) l a w:=by
 simp only [tilB,Bool.and_eq_true,bne_iff_ne,Bool.not_eq_true']at hb
 exact zrq hi (Region.noSelect_spec hb.1.1.1.1) hQ hb.1.2 (Or.inr ⟨hw,fun _ h=>h⟩) n l a w (Region.free_spec hi hb.1.1.1.2) (by simpa using hb.1.1.2) (Or.inl ⟨hg,hy⟩) (fun _=>hT) (fun _=>hb.2) hT h
theorem zrs (i:Nat) (v:Value) {oi:Oper} {n:Nat} {l:Array Bool} {a:Act} {w:World} (hi:ops[i]? =some oi) (hb:tilB md ops st l i=true) (hg:Region.wanted oi (yielded ops a.tmps)=true) (hQ:∀c a w,Q (.panic c) (a.put oi.dst v) w->Q (.panic c) a w)
 (hy:∀w,(execOp a.eval oi).run P w=.ok (.value v) w) (hT:T w) (h:Til P md ops Q T st n (l.setIfInBounds i true) (a.put oi.dst v) w):Til P md ops Q T st (n+1) l a w:=by
 simp only [tilB,Bool.and_eq_true,bne_iff_ne,Bool.not_eq_true']at hb
 exact zrq (U:=fun _=>True) hi (Region.noSelect_spec hb.1.1.1.1) hQ hb.1.2 (Or.inl fun _=>trivial) n l a w (Region.free_spec hi hb.1.1.1.2) (by simpa using hb.1.1.2) (Or.inl ⟨hg,fun w _=>hy w⟩) (fun _=>hT) (fun _=>hb.2) trivial h
def TilR (P:Program) (md:Region.Mode) (ops:Array Oper) (Q:Exit->Act->World->Prop) (T:World->Prop) (st n:Nat) (l:Array Bool) (a:Act) (w:World) (rs:List Nat):Prop:=
 ∀j∈rs,wpOp P ops Q j (fun a' w'=>(j≠st->l.getD st true=false->T w')/\Til P md ops Q T st n (l.setIfInBounds j true) a' w') a w
theorem TilR.nil {n:Nat} {l:Array Bool} {a:Act} {w:World} :TilR P md ops Q T st n l a w []:=fun _ h=>by cases h
theorem TilR.cons {n j:Nat} {l:Array Bool} {a:Act} {w:World} {o:Oper} {rs:List Nat} (ho:ops[j]? =some o)
 (h:∀K:Act->World->Prop,Shut (∀a w,(j≠st->l.getD st true=false->T w)->Til P md ops Q T st n (l.setIfInBounds j true) a w->K a w)->if Region.wanted o (yielded ops a.tmps)=true then Oper.wp P o a w K Q else K (a.put o.dst undef) w)
 (hs:TilR P md ops Q T st n l a w rs):TilR P md ops Q T st n l a w (j::rs):=fun k hk=>by
 rcases List.mem_cons.1 hk with rfl | hk
 ·exact wpOp_step ho fun K hK=>h K fun a w h1 h2=>hK a w ⟨h1,h2⟩
 exact hs k hk
theorem zrt {rs:List Nat} {n:Nat} {l:Array Bool} {a:Act} {w:World} (hr:Region.ready md ops l=rs) (hne:rs≠ []) (h:TilR P md ops Q T st n l a w rs):Til P md ops Q T st (n+1) l a w:=
 ⟨fun h0=>absurd (hr ▸ h0) hne,hr ▸ h⟩
theorem zru {l:Array Bool} {a:Act} {w:World} (hr:Region.ready md ops l= []) (h:Q .normal a w):∀n,Til P md ops Q T st n l a w
 | 0=>⟨hr,h⟩
 | _+1=>⟨fun _=>h,by rw [hr];simp⟩
theorem zrv (T:World->Prop) (st:Nat) {id:Nat} {a:Act} {w:World} (hm:P.follows .mixedOrders=true) (hT:T w.drew) (h:T w.drew->Til P .any ops Q T st ops.size (Array.replicate ops.size false) a w.drew):(Code.region id ops true).wp P Q a w:=
 wp_region_any hm (zro _ _ _ _ (h hT))
end
end Go.Proofs.YtjdnmblggdobgaaGreat
namespace Go.Proofs.YtjdnmblggdobgaaGreat
open Go.RowKit Go.Maps
theorem cells7 {W:World} {X t:Nat} {a b c d e f g:Value} (h:W.heap[X]? =some (.cells #[a,b,c,d,e,f,g] t (0,0))):W.cell? ⟨X,0,none⟩=some a/\W.cell? ⟨X,1,none⟩=some b/\W.cell? ⟨X,2,none⟩=some c/\W.cell? ⟨X,3,none⟩=some d/\W.cell? ⟨X,4,none⟩=some e/\W.cell? ⟨X,5,none⟩=some f/\W.cell? ⟨X,6,none⟩=some g/\(∀j,W.frozen? ⟨X,j,none⟩=false)/\X<W.heap.size:=
 ⟨cl0 h 0 rfl,cl0 h 1 rfl,cl0 h 2 rfl,cl0 h 3 rfl,cl0 h 4 rfl,cl0 h 5 rfl,cl0 h 6 rfl,zcf h,lt0 h⟩
theorem cells5 {W:World} {X t:Nat} {a b c d e:Value} (h:W.heap[X]? =some (.cells #[a,b,c,d,e] t (0,0))):W.cell? ⟨X,0,none⟩=some a/\W.cell? ⟨X,1,none⟩=some b/\W.cell? ⟨X,2,none⟩=some c/\W.cell? ⟨X,3,none⟩=some d/\W.cell? ⟨X,4,none⟩=some e/\X<W.heap.size:=
 ⟨cl0 h 0 rfl,cl0 h 1 rfl,cl0 h 2 rfl,cl0 h 3 rfl,cl0 h 4 rfl,lt0 h⟩
theorem zrw {ops:Array Oper} {o:Oper} {a:Act} {K:Act->World->Prop} {Q:Exit->Act->World->Prop} {E:Prop} (w:World) (hgd:o.guard=none) (s x:Operand)
 (ho:o.op=.call { callee:=.builtin .append,args:=#[s,x],argTypes:=#[22,22] }) (base:Nat) (v:Value) (xs:List Int) (hs:a.eval s=v) (hown:w.ownsRow base 3 1 v xs.length (intV xs))
 (M:Nat->Prop) (u:Value) (l:List Int) (hx:a.eval x=u) (hu:SL 1 RI M w u l) (hb:xs.length+l.length<=2000000) (hbase:base<=w.heap.size)
 (h:∀v' w',w'.ownsRow base 3 1 v' (xs++l).length (intV (xs++l))->w.grownBy w' v.ownBlock->(v'.ownBlock=v.ownBlock\/v'.ownBlock=some w.heap.size)->K (a.put o.dst v') w'):if Region.wanted o (yielded ops a.tmps)=true then Oper.wp Tryz.prog o a w K Q else E:=by
 obtain ⟨iI,hiI,hzI0,hzI1,hzI2⟩:=info_parts Tryz.infoInt
 have HU:=hu
 obtain ⟨ao,cl,rfl,-,-,hel⟩:=hu
 cases l with
 | nil=>
   obtain ⟨av,cv,rfl⟩:=zfz hown
   have hoa:=zga hown
   rw [if_pos (by simp [Region.wanted,hgd])]
   have hr:=zf8 (P:=Tryz.prog) w 22 o.type 3 iI Tryz.underlying22 hiI av xs.length cv hoa.1 hoa.2 ao cl
   unfold Oper.wp execOp
   simp only [ho,resolve,invoke,builtin,Sem.run_bind,Sem.run_pure,Result.andThen_ok,List.map_toArray,List.map_cons,List.map_nil,hs,hx,List.length_nil,hr]
   exact h _ _ (by simpa using hown) (World.grownBy.refl _ _) (Or.inl rfl)
 | cons y l=>
   obtain ⟨b,off,cs,e,-⟩:=hel 0 (by simp)
   subst e
   refine step_append_lies w hgd s x 22 ho base 3 iI (.int .i64 0) 1 8 Tryz.underlying22 hiI hzI0 hzI1 hzI2 rfl (by decide) v xs.length (intV xs) hs hown ⟨b,off,none⟩ (y::l).length cl (intV (y::l)) hx (by rw [ziq];simp) HU.intV (by
    intro u hu
    obtain ⟨z,-,rfl⟩:=List.mem_map.1 hu
    rfl) (by simp) (by unfold maxLen;omega) (by omega) hbase w.heap.size rfl ?_
   intro g cap w' h1 h2 h3 _
   refine h _ _ ?_ h2 ?_
   ·rw [zip,List.length_append]
    exact h1
   rcases h3 with h3 | h3
   ·exact Or.inl h3.symm
   exact Or.inr (congrArg some h3)
theorem zrx (w:World) (B:Nat) (vW vO:Value) (h:HeapD) (sW:SL 1 RI (· <B) w vW h.words) (sO:SL 1 RI (· <B) w vO h.noted) (hB:B<=w.heap.size) (hl1:h.words.length<=1000000) (hl2:h.noted.length<=1000000):
 Calls Tryz.prog 61 #[.agg #[vW,.int .i64 h.young,.int .i64 h.old,.int .i64 h.ytop,.int .i64 h.otop,vO,.int .i64 h.next]] w fun r w'=>Below w.heap.size w w'/\∃nW dW nO dO,r=.returned (.agg #[.slice nW h.words.length dW,.int .i64 h.young,.int .i64 h.old,.int .i64 h.ytop,.int .i64 h.otop,.slice nO h.noted.length dO,.int .i64 h.next])/\OwnV w.heap.size w' (.slice nW h.words.length dW) (.slice nO h.noted.length dO) h:=by
 have HSW':=mk0 sW
 have HSO':=mk0 sO
 obtain ⟨aW,cW,rfl,-⟩:=sW
 obtain ⟨aO,cO,rfl,-⟩:=sO
 obtain ⟨W0,hW0,hB0,hs0,k0,k1⟩:=boxes2 w #[.slice aW h.words.length cW,.int .i64 h.young,.int .i64 h.old,.int .i64 h.ytop,.int .i64 h.otop,.slice aO h.noted.length cO,.int .i64 h.next] #[.slice none 0 0,.int .i64 0,.int .i64 0,.int .i64 0,.int .i64 0,.slice none 0 0,.int .i64 0] 24 24
 have HSW:=mk0 (HSW'.out.keptI (Kp.below (hB0.mono hB)))
 have HSO:=mk0 (HSO'.out.keptI (Kp.below (hB0.mono hB)))
 have HBS:Hid (B<=W0.heap.size):=Nat.le_trans hB hB0.size
 have HL1:Hid (([]:List Int).length+h.words.length<=2000000):=by show _<=_;simp;omega
 have HL2:Hid (([]:List Int).length+h.noted.length<=2000000):=by show _<=_;simp;omega
 have lk0:=lt0 k0
 have c0:=cl0 k0 0 (x:=.slice aW h.words.length cW) rfl
 have c5:=cl0 k0 5 (x:=.slice aO h.noted.length cO) rfl
 have HK0:=mk0 k0
 have HK1:=mk0 k1
 have HB0:=mk0 hB0
 have HE0:=mk0 hW0
 have hs1:w.heap.size+1+1<=W0.heap.size:=by omega
 clear HSW' HSO' hB hl1 hl2 k0 k1 hB0 hW0 hs0
 go_enter Tryz.func61,Tryz.ntmps61
 go_wp2_with fail
 rw [<-HE0.out]
 refine zrv (fun W'=>∀p:Addr,p.block<W0.heap.size->W'.cell? p=W0.cell? p) 9 (by kernel_rfl) (fun p hp=>rfl) fun hH=>?_
 obtain ⟨V0,hV0⟩:∃V0,V0=W0.drew:=⟨_,rfl⟩
 rw [<-hV0]at hH ⊢
 have hbV0:Below W0.heap.size W0 V0:=hV0 ▸ (Below.refl _ _).drew
 have hzV0:V0.heap.size<=W0.heap.size/\W0.heap.size<=V0.heap.size:=by rw [hV0];exact ⟨Nat.le_refl _,Nat.le_refl _⟩
 clear hV0
 refine zrr 1 (.pointer (some ⟨w.heap.size,0,none⟩)) rfl (by kernel_rfl) (by kernel_rfl) (by kernel_rfl) (fun _ _ _ h=>h) ?_ hH ?_
 ·intro w hSw;go_simp
 refine zrr 2 (.slice aW h.words.length cW) rfl (by kernel_rfl) (by kernel_rfl) (by kernel_rfl) (fun _ _ _ h=>h) ?_ hH ?_
 ·intro w hSw;go_simp
 refine zrr 5 (.pointer (some ⟨w.heap.size,5,none⟩)) rfl (by kernel_rfl) (by kernel_rfl) (by kernel_rfl) (fun _ _ _ h=>h) ?_ hH ?_
 ·intro w hSw;go_simp
 refine zrr 6 (.slice aO h.noted.length cO) rfl (by kernel_rfl) (by kernel_rfl) (by kernel_rfl) (fun _ _ _ h=>h) ?_ hH ?_
 ·intro w hSw;go_simp
 refine zrt (rs:=[0,4]) (by kernel_rfl) (by simp) ?_
 refine TilR.cons rfl (fun K hK=>?_) (TilR.cons rfl (fun K hK=>?_) TilR.nil)
 focus
  go_simp
  obtain ⟨V1,hV1⟩:∃V1,V1=V0.alloc (.cells #[] 3):=⟨_,rfl⟩
  rw [<-hV1]
  have hzV1:V1.heap.size<=V0.heap.size+1/\V0.heap.size+1<=V1.heap.size:=by rw [hV1];simp
  have hbV1:Below W0.heap.size W0 V1:=hV1 ▸ hbV0.alloc hbV0.size _
  have heV1:V1.ownsRow V0.heap.size 3 1 (.slice (some ⟨V0.heap.size,0,none⟩) 0 0) 0 []:=hV1 ▸ zjx V0 3 1
  have hdV1:Below V0.heap.size V0 V1:=hV1 ▸ (Below.refl _ _).alloc (Nat.le_refl _) _
  have hH:=fun (p:Addr) (hp:p.block<W0.heap.size)=>hbV1.cell hp
  refine hK.out _ _ (fun _ _=>hH) ?_
  clear hK hV1
  refine zrt (rs:=[3,4]) (by kernel_rfl) (by simp) ?_
  refine TilR.cons rfl (fun K hK=>?_) (TilR.cons rfl (fun K hK=>?_) TilR.nil)
  focus
   refine zrw V1 rfl (.tmp 3) (.tmp 5) rfl V0.heap.size (.slice (some ⟨V0.heap.size,0,none⟩) 0 0) [] rfl heV1 (· <B) (.slice aW h.words.length cW) h.words rfl (HSW.out.keptI (Kp.below (hbV1.mono HBS.out))) HL1.out (by omega) ?_
   intro va VA hoa hga hwa
   have hbVA:Below W0.heap.size W0 VA:=hbV1.grown hga hbV1.size (fun k e=>by cases e;show W0.heap.size<=V0.heap.size;omega)
   have hH:=fun (p:Addr) (hp:p.block<W0.heap.size)=>hbVA.cell hp
   have hsA:=hga.size
   refine hK.out _ _ (fun _ _=>hH) ?_
   clear hK
   refine zrs 8 (.pointer (some ⟨w.heap.size,0,none⟩)) rfl (by kernel_rfl) (by kernel_rfl) (fun _ _ _ h=>h) ?_ hH ?_
   ·intro w
    go_simp
   refine zrt (rs:=[4]) (by kernel_rfl) (by simp) ?_
   refine TilR.cons rfl (fun K hK=>?_) TilR.nil
   go_simp
   obtain ⟨VB,hVB⟩:∃VB,VB=VA.alloc (.cells #[] 3):=⟨_,rfl⟩
   rw [<-hVB]
   have hzVB:VB.heap.size<=VA.heap.size+1/\VA.heap.size+1<=VB.heap.size:=by rw [hVB];simp
   have hbVB:Below W0.heap.size W0 VB:=hVB ▸ hbVA.alloc hbVA.size _
   have heVB:VB.ownsRow VA.heap.size 3 1 (.slice (some ⟨VA.heap.size,0,none⟩) 0 0) 0 []:=hVB ▸ zjx VA 3 1
   have hdVB:Below VA.heap.size VA VB:=hVB ▸ (Below.refl _ _).alloc (Nat.le_refl _) _
   have hH:=fun (p:Addr) (hp:p.block<W0.heap.size)=>hbVB.cell hp
   refine hK.out _ _ (fun _ _=>hH) ?_
   clear hK hVB
   have ra:VB.ownsRow W0.heap.size 3 1 va h.words.length (intV h.words):=zhp (zhj hoa hdVB) (by omega)
   have rl:VB.ownsRow W0.heap.size 3 1 (.slice (some ⟨VA.heap.size,0,none⟩) 0 0) 0 []:=zhp heVB (by omega)
   have hab:∀k,va.ownBlock=some k->k≠VA.heap.size:=fun k e=>by have:=(hoa.lt k e).2;omega
   have hbV:=hbVB
   obtain ⟨LB,hLB⟩:∃LB,LB=VA.heap.size:=⟨_,rfl⟩
   rw [<-hLB]at rl hab
   rw [<-hLB]
   clear hwa hga hoa heVB hdVB heV1
  rotate_left
  focus
   go_simp
   obtain ⟨V2,hV2⟩:∃V2,V2=V1.alloc (.cells #[] 3):=⟨_,rfl⟩
   rw [<-hV2]
   have hzV2:V2.heap.size<=V1.heap.size+1/\V1.heap.size+1<=V2.heap.size:=by rw [hV2];simp
   have hbV2:Below W0.heap.size W0 V2:=hV2 ▸ hbV1.alloc hbV1.size _
   have heV2:V2.ownsRow V1.heap.size 3 1 (.slice (some ⟨V1.heap.size,0,none⟩) 0 0) 0 []:=hV2 ▸ zjx V1 3 1
   have hdV2:Below V1.heap.size V1 V2:=hV2 ▸ (Below.refl _ _).alloc (Nat.le_refl _) _
   have hH:=fun (p:Addr) (hp:p.block<W0.heap.size)=>hbV2.cell hp
   refine hK.out _ _ (fun _ _=>hH) ?_
   clear hK hV2
   refine zrt (rs:=[3]) (by kernel_rfl) (by simp) ?_
   refine TilR.cons rfl (fun K hK=>?_) TilR.nil
   refine zrw V2 rfl (.tmp 3) (.tmp 5) rfl V0.heap.size (.slice (some ⟨V0.heap.size,0,none⟩) 0 0) [] rfl (zhj heV1 hdV2) (· <B) (.slice aW h.words.length cW) h.words rfl (HSW.out.keptI (Kp.below (hbV2.mono HBS.out))) HL1.out (by omega) ?_
   intro va VA hoa hga hwa
   have hbVA:Below W0.heap.size W0 VA:=hbV2.grown hga hbV2.size (fun k e=>by cases e;show W0.heap.size<=V0.heap.size;omega)
   have hH:=fun (p:Addr) (hp:p.block<W0.heap.size)=>hbVA.cell hp
   have hsA:=hga.size
   refine hK.out _ _ (fun _ _=>hH) ?_
   clear hK
   refine zrs 8 (.pointer (some ⟨w.heap.size,0,none⟩)) rfl (by kernel_rfl) (by kernel_rfl) (fun _ _ _ h=>h) ?_ hH ?_
   ·intro w
    go_simp
   have ra:VA.ownsRow W0.heap.size 3 1 va h.words.length (intV h.words):=zhp hoa (by omega)
   have rl:VA.ownsRow W0.heap.size 3 1 (.slice (some ⟨V1.heap.size,0,none⟩) 0 0) 0 []:=zhp (heV2.kept hga (Or.inr (by simp [Value.ownBlock];omega))) (by omega)
   have hab:∀k,va.ownBlock=some k->k≠V1.heap.size:=fun k e=>by
    have hk:=(hoa.lt k e).2
    rcases hwa with q | q
    ·rw [q]at e;have e:V0.heap.size=k:=Option.some.inj e;omega
    rw [q]at e;have e:V2.heap.size=k:=Option.some.inj e;omega
   have hbV:=hbVA
   obtain ⟨LB,hLB⟩:∃LB,LB=V1.heap.size:=⟨_,rfl⟩
   rw [<-hLB]at rl hab
   rw [<-hLB]
  rotate_left
 rotate_left 2
 focus
  go_simp
  obtain ⟨V1,hV1⟩:∃V1,V1=V0.alloc (.cells #[] 3):=⟨_,rfl⟩
  rw [<-hV1]
  have hzV1:V1.heap.size<=V0.heap.size+1/\V0.heap.size+1<=V1.heap.size:=by rw [hV1];simp
  have hbV1:Below W0.heap.size W0 V1:=hV1 ▸ hbV0.alloc hbV0.size _
  have heV1:V1.ownsRow V0.heap.size 3 1 (.slice (some ⟨V0.heap.size,0,none⟩) 0 0) 0 []:=hV1 ▸ zjx V0 3 1
  have hdV1:Below V0.heap.size V0 V1:=hV1 ▸ (Below.refl _ _).alloc (Nat.le_refl _) _
  have hH:=fun (p:Addr) (hp:p.block<W0.heap.size)=>hbV1.cell hp
  refine hK.out _ _ (fun _ _=>hH) ?_
  clear hK hV1
  refine zrt (rs:=[0]) (by kernel_rfl) (by simp) ?_
  refine TilR.cons rfl (fun K hK=>?_) TilR.nil
  go_simp
  obtain ⟨V2,hV2⟩:∃V2,V2=V1.alloc (.cells #[] 3):=⟨_,rfl⟩
  rw [<-hV2]
  have hzV2:V2.heap.size<=V1.heap.size+1/\V1.heap.size+1<=V2.heap.size:=by rw [hV2];simp
  have hbV2:Below W0.heap.size W0 V2:=hV2 ▸ hbV1.alloc hbV1.size _
  have heV2:V2.ownsRow V1.heap.size 3 1 (.slice (some ⟨V1.heap.size,0,none⟩) 0 0) 0 []:=hV2 ▸ zjx V1 3 1
  have hdV2:Below V1.heap.size V1 V2:=hV2 ▸ (Below.refl _ _).alloc (Nat.le_refl _) _
  have hH:=fun (p:Addr) (hp:p.block<W0.heap.size)=>hbV2.cell hp
  refine hK.out _ _ (fun _ _=>hH) ?_
  clear hK hV2
  refine zrt (rs:=[3]) (by kernel_rfl) (by simp) ?_
  refine TilR.cons rfl (fun K hK=>?_) TilR.nil
  refine zrw V2 rfl (.tmp 3) (.tmp 5) rfl V1.heap.size (.slice (some ⟨V1.heap.size,0,none⟩) 0 0) [] rfl heV2 (· <B) (.slice aW h.words.length cW) h.words rfl (HSW.out.keptI (Kp.below (hbV2.mono HBS.out))) HL1.out (by omega) ?_
  intro va VA hoa hga hwa
  have hbVA:Below W0.heap.size W0 VA:=hbV2.grown hga hbV2.size (fun k e=>by cases e;show W0.heap.size<=V1.heap.size;omega)
  have hH:=fun (p:Addr) (hp:p.block<W0.heap.size)=>hbVA.cell hp
  have hsA:=hga.size
  refine hK.out _ _ (fun _ _=>hH) ?_
  clear hK
  refine zrs 8 (.pointer (some ⟨w.heap.size,0,none⟩)) rfl (by kernel_rfl) (by kernel_rfl) (fun _ _ _ h=>h) ?_ hH ?_
  ·intro w
   go_simp
  have ra:VA.ownsRow W0.heap.size 3 1 va h.words.length (intV h.words):=zhp hoa (by omega)
  have rl:VA.ownsRow W0.heap.size 3 1 (.slice (some ⟨V0.heap.size,0,none⟩) 0 0) 0 []:=zhp ((zhj heV1 hdV2).kept hga (Or.inr (by simp [Value.ownBlock];omega))) (by omega)
  have hab:∀k,va.ownBlock=some k->k≠V0.heap.size:=fun k e=>by
   have hk:=(hoa.lt k e).2
   rcases hwa with q | q
   ·rw [q]at e;have e:V1.heap.size=k:=Option.some.inj e;omega
   rw [q]at e;have e:V2.heap.size=k:=Option.some.inj e;omega
  have hbV:=hbVA
  obtain ⟨LB,hLB⟩:∃LB,LB=V0.heap.size:=⟨_,rfl⟩
  rw [<-hLB]at rl hab
  rw [<-hLB]
 all_goals
  refine zrt (rs:=[7]) (by kernel_rfl) (by simp) ?_
  refine TilR.cons rfl (fun K hK=>?_) TilR.nil
  refine zrw _ rfl (.tmp 7) (.tmp 9) rfl W0.heap.size (.slice (some ⟨LB,0,none⟩) 0 0) [] rfl rl (· <B) (.slice aO h.noted.length cO) h.noted rfl (HSO.out.keptI (Kp.below (hbV.mono HBS.out))) HL2.out hbV.size ?_
  intro vb VC hob hgb hwb
  have hLW:=(rl.lt LB rfl).1
  have hbC:Below W0.heap.size W0 VC:=hbV.grown hgb hbV.size (fun k e=>by cases e;exact hLW)
  have rc:VC.ownsRow W0.heap.size 3 1 va h.words.length (intV h.words):=ra.kept hgb (Or.inr fun e=>hab LB e rfl)
  have hov:OwnV w.heap.size VC va vb h:=⟨zhp rc (by omega),zhp hob (by omega),fun k e1 e2=>by
   have h1:=hab k e1
   have h2:=(ra.lt k e1).2
   rcases hwb with q | q
   ·rw [q]at e2;have e2:LB=k:=Option.some.inj e2;omega
   rw [q]at e2;have e2:=Option.some.inj e2;omega⟩
  have hva:∀k,va.ownBlock=some k->W0.heap.size<=k:=fun k e=>(rc.lt k e).1
  have hvb:∀k,vb.ownBlock=some k->W0.heap.size<=k:=fun k e=>(hob.lt k e).1
  obtain ⟨nW,dW,rfl⟩:=zfz rc
  obtain ⟨nO,dO,rfl⟩:=zfz hob
  refine hK.out _ _ (fun _ _ p hp=>hbC.cell hp) ?_
  have kb:=(hbC.block _ lk0).trans HK0.out
  have kr:=(hbC.block _ (lt0 HK1.out)).trans HK1.out
  clear hK hH ra rl hab hLB hbV hwb hgb hob rc
  refine zrt (rs:=[9]) (by kernel_rfl) (by simp) ?_
  refine TilR.cons rfl (fun K hK=>?_) TilR.nil
  have s0:=cl0 kb 0 (x:=.slice aW h.words.length cW) rfl
  have sz:=zcf kb 0
  have sl:=lt0 kb
  go_simp
  obtain ⟨VD,hVD⟩:∃VD,VD=VC.setCell ⟨w.heap.size,0,none⟩ (.slice nW h.words.length dW):=⟨_,rfl⟩
  rw [<-hVD]
  have kd:=zg6 kb (j:=0) (.slice nW h.words.length dW)
  rw [<-hVD]at kd
  have hgd:VC.grownBy VD (some w.heap.size):=hVD ▸ za8 (World.grownBy.refl _ _) _ _ (Or.inl rfl)
  refine hK.out _ _ (fun h=>absurd rfl h) ?_
  clear hK s0 sz sl hVD
  refine zrt (rs:=[10]) (by kernel_rfl) (by simp) ?_
  refine TilR.cons rfl (fun K hK=>?_) TilR.nil
  go_simp
  refine hK.out _ _ (fun _ h=>Bool.noConfusion (show true=false from h)) ?_
  clear hK
  refine zrt (rs:=[11]) (by kernel_rfl) (by simp) ?_
  refine TilR.cons rfl (fun K hK=>?_) TilR.nil
  have s5:=cl0 kd 5 (x:=.slice aO h.noted.length cO) rfl
  have sz:=zcf kd 5
  have sl:=lt0 kd
  go_simp
  obtain ⟨VE,hVE⟩:∃VE,VE=VD.setCell ⟨w.heap.size,5,none⟩ (.slice nO h.noted.length dO):=⟨_,rfl⟩
  rw [<-hVE]
  have ke:VE.heap[w.heap.size]? =some (.cells #[.slice nW h.words.length dW,.int .i64 h.young,.int .i64 h.old,.int .i64 h.ytop,.int .i64 h.otop,.slice nO h.noted.length dO,.int .i64 h.next] 24 (0,0)):=hVE ▸ zg6 kd (j:=5) (.slice nO h.noted.length dO)
  have hge:VC.grownBy VE (some w.heap.size):=hVE ▸ za8 hgd _ _ (Or.inl rfl)
  refine hK.out _ _ (fun _ h=>Bool.noConfusion (show true=false from h)) ?_
  clear hK s5 sz sl hVE kd hgd
  refine zru (by kernel_rfl) ?_ _
  try simp only [Act.put,List.setIfInBounds_toArray,List.set_cons_zero,List.set_cons_succ]
  have kz:VE.heap[w.heap.size+1]? =some (.cells #[.slice none 0 0,.int .i64 0,.int .i64 0,.int .i64 0,.int .i64 0,.slice none 0 0,.int .i64 0] 24 (0,0)):=(hge.block _ (lt0 kr) (by simp)).trans kr
  have hov2:OwnV w.heap.size VE (.slice nW h.words.length dW) (.slice nO h.noted.length dO) h:=hov.grown hge (fun e=>by have:=hva _ e;omega) (fun e=>by have:=hvb _ e;omega)
  have hBE:Below w.heap.size w VE:=bg0 (HB0.out.trans (hbC.mono HB0.out.size)) hge (Nat.le_refl _)
  obtain ⟨W9,h9,hgS,hq,hr,rz,rl⟩:=setN (zs:=[.slice none 0 0,.int .i64 0,.int .i64 0,.int .i64 0,.int .i64 0,.slice none 0 0,.int .i64 0]) kz [.slice nW h.words.length dW,.int .i64 h.young,.int .i64 h.old,.int .i64 h.ytop,.int .i64 h.otop,.slice nO h.noted.length dO,.int .i64 h.next] rfl
  have r0:=hr 0 _ rfl
  have r1:=hr 1 _ rfl
  have r2:=hr 2 _ rfl
  have r3:=hr 3 _ rfl
  have r4:=hr 4 _ rfl
  have r5:=hr 5 _ rfl
  have r6:=hr 6 _ rfl
  have q0:=hq 0 _ rfl
  have q1:=hq 1 _ rfl
  have q2:=hq 2 _ rfl
  have q3:=hq 3 _ rfl
  have q4:=hq 4 _ rfl
  have q5:=hq 5 _ rfl
  have q6:=hq 6 _ rfl
  have hw9:=hgS.size
  have HB9:=mk0 (bg0 (hBE) hgS (by omega))
  have HG9:=mk0 hgS
  simp only [setL,Nat.reduceAdd]at h9
  have H9:=mk0 h9
  clear hgS hq hr h9
  obtain ⟨u0,u1,u2,u3,u4,u5,u6,uz,ul⟩:=cells7 ke
  have HOF:=mk0 (hov2.grown HG9.out (fun e=>by have:=hva _ e;omega) (fun e=>by have:=hvb _ e;omega))
  have h9v:=H9.out
  clear H9 hov hov2 hva hvb ke kz kr kb hge hbC hBE
  go_wp2_with fail
  exact bodyPost_ret (v:=.agg #[.slice nW h.words.length dW,.int .i64 h.young,.int .i64 h.old,.int .i64 h.ytop,.int .i64 h.otop,.slice nO h.noted.length dO,.int .i64 h.next]) (by simp [results,Tryz.results61,go_sem,q0,q1,q2,q3,q4,q5,q6]) rfl ⟨HB9.out,nW,dW,nO,dO,rfl,HOF.out⟩
end Go.Proofs.YtjdnmblggdobgaaGreat
