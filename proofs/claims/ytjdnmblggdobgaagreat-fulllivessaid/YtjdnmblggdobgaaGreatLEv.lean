import Derived.Test.YtjdnmblggdobgaaGreatJTk2Dies
import Derived.Test.YtjdnmblggdobgaaGreatLMem
set_option maxHeartbeats 1000000
namespace Go.Proofs.YtjdnmblggdobgaaGreat
open Go.RowKit
def idx {α:Type} (p:α->Bool) (l:List α):Int:=match l.findIdx? p with | some i=>(i:Int) | none=>-1
theorem zch {α:Type} {p:α->Bool} {l:List α} {k:Nat} (hk:k<l.length) (h:∀x∈l.take k,p x=false) (hp:p l[k]=true):idx p l=k:=by
 have:l.findIdx? p=some k:=by
  rw [List.findIdx?_eq_some_iff_getElem]
  refine ⟨hk,hp,fun j hj=>?_⟩
  have:=h l[j] (by rw [List.mem_take_iff_getElem];exact ⟨j,by omega,rfl⟩)
  simp [this]
 simp [idx,this]
theorem zci {α:Type} {p:α->Bool} {l:List α} (h:∀x∈l,p x=false):idx p l= -1:=by
 have:l.findIdx? p=none:=by
  rw [List.findIdx?_eq_none_iff]
  exact h
 simp [idx,this]
theorem zcj {α:Type} (p:α->Bool) (l:List α):decide (0<=idx p l)=l.any p:=by
 unfold idx
 cases h:l.findIdx? p with
 | none=>
   rw [List.findIdx?_eq_none_iff]at h
   have:l.any p=false:=by rw [List.any_eq_false];intro x hx;simp [h x hx]
   rw [this]
   rfl
 | some i=>
   have hs:=List.findIdx?_eq_some_iff_getElem.1 h
   obtain ⟨hi,hp,_⟩:=hs
   have:l.any p=true:=List.any_eq_true.2 ⟨_,List.getElem_mem hi,hp⟩
   rw [this]
   simp
theorem zck {α:Type} {p:α->Bool} {l:List α} {k:Nat} (hk:k<l.length) (h:∀x∈l.take k,p x=false) (hp:p l[k]=false):∀x∈l.take (k+1),p x=false:=by
 intro x hx
 rw [List.take_succ_eq_append_getElem hk]at hx
 rcases List.mem_append.1 hx with hx | hx
 ·
  exact h x hx
 rw [List.mem_singleton]at hx
 rw [hx,hp]
theorem zcl {α:Type} (p:α->Bool) (l:List α):(!l.any fun x=>!p x)=l.all p:=by
 induction l with
 | nil=>rfl
 | cons x l ih=>rw [List.any_cons,List.all_cons,<-ih];cases p x<;>simp
def ElC (B:Nat) (w:World) (u:Value) (x:ClassD):Prop:=∃fo cf mo cm,u=.agg #[.string x.name,.string x.super,.slice fo x.fields.length cf,.slice mo x.meths.length cm]/\SL 3 RF (· <B) w (.slice fo x.fields.length cf) x.fields/\SL 9 RM (· <B) w (.slice mo x.meths.length cm) x.meths/\x.name.size<=maxLen/\x.super.size<=maxLen
theorem ElC.below {B:Nat} {w w':World} {u:Value} {x:ClassD} (h:ElC B w u x) (hb:Below B w w'):ElC B w' u x:=by
 obtain ⟨fo,cf,mo,cm,rfl,ef,em,es1,es2⟩:=h
 exact ⟨fo,cf,mo,cm,rfl,ef.keptF (Kp.below hb),em.keptM (Kp.below hb),es1,es2⟩
theorem zcm (w:World) (B:Nat) (v:Value) (l:List (ClassD)) (hv:SL 4 RC (· <B) w v l) (hB:B<=w.heap.size) (g:Nat) (cap:Array Value) (p:ClassD->Bool) (hcf:∀args w,(callFunc g args).run Tryz.prog w=.ok (.enter g args) w)
 (hc:∀x∈l,∀u W,Below w.heap.size w W->ElC B W u x->Calls Tryz.prog g (#[u]++cap) W fun r W'=>r=.returned (.bool (p x))/\Below W.heap.size W W'):
 Calls Tryz.prog 318 #[v,.func (.func g) #[] cap] w fun r w'=>r=.returned (.int .i64 (idx p l))/\Below w.heap.size w w':=by
 have HV:=mk0 hv
 obtain ⟨ao0,cl,rfl,-,hll,-⟩:=hv
 unfold maxLen at hll
 have HC:=mk0 hc
 clear hc
 go_enter Tryz.func318,Tryz.ntmps318
 go_wp2_with fail
 go_loopw [8] (fun i wr=>∃k:Nat,k<=l.length/\i=.int .i64 k/\Hid (∀x∈l.take k,p x=false)/\Below w.heap.size w wr) (fun i _=>l.length - (intOf i).toNat)
 case atStart=>exact ⟨0,Nat.zero_le _,rfl,(fun x hx=>by cases hx),Below.refl _ _⟩
 case round=>
  obtain ⟨k,hk,rfl,HP,hBr⟩:=hrel
  by_cases hlt:k<l.length
  ·
   obtain ⟨b,off,vf,vm,rfl,hb,e0,e1,e2,e3,ef,em,es1,es2⟩:=(HV.out.keptC (Kp.below (hBr.mono hB))).atC k hlt
   have EF:=mk0 ef
   have EM:=mk0 em
   obtain ⟨fo,cf,rfl,-⟩:=ef
   obtain ⟨mo,cm,rfl,-⟩:=em
   have hcall:=HC.out l[k] (List.getElem_mem hlt) _ _ hBr ⟨fo,cf,mo,cm,rfl,EF.out,EM.out,es1,es2⟩
   have HCALL:=mk0 hcall
   clear hcall
   go_wp2_with fail
   refine HCALL.out.mono ?_
   rintro r w2 ⟨rfl,hb2⟩
   have hB2:=hBr.trans (hb2.mono hBr.size)
   clear hb2 HCALL
   cases hp:p l[k]
   ·
    have HX:=mk0 (zck hlt HP.out hp)
    clear hp
    go_wp2_with fail
    go_roundw
    case rel=>exact ⟨k+1,by omega,by go_num,HX.out,hB2⟩
    case measure=>simp [intOf];omega
   have HX:=mk0 (zch hlt HP.out hp)
   clear hp
   go_wp2_with fail
   go_ret
   exact ⟨by rw [HX.out];rfl,hB2⟩
  have HX:Hid (idx p l= -1):=zci (by have:=HP.out;rwa [List.take_of_length_le (by omega)]at this)
  go_wp2_with fail
  go_ret
  exact ⟨by rw [HX.out];rfl,hBr⟩
theorem zcn (w:World) (B:Nat) (v:Value) (l:List (ClassD)) (hv:SL 4 RC (· <B) w v l) (hB:B<=w.heap.size) (g:Nat) (cap:Array Value) (p:ClassD->Bool) (hcf:∀args w,(callFunc g args).run Tryz.prog w=.ok (.enter g args) w)
 (hc:∀x∈l,∀u W,Below w.heap.size w W->ElC B W u x->Calls Tryz.prog g (#[u]++cap) W fun r W'=>r=.returned (.bool (p x))/\Below W.heap.size W W'):
 Calls Tryz.prog 286 #[v,.func (.func g) #[] cap] w fun r w'=>r=.returned (.bool (l.any p))/\Below w.heap.size w w':=by
 have hcc:=zcm w B v l hv hB g cap p hcf hc
 have HC:=mk0 hcc
 clear hcc hc
 have HI:=mk0 (zcj p l)
 obtain ⟨ao0,cl,rfl,-⟩:=hv
 go_enter Tryz.func286,Tryz.ntmps286
 go_wp2_with fail
 refine HC.out.mono ?_
 rintro r w1 ⟨rfl,hb⟩
 go_wp2_with fail
 go_ret
 exact ⟨by rw [<-HI.out];rfl,hb⟩
theorem zco (W:World) (B:Nat) (P:Nat) (g:Nat) (first cap:Array Value) (x:ClassD) (u:Value) (b:Bool) (hu:ElC B W u x) (hP:W.cell? ⟨P,0,none⟩=some (.func (.func g) first cap)) (hcf:∀args w,(callFunc g args).run Tryz.prog w=.ok (.enter g args) w)
 (hc:∀W',Below W.heap.size W W'->Calls Tryz.prog g (first++#[u]++cap) W' fun r W2=>r=.returned (.bool b)/\Below W'.heap.size W' W2):
 Calls Tryz.prog 287 #[u,.pointer (some ⟨P,0,none⟩)] W fun r W'=>r=.returned (.bool (!b))/\Below W.heap.size W W':=by
 have hPl:=World.block_lt_of_cell? W _ hP
 have HC:=mk0 hc
 clear hc
 obtain ⟨fo,cf,mo,cm,rfl,ef,em,es1,es2⟩:=hu
 go_enter Tryz.func287,Tryz.ntmps287
 go_wp2_with fail
 have hB0:∀o,Below W.heap.size W (W.alloc o):=fun o=>(Below.refl _ _).alloc (Nat.le_refl _) o
 refine (HC.out _ (by first | exact hB0 _ | exact Below.refl _ _)).mono ?_
 rintro r W2 ⟨rfl,hb⟩
 have hb2:Below W.heap.size W W2:=by first | exact (hB0 _).trans (hb.mono (by simp)) | exact hb
 clear hb hB0
 go_wp2_with fail
 go_ret
 exact ⟨rfl,hb2⟩
theorem zcp (w:World) (B:Nat) (v:Value) (l:List (ClassD)) (hv:SL 4 RC (· <B) w v l) (hB:B<=w.heap.size) (g:Nat) (first cap:Array Value) (p:ClassD->Bool) (hcf:∀args w,(callFunc g args).run Tryz.prog w=.ok (.enter g args) w)
 (hc:∀x∈l,∀u W,Below w.heap.size w W->ElC B W u x->Calls Tryz.prog g (first++#[u]++cap) W fun r W'=>r=.returned (.bool (p x))/\Below W.heap.size W W'):
 Calls Tryz.prog 236 #[v,.func (.func g) first cap] w fun r w'=>r=.returned (.bool (l.all p))/\Below w.heap.size w w':=by
 have hmf:=mkf Tryz.prog
 have HV:=mk0 hv
 obtain ⟨ao0,cl,rfl,-⟩:=hv
 have HC:=mk0 hc
 have HCF:=mk0 hcf
 clear hc hcf
 have hB0:∀o,Below w.heap.size w (w.alloc o):=fun o=>(Below.refl _ _).alloc (Nat.le_refl _) o
 have HB0:=mk0 hB0
 clear hB0
 go_enter Tryz.func236,Tryz.ntmps236
 go_wp2_with fail
 refine (zcn _ B _ l (HV.out.keptC (Kp.below ((HB0.out _).mono hB))) (by simp;omega) 287 _ (fun x=>!p x) (fun args w=>by kernel_rfl) ?_).mono ?_
 ·
  intro x hx u W hW hu
  have hBW:Below w.heap.size w W:=(HB0.out _).trans (hW.mono (by simp))
  refine zco W B w.heap.size g first cap x u (p x) hu ((hW.cell (p:=⟨w.heap.size,0,none⟩) (by simp)).trans (by simp [go_sem])) HCF.out ?_
  intro W' hW'
  exact HC.out x hx u W' (hBW.trans (hW'.mono hBW.size)) (hu.below (hW'.mono (Nat.le_trans hB hBW.size)))
 rintro r w1 ⟨rfl,hb⟩
 have hb2:Below w.heap.size w w1:=(HB0.out _).trans (hb.mono (by simp))
 have HA:=mk0 (zcl p l)
 clear hb
 go_wp2_with fail
 go_ret
 exact ⟨by rw [<-HA.out];rfl,hb2⟩
def ElF (_:Nat) (_:World) (u:Value) (x:FieldD):Prop:=u=.agg #[.string x.name,.int .i64 x.kind.kind,.string x.kind.cls]/\x.name.size<=maxLen/\x.kind.cls.size<=maxLen
theorem ElF.below {B:Nat} {w w':World} {u:Value} {x:FieldD} (h:ElF B w u x) (_:Below B w w'):ElF B w' u x:=by
 obtain ⟨rfl,es1,es2⟩:=h
 exact ⟨rfl,es1,es2⟩
theorem zcq (w:World) (B:Nat) (v:Value) (l:List (FieldD)) (hv:SL 3 RF (· <B) w v l) (hB:B<=w.heap.size) (g:Nat) (cap:Array Value) (p:FieldD->Bool) (hcf:∀args w,(callFunc g args).run Tryz.prog w=.ok (.enter g args) w)
 (hc:∀x∈l,∀u W,Below w.heap.size w W->ElF B W u x->Calls Tryz.prog g (#[u]++cap) W fun r W'=>r=.returned (.bool (p x))/\Below W.heap.size W W'):
 Calls Tryz.prog 320 #[v,.func (.func g) #[] cap] w fun r w'=>r=.returned (.int .i64 (idx p l))/\Below w.heap.size w w':=by
 have HV:=mk0 hv
 obtain ⟨ao0,cl,rfl,-,hll,-⟩:=hv
 unfold maxLen at hll
 have HC:=mk0 hc
 clear hc
 go_enter Tryz.func320,Tryz.ntmps320
 go_wp2_with fail
 go_loopw [8] (fun i wr=>∃k:Nat,k<=l.length/\i=.int .i64 k/\Hid (∀x∈l.take k,p x=false)/\Below w.heap.size w wr) (fun i _=>l.length - (intOf i).toNat)
 case atStart=>exact ⟨0,Nat.zero_le _,rfl,(fun x hx=>by cases hx),Below.refl _ _⟩
 case round=>
  obtain ⟨k,hk,rfl,HP,hBr⟩:=hrel
  by_cases hlt:k<l.length
  ·
   obtain ⟨b,off,rfl,hb,e0,e1,e2,es1,es2⟩:=(HV.out.keptF (Kp.below (hBr.mono hB))).atF k hlt
   have hcall:=HC.out l[k] (List.getElem_mem hlt) _ _ hBr ⟨rfl,es1,es2⟩
   have HCALL:=mk0 hcall
   clear hcall
   go_wp2_with fail
   refine HCALL.out.mono ?_
   rintro r w2 ⟨rfl,hb2⟩
   have hB2:=hBr.trans (hb2.mono hBr.size)
   clear hb2 HCALL
   cases hp:p l[k]
   ·
    have HX:=mk0 (zck hlt HP.out hp)
    clear hp
    go_wp2_with fail
    go_roundw
    case rel=>exact ⟨k+1,by omega,by go_num,HX.out,hB2⟩
    case measure=>simp [intOf];omega
   have HX:=mk0 (zch hlt HP.out hp)
   clear hp
   go_wp2_with fail
   go_ret
   exact ⟨by rw [HX.out];rfl,hB2⟩
  have HX:Hid (idx p l= -1):=zci (by have:=HP.out;rwa [List.take_of_length_le (by omega)]at this)
  go_wp2_with fail
  go_ret
  exact ⟨by rw [HX.out];rfl,hBr⟩
theorem zcr (w:World) (B:Nat) (v:Value) (l:List (FieldD)) (hv:SL 3 RF (· <B) w v l) (hB:B<=w.heap.size) (g:Nat) (cap:Array Value) (p:FieldD->Bool) (hcf:∀args w,(callFunc g args).run Tryz.prog w=.ok (.enter g args) w)
 (hc:∀x∈l,∀u W,Below w.heap.size w W->ElF B W u x->Calls Tryz.prog g (#[u]++cap) W fun r W'=>r=.returned (.bool (p x))/\Below W.heap.size W W'):
 Calls Tryz.prog 290 #[v,.func (.func g) #[] cap] w fun r w'=>r=.returned (.bool (l.any p))/\Below w.heap.size w w':=by
 have hcc:=zcq w B v l hv hB g cap p hcf hc
 have HC:=mk0 hcc
 clear hcc hc
 have HI:=mk0 (zcj p l)
 obtain ⟨ao0,cl,rfl,-⟩:=hv
 go_enter Tryz.func290,Tryz.ntmps290
 go_wp2_with fail
 refine HC.out.mono ?_
 rintro r w1 ⟨rfl,hb⟩
 go_wp2_with fail
 go_ret
 exact ⟨by rw [<-HI.out];rfl,hb⟩
theorem zcs (W:World) (B:Nat) (P:Nat) (g:Nat) (first cap:Array Value) (x:FieldD) (u:Value) (b:Bool) (hu:ElF B W u x) (hP:W.cell? ⟨P,0,none⟩=some (.func (.func g) first cap)) (hcf:∀args w,(callFunc g args).run Tryz.prog w=.ok (.enter g args) w)
 (hc:∀W',Below W.heap.size W W'->Calls Tryz.prog g (first++#[u]++cap) W' fun r W2=>r=.returned (.bool b)/\Below W'.heap.size W' W2):
 Calls Tryz.prog 291 #[u,.pointer (some ⟨P,0,none⟩)] W fun r W'=>r=.returned (.bool (!b))/\Below W.heap.size W W':=by
 have hPl:=World.block_lt_of_cell? W _ hP
 have HC:=mk0 hc
 clear hc
 obtain ⟨rfl,es1,es2⟩:=hu
 go_enter Tryz.func291,Tryz.ntmps291
 go_wp2_with fail
 have hB0:∀o,Below W.heap.size W (W.alloc o):=fun o=>(Below.refl _ _).alloc (Nat.le_refl _) o
 refine (HC.out _ (by first | exact hB0 _ | exact Below.refl _ _)).mono ?_
 rintro r W2 ⟨rfl,hb⟩
 have hb2:Below W.heap.size W W2:=by first | exact (hB0 _).trans (hb.mono (by simp)) | exact hb
 clear hb hB0
 go_wp2_with fail
 go_ret
 exact ⟨rfl,hb2⟩
theorem zct (w:World) (B:Nat) (v:Value) (l:List (FieldD)) (hv:SL 3 RF (· <B) w v l) (hB:B<=w.heap.size) (g:Nat) (first cap:Array Value) (p:FieldD->Bool) (hcf:∀args w,(callFunc g args).run Tryz.prog w=.ok (.enter g args) w)
 (hc:∀x∈l,∀u W,Below w.heap.size w W->ElF B W u x->Calls Tryz.prog g (first++#[u]++cap) W fun r W'=>r=.returned (.bool (p x))/\Below W.heap.size W W'):
 Calls Tryz.prog 242 #[v,.func (.func g) first cap] w fun r w'=>r=.returned (.bool (l.all p))/\Below w.heap.size w w':=by
 have hmf:=mkf Tryz.prog
 have HV:=mk0 hv
 obtain ⟨ao0,cl,rfl,-⟩:=hv
 have HC:=mk0 hc
 have HCF:=mk0 hcf
 clear hc hcf
 have hB0:∀o,Below w.heap.size w (w.alloc o):=fun o=>(Below.refl _ _).alloc (Nat.le_refl _) o
 have HB0:=mk0 hB0
 clear hB0
 go_enter Tryz.func242,Tryz.ntmps242
 go_wp2_with fail
 refine (zcr _ B _ l (HV.out.keptF (Kp.below ((HB0.out _).mono hB))) (by simp;omega) 291 _ (fun x=>!p x) (fun args w=>by kernel_rfl) ?_).mono ?_
 ·
  intro x hx u W hW hu
  have hBW:Below w.heap.size w W:=(HB0.out _).trans (hW.mono (by simp))
  refine zcs W B w.heap.size g first cap x u (p x) hu ((hW.cell (p:=⟨w.heap.size,0,none⟩) (by simp)).trans (by simp [go_sem])) HCF.out ?_
  intro W' hW'
  exact HC.out x hx u W' (hBW.trans (hW'.mono hBW.size)) (hu.below (hW'.mono (Nat.le_trans hB hBW.size)))
 rintro r w1 ⟨rfl,hb⟩
 have hb2:Below w.heap.size w w1:=(HB0.out _).trans (hb.mono (by simp))
 have HA:=mk0 (zcl p l)
 clear hb
 go_wp2_with fail
 go_ret
 exact ⟨by rw [<-HA.out];rfl,hb2⟩
def ElK (_:Nat) (_:World) (u:Value) (x:KindD):Prop:=u=.agg #[.int .i64 x.kind,.string x.cls]/\x.cls.size<=maxLen
theorem ElK.below {B:Nat} {w w':World} {u:Value} {x:KindD} (h:ElK B w u x) (_:Below B w w'):ElK B w' u x:=by
 obtain ⟨rfl,es1⟩:=h
 exact ⟨rfl,es1⟩
theorem zcu (w:World) (B:Nat) (v:Value) (l:List (KindD)) (hv:SL 2 RK (· <B) w v l) (hB:B<=w.heap.size) (g:Nat) (cap:Array Value) (p:KindD->Bool) (hcf:∀args w,(callFunc g args).run Tryz.prog w=.ok (.enter g args) w)
 (hc:∀x∈l,∀u W,Below w.heap.size w W->ElK B W u x->Calls Tryz.prog g (#[u]++cap) W fun r W'=>r=.returned (.bool (p x))/\Below W.heap.size W W'):
 Calls Tryz.prog 330 #[v,.func (.func g) #[] cap] w fun r w'=>r=.returned (.int .i64 (idx p l))/\Below w.heap.size w w':=by
 have HV:=mk0 hv
 obtain ⟨ao0,cl,rfl,-,hll,-⟩:=hv
 unfold maxLen at hll
 have HC:=mk0 hc
 clear hc
 go_enter Tryz.func330,Tryz.ntmps330
 go_wp2_with fail
 go_loopw [8] (fun i wr=>∃k:Nat,k<=l.length/\i=.int .i64 k/\Hid (∀x∈l.take k,p x=false)/\Below w.heap.size w wr) (fun i _=>l.length - (intOf i).toNat)
 case atStart=>exact ⟨0,Nat.zero_le _,rfl,(fun x hx=>by cases hx),Below.refl _ _⟩
 case round=>
  obtain ⟨k,hk,rfl,HP,hBr⟩:=hrel
  by_cases hlt:k<l.length
  ·
   obtain ⟨b,off,rfl,hb,e0,e1,es1⟩:=(HV.out.keptK (Kp.below (hBr.mono hB))).atK k hlt
   have hcall:=HC.out l[k] (List.getElem_mem hlt) _ _ hBr ⟨rfl,es1⟩
   have HCALL:=mk0 hcall
   clear hcall
   go_wp2_with fail
   refine HCALL.out.mono ?_
   rintro r w2 ⟨rfl,hb2⟩
   have hB2:=hBr.trans (hb2.mono hBr.size)
   clear hb2 HCALL
   cases hp:p l[k]
   ·
    have HX:=mk0 (zck hlt HP.out hp)
    clear hp
    go_wp2_with fail
    go_roundw
    case rel=>exact ⟨k+1,by omega,by go_num,HX.out,hB2⟩
    case measure=>simp [intOf];omega
   have HX:=mk0 (zch hlt HP.out hp)
   clear hp
   go_wp2_with fail
   go_ret
   exact ⟨by rw [HX.out];rfl,hB2⟩
  have HX:Hid (idx p l= -1):=zci (by have:=HP.out;rwa [List.take_of_length_le (by omega)]at this)
  go_wp2_with fail
  go_ret
  exact ⟨by rw [HX.out];rfl,hBr⟩
theorem zcv (w:World) (B:Nat) (v:Value) (l:List (KindD)) (hv:SL 2 RK (· <B) w v l) (hB:B<=w.heap.size) (g:Nat) (cap:Array Value) (p:KindD->Bool) (hcf:∀args w,(callFunc g args).run Tryz.prog w=.ok (.enter g args) w)
 (hc:∀x∈l,∀u W,Below w.heap.size w W->ElK B W u x->Calls Tryz.prog g (#[u]++cap) W fun r W'=>r=.returned (.bool (p x))/\Below W.heap.size W W'):
 Calls Tryz.prog 321 #[v,.func (.func g) #[] cap] w fun r w'=>r=.returned (.bool (l.any p))/\Below w.heap.size w w':=by
 have hcc:=zcu w B v l hv hB g cap p hcf hc
 have HC:=mk0 hcc
 clear hcc hc
 have HI:=mk0 (zcj p l)
 obtain ⟨ao0,cl,rfl,-⟩:=hv
 go_enter Tryz.func321,Tryz.ntmps321
 go_wp2_with fail
 refine HC.out.mono ?_
 rintro r w1 ⟨rfl,hb⟩
 go_wp2_with fail
 go_ret
 exact ⟨by rw [<-HI.out];rfl,hb⟩
theorem zcw (W:World) (B:Nat) (P:Nat) (g:Nat) (first cap:Array Value) (x:KindD) (u:Value) (b:Bool) (hu:ElK B W u x) (hP:W.cell? ⟨P,0,none⟩=some (.func (.func g) first cap)) (hcf:∀args w,(callFunc g args).run Tryz.prog w=.ok (.enter g args) w)
 (hc:∀W',Below W.heap.size W W'->Calls Tryz.prog g (first++#[u]++cap) W' fun r W2=>r=.returned (.bool b)/\Below W'.heap.size W' W2):
 Calls Tryz.prog 322 #[u,.pointer (some ⟨P,0,none⟩)] W fun r W'=>r=.returned (.bool (!b))/\Below W.heap.size W W':=by
 have hPl:=World.block_lt_of_cell? W _ hP
 have HC:=mk0 hc
 clear hc
 obtain ⟨rfl,es1⟩:=hu
 go_enter Tryz.func322,Tryz.ntmps322
 go_wp2_with fail
 have hB0:∀o,Below W.heap.size W (W.alloc o):=fun o=>(Below.refl _ _).alloc (Nat.le_refl _) o
 refine (HC.out _ (by first | exact hB0 _ | exact Below.refl _ _)).mono ?_
 rintro r W2 ⟨rfl,hb⟩
 have hb2:Below W.heap.size W W2:=by first | exact (hB0 _).trans (hb.mono (by simp)) | exact hb
 clear hb hB0
 go_wp2_with fail
 go_ret
 exact ⟨rfl,hb2⟩
theorem zcx (w:World) (B:Nat) (v:Value) (l:List (KindD)) (hv:SL 2 RK (· <B) w v l) (hB:B<=w.heap.size) (g:Nat) (first cap:Array Value) (p:KindD->Bool) (hcf:∀args w,(callFunc g args).run Tryz.prog w=.ok (.enter g args) w)
 (hc:∀x∈l,∀u W,Below w.heap.size w W->ElK B W u x->Calls Tryz.prog g (first++#[u]++cap) W fun r W'=>r=.returned (.bool (p x))/\Below W.heap.size W W'):
 Calls Tryz.prog 292 #[v,.func (.func g) first cap] w fun r w'=>r=.returned (.bool (l.all p))/\Below w.heap.size w w':=by
 have hmf:=mkf Tryz.prog
 have HV:=mk0 hv
 obtain ⟨ao0,cl,rfl,-⟩:=hv
 have HC:=mk0 hc
 have HCF:=mk0 hcf
 clear hc hcf
 have hB0:∀o,Below w.heap.size w (w.alloc o):=fun o=>(Below.refl _ _).alloc (Nat.le_refl _) o
 have HB0:=mk0 hB0
 clear hB0
 go_enter Tryz.func292,Tryz.ntmps292
 go_wp2_with fail
 refine (zcv _ B _ l (HV.out.keptK (Kp.below ((HB0.out _).mono hB))) (by simp;omega) 322 _ (fun x=>!p x) (fun args w=>by kernel_rfl) ?_).mono ?_
 ·
  intro x hx u W hW hu
  have hBW:Below w.heap.size w W:=(HB0.out _).trans (hW.mono (by simp))
  refine zcw W B w.heap.size g first cap x u (p x) hu ((hW.cell (p:=⟨w.heap.size,0,none⟩) (by simp)).trans (by simp [go_sem])) HCF.out ?_
  intro W' hW'
  exact HC.out x hx u W' (hBW.trans (hW'.mono hBW.size)) (hu.below (hW'.mono (Nat.le_trans hB hBW.size)))
 rintro r w1 ⟨rfl,hb⟩
 have hb2:Below w.heap.size w w1:=(HB0.out _).trans (hb.mono (by simp))
 have HA:=mk0 (zcl p l)
 clear hb
 go_wp2_with fail
 go_ret
 exact ⟨by rw [<-HA.out];rfl,hb2⟩
def ElH (_:Nat) (_:World) (u:Value) (x:HandD):Prop:=u=.agg #[.int .i64 x.frm,.int .i64 x.upto,.int .i64 x.loc,.string x.cls]/\x.cls.size<=maxLen
theorem ElH.below {B:Nat} {w w':World} {u:Value} {x:HandD} (h:ElH B w u x) (_:Below B w w'):ElH B w' u x:=by
 obtain ⟨rfl,es1⟩:=h
 exact ⟨rfl,es1⟩
theorem zcy (w:World) (B:Nat) (v:Value) (l:List (HandD)) (hv:SL 4 RH (· <B) w v l) (hB:B<=w.heap.size) (g:Nat) (cap:Array Value) (p:HandD->Bool) (hcf:∀args w,(callFunc g args).run Tryz.prog w=.ok (.enter g args) w)
 (hc:∀x∈l,∀u W,Below w.heap.size w W->ElH B W u x->Calls Tryz.prog g (#[u]++cap) W fun r W'=>r=.returned (.bool (p x))/\Below W.heap.size W W'):
 Calls Tryz.prog 331 #[v,.func (.func g) #[] cap] w fun r w'=>r=.returned (.int .i64 (idx p l))/\Below w.heap.size w w':=by
 have HV:=mk0 hv
 obtain ⟨ao0,cl,rfl,-,hll,-⟩:=hv
 unfold maxLen at hll
 have HC:=mk0 hc
 clear hc
 go_enter Tryz.func331,Tryz.ntmps331
 go_wp2_with fail
 go_loopw [8] (fun i wr=>∃k:Nat,k<=l.length/\i=.int .i64 k/\Hid (∀x∈l.take k,p x=false)/\Below w.heap.size w wr) (fun i _=>l.length - (intOf i).toNat)
 case atStart=>exact ⟨0,Nat.zero_le _,rfl,(fun x hx=>by cases hx),Below.refl _ _⟩
 case round=>
  obtain ⟨k,hk,rfl,HP,hBr⟩:=hrel
  by_cases hlt:k<l.length
  ·
   obtain ⟨b,off,rfl,hb,e0,e1,e2,e3,es1⟩:=(HV.out.keptH (Kp.below (hBr.mono hB))).atH k hlt
   have hcall:=HC.out l[k] (List.getElem_mem hlt) _ _ hBr ⟨rfl,es1⟩
   have HCALL:=mk0 hcall
   clear hcall
   go_wp2_with fail
   refine HCALL.out.mono ?_
   rintro r w2 ⟨rfl,hb2⟩
   have hB2:=hBr.trans (hb2.mono hBr.size)
   clear hb2 HCALL
   cases hp:p l[k]
   ·
    have HX:=mk0 (zck hlt HP.out hp)
    clear hp
    go_wp2_with fail
    go_roundw
    case rel=>exact ⟨k+1,by omega,by go_num,HX.out,hB2⟩
    case measure=>simp [intOf];omega
   have HX:=mk0 (zch hlt HP.out hp)
   clear hp
   go_wp2_with fail
   go_ret
   exact ⟨by rw [HX.out];rfl,hB2⟩
  have HX:Hid (idx p l= -1):=zci (by have:=HP.out;rwa [List.take_of_length_le (by omega)]at this)
  go_wp2_with fail
  go_ret
  exact ⟨by rw [HX.out];rfl,hBr⟩
theorem zcz (w:World) (B:Nat) (v:Value) (l:List (HandD)) (hv:SL 4 RH (· <B) w v l) (hB:B<=w.heap.size) (g:Nat) (cap:Array Value) (p:HandD->Bool) (hcf:∀args w,(callFunc g args).run Tryz.prog w=.ok (.enter g args) w)
 (hc:∀x∈l,∀u W,Below w.heap.size w W->ElH B W u x->Calls Tryz.prog g (#[u]++cap) W fun r W'=>r=.returned (.bool (p x))/\Below W.heap.size W W'):
 Calls Tryz.prog 324 #[v,.func (.func g) #[] cap] w fun r w'=>r=.returned (.bool (l.any p))/\Below w.heap.size w w':=by
 have hcc:=zcy w B v l hv hB g cap p hcf hc
 have HC:=mk0 hcc
 clear hcc hc
 have HI:=mk0 (zcj p l)
 obtain ⟨ao0,cl,rfl,-⟩:=hv
 go_enter Tryz.func324,Tryz.ntmps324
 go_wp2_with fail
 refine HC.out.mono ?_
 rintro r w1 ⟨rfl,hb⟩
 go_wp2_with fail
 go_ret
 exact ⟨by rw [<-HI.out];rfl,hb⟩
theorem zc0 (W:World) (B:Nat) (P:Nat) (g:Nat) (first cap:Array Value) (x:HandD) (u:Value) (b:Bool) (hu:ElH B W u x) (hP:W.cell? ⟨P,0,none⟩=some (.func (.func g) first cap)) (hcf:∀args w,(callFunc g args).run Tryz.prog w=.ok (.enter g args) w)
 (hc:∀W',Below W.heap.size W W'->Calls Tryz.prog g (first++#[u]++cap) W' fun r W2=>r=.returned (.bool b)/\Below W'.heap.size W' W2):
 Calls Tryz.prog 325 #[u,.pointer (some ⟨P,0,none⟩)] W fun r W'=>r=.returned (.bool (!b))/\Below W.heap.size W W':=by
 have hPl:=World.block_lt_of_cell? W _ hP
 have HC:=mk0 hc
 clear hc
 obtain ⟨rfl,es1⟩:=hu
 go_enter Tryz.func325,Tryz.ntmps325
 go_wp2_with fail
 have hB0:∀o,Below W.heap.size W (W.alloc o):=fun o=>(Below.refl _ _).alloc (Nat.le_refl _) o
 refine (HC.out _ (by first | exact hB0 _ | exact Below.refl _ _)).mono ?_
 rintro r W2 ⟨rfl,hb⟩
 have hb2:Below W.heap.size W W2:=by first | exact (hB0 _).trans (hb.mono (by simp)) | exact hb
 clear hb hB0
 go_wp2_with fail
 go_ret
 exact ⟨rfl,hb2⟩
theorem zc1 (w:World) (B:Nat) (v:Value) (l:List (HandD)) (hv:SL 4 RH (· <B) w v l) (hB:B<=w.heap.size) (g:Nat) (first cap:Array Value) (p:HandD->Bool) (hcf:∀args w,(callFunc g args).run Tryz.prog w=.ok (.enter g args) w)
 (hc:∀x∈l,∀u W,Below w.heap.size w W->ElH B W u x->Calls Tryz.prog g (first++#[u]++cap) W fun r W'=>r=.returned (.bool (p x))/\Below W.heap.size W W'):
 Calls Tryz.prog 296 #[v,.func (.func g) first cap] w fun r w'=>r=.returned (.bool (l.all p))/\Below w.heap.size w w':=by
 have hmf:=mkf Tryz.prog
 have HV:=mk0 hv
 obtain ⟨ao0,cl,rfl,-⟩:=hv
 have HC:=mk0 hc
 have HCF:=mk0 hcf
 clear hc hcf
 have hB0:∀o,Below w.heap.size w (w.alloc o):=fun o=>(Below.refl _ _).alloc (Nat.le_refl _) o
 have HB0:=mk0 hB0
 clear hB0
 go_enter Tryz.func296,Tryz.ntmps296
 go_wp2_with fail
 refine (zcz _ B _ l (HV.out.keptH (Kp.below ((HB0.out _).mono hB))) (by simp;omega) 325 _ (fun x=>!p x) (fun args w=>by kernel_rfl) ?_).mono ?_
 ·
  intro x hx u W hW hu
  have hBW:Below w.heap.size w W:=(HB0.out _).trans (hW.mono (by simp))
  refine zc0 W B w.heap.size g first cap x u (p x) hu ((hW.cell (p:=⟨w.heap.size,0,none⟩) (by simp)).trans (by simp [go_sem])) HCF.out ?_
  intro W' hW'
  exact HC.out x hx u W' (hBW.trans (hW'.mono hBW.size)) (hu.below (hW'.mono (Nat.le_trans hB hBW.size)))
 rintro r w1 ⟨rfl,hb⟩
 have hb2:Below w.heap.size w w1:=(HB0.out _).trans (hb.mono (by simp))
 have HA:=mk0 (zcl p l)
 clear hb
 go_wp2_with fail
 go_ret
 exact ⟨by rw [<-HA.out];rfl,hb2⟩
def ElM (B:Nat) (w:World) (u:Value) (x:MethD):Prop:=∃ao ca ho ch,u=.agg #[.string x.name,.bool x.static,.slice ao x.args.length ca,.int .i64 x.ret.kind,.string x.ret.cls,.int .i64 x.stack,.int .i64 x.locals,.string x.code,.slice ho x.hands.length ch]/\SL 2 RK (· <B) w (.slice ao x.args.length ca) x.args/\SL 4 RH (· <B) w (.slice ho x.hands.length ch) x.hands/\x.name.size<=maxLen/\x.ret.cls.size<=maxLen/\x.code.size<=maxLen
theorem ElM.below {B:Nat} {w w':World} {u:Value} {x:MethD} (h:ElM B w u x) (hb:Below B w w'):ElM B w' u x:=by
 obtain ⟨ao,ca,ho,ch,rfl,ea,eh,es1,es2,es3⟩:=h
 exact ⟨ao,ca,ho,ch,rfl,ea.keptK (Kp.below hb),eh.keptH (Kp.below hb),es1,es2,es3⟩
theorem zc2 (w:World) (B:Nat) (v:Value) (l:List (MethD)) (hv:SL 9 RM (· <B) w v l) (hB:B<=w.heap.size) (g:Nat) (cap:Array Value) (p:MethD->Bool) (hcf:∀args w,(callFunc g args).run Tryz.prog w=.ok (.enter g args) w)
 (hc:∀x∈l,∀u W,Below w.heap.size w W->ElM B W u x->Calls Tryz.prog g (#[u]++cap) W fun r W'=>r=.returned (.bool (p x))/\Below W.heap.size W W'):
 Calls Tryz.prog 323 #[v,.func (.func g) #[] cap] w fun r w'=>r=.returned (.int .i64 (idx p l))/\Below w.heap.size w w':=by
 have HV:=mk0 hv
 obtain ⟨ao0,cl,rfl,-,hll,-⟩:=hv
 unfold maxLen at hll
 have HC:=mk0 hc
 clear hc
 go_enter Tryz.func323,Tryz.ntmps323
 go_wp2_with fail
 go_loopw [8] (fun i wr=>∃k:Nat,k<=l.length/\i=.int .i64 k/\Hid (∀x∈l.take k,p x=false)/\Below w.heap.size w wr) (fun i _=>l.length - (intOf i).toNat)
 case atStart=>exact ⟨0,Nat.zero_le _,rfl,(fun x hx=>by cases hx),Below.refl _ _⟩
 case round=>
  obtain ⟨k,hk,rfl,HP,hBr⟩:=hrel
  by_cases hlt:k<l.length
  ·
   obtain ⟨b,off,va,vh,rfl,hb,e0,e1,e2,e3,e4,e5,e6,e7,e8,ea,eh,es1,es2,es3⟩:=(HV.out.keptM (Kp.below (hBr.mono hB))).atM k hlt
   have EA:=mk0 ea
   have EH:=mk0 eh
   obtain ⟨ao,ca,rfl,-⟩:=ea
   obtain ⟨ho,ch,rfl,-⟩:=eh
   have hcall:=HC.out l[k] (List.getElem_mem hlt) _ _ hBr ⟨ao,ca,ho,ch,rfl,EA.out,EH.out,es1,es2,es3⟩
   have HCALL:=mk0 hcall
   clear hcall
   go_wp2_with fail
   refine HCALL.out.mono ?_
   rintro r w2 ⟨rfl,hb2⟩
   have hB2:=hBr.trans (hb2.mono hBr.size)
   clear hb2 HCALL
   cases hp:p l[k]
   ·
    have HX:=mk0 (zck hlt HP.out hp)
    clear hp
    go_wp2_with fail
    go_roundw
    case rel=>exact ⟨k+1,by omega,by go_num,HX.out,hB2⟩
    case measure=>simp [intOf];omega
   have HX:=mk0 (zch hlt HP.out hp)
   clear hp
   go_wp2_with fail
   go_ret
   exact ⟨by rw [HX.out];rfl,hB2⟩
  have HX:Hid (idx p l= -1):=zci (by have:=HP.out;rwa [List.take_of_length_le (by omega)]at this)
  go_wp2_with fail
  go_ret
  exact ⟨by rw [HX.out];rfl,hBr⟩
theorem zc3 (w:World) (B:Nat) (v:Value) (l:List (MethD)) (hv:SL 9 RM (· <B) w v l) (hB:B<=w.heap.size) (g:Nat) (cap:Array Value) (p:MethD->Bool) (hcf:∀args w,(callFunc g args).run Tryz.prog w=.ok (.enter g args) w)
 (hc:∀x∈l,∀u W,Below w.heap.size w W->ElM B W u x->Calls Tryz.prog g (#[u]++cap) W fun r W'=>r=.returned (.bool (p x))/\Below W.heap.size W W'):
 Calls Tryz.prog 294 #[v,.func (.func g) #[] cap] w fun r w'=>r=.returned (.bool (l.any p))/\Below w.heap.size w w':=by
 have hcc:=zc2 w B v l hv hB g cap p hcf hc
 have HC:=mk0 hcc
 clear hcc hc
 have HI:=mk0 (zcj p l)
 obtain ⟨ao0,cl,rfl,-⟩:=hv
 go_enter Tryz.func294,Tryz.ntmps294
 go_wp2_with fail
 refine HC.out.mono ?_
 rintro r w1 ⟨rfl,hb⟩
 go_wp2_with fail
 go_ret
 exact ⟨by rw [<-HI.out];rfl,hb⟩
theorem zc4 (W:World) (B:Nat) (P:Nat) (g:Nat) (first cap:Array Value) (x:MethD) (u:Value) (b:Bool) (hu:ElM B W u x) (hP:W.cell? ⟨P,0,none⟩=some (.func (.func g) first cap)) (hcf:∀args w,(callFunc g args).run Tryz.prog w=.ok (.enter g args) w)
 (hc:∀W',Below W.heap.size W W'->Calls Tryz.prog g (first++#[u]++cap) W' fun r W2=>r=.returned (.bool b)/\Below W'.heap.size W' W2):
 Calls Tryz.prog 295 #[u,.pointer (some ⟨P,0,none⟩)] W fun r W'=>r=.returned (.bool (!b))/\Below W.heap.size W W':=by
 have hPl:=World.block_lt_of_cell? W _ hP
 have HC:=mk0 hc
 clear hc
 obtain ⟨ao,ca,ho,ch,rfl,ea,eh,es1,es2,es3⟩:=hu
 go_enter Tryz.func295,Tryz.ntmps295
 go_wp2_with fail
 have hB0:∀o,Below W.heap.size W (W.alloc o):=fun o=>(Below.refl _ _).alloc (Nat.le_refl _) o
 refine (HC.out _ (by first | exact hB0 _ | exact Below.refl _ _)).mono ?_
 rintro r W2 ⟨rfl,hb⟩
 have hb2:Below W.heap.size W W2:=by first | exact (hB0 _).trans (hb.mono (by simp)) | exact hb
 clear hb hB0
 go_wp2_with fail
 go_ret
 exact ⟨rfl,hb2⟩
theorem zc5 (w:World) (B:Nat) (v:Value) (l:List (MethD)) (hv:SL 9 RM (· <B) w v l) (hB:B<=w.heap.size) (g:Nat) (first cap:Array Value) (p:MethD->Bool) (hcf:∀args w,(callFunc g args).run Tryz.prog w=.ok (.enter g args) w)
 (hc:∀x∈l,∀u W,Below w.heap.size w W->ElM B W u x->Calls Tryz.prog g (first++#[u]++cap) W fun r W'=>r=.returned (.bool (p x))/\Below W.heap.size W W'):
 Calls Tryz.prog 245 #[v,.func (.func g) first cap] w fun r w'=>r=.returned (.bool (l.all p))/\Below w.heap.size w w':=by
 have hmf:=mkf Tryz.prog
 have HV:=mk0 hv
 obtain ⟨ao0,cl,rfl,-⟩:=hv
 have HC:=mk0 hc
 have HCF:=mk0 hcf
 clear hc hcf
 have hB0:∀o,Below w.heap.size w (w.alloc o):=fun o=>(Below.refl _ _).alloc (Nat.le_refl _) o
 have HB0:=mk0 hB0
 clear hB0
 go_enter Tryz.func245,Tryz.ntmps245
 go_wp2_with fail
 refine (zc3 _ B _ l (HV.out.keptM (Kp.below ((HB0.out _).mono hB))) (by simp;omega) 295 _ (fun x=>!p x) (fun args w=>by kernel_rfl) ?_).mono ?_
 ·
  intro x hx u W hW hu
  have hBW:Below w.heap.size w W:=(HB0.out _).trans (hW.mono (by simp))
  refine zc4 W B w.heap.size g first cap x u (p x) hu ((hW.cell (p:=⟨w.heap.size,0,none⟩) (by simp)).trans (by simp [go_sem])) HCF.out ?_
  intro W' hW'
  exact HC.out x hx u W' (hBW.trans (hW'.mono hBW.size)) (hu.below (hW'.mono (Nat.le_trans hB hBW.size)))
 rintro r w1 ⟨rfl,hb⟩
 have hb2:Below w.heap.size w w1:=(HB0.out _).trans (hb.mono (by simp))
 have HA:=mk0 (zcl p l)
 clear hb
 go_wp2_with fail
 go_ret
 exact ⟨by rw [<-HA.out];rfl,hb2⟩
def ElS (_:Nat) (_:World) (u:Value) (x:ByteArray):Prop:=u=.string x/\x.size<=maxLen
theorem ElS.below {B:Nat} {w w':World} {u:Value} {x:ByteArray} (h:ElS B w u x) (_:Below B w w'):ElS B w' u x:=by
 obtain ⟨rfl,es1⟩:=h
 exact ⟨rfl,es1⟩
theorem zc6 (w:World) (B:Nat) (v:Value) (l:List (ByteArray)) (hv:SL 1 RS (· <B) w v l) (hB:B<=w.heap.size) (g:Nat) (cap:Array Value) (p:ByteArray->Bool) (hcf:∀args w,(callFunc g args).run Tryz.prog w=.ok (.enter g args) w)
 (hc:∀x∈l,∀u W,Below w.heap.size w W->ElS B W u x->Calls Tryz.prog g (#[u]++cap) W fun r W'=>r=.returned (.bool (p x))/\Below W.heap.size W W'):
 Calls Tryz.prog 329 #[v,.func (.func g) #[] cap] w fun r w'=>r=.returned (.int .i64 (idx p l))/\Below w.heap.size w w':=by
 have HV:=mk0 hv
 obtain ⟨ao0,cl,rfl,-,hll,-⟩:=hv
 unfold maxLen at hll
 have HC:=mk0 hc
 clear hc
 go_enter Tryz.func329,Tryz.ntmps329
 go_wp2_with fail
 go_loopw [8] (fun i wr=>∃k:Nat,k<=l.length/\i=.int .i64 k/\Hid (∀x∈l.take k,p x=false)/\Below w.heap.size w wr) (fun i _=>l.length - (intOf i).toNat)
 case atStart=>exact ⟨0,Nat.zero_le _,rfl,(fun x hx=>by cases hx),Below.refl _ _⟩
 case round=>
  obtain ⟨k,hk,rfl,HP,hBr⟩:=hrel
  by_cases hlt:k<l.length
  ·
   obtain ⟨b,off,rfl,hb,e0,es1⟩:=(HV.out.keptS (Kp.below (hBr.mono hB))).atS k hlt
   have hcall:=HC.out l[k] (List.getElem_mem hlt) _ _ hBr ⟨rfl,es1⟩
   have HCALL:=mk0 hcall
   clear hcall
   go_wp2_with fail
   refine HCALL.out.mono ?_
   rintro r w2 ⟨rfl,hb2⟩
   have hB2:=hBr.trans (hb2.mono hBr.size)
   clear hb2 HCALL
   cases hp:p l[k]
   ·
    have HX:=mk0 (zck hlt HP.out hp)
    clear hp
    go_wp2_with fail
    go_roundw
    case rel=>exact ⟨k+1,by omega,by go_num,HX.out,hB2⟩
    case measure=>simp [intOf];omega
   have HX:=mk0 (zch hlt HP.out hp)
   clear hp
   go_wp2_with fail
   go_ret
   exact ⟨by rw [HX.out];rfl,hB2⟩
  have HX:Hid (idx p l= -1):=zci (by have:=HP.out;rwa [List.take_of_length_le (by omega)]at this)
  go_wp2_with fail
  go_ret
  exact ⟨by rw [HX.out];rfl,hBr⟩
theorem zc7 (w:World) (B:Nat) (v:Value) (l:List (ByteArray)) (hv:SL 1 RS (· <B) w v l) (hB:B<=w.heap.size) (g:Nat) (cap:Array Value) (p:ByteArray->Bool) (hcf:∀args w,(callFunc g args).run Tryz.prog w=.ok (.enter g args) w)
 (hc:∀x∈l,∀u W,Below w.heap.size w W->ElS B W u x->Calls Tryz.prog g (#[u]++cap) W fun r W'=>r=.returned (.bool (p x))/\Below W.heap.size W W'):
 Calls Tryz.prog 316 #[v,.func (.func g) #[] cap] w fun r w'=>r=.returned (.bool (l.any p))/\Below w.heap.size w w':=by
 have hcc:=zc6 w B v l hv hB g cap p hcf hc
 have HC:=mk0 hcc
 clear hcc hc
 have HI:=mk0 (zcj p l)
 obtain ⟨ao0,cl,rfl,-⟩:=hv
 go_enter Tryz.func316,Tryz.ntmps316
 go_wp2_with fail
 refine HC.out.mono ?_
 rintro r w1 ⟨rfl,hb⟩
 go_wp2_with fail
 go_ret
 exact ⟨by rw [<-HI.out];rfl,hb⟩
theorem zc8 (W:World) (B:Nat) (P:Nat) (g:Nat) (first cap:Array Value) (x:ByteArray) (u:Value) (b:Bool) (hu:ElS B W u x) (hP:W.cell? ⟨P,0,none⟩=some (.func (.func g) first cap)) (hcf:∀args w,(callFunc g args).run Tryz.prog w=.ok (.enter g args) w)
 (hc:∀W',Below W.heap.size W W'->Calls Tryz.prog g (first++#[u]++cap) W' fun r W2=>r=.returned (.bool b)/\Below W'.heap.size W' W2):
 Calls Tryz.prog 317 #[u,.pointer (some ⟨P,0,none⟩)] W fun r W'=>r=.returned (.bool (!b))/\Below W.heap.size W W':=by
 have hPl:=World.block_lt_of_cell? W _ hP
 have HC:=mk0 hc
 clear hc
 obtain ⟨rfl,es1⟩:=hu
 go_enter Tryz.func317,Tryz.ntmps317
 go_wp2_with fail
 have hB0:∀o,Below W.heap.size W (W.alloc o):=fun o=>(Below.refl _ _).alloc (Nat.le_refl _) o
 refine (HC.out _ (by first | exact hB0 _ | exact Below.refl _ _)).mono ?_
 rintro r W2 ⟨rfl,hb⟩
 have hb2:Below W.heap.size W W2:=by first | exact (hB0 _).trans (hb.mono (by simp)) | exact hb
 clear hb hB0
 go_wp2_with fail
 go_ret
 exact ⟨rfl,hb2⟩
theorem zc9 (w:World) (B:Nat) (v:Value) (l:List (ByteArray)) (hv:SL 1 RS (· <B) w v l) (hB:B<=w.heap.size) (g:Nat) (first cap:Array Value) (p:ByteArray->Bool) (hcf:∀args w,(callFunc g args).run Tryz.prog w=.ok (.enter g args) w)
 (hc:∀x∈l,∀u W,Below w.heap.size w W->ElS B W u x->Calls Tryz.prog g (first++#[u]++cap) W fun r W'=>r=.returned (.bool (p x))/\Below W.heap.size W W'):
 Calls Tryz.prog 284 #[v,.func (.func g) first cap] w fun r w'=>r=.returned (.bool (l.all p))/\Below w.heap.size w w':=by
 have hmf:=mkf Tryz.prog
 have HV:=mk0 hv
 obtain ⟨ao0,cl,rfl,-⟩:=hv
 have HC:=mk0 hc
 have HCF:=mk0 hcf
 clear hc hcf
 have hB0:∀o,Below w.heap.size w (w.alloc o):=fun o=>(Below.refl _ _).alloc (Nat.le_refl _) o
 have HB0:=mk0 hB0
 clear hB0
 go_enter Tryz.func284,Tryz.ntmps284
 go_wp2_with fail
 refine (zc7 _ B _ l (HV.out.keptS (Kp.below ((HB0.out _).mono hB))) (by simp;omega) 317 _ (fun x=>!p x) (fun args w=>by kernel_rfl) ?_).mono ?_
 ·
  intro x hx u W hW hu
  have hBW:Below w.heap.size w W:=(HB0.out _).trans (hW.mono (by simp))
  refine zc8 W B w.heap.size g first cap x u (p x) hu ((hW.cell (p:=⟨w.heap.size,0,none⟩) (by simp)).trans (by simp [go_sem])) HCF.out ?_
  intro W' hW'
  exact HC.out x hx u W' (hBW.trans (hW'.mono hBW.size)) (hu.below (hW'.mono (Nat.le_trans hB hBW.size)))
 rintro r w1 ⟨rfl,hb⟩
 have hb2:Below w.heap.size w w1:=(HB0.out _).trans (hb.mono (by simp))
 have HA:=mk0 (zcl p l)
 clear hb
 go_wp2_with fail
 go_ret
 exact ⟨by rw [<-HA.out];rfl,hb2⟩
def ElIs (B:Nat) (w:World) (u:Value) (x:List Nat):Prop:=∃ao ca,u=.slice ao x.length ca/\SL 1 RO (· <B) w (.slice ao x.length ca) x
theorem ElIs.below {B:Nat} {w w':World} {u:Value} {x:List Nat} (h:ElIs B w u x) (hb:Below B w w'):ElIs B w' u x:=by
 obtain ⟨ao,ca,rfl,ea⟩:=h
 exact ⟨ao,ca,rfl,ea.keptO (Kp.below hb)⟩
theorem zda (w:World) (B:Nat) (v:Value) (l:List (List Nat)) (hv:SL 1 (RSl 1 RO) (· <B) w v l) (hB:B<=w.heap.size) (g:Nat) (cap:Array Value) (p:List Nat->Bool) (hcf:∀args w,(callFunc g args).run Tryz.prog w=.ok (.enter g args) w)
 (hc:∀x∈l,∀u W,Below w.heap.size w W->ElIs B W u x->Calls Tryz.prog g (#[u]++cap) W fun r W'=>r=.returned (.bool (p x))/\Below W.heap.size W W'):
 Calls Tryz.prog 319 #[v,.func (.func g) #[] cap] w fun r w'=>r=.returned (.int .i64 (idx p l))/\Below w.heap.size w w':=by
 have HV:=mk0 hv
 obtain ⟨ao0,cl,rfl,-,hll,-⟩:=hv
 unfold maxLen at hll
 have HC:=mk0 hc
 clear hc
 go_enter Tryz.func319,Tryz.ntmps319
 go_wp2_with fail
 go_loopw [8] (fun i wr=>∃k:Nat,k<=l.length/\i=.int .i64 k/\Hid (∀x∈l.take k,p x=false)/\Below w.heap.size w wr) (fun i _=>l.length - (intOf i).toNat)
 case atStart=>exact ⟨0,Nat.zero_le _,rfl,(fun x hx=>by cases hx),Below.refl _ _⟩
 case round=>
  obtain ⟨k,hk,rfl,HP,hBr⟩:=hrel
  by_cases hlt:k<l.length
  ·
   obtain ⟨b,off,ai,ci,rfl,hb,e0,ei⟩:=(HV.out.keptSl (Kp.below (hBr.mono hB)) fun _ _ h=>h).atSl k hlt
   have EI:=mk0 ei
   have hcall:=HC.out l[k] (List.getElem_mem hlt) _ _ hBr ⟨ai,ci,rfl,EI.out⟩
   have HCALL:=mk0 hcall
   clear hcall
   go_wp2_with fail
   refine HCALL.out.mono ?_
   rintro r w2 ⟨rfl,hb2⟩
   have hB2:=hBr.trans (hb2.mono hBr.size)
   clear hb2 HCALL
   cases hp:p l[k]
   ·
    have HX:=mk0 (zck hlt HP.out hp)
    clear hp
    go_wp2_with fail
    go_roundw
    case rel=>exact ⟨k+1,by omega,by go_num,HX.out,hB2⟩
    case measure=>simp [intOf];omega
   have HX:=mk0 (zch hlt HP.out hp)
   clear hp
   go_wp2_with fail
   go_ret
   exact ⟨by rw [HX.out];rfl,hB2⟩
  have HX:Hid (idx p l= -1):=zci (by have:=HP.out;rwa [List.take_of_length_le (by omega)]at this)
  go_wp2_with fail
  go_ret
  exact ⟨by rw [HX.out];rfl,hBr⟩
theorem zdb (w:World) (B:Nat) (v:Value) (l:List (List Nat)) (hv:SL 1 (RSl 1 RO) (· <B) w v l) (hB:B<=w.heap.size) (g:Nat) (cap:Array Value) (p:List Nat->Bool) (hcf:∀args w,(callFunc g args).run Tryz.prog w=.ok (.enter g args) w)
 (hc:∀x∈l,∀u W,Below w.heap.size w W->ElIs B W u x->Calls Tryz.prog g (#[u]++cap) W fun r W'=>r=.returned (.bool (p x))/\Below W.heap.size W W'):
 Calls Tryz.prog 288 #[v,.func (.func g) #[] cap] w fun r w'=>r=.returned (.bool (l.any p))/\Below w.heap.size w w':=by
 have hcc:=zda w B v l hv hB g cap p hcf hc
 have HC:=mk0 hcc
 clear hcc hc
 have HI:=mk0 (zcj p l)
 obtain ⟨ao0,cl,rfl,-⟩:=hv
 go_enter Tryz.func288,Tryz.ntmps288
 go_wp2_with fail
 refine HC.out.mono ?_
 rintro r w1 ⟨rfl,hb⟩
 go_wp2_with fail
 go_ret
 exact ⟨by rw [<-HI.out];rfl,hb⟩
theorem zdc (W:World) (B:Nat) (P:Nat) (g:Nat) (first cap:Array Value) (x:List Nat) (u:Value) (b:Bool) (hu:ElIs B W u x) (hP:W.cell? ⟨P,0,none⟩=some (.func (.func g) first cap)) (hcf:∀args w,(callFunc g args).run Tryz.prog w=.ok (.enter g args) w)
 (hc:∀W',Below W.heap.size W W'->Calls Tryz.prog g (first++#[u]++cap) W' fun r W2=>r=.returned (.bool b)/\Below W'.heap.size W' W2):
 Calls Tryz.prog 289 #[u,.pointer (some ⟨P,0,none⟩)] W fun r W'=>r=.returned (.bool (!b))/\Below W.heap.size W W':=by
 have hPl:=World.block_lt_of_cell? W _ hP
 have HC:=mk0 hc
 clear hc
 obtain ⟨ao,ca,rfl,ea⟩:=hu
 go_enter Tryz.func289,Tryz.ntmps289
 go_wp2_with fail
 have hB0:∀o,Below W.heap.size W (W.alloc o):=fun o=>(Below.refl _ _).alloc (Nat.le_refl _) o
 refine (HC.out _ (by first | exact hB0 _ | exact Below.refl _ _)).mono ?_
 rintro r W2 ⟨rfl,hb⟩
 have hb2:Below W.heap.size W W2:=by first | exact (hB0 _).trans (hb.mono (by simp)) | exact hb
 clear hb hB0
 go_wp2_with fail
 go_ret
 exact ⟨rfl,hb2⟩
theorem zdd (w:World) (B:Nat) (v:Value) (l:List (List Nat)) (hv:SL 1 (RSl 1 RO) (· <B) w v l) (hB:B<=w.heap.size) (g:Nat) (first cap:Array Value) (p:List Nat->Bool) (hcf:∀args w,(callFunc g args).run Tryz.prog w=.ok (.enter g args) w)
 (hc:∀x∈l,∀u W,Below w.heap.size w W->ElIs B W u x->Calls Tryz.prog g (first++#[u]++cap) W fun r W'=>r=.returned (.bool (p x))/\Below W.heap.size W W'):
 Calls Tryz.prog 239 #[v,.func (.func g) first cap] w fun r w'=>r=.returned (.bool (l.all p))/\Below w.heap.size w w':=by
 have hmf:=mkf Tryz.prog
 have HV:=mk0 hv
 obtain ⟨ao0,cl,rfl,-⟩:=hv
 have HC:=mk0 hc
 have HCF:=mk0 hcf
 clear hc hcf
 have hB0:∀o,Below w.heap.size w (w.alloc o):=fun o=>(Below.refl _ _).alloc (Nat.le_refl _) o
 have HB0:=mk0 hB0
 clear hB0
 go_enter Tryz.func239,Tryz.ntmps239
 go_wp2_with fail
 refine (zdb _ B _ l (HV.out.keptSl (Kp.below ((HB0.out _).mono hB)) fun _ _ h=>h) (by simp;omega) 289 _ (fun x=>!p x) (fun args w=>by kernel_rfl) ?_).mono ?_
 ·
  intro x hx u W hW hu
  have hBW:Below w.heap.size w W:=(HB0.out _).trans (hW.mono (by simp))
  refine zdc W B w.heap.size g first cap x u (p x) hu ((hW.cell (p:=⟨w.heap.size,0,none⟩) (by simp)).trans (by simp [go_sem])) HCF.out ?_
  intro W' hW'
  exact HC.out x hx u W' (hBW.trans (hW'.mono hBW.size)) (hu.below (hW'.mono (Nat.le_trans hB hBW.size)))
 rintro r w1 ⟨rfl,hb⟩
 have hb2:Below w.heap.size w w1:=(HB0.out _).trans (hb.mono (by simp))
 have HA:=mk0 (zcl p l)
 clear hb
 go_wp2_with fail
 go_ret
 exact ⟨by rw [<-HA.out];rfl,hb2⟩
def ElFs (B:Nat) (w:World) (u:Value) (x:List FieldD):Prop:=∃ao ca,u=.slice ao x.length ca/\SL 3 RF (· <B) w (.slice ao x.length ca) x
theorem ElFs.below {B:Nat} {w w':World} {u:Value} {x:List FieldD} (h:ElFs B w u x) (hb:Below B w w'):ElFs B w' u x:=by
 obtain ⟨ao,ca,rfl,ea⟩:=h
 exact ⟨ao,ca,rfl,ea.keptF (Kp.below hb)⟩
theorem zde (w:World) (B:Nat) (v:Value) (l:List (List FieldD)) (hv:SL 1 (RSl 3 RF) (· <B) w v l) (hB:B<=w.heap.size) (g:Nat) (cap:Array Value) (p:List FieldD->Bool) (hcf:∀args w,(callFunc g args).run Tryz.prog w=.ok (.enter g args) w)
 (hc:∀x∈l,∀u W,Below w.heap.size w W->ElFs B W u x->Calls Tryz.prog g (#[u]++cap) W fun r W'=>r=.returned (.bool (p x))/\Below W.heap.size W W'):
 Calls Tryz.prog 326 #[v,.func (.func g) #[] cap] w fun r w'=>r=.returned (.int .i64 (idx p l))/\Below w.heap.size w w':=by
 have HV:=mk0 hv
 obtain ⟨ao0,cl,rfl,-,hll,-⟩:=hv
 unfold maxLen at hll
 have HC:=mk0 hc
 clear hc
 go_enter Tryz.func326,Tryz.ntmps326
 go_wp2_with fail
 go_loopw [8] (fun i wr=>∃k:Nat,k<=l.length/\i=.int .i64 k/\Hid (∀x∈l.take k,p x=false)/\Below w.heap.size w wr) (fun i _=>l.length - (intOf i).toNat)
 case atStart=>exact ⟨0,Nat.zero_le _,rfl,(fun x hx=>by cases hx),Below.refl _ _⟩
 case round=>
  obtain ⟨k,hk,rfl,HP,hBr⟩:=hrel
  by_cases hlt:k<l.length
  ·
   obtain ⟨b,off,ai,ci,rfl,hb,e0,ei⟩:=(HV.out.keptSl (Kp.below (hBr.mono hB)) fun _ _ h=>h).atSl k hlt
   have EI:=mk0 ei
   have hcall:=HC.out l[k] (List.getElem_mem hlt) _ _ hBr ⟨ai,ci,rfl,EI.out⟩
   have HCALL:=mk0 hcall
   clear hcall
   go_wp2_with fail
   refine HCALL.out.mono ?_
   rintro r w2 ⟨rfl,hb2⟩
   have hB2:=hBr.trans (hb2.mono hBr.size)
   clear hb2 HCALL
   cases hp:p l[k]
   ·
    have HX:=mk0 (zck hlt HP.out hp)
    clear hp
    go_wp2_with fail
    go_roundw
    case rel=>exact ⟨k+1,by omega,by go_num,HX.out,hB2⟩
    case measure=>simp [intOf];omega
   have HX:=mk0 (zch hlt HP.out hp)
   clear hp
   go_wp2_with fail
   go_ret
   exact ⟨by rw [HX.out];rfl,hB2⟩
  have HX:Hid (idx p l= -1):=zci (by have:=HP.out;rwa [List.take_of_length_le (by omega)]at this)
  go_wp2_with fail
  go_ret
  exact ⟨by rw [HX.out];rfl,hBr⟩
theorem zdf (w:World) (B:Nat) (v:Value) (l:List (List FieldD)) (hv:SL 1 (RSl 3 RF) (· <B) w v l) (hB:B<=w.heap.size) (g:Nat) (cap:Array Value) (p:List FieldD->Bool) (hcf:∀args w,(callFunc g args).run Tryz.prog w=.ok (.enter g args) w)
 (hc:∀x∈l,∀u W,Below w.heap.size w W->ElFs B W u x->Calls Tryz.prog g (#[u]++cap) W fun r W'=>r=.returned (.bool (p x))/\Below W.heap.size W W'):
 Calls Tryz.prog 298 #[v,.func (.func g) #[] cap] w fun r w'=>r=.returned (.bool (l.any p))/\Below w.heap.size w w':=by
 have hcc:=zde w B v l hv hB g cap p hcf hc
 have HC:=mk0 hcc
 clear hcc hc
 have HI:=mk0 (zcj p l)
 obtain ⟨ao0,cl,rfl,-⟩:=hv
 go_enter Tryz.func298,Tryz.ntmps298
 go_wp2_with fail
 refine HC.out.mono ?_
 rintro r w1 ⟨rfl,hb⟩
 go_wp2_with fail
 go_ret
 exact ⟨by rw [<-HI.out];rfl,hb⟩
theorem zdg (W:World) (B:Nat) (P:Nat) (g:Nat) (first cap:Array Value) (x:List FieldD) (u:Value) (b:Bool) (hu:ElFs B W u x) (hP:W.cell? ⟨P,0,none⟩=some (.func (.func g) first cap)) (hcf:∀args w,(callFunc g args).run Tryz.prog w=.ok (.enter g args) w)
 (hc:∀W',Below W.heap.size W W'->Calls Tryz.prog g (first++#[u]++cap) W' fun r W2=>r=.returned (.bool b)/\Below W'.heap.size W' W2):
 Calls Tryz.prog 299 #[u,.pointer (some ⟨P,0,none⟩)] W fun r W'=>r=.returned (.bool (!b))/\Below W.heap.size W W':=by
 have hPl:=World.block_lt_of_cell? W _ hP
 have HC:=mk0 hc
 clear hc
 obtain ⟨ao,ca,rfl,ea⟩:=hu
 go_enter Tryz.func299,Tryz.ntmps299
 go_wp2_with fail
 have hB0:∀o,Below W.heap.size W (W.alloc o):=fun o=>(Below.refl _ _).alloc (Nat.le_refl _) o
 refine (HC.out _ (by first | exact hB0 _ | exact Below.refl _ _)).mono ?_
 rintro r W2 ⟨rfl,hb⟩
 have hb2:Below W.heap.size W W2:=by first | exact (hB0 _).trans (hb.mono (by simp)) | exact hb
 clear hb hB0
 go_wp2_with fail
 go_ret
 exact ⟨rfl,hb2⟩
theorem zdh (w:World) (B:Nat) (v:Value) (l:List (List FieldD)) (hv:SL 1 (RSl 3 RF) (· <B) w v l) (hB:B<=w.heap.size) (g:Nat) (first cap:Array Value) (p:List FieldD->Bool) (hcf:∀args w,(callFunc g args).run Tryz.prog w=.ok (.enter g args) w)
 (hc:∀x∈l,∀u W,Below w.heap.size w W->ElFs B W u x->Calls Tryz.prog g (first++#[u]++cap) W fun r W'=>r=.returned (.bool (p x))/\Below W.heap.size W W'):
 Calls Tryz.prog 247 #[v,.func (.func g) first cap] w fun r w'=>r=.returned (.bool (l.all p))/\Below w.heap.size w w':=by
 have hmf:=mkf Tryz.prog
 have HV:=mk0 hv
 obtain ⟨ao0,cl,rfl,-⟩:=hv
 have HC:=mk0 hc
 have HCF:=mk0 hcf
 clear hc hcf
 have hB0:∀o,Below w.heap.size w (w.alloc o):=fun o=>(Below.refl _ _).alloc (Nat.le_refl _) o
 have HB0:=mk0 hB0
 clear hB0
 go_enter Tryz.func247,Tryz.ntmps247
 go_wp2_with fail
 refine (zdf _ B _ l (HV.out.keptSl (Kp.below ((HB0.out _).mono hB)) fun _ _ h=>h) (by simp;omega) 299 _ (fun x=>!p x) (fun args w=>by kernel_rfl) ?_).mono ?_
 ·
  intro x hx u W hW hu
  have hBW:Below w.heap.size w W:=(HB0.out _).trans (hW.mono (by simp))
  refine zdg W B w.heap.size g first cap x u (p x) hu ((hW.cell (p:=⟨w.heap.size,0,none⟩) (by simp)).trans (by simp [go_sem])) HCF.out ?_
  intro W' hW'
  exact HC.out x hx u W' (hBW.trans (hW'.mono hBW.size)) (hu.below (hW'.mono (Nat.le_trans hB hBW.size)))
 rintro r w1 ⟨rfl,hb⟩
 have hb2:Below w.heap.size w w1:=(HB0.out _).trans (hb.mono (by simp))
 have HA:=mk0 (zcl p l)
 clear hb
 go_wp2_with fail
 go_ret
 exact ⟨by rw [<-HA.out];rfl,hb2⟩
def ElSs (B:Nat) (w:World) (u:Value) (x:List ByteArray):Prop:=∃ao ca,u=.slice ao x.length ca/\SL 1 RS (· <B) w (.slice ao x.length ca) x
theorem ElSs.below {B:Nat} {w w':World} {u:Value} {x:List ByteArray} (h:ElSs B w u x) (hb:Below B w w'):ElSs B w' u x:=by
 obtain ⟨ao,ca,rfl,ea⟩:=h
 exact ⟨ao,ca,rfl,ea.keptS (Kp.below hb)⟩
theorem zdi (w:World) (B:Nat) (v:Value) (l:List (List ByteArray)) (hv:SL 1 (RSl 1 RS) (· <B) w v l) (hB:B<=w.heap.size) (g:Nat) (cap:Array Value) (p:List ByteArray->Bool) (hcf:∀args w,(callFunc g args).run Tryz.prog w=.ok (.enter g args) w)
 (hc:∀x∈l,∀u W,Below w.heap.size w W->ElSs B W u x->Calls Tryz.prog g (#[u]++cap) W fun r W'=>r=.returned (.bool (p x))/\Below W.heap.size W W'):
 Calls Tryz.prog 327 #[v,.func (.func g) #[] cap] w fun r w'=>r=.returned (.int .i64 (idx p l))/\Below w.heap.size w w':=by
 have HV:=mk0 hv
 obtain ⟨ao0,cl,rfl,-,hll,-⟩:=hv
 unfold maxLen at hll
 have HC:=mk0 hc
 clear hc
 go_enter Tryz.func327,Tryz.ntmps327
 go_wp2_with fail
 go_loopw [8] (fun i wr=>∃k:Nat,k<=l.length/\i=.int .i64 k/\Hid (∀x∈l.take k,p x=false)/\Below w.heap.size w wr) (fun i _=>l.length - (intOf i).toNat)
 case atStart=>exact ⟨0,Nat.zero_le _,rfl,(fun x hx=>by cases hx),Below.refl _ _⟩
 case round=>
  obtain ⟨k,hk,rfl,HP,hBr⟩:=hrel
  by_cases hlt:k<l.length
  ·
   obtain ⟨b,off,ai,ci,rfl,hb,e0,ei⟩:=(HV.out.keptSl (Kp.below (hBr.mono hB)) fun _ _ h=>h).atSl k hlt
   have EI:=mk0 ei
   have hcall:=HC.out l[k] (List.getElem_mem hlt) _ _ hBr ⟨ai,ci,rfl,EI.out⟩
   have HCALL:=mk0 hcall
   clear hcall
   go_wp2_with fail
   refine HCALL.out.mono ?_
   rintro r w2 ⟨rfl,hb2⟩
   have hB2:=hBr.trans (hb2.mono hBr.size)
   clear hb2 HCALL
   cases hp:p l[k]
   ·
    have HX:=mk0 (zck hlt HP.out hp)
    clear hp
    go_wp2_with fail
    go_roundw
    case rel=>exact ⟨k+1,by omega,by go_num,HX.out,hB2⟩
    case measure=>simp [intOf];omega
   have HX:=mk0 (zch hlt HP.out hp)
   clear hp
   go_wp2_with fail
   go_ret
   exact ⟨by rw [HX.out];rfl,hB2⟩
  have HX:Hid (idx p l= -1):=zci (by have:=HP.out;rwa [List.take_of_length_le (by omega)]at this)
  go_wp2_with fail
  go_ret
  exact ⟨by rw [HX.out];rfl,hBr⟩
theorem zdj (w:World) (B:Nat) (v:Value) (l:List (List ByteArray)) (hv:SL 1 (RSl 1 RS) (· <B) w v l) (hB:B<=w.heap.size) (g:Nat) (cap:Array Value) (p:List ByteArray->Bool) (hcf:∀args w,(callFunc g args).run Tryz.prog w=.ok (.enter g args) w)
 (hc:∀x∈l,∀u W,Below w.heap.size w W->ElSs B W u x->Calls Tryz.prog g (#[u]++cap) W fun r W'=>r=.returned (.bool (p x))/\Below W.heap.size W W'):
 Calls Tryz.prog 303 #[v,.func (.func g) #[] cap] w fun r w'=>r=.returned (.bool (l.any p))/\Below w.heap.size w w':=by
 have hcc:=zdi w B v l hv hB g cap p hcf hc
 have HC:=mk0 hcc
 clear hcc hc
 have HI:=mk0 (zcj p l)
 obtain ⟨ao0,cl,rfl,-⟩:=hv
 go_enter Tryz.func303,Tryz.ntmps303
 go_wp2_with fail
 refine HC.out.mono ?_
 rintro r w1 ⟨rfl,hb⟩
 go_wp2_with fail
 go_ret
 exact ⟨by rw [<-HI.out];rfl,hb⟩
theorem zdk (W:World) (B:Nat) (P:Nat) (g:Nat) (first cap:Array Value) (x:List ByteArray) (u:Value) (b:Bool) (hu:ElSs B W u x) (hP:W.cell? ⟨P,0,none⟩=some (.func (.func g) first cap)) (hcf:∀args w,(callFunc g args).run Tryz.prog w=.ok (.enter g args) w)
 (hc:∀W',Below W.heap.size W W'->Calls Tryz.prog g (first++#[u]++cap) W' fun r W2=>r=.returned (.bool b)/\Below W'.heap.size W' W2):
 Calls Tryz.prog 304 #[u,.pointer (some ⟨P,0,none⟩)] W fun r W'=>r=.returned (.bool (!b))/\Below W.heap.size W W':=by
 have hPl:=World.block_lt_of_cell? W _ hP
 have HC:=mk0 hc
 clear hc
 obtain ⟨ao,ca,rfl,ea⟩:=hu
 go_enter Tryz.func304,Tryz.ntmps304
 go_wp2_with fail
 have hB0:∀o,Below W.heap.size W (W.alloc o):=fun o=>(Below.refl _ _).alloc (Nat.le_refl _) o
 refine (HC.out _ (by first | exact hB0 _ | exact Below.refl _ _)).mono ?_
 rintro r W2 ⟨rfl,hb⟩
 have hb2:Below W.heap.size W W2:=by first | exact (hB0 _).trans (hb.mono (by simp)) | exact hb
 clear hb hB0
 go_wp2_with fail
 go_ret
 exact ⟨rfl,hb2⟩
theorem zdl (w:World) (B:Nat) (v:Value) (l:List (List ByteArray)) (hv:SL 1 (RSl 1 RS) (· <B) w v l) (hB:B<=w.heap.size) (g:Nat) (first cap:Array Value) (p:List ByteArray->Bool) (hcf:∀args w,(callFunc g args).run Tryz.prog w=.ok (.enter g args) w)
 (hc:∀x∈l,∀u W,Below w.heap.size w W->ElSs B W u x->Calls Tryz.prog g (first++#[u]++cap) W fun r W'=>r=.returned (.bool (p x))/\Below W.heap.size W W'):
 Calls Tryz.prog 257 #[v,.func (.func g) first cap] w fun r w'=>r=.returned (.bool (l.all p))/\Below w.heap.size w w':=by
 have hmf:=mkf Tryz.prog
 have HV:=mk0 hv
 obtain ⟨ao0,cl,rfl,-⟩:=hv
 have HC:=mk0 hc
 have HCF:=mk0 hcf
 clear hc hcf
 have hB0:∀o,Below w.heap.size w (w.alloc o):=fun o=>(Below.refl _ _).alloc (Nat.le_refl _) o
 have HB0:=mk0 hB0
 clear hB0
 go_enter Tryz.func257,Tryz.ntmps257
 go_wp2_with fail
 refine (zdj _ B _ l (HV.out.keptSl (Kp.below ((HB0.out _).mono hB)) fun _ _ h=>h) (by simp;omega) 304 _ (fun x=>!p x) (fun args w=>by kernel_rfl) ?_).mono ?_
 ·
  intro x hx u W hW hu
  have hBW:Below w.heap.size w W:=(HB0.out _).trans (hW.mono (by simp))
  refine zdk W B w.heap.size g first cap x u (p x) hu ((hW.cell (p:=⟨w.heap.size,0,none⟩) (by simp)).trans (by simp [go_sem])) HCF.out ?_
  intro W' hW'
  exact HC.out x hx u W' (hBW.trans (hW'.mono hBW.size)) (hu.below (hW'.mono (Nat.le_trans hB hBW.size)))
 rintro r w1 ⟨rfl,hb⟩
 have hb2:Below w.heap.size w w1:=(HB0.out _).trans (hb.mono (by simp))
 have HA:=mk0 (zcl p l)
 clear hb
 go_wp2_with fail
 go_ret
 exact ⟨by rw [<-HA.out];rfl,hb2⟩
end Go.Proofs.YtjdnmblggdobgaaGreat
