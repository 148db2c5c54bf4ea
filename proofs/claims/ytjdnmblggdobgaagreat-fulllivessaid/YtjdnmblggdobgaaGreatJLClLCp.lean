import Derived.Test.YtjdnmblggdobgaaGreatJLNoneLSaD
set_option maxHeartbeats 4000000
set_option maxRecDepth 100000
namespace Go.Proofs.YtjdnmblggdobgaaGreat
open Go.RowKit
theorem SL_zs {α:Type} {n:Nat} {R:(Nat->Prop)->World->List Value->α->Prop} {M:Nat->Prop} {w:World} {v:Value} {l:List α} (hn:0<n) (h:SL n R M w v l):
 ∃zs:List (List Value×α),zs.map (·.2)=l/\(∀z∈zs,z.1.length=n/\R M w z.1 z.2)/\∀b off len cap,v=.slice (some ⟨b,off,none⟩) len cap->∀j u,(zs.flatMap (·.1))[j]? =some u->w.cell? ((⟨b,off,none⟩:Addr).add j)=some u:=by
 obtain ⟨ao,cap,hv,hc,hm,hk⟩:=h
 let cs:Fin l.length->List Value:=fun k=>Classical.choose (Classical.choose_spec (Classical.choose_spec (hk k.1 k.2)))
 have hcs:∀k:Fin l.length,∃b off,ao=some ⟨b,off,none⟩/\M b/\b<w.heap.size/\(cs k).length=n/\(∀j,j<n->w.cell? ⟨b,off+k.1*n+j,none⟩=(cs k)[j]?)/\R M w (cs k) l[k.1]:=fun k=>
  ⟨_,_,Classical.choose_spec (Classical.choose_spec (Classical.choose_spec (hk k.1 k.2)))⟩
 let zs:List (List Value×α):=List.ofFn fun k:Fin l.length=>(cs k,l[k.1])
 have hzl:zs.length=l.length:=by simp [zs]
 have hzk:∀(k:Nat) (h:k<zs.length),zs[k]=(cs ⟨k,by omega⟩,l[k]'(by omega)):=fun k h=>by simp [zs]
 have hz1:∀z∈zs,z.1.length=n/\R M w z.1 z.2:=fun z hz=>by
  obtain ⟨k,hk',rfl⟩:=List.mem_iff_getElem.1 hz
  rw [hzk k hk']
  obtain ⟨b,off,-,-,-,h1,-,h2⟩:=hcs ⟨k,by omega⟩
  exact ⟨h1,h2⟩
 refine ⟨zs,?_,hz1,?_⟩
 ·
  refine List.ext_getElem (by simp [hzl]) fun k h1 h2=>?_
  rw [List.getElem_map,hzk k (by simpa using h1)]
 intro b off len cap' hv' j u hu
 have hfl:∀zs:List (List Value×α),(∀z∈zs,z.1.length=n)->(zs.flatMap (·.1)).length=zs.length*n:=fun zs=>by
  induction zs with
  | nil=>intro _;simp
  | cons x zs ih=>
    intro hf
    rw [List.flatMap_cons,List.length_append,ih (fun y hy=>hf y (by simp [hy])),hf x (by simp),List.length_cons,Nat.add_mul]
    omega
 have hj:j<zs.length*n:=by rw [<-hfl zs fun z hz=>(hz1 z hz).1];exact (List.getElem?_eq_some_iff.1 hu).1
 have hq:j / n<zs.length:=Nat.div_lt_of_lt_mul (by rw [Nat.mul_comm];exact hj)
 have hr:j % n<n:=Nat.mod_lt _ hn
 have hjd:j / n*n+j % n=j:=by rw [Nat.mul_comm];exact Nat.div_add_mod j n
 rw [<-hjd,ze3 (n:=n) (fun z:List Value×α=>z.1) zs (j / n) (j % n) (fun z hz=>(hz1 z hz).1) hq hr,hzk _ hq]at hu
 obtain ⟨b',off',e,-,-,-,hc',-⟩:=hcs ⟨j / n,by omega⟩
 rw [hv]at hv'
 rw [e]at hv'
 cases hv'
 have:=hc' (j % n) hr
 rw [zg1,<-hjd,<-Nat.add_assoc]
 exact this.trans hu
theorem zjw {α:Type} {zs:List (List Value×α)} {n:Nat} (h:∀z∈zs,z.1.length=n):(zs.flatMap (·.1)).length=zs.length*n:=by
 induction zs with
 | nil=>simp
 | cons x zs ih=>
   rw [List.flatMap_cons,List.length_append,ih (fun y hy=>h y (by simp [hy])),h x (by simp),List.length_cons,Nat.add_mul]
   omega
theorem oneSL {α:Type} {n:Nat} {R:(Nat->Prop)->World->List Value->α->Prop} {M:Nat->Prop} {w:World} {v:Value} {l:List α} (h:SL n R M w v l):v.oneCell'=true:=by
 obtain ⟨ao,c,rfl,-⟩:=h
 rfl
theorem oneRK {M:Nat->Prop} {w:World} {cs:List Value} {x:KindD} (h:RK M w cs x):∀u∈cs,u.oneCell'=true:=by
 rw [h.1];intro u hu;simp at hu;rcases hu with rfl | rfl<;>rfl
theorem oneRF {M:Nat->Prop} {w:World} {cs:List Value} {x:FieldD} (h:RF M w cs x):∀u∈cs,u.oneCell'=true:=by
 rw [h.1];intro u hu;simp at hu;rcases hu with rfl | rfl | rfl<;>rfl
theorem oneRH {M:Nat->Prop} {w:World} {cs:List Value} {x:HandD} (h:RH M w cs x):∀u∈cs,u.oneCell'=true:=by
 rw [h.1];intro u hu;simp at hu;rcases hu with rfl | rfl | rfl | rfl<;>rfl
theorem oneRM {M:Nat->Prop} {w:World} {cs:List Value} {x:MethD} (h:RM M w cs x):∀u∈cs,u.oneCell'=true:=by
 obtain ⟨va,vh,rfl,ha,hh,-⟩:=h
 intro u hu
 simp at hu
 rcases hu with rfl | rfl | rfl | rfl | rfl | rfl | rfl | rfl | rfl<;>first | rfl | exact oneSL ha | exact oneSL hh
theorem oneRC {M:Nat->Prop} {w:World} {cs:List Value} {x:ClassD} (h:RC M w cs x):∀u∈cs,u.oneCell'=true:=by
 obtain ⟨va,vh,rfl,ha,hh,-⟩:=h
 intro u hu
 simp at hu
 rcases hu with rfl | rfl | rfl | rfl<;>first | rfl | exact oneSL ha | exact oneSL hh
theorem zjx (w:World) (e n:Nat):(w.alloc (.cells #[] e)).ownsRow w.heap.size e n (.slice (some ⟨w.heap.size,0,none⟩) 0 0) 0 []:=
 ⟨by simp,Or.inr ⟨w.heap.size,0,#[],rfl,Nat.le_refl _,heap_alloc_new w _,Nat.le_refl _,by unfold maxLen;omega,by simp,by simp⟩⟩
theorem Tryz.infoClK:(Tryz.prog.info? 123).map (fun i=>(i.zero,i.size,i.bytes))=some (some (.agg #[.int .i64 0,.string ⟨#[]⟩]),2,24):=by kernel_rfl
theorem nilEqlK (c:Nat) (w:World):(binOp BinOp.eql 156 (.slice none 0 c) (.slice none 0 0)).run Tryz.prog w=.ok (.bool true) w:=by kernel_rfl
theorem nilNotK (a:Addr) (n c:Nat) (w:World):(binOp BinOp.eql 156 (.slice (some a) n c) (.slice none 0 0)).run Tryz.prog w=.ok (.bool false) w:=by kernel_rfl
theorem nilGK:Tryz.prog.eqGuardType Tryz.prog.depth 156=false:=by kernel_rfl
theorem zjy (w:World) (M:Nat->Prop) (v:Value) (l:List KindD) (hv:SL 2 RK M w v l) (hl:l.length<=100000):
 Calls Tryz.prog 214 #[v] w fun r w'=>Below w.heap.size w w'/\∃(v':Value) (zs:List (List Value×KindD)),r=.returned v'/\zs.map (·.2)=l/\(∀z∈zs,z.1.length=2/\RK M w z.1 z.2)/\w'.ownsRow w.heap.size 123 2 v' zs.length (zs.flatMap (·.1)):=by
 obtain ⟨iI,hiI,hz0,hz1,hz2⟩:=info_parts Tryz.infoClK
 have hnE:=nilEqlK
 have hnN:=nilNotK
 have hnG:=nilGK
 obtain ⟨zs,hzm,hzR,hzc⟩:=SL_zs (by decide) hv
 have hzl:zs.length=l.length:=by rw [<-hzm,List.length_map]
 have HLim:=mk0 hl
 clear hl
 have HM:=mk0 hzm
 have HR:=mk0 hzR
 have HB0:=mk0 (fun o=>(Below.refl w.heap.size w).alloc (Nat.le_refl _) o)
 obtain ⟨ao,cl,rfl,-,-,hel⟩:=hv
 cases ao with
 | none=>
   have hl0:l= []:=by
    cases l with
    | nil=>rfl
    | cons x l=>obtain ⟨b,off,cs,e,-⟩:=hel 0 (by simp);cases e
   subst hl0
   have hz0':zs= []:=List.eq_nil_of_length_eq_zero (by simpa using hzl)
   subst hz0'
   clear hel hzc hzm hzR hzl
   go_enter Tryz.func214,Tryz.ntmps214
   go_wp2_with fail
   go_ret
   exact ⟨Below.refl _ _,_,[],rfl,rfl,(fun z hz=>by cases hz),World.ownsRow_nil _ _ _ _⟩
 | some ad=>
   cases l with
   | nil=>
     have hz0':zs= []:=List.eq_nil_of_length_eq_zero (by simpa using hzl)
     subst hz0'
     have HE:=mk0 (zjx w 123 2)
     clear hel hzc hzm hzR hzl
     go_enter Tryz.func214,Tryz.ntmps214
     go_wp2_with (at_builtin;refine zf9 _ rfl _ _ 156 rfl 123 iI Tryz.underlying156 hiI (some ⟨w.heap.size,0,none⟩) 0 0 rfl (Nat.le_refl _) (Or.inr ⟨_,rfl⟩) (some ad) cl rfl ?_)
     go_ret
     exact ⟨HB0.out _,_,[],rfl,rfl,(fun z hz=>by cases hz),HE.out⟩
   | cons x l0=>
     generalize hL:x::l0=l at*
     have hpos:0<l.length:=by rw [<-hL];simp
     clear hL
     obtain ⟨b,off,cs,e,-,hb,-⟩:=hel 0 hpos
     cases e
     have HC:=mk0 (hzc b off _ _ rfl)
     have HLN:Hid ((zs.flatMap (·.1)).length=l.length*2):=by show _=_;rw [zjw fun z hz=>(hzR z hz).1,hzl]
     have H1:Hid (∀u∈zs.flatMap (·.1),u.oneCell'=true):=fun u hu=>by
      obtain ⟨z,hz,hu⟩:=List.mem_flatMap.1 hu
      exact oneRK (hzR z hz).2 u hu
     have HZL:=mk0 hzl
     have hfull:0<0+l.length:=by omega
     have HBB:Hid (0+l.length<=maxLen/\(0+l.length)*24<=140737488355328):=(by have hl:=HLim.out;exact ⟨by unfold maxLen;omega,by omega⟩)
     clear hel hzc hzm hzR hzl
     go_enter Tryz.func214,Tryz.ntmps214
     go_wp2_with (at_builtin;refine wpList_append_grows _ rfl _ _ 156 rfl 123 iI (.agg #[.int .i64 0,.string ⟨#[]⟩]) 2 24 Tryz.underlying156 hiI hz0 hz1 hz2 rfl (by decide) (some ⟨w.heap.size,0,none⟩) 0 0 [] rfl (fun e=>by cases e) (by simp) (fun _ _ j u hu=>by simp at hu) ⟨b,off,none⟩ l.length cl (zs.flatMap (·.1)) rfl HLN.out (fun j u hu=>by rw [zg1];exact (World.cell?_alloc_past _ _ _ hb).trans (by have:=HC.out j u hu;rwa [zg1]at this)) H1.out hfull HBB.out.1 HBB.out.2 ?_;intro v9 w9 hown9 hgr9;have HO9:Hid (w9.ownsRow w.heap.size 123 2 v9 zs.length (zs.flatMap (·.1))):=(by have h:=zbi hown9 (B':=w.heap.size) (by simp);rw [Nat.zero_add,List.nil_append,<-HZL.out]at h;exact h);have HB9:Hid (Below w.heap.size w w9):=(HB0.out _).grown hgr9 (by simp) (fun q e=>by cases e);obtain ⟨g9,c9,e9,-⟩:=hown9.form hfull;subst e9;have HO8:Hid (w9.ownsRow w.heap.size 123 2 (.slice (some ⟨g9,0,none⟩) l.length c9) zs.length (zs.flatMap (·.1))):=(by have h:=HO9.out;rwa [Nat.zero_add]at h);clear hown9 hgr9 HO9)
     go_ret
     exact ⟨HB9.out,_,zs,rfl,HM.out,HR.out,HO8.out⟩
theorem Tryz.infoClH:(Tryz.prog.info? 248).map (fun i=>(i.zero,i.size,i.bytes))=some (some (.agg #[.int .i64 0,.int .i64 0,.int .i64 0,.string ⟨#[]⟩]),4,40):=by kernel_rfl
theorem nilEqlH (c:Nat) (w:World):(binOp BinOp.eql 157 (.slice none 0 c) (.slice none 0 0)).run Tryz.prog w=.ok (.bool true) w:=by kernel_rfl
theorem nilNotH (a:Addr) (n c:Nat) (w:World):(binOp BinOp.eql 157 (.slice (some a) n c) (.slice none 0 0)).run Tryz.prog w=.ok (.bool false) w:=by kernel_rfl
theorem nilGH:Tryz.prog.eqGuardType Tryz.prog.depth 157=false:=by kernel_rfl
theorem zjz (w:World) (M:Nat->Prop) (v:Value) (l:List HandD) (hv:SL 4 RH M w v l) (hl:l.length<=100000):
 Calls Tryz.prog 215 #[v] w fun r w'=>Below w.heap.size w w'/\∃(v':Value) (zs:List (List Value×HandD)),r=.returned v'/\zs.map (·.2)=l/\(∀z∈zs,z.1.length=4/\RH M w z.1 z.2)/\w'.ownsRow w.heap.size 248 4 v' zs.length (zs.flatMap (·.1)):=by
 obtain ⟨iI,hiI,hz0,hz1,hz2⟩:=info_parts Tryz.infoClH
 have hnE:=nilEqlH
 have hnN:=nilNotH
 have hnG:=nilGH
 obtain ⟨zs,hzm,hzR,hzc⟩:=SL_zs (by decide) hv
 have hzl:zs.length=l.length:=by rw [<-hzm,List.length_map]
 have HLim:=mk0 hl
 clear hl
 have HM:=mk0 hzm
 have HR:=mk0 hzR
 have HB0:=mk0 (fun o=>(Below.refl w.heap.size w).alloc (Nat.le_refl _) o)
 obtain ⟨ao,cl,rfl,-,-,hel⟩:=hv
 cases ao with
 | none=>
   have hl0:l= []:=by
    cases l with
    | nil=>rfl
    | cons x l=>obtain ⟨b,off,cs,e,-⟩:=hel 0 (by simp);cases e
   subst hl0
   have hz0':zs= []:=List.eq_nil_of_length_eq_zero (by simpa using hzl)
   subst hz0'
   clear hel hzc hzm hzR hzl
   go_enter Tryz.func215,Tryz.ntmps215
   go_wp2_with fail
   go_ret
   exact ⟨Below.refl _ _,_,[],rfl,rfl,(fun z hz=>by cases hz),World.ownsRow_nil _ _ _ _⟩
 | some ad=>
   cases l with
   | nil=>
     have hz0':zs= []:=List.eq_nil_of_length_eq_zero (by simpa using hzl)
     subst hz0'
     have HE:=mk0 (zjx w 248 4)
     clear hel hzc hzm hzR hzl
     go_enter Tryz.func215,Tryz.ntmps215
     go_wp2_with (at_builtin;refine zf9 _ rfl _ _ 157 rfl 248 iI Tryz.underlying157 hiI (some ⟨w.heap.size,0,none⟩) 0 0 rfl (Nat.le_refl _) (Or.inr ⟨_,rfl⟩) (some ad) cl rfl ?_)
     go_ret
     exact ⟨HB0.out _,_,[],rfl,rfl,(fun z hz=>by cases hz),HE.out⟩
   | cons x l0=>
     generalize hL:x::l0=l at*
     have hpos:0<l.length:=by rw [<-hL];simp
     clear hL
     obtain ⟨b,off,cs,e,-,hb,-⟩:=hel 0 hpos
     cases e
     have HC:=mk0 (hzc b off _ _ rfl)
     have HLN:Hid ((zs.flatMap (·.1)).length=l.length*4):=by show _=_;rw [zjw fun z hz=>(hzR z hz).1,hzl]
     have H1:Hid (∀u∈zs.flatMap (·.1),u.oneCell'=true):=fun u hu=>by
      obtain ⟨z,hz,hu⟩:=List.mem_flatMap.1 hu
      exact oneRH (hzR z hz).2 u hu
     have HZL:=mk0 hzl
     have hfull:0<0+l.length:=by omega
     have HBB:Hid (0+l.length<=maxLen/\(0+l.length)*40<=140737488355328):=(by have hl:=HLim.out;exact ⟨by unfold maxLen;omega,by omega⟩)
     clear hel hzc hzm hzR hzl
     go_enter Tryz.func215,Tryz.ntmps215
     go_wp2_with (at_builtin;refine wpList_append_grows _ rfl _ _ 157 rfl 248 iI (.agg #[.int .i64 0,.int .i64 0,.int .i64 0,.string ⟨#[]⟩]) 4 40 Tryz.underlying157 hiI hz0 hz1 hz2 rfl (by decide) (some ⟨w.heap.size,0,none⟩) 0 0 [] rfl (fun e=>by cases e) (by simp) (fun _ _ j u hu=>by simp at hu) ⟨b,off,none⟩ l.length cl (zs.flatMap (·.1)) rfl HLN.out (fun j u hu=>by rw [zg1];exact (World.cell?_alloc_past _ _ _ hb).trans (by have:=HC.out j u hu;rwa [zg1]at this)) H1.out hfull HBB.out.1 HBB.out.2 ?_;intro v9 w9 hown9 hgr9;have HO9:Hid (w9.ownsRow w.heap.size 248 4 v9 zs.length (zs.flatMap (·.1))):=(by have h:=zbi hown9 (B':=w.heap.size) (by simp);rw [Nat.zero_add,List.nil_append,<-HZL.out]at h;exact h);have HB9:Hid (Below w.heap.size w w9):=(HB0.out _).grown hgr9 (by simp) (fun q e=>by cases e);obtain ⟨g9,c9,e9,-⟩:=hown9.form hfull;subst e9;have HO8:Hid (w9.ownsRow w.heap.size 248 4 (.slice (some ⟨g9,0,none⟩) l.length c9) zs.length (zs.flatMap (·.1))):=(by have h:=HO9.out;rwa [Nat.zero_add]at h);clear hown9 hgr9 HO9)
     go_ret
     exact ⟨HB9.out,_,zs,rfl,HM.out,HR.out,HO8.out⟩
theorem Tryz.infoClF:(Tryz.prog.info? 125).map (fun i=>(i.zero,i.size,i.bytes))=some (some (.agg #[.string ⟨#[]⟩,.int .i64 0,.string ⟨#[]⟩]),3,40):=by kernel_rfl
theorem nilEqlF (c:Nat) (w:World):(binOp BinOp.eql 126 (.slice none 0 c) (.slice none 0 0)).run Tryz.prog w=.ok (.bool true) w:=by kernel_rfl
theorem nilNotF (a:Addr) (n c:Nat) (w:World):(binOp BinOp.eql 126 (.slice (some a) n c) (.slice none 0 0)).run Tryz.prog w=.ok (.bool false) w:=by kernel_rfl
theorem nilGF:Tryz.prog.eqGuardType Tryz.prog.depth 126=false:=by kernel_rfl
theorem zj0 (w:World) (M:Nat->Prop) (v:Value) (l:List FieldD) (hv:SL 3 RF M w v l) (hl:l.length<=100000):
 Calls Tryz.prog 163 #[v] w fun r w'=>Below w.heap.size w w'/\∃(v':Value) (zs:List (List Value×FieldD)),r=.returned v'/\zs.map (·.2)=l/\(∀z∈zs,z.1.length=3/\RF M w z.1 z.2)/\w'.ownsRow w.heap.size 125 3 v' zs.length (zs.flatMap (·.1)):=by
 obtain ⟨iI,hiI,hz0,hz1,hz2⟩:=info_parts Tryz.infoClF
 have hnE:=nilEqlF
 have hnN:=nilNotF
 have hnG:=nilGF
 obtain ⟨zs,hzm,hzR,hzc⟩:=SL_zs (by decide) hv
 have hzl:zs.length=l.length:=by rw [<-hzm,List.length_map]
 have HLim:=mk0 hl
 clear hl
 have HM:=mk0 hzm
 have HR:=mk0 hzR
 have HB0:=mk0 (fun o=>(Below.refl w.heap.size w).alloc (Nat.le_refl _) o)
 obtain ⟨ao,cl,rfl,-,-,hel⟩:=hv
 cases ao with
 | none=>
   have hl0:l= []:=by
    cases l with
    | nil=>rfl
    | cons x l=>obtain ⟨b,off,cs,e,-⟩:=hel 0 (by simp);cases e
   subst hl0
   have hz0':zs= []:=List.eq_nil_of_length_eq_zero (by simpa using hzl)
   subst hz0'
   clear hel hzc hzm hzR hzl
   go_enter Tryz.func163,Tryz.ntmps163
   go_wp2_with fail
   go_ret
   exact ⟨Below.refl _ _,_,[],rfl,rfl,(fun z hz=>by cases hz),World.ownsRow_nil _ _ _ _⟩
 | some ad=>
   cases l with
   | nil=>
     have hz0':zs= []:=List.eq_nil_of_length_eq_zero (by simpa using hzl)
     subst hz0'
     have HE:=mk0 (zjx w 125 3)
     clear hel hzc hzm hzR hzl
     go_enter Tryz.func163,Tryz.ntmps163
     go_wp2_with (at_builtin;refine zf9 _ rfl _ _ 126 rfl 125 iI Tryz.underlying126 hiI (some ⟨w.heap.size,0,none⟩) 0 0 rfl (Nat.le_refl _) (Or.inr ⟨_,rfl⟩) (some ad) cl rfl ?_)
     go_ret
     exact ⟨HB0.out _,_,[],rfl,rfl,(fun z hz=>by cases hz),HE.out⟩
   | cons x l0=>
     generalize hL:x::l0=l at*
     have hpos:0<l.length:=by rw [<-hL];simp
     clear hL
     obtain ⟨b,off,cs,e,-,hb,-⟩:=hel 0 hpos
     cases e
     have HC:=mk0 (hzc b off _ _ rfl)
     have HLN:Hid ((zs.flatMap (·.1)).length=l.length*3):=by show _=_;rw [zjw fun z hz=>(hzR z hz).1,hzl]
     have H1:Hid (∀u∈zs.flatMap (·.1),u.oneCell'=true):=fun u hu=>by
      obtain ⟨z,hz,hu⟩:=List.mem_flatMap.1 hu
      exact oneRF (hzR z hz).2 u hu
     have HZL:=mk0 hzl
     have hfull:0<0+l.length:=by omega
     have HBB:Hid (0+l.length<=maxLen/\(0+l.length)*40<=140737488355328):=(by have hl:=HLim.out;exact ⟨by unfold maxLen;omega,by omega⟩)
     clear hel hzc hzm hzR hzl
     go_enter Tryz.func163,Tryz.ntmps163
     go_wp2_with (at_builtin;refine wpList_append_grows _ rfl _ _ 126 rfl 125 iI (.agg #[.string ⟨#[]⟩,.int .i64 0,.string ⟨#[]⟩]) 3 40 Tryz.underlying126 hiI hz0 hz1 hz2 rfl (by decide) (some ⟨w.heap.size,0,none⟩) 0 0 [] rfl (fun e=>by cases e) (by simp) (fun _ _ j u hu=>by simp at hu) ⟨b,off,none⟩ l.length cl (zs.flatMap (·.1)) rfl HLN.out (fun j u hu=>by rw [zg1];exact (World.cell?_alloc_past _ _ _ hb).trans (by have:=HC.out j u hu;rwa [zg1]at this)) H1.out hfull HBB.out.1 HBB.out.2 ?_;intro v9 w9 hown9 hgr9;have HO9:Hid (w9.ownsRow w.heap.size 125 3 v9 zs.length (zs.flatMap (·.1))):=(by have h:=zbi hown9 (B':=w.heap.size) (by simp);rw [Nat.zero_add,List.nil_append,<-HZL.out]at h;exact h);have HB9:Hid (Below w.heap.size w w9):=(HB0.out _).grown hgr9 (by simp) (fun q e=>by cases e);obtain ⟨g9,c9,e9,-⟩:=hown9.form hfull;subst e9;have HO8:Hid (w9.ownsRow w.heap.size 125 3 (.slice (some ⟨g9,0,none⟩) l.length c9) zs.length (zs.flatMap (·.1))):=(by have h:=HO9.out;rwa [Nat.zero_add]at h);clear hown9 hgr9 HO9)
     go_ret
     exact ⟨HB9.out,_,zs,rfl,HM.out,HR.out,HO8.out⟩
theorem Tryz.infoClM:(Tryz.prog.info? 159).map (fun i=>(i.zero,i.size,i.bytes))=some (some (.agg #[.string ⟨#[]⟩,.bool false,.slice none 0 0,.int .i64 0,.string ⟨#[]⟩,.int .i64 0,.int .i64 0,.string ⟨#[]⟩,.slice none 0 0]),9,128):=by kernel_rfl
theorem nilEqlM (c:Nat) (w:World):(binOp BinOp.eql 160 (.slice none 0 c) (.slice none 0 0)).run Tryz.prog w=.ok (.bool true) w:=by kernel_rfl
theorem nilNotM (a:Addr) (n c:Nat) (w:World):(binOp BinOp.eql 160 (.slice (some a) n c) (.slice none 0 0)).run Tryz.prog w=.ok (.bool false) w:=by kernel_rfl
theorem nilGM:Tryz.prog.eqGuardType Tryz.prog.depth 160=false:=by kernel_rfl
theorem zj1 (w:World) (M:Nat->Prop) (v:Value) (l:List MethD) (hv:SL 9 RM M w v l) (hl:l.length<=100000):
 Calls Tryz.prog 213 #[v] w fun r w'=>Below w.heap.size w w'/\∃(v':Value) (zs:List (List Value×MethD)),r=.returned v'/\zs.map (·.2)=l/\(∀z∈zs,z.1.length=9/\RM M w z.1 z.2)/\w'.ownsRow w.heap.size 159 9 v' zs.length (zs.flatMap (·.1)):=by
 obtain ⟨iI,hiI,hz0,hz1,hz2⟩:=info_parts Tryz.infoClM
 have hnE:=nilEqlM
 have hnN:=nilNotM
 have hnG:=nilGM
 obtain ⟨zs,hzm,hzR,hzc⟩:=SL_zs (by decide) hv
 have hzl:zs.length=l.length:=by rw [<-hzm,List.length_map]
 have HLim:=mk0 hl
 clear hl
 have HM:=mk0 hzm
 have HR:=mk0 hzR
 have HB0:=mk0 (fun o=>(Below.refl w.heap.size w).alloc (Nat.le_refl _) o)
 obtain ⟨ao,cl,rfl,-,-,hel⟩:=hv
 cases ao with
 | none=>
   have hl0:l= []:=by
    cases l with
    | nil=>rfl
    | cons x l=>obtain ⟨b,off,cs,e,-⟩:=hel 0 (by simp);cases e
   subst hl0
   have hz0':zs= []:=List.eq_nil_of_length_eq_zero (by simpa using hzl)
   subst hz0'
   clear hel hzc hzm hzR hzl
   go_enter Tryz.func213,Tryz.ntmps213
   go_wp2_with fail
   go_ret
   exact ⟨Below.refl _ _,_,[],rfl,rfl,(fun z hz=>by cases hz),World.ownsRow_nil _ _ _ _⟩
 | some ad=>
   cases l with
   | nil=>
     have hz0':zs= []:=List.eq_nil_of_length_eq_zero (by simpa using hzl)
     subst hz0'
     have HE:=mk0 (zjx w 159 9)
     clear hel hzc hzm hzR hzl
     go_enter Tryz.func213,Tryz.ntmps213
     go_wp2_with (at_builtin;refine zf9 _ rfl _ _ 160 rfl 159 iI Tryz.underlying160 hiI (some ⟨w.heap.size,0,none⟩) 0 0 rfl (Nat.le_refl _) (Or.inr ⟨_,rfl⟩) (some ad) cl rfl ?_)
     go_ret
     exact ⟨HB0.out _,_,[],rfl,rfl,(fun z hz=>by cases hz),HE.out⟩
   | cons x l0=>
     generalize hL:x::l0=l at*
     have hpos:0<l.length:=by rw [<-hL];simp
     clear hL
     obtain ⟨b,off,cs,e,-,hb,-⟩:=hel 0 hpos
     cases e
     have HC:=mk0 (hzc b off _ _ rfl)
     have HLN:Hid ((zs.flatMap (·.1)).length=l.length*9):=by show _=_;rw [zjw fun z hz=>(hzR z hz).1,hzl]
     have H1:Hid (∀u∈zs.flatMap (·.1),u.oneCell'=true):=fun u hu=>by
      obtain ⟨z,hz,hu⟩:=List.mem_flatMap.1 hu
      exact oneRM (hzR z hz).2 u hu
     have HZL:=mk0 hzl
     have hfull:0<0+l.length:=by omega
     have HBB:Hid (0+l.length<=maxLen/\(0+l.length)*128<=140737488355328):=(by have hl:=HLim.out;exact ⟨by unfold maxLen;omega,by omega⟩)
     clear hel hzc hzm hzR hzl
     go_enter Tryz.func213,Tryz.ntmps213
     go_wp2_with (at_builtin;refine wpList_append_grows _ rfl _ _ 160 rfl 159 iI (.agg #[.string ⟨#[]⟩,.bool false,.slice none 0 0,.int .i64 0,.string ⟨#[]⟩,.int .i64 0,.int .i64 0,.string ⟨#[]⟩,.slice none 0 0]) 9 128 Tryz.underlying160 hiI hz0 hz1 hz2 rfl (by decide) (some ⟨w.heap.size,0,none⟩) 0 0 [] rfl (fun e=>by cases e) (by simp) (fun _ _ j u hu=>by simp at hu) ⟨b,off,none⟩ l.length cl (zs.flatMap (·.1)) rfl HLN.out (fun j u hu=>by rw [zg1];exact (World.cell?_alloc_past _ _ _ hb).trans (by have:=HC.out j u hu;rwa [zg1]at this)) H1.out hfull HBB.out.1 HBB.out.2 ?_;intro v9 w9 hown9 hgr9;have HO9:Hid (w9.ownsRow w.heap.size 159 9 v9 zs.length (zs.flatMap (·.1))):=(by have h:=zbi hown9 (B':=w.heap.size) (by simp);rw [Nat.zero_add,List.nil_append,<-HZL.out]at h;exact h);have HB9:Hid (Below w.heap.size w w9):=(HB0.out _).grown hgr9 (by simp) (fun q e=>by cases e);obtain ⟨g9,c9,e9,-⟩:=hown9.form hfull;subst e9;have HO8:Hid (w9.ownsRow w.heap.size 159 9 (.slice (some ⟨g9,0,none⟩) l.length c9) zs.length (zs.flatMap (·.1))):=(by have h:=HO9.out;rwa [Nat.zero_add]at h);clear hown9 hgr9 HO9)
     go_ret
     exact ⟨HB9.out,_,zs,rfl,HM.out,HR.out,HO8.out⟩
theorem Tryz.infoClC:(Tryz.prog.info? 162).map (fun i=>(i.zero,i.size,i.bytes))=some (some (.agg #[.string ⟨#[]⟩,.string ⟨#[]⟩,.slice none 0 0,.slice none 0 0]),4,80):=by kernel_rfl
theorem nilEqlC (c:Nat) (w:World):(binOp BinOp.eql 31 (.slice none 0 c) (.slice none 0 0)).run Tryz.prog w=.ok (.bool true) w:=by kernel_rfl
theorem nilNotC (a:Addr) (n c:Nat) (w:World):(binOp BinOp.eql 31 (.slice (some a) n c) (.slice none 0 0)).run Tryz.prog w=.ok (.bool false) w:=by kernel_rfl
theorem nilGC:Tryz.prog.eqGuardType Tryz.prog.depth 31=false:=by kernel_rfl
theorem zj2 (w:World) (M:Nat->Prop) (v:Value) (l:List ClassD) (hv:SL 4 RC M w v l) (hl:l.length<=100000):
 Calls Tryz.prog 162 #[v] w fun r w'=>Below w.heap.size w w'/\∃(v':Value) (zs:List (List Value×ClassD)),r=.returned v'/\zs.map (·.2)=l/\(∀z∈zs,z.1.length=4/\RC M w z.1 z.2)/\w'.ownsRow w.heap.size 162 4 v' zs.length (zs.flatMap (·.1)):=by
 obtain ⟨iI,hiI,hz0,hz1,hz2⟩:=info_parts Tryz.infoClC
 have hnE:=nilEqlC
 have hnN:=nilNotC
 have hnG:=nilGC
 obtain ⟨zs,hzm,hzR,hzc⟩:=SL_zs (by decide) hv
 have hzl:zs.length=l.length:=by rw [<-hzm,List.length_map]
 have HLim:=mk0 hl
 clear hl
 have HM:=mk0 hzm
 have HR:=mk0 hzR
 have HB0:=mk0 (fun o=>(Below.refl w.heap.size w).alloc (Nat.le_refl _) o)
 obtain ⟨ao,cl,rfl,-,-,hel⟩:=hv
 cases ao with
 | none=>
   have hl0:l= []:=by
    cases l with
    | nil=>rfl
    | cons x l=>obtain ⟨b,off,cs,e,-⟩:=hel 0 (by simp);cases e
   subst hl0
   have hz0':zs= []:=List.eq_nil_of_length_eq_zero (by simpa using hzl)
   subst hz0'
   clear hel hzc hzm hzR hzl
   go_enter Tryz.func162,Tryz.ntmps162
   go_wp2_with fail
   go_ret
   exact ⟨Below.refl _ _,_,[],rfl,rfl,(fun z hz=>by cases hz),World.ownsRow_nil _ _ _ _⟩
 | some ad=>
   cases l with
   | nil=>
     have hz0':zs= []:=List.eq_nil_of_length_eq_zero (by simpa using hzl)
     subst hz0'
     have HE:=mk0 (zjx w 162 4)
     clear hel hzc hzm hzR hzl
     go_enter Tryz.func162,Tryz.ntmps162
     go_wp2_with (at_builtin;refine zf9 _ rfl _ _ 31 rfl 162 iI Tryz.underlying31 hiI (some ⟨w.heap.size,0,none⟩) 0 0 rfl (Nat.le_refl _) (Or.inr ⟨_,rfl⟩) (some ad) cl rfl ?_)
     go_ret
     exact ⟨HB0.out _,_,[],rfl,rfl,(fun z hz=>by cases hz),HE.out⟩
   | cons x l0=>
     generalize hL:x::l0=l at*
     have hpos:0<l.length:=by rw [<-hL];simp
     clear hL
     obtain ⟨b,off,cs,e,-,hb,-⟩:=hel 0 hpos
     cases e
     have HC:=mk0 (hzc b off _ _ rfl)
     have HLN:Hid ((zs.flatMap (·.1)).length=l.length*4):=by show _=_;rw [zjw fun z hz=>(hzR z hz).1,hzl]
     have H1:Hid (∀u∈zs.flatMap (·.1),u.oneCell'=true):=fun u hu=>by
      obtain ⟨z,hz,hu⟩:=List.mem_flatMap.1 hu
      exact oneRC (hzR z hz).2 u hu
     have HZL:=mk0 hzl
     have hfull:0<0+l.length:=by omega
     have HBB:Hid (0+l.length<=maxLen/\(0+l.length)*80<=140737488355328):=(by have hl:=HLim.out;exact ⟨by unfold maxLen;omega,by omega⟩)
     clear hel hzc hzm hzR hzl
     go_enter Tryz.func162,Tryz.ntmps162
     go_wp2_with (at_builtin;refine wpList_append_grows _ rfl _ _ 31 rfl 162 iI (.agg #[.string ⟨#[]⟩,.string ⟨#[]⟩,.slice none 0 0,.slice none 0 0]) 4 80 Tryz.underlying31 hiI hz0 hz1 hz2 rfl (by decide) (some ⟨w.heap.size,0,none⟩) 0 0 [] rfl (fun e=>by cases e) (by simp) (fun _ _ j u hu=>by simp at hu) ⟨b,off,none⟩ l.length cl (zs.flatMap (·.1)) rfl HLN.out (fun j u hu=>by rw [zg1];exact (World.cell?_alloc_past _ _ _ hb).trans (by have:=HC.out j u hu;rwa [zg1]at this)) H1.out hfull HBB.out.1 HBB.out.2 ?_;intro v9 w9 hown9 hgr9;have HO9:Hid (w9.ownsRow w.heap.size 162 4 v9 zs.length (zs.flatMap (·.1))):=(by have h:=zbi hown9 (B':=w.heap.size) (by simp);rw [Nat.zero_add,List.nil_append,<-HZL.out]at h;exact h);have HB9:Hid (Below w.heap.size w w9):=(HB0.out _).grown hgr9 (by simp) (fun q e=>by cases e);obtain ⟨g9,c9,e9,-⟩:=hown9.form hfull;subst e9;have HO8:Hid (w9.ownsRow w.heap.size 162 4 (.slice (some ⟨g9,0,none⟩) l.length c9) zs.length (zs.flatMap (·.1))):=(by have h:=HO9.out;rwa [Nat.zero_add]at h);clear hown9 hgr9 HO9)
     go_ret
     exact ⟨HB9.out,_,zs,rfl,HM.out,HR.out,HO8.out⟩
theorem zj3 {α:Type} {n:Nat} :∀(zs:List (List Value×α)) (k j:Nat) (v:Value),(∀z∈zs,z.1.length=n)->(hk:k<zs.length)->j<n->(zs.flatMap (·.1)).set (k*n+j) v=(zs.set k (zs[k].1.set j v,zs[k].2)).flatMap (·.1)
 | [],k,j,v,_,hk,_=>by simp at hk
 | x::zs,0,j,v,h,_,hj=>by
   have hx:=h x (List.mem_cons_self ..)
   simp [hx,hj]
 | x::zs,k+1,j,v,h,hk,hj=>by
   have hx:=h x (List.mem_cons_self ..)
   have hk':k<zs.length:=by simpa using hk
   have ih:=zj3 zs k j v (fun z hz=>h z (List.mem_cons_of_mem _ hz)) hk' hj
   have hlt:¬(k+1)*n+j<x.1.length:=by rw [hx,Nat.add_mul];omega
   have he:(k+1)*n+j - x.1.length=k*n+j:=by rw [hx,Nat.add_mul];omega
   simp only [List.flatMap_cons,List.set_append,hlt,if_false,he,ih,List.set_cons_succ,List.getElem_cons_succ]
theorem zj4 (w:World) (M:Nat->Prop) (v:Value) (l:List KindD) (hv:SL 2 RK M w v l) (hl:l.length<=100000):
 Calls Tryz.prog 214 #[v] w fun r w'=>Below w.heap.size w w'/\∃v',r=.returned v'/\SL 2 RK (MT w.heap.size [123] w') w' v' l:=
 (zjy w M v l hv hl).mono fun _ w' ⟨hb,v',zs,hr,hm,hz,ho⟩=>⟨hb,v',hr,by
  rw [<-hm]
  exact ze4 (T:=[123]) ho hz (by simp) (by have hz:zs.length=l.length:=(by rw [<-hm,List.length_map]);unfold maxLen;omega)⟩
theorem zj5 (w:World) (M:Nat->Prop) (v:Value) (l:List HandD) (hv:SL 4 RH M w v l) (hl:l.length<=100000):
 Calls Tryz.prog 215 #[v] w fun r w'=>Below w.heap.size w w'/\∃v',r=.returned v'/\SL 4 RH (MT w.heap.size [248] w') w' v' l:=
 (zjz w M v l hv hl).mono fun _ w' ⟨hb,v',zs,hr,hm,hz,ho⟩=>⟨hb,v',hr,by
  rw [<-hm]
  exact ze4 (T:=[248]) ho hz (by simp) (by have hz:zs.length=l.length:=(by rw [<-hm,List.length_map]);unfold maxLen;omega)⟩
theorem zj6 (w:World) (M:Nat->Prop) (v:Value) (l:List FieldD) (hv:SL 3 RF M w v l) (hl:l.length<=100000):
 Calls Tryz.prog 163 #[v] w fun r w'=>Below w.heap.size w w'/\∃v',r=.returned v'/\SL 3 RF (MT w.heap.size [125] w') w' v' l:=
 (zj0 w M v l hv hl).mono fun _ w' ⟨hb,v',zs,hr,hm,hz,ho⟩=>⟨hb,v',hr,by
  rw [<-hm]
  exact ze4 (T:=[125]) ho hz (by simp) (by have hz:zs.length=l.length:=(by rw [<-hm,List.length_map]);unfold maxLen;omega)⟩
theorem zj7 (w:World) (B:Nat) (v:Value) (l:List MethD) (hv:SL 9 RM (· <B) w v l) (hB:B<=w.heap.size) (hl:l.length<=100000) (hf:∀x∈l,x.args.length<=100000/\x.hands.length<=100000):
 Calls Tryz.prog 164 #[v] w fun r w'=>Below w.heap.size w w'/\∃v',r=.returned v'/\SL 9 RM (MT w.heap.size [159,123,248] w') w' v' l:=by
 have HV:=mk0 hv
 have HCL:=mk0 (zj1 w (· <B) v l hv hl)
 have HLim:=mk0 hl
 have HF:=mk0 hf
 obtain ⟨ao,ca,rfl,-⟩:=hv
 clear hl hf
 go_enter Tryz.func164,Tryz.ntmps164
 go_wp2_with (go_at_call 213;refine HCL.out.mono ?_;rintro r w1 ⟨hb1,v',zs0,rfl,hzm,hzR,hown⟩;have HB1:=mk0 hb1;have HZM:=mk0 hzm;have HZR:=mk0 hzR;have hzl0:zs0.length=l.length:=(by rw [<-hzm,List.length_map]);rw [hzl0]at hown;have HOW:=mk0 hown;obtain ⟨a0,c0,e0⟩:∃a0 c0,v'=.slice a0 l.length c0:=(by rcases hown.2 with ⟨e,h0⟩ | ⟨g,cap,cur,e,-⟩;(exact ⟨none,0,by rw [e,h0]⟩);(exact ⟨_,_,e⟩));subst e0;clear hb1 hzm hzR hown)
 clear HCL
 go_loopw [9] (fun i wr=>∃(k:Nat) (zs:List (List Value×MethD)),k<=l.length/\i=.int .i64 k/\Hid (zs.map (·.2)=l/\(∀z∈zs,z.1.length=9)/\(∀(j:Nat) (h:j<zs.length),j<k->RM (MT w.heap.size [123,248] wr) wr zs[j].1 zs[j].2)/\(∀(j:Nat) (h:j<zs.length),k<=j->RM (· <B) w zs[j].1 zs[j].2)/\wr.ownsRow w.heap.size 159 9 (.slice a0 l.length c0) l.length (zs.flatMap (·.1))/\Below w.heap.size w wr)) (fun i _=>l.length - (intOf i).toNat)
 case atStart=>exact ⟨0,zs0,Nat.zero_le _,rfl,HZM.out,(fun z hz=>(HZR.out z hz).1),(fun j h hj=>by omega),(fun j h _=>(HZR.out _ (List.getElem_mem h)).2),HOW.out,HB1.out⟩
 case round=>
  clear HZM HZR HOW HB1
  obtain ⟨k,zs,hk,rfl,HI⟩:=hrel
  obtain ⟨hzm,hz9,hdone,htodo,hown,hBr⟩:=HI.out
  have hzl:zs.length=l.length:=by rw [<-hzm,List.length_map]
  have hsr:w.heap.size<=wr.heap.size:=hBr.size
  by_cases hlt:k<l.length
  ·
   have hkz:k<zs.length:=by omega
   obtain ⟨g,cap,cur,eg,hgX,hgb,hgc,hgm,hgs,hgt⟩:∃g cap cur,Value.slice a0 l.length c0=.slice (some ⟨g,0,none⟩) l.length cap/\w.heap.size<=g/\wr.heap[g]? =some (.cells cur 159 (0,0))/\l.length<=cap/\cap<=maxLen/\cur.size=cap*9/\cur.toList.take (l.length*9)=zs.flatMap (·.1):=by
    rcases hown.2 with ⟨e,h0⟩ | h
    ·
     omega
    exact h
   obtain ⟨rfl,rfl⟩:a0=some ⟨g,0,none⟩/\c0=cap:=by injection eg with h1 h2 h3;exact ⟨h1,h3⟩
   have hlk:zs[k].2=l[k]:=by
    have:=List.getElem_map (f:=fun z:List Value×MethD=>z.2) (l:=zs) (i:=k) (h:=by simpa using hkz)
    rw [<-this]
    congr 1
   have htk:=htodo k hkz (Nat.le_refl _)
   rw [hlk]at htk
   obtain ⟨va,vh,hcs,s1,s2,hsz⟩:=htk
   have hcell:∀j u,zs[k].1[j]? =some u->wr.cell? ⟨g,k*9+j,none⟩=some u:=fun j u hu=>by
    have hj:j<9:=by have:=(List.getElem?_eq_some_iff.1 hu).1;rw [hz9 _ (List.getElem_mem hkz)]at this;exact this
    have:=hown.cells (g:=g) rfl (k*9+j) u (by rw [ze3 (n:=9) (fun z:List Value×MethD=>z.1) zs k j hz9 hkz hj];exact hu)
    rwa [zg1,Nat.zero_add]at this
   rw [hcs]at hcell
   have q0:wr.cell? ⟨g,k*9,none⟩=some (.string l[k].name):=hcell 0 _ rfl
   have q1:wr.cell? ⟨g,k*9+1,none⟩=some (.bool l[k].static):=hcell 1 _ rfl
   have q2:wr.cell? ⟨g,k*9+2,none⟩=some (va):=hcell 2 _ rfl
   have q3:wr.cell? ⟨g,k*9+3,none⟩=some (.int .i64 l[k].ret.kind):=hcell 3 _ rfl
   have q4:wr.cell? ⟨g,k*9+4,none⟩=some (.string l[k].ret.cls):=hcell 4 _ rfl
   have q5:wr.cell? ⟨g,k*9+5,none⟩=some (.int .i64 l[k].stack):=hcell 5 _ rfl
   have q6:wr.cell? ⟨g,k*9+6,none⟩=some (.int .i64 l[k].locals):=hcell 6 _ rfl
   have q7:wr.cell? ⟨g,k*9+7,none⟩=some (.string l[k].code):=hcell 7 _ rfl
   have q8:wr.cell? ⟨g,k*9+8,none⟩=some (vh):=hcell 8 _ rfl
   have hgl:g<wr.heap.size:=lt0 hgb
   have HS1:=mk0 s1
   have HS2:=mk0 s2
   obtain ⟨o1,d1,rfl,-⟩:=s1
   obtain ⟨o2,d2,rfl,-⟩:=s2
   have hfk:=HF.out l[k] (List.getElem_mem hlt)
   have HFK:=mk0 hfk
   have HHC:=mk0 hcs
   have HOW:=mk0 hown
   have HGB:=mk0 hgb
   have HHL:=mk0 hlk
   have HSZ:=mk0 hsz
   have h00:(0:Int)<=k:=by omega
   have h01:(k:Int)<l.length:=by omega
   clear hfk hcell hcs hown hgb hgc hgm hgs hgt hdone htodo hz9 hzm hlk eg hsz
   have hYg:wr.heap.size≠g:=by omega
   have hB1:Below w.heap.size w (wr.alloc (.cells #[.string l[k].name,.bool l[k].static,.slice o1 l[k].args.length d1,.int .i64 l[k].ret.kind,.string l[k].ret.cls,.int .i64 l[k].stack,.int .i64 l[k].locals,.string l[k].code,.slice o2 l[k].hands.length d2] 159)):=hBr.alloc hsr _
   have HB1:=mk0 hB1
   have HC1:=mk0 (zj4 (wr.alloc (.cells #[.string l[k].name,.bool l[k].static,.slice o1 l[k].args.length d1,.int .i64 l[k].ret.kind,.string l[k].ret.cls,.int .i64 l[k].stack,.int .i64 l[k].locals,.string l[k].code,.slice o2 l[k].hands.length d2] 159)) (· <B) _ _ (HS1.out.keptK (Kp.below (hB1.mono hB))) HFK.out.1)
   clear hB1
   go_wp2_with fail
   refine HC1.out.mono ?_
   rintro r w2 ⟨hb2,v1,rfl,sv1⟩
   have HB2:=mk0 hb2
   have HV1:=mk0 sv1
   obtain ⟨p1,e1,rfl,-⟩:=sv1
   have hg2:w2.heap[g]? =some (.cells cur 159 (0,0)):=((hb2.block g (by simp;omega)).trans ((Below.heap_alloc _ _ _ hgl).trans HGB.out))
   have m2:w2.cell? ⟨g,k*9+2,none⟩=some (.slice o1 l[k].args.length d1):=((hb2.cell (p:=⟨g,k*9+2,none⟩) (by simp;omega)).trans ((World.cell?_alloc_past _ _ _ hgl).trans q2))
   have z2:w2.frozen? ⟨g,k*9+2,none⟩=false:=zcf hg2 _
   have y2:w2.cell? ⟨wr.heap.size,8,none⟩=some (.slice o2 l[k].hands.length d2):=((hb2.cell (p:=⟨wr.heap.size,8,none⟩) (by simp)).trans (by simp [go_sem]))
   have lg2:g<w2.heap.size:=lt0 hg2
   have lY2:wr.heap.size<w2.heap.size:=(by have:=hb2.size;simp at this;omega)
   have x2:w2.cell? ⟨g,k*9+8,none⟩=some (.slice o2 l[k].hands.length d2):=((hb2.cell (p:=⟨g,k*9+8,none⟩) (by simp;omega)).trans ((World.cell?_alloc_past _ _ _ hgl).trans q8))
   have HG2:=mk0 hg2
   clear hb2 hg2
   go_wp2_with fail
   have hB3:Below w.heap.size w (w2.setCell ⟨g,k*9+2,none⟩ (.slice p1 l[k].args.length e1)):=(HB1.out.trans (HB2.out.mono HB1.out.size)).setCell hgX _
   have HB3:=mk0 hB3
   have hg3:=zg6 (j:=k*9+2) HG2.out (.slice p1 l[k].args.length e1)
   have x3:(w2.setCell ⟨g,k*9+2,none⟩ (.slice p1 l[k].args.length e1)).cell? ⟨g,k*9+8,none⟩=some (.slice o2 l[k].hands.length d2):=(World.cell?_setCell_other _ _ _ _ (by simp)).trans x2
   have HW3:Hid (Stp w.heap.size [123,248] w2 (w2.setCell ⟨g,k*9+2,none⟩ (.slice p1 l[k].args.length e1))):=Stp.set HG2.out (by decide) _ _
   have HO3:=mk0 (zg7 (zbh (HOW.out.alloc _) HB2.out) (k*9+2) (.slice p1 l[k].args.length e1))
   clear m2 z2 y2 lY2 x2 lg2 HG2
   clear q0 q1 q2 q3 q4 q5 q6 q7 q8
   generalize hw3:w2.setCell ⟨g,k*9+2,none⟩ (.slice p1 l[k].args.length e1)=w3 at*
   clear hw3
   refine (zj5 w3 (· <B) _ _ (HS2.out.keptH (Kp.below (hB3.mono hB))) HFK.out.2).mono ?_
   rintro r w4 ⟨hb4,v2,rfl,sv2⟩
   have HV2:=mk0 sv2
   obtain ⟨p2,e2,rfl,-⟩:=sv2
   have hg4:=(hb4.block g (lt0 hg3)).trans hg3
   have m4:w4.cell? ⟨g,k*9+8,none⟩=some (.slice o2 l[k].hands.length d2):=(hb4.cell (p:=⟨g,k*9+8,none⟩) (lt0 hg3)).trans x3
   have z4:w4.frozen? ⟨g,k*9+8,none⟩=false:=zcf hg4 _
   have lg4:g<w4.heap.size:=lt0 hg4
   have HFIN:Hid (∃zs':List (List Value×MethD),zs'.map (·.2)=l/\(∀z∈zs',z.1.length=9)/\(∀(j:Nat) (h:j<zs'.length),j<k+1->RM (MT w.heap.size [123,248] (w4.setCell ⟨g,k*9+8,none⟩ (.slice p2 l[k].hands.length e2))) (w4.setCell ⟨g,k*9+8,none⟩ (.slice p2 l[k].hands.length e2)) zs'[j].1 zs'[j].2)/\(∀(j:Nat) (h:j<zs'.length),k+1<=j->RM (· <B) w zs'[j].1 zs'[j].2)/\(w4.setCell ⟨g,k*9+8,none⟩ (.slice p2 l[k].hands.length e2)).ownsRow w.heap.size 159 9 (.slice (some ⟨g,0,none⟩) l.length c0) l.length (zs'.flatMap (·.1))/\Below w.heap.size w (w4.setCell ⟨g,k*9+8,none⟩ (.slice p2 l[k].hands.length e2))):=by
    obtain ⟨hzm,hz9,hdone,htodo,-,-⟩:=HI.out
    have s45:Stp w.heap.size [123,248] w4 (w4.setCell ⟨g,k*9+8,none⟩ (.slice p2 l[k].hands.length e2)):=Stp.set hg4 (by decide) _ _
    have s34:Stp w.heap.size [123,248] w3 w4:=Stp.below hb4
    have s12:Stp w.heap.size [123,248] wr w2:=(Stp.alloc (Stp.refl _ _ _) _).trans (Stp.below HB2.out)
    have s25:=(HW3.out.trans s34).trans s45
    have ho5:=zg7 (zbh HO3.out hb4) (k*9+8) (.slice p2 l[k].hands.length e2)
    have hz1:∀z∈zs.set k (zs[k].1.set 2 (.slice p1 l[k].args.length e1),zs[k].2),z.1.length=9:=fun z hz=>by
     rcases List.mem_or_eq_of_mem_set hz with h | h
     ·
      exact hz9 z h
     rw [h,List.length_set];exact hz9 _ (List.getElem_mem hkz)
    rw [zj3 zs k 2 _ hz9 hkz (by decide),zj3 _ k 8 _ hz1 (by rw [List.length_set];exact hkz) (by decide),List.set_set,List.getElem_set_self]at ho5
    refine ⟨zs.set k ((zs[k].1.set 2 (.slice p1 l[k].args.length e1)).set 8 (.slice p2 l[k].hands.length e2),zs[k].2),?_,?_,?_,?_,ho5,(HB3.out.trans (hb4.mono HB3.out.size)).setCell hgX _⟩
    ·
     rw [List.map_set]
     refine (congrArg (fun x=>(zs.map (·.2)).set k x) (List.getElem_map (f:=fun z:List Value×MethD=>z.2) (h:=by simpa using hkz)).symm).trans ?_
     rw [List.set_getElem_self,hzm]
    ·
     intro z hz
     rcases List.mem_or_eq_of_mem_set hz with h | h
     ·
      exact hz9 z h
     rw [h,List.length_set,List.length_set];exact hz9 _ (List.getElem_mem hkz)
    ·
     intro j h hj
     have h':j<zs.length:=by simpa using h
     by_cases hjk:j=k
     ·
      subst hjk
      rw [List.getElem_set_self,HHC.out,HHL.out]
      exact ⟨_,_,rfl,(HV1.out.monoK (fun _ hk=>hk.more (T':=[123,248]) HB1.out.size (fun _ ht=>by simp at ht;simp [ht]))).stpK s25,(HV2.out.monoH (fun _ hk=>hk.more (T':=[123,248]) HB3.out.size (fun _ ht=>by simp at ht;simp [ht]))).stpH s45,HSZ.out⟩
     rw [List.getElem_set_ne (by omega)]
     exact ((hdone j h' (by omega)).stp s12).stp s25
    intro j h hj
    have h':j<zs.length:=by simpa using h
    rw [List.getElem_set_ne (by omega)]
    exact htodo j h' (by omega)
   clear HB3 HW3 HO3 HV1 HV2 HS1 HS2 HFK HHC HOW HGB HHL HSZ hg3 hg4 x3 hb4 hB3 HB2 HI
   have hll:l.length<=9223372036854775807:=by have:=HLim.out;omega
   go_wp2_with fail
   go_roundw
   case rel=>exact ⟨k+1,HFIN.out.choose,by omega,by go_num,HFIN.out.choose_spec⟩
   case measure=>simp [intOf];omega
  have hkl:k=l.length:=by omega
  have HFIN:Hid (SL 9 RM (MT w.heap.size [159,123,248] wr) wr (.slice a0 l.length c0) l):=by
   have:=ze4 (R:=RM) (T:=[159,123,248]) (zs:=zs) (n:=9) (by rw [hzl];exact hown) (fun z hz=>⟨hz9 z hz,by
    obtain ⟨j,hj,rfl⟩:=List.mem_iff_getElem.1 hz
    exact (hdone j hj (by omega)).mono fun _ hk=>hk.more (Nat.le_refl _) (fun _ ht=>List.mem_cons_of_mem _ ht)⟩) (by simp) (by have:=HLim.out;unfold maxLen;omega)
   rw [hzm]at this
   exact this
  have HBE:=mk0 hBr
  clear hown hdone htodo hz9 HI
  go_wp2_with fail
  go_ret
  exact ⟨HBE.out,_,rfl,HFIN.out⟩
theorem zj8 (w:World) (B:Nat) (v:Value) (l:List ClassD) (hv:SL 4 RC (· <B) w v l) (hB:B<=w.heap.size) (hl:l.length<=100000) (hf:∀x∈l,x.fields.length<=100000/\x.meths.length<=100000/\∀m∈x.meths,m.args.length<=100000/\m.hands.length<=100000):
 Calls Tryz.prog 102 #[v] w fun r w'=>Below w.heap.size w w'/\∃v',r=.returned v'/\SL 4 RC (MT w.heap.size [162,125,159,123,248] w') w' v' l:=by
 have HV:=mk0 hv
 have HCL:=mk0 (zj2 w (· <B) v l hv hl)
 have HLim:=mk0 hl
 have HF:=mk0 hf
 obtain ⟨ao,ca,rfl,-⟩:=hv
 clear hl hf
 go_enter Tryz.func102,Tryz.ntmps102
 go_wp2_with (go_at_call 162;refine HCL.out.mono ?_;rintro r w1 ⟨hb1,v',zs0,rfl,hzm,hzR,hown⟩;have HB1:=mk0 hb1;have HZM:=mk0 hzm;have HZR:=mk0 hzR;have hzl0:zs0.length=l.length:=(by rw [<-hzm,List.length_map]);rw [hzl0]at hown;have HOW:=mk0 hown;obtain ⟨a0,c0,e0⟩:∃a0 c0,v'=.slice a0 l.length c0:=(by rcases hown.2 with ⟨e,h0⟩ | ⟨g,cap,cur,e,-⟩;(exact ⟨none,0,by rw [e,h0]⟩);(exact ⟨_,_,e⟩));subst e0;clear hb1 hzm hzR hown)
 clear HCL
 go_loopw [9] (fun i wr=>∃(k:Nat) (zs:List (List Value×ClassD)),k<=l.length/\i=.int .i64 k/\Hid (zs.map (·.2)=l/\(∀z∈zs,z.1.length=4)/\(∀(j:Nat) (h:j<zs.length),j<k->RC (MT w.heap.size [125,159,123,248] wr) wr zs[j].1 zs[j].2)/\(∀(j:Nat) (h:j<zs.length),k<=j->RC (· <B) w zs[j].1 zs[j].2)/\wr.ownsRow w.heap.size 162 4 (.slice a0 l.length c0) l.length (zs.flatMap (·.1))/\Below w.heap.size w wr)) (fun i _=>l.length - (intOf i).toNat)
 case atStart=>exact ⟨0,zs0,Nat.zero_le _,rfl,HZM.out,(fun z hz=>(HZR.out z hz).1),(fun j h hj=>by omega),(fun j h _=>(HZR.out _ (List.getElem_mem h)).2),HOW.out,HB1.out⟩
 case round=>
  clear HZM HZR HOW HB1
  obtain ⟨k,zs,hk,rfl,HI⟩:=hrel
  obtain ⟨hzm,hz9,hdone,htodo,hown,hBr⟩:=HI.out
  have hzl:zs.length=l.length:=by rw [<-hzm,List.length_map]
  have hsr:w.heap.size<=wr.heap.size:=hBr.size
  by_cases hlt:k<l.length
  ·
   have hkz:k<zs.length:=by omega
   obtain ⟨g,cap,cur,eg,hgX,hgb,hgc,hgm,hgs,hgt⟩:∃g cap cur,Value.slice a0 l.length c0=.slice (some ⟨g,0,none⟩) l.length cap/\w.heap.size<=g/\wr.heap[g]? =some (.cells cur 162 (0,0))/\l.length<=cap/\cap<=maxLen/\cur.size=cap*4/\cur.toList.take (l.length*4)=zs.flatMap (·.1):=by
    rcases hown.2 with ⟨e,h0⟩ | h
    ·
     omega
    exact h
   obtain ⟨rfl,rfl⟩:a0=some ⟨g,0,none⟩/\c0=cap:=by injection eg with h1 h2 h3;exact ⟨h1,h3⟩
   have hlk:zs[k].2=l[k]:=by
    have:=List.getElem_map (f:=fun z:List Value×ClassD=>z.2) (l:=zs) (i:=k) (h:=by simpa using hkz)
    rw [<-this]
    congr 1
   have htk:=htodo k hkz (Nat.le_refl _)
   rw [hlk]at htk
   obtain ⟨va,vh,hcs,s1,s2,hsz⟩:=htk
   have hcell:∀j u,zs[k].1[j]? =some u->wr.cell? ⟨g,k*4+j,none⟩=some u:=fun j u hu=>by
    have hj:j<4:=by have:=(List.getElem?_eq_some_iff.1 hu).1;rw [hz9 _ (List.getElem_mem hkz)]at this;exact this
    have:=hown.cells (g:=g) rfl (k*4+j) u (by rw [ze3 (n:=4) (fun z:List Value×ClassD=>z.1) zs k j hz9 hkz hj];exact hu)
    rwa [zg1,Nat.zero_add]at this
   rw [hcs]at hcell
   have q0:wr.cell? ⟨g,k*4,none⟩=some (.string l[k].name):=hcell 0 _ rfl
   have q1:wr.cell? ⟨g,k*4+1,none⟩=some (.string l[k].super):=hcell 1 _ rfl
   have q2:wr.cell? ⟨g,k*4+2,none⟩=some (va):=hcell 2 _ rfl
   have q3:wr.cell? ⟨g,k*4+3,none⟩=some (vh):=hcell 3 _ rfl
   have hgl:g<wr.heap.size:=lt0 hgb
   have HS1:=mk0 s1
   have HS2:=mk0 s2
   obtain ⟨o1,d1,rfl,-⟩:=s1
   obtain ⟨o2,d2,rfl,-⟩:=s2
   have hfk:=HF.out l[k] (List.getElem_mem hlt)
   have HFK:=mk0 hfk
   have HHC:=mk0 hcs
   have HOW:=mk0 hown
   have HGB:=mk0 hgb
   have HHL:=mk0 hlk
   have HSZ:=mk0 hsz
   have h00:(0:Int)<=k:=by omega
   have h01:(k:Int)<l.length:=by omega
   clear hfk hcell hcs hown hgb hgc hgm hgs hgt hdone htodo hz9 hzm hlk eg hsz
   have hYg:wr.heap.size≠g:=by omega
   have hB1:Below w.heap.size w (wr.alloc (.cells #[.string l[k].name,.string l[k].super,.slice o1 l[k].fields.length d1,.slice o2 l[k].meths.length d2] 162)):=hBr.alloc hsr _
   have HB1:=mk0 hB1
   have HC1:=mk0 (zj6 (wr.alloc (.cells #[.string l[k].name,.string l[k].super,.slice o1 l[k].fields.length d1,.slice o2 l[k].meths.length d2] 162)) (· <B) _ _ (HS1.out.keptF (Kp.below (hB1.mono hB))) HFK.out.1)
   clear hB1
   go_wp2_with fail
   refine HC1.out.mono ?_
   rintro r w2 ⟨hb2,v1,rfl,sv1⟩
   have HB2:=mk0 hb2
   have HV1:=mk0 sv1
   obtain ⟨p1,e1,rfl,-⟩:=sv1
   have hg2:w2.heap[g]? =some (.cells cur 162 (0,0)):=((hb2.block g (by simp;omega)).trans ((Below.heap_alloc _ _ _ hgl).trans HGB.out))
   have m2:w2.cell? ⟨g,k*4+2,none⟩=some (.slice o1 l[k].fields.length d1):=((hb2.cell (p:=⟨g,k*4+2,none⟩) (by simp;omega)).trans ((World.cell?_alloc_past _ _ _ hgl).trans q2))
   have z2:w2.frozen? ⟨g,k*4+2,none⟩=false:=zcf hg2 _
   have y2:w2.cell? ⟨wr.heap.size,3,none⟩=some (.slice o2 l[k].meths.length d2):=((hb2.cell (p:=⟨wr.heap.size,3,none⟩) (by simp)).trans (by simp [go_sem]))
   have lg2:g<w2.heap.size:=lt0 hg2
   have lY2:wr.heap.size<w2.heap.size:=(by have:=hb2.size;simp at this;omega)
   have x2:w2.cell? ⟨g,k*4+3,none⟩=some (.slice o2 l[k].meths.length d2):=((hb2.cell (p:=⟨g,k*4+3,none⟩) (by simp;omega)).trans ((World.cell?_alloc_past _ _ _ hgl).trans q3))
   have HG2:=mk0 hg2
   clear hb2 hg2
   go_wp2_with fail
   have hB3:Below w.heap.size w (w2.setCell ⟨g,k*4+2,none⟩ (.slice p1 l[k].fields.length e1)):=(HB1.out.trans (HB2.out.mono HB1.out.size)).setCell hgX _
   have HB3:=mk0 hB3
   have hg3:=zg6 (j:=k*4+2) HG2.out (.slice p1 l[k].fields.length e1)
   have x3:(w2.setCell ⟨g,k*4+2,none⟩ (.slice p1 l[k].fields.length e1)).cell? ⟨g,k*4+3,none⟩=some (.slice o2 l[k].meths.length d2):=(World.cell?_setCell_other _ _ _ _ (by simp)).trans x2
   have HW3:Hid (Stp w.heap.size [125,159,123,248] w2 (w2.setCell ⟨g,k*4+2,none⟩ (.slice p1 l[k].fields.length e1))):=Stp.set HG2.out (by decide) _ _
   have HO3:=mk0 (zg7 (zbh (HOW.out.alloc _) HB2.out) (k*4+2) (.slice p1 l[k].fields.length e1))
   clear m2 z2 y2 lY2 x2 lg2 HG2
   clear q0 q1 q2 q3
   generalize hw3:w2.setCell ⟨g,k*4+2,none⟩ (.slice p1 l[k].fields.length e1)=w3 at*
   clear hw3
   refine (zj7 w3 B _ _ (HS2.out.keptM (Kp.below (hB3.mono hB))) (Nat.le_trans hB hB3.size) HFK.out.2.1 HFK.out.2.2).mono ?_
   rintro r w4 ⟨hb4,v2,rfl,sv2⟩
   have HV2:=mk0 sv2
   obtain ⟨p2,e2,rfl,-⟩:=sv2
   have hg4:=(hb4.block g (lt0 hg3)).trans hg3
   have m4:w4.cell? ⟨g,k*4+3,none⟩=some (.slice o2 l[k].meths.length d2):=(hb4.cell (p:=⟨g,k*4+3,none⟩) (lt0 hg3)).trans x3
   have z4:w4.frozen? ⟨g,k*4+3,none⟩=false:=zcf hg4 _
   have lg4:g<w4.heap.size:=lt0 hg4
   have HFIN:Hid (∃zs':List (List Value×ClassD),zs'.map (·.2)=l/\(∀z∈zs',z.1.length=4)/\(∀(j:Nat) (h:j<zs'.length),j<k+1->RC (MT w.heap.size [125,159,123,248] (w4.setCell ⟨g,k*4+3,none⟩ (.slice p2 l[k].meths.length e2))) (w4.setCell ⟨g,k*4+3,none⟩ (.slice p2 l[k].meths.length e2)) zs'[j].1 zs'[j].2)/\(∀(j:Nat) (h:j<zs'.length),k+1<=j->RC (· <B) w zs'[j].1 zs'[j].2)/\(w4.setCell ⟨g,k*4+3,none⟩ (.slice p2 l[k].meths.length e2)).ownsRow w.heap.size 162 4 (.slice (some ⟨g,0,none⟩) l.length c0) l.length (zs'.flatMap (·.1))/\Below w.heap.size w (w4.setCell ⟨g,k*4+3,none⟩ (.slice p2 l[k].meths.length e2))):=by
    obtain ⟨hzm,hz9,hdone,htodo,-,-⟩:=HI.out
    have s45:Stp w.heap.size [125,159,123,248] w4 (w4.setCell ⟨g,k*4+3,none⟩ (.slice p2 l[k].meths.length e2)):=Stp.set hg4 (by decide) _ _
    have s34:Stp w.heap.size [125,159,123,248] w3 w4:=Stp.below hb4
    have s12:Stp w.heap.size [125,159,123,248] wr w2:=(Stp.alloc (Stp.refl _ _ _) _).trans (Stp.below HB2.out)
    have s25:=(HW3.out.trans s34).trans s45
    have ho5:=zg7 (zbh HO3.out hb4) (k*4+3) (.slice p2 l[k].meths.length e2)
    have hz1:∀z∈zs.set k (zs[k].1.set 2 (.slice p1 l[k].fields.length e1),zs[k].2),z.1.length=4:=fun z hz=>by
     rcases List.mem_or_eq_of_mem_set hz with h | h
     ·
      exact hz9 z h
     rw [h,List.length_set];exact hz9 _ (List.getElem_mem hkz)
    rw [zj3 zs k 2 _ hz9 hkz (by decide),zj3 _ k 3 _ hz1 (by rw [List.length_set];exact hkz) (by decide),List.set_set,List.getElem_set_self]at ho5
    refine ⟨zs.set k ((zs[k].1.set 2 (.slice p1 l[k].fields.length e1)).set 3 (.slice p2 l[k].meths.length e2),zs[k].2),?_,?_,?_,?_,ho5,(HB3.out.trans (hb4.mono HB3.out.size)).setCell hgX _⟩
    ·
     rw [List.map_set]
     refine (congrArg (fun x=>(zs.map (·.2)).set k x) (List.getElem_map (f:=fun z:List Value×ClassD=>z.2) (h:=by simpa using hkz)).symm).trans ?_
     rw [List.set_getElem_self,hzm]
    ·
     intro z hz
     rcases List.mem_or_eq_of_mem_set hz with h | h
     ·
      exact hz9 z h
     rw [h,List.length_set,List.length_set];exact hz9 _ (List.getElem_mem hkz)
    ·
     intro j h hj
     have h':j<zs.length:=by simpa using h
     by_cases hjk:j=k
     ·
      subst hjk
      rw [List.getElem_set_self,HHC.out,HHL.out]
      exact ⟨_,_,rfl,(HV1.out.monoF (fun _ hk=>hk.more (T':=[125,159,123,248]) HB1.out.size (fun _ ht=>by simp at ht;simp [ht]))).stpF s25,(HV2.out.monoM (fun _ hk=>hk.more (T':=[125,159,123,248]) HB3.out.size (fun _ ht=>by simp at ht;simp [ht]))).stpM s45,HSZ.out⟩
     rw [List.getElem_set_ne (by omega)]
     exact ((hdone j h' (by omega)).stp s12).stp s25
    intro j h hj
    have h':j<zs.length:=by simpa using h
    rw [List.getElem_set_ne (by omega)]
    exact htodo j h' (by omega)
   clear HB3 HW3 HO3 HV1 HV2 HS1 HS2 HFK HHC HOW HGB HHL HSZ hg3 hg4 x3 hb4 hB3 HB2 HI
   have hll:l.length<=9223372036854775807:=by have:=HLim.out;omega
   go_wp2_with fail
   go_roundw
   case rel=>exact ⟨k+1,HFIN.out.choose,by omega,by go_num,HFIN.out.choose_spec⟩
   case measure=>simp [intOf];omega
  have hkl:k=l.length:=by omega
  have HFIN:Hid (SL 4 RC (MT w.heap.size [162,125,159,123,248] wr) wr (.slice a0 l.length c0) l):=by
   have:=ze4 (R:=RC) (T:=[162,125,159,123,248]) (zs:=zs) (n:=4) (by rw [hzl];exact hown) (fun z hz=>⟨hz9 z hz,by
    obtain ⟨j,hj,rfl⟩:=List.mem_iff_getElem.1 hz
    exact (hdone j hj (by omega)).mono fun _ hk=>hk.more (Nat.le_refl _) (fun _ ht=>List.mem_cons_of_mem _ ht)⟩) (by simp) (by have:=HLim.out;unfold maxLen;omega)
   rw [hzm]at this
   exact this
  have HBE:=mk0 hBr
  clear hown hdone htodo hz9 HI
  go_wp2_with fail
  go_ret
  exact ⟨HBE.out,_,rfl,HFIN.out⟩
end Go.Proofs.YtjdnmblggdobgaaGreat
