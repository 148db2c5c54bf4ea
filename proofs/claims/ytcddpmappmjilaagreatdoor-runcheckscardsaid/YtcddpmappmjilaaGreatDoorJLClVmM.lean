import Derived.Test.YtcddpmappmjilaaGreatDoorJLDifLFld
import Derived.Test.YtcddpmappmjilaaGreatDoorJLMkArgL
import Derived.Test.YtcddpmappmjilaaGreatDoorJVkMVoA
import Derived.Test.YtcddpmappmjilaaGreatDoorVkB
import Derived.Deep.AppendLies
import Derived.Test.YtcddpmappmjilaaGreatDoorJLDatVkP
import Derived.Test.YtcddpmappmjilaaGreatDoorCdScan
import Derived.Test.YtcddpmappmjilaaGreatDoorCdPlace
namespace Go.Proofs.YtcddpmappmjilaaGreatDoor
open Go.RowKit
theorem SL_zs {α:Type} {n:Nat} {R:(Nat->Prop)->World->List Value->α->Prop} {M:Nat->Prop} {w:World} {v:Value} {l:List α} (hn:0<n) (h:SL n R M w v l):
 ∃zs:List (List Value×α),zs.map (·.2)=l/\(∀z∈zs,z.1.length=n/\R M w z.1 z.2)/\∀b off len cap,v=.slice (some ⟨b,off,none⟩) len cap->∀j u,(zs.flatMap (·.1))[j]? =some u->w.cell? ((⟨b,off,none⟩:Addr).add j)=some u:=by
 obtain ⟨ao,cap,hv,hc,hm,hk⟩:=h
 let cs:Fin l.length->List Value:=fun k=>Classical.choose (Classical.choose_spec (Classical.choose_spec (hk k.1 k.2)))
 have hcs:∀k:Fin l.length,∃b off,ao=some ⟨b,off,none⟩/\M b/\b<w.heap.size/\(cs k).length=n/\(∀j,j<n->w.cell? ⟨b,off+k.1*n+j,none⟩=(cs k)[j]?)/\R M w (cs k) l[k.1]:=fun k=>
  ⟨_,_,Classical.choose_spec (Classical.choose_spec (Classical.choose_spec (hk k.1 k.2)))⟩
 let zs:List (List Value×α):=List.ofFn fun k:Fin l.length=>(cs k,l[k.1])
 have hzl:zs.length=l.length:=by simp [zs]
 have hzk:∀(k:Nat) (h:k<zs.length),zs[k]=(cs ⟨k,by omega⟩,l[k]'(by omega)):=fun k h=>by simp [zs]
 have hz1:∀z∈zs,z.1.length=n/\R M w z.1 z.2:=fun z hz=>by
  obtain ⟨k,hk',rfl⟩:=List.mem_iff_getElem.1 hz
  rw [hzk k hk']
  obtain ⟨b,off,-,-,-,h1,-,h2⟩:=hcs ⟨k,by omega⟩
  exact ⟨h1,h2⟩
 refine ⟨zs,?_,hz1,?_⟩
 ·
  refine List.ext_getElem (by simp [hzl]) fun k h1 h2=>?_
  rw [List.getElem_map,hzk k (by simpa using h1)]
 intro b off len cap' hv' j u hu
 have hfl:∀zs:List (List Value×α),(∀z∈zs,z.1.length=n)->(zs.flatMap (·.1)).length=zs.length*n:=fun zs=>by
  induction zs with
  | nil=>intro _;simp
  | cons x zs ih=>
    intro hf
    rw [List.flatMap_cons,List.length_append,ih (fun y hy=>hf y (by simp [hy])),hf x (by simp),List.length_cons,Nat.add_mul]
    omega
 have hj:j<zs.length*n:=by rw [<-hfl zs fun z hz=>(hz1 z hz).1];exact (List.getElem?_eq_some_iff.1 hu).1
 have hq:j / n<zs.length:=Nat.div_lt_of_lt_mul (by rw [Nat.mul_comm];exact hj)
 have hr:j % n<n:=Nat.mod_lt _ hn
 have hjd:j / n*n+j % n=j:=by rw [Nat.mul_comm];exact Nat.div_add_mod j n
 rw [<-hjd,flat_get (n:=n) (fun z:List Value×α=>z.1) zs (j / n) (j % n) (fun z hz=>(hz1 z hz).1) hq hr,hzk _ hq]at hu
 obtain ⟨b',off',e,-,-,-,hc',-⟩:=hcs ⟨j / n,by omega⟩
 rw [hv]at hv'
 rw [e]at hv'
 cases hv'
 have:=hc' (j % n) hr
 rw [addr_add,<-hjd,<-Nat.add_assoc]
 exact this.trans hu
theorem zs_len {α:Type} {zs:List (List Value×α)} {n:Nat} (h:∀z∈zs,z.1.length=n):(zs.flatMap (·.1)).length=zs.length*n:=by
 induction zs with
 | nil=>simp
 | cons x zs ih=>
   rw [List.flatMap_cons,List.length_append,ih (fun y hy=>h y (by simp [hy])),h x (by simp),List.length_cons,Nat.add_mul]
   omega
theorem oneSL {α:Type} {n:Nat} {R:(Nat->Prop)->World->List Value->α->Prop} {M:Nat->Prop} {w:World} {v:Value} {l:List α} (h:SL n R M w v l):v.oneCell'=true:=by
 obtain ⟨ao,c,rfl,-⟩:=h
 rfl
theorem oneRK {M:Nat->Prop} {w:World} {cs:List Value} {x:KindD} (h:RK M w cs x):∀u∈cs,u.oneCell'=true:=by
 rw [h.1];intro u hu;simp at hu;rcases hu with rfl | rfl<;>rfl
theorem oneRF {M:Nat->Prop} {w:World} {cs:List Value} {x:FieldD} (h:RF M w cs x):∀u∈cs,u.oneCell'=true:=by
 rw [h.1];intro u hu;simp at hu;rcases hu with rfl | rfl | rfl<;>rfl
theorem oneRH {M:Nat->Prop} {w:World} {cs:List Value} {x:HandD} (h:RH M w cs x):∀u∈cs,u.oneCell'=true:=by
 rw [h.1];intro u hu;simp at hu;rcases hu with rfl | rfl | rfl | rfl<;>rfl
theorem oneRM {M:Nat->Prop} {w:World} {cs:List Value} {x:MethD} (h:RM M w cs x):∀u∈cs,u.oneCell'=true:=by
 obtain ⟨va,vh,rfl,ha,hh,-⟩:=h
 intro u hu
 simp at hu
 rcases hu with rfl | rfl | rfl | rfl | rfl | rfl | rfl | rfl | rfl<;>first | rfl | exact oneSL ha | exact oneSL hh
theorem oneRC {M:Nat->Prop} {w:World} {cs:List Value} {x:ClassD} (h:RC M w cs x):∀u∈cs,u.oneCell'=true:=by
 obtain ⟨va,vh,rfl,ha,hh,-⟩:=h
 intro u hu
 simp at hu
 rcases hu with rfl | rfl | rfl | rfl<;>first | rfl | exact oneSL ha | exact oneSL hh
theorem own_empty (w:World) (e n:Nat):(w.alloc (.cells #[] e)).ownsRow w.heap.size e n (.slice (some ⟨w.heap.size,0,none⟩) 0 0) 0 []:=
 ⟨by simp,Or.inr ⟨w.heap.size,0,#[],rfl,Nat.le_refl _,heap_alloc_new w _,Nat.le_refl _,by unfold maxLen;omega,by simp,by simp⟩⟩
set_option maxRecDepth 100000 in
set_option maxHeartbeats 1000000 in
theorem cloneG {α:Type} {f a e:Nat} {F:Func} {q0 q1 q2 q3 q4 q5 q6 q7:String} {x0 x1 x2 x3 x4 x5 x6 x7:Array Edge} (hf:Tryz.prog.funcs[f]? =some F) (hn:F.ntmps=8) (hr:F.results=#[ResultVar.tmp 2])
 (hb:F.body=some (((Code.region 0 #[⟨some 2,Op.assign (Operand.const (Value.slice none 0 0)),a,q0,x0,none⟩] false).seq (((Code.region 1 #[⟨some 3,Op.move (Operand.tmp 0),a,q1,x1,none⟩,⟨some 4,Op.binOp BinOp.eql a (Operand.tmp 3) (Operand.const (Value.slice none 0 0)) a,4,q2,x2,none⟩] false).seq (Code.cond (Operand.tmp 4) ((Code.region 2 #[⟨some 2,Op.assign (Operand.const (Value.slice none 0 0)),a,q3,x3,none⟩] false).seq Code.ret) Code.skip)).seq ((Code.region 3 #[⟨some 5,Op.buildSlice a 0 #[],a,q4,x4,none⟩,⟨some 6,Op.move (Operand.tmp 0),a,q5,x5,none⟩,⟨some 7,Op.call { callee:=Callee.builtin Builtin.append,args:=#[Operand.tmp 5,Operand.tmp 6],argTypes:=#[a,a] },a,q6,x6,none⟩,⟨some 2,Op.assign (Operand.tmp 7),a,q7,x7,none⟩] false).seq Code.ret)))))
 (hund:Tryz.prog.underlying a=some (.slice e)) {Z:Value} {n by8:Nat} (hinf:(Tryz.prog.info? e).map (fun i=>(i.zero,i.size,i.bytes))=some (some Z,n,by8)) (hZ:Z.cells.size=n) (hn0:0<n) (h8:by8<=1000)
 (hnE:∀(c:Nat) (w:World),(binOp BinOp.eql a (.slice none 0 c) (.slice none 0 0)).run Tryz.prog w=.ok (.bool true) w) (hnN:∀(d:Addr) (n c:Nat) (w:World),(binOp BinOp.eql a (.slice (some d) n c) (.slice none 0 0)).run Tryz.prog w=.ok (.bool false) w)
 {R:(Nat->Prop)->World->List Value->α->Prop} (h1c:∀ {M w cs x},R M w cs x->∀u∈cs,u.oneCell'=true) (w:World) (M:Nat->Prop) (v:Value) (l:List α) (hv:SL n R M w v l) (hl:l.length<=100000):
 Calls Tryz.prog f #[v] w fun r w'=>Below w.heap.size w w'/\∃(v':Value) (zs:List (List Value×α)),r=.returned v'/\zs.map (·.2)=l/\(∀z∈zs,z.1.length=n/\R M w z.1 z.2)/\w'.ownsRow w.heap.size e n v' zs.length (zs.flatMap (·.1)):=by
 obtain ⟨iI,hiI,hz0,hz1,hz2⟩:=info_parts hinf
 have hur:∀V,(underlying a).run Tryz.prog V=.ok (.slice e) V:=run_underlying hund
 have hsr:∀V,(sizeOf e).run Tryz.prog V=.ok n V:=fun V=>by simp [sizeOf,typeInfo,hiI,hz1,Sem.run_bind]
 obtain ⟨zs,hzm,hzR,hzc⟩:=SL_zs hn0 hv
 have hzl:zs.length=l.length:=by rw [<-hzm,List.length_map]
 have HLim:=mkHid hl
 clear hl
 have HM:=mkHid hzm
 have HR:=mkHid hzR
 have HB0:=mkHid (fun o=>(Below.refl w.heap.size w).alloc (Nat.le_refl _) o)
 obtain ⟨ao,cl,rfl,-,-,hel⟩:=hv
 cases ao with
 | none=>
   have hl0:l= []:=by
    cases l with
    | nil=>rfl
    | cons x l=>obtain ⟨b,off,cs,e9,-⟩:=hel 0 (by simp);cases e9
   subst hl0
   have hz0':zs= []:=List.eq_nil_of_length_eq_zero (by simpa using hzl)
   subst hz0'
   clear hel hzc hzm hzR hzl
   refine calls_of_wp hf hb ?_
   simp only [hn,List.size_toArray,List.length_cons,List.length_nil,Nat.reduceAdd,Nat.reduceSub,Array.replicate_succ,Array.replicate_zero,List.push_toArray,List.append_toArray,List.nil_append,List.cons_append]
   go_wp2_with fail
   refine bodyPost_ret (results_tmp hr _ _ _) rfl ?_
   exact ⟨Below.refl _ _,_,[],rfl,rfl,(fun z hz=>by cases hz),World.ownsRow_nil _ _ _ _⟩
 | some ad=>
   cases l with
   | nil=>
     have hz0':zs= []:=List.eq_nil_of_length_eq_zero (by simpa using hzl)
     subst hz0'
     have HE:=mkHid (own_empty w e n)
     clear hel hzc hzm hzR hzl
     refine calls_of_wp hf hb ?_
     simp only [hn,List.size_toArray,List.length_cons,List.length_nil,Nat.reduceAdd,Nat.reduceSub,Array.replicate_succ,Array.replicate_zero,List.push_toArray,List.append_toArray,List.nil_append,List.cons_append]
     go_wp2_with (at_builtin;refine wpList_append_none _ rfl _ _ a rfl e iI hund hiI (some ⟨w.heap.size,0,none⟩) 0 0 rfl (Nat.le_refl _) (Or.inr ⟨_,rfl⟩) (some ad) cl rfl ?_)
     refine bodyPost_ret (results_tmp hr _ _ _) rfl ?_
     exact ⟨HB0.out _,_,[],rfl,rfl,(fun z hz=>by cases hz),HE.out⟩
   | cons x l0=>
     generalize hL:x::l0=l at*
     have hpos:0<l.length:=by rw [<-hL];simp
     clear hL
     obtain ⟨b,off,cs,e9,-,hbl,-⟩:=hel 0 hpos
     cases e9
     have HC:=mkHid (hzc b off _ _ rfl)
     have HLN:Hid ((zs.flatMap (·.1)).length=l.length*n):=by show _=_;rw [zs_len fun z hz=>(hzR z hz).1,hzl]
     have H1:Hid (∀u∈zs.flatMap (·.1),u.oneCell'=true):=fun u hu=>by
      obtain ⟨z,hz,hu⟩:=List.mem_flatMap.1 hu
      exact h1c (hzR z hz).2 u hu
     have HZL:=mkHid hzl
     have hfull:0<0+l.length:=by omega
     have HBB:Hid (0+l.length<=maxLen/\(0+l.length)*by8<=140737488355328):=(by have hl:=HLim.out;exact ⟨by unfold maxLen;omega,by rw [Nat.zero_add];exact Nat.le_trans (Nat.mul_le_mul hl h8) (by decide)⟩)
     clear hel hzc hzm hzR hzl
     refine calls_of_wp hf hb ?_
     simp only [hn,List.size_toArray,List.length_cons,List.length_nil,Nat.reduceAdd,Nat.reduceSub,Array.replicate_succ,Array.replicate_zero,List.push_toArray,List.append_toArray,List.nil_append,List.cons_append]
     go_wp2_with (at_builtin;refine wpList_append_grows _ rfl _ _ a rfl e iI Z n by8 hund hiI hz0 hz1 hz2 hZ hn0 (some ⟨w.heap.size,0,none⟩) 0 0 [] rfl (fun e=>by cases e) (by simp) (fun _ _ j u hu=>by simp at hu) ⟨b,off,none⟩ l.length cl (zs.flatMap (·.1)) rfl HLN.out (fun j u hu=>by rw [addr_add];exact (World.cell?_alloc_past _ _ _ hbl).trans (by have:=HC.out j u hu;rwa [addr_add]at this)) H1.out hfull HBB.out.1 HBB.out.2 ?_;intro v9 w9 hown9 hgr9;have HO9:Hid (w9.ownsRow w.heap.size e n v9 zs.length (zs.flatMap (·.1))):=(by have h:=own_lower hown9 (B':=w.heap.size) (by simp);rw [Nat.zero_add,List.nil_append,<-HZL.out]at h;exact h);have HB9:Hid (Below w.heap.size w w9):=(HB0.out _).grown hgr9 (by simp) (fun q e=>by cases e);obtain ⟨g9,c9,e9,-⟩:=hown9.form hfull;subst e9;have HO8:Hid (w9.ownsRow w.heap.size e n (.slice (some ⟨g9,0,none⟩) l.length c9) zs.length (zs.flatMap (·.1))):=(by have h:=HO9.out;rwa [Nat.zero_add]at h);clear hown9 hgr9 HO9)
     refine bodyPost_ret (results_tmp hr _ _ _) rfl ?_
     exact ⟨HB9.out,_,zs,rfl,HM.out,HR.out,HO8.out⟩
theorem Tryz.infoClK:(Tryz.prog.info? 80).map (fun i=>(i.zero,i.size,i.bytes))=some (some (.agg #[.int .i64 0,.string ⟨#[]⟩]),2,24):=by kernel_rfl
theorem cloneK_any (w:World) (M:Nat->Prop) (v:Value) (l:List KindD) (hv:SL 2 RK M w v l) (hl:l.length<=100000):
 Calls Tryz.prog 100 #[v] w fun r w'=>Below w.heap.size w w'/\∃(v':Value) (zs:List (List Value×KindD)),r=.returned v'/\zs.map (·.2)=l/\(∀z∈zs,z.1.length=2/\RK M w z.1 z.2)/\w'.ownsRow w.heap.size 80 2 v' zs.length (zs.flatMap (·.1)):=
 cloneG Tryz.func100 rfl rfl rfl Tryz.underlying78 Tryz.infoClK rfl (by decide) (by decide) (fun _ _=>by kernel_rfl) (fun _ _ _ _=>by kernel_rfl) oneRK w M v l hv hl
theorem Tryz.infoClH:(Tryz.prog.info? 98).map (fun i=>(i.zero,i.size,i.bytes))=some (some (.agg #[.int .i64 0,.int .i64 0,.int .i64 0,.string ⟨#[]⟩]),4,40):=by kernel_rfl
theorem cloneH_any (w:World) (M:Nat->Prop) (v:Value) (l:List HandD) (hv:SL 4 RH M w v l) (hl:l.length<=100000):
 Calls Tryz.prog 101 #[v] w fun r w'=>Below w.heap.size w w'/\∃(v':Value) (zs:List (List Value×HandD)),r=.returned v'/\zs.map (·.2)=l/\(∀z∈zs,z.1.length=4/\RH M w z.1 z.2)/\w'.ownsRow w.heap.size 98 4 v' zs.length (zs.flatMap (·.1)):=
 cloneG Tryz.func101 rfl rfl rfl Tryz.underlying81 Tryz.infoClH rfl (by decide) (by decide) (fun _ _=>by kernel_rfl) (fun _ _ _ _=>by kernel_rfl) oneRH w M v l hv hl
theorem Tryz.infoClF:(Tryz.prog.info? 85).map (fun i=>(i.zero,i.size,i.bytes))=some (some (.agg #[.string ⟨#[]⟩,.int .i64 0,.string ⟨#[]⟩]),3,40):=by kernel_rfl
theorem cloneF_any (w:World) (M:Nat->Prop) (v:Value) (l:List FieldD) (hv:SL 3 RF M w v l) (hl:l.length<=100000):
 Calls Tryz.prog 64 #[v] w fun r w'=>Below w.heap.size w w'/\∃(v':Value) (zs:List (List Value×FieldD)),r=.returned v'/\zs.map (·.2)=l/\(∀z∈zs,z.1.length=3/\RF M w z.1 z.2)/\w'.ownsRow w.heap.size 85 3 v' zs.length (zs.flatMap (·.1)):=
 cloneG Tryz.func64 rfl rfl rfl Tryz.underlying54 Tryz.infoClF rfl (by decide) (by decide) (fun _ _=>by kernel_rfl) (fun _ _ _ _=>by kernel_rfl) oneRF w M v l hv hl
theorem Tryz.infoClM:(Tryz.prog.info? 83).map (fun i=>(i.zero,i.size,i.bytes))=some (some (.agg #[.string ⟨#[]⟩,.bool false,.slice none 0 0,.int .i64 0,.string ⟨#[]⟩,.int .i64 0,.int .i64 0,.string ⟨#[]⟩,.slice none 0 0]),9,128):=by kernel_rfl
theorem cloneM_any (w:World) (M:Nat->Prop) (v:Value) (l:List MethD) (hv:SL 9 RM M w v l) (hl:l.length<=100000):
 Calls Tryz.prog 99 #[v] w fun r w'=>Below w.heap.size w w'/\∃(v':Value) (zs:List (List Value×MethD)),r=.returned v'/\zs.map (·.2)=l/\(∀z∈zs,z.1.length=9/\RM M w z.1 z.2)/\w'.ownsRow w.heap.size 83 9 v' zs.length (zs.flatMap (·.1)):=
 cloneG Tryz.func99 rfl rfl rfl Tryz.underlying61 Tryz.infoClM rfl (by decide) (by decide) (fun _ _=>by kernel_rfl) (fun _ _ _ _=>by kernel_rfl) oneRM w M v l hv hl
theorem Tryz.infoClC:(Tryz.prog.info? 63).map (fun i=>(i.zero,i.size,i.bytes))=some (some (.agg #[.string ⟨#[]⟩,.string ⟨#[]⟩,.slice none 0 0,.slice none 0 0]),4,80):=by kernel_rfl
theorem cloneC_any (w:World) (M:Nat->Prop) (v:Value) (l:List ClassD) (hv:SL 4 RC M w v l) (hl:l.length<=100000):
 Calls Tryz.prog 63 #[v] w fun r w'=>Below w.heap.size w w'/\∃(v':Value) (zs:List (List Value×ClassD)),r=.returned v'/\zs.map (·.2)=l/\(∀z∈zs,z.1.length=4/\RC M w z.1 z.2)/\w'.ownsRow w.heap.size 63 4 v' zs.length (zs.flatMap (·.1)):=
 cloneG Tryz.func63 rfl rfl rfl Tryz.underlying22 Tryz.infoClC rfl (by decide) (by decide) (fun _ _=>by kernel_rfl) (fun _ _ _ _=>by kernel_rfl) oneRC w M v l hv hl
end Go.Proofs.YtcddpmappmjilaaGreatDoor
namespace Go.Proofs.YtcddpmappmjilaaGreatDoor
open Go.RowKit Go.Maps
structure Kd (B:Nat) (w:World) (kC kS kF kN kT:Value) (Bm:Nat) (d:LinkD):Prop where
 lk:RLk (· <B) w kC kS kF kN kT d
 nm:NumMap w Bm d.classes
 bm:Bm<B
abbrev kdV (kC kS kF kN kT:Value) (Bm:Nat):Value:=.agg #[kC,kS,kF,kN,kT,.map (some Bm)]
theorem Kd.below {B:Nat} {w w':World} {kC kS kF kN kT:Value} {Bm:Nat} {d:LinkD} (h:Kd B w kC kS kF kN kT Bm d) (hb:Below B w w'):Kd B w' kC kS kF kN kT Bm d:=
 ⟨h.lk.kept (Kp.below hb),by
  obtain ⟨D,⟨es,clock,e,h'⟩,hd⟩:=h.nm
  exact ⟨D,⟨es,clock,(hb.block Bm h.bm).trans e,h'⟩,hd⟩,h.bm⟩
set_option maxHeartbeats 1000000 in
theorem kHas_any (w:World) (B:Nat) (kC kS kF kN kT:Value) (Bm:Nat) (d:LinkD) (hk:Kd B w kC kS kF kN kT Bm d) (hB:B<=w.heap.size) (s:ByteArray) (hs:s.size<=maxLen):
 Calls Tryz.prog 169 #[kdV kC kS kF kN kT Bm,.string s] w fun r w'=>r=.returned (.bool (decide (0<=num d.classes s)))/\Below w.heap.size w w':=by
 have HB:=mkHid ((Below.refl w.heap.size w).alloc (Nat.le_refl _) (.cells #[kC,kS,kF,kN,kT,.map (some Bm)] 181))
 obtain ⟨D,hown,hD⟩:=(hk.below (HB.out.mono hB)).nm
 have hkey:keyOf Tryz.prog 9 (.string s)=some (key s):=Go.WideMaps.keyOf_string_mk Tryz.underlying9 hs
 have HD:=mkHid hD
 have HK:=mkHid hkey
 clear hD hkey
 go_enter Tryz.func169,Tryz.ntmps169
 go_wp2_with (at_lookup;refine wpList_lookup_own_ok_int _ rfl _ _ 104 rfl 9 3 .i64 law9 Tryz.underlying104 Tryz.underlying3 (zero3 _) Bm d.classes.length D rfl hown _ _ rfl HK.out ?_)
 intro c hat hw
 clear hw hat hown
 rw [HD.out.has s]
 go_wp2
 go_ret
 exact ⟨rfl,HB.out⟩
structure Cls (d:LinkD) (L:ByteArray->List ByteArray):Prop where
 ln:d.supers.length=d.classes.length
 nm:∀s,0<=num d.classes s->∃n,∃h:n<d.classes.length,num d.classes s=n/\d.classes[n].name=s
 up:∀n (h:n<d.classes.length),(d.supers[n]'(by omega)= -1/\L d.classes[n].name= [d.classes[n].name])\/∃m,∃hm:m<d.classes.length,d.supers[n]'(by omega)=(m:Int)/\d.classes[n].super=d.classes[m].name/\L d.classes[n].name=d.classes[n].name::L d.classes[m].name
 nn:∀n (h:n<d.classes.length),num d.classes d.classes[n].name=n
 tp:∀n (h:n<d.classes.length),d.supers[n]'(by omega)= -1->d.classes[n].name=topName
 kt:0<=num d.classes topName
theorem Cls.lin {d:LinkD} {L:ByteArray->List ByteArray} (h:Cls d L):Lin (fun s=>0<=num d.classes s) topName L:=
 ⟨h.kt,fun s hs=>by
  obtain ⟨n,hn,-,e⟩:=h.nm s hs
  subst e
  rcases h.up n hn with ⟨e1,e2⟩ | ⟨m,hm,-,-,e2⟩
  ·
   exact Or.inl ⟨h.tp n hn e1,e2⟩
  exact Or.inr ⟨_,by rw [h.nn m hm];omega,e2⟩⟩
theorem str_neq (a b:ByteArray) (h:a≠b):(a.toList==b.toList)=false:=by
 rw [beq_eq_false_iff_ne]
 exact fun e=>h (tl_inj e)
set_option maxRecDepth 100000 in
set_option maxHeartbeats 4000000 in
theorem kIs_any (w:World) (B:Nat) (kC kS kF kN kT:Value) (Bm:Nat) (d:LinkD) (hk:Kd B w kC kS kF kN kT Bm d) (hB:B<=w.heap.size) {L:ByteArray->List ByteArray} (hc:Cls d L) (a b:ByteArray) (ha:0<=num d.classes a) (hs:a.size<=maxLen):
 Calls Tryz.prog 242 #[kdV kC kS kF kN kT Bm,.string a,.string b] w fun r w'=>r=.returned (.bool (inL (L a) b))/\Below w.heap.size w w':=by
 have HB:=mkHid ((Below.refl w.heap.size w).alloc (Nat.le_refl _) (.cells #[kC,kS,kF,kN,kT,.map (some Bm)] 181))
 have hk0:=hk.below (HB.out.mono hB)
 obtain ⟨D,hown,hD⟩:=hk0.nm
 have hkey:keyOf Tryz.prog 9 (.string a)=some (key a):=Go.WideMaps.keyOf_string_mk Tryz.underlying9 hs
 obtain ⟨n0,hn0,e0,ea⟩:=hc.nm a ha
 have HD:=mkHid (hD.at_ a (.lit (.int .i64 0)) ha)
 have HK:=mkHid hkey
 have hblk:=heap_alloc_new w (.cells #[kC,kS,kF,kN,kT,.map (some Bm)] 181)
 have HC:=mkHid hk0.lk.C
 have HS:=mkHid hk0.lk.S
 have hl:=hk0.lk.C
 obtain ⟨aC,cC,rfl,_,hlC,-⟩:=hk0.lk.C
 obtain ⟨aS,cS,rfl,_,hlS,-⟩:=hk0.lk.S
 unfold maxLen at hlC hlS
 have c0:=cell_of hblk 0 (x:=.slice aC d.classes.length cC) rfl
 have c1:=cell_of hblk 1 (x:=.slice aS d.supers.length cS) rfl
 have c5:=cell_of hblk 5 (x:=.map (some Bm)) rfl
 clear hD hkey hk hk0 hl ha hblk
 go_enter Tryz.func242,Tryz.ntmps242
 go_wp2_with (at_lookup;refine wpList_lookup_own_int _ rfl _ _ 104 rfl 9 3 .i64 law9 Tryz.underlying104 Tryz.underlying3 (zero3 _) Bm d.classes.length D rfl hown _ _ rfl HK.out ?_)
 intro c hat hw
 obtain rfl:c=(n0:Int):=by
  have e:=HD.out
  rw [hat,e0]at e
  exact (Lit.int.inj (DataW.lit.inj e)).2
 clear hat hw HD HK hown c5
 go_wp2_with fail
 generalize w.alloc (.cells #[.slice aC d.classes.length cC,.slice aS d.supers.length cS,kF,kN,kT,.map (some Bm)] 181)=W0 at*
 go_loopw [7] (fun i wr=>wr=W0/\((i=.int .i64 (-1)/\Hid (inL (L a) b=false))\/∃n,∃h:n<d.classes.length,i=.int .i64 n/\Hid (inL (L a) b=inL (L d.classes[n].name) b))) (fun i _=>if h:(intOf i).toNat<d.classes.length then (if 0<=intOf i then (L d.classes[(intOf i).toNat].name).length+1 else 0) else 0)
 case atStart=>exact ⟨rfl,Or.inr ⟨n0,hn0,rfl,by show _=_;rw [ea]⟩⟩
 case round=>
  obtain ⟨rfl,h⟩:=hrel
  rcases h with ⟨rfl,HQ⟩ | ⟨n,hn,rfl,HQ⟩
  ·
   go_wp2_with fail
   go_ret
   exact ⟨by rw [HQ.out];rfl,HB.out⟩
  obtain ⟨bC,oC,vf,vm,rfl,-,g0,-⟩:=HC.out.atC n hn
  obtain ⟨bS,oS,rfl,-,g1⟩:=HS.out.atI n (by rw [hc.ln];exact hn)
  have hnS:n<d.supers.length:=by rw [hc.ln];exact hn
  have hup:=hc.up n hn
  by_cases hnb:d.classes[n].name=b
  ·
   have hs':(d.classes[n].name.toList==b.toList)=true:=by rw [hnb];simp
   have HR:Hid (inL (L a) b=true):=by
    show _=_
    rw [HQ.out,inL_iff,hnb]
    rcases hup with ⟨-,e⟩ | ⟨m,hm,-,-,e⟩<;>rw [hnb]at e<;>rw [e]<;>simp
   clear hup HQ
   go_wp2_with fail
   go_ret
   exact ⟨by rw [HR.out];rfl,HB.out⟩
  have hs':(d.classes[n].name.toList==b.toList)=false:=str_neq _ _ hnb
  have HUP:=mkHid hup
  clear hup
  go_wp2_with fail
  go_roundw
  case rel=>
   refine ⟨trivial,?_⟩
   rcases HUP.out with ⟨e1,e⟩ | ⟨m,hm,e1,-,e⟩
   ·
    exact Or.inl ⟨by rw [e1],by show _=_;rw [HQ.out,e];simp [inL,hnb]⟩
   exact Or.inr ⟨m,hm,by rw [e1],by show _=_;rw [HQ.out,e];simp [inL,hnb]⟩
  case measure=>
   rcases HUP.out with ⟨e1,e⟩ | ⟨m,hm,e1,-,e⟩
   ·
    simp [intOf,e1,hn]
   simp [intOf,e1,hn,hm,e]
def strV:Value->ByteArray
 | .string s=>s
 | _=>⟨#[]⟩
theorem abv_self {L:ByteArray->List ByteArray} {K:ByteArray->Prop} {top:ByteArray} (h:Lin K top L) {s:ByteArray} (hs:K s) {lb:List ByteArray} (hb:inL lb s=true) (d:ByteArray):abvN (L s) lb d=s:=by
 rcases h.up s hs with ⟨-,e⟩ | ⟨m,-,e⟩<;>rw [abvN,e,List.find?_cons_of_pos (by simpa [inL]using hb)]<;>rfl
theorem abv_next {s:ByteArray} {r lb:List ByteArray} (hb:inL lb s=false) (d:ByteArray):abvN (s::r) lb d=abvN r lb d:=by
 rw [abvN,List.find?_cons_of_neg (by rw [show (lb.any fun y=>decide (y=s))=inL lb s from rfl,hb];decide)]
 rfl
set_option maxRecDepth 100000 in
set_option maxHeartbeats 4000000 in
theorem kAbove_any (w:World) (B:Nat) (kC kS kF kN kT:Value) (Bm:Nat) (d:LinkD) (hk:Kd B w kC kS kF kN kT Bm d) (hB:B<=w.heap.size) {L:ByteArray->List ByteArray} (hc:Cls d L) (a b:ByteArray) (ha:0<=num d.classes a) (hs:a.size<=maxLen) (hb:0<=num d.classes b) (hsb:b.size<=maxLen):
 Calls Tryz.prog 334 #[kdV kC kS kF kN kT Bm,.string a,.string b] w fun r w'=>r=.returned (.string (abvN (L a) (L b) a))/\Below w.heap.size w w':=by
 have HB:=mkHid ((Below.refl w.heap.size w).alloc (Nat.le_refl _) (.cells #[kC,kS,kF,kN,kT,.map (some Bm)] 181))
 have hblk:=heap_alloc_new w (.cells #[kC,kS,kF,kN,kT,.map (some Bm)] 181)
 have hk0:=hk.below (HB.out.mono hB)
 have HTB:=mkHid (hc.lin.tops b hb)
 obtain ⟨aC,cC,rfl,_,hlC,-⟩:=hk0.lk.C
 unfold maxLen at hlC
 clear hk
 go_enter Tryz.func334,Tryz.ntmps334
 go_wp2_with fail
 generalize w.alloc (.cells #[.slice aC d.classes.length cC,kS,kF,kN,kT,.map (some Bm)] 181)=W0 at*
 have HK0:=mkHid hk0
 have HBL:=mkHid hblk
 have hz:B<=W0.heap.size:=Nat.le_trans hB HB.out.size
 clear hk0 hblk
 go_loopw [1] (fun x wr=>∃s,x=.string s/\Hid (0<=num d.classes s/\s.size<=maxLen/\abvN (L a) (L b) a=abvN (L s) (L b) a/\Below W0.heap.size W0 wr)) (fun x _=>(L (strV x)).length)
 case atStart=>exact ⟨a,rfl,ha,hs,rfl,Below.refl _ _⟩
 case round=>
  rename World=>wr
  obtain ⟨s,rfl,HQ⟩:=hrel
  have hkr:=HK0.out.below (HQ.out.2.2.2.mono hz)
  have hblk:=(HQ.out.2.2.2.block w.heap.size (lt_of HBL.out)).trans HBL.out
  have hzr:B<=wr.heap.size:=Nat.le_trans hz HQ.out.2.2.2.size
  have HIS:=mkHid (kIs_any wr B _ _ _ _ _ _ d hkr hzr hc b s hb hsb)
  have c0:=cell_of hblk 0 (x:=.slice aC d.classes.length cC) rfl
  have c1:=cell_of hblk 1 (x:=kS) rfl
  have c2:=cell_of hblk 2 (x:=kF) rfl
  have c3:=cell_of hblk 3 (x:=kN) rfl
  have c4:=cell_of hblk 4 (x:=kT) rfl
  have c5:=cell_of hblk 5 (x:=.map (some Bm)) rfl
  have HKR:=mkHid hkr
  have HBK:=mkHid hblk
  clear hkr hblk
  cases hin:inL (L b) s with
  | true=>
    rw [hin]at HIS
    have HR:=mkHid (HQ.out.2.2.1.trans (abv_self hc.lin HQ.out.1 hin a))
    go_wp2_with (go_at_call 242;refine HIS.out.mono ?_;rintro r w2 ⟨rfl,hb2⟩)
    go_ret
    exact ⟨by rw [HR.out];rfl,HB.out.trans ((HQ.out.2.2.2.trans (hb2.mono HQ.out.2.2.2.size)).mono HB.out.size)⟩
  | false=>
    rw [hin]at HIS
    obtain ⟨n,hn,en,es⟩:=hc.nm s HQ.out.1
    have hup:∃m,∃hm:m<d.classes.length,d.classes[n].super=d.classes[m].name/\L s=s::L d.classes[m].name:=by
     rcases hc.up n hn with ⟨e1,-⟩ | ⟨m,hm,-,e1,e2⟩
     ·
      have:=hc.tp n hn e1
      rw [es]at this
      rw [this,inL_iff.2 HTB.out]at hin
      cases hin
     exact ⟨m,hm,e1,by rw [es]at e2;exact e2⟩
    obtain ⟨m,hm,e1,e2⟩:=hup
    have HKY:Hid (keyOf Tryz.prog 9 (.string s)=some (key s)):=Go.WideMaps.keyOf_string_mk Tryz.underlying9 HQ.out.2.1
    have HSM:Hid (d.classes[m].name.size<=maxLen):=by
     obtain ⟨_,_,_,_,_,_,_,_,_,_,_,_,h,_⟩:=HKR.out.lk.C.atC m hm
     exact h
    have HNX:Hid (0<=num d.classes d.classes[m].name/\d.classes[m].name.size<=maxLen/\abvN (L a) (L b) a=abvN (L d.classes[m].name) (L b) a):=⟨by rw [hc.nn m hm];omega,HSM.out,by rw [HQ.out.2.2.1,e2,abv_next hin]⟩
    go_wp2_with (first
     | (go_at_call 242;refine HIS.out.mono ?_;rintro r w2 ⟨rfl,hb2⟩;have hk2:=HKR.out.below (hb2.mono hzr);have hblk2:=(hb2.block w.heap.size (lt_of HBK.out)).trans HBK.out;obtain ⟨D,hown,hD⟩:=hk2.nm;have HD:=mkHid (hD.at_ s (.lit (.int .i64 0)) HQ.out.1);obtain ⟨bC,oC,vf,vm,rfl,-,-,g1,-⟩:=hk2.lk.C.atC n hn;have f0:=cell_of hblk2 0 (x:=.slice (some ⟨bC,oC,none⟩) d.classes.length cC) rfl;have f5:=cell_of hblk2 5 (x:=.map (some Bm)) rfl;have HB2:=mkHid (HQ.out.2.2.2.trans (hb2.mono HQ.out.2.2.2.size));clear hk2 hblk2 hD hb2 c0 c1 c2 c3 c4 c5)
     | (at_lookup;refine wpList_lookup_own_int _ rfl _ _ 104 rfl 9 3 .i64 law9 Tryz.underlying104 Tryz.underlying3 (zero3 _) Bm d.classes.length D rfl hown _ _ rfl HKY.out ?_))
    intro c hat hw
    obtain rfl:c=(n:Int):=by
     have e:=HD.out
     rw [hat,en]at e
     exact (Lit.int.inj (DataW.lit.inj e)).2
    clear hat hw hown HD
    go_wp2_with fail
    go_roundw
    case rel=>exact ⟨d.classes[m].name,by first | rfl | rw [e1],HNX.out.1,HNX.out.2.1,HNX.out.2.2,HB2.out⟩
    case measure=>
     simp [strV,e2]
end Go.Proofs.YtcddpmappmjilaaGreatDoor
namespace Go.Proofs.YtcddpmappmjilaaGreatDoor
open Go.RowKit Go.Maps
set_option maxHeartbeats 1000000 in
theorem areObjects_any (w:World) (x y:KindD):Calls Tryz.prog 333 #[kv x,kv y] w fun r w'=>r=.returned (.bool (decide (x.kind=3)&&decide (y.kind=3)))/\Below w.heap.size w w':=by
 have HB:=mkHid (((Below.refl w.heap.size w).alloc (Nat.le_refl _) (.cells #[.int .i64 x.kind,.string x.cls] 80)).alloc (by simp) (.cells #[.int .i64 y.kind,.string y.cls] 80))
 by_cases h1:x.kind=3<;>by_cases h2:y.kind=3
 all_goals
  have HR:Hid ((decide (x.kind=3)&&decide (y.kind=3))=(decide (x.kind=3)&&decide (y.kind=3))):=rfl
  first
   | (have b1:(x.kind==3)=true:=by rw [h1];rfl)
   | (have b1:(x.kind==3)=false:=by rw [beq_eq_false_iff_ne];exact h1)
  first
   | (have b2:(y.kind==3)=true:=by rw [h2];rfl)
   | (have b2:(y.kind==3)=false:=by rw [beq_eq_false_iff_ne];exact h2)
  have d1:decide (x.kind=3)=(x.kind==3):=by simp [h1]
  have d2:decide (y.kind=3)=(y.kind==3):=by simp [h2]
  rw [d1,d2,b1,b2]
  clear d1 d2 HR h1 h2
  go_enter Tryz.func333,Tryz.ntmps333
  go_wp2_with fail
  go_ret
  exact ⟨rfl,HB.out⟩
theorem object_any (w:World) (s:ByteArray):Calls Tryz.prog 240 #[.string s] w fun r w'=>r=.returned (kv ⟨3,s⟩)/\Below w.heap.size w w':=by
 have HB:=mkHid (fun o=>(Below.refl w.heap.size w).alloc (Nat.le_refl _) o)
 go_enter Tryz.func240,Tryz.ntmps240
 go_wp2_with fail
 exact bodyPost_ret (v:=kv ⟨3,s⟩) (by simp [results,Tryz.results240,go_sem]) rfl ⟨rfl,HB.out _⟩
set_option maxRecDepth 100000 in
set_option maxHeartbeats 4000000 in
theorem kFits_any (w:World) (B:Nat) (kC kS kF kN kT:Value) (Bm:Nat) (d:LinkD) (hk:Kd B w kC kS kF kN kT Bm d) (hB:B<=w.heap.size) (hg:GlK w) {L:ByteArray->List ByteArray} (hc:Cls d L) (a b:KindD) (ha:GdK (fun s=>0<=num d.classes s) a) (hs:a.cls.size<=maxLen):
 Calls Tryz.prog 332 #[kdV kC kS kF kN kT Bm,kv a,kv b] w fun r w'=>r=.returned (.bool (fitB topName L a b))/\Below w.heap.size w w':=by
 have HB:=mkHid ((((Below.refl w.heap.size w).alloc (Nat.le_refl _) (.cells #[kC,kS,kF,kN,kT,.map (some Bm)] 181)).alloc (by simp) (.cells #[.int .i64 a.kind,.string a.cls] 80)).alloc (by simp;omega) (.cells #[.int .i64 b.kind,.string b.cls] 80))
 have HG:=mkHid (hg.below HB.out)
 have HK:=mkHid (hk.below (HB.out.mono hB))
 have HZ:=mkHid (Nat.le_trans hB HB.out.size)
 obtain ⟨t0,t1,a0,a1,u0,u1,n0,n1,-,-,-⟩:=hg.below HB.out
 have e1:∀W,(binOp BinOp.eql 80 (kv a) (kv b)).run Tryz.prog W=.ok (.bool (sameK a b)) W:=kindEq a b
 have e2:∀W,(binOp BinOp.eql 80 (kv b) (.agg #[.int .i64 6,.string noNm])).run Tryz.prog W=.ok (.bool (sameK b anyK)) W:=kindEq b anyK
 have e3:∀W,(binOp BinOp.eql 80 (kv a) (.agg #[.int .i64 5,.string noNm])).run Tryz.prog W=.ok (.bool (sameK a nulK)) W:=kindEq a nulK
 have e4:∀W,(binOp BinOp.neq 80 (kv b) (.agg #[.int .i64 1,.string noNm])).run Tryz.prog W=.ok (.bool (!sameK b numK)) W:=kindNeq b numK
 have e5:∀W,(binOp BinOp.eql 80 (kv b) (.agg #[.int .i64 3,.string topName])).run Tryz.prog W=.ok (.bool (sameK b ⟨3,topName⟩)) W:=kindEq b ⟨3,topName⟩
 have eg:=kindNeqG
 have HR:Hid (fitB topName L a b=if sameK a b||sameK b anyK then true else if sameK a nulK then !sameK b numK else if sameK b ⟨3,topName⟩ then (!sameK a numK&& !sameK a anyK) else (decide (a.kind=3)&&decide (b.kind=3)&&inL (L a.cls) b.cls)):=rfl
 have HAK:Hid (a.kind=3->0<=num d.classes a.cls):=fun h=>ha.cls h
 clear ha hk hg
 have HQ:Hid (∃W0,W0=(((w.alloc (.cells #[kC,kS,kF,kN,kT,.map (some Bm)] 181)).alloc (.cells #[.int .i64 a.kind,.string a.cls] 80)).alloc (.cells #[.int .i64 b.kind,.string b.cls] 80))/\Below w.heap.size w W0/\W0.heap.size=w.heap.size+1+1+1/\W0.heap[w.heap.size]? =some (.cells #[kC,kS,kF,kN,kT,.map (some Bm)] 181 (0,0))/\W0.heap[w.heap.size+1]? =some (.cells #[.int .i64 a.kind,.string a.cls] 80 (0,0))/\W0.heap[w.heap.size+1+1]? =some (.cells #[.int .i64 b.kind,.string b.cls] 80 (0,0))):=boxes3 w _ _ _ _ _ _
 cases h1:sameK a b with
 | true=>
   rw [h1]at e1 HR
   go_enter Tryz.func332,Tryz.ntmps332
   go_wp2_with fail
   go_ret
   exact ⟨by rw [HR.out];rfl,HB.out⟩
 | false=>
 rw [h1]at e1 HR
 cases h2:sameK b anyK with
 | true=>
   rw [h2]at e2 HR
   go_enter Tryz.func332,Tryz.ntmps332
   go_wp2_with fail
   go_ret
   exact ⟨by rw [HR.out];rfl,HB.out⟩
 | false=>
 rw [h2]at e2 HR
 cases h3:sameK a nulK with
 | true=>
   rw [h3]at e3 HR
   go_enter Tryz.func332,Tryz.ntmps332
   go_wp2_with fail
   go_ret
   exact ⟨by rw [HR.out];rfl,HB.out⟩
 | false=>
 rw [h3]at e3 HR
 cases h4:sameK b ⟨3,topName⟩with
 | true=>
   rw [h4]at e5 HR
   go_enter Tryz.func332,Tryz.ntmps332
   go_wp2_with (go_at_call 335;refine (isThing_any _ a HG.out).mono ?_;rintro r w2 ⟨rfl,hb2⟩)
   go_ret
   exact ⟨by rw [HR.out];rfl,HB.out.trans (hb2.mono HB.out.size)⟩
 | false=>
 rw [h4]at e5 HR
 by_cases h5:a.kind=3/\b.kind=3
 ·
  have HO:Hid ((decide (a.kind=3)&&decide (b.kind=3))=true):=by show _=_;simp [h5.1,h5.2]
  have HK3:=mkHid (HAK.out h5.1)
  have HR2:Hid (fitB topName L a b=inL (L a.cls) b.cls):=by show _=_;rw [HR.out];simp [h5.1,h5.2]
  clear h5 HR HAK
  go_enter Tryz.func332,Tryz.ntmps332
  go_wp2_with (first
   | (go_at_call 333;refine (areObjects_any _ a b).mono ?_;rw [HO.out];rintro r w2 ⟨rfl,hb2⟩;obtain ⟨W0,hW0,-,-,k0,k1,k2⟩:=HQ.out;rw [hW0]at k0 k1 k2;clear hW0;have q0:=(hb2.block _ (lt_of k0)).trans k0;have q1:=(hb2.block _ (lt_of k1)).trans k1;have q2:=(hb2.block _ (lt_of k2)).trans k2;have x0:=cell_of q0 0 (x:=kC) rfl;have x1:=cell_of q0 1 (x:=kS) rfl;have x2:=cell_of q0 2 (x:=kF) rfl;have x3:=cell_of q0 3 (x:=kN) rfl;have x4:=cell_of q0 4 (x:=kT) rfl;have x5:=cell_of q0 5 (x:=.map (some Bm)) rfl;have y1:=cell_of q1 1 (x:=.string a.cls) rfl;have z1:=cell_of q2 1 (x:=.string b.cls) rfl;have HB2:=mkHid hb2;clear hb2 k0 k1 k2 q0 q1 q2)
   | (go_at_call 242;refine (kIs_any _ B _ _ _ _ _ _ d (HK.out.below (HB2.out.mono HZ.out)) (Nat.le_trans HZ.out HB2.out.size) hc a.cls b.cls HK3.out hs).mono ?_;rintro r w3 ⟨rfl,hb3⟩))
  go_ret
  exact ⟨by rw [HR2.out];rfl,HB.out.trans ((HB2.out.trans (hb3.mono HB2.out.size)).mono HB.out.size)⟩
 have HO:Hid ((decide (a.kind=3)&&decide (b.kind=3))=false):=by
  show _=_
  rw [Bool.and_eq_false_iff]
  by_cases h:a.kind=3
  ·
   exact Or.inr (by simpa using fun h'=>h5 ⟨h,h'⟩)
  exact Or.inl (by simpa using h)
 have HR2:Hid (fitB topName L a b=false):=by show _=_;rw [HR.out,HO.out];rfl
 clear h5 HR HAK
 go_enter Tryz.func332,Tryz.ntmps332
 go_wp2_with (go_at_call 333;refine (areObjects_any _ a b).mono ?_;rw [HO.out];rintro r w2 ⟨rfl,hb2⟩)
 go_ret
 exact ⟨by rw [HR2.out];rfl,HB.out.trans (hb2.mono HB.out.size)⟩
end Go.Proofs.YtcddpmappmjilaaGreatDoor
namespace Go.Proofs.YtcddpmappmjilaaGreatDoor
open Go.RowKit Go.Maps
def kcs (l:List KindD):List Value:=l.flatMap fun k=>[.int .i64 k.kind,.string k.cls]
theorem kcs_len (l:List KindD):(kcs l).length=l.length*2:=by
 induction l with
 | nil=>rfl
 | cons x l ih=>simp only [kcs,List.flatMap_cons,List.length_append,List.length_cons,List.length_nil]at*;omega
theorem kcs_app (l m:List KindD):kcs (l++m)=kcs l++kcs m:=by simp [kcs]
theorem kcs_get (l:List KindD) (k j:Nat) (hk:k<l.length) (hj:j<2):(kcs l)[k*2+j]? =([Value.int .i64 l[k].kind,.string l[k].cls]:List Value)[j]? :=flat_get (fun x:KindD=>[Value.int .i64 x.kind,.string x.cls]) l k j (fun _ _=>rfl) hk hj
theorem kcs_take (l:List KindD) (k:Nat):(kcs l).take (k*2)=kcs (l.take k):=by
 induction l generalizing k with
 | nil=>simp [kcs]
 | cons x l ih=>
   cases k with
   | zero=>simp [kcs]
   | succ k=>
     have:=ih k
     simp only [kcs,List.flatMap_cons,List.take_succ_cons]at*
     rw [show (k+1)*2=k*2+1+1 by omega]
     simp [this]
theorem one_kcs (l:List KindD):∀u∈kcs l,u.oneCell'=true:=fun u hu=>by
 obtain ⟨x,-,h⟩:=List.mem_flatMap.1 hu
 simp at h
 rcases h with rfl | rfl<;>rfl
theorem zs_kcs {M:Nat->Prop} {w:World} :∀ {zs:List (List Value×KindD)},(∀z∈zs,z.1.length=2/\RK M w z.1 z.2)->zs.flatMap (·.1)=kcs (zs.map (·.2))
 | [],_=>rfl
 | z::zs,h=>by
   rw [List.flatMap_cons,List.map_cons,zs_kcs fun y hy=>h y (List.mem_cons_of_mem _ hy),(h z (List.mem_cons_self)).2.1]
   rfl
theorem SL.kcs {M:Nat->Prop} {w:World} {b off len cap:Nat} {l:List KindD} (h:SL 2 RK M w (.slice (some ⟨b,off,none⟩) len cap) l):∀j u,(kcs l)[j]? =some u->w.cell? ((⟨b,off,none⟩:Addr).add j)=some u:=by
 intro j u hu
 have hj:j<l.length*2:=by rw [<-kcs_len l];exact (List.getElem?_eq_some_iff.1 hu).1
 have hk:j / 2<l.length:=by omega
 have e:j / 2*2+j % 2=j:=by omega
 obtain ⟨b',off',cs,e9,-,-,-,hc,hR,-⟩:=h.at (j / 2) hk
 cases e9
 have:=hc (j % 2) (by omega)
 rw [<-e,kcs_get l _ _ hk (by omega),<-hR]at hu
 rw [addr_add,<-e,<-Nat.add_assoc,this,hu]
theorem SL.small {M:Nat->Prop} {w:World} {v:Value} {l:List KindD} (h:SL 2 RK M w v l):∀k∈l,k.cls.size<=maxLen:=fun x hx=>by
 obtain ⟨k,hk,rfl⟩:=List.mem_iff_getElem.1 hx
 obtain ⟨ao,cap,rfl,-,-,h⟩:=h
 obtain ⟨_,_,_,-,-,-,-,-,-,h⟩:=h k hk
 exact h
abbrev OwnK (w:World) (B:Nat) (v:Value) (l:List KindD):Prop:=w.ownsRow B 80 2 v l.length (kcs l)
theorem own_dropK {w:World} {B:Nat} {v:Value} {l:List KindD} (h:OwnK w B v l) (hs:∀k∈l,k.cls.size<=maxLen) (k:Nat) (hk:k<=l.length):∃ao cap,v=.slice ao l.length cap/\l.length<=cap/\cap<=maxLen/\SL 2 RK (fun b=>v.ownBlock=some b) w (sliced ao k l.length cap 2) (l.drop k):=by
 rcases h.2 with ⟨rfl,hn⟩ | ⟨g,cap,cur,rfl,hB,hg,hc,hm,-⟩
 ·
  have:l= []:=List.eq_nil_of_length_eq_zero hn
  subst this
  refine ⟨none,0,rfl,Nat.le_refl _,Nat.zero_le _,?_⟩
  have:k=0:=by simpa using hk
  subst this
  exact ⟨none,0,rfl,Nat.le_refl _,Nat.zero_le _,fun k hk=>by cases hk⟩
 refine ⟨some ⟨g,0,none⟩,cap,rfl,hc,hm,?_⟩
 unfold sliced
 refine ⟨_,_,by rw [List.length_drop],by rw [List.length_drop];omega,by rw [List.length_drop];omega,fun j hj=>?_⟩
 rw [List.length_drop]at hj
 have hjl:k+j<l.length:=by omega
 refine ⟨g,k*2,[.int .i64 l[k+j].kind,.string l[k+j].cls],?_,rfl,lt_of hg,rfl,fun i hi=>?_,?_,?_⟩
 ·
  rw [if_neg (by omega),Option.map_some,addr_add,Nat.zero_add]
 ·
  rw [<-kcs_get l (k+j) i hjl hi,show k*2+j*2+i=(k+j)*2+i by omega]
  have:=h.cells (g:=g) rfl ((k+j)*2+i)
  rw [kcs_get l (k+j) i hjl hi]at*
  match i,hi with
  | 0,_=>exact (by have:=this _ rfl;rw [addr_add,Nat.zero_add]at this;exact this)
  | 1,_=>exact (by have:=this _ rfl;rw [addr_add,Nat.zero_add]at this;exact this)
 ·
  simp
 rw [List.getElem_drop]
 exact hs _ (List.getElem_mem hjl)
theorem own_SLK {w:World} {B:Nat} {v:Value} {l:List KindD} (h:OwnK w B v l) (hs:∀k∈l,k.cls.size<=maxLen):SL 2 RK (fun b=>v.ownBlock=some b) w v l:=by
 obtain ⟨ao,cap,rfl,hc,-,h2⟩:=own_dropK h hs 0 (Nat.zero_le _)
 rcases h.2 with ⟨e,hn⟩ | ⟨g,cap',cur,e,-⟩
 ·
  have hl:l= []:=List.eq_nil_of_length_eq_zero hn
  subst hl
  cases e
  simpa [sliced]using h2
 cases e
 have e2:sliced (some ⟨g,0,none⟩) 0 l.length cap 2=.slice (some ⟨g,0,none⟩) l.length cap:=by
  unfold sliced
  split
  ·
   simp
  simp [addr_add]
 rw [e2]at h2
 simpa using h2
theorem own_takeK {w:World} {B:Nat} {ao:Option Addr} {cap:Nat} {l:List KindD} (h:OwnK w B (.slice ao l.length cap) l) (k:Nat) (hk:k<=l.length):sliced ao 0 k cap 2=.slice ao k cap/\OwnK w B (.slice ao k cap) (l.take k):=by
 have hlen:(l.take k).length=k:=by simp;omega
 rcases h.2 with ⟨e,hn⟩ | ⟨g,cap',cur,e,hB,hg,hc,hm,hs,ht⟩
 ·
  have:l= []:=List.eq_nil_of_length_eq_zero hn
  subst this
  cases e
  have:k=0:=by simpa using hk
  subst this
  exact ⟨rfl,World.ownsRow_nil _ _ _ _⟩
 cases e
 refine ⟨?_,?_,Or.inr ⟨g,cap,cur,by rw [hlen],hB,hg,by rw [hlen];omega,hm,hs,?_⟩⟩
 ·
  unfold sliced
  split
  ·
   simp
  simp [addr_add]
 ·
  rw [kcs_len]
 rw [hlen,<-kcs_take,<-ht,List.take_take,Nat.min_eq_left (Nat.mul_le_mul_right _ hk)]
theorem own_clone {w w':World} {M:Nat->Prop} {v:Value} {l:List KindD} {zs:List (List Value×KindD)} (e:zs.map (·.2)=l) (h:∀z∈zs,z.1.length=2/\RK M w z.1 z.2) (ho:w'.ownsRow w.heap.size 80 2 v zs.length (zs.flatMap (·.1))):OwnK w' w.heap.size v l:=by
 rw [zs_kcs h,e,show zs.length=l.length by rw [<-e,List.length_map]]at ho
 exact ho
theorem cloneKK_any (w:World) (M:Nat->Prop) (v:Value) (l:List KindD) (hv:SL 2 RK M w v l) (hl:l.length<=100000):
 Calls Tryz.prog 100 #[v] w fun r w'=>Below w.heap.size w w'/\∃v',r=.returned v'/\OwnK w' w.heap.size v' l:=
 (cloneK_any w M v l hv hl).mono fun _ _ ⟨hb,v',_,e,h1,h2,h3⟩=>⟨hb,v',e,own_clone h1 h2 h3⟩
theorem wpList_append_kinds {ops:Array Oper} {rest:List Oper} {o:Oper} {a:Act} {Q:Exit->Act->World->Prop} (w:World) (hgd:o.guard=none) (s x:Operand)
 (ho:o.op=.call { callee:=.builtin .append,args:=#[s,x],argTypes:=#[78,78] }) (base:Nat) (v:Value) (xs:List KindD) (hs:a.eval s=v) (hown:OwnK w base v xs)
 (M:Nat->Prop) (u:Value) (l:List KindD) (hx:a.eval x=u) (hu:SL 2 RK M w u l) (hb:xs.length+l.length<=1000000) (hbase:base<=w.heap.size)
 (h:∀v' w',OwnK w' base v' (xs++l)->w.grownBy w' v.ownBlock->(∀g,v'.ownBlock=some g->v.ownBlock=some g\/g=w.heap.size)->wpList Tryz.prog ops Q rest (a.put o.dst v') w'):wpList Tryz.prog ops Q (o::rest) a w:=by
 obtain ⟨iI,hiI,hzI0,hzI1,hzI2⟩:=info_parts Tryz.infoClK
 have HU:=hu
 obtain ⟨ao,cl,rfl,-,-,hel⟩:=hu
 cases l with
 | nil=>
   obtain ⟨av,cv,rfl⟩:=own_shape hown
   have hoa:=own_app hown
   refine wpList_append_none w hgd s x 78 ho 80 iI Tryz.underlying78 hiI av xs.length cv hs hoa.1 hoa.2 ao cl hx ?_
   exact h _ _ (by simpa [OwnK]using hown) (World.grownBy.refl _ _) fun g hg=>Or.inl hg
 | cons y l=>
   obtain ⟨b,off,cs,e,-⟩:=hel 0 (by simp)
   subst e
   refine wpList_append_lies w hgd s x 78 ho base 80 iI (.agg #[.int .i64 0,.string ⟨#[]⟩]) 2 24 Tryz.underlying78 hiI hzI0 hzI1 hzI2 rfl (by decide) v xs.length (Go.Proofs.YtcddpmappmjilaaGreatDoor.kcs xs) hs hown ⟨b,off,none⟩ (y::l).length cl (Go.Proofs.YtcddpmappmjilaaGreatDoor.kcs (y::l)) hx (kcs_len _) HU.kcs (one_kcs _) (by simp) (by unfold maxLen;omega) (by omega) hbase w.heap.size rfl ?_
   intro g cap w' h1 h2 h3 _
   refine h _ _ ?_ h2 fun g' e=>(by cases e;exact h3)
   unfold OwnK
   rw [kcs_app,List.length_append]
   exact h1
end Go.Proofs.YtcddpmappmjilaaGreatDoor
namespace Go.Proofs.YtcddpmappmjilaaGreatDoor
structure StD where
 comes:Bool
 locals:List KindD
 stack:List KindD
def st0:StD:=⟨false,[],[]⟩
structure Lkr where
 d:LinkD
 L:ByteArray->List ByteArray
 m:MethD
 ins:List Cd.Op4
structure SA where
 S:List StD
 A:List Bool
def methZ:MethD:=⟨⟨#[]⟩,false,[],⟨0,⟨#[]⟩⟩,0,0,⟨#[]⟩,[]⟩
def Lkr.fits (c:Lkr) (a b:KindD):Bool:=fitB topName c.L a b
def Lkr.join (c:Lkr) (a b:KindD):KindD:=joinB topName c.L a b
def Lkr.st (_:Lkr) (s:SA) (n:Nat):StD:=(s.S[n]?).getD st0
def takeD (c:Lkr) (st asked:List KindD):Option (List KindD×List KindD):=
 if asked.length<=st.length then
  if ((st.drop (st.length - asked.length)).zip asked).all (fun p=>c.fits p.1 p.2) then some (st.drop (st.length - asked.length),st.take (st.length - asked.length)) else none
 else none
def placeOfD (a:KindD):Option KindD:=if sameK a nulK then some nulK else if sameK a rowK then some numK else if a.kind=4 then some ⟨3,a.cls⟩ else none
def maySetD (c:Lkr) (p v:KindD):Bool:=if sameK p nulK then !sameK v anyK else c.fits v p
def someD (k:KindD):List KindD:=if k.kind=0 then [] else [k]
def Lkr.cls (c:Lkr) (x:Cd.Op4):ClassD:=clsAt c.d.classes x.a.toNat
def Lkr.flds (c:Lkr) (x:Cd.Op4):List FieldD:=(c.d.fields[x.a.toNat]?).getD []
def fld0:FieldD:=⟨⟨#[]⟩,⟨0,⟨#[]⟩⟩⟩
def Lkr.fld (c:Lkr) (x:Cd.Op4):KindD:=(((c.flds x)[x.b.toNat]?).getD fld0).kind
def Lkr.told (c:Lkr) (x:Cd.Op4):MethD:=((c.cls x).meths[x.b.toNat]?).getD methZ
def Lkr.ofC (c:Lkr) (x:Cd.Op4):KindD:=⟨3,(c.cls x).name⟩
def tellsD (c:Lkr) (x:Cd.Op4) (nl:Nat):Bool:=
 if x.op=3\/x.op=4 then decide (x.a<nl)
 else if x.op=18\/x.op=22\/x.op=29\/x.op=30 then decide (x.a<c.d.classes.length)
 else if x.op=19\/x.op=20 then decide (x.a<c.d.classes.length)&&decide (x.b<(c.flds x).length)
 else if x.op=26\/x.op=34 then decide (x.a<c.d.classes.length)&&decide (x.b<(c.cls x).meths.length)
 else true
def goesD (op:Int):Bool:=!decide (op=13)&& !decide (op=27)&& !decide (op=28)
def brD (op:Int):Bool:=decide (op=13)||decide (op=14)||decide (op=15)||decide (op=16)||decide (op=17)
abbrev LS:=List KindD×List KindD
def tpD (c:Lkr) (lo st asked:List KindD) (puts:List KindD->Option (List KindD)):Option LS:=
 (takeD c st asked).bind fun t=>(puts t.1).map fun p=>(lo,t.2++p)
def kAt (l:List KindD) (n:Nat):KindD:=(l[n]?).getD numK
def stackD (c:Lkr) (x:Cd.Op4) (lo st:List KindD):Option LS:=
 if x.op=1 then some (lo,st++ [numK])
 else if x.op=2 then some (lo,st++ [nulK])
 else if x.op=3 then (if sameK (kAt lo x.a.toNat) anyK then none else some (lo,st++ [kAt lo x.a.toNat]))
 else if x.op=4 then (takeD c st [anyK]).map fun t=>(lo.set x.a.toNat (kAt t.1 0),t.2)
 else if x.op=5 then tpD c lo st [anyK] fun _=>some []
 else if x.op=6 then tpD c lo st [anyK] fun t=>some [kAt t 0,kAt t 0]
 else if x.op=7 then tpD c lo st [anyK,anyK] fun t=>some [kAt t 1,kAt t 0]
 else some (lo,st)
def branchD (c:Lkr) (x:Cd.Op4) (lo st:List KindD):Option LS:=
 if x.op=14 then tpD c lo st [numK] fun _=>some []
 else if x.op=15 then tpD c lo st [numK,numK] fun _=>some []
 else if x.op=16 then tpD c lo st [⟨3,topName⟩,⟨3,topName⟩] fun _=>some []
 else if x.op=17 then tpD c lo st [⟨3,topName⟩] fun _=>some []
 else some (lo,st)
def rowD (c:Lkr) (x:Cd.Op4) (lo st:List KindD):Option LS:=
 if x.op=21 then tpD c lo st [numK] fun _=>some [rowK]
 else if x.op=22 then tpD c lo st [numK] fun _=>some [⟨4,(c.cls x).name⟩]
 else if x.op=23 then tpD c lo st [anyK,numK] fun t=>(placeOfD (kAt t 0)).map fun p=>[p]
 else if x.op=24 then tpD c lo st [anyK,numK,anyK] fun t=>(placeOfD (kAt t 0)).bind fun p=>if maySetD c p (kAt t 2) then some [] else none
 else if x.op=25 then tpD c lo st [anyK] fun t=>(placeOfD (kAt t 0)).map fun _=>[numK]
 else some (lo,st)
def thingD (c:Lkr) (x:Cd.Op4) (lo st:List KindD):Option LS:=
 if x.op=18 then some (lo,st++ [c.ofC x])
 else if x.op=19 then tpD c lo st [c.ofC x] fun _=>some [c.fld x]
 else if x.op=20 then tpD c lo st [c.ofC x,c.fld x] fun _=>some []
 else if x.op=29\/x.op=33 then tpD c lo st [⟨3,topName⟩] fun _=>some [numK]
 else if x.op=30 then tpD c lo st [⟨3,topName⟩] fun _=>some [c.ofC x]
 else if x.op=35\/x.op=36 then tpD c lo st [⟨3,topName⟩] fun _=>some []
 else some (lo,st)
def callD (c:Lkr) (x:Cd.Op4) (lo st:List KindD):Option LS:=
 if x.op=26 then tpD c lo st (if (c.told x).static then (c.told x).args else c.ofC x::(c.told x).args) fun _=>some (someD (c.told x).ret)
 else if x.op=27 then tpD c lo st (someD c.m.ret) fun _=>some []
 else if x.op=28 then tpD c lo st [⟨3,errName⟩] fun _=>some []
 else if x.op=34 then tpD c lo st (c.told x).args fun _=>some []
 else if x.op=31 then tpD c lo st [numK] fun _=>some []
 else if x.op=32 then some (lo,st++ [numK])
 else some (lo,st)
def isCount (op:Int):Bool:=decide (op=8)||decide (op=9)||decide (op=10)||decide (op=11)||decide (op=12)
def isBranch (op:Int):Bool:=decide (op=14)||decide (op=15)||decide (op=16)||decide (op=17)
def isRowOp (op:Int):Bool:=decide (op=21)||decide (op=22)||decide (op=23)||decide (op=24)||decide (op=25)
def isThingOp (op:Int):Bool:=decide (op=18)||decide (op=19)||decide (op=20)||decide (op=29)||decide (op=30)||decide (op=33)||decide (op=35)||decide (op=36)
def isCallOp (op:Int):Bool:=decide (op=26)||decide (op=27)||decide (op=28)||decide (op=34)||decide (op=31)||decide (op=32)
def workD (c:Lkr) (x:Cd.Op4) (lo st:List KindD):Option LS:=
 if isCount x.op then tpD c lo st [numK,numK] fun _=>some [numK]
 else if isBranch x.op then branchD c x lo st
 else if isRowOp x.op then rowD c x lo st
 else if isThingOp x.op then thingD c x lo st
 else if isCallOp x.op then callD c x lo st
 else stackD c x lo st
def spawnD (c:Lkr) (x:Cd.Op4):Bool:=!decide (x.op=34)||((c.told x).static&&decide ((c.told x).ret.kind=0))
def runD (c:Lkr) (x:Cd.Op4) (lo st:List KindD):Option LS:=
 if tellsD c x lo.length&&spawnD c x then
  (workD c x lo st).bind fun r=>if decide ((r.2.length:Int)<=c.m.stack) then some r else none
 else none
def joinL (c:Lkr) (known come:List KindD):List KindD:=known.zipWith c.join come
def chgL (c:Lkr) (known come:List KindD):Bool:=(known.zip come).any fun p=>!sameK (c.join p.1 p.2) p.1
def comeD (c:Lkr) (s:SA) (n:Nat) (lo st:List KindD):Option SA:=
 if (!(c.st s n).comes||decide ((c.st s n).stack.length=st.length))&&decide ((st.length:Int)<=c.m.stack) then
  some (if (c.st s n).comes then ⟨s.S.set n ⟨true,joinL c (c.st s n).locals lo,joinL c (c.st s n).stack st⟩,if chgL c (c.st s n).locals lo||chgL c (c.st s n).stack st then s.A.set n true else s.A⟩
   else ⟨s.S.set n ⟨true,lo,st⟩,s.A.set n true⟩)
 else none
def comeAtD (c:Lkr) (s:SA) (loc:Int) (lo st:List KindD):Option SA:=comeD c s (Cd.placeN c.ins loc).toNat lo st
def handsD (c:Lkr) (loc:Int) (lo:List KindD):List HandD->SA->Option SA
 | [],s=>some s
 | h::r,s=>if decide (h.frm<=loc)&&decide (loc<h.upto) then (comeAtD c s h.loc lo [⟨3,h.cls⟩]).bind (handsD c loc lo r) else handsD c loc lo r s
def lookD (c:Lkr) (s:SA) (n:Nat):Option SA:=
 (runD c (Cd.get4 c.ins n) (c.st s n).locals (c.st s n).stack).bind fun r=>
  if decide (n+1=c.ins.length)&&goesD (Cd.get4 c.ins n).op then none else
  (handsD c (Cd.get4 c.ins n).loc (c.st s n).locals c.m.hands s).bind fun s1=>
  (if (Cd.get4 c.ins n).op=4 then handsD c (Cd.get4 c.ins n).loc r.1 c.m.hands s1 else some s1).bind fun s2=>
  (if goesD (Cd.get4 c.ins n).op then comeD c s2 (n+1) r.1 r.2 else some s2).bind fun s3=>
  if brD (Cd.get4 c.ins n).op then comeAtD c s3 (Cd.get4 c.ins n).a r.1 r.2 else some s3
def nextD (s:SA):Option Nat:=s.A.findIdx? (fun b=>b)
def loopD (c:Lkr):Nat->SA->Option SA
 | 0,_=>none
 | f+1,s=>match nextD s with
   | none=>some s
   | some n=>(lookD c ⟨s.S,s.A.set n false⟩ n).bind (loopD c f)
def firstL (d:LinkD) (m:MethD) (ci:Nat):Option (List KindD):=
 let l:=(if m.static then [] else [⟨3,(clsAt d.classes ci).name⟩])++m.args
 if decide ((l.length:Int)<=m.locals) then some (l++List.replicate (m.locals.toNat - l.length) anyK) else none
def beginsD (ins:List Cd.Op4) (n:Int):Bool:=decide (Cd.placeE ins n=0)
def handOk (c:Lkr) (h:HandD):Bool:=(decide (h.frm<h.upto)&&beginsD c.ins h.frm&&beginsD c.ins h.loc)&&(beginsD c.ins h.upto||decide (h.upto=c.m.code.size))&&inL (c.L h.cls) errName
end Go.Proofs.YtcddpmappmjilaaGreatDoor
namespace Go.Proofs.YtcddpmappmjilaaGreatDoor
open Go.RowKit Go.Maps
abbrev Kn (c:Lkr) (s:ByteArray):Prop:=0<=num c.d.classes s
structure LkV where
 kC:Value
 kS:Value
 kF:Value
 kN:Value
 kT:Value
 Bm:Nat
 vA:Value
 vH:Value
 gI:Nat
 cI:Nat
 bS:Nat
 bA:Nat
structure Wf (c:Lkr):Prop where
 cls:Cls c.d c.L
 fl:c.d.fields.length=c.d.classes.length
 fk:∀fs∈c.d.fields,∀f∈fs,GdK (Kn c) f.kind
 mr:∀k∈c.d.classes,∀m∈k.meths,m.ret.kind=0\/GdK (Kn c) m.ret
 ma:∀k∈c.d.classes,∀m∈k.meths,m.args.length<=4
 hk:∀h∈c.m.hands,Kn c h.cls
 er:c.m.ret.kind=0\/GdK (Kn c) c.m.ret
 st:0<=c.m.stack/\c.m.stack<=10
 lc:0<=c.m.locals/\c.m.locals<=10
 few:c.d.classes.length<=10
 le:c.ins.length<=200
 op:∀x∈c.ins,∃o:Nat,o<37/\x.op=o
 aa:∀x∈c.ins,x.op≠1->0<=x.a
 bb:∀x∈c.ins,0<=x.b
structure LkW (c:Lkr) (B P:Nat) (v:LkV) (w:World):Prop where
 blk:w.heap[P]? =some (.cells #[v.kC,v.kS,v.kF,v.kN,v.kT,.map (some v.Bm),.string c.m.name,.bool c.m.static,v.vA,.int .i64 c.m.ret.kind,.string c.m.ret.cls,.int .i64 c.m.stack,.int .i64 c.m.locals,.string c.m.code,v.vH,.slice (some ⟨v.gI,0,none⟩) c.ins.length v.cI,.slice (some ⟨v.bS,0,none⟩) c.ins.length c.ins.length,.slice (some ⟨v.bA,0,none⟩) c.ins.length c.ins.length] 236 (0,0))
 pB:P<B
 kd:Kd B w v.kC v.kS v.kF v.kN v.kT v.Bm c.d
 ag:SL 2 RK (· <B) w v.vA c.m.args
 hd:SL 4 RH (· <B) w v.vH c.m.hands
 hi:Cd.Has w v.gI 0 c.ins
 gB:v.gI<B
 le:c.ins.length<=v.cI
 gl:GlK w
 bg:6<B
 bw:B<=w.heap.size
theorem GlK.at {w w':World} {B:Nat} (h:GlK w) (hb:Below B w w') (hB:6<B):GlK w':=by
 have hz:=h.big
 have hc:∀g j,g<=6->w'.cell? ⟨g,j,none⟩=w.cell? ⟨g,j,none⟩:=fun g j hg=>hb.cell (p:=⟨g,j,none⟩) (by simp;omega)
 exact ⟨(hc _ _ (by decide)).trans h.t0,(hc _ _ (by decide)).trans h.t1,(hc _ _ (by decide)).trans h.a0,(hc _ _ (by decide)).trans h.a1,(hc _ _ (by decide)).trans h.u0,(hc _ _ (by decide)).trans h.u1,(hc _ _ (by decide)).trans h.n0,(hc _ _ (by decide)).trans h.n1,(hc _ _ (by decide)).trans h.r0,(hc _ _ (by decide)).trans h.r1,Nat.lt_of_lt_of_le hz hb.size⟩
theorem LkW.below {c:Lkr} {B P:Nat} {v:LkV} {w w':World} (h:LkW c B P v w) (hb:Below B w w'):LkW c B P v w':=
 ⟨(hb.block P h.pB).trans h.blk,h.pB,h.kd.below hb,h.ag.keptK (Kp.below hb),h.hd.keptH (Kp.below hb),h.hi.below hb h.gB,h.gB,h.le,h.gl.at hb h.bg,h.bg,Nat.le_trans h.bw hb.size⟩
theorem gd_small {c:Lkr} (hc:Cls c.d c.L) {B:Nat} {w:World} {kC kS kF kN kT:Value} {Bm:Nat} (hk:Kd B w kC kS kF kN kT Bm c.d) {x:KindD} (h:GdK (Kn c) x):x.cls.size<=maxLen:=by
 rcases h with ⟨-,h⟩ | rfl | rfl | rfl | rfl
 ·
  obtain ⟨n,hn,-,e⟩:=hc.nm _ h
  obtain ⟨aC,cC,e9,-,-,h9⟩:=hk.lk.C
  have hC:=hk.lk.C
  rw [e9]at hC
  obtain ⟨_,_,_,_,_,_,_,_,_,_,_,_,h,_⟩:=hC.atC n hn
  rw [<-e]
  exact h
 all_goals exact Nat.zero_le _
structure Sp (c:Lkr) (F P Q:Nat) (x:Cd.Op4) (w:World) (vL vS:Value) (lo st:List KindD):Prop where
 blk:w.heap[Q]? =some (.cells #[.pointer (some ⟨P,0,none⟩),.int .i64 x.loc,.int .i64 x.op,.int .i64 x.a,.int .i64 x.b,vL,vS] 288 (0,0))
 FQ:F<=Q
 oL:OwnK w F vL lo
 oS:OwnK w F vS st
 nL:vL.ownBlock≠some Q
 nS:vS.ownBlock≠some Q
 ne:∀b,vL.ownBlock=some b->vS.ownBlock≠some b
 gL:∀k∈lo,GdK (Kn c) k
 gS:∀k∈st,GdK (Kn c) k
theorem own_up {w w':World} {B:Nat} {v:Value} {l:List KindD} (h:OwnK w B v l) (hb:Below w.heap.size w w'):OwnK w' B v l:=
 h.kept (row:=none) ⟨hb.os,hb.tape,hb.output,hb.size,fun k hk _=>hb.block k hk⟩ (by cases v.ownBlock<;>simp)
theorem Sp.up {c:Lkr} {F P Q:Nat} {x:Cd.Op4} {w w':World} {vL vS:Value} {lo st:List KindD} (h:Sp c F P Q x w vL vS lo st) (hb:Below w.heap.size w w'):Sp c F P Q x w' vL vS lo st:=
 ⟨(hb.block Q (lt_of h.blk)).trans h.blk,h.FQ,own_up h.oL hb,own_up h.oS hb,h.nL,h.nS,h.ne,h.gL,h.gS⟩
def SpOut (c:Lkr) (F P Q:Nat) (x:Cd.Op4) (res:Option LS) (r:Ending) (w w':World):Prop:=
 Below F w w'/\((∃s vL vS,res=some s/\r=.returned (.tuple #[])/\Sp c F P Q x w' vL vS s.1 s.2)\/(res=none/\∃e p,e≠0/\r=.panicked [wrongV e p]))
theorem sdemand_any {c:Lkr} {F P Q:Nat} {x:Cd.Op4} (w:World) {vL vS:Value} {lo st:List KindD} (h:Sp c F P Q x w vL vS lo st) (b:Bool) (e:Int):
 Calls Tryz.prog 246 #[.pointer (some ⟨Q,0,none⟩),.bool b,.int .i64 e] w fun r w'=>w'=w/\DemOut b e x.loc r:=by
 have c1:=cell_of h.blk 1 (x:=.int .i64 x.loc) rfl
 clear h
 go_enter Tryz.func246,Tryz.ntmps246
 go_wp2_with fail
 refine (demandAt_any _ _ _ _).mono ?_
 rintro r w2 ⟨rfl,⟨rfl,rfl⟩ | ⟨rfl,rfl⟩⟩
 ·
  exact ⟨rfl,rfl,Or.inl ⟨rfl,rfl⟩⟩
 go_wp2_with fail
 go_end0
 exact ⟨rfl,Or.inr ⟨rfl,rfl⟩⟩
end Go.Proofs.YtcddpmappmjilaaGreatDoor
