import Derived.Test.YtjdnmblggdobgaaGreatJTk2Dies
import Derived.Test.YtjdnmblggdobgaaGreatLEv
set_option maxHeartbeats 2000000
namespace Go.Proofs.YtjdnmblggdobgaaGreat
open Go.RowKit
def Nums (w:World) (b:Nat) (l:List ClassD):Prop:=∃Bm,w.cell? ⟨b,5,none⟩=some (.map (some Bm))/\NumMap w Bm l
theorem Nums.lt {w:World} {b:Nat} {l:List ClassD} (h:Nums w b l):b<w.heap.size:=by
 obtain ⟨Bm,h,_⟩:=h
 exact World.block_lt_of_cell? w _ h
theorem Nums.below {w w':World} {b:Nat} {l:List ClassD} (h:Nums w b l) (hb:Below w.heap.size w w'):Nums w' b l:=by
 have hl:=h.lt
 obtain ⟨Bm,h,hn⟩:=h
 exact ⟨Bm,(hb.cell (p:=⟨b,5,none⟩) hl).trans h,hn.below hb hn.lt⟩
theorem numberN (w:World) (b:Nat) (l:List ClassD) (s:ByteArray) (hN:Nums w b l) (hs:s.size<=maxLen):
 Calls Tryz.prog 199 #[.pointer (some ⟨b,0,none⟩),.string s] w fun r w'=>r=.returned (.int .i64 (num l s))/\w'=w:=by
 obtain ⟨Bm,h,hn⟩:=hN
 exact zcg w b Bm l s h hn hs
theorem zdm (w:World) (b P:Nat) (l:List ClassD) (s:ByteArray) (hN:Nums w b l) (hP:w.cell? ⟨P,0,none⟩=some (.pointer (some ⟨b,0,none⟩))) (hs:s.size<=maxLen):
 Calls Tryz.prog 285 #[.string s,.pointer (some ⟨P,0,none⟩)] w fun r w'=>r=.returned (.bool (hasC l s))/\w'=w:=by
 have HN:=mk0 hN
 clear hN
 go_enter Tryz.func285,Tryz.ntmps285
 go_wp2_with fail
 refine (numberN _ b l s HN.out hs).mono ?_
 rintro r w1 ⟨rfl,rfl⟩
 clear hs hP
 go_wp2_with fail
 go_ret
 exact ⟨rfl,rfl⟩
theorem zdn (w:World) (b B:Nat) (l:List ClassD) (v:Value) (ns:List ByteArray) (hN:Nums w b l) (hv:SL 1 RS (· <B) w v ns) (hB:B<=w.heap.size):
 Calls Tryz.prog 235 #[.pointer (some ⟨b,0,none⟩),v] w fun r w'=>r=.returned (.bool (ns.all (hasC l)))/\Below w.heap.size w w':=by
 have hmf:=mkf Tryz.prog
 have HV:=mk0 hv
 obtain ⟨ao,cl,rfl,-⟩:=hv
 have HN:=mk0 hN
 have HB0:=mk0 (fun o=>(Below.refl w.heap.size w).alloc (Nat.le_refl _) o)
 clear hN
 go_enter Tryz.func235,Tryz.ntmps235
 go_wp2_with fail
 refine (zc9 _ B _ ns (HV.out.keptS (Kp.below ((HB0.out _).mono hB))) (by simp;omega) 285 #[] _ (hasC l) (fun args w=>by kernel_rfl) ?_).mono ?_
 ·
  rintro x hx u W hW ⟨rfl,hs⟩
  refine (zdm W b w.heap.size l x ((HN.out.below (HB0.out _)).below hW) ((hW.cell (p:=⟨w.heap.size,0,none⟩) (by simp)).trans (by simp [go_sem])) hs).mono ?_
  rintro r w' ⟨rfl,rfl⟩
  exact ⟨rfl,Below.refl _ _⟩
 rintro r w1 ⟨rfl,hb⟩
 have hb2:Below w.heap.size w w1:=(HB0.out _).trans (hb.mono (by simp))
 clear hb
 go_wp2_with fail
 go_ret
 exact ⟨rfl,hb2⟩
theorem one_S (w:World) (s:ByteArray) (t g:Nat) (hs:s.size<=maxLen) (hg:w.heap.size=g):SL 1 RS (· <g+1) (w.alloc (.cells #[.string s] t)) (.slice (some ⟨g,0,none⟩) 1 1) [s]:=by
 subst hg
 refine ⟨some ⟨w.heap.size,0,none⟩,1,rfl,Nat.le_refl _,by unfold maxLen;simp,fun k hk=>?_⟩
 have:k=0:=by simpa using hk
 subst this
 refine ⟨w.heap.size,0,[.string s],rfl,by simp,by simp,rfl,fun j hj=>?_,rfl,hs⟩
 have:j=0:=by omega
 subst this
 simp [go_sem]
theorem one_K (w:World) (k:KindD) (t g:Nat) (hs:k.cls.size<=maxLen) (hg:w.heap.size=g):SL 2 RK (· <g+1) (w.alloc (.cells #[.int .i64 k.kind,.string k.cls] t)) (.slice (some ⟨g,0,none⟩) 1 1) [k]:=by
 subst hg
 refine ⟨some ⟨w.heap.size,0,none⟩,1,rfl,Nat.le_refl _,by unfold maxLen;simp,fun i hi=>?_⟩
 have:i=0:=by simpa using hi
 subst this
 refine ⟨w.heap.size,0,[.int .i64 k.kind,.string k.cls],rfl,by simp,by simp,rfl,fun j hj=>?_,rfl,hs⟩
 rcases (by omega:j=0\/j=1)with rfl | rfl<;>simp [go_sem]
theorem zdo (w:World) (b P:Nat) (l:List ClassD) (k:KindD) (hN:Nums w b l) (hP:w.cell? ⟨P,0,none⟩=some (.pointer (some ⟨b,0,none⟩))) (hs:k.cls.size<=maxLen):
 Calls Tryz.prog 293 #[.agg #[.int .i64 k.kind,.string k.cls],.pointer (some ⟨P,0,none⟩)] w fun r w'=>r=.returned (.bool (knowsK l k))/\Below w.heap.size w w':=by
 have HN:=mk0 hN
 have hPl:=World.block_lt_of_cell? w _ hP
 have HB0:=mk0 (fun o=>(Below.refl w.heap.size w).alloc (Nat.le_refl _) o)
 clear hN
 by_cases h:k.cls=⟨#[]⟩
 ·
  have HK:Hid (knowsK l k=true):=by show knowsK l k=true;simp [knowsK,h]
  have h':=zcb h
  clear h hs
  go_enter Tryz.func293,Tryz.ntmps293
  go_wp2_with fail
  go_ret
  exact ⟨by rw [HK.out];rfl,HB0.out _⟩
 have HK:Hid (knowsK l k=hasC l k.cls):=by show knowsK l k=_;simp [knowsK,h]
 have h':¬k.cls.toList= []:=fun e=>h (zca e)
 have HS:=mk0 hs
 clear h hs
 go_enter Tryz.func293,Tryz.ntmps293
 go_wp2_with fail
 have hB1:=HB0.out (.cells #[.int .i64 k.kind,.string k.cls] 123)
 have hB2:=hB1.alloc hB1.size (.cells #[.string k.cls] 9)
 refine (zdn _ b (w.heap.size+1+1) l _ [k.cls] (HN.out.below hB2) (one_S _ k.cls _ (w.heap.size+1) HS.out (by simp)) (by simp)).mono ?_
 rintro r w1 ⟨rfl,hb⟩
 have hB3:=hB2.trans (hb.mono (by simp;omega))
 clear hb hB1 hB2
 go_wp2_with fail
 go_ret
 exact ⟨by rw [HK.out];simp [h'],hB3⟩
theorem zdp (w:World) (b B:Nat) (l:List ClassD) (v:Value) (ks:List KindD) (hN:Nums w b l) (hv:SL 2 RK (· <B) w v ks) (hB:B<=w.heap.size):
 Calls Tryz.prog 244 #[.pointer (some ⟨b,0,none⟩),v] w fun r w'=>r=.returned (.bool (ks.all (knowsK l)))/\Below w.heap.size w w':=by
 have hmf:=mkf Tryz.prog
 have HV:=mk0 hv
 obtain ⟨ao,cl,rfl,-⟩:=hv
 have HN:=mk0 hN
 have HB0:=mk0 (fun o=>(Below.refl w.heap.size w).alloc (Nat.le_refl _) o)
 clear hN
 go_enter Tryz.func244,Tryz.ntmps244
 go_wp2_with fail
 refine (zcx _ B _ ks (HV.out.keptK (Kp.below ((HB0.out _).mono hB))) (by simp;omega) 293 #[] _ (knowsK l) (fun args w=>by kernel_rfl) ?_).mono ?_
 ·
  rintro x hx u W hW ⟨rfl,hs⟩
  exact zdo W b w.heap.size l x ((HN.out.below (HB0.out _)).below hW) ((hW.cell (p:=⟨w.heap.size,0,none⟩) (by simp)).trans (by simp [go_sem])) hs
 rintro r w1 ⟨rfl,hb⟩
 have hb2:Below w.heap.size w w1:=(HB0.out _).trans (hb.mono (by simp))
 clear hb
 go_wp2_with fail
 go_ret
 exact ⟨rfl,hb2⟩
end Go.Proofs.YtjdnmblggdobgaaGreat
namespace Go.Proofs.YtjdnmblggdobgaaGreat
open Go.RowKit Go.Maps
theorem zdq {B:Nat} {w w':World} (h:Below B w w') (n:Nat):Below B w (w'.drewN n):=⟨h.os,h.tape,h.output,h.size,h.block⟩
theorem Web.nums {B:Nat} {w:World} {b:Nat} {l:List ClassD} {vC vS vF vN vT vL:Value} {Bm:Nat} (h:Web B w b l vC vS vF vN vT vL Bm):Nums w b l:=⟨Bm,cl0 h.blk 5 rfl,h.nm⟩
theorem Web.cell0 {B:Nat} {w:World} {b:Nat} {l:List ClassD} {vC vS vF vN vT vL:Value} {Bm:Nat} (h:Web B w b l vC vS vF vN vT vL Bm):w.cell? ⟨b,0,none⟩=some vC:=cl0 h.blk 0 rfl
theorem zdr (w:World) (B b:Nat) (l:List ClassD) (vC vS vF vN vT vL:Value) (Bm:Nat) (hw:Web B w b l vC vS vF vN vT vL Bm):
 Calls Tryz.prog 203 #[.pointer (some ⟨b,0,none⟩)] w fun r w'=>r=.returned (.bool (askNames l))/\Below w.heap.size w w':=by
 have c0:=hw.cell0
 have c5:=cl0 hw.blk 5 (x:=.map (some Bm)) rfl
 obtain ⟨ao,cl,rfl,-,hll,-⟩:=hw.sC
 obtain ⟨D,hown,hD⟩:=hw.nm
 have hlen:∀n ty,(Builtin.len_ #[152] ty #[.map (some Bm)]).run Tryz.prog (w.drewN n)=.ok (.int .i64 (Maps.size D)) (w.drewN n):=fun n ty=>World.ownsMap.len (w:=w.drewN n) hown Tryz.underlying152 ty
 have HR:Hid (((Maps.size D:Int)==(l.length:Int))=askNames l):=by
  show ((Maps.size D:Int)==(l.length:Int))=askNames l
  rw [Bool.eq_iff_iff,<-hD.eq,beq_iff_eq]
  constructor<;>intro h<;>omega
 clear hD hown hw
 unfold maxLen at hll
 go_enter Tryz.func203,Tryz.ntmps203
 go_wp2_with fail
 go_quiet (fail)
 go_wp2_with fail
 go_ret
 exact ⟨by rw [<-HR.out];rfl,zdq (Below.refl _ _) _⟩
theorem two_S (w:World) (s s':ByteArray) (t:Nat) (hs:s.size<=maxLen) (hs':s'.size<=maxLen):SL 1 RS (· <w.heap.size+1) (w.alloc (.cells #[.string s,.string s'] t)) (.slice (some ⟨w.heap.size,0,none⟩) 2 2) [s,s']:=by
 refine ⟨some ⟨w.heap.size,0,none⟩,2,rfl,Nat.le_refl _,by unfold maxLen;simp,fun k hk=>?_⟩
 have hk2:k<2:=by simpa using hk
 rcases (by omega:k=0\/k=1)with rfl | rfl
 ·
  refine ⟨w.heap.size,0,[.string s],rfl,by simp,by simp,rfl,fun j hj=>?_,rfl,hs⟩
  have:j=0:=by omega
  subst this
  simp [go_sem]
 refine ⟨w.heap.size,0,[.string s'],rfl,by simp,by simp,rfl,fun j hj=>?_,rfl,hs'⟩
 have:j=0:=by omega
 subst this
 simp [go_sem]
theorem zds (w:World) (B b:Nat) (l:List ClassD) (vC vS vF vN vT vL:Value) (Bm:Nat) (hw:Web B w b l vC vS vF vN vT vL Bm):
 Calls Tryz.prog 204 #[.pointer (some ⟨b,0,none⟩)] w fun r w'=>r=.returned (.bool (askTop l))/\Below w.heap.size w w':=by
 have HN:=mk0 hw.nums
 have HB0:=mk0 (fun o=>(Below.refl w.heap.size w).alloc (Nat.le_refl _) o)
 go_enter Tryz.func204,Tryz.ntmps204
 go_wp2_with fail
 have hB1:=HB0.out (.cells #[.string topName,.string errName] 9)
 refine (zdn _ b (w.heap.size+1) l _ [topName,errName] (HN.out.below hB1) (two_S w topName errName _ (by decide) (by decide)) (by simp)).mono ?_
 rintro r w1 ⟨rfl,hb⟩
 have hB2:=hB1.trans (hb.mono (by simp))
 clear hb hB1
 go_wp2_with fail
 go_ret
 exact ⟨by simp [askTop],hB2⟩
theorem zdt:topName.toList= [79,98,106,101,99,116]:=by rw [ByteArray.toList_eq];rfl
def upperB (c:ClassD):Bool:=(decide (c.name=topName))==(decide (c.super=(⟨#[]⟩:ByteArray)))
theorem zdu (w:World) (B:Nat) (c:ClassD) (u:Value) (hu:ElC B w u c):
 Calls Tryz.prog 237 #[u] w fun r w'=>r=.returned (.bool (upperB c))/\Below w.heap.size w w':=by
 obtain ⟨fo,cf,mo,cm,rfl,-,-,-,-⟩:=hu
 have HB0:=mk0 (fun o=>(Below.refl w.heap.size w).alloc (Nat.le_refl _) o)
 by_cases h1:c.name=topName
 ·
  have t1:c.name.toList= [79,98,106,101,99,116]:=by rw [h1];exact zdt
  by_cases h2:c.super=⟨#[]⟩
  ·
   have t2:=zcb h2
   have HR:Hid (upperB c=true):=by show upperB c=true;simp [upperB,h1,h2]
   clear h1 h2
   go_enter Tryz.func237,Tryz.ntmps237
   go_wp2_with fail
   go_ret
   exact ⟨by rw [HR.out];simp,HB0.out _⟩
  have t2:¬c.super.toList= []:=fun e=>h2 (zca e)
  have HR:Hid (upperB c=false):=by show upperB c=false;simp [upperB,h1,h2]
  clear h1 h2
  go_enter Tryz.func237,Tryz.ntmps237
  go_wp2_with fail
  go_ret
  exact ⟨by rw [HR.out];simp [t2],HB0.out _⟩
 have t1:¬c.name.toList= [79,98,106,101,99,116]:=fun e=>h1 (zb9 (e.trans zdt.symm))
 by_cases h2:c.super=⟨#[]⟩
 ·
  have t2:=zcb h2
  have HR:Hid (upperB c=false):=by show upperB c=false;simp [upperB,h1,h2]
  clear h1 h2
  go_enter Tryz.func237,Tryz.ntmps237
  go_wp2_with fail
  go_ret
  exact ⟨by rw [HR.out];simp [t1],HB0.out _⟩
 have t2:¬c.super.toList= []:=fun e=>h2 (zca e)
 have HR:Hid (upperB c=true):=by show upperB c=true;simp [upperB,h1,h2]
 clear h1 h2
 go_enter Tryz.func237,Tryz.ntmps237
 go_wp2_with fail
 go_ret
 exact ⟨by rw [HR.out];simp;rw [beq_eq_false_iff_ne.2 t1];(cases hh:c.super.toList with | nil=>exact absurd hh t2 | cons _ _=>rfl),HB0.out _⟩
theorem zdv (w:World) (B b:Nat) (l:List ClassD) (vC vS vF vN vT vL:Value) (Bm:Nat) (hw:Web B w b l vC vS vF vN vT vL Bm):
 Calls Tryz.prog 205 #[.pointer (some ⟨b,0,none⟩)] w fun r w'=>r=.returned (.bool (askUpper l))/\Below w.heap.size w w':=by
 have c0:=hw.cell0
 have HV:=mk0 hw.sC
 have hle:=hw.le
 obtain ⟨ao,cl,rfl,-⟩:=hw.sC
 clear hw
 go_enter Tryz.func205,Tryz.ntmps205
 go_wp2_with fail
 refine (zcp _ B _ l HV.out hle 237 #[] #[] upperB (fun args w=>by kernel_rfl) ?_).mono ?_
 ·
  intro x _ u W _ hu
  exact zdu W B x u hu
 rintro r w1 ⟨rfl,hb⟩
 go_wp2_with fail
 go_ret
 exact ⟨rfl,hb⟩
def superB (l:List ClassD) (c:ClassD):Bool:=decide (c.super=(⟨#[]⟩:ByteArray))||hasC l c.super
theorem zdw (w:World) (B b P:Nat) (l:List ClassD) (c:ClassD) (u:Value) (hu:ElC B w u c) (hN:Nums w b l) (hP:w.cell? ⟨P,0,none⟩=some (.pointer (some ⟨b,0,none⟩))):
 Calls Tryz.prog 238 #[u,.pointer (some ⟨P,0,none⟩)] w fun r w'=>r=.returned (.bool (superB l c))/\Below w.heap.size w w':=by
 obtain ⟨fo,cf,mo,cm,rfl,-,-,-,hs⟩:=hu
 have hPl:=World.block_lt_of_cell? w _ hP
 have HN:=mk0 hN
 have HB0:=mk0 (fun o=>(Below.refl w.heap.size w).alloc (Nat.le_refl _) o)
 clear hN
 by_cases h:c.super=⟨#[]⟩
 ·
  have HK:Hid (superB l c=true):=by show superB l c=true;simp [superB,h]
  have h':=zcb h
  clear h hs
  go_enter Tryz.func238,Tryz.ntmps238
  go_wp2_with fail
  go_ret
  exact ⟨by rw [HK.out];rfl,HB0.out _⟩
 have HK:Hid (superB l c=hasC l c.super):=by show superB l c=_;simp [superB,h]
 have h':¬c.super.toList= []:=fun e=>h (zca e)
 have HS:=mk0 hs
 clear h hs
 go_enter Tryz.func238,Tryz.ntmps238
 go_wp2_with fail
 have hB1:=HB0.out (.cells #[.string c.name,.string c.super,.slice fo c.fields.length cf,.slice mo c.meths.length cm] 162)
 have hB2:=hB1.alloc hB1.size (.cells #[.string c.super] 9)
 refine (zdn _ b (w.heap.size+1+1) l _ [c.super] (HN.out.below hB2) (one_S _ c.super _ (w.heap.size+1) HS.out (by simp)) (by simp)).mono ?_
 rintro r w1 ⟨rfl,hb⟩
 have hB3:=hB2.trans (hb.mono (by simp;omega))
 clear hb hB1 hB2
 go_wp2_with fail
 go_ret
 exact ⟨by rw [HK.out];simp [h'],hB3⟩
theorem zdx (w:World) (B b:Nat) (l:List ClassD) (vC vS vF vN vT vL:Value) (Bm:Nat) (hw:Web B w b l vC vS vF vN vT vL Bm):
 Calls Tryz.prog 206 #[.pointer (some ⟨b,0,none⟩)] w fun r w'=>r=.returned (.bool (askSupers l))/\Below w.heap.size w w':=by
 have hmf:=mkf Tryz.prog
 have c0:=hw.cell0
 have hbl:=lt0 hw.blk
 have HV:=mk0 hw.sC
 have HN:=mk0 hw.nums
 have hle:=hw.le
 have HB0:=mk0 (fun o=>(Below.refl w.heap.size w).alloc (Nat.le_refl _) o)
 obtain ⟨ao,cl,rfl,-⟩:=hw.sC
 clear hw
 go_enter Tryz.func206,Tryz.ntmps206
 go_wp2_with fail
 refine (zcp _ B _ l (HV.out.keptC (Kp.below ((HB0.out _).mono hle))) (by simp;omega) 238 #[] _ (superB l) (fun args w=>by kernel_rfl) ?_).mono ?_
 ·
  intro x _ u W hW hu
  exact zdw W B b w.heap.size l x u hu ((HN.out.below (HB0.out _)).below hW) ((hW.cell (p:=⟨w.heap.size,0,none⟩) (by simp)).trans (by simp [go_sem]))
 rintro r w1 ⟨rfl,hb⟩
 have hb2:Below w.heap.size w w1:=(HB0.out _).trans (hb.mono (by simp))
 clear hb
 go_wp2_with fail
 go_ret
 exact ⟨rfl,hb2⟩
theorem zdy (w:World) (B b P:Nat) (l:List ClassD) (x:List Nat) (u:Value) (ao:Option Addr) (cl:Nat) (hu:ElIs B w u x) (hc0:w.cell? ⟨b,0,none⟩=some (.slice ao l.length cl)) (hP:w.cell? ⟨P,0,none⟩=some (.pointer (some ⟨b,0,none⟩))):
 Calls Tryz.prog 240 #[u,.pointer (some ⟨P,0,none⟩)] w fun r w'=>r=.returned (.bool (decide (x.length<=l.length)))/\Below w.heap.size w w':=by
 obtain ⟨ai,ci,rfl,-⟩:=hu
 go_enter Tryz.func240,Tryz.ntmps240
 go_wp2_with fail
 go_ret
 exact ⟨by simp,Below.refl _ _⟩
theorem zdz (w:World) (B b:Nat) (l:List ClassD) (vC vS vF vN vT vL:Value) (Bm:Nat) (hw:Web B w b l vC vS vF vN vT vL Bm):
 Calls Tryz.prog 207 #[.pointer (some ⟨b,0,none⟩)] w fun r w'=>r=.returned (.bool (askNone l))/\Below w.heap.size w w':=by
 have hmf:=mkf Tryz.prog
 have c0:=hw.cell0
 have c6:=cl0 hw.blk 6 (x:=vL) rfl
 have hbl:=lt0 hw.blk
 have sL:=hw.sL
 have hle:=hw.le
 have HB0:=mk0 (fun o=>(Below.refl w.heap.size w).alloc (Nat.le_refl _) o)
 obtain ⟨ao,cl,rfl,-⟩:=hw.sC
 have HLA:Hid (askNone l=((List.range l.length).map (lineOf l)).all fun x=>decide (x.length<=l.length)):=by
  show askNone l=_
  rw [askNone,List.all_map]
  rfl
 clear hw
 generalize (List.range l.length).map (lineOf l)=LL at*
 have HV:=mk0 sL
 obtain ⟨al,cc,rfl,-⟩:=sL
 go_enter Tryz.func207,Tryz.ntmps207
 go_wp2_with fail
 refine (zdd _ B _ _ (HV.out.keptSl (Kp.below ((HB0.out _).mono hle)) fun _ _ h=>h) (by simp;omega) 240 #[] _ (fun x=>decide (x.length<=l.length)) (fun args w=>by kernel_rfl) ?_).mono ?_
 ·
  intro x _ u W hW hu
  exact zdy W B b w.heap.size l x u ao cl hu ((hW.cell (p:=⟨b,0,none⟩) (by simp;omega)).trans (((HB0.out _).cell (p:=⟨b,0,none⟩) hbl).trans c0)) ((hW.cell (p:=⟨w.heap.size,0,none⟩) (by simp)).trans (by simp [go_sem]))
 rintro r w1 ⟨rfl,hb⟩
 have hb2:Below w.heap.size w w1:=(HB0.out _).trans (hb.mono (by simp))
 clear hb
 go_wp2_with fail
 go_ret
 exact ⟨by rw [HLA.out];rfl,hb2⟩
theorem zd0 (w:World) (B b P:Nat) (l:List ClassD) (x:FieldD) (u:Value) (hu:ElF B w u x) (hN:Nums w b l) (hP:w.cell? ⟨P,0,none⟩=some (.pointer (some ⟨b,0,none⟩))):
 Calls Tryz.prog 243 #[u,.pointer (some ⟨P,0,none⟩)] w fun r w'=>r=.returned (.bool (knowsK l x.kind))/\Below w.heap.size w w':=by
 obtain ⟨rfl,-,hs⟩:=hu
 have hPl:=World.block_lt_of_cell? w _ hP
 have HN:=mk0 hN
 have HS:=mk0 hs
 have HB0:=mk0 (fun o=>(Below.refl w.heap.size w).alloc (Nat.le_refl _) o)
 clear hN hs
 go_enter Tryz.func243,Tryz.ntmps243
 go_wp2_with fail
 have hB1:=HB0.out (.cells #[.string x.name,.int .i64 x.kind.kind,.string x.kind.cls] 125)
 have hB2:=hB1.alloc hB1.size (.cells #[.int .i64 x.kind.kind,.string x.kind.cls] 123)
 refine (zdp _ b (w.heap.size+1+1) l _ [x.kind] (HN.out.below hB2) (one_K _ x.kind _ (w.heap.size+1) HS.out (by simp)) (by simp)).mono ?_
 rintro r w1 ⟨rfl,hb⟩
 have hB3:=hB2.trans (hb.mono (by simp;omega))
 clear hb hB1 hB2
 go_wp2_with fail
 go_ret
 exact ⟨by simp,hB3⟩
theorem zd1 (w:World) (B b P:Nat) (l:List ClassD) (x:HandD) (u:Value) (hu:ElH B w u x) (hN:Nums w b l) (hP:w.cell? ⟨P,0,none⟩=some (.pointer (some ⟨b,0,none⟩))):
 Calls Tryz.prog 297 #[u,.pointer (some ⟨P,0,none⟩)] w fun r w'=>r=.returned (.bool (hasC l x.cls))/\Below w.heap.size w w':=by
 obtain ⟨rfl,hs⟩:=hu
 have hPl:=World.block_lt_of_cell? w _ hP
 have HN:=mk0 hN
 have HS:=mk0 hs
 have HB0:=mk0 (fun o=>(Below.refl w.heap.size w).alloc (Nat.le_refl _) o)
 clear hN hs
 go_enter Tryz.func297,Tryz.ntmps297
 go_wp2_with fail
 have hB1:=HB0.out (.cells #[.int .i64 x.frm,.int .i64 x.upto,.int .i64 x.loc,.string x.cls] 248)
 have hB2:=hB1.alloc hB1.size (.cells #[.string x.cls] 9)
 refine (zdn _ b (w.heap.size+1+1) l _ [x.cls] (HN.out.below hB2) (one_S _ x.cls _ (w.heap.size+1) HS.out (by simp)) (by simp)).mono ?_
 rintro r w1 ⟨rfl,hb⟩
 have hB3:=hB2.trans (hb.mono (by simp;omega))
 clear hb hB1 hB2
 go_wp2_with fail
 go_ret
 exact ⟨by simp,hB3⟩
theorem zd2 (w:World) (B b:Nat) (l:List ClassD) (x:MethD) (u:Value) (hu:ElM B w u x) (hN:Nums w b l) (hB:B<=w.heap.size):
 Calls Tryz.prog 246 #[.pointer (some ⟨b,0,none⟩),u] w fun r w'=>r=.returned (.bool (knowsM l x))/\Below w.heap.size w w':=by
 have hmf:=mkf Tryz.prog
 obtain ⟨ao,ca,ho,ch,rfl,ea,eh,-,hs,-⟩:=hu
 have HN:=mk0 hN
 have HS:=mk0 hs
 have EA:=mk0 ea
 have EH:=mk0 eh
 have HB0:=mk0 (fun o=>(Below.refl w.heap.size w).alloc (Nat.le_refl _) o)
 clear hN hs ea eh
 have hB1:=HB0.out (.cells #[.pointer (some ⟨b,0,none⟩)] 148)
 have hB2:=hB1.alloc hB1.size (.cells #[.string x.name,.bool x.static,.slice ao x.args.length ca,.int .i64 x.ret.kind,.string x.ret.cls,.int .i64 x.stack,.int .i64 x.locals,.string x.code,.slice ho x.hands.length ch] 159)
 go_enter Tryz.func246,Tryz.ntmps246
 go_wp2_with fail
 refine (zdp _ b B l _ x.args (HN.out.below hB2) (EA.out.keptK (Kp.below (hB2.mono hB))) (by simp;omega)).mono ?_
 rintro r w1 ⟨rfl,hb⟩
 have d0:w1.cell? ⟨w.heap.size,0,none⟩=some (.pointer (some ⟨b,0,none⟩)):=(hb.cell (p:=⟨w.heap.size,0,none⟩) (by simp;omega)).trans (by simp [go_sem])
 have d3:w1.cell? ⟨w.heap.size+1,3,none⟩=some (.int .i64 x.ret.kind):=(hb.cell (p:=⟨w.heap.size+1,3,none⟩) (by simp)).trans (by simp [go_sem])
 have d4:w1.cell? ⟨w.heap.size+1,4,none⟩=some (.string x.ret.cls):=(hb.cell (p:=⟨w.heap.size+1,4,none⟩) (by simp)).trans (by simp [go_sem])
 have d8:w1.cell? ⟨w.heap.size+1,8,none⟩=some (.slice ho x.hands.length ch):=(hb.cell (p:=⟨w.heap.size+1,8,none⟩) (by simp)).trans (by simp [go_sem])
 have hB3:=hB2.trans (hb.mono (by simp;omega))
 have hz1:w.heap.size+1<w1.heap.size:=World.block_lt_of_cell? w1 _ d3
 have HM:Hid (knowsM l x=(x.args.all (knowsK l)&&knowsK l x.ret&&x.hands.all (fun h=>hasC l h.cls))):=rfl
 clear hb hB1 hB2
 cases ha:x.args.all (knowsK l)
 ·
  have HR:Hid (knowsM l x=false):=by rw [HM.out,ha];rfl
  clear ha
  go_wp2_with fail
  go_ret
  exact ⟨by rw [HR.out];rfl,hB3⟩
 have HA:=mk0 ha
 clear ha
 go_wp2_with fail
 have hB4:=hB3.alloc hB3.size (.cells #[.int .i64 x.ret.kind,.string x.ret.cls] 123)
 refine (zdp _ b (w1.heap.size+1) l _ [x.ret] (HN.out.below hB4) (one_K w1 x.ret _ w1.heap.size HS.out rfl) (by simp)).mono ?_
 rintro r w2 ⟨rfl,hb⟩
 have hB5:=hB4.trans (hb.mono (by have:=hB3.size;simp;omega))
 have f0:w2.cell? ⟨w.heap.size,0,none⟩=some (.pointer (some ⟨b,0,none⟩)):=(hb.cell (p:=⟨w.heap.size,0,none⟩) (by simp;omega)).trans (by rw [World.cell?_alloc_past _ _ _ (by omega)];exact d0)
 have f8:w2.cell? ⟨w.heap.size+1,8,none⟩=some (.slice ho x.hands.length ch):=(hb.cell (p:=⟨w.heap.size+1,8,none⟩) (by simp;omega)).trans (by rw [World.cell?_alloc_past _ _ _ (by omega)];exact d8)
 clear hb hB3 hB4 d0 d3 d4 d8
 cases hr:knowsK l x.ret
 ·
  have HR:Hid (knowsM l x=false):=by rw [HM.out,HA.out,hr];rfl
  have hr':([x.ret].all (knowsK l))=false:=by simp [hr]
  rw [hr']
  clear hr hr'
  go_wp2_with fail
  go_ret
  exact ⟨by rw [HR.out];rfl,hB5⟩
 have HR:Hid (knowsM l x=x.hands.all (fun h=>hasC l h.cls)):=by rw [HM.out,HA.out,hr];rfl
 have hr':([x.ret].all (knowsK l))=true:=by simp [hr]
 rw [hr']
 clear hr hr'
 go_wp2_with fail
 refine (zc1 _ B _ x.hands (EH.out.keptH (Kp.below (hB5.mono hB))) (by have:=hB5.size;omega) 297 #[] _ (fun h=>hasC l h.cls) (fun args w=>by kernel_rfl) ?_).mono ?_
 ·
  intro y _ u W hW hu
  exact zd1 W B b w.heap.size l y u hu ((HN.out.below hB5).below hW) ((hW.cell (p:=⟨w.heap.size,0,none⟩) (World.block_lt_of_cell? w2 _ f0)).trans f0)
 rintro r w3 ⟨rfl,hb⟩
 have hB6:=hB5.trans (hb.mono hB5.size)
 clear hb hB5 f0 f8
 go_wp2_with fail
 go_ret
 exact ⟨by rw [HR.out];rfl,hB6⟩
def toldB (l:List ClassD) (c:ClassD):Bool:=(c.fields.all fun f=>knowsK l f.kind)&&c.meths.all (knowsM l)
theorem zd3 (w:World) (B b P:Nat) (l:List ClassD) (c:ClassD) (u:Value) (hu:ElC B w u c) (hN:Nums w b l) (hP:w.cell? ⟨P,0,none⟩=some (.pointer (some ⟨b,0,none⟩))) (hB:B<=w.heap.size):
 Calls Tryz.prog 241 #[u,.pointer (some ⟨P,0,none⟩)] w fun r w'=>r=.returned (.bool (toldB l c))/\Below w.heap.size w w':=by
 have hmf:=mkf Tryz.prog
 obtain ⟨fo,cf,mo,cm,rfl,ef,em,-,-⟩:=hu
 have hPl:=World.block_lt_of_cell? w _ hP
 have HN:=mk0 hN
 have EF:=mk0 ef
 have EM:=mk0 em
 have HB0:=mk0 (fun o=>(Below.refl w.heap.size w).alloc (Nat.le_refl _) o)
 clear hN ef em
 have hB1:=HB0.out (.cells #[.string c.name,.string c.super,.slice fo c.fields.length cf,.slice mo c.meths.length cm] 162)
 go_enter Tryz.func241,Tryz.ntmps241
 go_wp2_with fail
 refine (zct _ B _ c.fields (EF.out.keptF (Kp.below (hB1.mono hB))) (by simp;omega) 243 #[] _ (fun f=>knowsK l f.kind) (fun args w=>by kernel_rfl) ?_).mono ?_
 ·
  intro y _ u W hW hu
  exact zd0 W B b P l y u hu ((HN.out.below hB1).below hW) ((hW.cell (p:=⟨P,0,none⟩) (by simp;omega)).trans ((hB1.cell (p:=⟨P,0,none⟩) hPl).trans hP))
 rintro r w1 ⟨rfl,hb⟩
 have d3:w1.cell? ⟨w.heap.size,3,none⟩=some (.slice mo c.meths.length cm):=(hb.cell (p:=⟨w.heap.size,3,none⟩) (by simp)).trans (by simp [go_sem])
 have hB2:=hB1.trans (hb.mono (by simp))
 have hz1:w.heap.size<w1.heap.size:=World.block_lt_of_cell? w1 _ d3
 have hP1:w1.cell? ⟨P,0,none⟩=some (.pointer (some ⟨b,0,none⟩)):=(hB2.cell (p:=⟨P,0,none⟩) hPl).trans hP
 have HM:Hid (toldB l c=((c.fields.all fun f=>knowsK l f.kind)&&c.meths.all (knowsM l))):=rfl
 clear hb hB1 hP
 cases ha:c.fields.all fun f=>knowsK l f.kind
 ·
  have HR:Hid (toldB l c=false):=by rw [HM.out,ha];rfl
  clear ha
  go_wp2_with fail
  go_ret
  exact ⟨by rw [HR.out];rfl,hB2⟩
 have HR:Hid (toldB l c=c.meths.all (knowsM l)):=by rw [HM.out,ha];rfl
 clear ha
 go_wp2_with fail
 refine (zc5 _ B _ c.meths (EM.out.keptM (Kp.below (hB2.mono hB))) (by omega) 246 _ #[] (knowsM l) (fun args w=>by kernel_rfl) ?_).mono ?_
 ·
  intro y _ u W hW hu
  exact zd2 W B b l y u hu ((HN.out.below hB2).below hW) (by have:=hW.size;omega)
 rintro r w2 ⟨rfl,hb⟩
 have hB3:=hB2.trans (hb.mono hB2.size)
 clear hb hB2
 go_wp2_with fail
 go_ret
 exact ⟨by rw [HR.out];rfl,hB3⟩
theorem zd4 (w:World) (B b:Nat) (l:List ClassD) (vC vS vF vN vT vL:Value) (Bm:Nat) (hw:Web B w b l vC vS vF vN vT vL Bm):
 Calls Tryz.prog 209 #[.pointer (some ⟨b,0,none⟩)] w fun r w'=>r=.returned (.bool (askTold l))/\Below w.heap.size w w':=by
 have hmf:=mkf Tryz.prog
 have c0:=hw.cell0
 have hbl:=lt0 hw.blk
 have HV:=mk0 hw.sC
 have HN:=mk0 hw.nums
 have hle:=hw.le
 have HB0:=mk0 (fun o=>(Below.refl w.heap.size w).alloc (Nat.le_refl _) o)
 obtain ⟨ao,cl,rfl,-⟩:=hw.sC
 clear hw
 go_enter Tryz.func209,Tryz.ntmps209
 go_wp2_with fail
 refine (zcp _ B _ l (HV.out.keptC (Kp.below ((HB0.out _).mono hle))) (by simp;omega) 241 #[] _ (toldB l) (fun args w=>by kernel_rfl) ?_).mono ?_
 ·
  intro x _ u W hW hu
  exact zd3 W B b w.heap.size l x u hu ((HN.out.below (HB0.out _)).below hW) ((hW.cell (p:=⟨w.heap.size,0,none⟩) (by simp)).trans (by simp [go_sem])) (by have:=hW.size;simp at this;omega)
 rintro r w1 ⟨rfl,hb⟩
 have hb2:Below w.heap.size w w1:=(HB0.out _).trans (hb.mono (by simp))
 clear hb
 go_wp2_with fail
 go_ret
 exact ⟨rfl,hb2⟩
theorem zd5 (w:World) (B:Nat) (x:List FieldD) (u:Value) (hu:ElFs B w u x):Calls Tryz.prog 256 #[u] w fun r w'=>r=.returned (.bool (decide (x.length<=12)))/\Below w.heap.size w w':=by
 obtain ⟨ai,ci,rfl,-⟩:=hu
 go_enter Tryz.func256,Tryz.ntmps256
 go_wp2_with fail
 go_ret
 exact ⟨by simp;omega,Below.refl _ _⟩
theorem zd6 (w:World) (B:Nat) (x:List ByteArray) (u:Value) (hu:ElSs B w u x):Calls Tryz.prog 258 #[u] w fun r w'=>r=.returned (.bool (decide (x.length<=16)))/\Below w.heap.size w w':=by
 obtain ⟨ai,ci,rfl,-⟩:=hu
 go_enter Tryz.func258,Tryz.ntmps258
 go_wp2_with fail
 go_ret
 exact ⟨by simp;omega,Below.refl _ _⟩
theorem zd7 (w:World) (B b:Nat) (l:List ClassD) (vC vS vF vN vT vL:Value) (Bm:Nat) (hw:Web B w b l vC vS vF vN vT vL Bm):
 Calls Tryz.prog 212 #[.pointer (some ⟨b,0,none⟩)] w fun r w'=>r=.returned (.bool (askFew l))/\Below w.heap.size w w':=by
 have c2:=cl0 hw.blk 2 (x:=vF) rfl
 have c3:=cl0 hw.blk 3 (x:=vN) rfl
 have hbl:=lt0 hw.blk
 have sF:=hw.sF
 have sN:=hw.sN
 have hle:=hw.le
 have HM:Hid (askFew l=((((List.range l.length).map (fieldsOf l)).all fun x=>decide (x.length<=12))&&(((List.range l.length).map (namesOf l)).all fun x=>decide (x.length<=16)))):=by
  show askFew l=_
  rw [askFew,List.all_map,List.all_map]
  rfl
 clear hw
 generalize (List.range l.length).map (fieldsOf l)=LF at*
 generalize (List.range l.length).map (namesOf l)=LN at*
 have HF:=mk0 sF
 have HN:=mk0 sN
 obtain ⟨af,cf,rfl,-⟩:=sF
 obtain ⟨an,cn,rfl,-⟩:=sN
 go_enter Tryz.func212,Tryz.ntmps212
 go_wp2_with fail
 refine (zdh _ B _ _ HF.out hle 256 #[] #[] (fun x=>decide (x.length<=12)) (fun args w=>by kernel_rfl) ?_).mono ?_
 ·
  intro x _ u W _ hu
  exact zd5 W B x u hu
 rintro r w1 ⟨rfl,hb⟩
 have d3:w1.cell? ⟨b,3,none⟩=some (.slice an _ cn):=(hb.cell (p:=⟨b,3,none⟩) hbl).trans c3
 cases ha:LF.all fun x=>decide (x.length<=12)
 ·
  have HR:Hid (askFew l=false):=by rw [HM.out,ha];rfl
  clear ha
  go_wp2_with fail
  go_ret
  exact ⟨by rw [HR.out];rfl,hb⟩
 have HR:Hid (askFew l=(LN.all fun x=>decide (x.length<=16))):=by rw [HM.out,ha];rfl
 clear ha
 go_wp2_with fail
 refine (zdl _ B _ _ (HN.out.keptSl (Kp.below (hb.mono hle)) fun _ _ h=>h) (by have:=hb.size;omega) 258 #[] #[] (fun x=>decide (x.length<=16)) (fun args w=>by kernel_rfl) ?_).mono ?_
 ·
  intro x _ u W _ hu
  exact zd6 W B x u hu
 rintro r w2 ⟨rfl,hb2⟩
 have hb3:=hb.trans (hb2.mono hb.size)
 clear hb hb2
 go_wp2_with fail
 go_ret
 exact ⟨by rw [HR.out];rfl,hb3⟩
end Go.Proofs.YtjdnmblggdobgaaGreat
