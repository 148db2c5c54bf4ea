import Derived.Test.YtjdnmblggdobgaaGreatJTk2Dies
import Derived.Test.YtjdnmblggdobgaaGreatJHzEHzF
import Derived.Test.YtjdnmblggdobgaaGreatHyI
set_option maxHeartbeats 8000000
set_option maxRecDepth 100000
namespace Go.Proofs.YtjdnmblggdobgaaGreat
open Go.RowKit Go.Maps
structure DfsI (d:LinkD) (h:HeapD) (ts:List ThD) (rs:List Int) (all:List ThD) (ahead:List Int):Prop where
 nd:(all.map ThD.loc).Nodup
 inT:∀t∈all,t∈ts
 snd:∀t∈all,RchP nz (nextD d.fields h.words) rs t.loc
 ah:∀v∈ahead,v=0\/RchP nz (nextD d.fields h.words) rs v
 rt:∀v∈rs,v=0\/v∈all.map ThD.loc\/v∈ahead
 cl:∀t∈all,∀v∈nextD d.fields h.words t.loc,v=0\/v∈all.map ThD.loc\/v∈ahead
theorem nz_or (v:Int):v=0\/nz v=true:=by
 by_cases h:v=0
 ·
  exact Or.inl h
 exact Or.inr (by unfold nz;simpa using h)
theorem zxq {d:LinkD} {h:HeapD} {ts:List ThD} {rs:List Int} :DfsI d h ts rs [] rs:=
 ⟨List.nodup_nil,(fun t ht=>by cases ht),(fun t ht=>by cases ht),fun v hv=>(nz_or v).imp id fun hn=>RchP.root hv hn,fun v hv=>Or.inr (Or.inr hv),fun t ht=>by cases ht⟩
theorem DfsI.skip {d:LinkD} {h:HeapD} {ts:List ThD} {rs:List Int} {all:List ThD} {ahead:List Int} {v:Int} (x:DfsI d h ts rs all (ahead++ [v])) (hv:v=0\/v∈all.map ThD.loc):DfsI d h ts rs all ahead:=by
 have aux:∀u:Int,u=0\/u∈all.map ThD.loc\/u∈ahead++ [v]->u=0\/u∈all.map ThD.loc\/u∈ahead:=by
  rintro u (h | h | h)
  ·
   exact Or.inl h
  ·
   exact Or.inr (Or.inl h)
  rcases List.mem_append.1 h with h | h
  ·
   exact Or.inr (Or.inr h)
  rw [List.mem_singleton]at h
  subst h
  exact hv.imp id Or.inl
 exact ⟨x.nd,x.inT,x.snd,fun u hu=>x.ah u (List.mem_append_left _ hu),fun u hu=>aux u (x.rt u hu),fun t ht u hu=>aux u (x.cl t ht u hu)⟩
theorem DfsI.take {d:LinkD} {h:HeapD} {ts:List ThD} {rs:List Int} {all:List ThD} {ahead:List Int} {t:ThD} (x:DfsI d h ts rs all (ahead++ [t.loc])) (ht:t∈ts) (h0:t.loc≠0) (hn:t.loc∉all.map ThD.loc):DfsI d h ts rs (all++ [t]) (ahead++nextD d.fields h.words t.loc):=by
 have hr:RchP nz (nextD d.fields h.words) rs t.loc:=(x.ah t.loc (List.mem_append_right _ (List.mem_singleton.2 rfl))).resolve_left h0
 have hm:∀u:Int,u∈(all++ [t]).map ThD.loc↔u∈all.map ThD.loc\/u=t.loc:=by
  intro u
  rw [List.map_append,List.mem_append]
  simp
 have aux:∀u:Int,u=0\/u∈all.map ThD.loc\/u∈ahead++ [t.loc]->u=0\/u∈(all++ [t]).map ThD.loc\/u∈ahead++nextD d.fields h.words t.loc:=by
  rintro u (h | h | h)
  ·
   exact Or.inl h
  ·
   exact Or.inr (Or.inl ((hm u).2 (Or.inl h)))
  rcases List.mem_append.1 h with h | h
  ·
   exact Or.inr (Or.inr (List.mem_append_left _ h))
  exact Or.inr (Or.inl ((hm u).2 (Or.inr (List.mem_singleton.1 h))))
 refine ⟨?_,?_,?_,?_,fun u hu=>aux u (x.rt u hu),?_⟩
 ·
  rw [List.map_append]
  refine List.nodup_append.2 ⟨x.nd,by simp,fun a ha b hb e=>?_⟩
  rw [List.map_cons,List.map_nil,List.mem_singleton]at hb
  subst hb
  subst e
  exact hn ha
 ·
  intro u hu
  rcases List.mem_append.1 hu with hu | hu
  ·
   exact x.inT u hu
  rw [List.mem_singleton]at hu
  rw [hu];exact ht
 ·
  intro u hu
  rcases List.mem_append.1 hu with hu | hu
  ·
   exact x.snd u hu
  rw [List.mem_singleton]at hu
  rw [hu];exact hr
 ·
  intro u hu
  rcases List.mem_append.1 hu with hu | hu
  ·
   exact x.ah u (List.mem_append_left _ hu)
  exact (nz_or u).imp id fun hz=>RchP.step hr hu hz
 intro u hu v hv
 rcases List.mem_append.1 hu with hu | hu
 ·
  exact aux v (x.cl u hu v hv)
 rw [List.mem_singleton]at hu
 rw [hu]at hv
 exact Or.inr (Or.inr (List.mem_append_right _ hv))
theorem DfsI.all {d:LinkD} {h:HeapD} {ts:List ThD} {rs:List Int} {all:List ThD} (x:DfsI d h ts rs all []) (v:Int):v∈all.map ThD.loc↔RchP nz (nextD d.fields h.words) rs v:=by
 have hnz:∀ {v:Int},nz v=true->v≠0:=fun {v} h e=>by subst e;cases h
 constructor
 ·
  intro hv
  obtain ⟨t,ht,rfl⟩:=List.mem_map.1 hv
  exact x.snd t ht
 intro hv
 apply RchP.ind hv
 · intro _ h1 h2
   rcases x.rt _ h1 with q | q | q
   ·
    exact absurd q (hnz h2)
   ·
    exact q
   cases q
 intro _ _ _ h1 h2 ih
 obtain ⟨t,ht,rfl⟩:=List.mem_map.1 ih
 rcases x.cl t ht _ h1 with q | q | q
 ·
  exact absurd q (hnz h2)
 ·
  exact q
 cases q
theorem DfsI.few {d:LinkD} {h:HeapD} {ts:List ThD} {rs:List Int} {all:List ThD} {ahead:List Int} (x:DfsI d h ts rs all ahead):all.length<=ts.length:=by
 have:=zw5 (all.map ThD.loc) (ts.map ThD.loc) x.nd fun a ha=>by
  obtain ⟨t,ht,rfl⟩:=List.mem_map.1 ha
  exact List.mem_map.2 ⟨t,x.inT t ht,rfl⟩
 rwa [List.length_map,List.length_map]at this
theorem zxr {w:World} {B e g cap:Nat} {xs:List Value} {x:Value} (h:w.ownsRow B e 1 (.slice (some ⟨g,0,none⟩) (xs.length+1) cap) (xs.length+1) (xs++ [x])):w.ownsRow B e 1 (.slice (some ⟨g,0,none⟩) xs.length cap) xs.length xs:=by
 rcases h.2 with ⟨q,-⟩ | ⟨g',cap',cur,q,hB,hb,hc,hm,hs,ht⟩
 ·
  cases q
 cases q
 refine ⟨by rw [Nat.mul_one],Or.inr ⟨g,cap,cur,rfl,hB,hb,by omega,hm,hs,?_⟩⟩
 rw [Nat.mul_one]at ht ⊢
 have h1:(cur.toList.take (xs.length+1)).take xs.length=(xs++ [x]).take xs.length:=by rw [ht]
 rw [List.take_take,Nat.min_eq_left (by omega),List.take_left' rfl]at h1
 exact h1
theorem Tsk.gd {b B T:Nat} {w:World} {nW nO nR kC kS kF kN kT:Value} {h:HeapD} {rs:List Int} {d:LinkD} (o:Tsk b B w T nW nO nR kC kS kF kN kT h rs d) (h1:h.words.length<=1000000) (h2:h.noted.length<=1000000):Gd w.heap.size w T nW nO kC kS kF kN kT h d:=
 have hl:=lt0 o.blk
 have hm:∀k,k<B->k<w.heap.size:=fun k hk=>by have:=o.le;have:=o.bT;omega
 ⟨hl,Nat.le_refl _,cl0 o.blk 0 rfl,cl0 o.blk 1 rfl,cl0 o.blk 2 rfl,cl0 o.blk 3 rfl,cl0 o.blk 4 rfl,cl0 o.blk 5 rfl,cl0 o.blk 6 rfl,cl0 o.blk 7 rfl,cl0 o.blk 8 rfl,cl0 o.blk 9 rfl,cl0 o.blk 10 rfl,cl0 o.blk 11 rfl,(zfb o.rW h1).monoI fun k hk=>hk.lt,(zfb o.rO h2).monoI fun k hk=>hk.lt,o.lk.mono hm⟩
theorem zxs (n:Int) (w:World):(Instr.makeMap 199 (some (.int .i64 n))).run Tryz.prog w=.ok (.map (some w.heap.size)) (w.alloc (.map #[] 0)):=by
 simp [Instr.makeMap,run_underlying Tryz.underlying199,asInt,asIntOf]
theorem zxt (w:World) (b B T:Nat) (nW nO nR kC kS kF kN kT:Value) (h:HeapD) (rs:List Int) (d:LinkD) (o:Tsk b B w T nW nO nR kC kS kF kN kT h rs d) (ts:List ThD) (rt:Right d h ts) (hr:∀v∈rs,leadB ts v=true) (hw:∀x∈h.words,(Lit.int .i64 x).wf=true) (hrl:rs.length<=1000):
 Calls Tryz.prog 146 #[.pointer (some ⟨T,0,none⟩)] w fun r w'=>Below w.heap.size w w'/\∃X all,r=.returned (.map (some X))/\PlMap w' X all/\DfsI d h ts rs all []:=by
 have hmm:=zxs
 obtain ⟨iI,hiI,hzI0,hzI1,hzI2⟩:=info_parts Tryz.infoInt
 obtain ⟨aO,cO,hnO⟩:=zfz o.rO
 subst hnO
 obtain ⟨aR,cR,hnR⟩:=zfz o.rR
 subst hnR
 obtain ⟨aW,cW,hnW⟩:=zfz o.rW
 subst hnW
 obtain ⟨aC,cC,aS,cS,aF,cF,aN,cN,aT,cT,rfl,rfl,rfl,rfl,rfl⟩:=o.lk.agg
 have z:=rt.sized
 have z1:=z.young
 have z2:=z.old
 have z3:=z.len
 have hnl:h.noted.length<=1000000:=(zm4 rt.err rt.both hw).2.2
 have hwl:h.words.length<=5000:=by omega
 have htl:ts.length<h.words.length:=by have:=zxa rt;rwa [List.length_map]at this
 obtain ⟨W1,hW1⟩:∃W1,W1=w.alloc (.map #[] 0):=⟨_,rfl⟩
 have hB1:Below w.heap.size w W1:=hW1 ▸ (Below.refl _ _).alloc (Nat.le_refl _) _
 have hs1:W1.heap.size=w.heap.size+1:=by rw [hW1];simp
 have hp1:PlMap W1 w.heap.size []:=by
  have h1:=World.ownsMap_made (H:=Unit) w Tryz.prog 3 thElem
  rw [<-hW1]at h1
  exact ⟨.map [],h1,zfi⟩
 have o1:=o.below hB1
 have HCL:=mk0 (zmf W1 _ _ rs (zfb o1.rR (by omega)) (by omega))
 have aw:=cl0 o.blk 12 (x:=.slice aR rs.length cR) rfl
 have aL:=cl0 o1.blk 12 (x:=.slice aR rs.length cR) rfl
 rw [hW1]at aL
 have HO1:=mk0 o1
 have HP1:=mk0 hp1
 have HB1:=mk0 hB1
 have HE1:=mk0 hW1
 have HS1:=mk0 hs1
 have HRT:=mk0 rt
 have HR:=mk0 hr
 have HIN:Hid (∀v,RchP nz (nextD d.fields h.words) rs v->∃t∈ts,t.loc=v):=fun v hv=>zw9 rt hr hv
 have lT:T<w.heap.size:=lt0 o.blk
 have HTV:Hid (∀V,Below w.heap.size w V->Tsk b B V T (.slice aW h.words.length cW) (.slice aO h.noted.length cO) (.slice aR rs.length cR) (.slice aC d.classes.length cC) (.slice aS d.supers.length cS) (.slice aF d.fields.length cF) (.slice aN d.names.length cN) (.slice aT d.targets.length cT) h rs d):=fun V hV=>o.below hV
 have HD0:Hid (DfsI d h ts rs [] rs):=zxq
 clear o o1 hB1 hW1 hs1 hp1 rt hr hw z z1 z2 z3
 go_enter Tryz.func146,Tryz.ntmps146
 go_wp2_with fail
 rw [<-HE1.out]
 refine HCL.out.mono ?_
 rintro r w2 ⟨hb2,aA,cA0,rfl,hoA⟩
 have HP2:=mk0 (HP1.out.below hb2 HP1.out.lt)
 have HOA:=mk0 hoA
 have HB2:Hid (Below W1.heap.size W1 w2):=hb2
 clear hb2 hoA HCL
 go_wp2_with fail
 go_loopg [4] (ts.length*5001+rs.length) (fun gk v wr=>∃(all:List ThD) (ahead:List Int),(ts.length - all.length)*5001+ahead.length<=gk/\gk<=ts.length*5001+rs.length/\Hid (PlMap wr (w.heap.size) all/\wr.ownsRow W1.heap.size 3 1 v ahead.length (intV ahead)/\DfsI d h ts rs all ahead/\Below w.heap.size w wr/\W1.heap.size<=wr.heap.size))
 case atStart=>exact ⟨[],rs,by simp,Nat.le_refl _,HP2.out,HOA.out,HD0.out,HB1.out.trans (HB2.out.mono (by have:=HS1.out;omega)),HB2.out.size⟩
 case round=>
  obtain ⟨all,ahead,hgk,hgm,HI⟩:=hrel
  obtain ⟨hPL,hrow,hDI,hBI,hsz⟩:=HI.out
  have hs1:=HS1.out
  rcases List.eq_nil_or_concat ahead with hnil | ⟨ah,v,hah⟩
  ·
   subst hnil
   obtain ⟨a4,c4,rfl⟩:=zfz hrow
   have HF:Hid (Below w.heap.size w wr/\PlMap wr (w.heap.size) all/\DfsI d h ts rs all []):=⟨hBI,hPL,hDI⟩
   clear hPL hrow hDI hBI HI
   go_wp2_with fail
   go_ret
   exact ⟨HF.out.1,_,all,rfl,HF.out.2.1,HF.out.2.2⟩
  rw [List.concat_eq_append]at hah
  subst hah
  have hlen:(ah++ [v]).length=ah.length+1:=by simp
  rw [hlen,zhs]at hrow
  rw [hlen]at hgk
  obtain ⟨g4,c4,hv4,hc4⟩:∃g c,u4=.slice (some ⟨g,0,none⟩) (ah.length+1) c/\ah.length+1<=c:=by
   rcases hrow.2 with ⟨e,h0⟩ | ⟨g,cap,cur,e,-,-,hc,-⟩
   ·
    omega
   exact ⟨g,cap,e,hc⟩
  subst hv4
  have xv:=hrow.cellAt ah.length (by omega)
  have xe:(intV ah++ [Value.int .i64 v])[ah.length]? =some (.int .i64 v):=by
   rw [List.getElem?_append_right (by rw [ziq];exact Nat.le_refl _),ziq,Nat.sub_self]
   rfl
  rw [xe]at xv
  have lg:=(hrow.lt g4 rfl).2
  have hr2:wr.ownsRow W1.heap.size 3 1 (.slice (some ⟨g4,0,none⟩) ah.length c4) ah.length (intV ah):=by
   have:=zxr (xs:=intV ah) (x:=.int .i64 v) (by rw [ziq];exact hrow)
   rw [ziq]at this
   exact this
  have r6:∀V,(Instr.slice 22 (.slice (some ⟨g4,0,none⟩) (ah.length+1) c4) none (some (.int .i64 (ah.length:Int))) none).run Tryz.prog V=.ok (.slice (some ⟨g4,0,none⟩) ah.length c4) V:=fun V=>by
   rw [run_slice_h V 22 _ _ _ Tryz.underlying22 .i64 (ah.length:Int) (by omega) (by omega)]
   show Result.ok (sliced (some ⟨g4,0,none⟩) 0 ((ah.length:Int)).toNat c4 1) V=_
   unfold sliced
   rw [if_neg (by omega),Option.map_some,zg1,Nat.zero_mul,Nat.add_zero,Nat.sub_zero,Int.toNat_natCast,Nat.sub_zero]
  have hvw:v=0\/(1<=v/\v<=5000):=by
   rcases hDI.ah v (List.mem_append_right _ (List.mem_singleton.2 rfl))with q | q
   ·
    exact Or.inl q
   obtain ⟨t,ht,rfl⟩:=HIN.out v q
   have:=zlq HRT.out.sized HRT.out.both t ht
   exact Or.inr ⟨by omega,by omega⟩
  have hkey:keyOf Tryz.prog 3 (.int .i64 v)=some (ikey v):=keyOf_int_mk Tryz.underlying3 (WalkArith.wf_i64 (by omega))
  have HPL:=mk0 hPL
  obtain ⟨D,hown,hD⟩:=hPL
  have HAK:Hid (D.atKey (ikey v) (thDat ⟨0,0,0,0⟩)=thDat (atOr all v)):=by
   show _=_
   unfold atOr
   cases hp:plAt all v with
   | none=>rw [hD.no v _ hp];rfl
   | some t=>rw [hD.at_ v t _ hp];rfl
  have HHS:Hid (Maps.has D (ikey v)=(plAt all v).isSome):=hD.has v
  have HKY:=mk0 hkey
  have HDI:=mk0 hDI
  have HBI:=mk0 hBI
  have HR2:=mk0 hr2
  have HVW:=mk0 hvw
  have wl:IntKind.i64.wrap ((ah.length:Int)+1 - 1)=(ah.length:Int):=by rw [IntKind.wrap_i64];omega
  have hpp:(plAt all v).isSome=(all.map ThD.loc).contains v:=zk9 all v
  clear hDI hBI hr2 hrow xe hD hkey hvw HI
  go_wp2_with (at_lookup;refine wpList_lookup_own_ok _ rfl _ _ 199 rfl 3 101 law3 Tryz.underlying199 _ (zeroTh _) (thDat ⟨0,0,0,0⟩) [] rfl (w.heap.size) all.length D rfl hown _ _ rfl HKY.out ?_)
  intro vx ps hvx
  rw [HAK.out]at hvx
  have hve:=zff hvx
  subst hve
  rw [HHS.out]
  unfold thV
  clear hvx hown
  have HMM:=mk0 hpp
  have HFX:Hid (∀tx:ThD,PlMap (wr.alloc (.cells #[.int .i64 tx.loc,.int .i64 tx.tag,.int .i64 tx.len,.int .i64 tx.hash] 101)) (w.heap.size) all/\(wr.alloc (.cells #[.int .i64 tx.loc,.int .i64 tx.tag,.int .i64 tx.len,.int .i64 tx.hash] 101)).ownsRow W1.heap.size 3 1 (.slice (some ⟨g4,0,none⟩) ah.length c4) ah.length (intV ah)/\Below w.heap.size w (wr.alloc (.cells #[.int .i64 tx.loc,.int .i64 tx.tag,.int .i64 tx.len,.int .i64 tx.hash] 101))):=fun tx=>by
   have hbx:Below wr.heap.size wr (wr.alloc (.cells #[.int .i64 tx.loc,.int .i64 tx.tag,.int .i64 tx.len,.int .i64 tx.hash] 101)):=(Below.refl _ _).alloc (Nat.le_refl _) _
   exact ⟨HPL.out.below hbx HPL.out.lt,zhj HR2.out hbx,HBI.out.trans (hbx.mono HBI.out.size)⟩
  cases hk:(plAt all v).isSome with
  | true=>
    have hmem:v∈all.map ThD.loc:=List.contains_iff_mem.1 (HMM.out.symm.trans hk)
    have HNX:=mk0 (HDI.out.skip (Or.inr hmem))
    generalize atOr all v=tx at*
    have HF:=mk0 (HFX.out tx)
    have HTX:=mk0 (HTV.out _ HF.out.2.2)
    clear hk hmem hpp
    go_wp2_with fail
    go_roundg ((ts.length - all.length)*5001+ah.length)
    case measure=>omega
    case rel=>exact ⟨all,ah,Nat.le_refl _,by omega,HF.out.1,HF.out.2.1,HNX.out,HF.out.2.2,by simp;omega⟩
  | false=>
    by_cases hv0:v=0
    ·
     have HNX:=mk0 (HDI.out.skip (Or.inl hv0))
     have hv1:(v==0)=true:=by simpa using hv0
     generalize atOr all v=tx at*
     have HF:=mk0 (HFX.out tx)
     have HTX:=mk0 (HTV.out _ HF.out.2.2)
     clear hk hpp
     go_wp2_with fail
     go_roundg ((ts.length - all.length)*5001+ah.length)
     case measure=>omega
     case rel=>exact ⟨all,ah,Nat.le_refl _,by omega,HF.out.1,HF.out.2.1,HNX.out,HF.out.2.2,by simp;omega⟩
    have hv1:(v==0)=false:=by simpa using hv0
    have hnm:v∉all.map ThD.loc:=fun hm=>by
     rw [hpp,List.contains_iff_mem.2 hm]at hk
     cases hk
    obtain ⟨x,hx,hxl⟩:∃t∈ts,t.loc=v:=HIN.out v ((HDI.out.ah v (List.mem_append_right _ (List.mem_singleton.2 rfl))).resolve_left hv0)
    subst hxl
    have HNX:=mk0 (HDI.out.take hx hv0 hnm)
    have hfew:=HNX.out.few
    rw [List.length_append,List.length_singleton]at hfew
    have hap:=zlq HRT.out.sized HRT.out.both x hx
    have hxe:thAt h.words x.loc=x:=(th_at HRT.out hx).symm
    have hff:x.fin=x.loc+3+x.len:=rfl
    have hfit:FitT d x:=by
     by_cases hy:x.loc<=h.young
     ·
      exact (zuj HRT.out hx hy).fit
     exact (zuv HRT.out hx (by omega)).2.2.2.1
    have hx0:=hfit.lo
    have hlin:∀c∈refsOf d.fields x,0<=c/\c<h.words.length:=fun c hc=>by
     obtain ⟨n,e,hn,-⟩:=zs7 hc
     omega
    have hll:(refsOf d.fields x).length<=5000:=Nat.le_trans (zhr d.fields x x.len.toNat) (by omega)
    have HND:Hid (nextD d.fields h.words x.loc=(refsOf d.fields x).map (wd h.words)):=by show _=_;unfold nextD;rw [hxe]
    obtain ⟨n,hn⟩:∃n:Nat,x.loc=(n:Int):=⟨x.loc.toNat,by omega⟩
    generalize atOr all x.loc=tx at*
    have HF:=mk0 (HFX.out tx)
    have HTX:=mk0 (HTV.out _ HF.out.2.2)
    have HTH:Hid (Calls Tryz.prog 141 #[.pointer (some ⟨T,0,none⟩),.int .i64 x.loc] (wr.alloc (.cells #[.int .i64 tx.loc,.int .i64 tx.tag,.int .i64 tx.len,.int .i64 tx.hash] 101)) fun r w'=>r=.returned (thV x)/\Below (wr.alloc (.cells #[.int .i64 tx.loc,.int .i64 tx.tag,.int .i64 tx.len,.int .i64 tx.hash] 101)).heap.size (wr.alloc (.cells #[.int .i64 tx.loc,.int .i64 tx.tag,.int .i64 tx.len,.int .i64 tx.hash] 101)) w'):=by
     have:=ze9 (wr.alloc (.cells #[.int .i64 tx.loc,.int .i64 tx.tag,.int .i64 tx.len,.int .i64 tx.hash] 101)) _ T _ _ _ _ _ _ _ _ d (HTX.out.gd (by omega) hnl) n (by omega)
     rw [<-hn,hxe]at this
     exact this
    have hxb:1<=x.loc/\x.loc<=5000/\x.len<=5000:=by omega
    have HLI:=mk0 hlin
    have HFT:=mk0 hfit
    have HNN:=mk0 hn
    unfold thV at HTH
    clear hk hnm hap hxe hfit hlin hpp hn hff hx
    go_wp2_with fail
    refine HTH.out.mono ?_
    rintro r w7 ⟨rfl,hb7⟩
    have hb17:Below w.heap.size w w7:=HF.out.2.2.trans (hb7.mono HF.out.2.2.size)
    have hsx:wr.heap.size+1<=w7.heap.size:=by have:=hb7.size;simpa using this
    have hp7:PlMap w7 (w.heap.size) all:=HF.out.1.below hb7 HF.out.1.lt
    have hr7:=zhj HF.out.2.1 hb7
    obtain ⟨W8,hW8⟩:∃W8,W8=w7.alloc (.cells #[.int .i64 x.loc,.int .i64 x.tag,.int .i64 x.len,.int .i64 x.hash] 101):=⟨_,rfl⟩
    have hb78:Below w7.heap.size w7 W8:=hW8 ▸ (Below.refl _ _).alloc (Nat.le_refl _) _
    have k8:W8.heap[w7.heap.size]? =some (.cells #[.int .i64 x.loc,.int .i64 x.tag,.int .i64 x.len,.int .i64 x.hash] 101 (0,0)):=hW8 ▸ heap_alloc_new w7 _
    have hb18:Below w.heap.size w W8:=hb17.trans (hb78.mono hb17.size)
    have hs78:=hb78.size
    have hp8:=hp7.below hb78 hp7.lt
    have hr8:=zhj hr7 hb78
    obtain ⟨D2,hown2,hD2⟩:=hp8
    have hkey2:keyOf Tryz.prog 3 (.int .i64 x.loc)=some (ikey x.loc):=keyOf_int_mk Tryz.underlying3 (WalkArith.wf_i64 (by omega))
    obtain ⟨w10,hrun,hown10,hg10⟩:=World.ownsMap.update (w:=W8) hown2 law3 Tryz.underlying199 (by unfold maxLen;omega) hkey2 (zfd x)
    unfold thV at hrun
    have hp10:PlMap w10 (w.heap.size) (all++ [x]):=⟨_,by rw [List.length_append];exact hown10,zfj hD2 (hown2.tidy law3) x⟩
    have hX1:w.heap.size<W1.heap.size:=by omega
    have hb10:Below w.heap.size w w10:=hb18.grown hg10 hb18.size (fun j e=>by cases e;exact Nat.le_refl _)
    have hs10:=hg10.size
    have hs10w:W1.heap.size<=w10.heap.size:=by omega
    have hr10:w10.ownsRow W1.heap.size 3 1 (.slice (some ⟨g4,0,none⟩) ah.length c4) ah.length (intV ah):=hr8.kept hg10 (Or.inr fun e=>by have:=(hr8.lt _ e).1;omega)
    have k10:=(hg10.block w7.heap.size (lt0 k8) (by intro e;injection e;omega)).trans k8
    have hTK10:=HTV.out w10 hb10
    have HRF:=mk0 (zht w10.drew _ T _ _ _ _ _ _ _ h d ((hTK10.below (Below.refl _ _).drew).gd (by omega) hnl) x HFT.out ⟨by omega,by omega⟩ (by omega))
    have HW8:=mk0 hW8
    have HP10:=mk0 hp10
    have HR10:=mk0 hr10
    have HB10:=mk0 hb10
    have lg10:=(hr10.lt g4 rfl).2
    have e0:=cl0 k8 0 (x:=.int .i64 x.loc) rfl
    have e1:=cl0 k8 1 (x:=.int .i64 x.tag) rfl
    have e2:=cl0 k8 2 (x:=.int .i64 x.len) rfl
    have e3:=cl0 k8 3 (x:=.int .i64 x.hash) rfl
    have l8:=lt0 k8
    have f0:=cl0 k10 0 (x:=.int .i64 x.loc) rfl
    have f1:=cl0 k10 1 (x:=.int .i64 x.tag) rfl
    have f2:=cl0 k10 2 (x:=.int .i64 x.len) rfl
    have f3:=cl0 k10 3 (x:=.int .i64 x.hash) rfl
    have l10:=lt0 k10
    have hB1s:=hb10.size
    have hs17:=hb17.size
    rw [hW8]at hrun
    generalize refsOf d.fields x=l at*
    unfold thV at HRF
    clear hb7 hb17 hp7 hr7 hb78 k8 hb18 hr8 hown2 hD2 hkey2 hown10 hg10 hp10 hb10 hr10 k10 hTK10 hW8 HTH HF HTX
    go_wp2_with fail
    refine wp_region_held_drew (S:=fun W'=>∀p:Addr,p.block<w10.heap.size->W'.cell? p=w10.cell? p) (by kernel_rfl) (fun p hp=>rfl) fun hH=>?_
    refine ta 0 (.pointer (some ⟨T,0,none⟩)) rfl hH ?_
    refine ta 1 (.pointer (some ⟨T,0,none⟩)) rfl hH ?_
    refine ta 2 (.pointer (some ⟨T,0,none⟩)) rfl hH ?_
    refine ta 3 (.agg #[.int .i64 x.loc,.int .i64 x.tag,.int .i64 x.len,.int .i64 x.hash]) rfl hH ?_
    refine ta 6 (.int .i64 0) rfl hH ?_
    refine wpAnyH_ready (rs:=[4]) (by kernel_rfl) (by simp) ?_
    refine AllReadyH.cons rfl (fun K4 hK4=>?_) AllReadyH.nil
    go_simp
    refine HRF.out.mono ?_
    rintro r w9 ⟨hb9,vl,rfl,hol⟩
    obtain ⟨aL9,cL9,rfl⟩:=zfz hol
    have hb9':Below w10.heap.size w10 w9:=(Below.refl w10.heap.size w10).drew.trans hb9
    refine hK4.out _ _ (fun p hp=>hb9'.cell hp) fun hH=>?_
    refine ta 5 (.int .i64 (l.length:Int)) rfl hH ?_
    refine wpAnyH_done (by kernel_rfl) ?_ _
    clear hH
    try simp only [Act.put,List.setIfInBounds_toArray,List.set_cons_zero,List.set_cons_succ,List.getElem_toArray,List.getElem_cons_zero,List.getElem_cons_succ]
    have HP9:Hid (PlMap w9 (w.heap.size) (all++ [x])):=HP10.out.below hb9' HP10.out.lt
    have HR9:=mk0 (zhj HR10.out hb9')
    have HOL:=mk0 hol
    have HB9:Hid (Below w.heap.size w w9):=HB10.out.trans (hb9'.mono hB1s)
    have hs9:=hb9'.size
    have hLq:∀q,(Value.slice aL9 l.length cL9).ownBlock=some q->w10.heap.size<=q/\q<w9.heap.size:=fun q e=>hol.lt q e
    have HLQ:=mk0 hLq
    clear hb9 hb9' hol HRF HP10 HR10 HB10 e0 e1 e2 e3 f0 f1 f2 f3 hLq hrun
    go_wp2_with fail
    go_loopw [4,61] (fun v4 i wr=>∃(j:Nat),i=.int .i64 j/\j<=l.length/\Hid (wr.ownsRow W1.heap.size 3 1 v4 (ah++(nextD d.fields h.words x.loc).take j).length (intV (ah++(nextD d.fields h.words x.loc).take j))/\PlMap wr (w.heap.size) (all++ [x])/\Below w.heap.size w wr/\wr.ownsRow w10.drew.heap.size 3 1 (.slice aL9 l.length cL9) l.length (intV l)/\(∀q,v4.ownBlock=some q->(Value.slice aL9 l.length cL9).ownBlock≠some q)/\w9.heap.size<=wr.heap.size)) (fun _ i _=>l.length - (intOf i).toNat)
    case atStart=>exact ⟨0,rfl,Nat.zero_le _,by rw [List.take_zero,List.append_nil];exact HR9.out,HP9.out,HB9.out,HOL.out,fun q e e2=>by have e:g4=q:=Option.some.inj e;have:=(HLQ.out q e2).1;omega,Nat.le_refl _⟩
    case round=>
     obtain ⟨j,rfl,hj,HJ⟩:=hrel
     obtain ⟨hrw,hpw,hbw,hlw,hsw,hzw⟩:=HJ.out
     by_cases hlt3:j<l.length
     ·
      obtain ⟨bl,ol,hal,hbl2,s1⟩:=(zfb hlw (by omega)).atI j hlt3
      subst hal
      obtain ⟨hc0,hc1⟩:=HLI.out l[j] (List.getElem_mem hlt3)
      have hjn:j<(nextD d.fields h.words x.loc).length:=by rw [HND.out,List.length_map];exact hlt3
      have hnj:(nextD d.fields h.words x.loc)[j]=wd h.words l[j]:=by
       have e:(nextD d.fields h.words x.loc)[j]? =some (wd h.words l[j]):=by rw [HND.out,List.getElem?_map,List.getElem?_eq_getElem hlt3];rfl
       exact Option.some.inj ((List.getElem?_eq_getElem hjn).symm.trans e)
      have hnx:ah++(nextD d.fields h.words x.loc).take (j+1)=(ah++(nextD d.fields h.words x.loc).take j)++ [wd h.words l[j]]:=by
       rw [List.take_succ_eq_append_getElem hjn,hnj,List.append_assoc]
      have hjl:((nextD d.fields h.words x.loc).take j).length=j:=by rw [List.length_take];omega
      have hal2:(ah++(nextD d.fields h.words x.loc).take j).length<=100000000:=by rw [List.length_append,hjl];omega
      obtain ⟨c,hc⟩:∃c:Nat,l[j]=(c:Int):=⟨l[j].toNat,by omega⟩
      rw [hc]at s1 hc1 hnx
      have hcl:c<h.words.length:=by omega
      have htk:=HTV.out wr hbw
      obtain ⟨bW,oW,haw,hbW2,s2⟩:=(zfb htk.rW (by omega)).atI c hcl
      subst haw
      rw [<-zen hcl]at s2
      generalize wd h.words (c:Int)=vv at*
      have HNX2:=mk0 hnx
      generalize hacc:ah++(nextD d.fields h.words x.loc).take j=acc at*
      obtain ⟨a5,c5,hv5⟩:=zfz hrw
      subst hv5
      have s0:=cl0 htk.blk 0 (x:=.slice (some ⟨bW,oW,none⟩) h.words.length cW) rfl
      have lTw:=lt0 htk.blk
      have HRW:=mk0 hrw
      have HJ2:=mk0 (And.intro hpw (And.intro hbw (And.intro hlw (And.intro hsw hzw))))
      have HBB:Hid (acc.length+1<=maxLen/\(acc.length+1)*8<=140737488355328/\W1.heap.size<=(wr.alloc (.cells #[.int .i64 vv] 3)).heap.size):=⟨by unfold maxLen;omega,by omega,by have:=hbw.size;simp;omega⟩
      have hws:=hbw.size
      clear hnj hnx hjl hal2 hc htk hrw hpw hbw hlw hsw hzw hacc HJ
      go_wp2_with (at_builtin;refine wpList_append_lies _ rfl _ _ 22 rfl W1.heap.size 3 iI (.int .i64 0) 1 8 Tryz.underlying22 hiI hzI0 hzI1 hzI2 rfl (by decide) (.slice a5 acc.length c5) acc.length (intV acc) rfl (HRW.out.alloc _) ⟨wr.heap.size,0,none⟩ 1 1 [.int .i64 vv] rfl rfl (World.news_of_block (heap_alloc_new wr _)) (by intro u hu;simp at hu;subst hu;rfl) (by omega) HBB.out.1 HBB.out.2.1 HBB.out.2.2 _ rfl ?_)
      intro gA cA w12 hown12 hgr12 hA12 hlt12
      have hba:Below wr.heap.size wr (wr.alloc (.cells #[.int .i64 vv] 3)):=(Below.refl _ _).alloc (Nat.le_refl _) _
      have hrb:∀q,(Value.slice a5 acc.length c5).ownBlock=some q->W1.heap.size<=q/\q<wr.heap.size:=fun q e=>HRW.out.lt q e
      have hla:(wr.alloc (.cells #[.int .i64 vv] 3)).heap.size=wr.heap.size+1:=by simp
      have hs12:=hgr12.size
      have HF:Hid (w12.ownsRow W1.heap.size 3 1 (.slice (some ⟨gA,0,none⟩) (acc.length+1) cA) (ah++(nextD d.fields h.words x.loc).take (j+1)).length (intV (ah++(nextD d.fields h.words x.loc).take (j+1)))/\PlMap w12 (w.heap.size) (all++ [x])/\Below w.heap.size w w12/\w12.ownsRow w10.drew.heap.size 3 1 (.slice (some ⟨bl,ol,none⟩) l.length cL9) l.length (intV l)/\(∀q,(Value.slice (some ⟨gA,0,none⟩) (acc.length+1) cA).ownBlock=some q->(Value.slice (some ⟨bl,ol,none⟩) l.length cL9).ownBlock≠some q)/\w9.heap.size<=w12.heap.size):=by
       obtain ⟨hpw,hbw,hlw,hsw,hzw⟩:=HJ2.out
       refine ⟨?_,(hpw.below hba hpw.lt).kept hgr12 (fun e=>by have:=(hrb _ e.symm).1;omega),(hbw.trans (hba.mono hbw.size)).grown hgr12 (by have:=hbw.size;omega) (fun q e=>by have:=(hrb q e).1;omega),(zhj hlw hba).kept hgr12 ?_,?_,by omega⟩
       ·
        rw [HNX2.out,List.length_append,zhs,HS1.out]
        exact hown12
       ·
        exact Or.inr fun e=>hsw bl e.symm rfl
       intro q e e2
       have e:gA=q:=Option.some.inj e
       have e2:bl=q:=Option.some.inj e2
       rcases hA12 with q1 | q1
       ·
        exact hsw gA q1 (by rw [e,<-e2];rfl)
       omega
      clear hown12 hgr12 hA12 hba hrb hla s0 s1 s2 HJ2 HRW hlt12
      go_wp2_with fail
      go_roundw
      case rel=>exact ⟨j+1,by go_num,by omega,HF.out⟩
      case measure=>simp [intOf];omega
     have htk:(nextD d.fields h.words x.loc).take j=nextD d.fields h.words x.loc:=List.take_of_length_le (by rw [HND.out,List.length_map];omega)
     rw [htk]at hrw
     have hal:(ah++nextD d.fields h.words x.loc).length=ah.length+l.length:=by rw [List.length_append,HND.out,List.length_map]
     have hbw1:W1.heap.size<=wr.heap.size:=by omega
     have HF:=mk0 (And.intro hpw (And.intro hrw (And.intro hbw hbw1)))
     clear hrw hpw hbw hlw hsw HJ htk
     go_wp2_with fail
     go_roundg ((ts.length - (all.length+1))*5001+(ah.length+l.length))
     case measure=>omega
     case rel=>exact ⟨all++ [x],ah++nextD d.fields h.words x.loc,by rw [hal,List.length_append,List.length_singleton];exact Nat.le_refl _,by omega,HF.out.1,HF.out.2.1,HNX.out,HF.out.2.2.1,HF.out.2.2.2⟩
end Go.Proofs.YtjdnmblggdobgaaGreat
