import Derived.Test.YtjdnmblggdobgaaGreatJHzBHzD
import Derived.Test.YtjdnmblggdobgaaGreatJTk2Dies
import Derived.Maps.RangeWalk
set_option maxHeartbeats 4000000
set_option maxRecDepth 100000
namespace Go.Proofs.YtjdnmblggdobgaaGreat
open Go.RowKit Go.Maps
theorem zxi {f:Int->Int} {C:Int} :∀(l:List Int),(∀x∈l,0<=f x/\f x<=C)->0<=(l.map f).sum/\(l.map f).sum<=C*l.length
 | [],_=>by simp
 | x::l,h=>by
   have h1:=zxi l fun y hy=>h y (List.mem_cons_of_mem _ hy)
   have h2:=h x (List.mem_cons_self ..)
   rw [List.map_cons,List.sum_cons,List.length_cons]
   have h3:C*((l.length+1:Nat):Int)=C*l.length+C:=by rw [Int.natCast_add,Int.mul_add];simp
   omega
theorem zxj {f:Int->Int} (l:List Int) (k:Nat) (hk:k<l.length):((l.take (k+1)).map f).sum=((l.take k).map f).sum+f l[k]:=by
 rw [List.take_succ_eq_append_getElem hk,List.map_append,List.sum_append]
 simp
theorem zxk (w:World) (B:Nat) (vW vO kC kS kF kN kT:Value) (h:HeapD) (d:LinkD) (g:Hd B w vW vO kC kS kF kN kT h d) (ts:List ThD) (rt:Right d h ts) (vR:Value) (rs:List Int) (hs:SL 1 RI (· <B) w vR rs) (hr:∀v∈rs,leadB ts v=true) (hrl:rs.length<=1000000):
 Calls Tryz.prog 41 #[.agg #[vW,.int .i64 h.young,.int .i64 h.old,.int .i64 h.ytop,.int .i64 h.otop,vO,.int .i64 h.next],.agg #[kC,kS,kF,kN,kT],vR] w fun r w'=>r=.returned (.int .i64 (liveN d h rs))/\Below w.heap.size w w':=by
 have HG:=mk0 g
 have HSR:=mk0 hs
 obtain ⟨aW,cW,aO,cO,aC,cC,aS,cS,aF,cF,aN,cN,aT,cT,rfl,rfl,rfl,rfl,rfl,rfl,rfl⟩:=g.agg
 obtain ⟨aR,cR,rfl,-⟩:=hs
 clear g
 obtain ⟨W0,hW0,hB0,hs0,k0,k1⟩:=boxes2 w #[.slice aW h.words.length cW,.int .i64 h.young,.int .i64 h.old,.int .i64 h.ytop,.int .i64 h.otop,.slice aO h.noted.length cO,.int .i64 h.next] #[.slice aC d.classes.length cC,.slice aS d.supers.length cS,.slice aF d.fields.length cF,.slice aN d.names.length cN,.slice aT d.targets.length cT] 24 36
 have lk0:=lt0 k0
 have HB0:=mk0 hB0
 have HE0:=mk0 hW0
 have HK0:=mk0 k0
 have HGV:Hid (∀V,Below W0.heap.size W0 V->Hd B V (.slice aW h.words.length cW) (.slice aO h.noted.length cO) (.slice aC d.classes.length cC) (.slice aS d.supers.length cS) (.slice aF d.fields.length cF) (.slice aN d.names.length cN) (.slice aT d.targets.length cT) h d):=fun V hV=>HG.out.below ((hB0.trans (hV.mono hB0.size)).mono HG.out.le)
 have HRB:=mk0 (zxh W0 B _ _ _ _ _ _ _ h d (HGV.out W0 (Below.refl _ _)) ts rt _ rs (HSR.out.keptI (Kp.below (hB0.mono HG.out.le))) hr hrl)
 obtain ⟨hnd,hmem⟩:=zxb rt hr
 have hzz:=rt.sized
 have z1:=hzz.young
 have z2:=hzz.old
 have z3:=hzz.len
 have hfc:∀x∈liveL d h rs,1<=x/\x+3<=h.words.length/\0<=wd h.words (x+1)/\wd h.words (x+1)<=5000:=fun x hx=>by
  obtain ⟨t,ht,rfl⟩:=zw9 rt hr ((hmem x).1 hx)
  have hap:=zlq rt.sized rt.both t ht
  have e:t.len=wd h.words (t.loc+1):=congrArg ThD.len (th_at rt ht)
  have hff:t.fin=t.loc+3+t.len:=rfl
  omega
 have hll:(liveL d h rs).length<=5000:=by
  have h1:=zw5 _ _ hnd fun x hx=>(by obtain ⟨t,ht,e⟩:=zw9 rt hr ((hmem x).1 hx);exact List.mem_map.2 ⟨t,ht,e⟩:x∈ts.map ThD.loc)
  have h2:=zxa rt
  omega
 have hwl:h.words.length<=5000:=by omega
 have HLN:Hid (liveN d h rs=((liveL d h rs).map (fun a=>3+wd h.words (a+1))).sum):=rfl
 have HFC:=mk0 hfc
 rw [HE0.out]at HRB
 generalize liveL d h rs=l at*
 clear hB0 hW0 hs0 k0 k1 rt hr hnd hmem hzz z1 z2 z3 hfc
 go_enter Tryz.func41,Tryz.ntmps41
 go_wp2_with fail
 refine HRB.out.mono ?_
 rw [<-HE0.out]
 rintro r w1 ⟨hb1,vl,rfl,hol⟩
 obtain ⟨aL,cL,rfl⟩:=zfz hol
 have HSL:=mk0 (zfb hol (by omega))
 have HB1:=mk0 hb1
 have j0:=(hb1.block _ lk0).trans HK0.out
 have a0:=cl0 j0 0 (x:=.slice aW h.words.length cW) rfl
 have al:=lt0 j0
 clear hb1 hol HRB j0
 go_wp2_with fail
 go_loopw [8,9] (fun n i wr=>∃k:Nat,i=.int .i64 k/\k<=l.length/\n=.int .i64 ((l.take k).map (fun a=>3+wd h.words (a+1))).sum/\∃q,wr=w1.drewN q) (fun _ i _=>l.length - (intOf i).toNat)
 case atStart=>exact ⟨0,rfl,Nat.zero_le _,rfl,0,rfl⟩
 case round=>
  obtain ⟨k,rfl,hk,rfl,q,rfl⟩:=hrel
  by_cases hlt:k<l.length
  ·
   obtain ⟨bl,ol,rfl,hbl,s1⟩:=HSL.out.atI k hlt
   obtain ⟨f1,f2,f3,f4⟩:=HFC.out l[k] (List.getElem_mem hlt)
   have hst:=zxj (f:=(fun a=>3+wd h.words (a+1))) l k hlt
   obtain ⟨b1,b2⟩:=zxi (f:=(fun a=>3+wd h.words (a+1))) (C:=6000) (l.take k) fun x hx=>by
    have:=HFC.out x (List.mem_of_mem_take hx)
    show 0<=3+wd h.words (x+1)/\3+wd h.words (x+1)<=6000
    omega
   rw [List.length_take,Nat.min_eq_left (by omega)]at b2
   obtain ⟨c,hc⟩:∃c:Nat,l[k]=(c:Int):=⟨l[k].toNat,by omega⟩
   rw [hc]at s1 hst f1 f2 f3 f4
   have hcl:c+1<h.words.length:=by omega
   obtain ⟨bW,oW,rfl,hbW2,s2⟩:=(HGV.out w1 HB1.out).sW.atI (c+1) hcl
   have hwd:h.words[c+1]=wd h.words ((c:Int)+1):=by
    rw [show ((c:Int)+1)=((c+1:Nat):Int) by omega,zen hcl]
   rw [hwd]at s2
   generalize hvv:wd h.words ((c:Int)+1)=v at*
   have hst2:((l.take (k+1)).map (fun a=>3+wd h.words (a+1))).sum=((l.take k).map (fun a=>3+wd h.words (a+1))).sum+(3+v):=by
    rw [hst]
   have HST:=mk0 hst2
   generalize ((l.take k).map (fun a=>3+wd h.words (a+1))).sum=n at*
   have w1':IntKind.i64.wrap ((c:Int)+1)=((c+1:Nat):Int):=by rw [IntKind.wrap_i64];omega
   have w2':IntKind.i64.wrap (3+v)=3+v:=by rw [IntKind.wrap_i64];omega
   have w3':IntKind.i64.wrap (n+(3+v))=n+(3+v):=by rw [IntKind.wrap_i64];omega
   clear hst hst2 hvv hwd hc
   go_wp2_with fail
   go_quiet (fail)
   go_wp2_with fail
   go_roundw
   case rel=>exact ⟨k+1,by go_num,by omega,by rw [HST.out],_,rfl⟩
   case measure=>simp [intOf];omega
  have HR:Hid (((l.take k).map (fun a=>3+wd h.words (a+1))).sum=liveN d h rs):=by show _=_;rw [HLN.out,List.take_of_length_le (by omega)]
  have HF:Hid (Below w.heap.size w (w1.drewN q)):=zdq (HB0.out.trans (HB1.out.mono HB0.out.size)) q
  go_wp2_with fail
  go_ret
  exact ⟨by rw [HR.out];rfl,HF.out⟩
theorem zxl (w:World) (t:ThD) (h1:small t.loc) (h2:small t.len):
 Calls Tryz.prog 191 #[thV t] w fun r w'=>r=.returned (.int .i64 (3+t.len))/\Below w.heap.size w w':=by
 have HEN:Hid (∀W,Calls Tryz.prog 72 #[.agg #[.int .i64 t.loc,.int .i64 t.tag,.int .i64 t.len,.int .i64 t.hash]] W fun r w'=>r=.returned (.int .i64 (t.loc+3+t.len))/\Below W.heap.size W w'):=fun W=>ze2 W t h1 h2
 unfold small at h1 h2
 obtain ⟨h1,h1'⟩:=h1
 obtain ⟨h2,h2'⟩:=h2
 obtain ⟨W0,hW0,hB0,hs0,kp⟩:=boxes1 w #[.int .i64 t.loc,.int .i64 t.tag,.int .i64 t.len,.int .i64 t.hash] 101
 have p0:=cl0 kp 0 (x:=.int .i64 t.loc) rfl
 have p1:=cl0 kp 1 (x:=.int .i64 t.tag) rfl
 have p2:=cl0 kp 2 (x:=.int .i64 t.len) rfl
 have p3:=cl0 kp 3 (x:=.int .i64 t.hash) rfl
 have lP:=lt0 kp
 have HB0:=mk0 hB0
 have HE0:=mk0 hW0
 have w1:IntKind.i64.wrap (t.loc+3+t.len - t.loc)=3+t.len:=by rw [IntKind.wrap_i64];omega
 unfold thV
 clear hB0 hW0 kp hs0
 go_enter Tryz.func191,Tryz.ntmps191
 go_wp2_with fail
 rw [<-HE0.out]
 refine wp_region_held_drew (S:=fun W'=>∀p:Addr,p.block<W0.heap.size->W'.cell? p=W0.cell? p) (by kernel_rfl) (fun p hp=>rfl) fun hH=>?_
 refine ta 0 (.agg #[.int .i64 t.loc,.int .i64 t.tag,.int .i64 t.len,.int .i64 t.hash]) rfl hH ?_
 refine ta 2 (.pointer (some ⟨w.heap.size,0,none⟩)) rfl hH ?_
 refine ta 3 (.int .i64 t.loc) rfl hH ?_
 refine wpAnyH_ready (rs:=[1]) (by kernel_rfl) (by simp) ?_
 refine AllReadyH.cons rfl (fun K1 hK1=>?_) AllReadyH.nil
 go_simp
 refine (HEN.out _).mono ?_
 rintro r w2 ⟨rfl,hb2⟩
 have hb3:Below W0.heap.size W0 w2:=(Below.refl W0.heap.size W0).drew.trans hb2
 refine hK1.out _ _ (fun p hp=>hb3.cell hp) fun hH=>?_
 refine ta 4 (.int .i64 (3+t.len)) rfl hH ?_
 refine ta 5 (.int .i64 (3+t.len)) rfl hH ?_
 refine wpAnyH_done (by kernel_rfl) ?_ _
 clear hH
 try simp only [Act.put,List.setIfInBounds_toArray,List.set_cons_zero,List.set_cons_succ,List.getElem_toArray,List.getElem_cons_zero,List.getElem_cons_succ]
 go_wp2_with fail
 go_ret
 exact ⟨rfl,HB0.out.trans (hb3.mono HB0.out.size)⟩
theorem zxm (v:Value) (y:DataW Unit×List MemPlace) (h:thElem v=some y):∃c:ThD,v=thV c:=by
 unfold thElem at h
 split at h
 ·
  rename_i cs
  unfold thElemL at h
  split at h
  ·
   rename_i a b c e hl
   exact ⟨⟨a,b,c,e⟩,congrArg Value.agg (Array.toList_inj.1 hl)⟩
  cases h
 cases h
structure LeftT (all rem:List ThD) (left:Lit->Bool):Prop where
 is:∀x:Int,left (ikey x)=(rem.map ThD.loc).contains x
 sub:∀t∈rem,t∈all
 nd:(rem.map ThD.loc).Nodup
theorem zxn {all:List ThD} (hn:(all.map ThD.loc).Nodup) {t:ThD} (ht:t∈all):plAt all t.loc=some t:=by
 cases hp:plAt all t.loc with
 | none=>exact absurd rfl (zk8 all hp t ht)
 | some u=>
   obtain ⟨hu,e⟩:=zie all hp
   have aux:∀(l:List ThD),(l.map ThD.loc).Nodup->t∈l->u∈l->u=t:=by
    intro l
    induction l with
    | nil=>intro _ h;cases h
    | cons q l ih=>
      intro h h1 h2
      rw [List.map_cons,List.nodup_cons]at h
      rcases List.mem_cons.1 h1 with g1 | g1
      ·
       rcases List.mem_cons.1 h2 with g2 | g2
       ·
        rw [g1,g2]
       exact absurd (List.mem_map.2 ⟨u,g2,e.trans (congrArg ThD.loc g1)⟩) h.1
      rcases List.mem_cons.1 h2 with g2 | g2
      ·
       exact absurd (List.mem_map.2 ⟨t,g1,e.symm.trans (congrArg ThD.loc g2)⟩) h.1
      exact ih h.2 g1 g2
   rw [aux all hn ht hu]
theorem zxo {all rem:List ThD} {left:Lit->Bool} (l:LeftT all rem left) {x:Int} (h:left (ikey x)=true):∃pre t post,rem=pre++t::post/\t.loc=x/\t∈all/\LeftT all (pre++post) (fun z=>left z&& !z.sameKey (ikey x)):=by
 rw [l.is,List.contains_iff_mem]at h
 obtain ⟨t,ht,rfl⟩:=List.mem_map.1 h
 obtain ⟨pre,post,rfl⟩:=List.append_of_mem ht
 refine ⟨pre,t,post,rfl,rfl,l.sub t ht,fun x=>?_,fun u hu=>l.sub u ?_,?_⟩
 ·
  have hnd:=l.nd
  rw [List.map_append,List.map_cons,List.nodup_append,List.nodup_cons]at hnd
  have hs:(ikey x).sameKey (ikey t.loc)=(x==t.loc):=by rw [Bool.eq_iff_iff];simp [ikey,Lit.sameKey]
  rw [l.is,hs,List.map_append,List.map_cons,List.map_append,List.contains_append,List.contains_append,List.contains_cons]
  by_cases e:x=t.loc
  ·
   subst e
   have h1:(pre.map ThD.loc).contains t.loc=false:=by
    rw [Bool.eq_false_iff]
    intro hc
    exact hnd.2.2 _ (List.contains_iff_mem.1 hc) t.loc (List.mem_cons_self ..) rfl
   have h2:(post.map ThD.loc).contains t.loc=false:=by
    rw [Bool.eq_false_iff]
    intro hc
    exact hnd.2.1.1 (List.contains_iff_mem.1 hc)
   rw [h1,h2]
   simp
  have e1:(x==t.loc)=false:=by simpa using e
  rw [e1]
  simp
 ·
  rcases List.mem_append.1 hu with hu | hu
  ·
   exact List.mem_append_left _ hu
  exact List.mem_append_right _ (List.mem_cons_of_mem _ hu)
 have hnd:=l.nd
 rw [List.map_append,List.map_cons]at hnd
 rw [List.map_append]
 exact hnd.sublist (List.Sublist.append (List.Sublist.refl _) (List.sublist_cons_self _ _))
theorem zxp (w:World) (X:Nat) (all:List ThD) (hpl:PlMap w X all) (hnd:(all.map ThD.loc).Nodup) (hb:∀t∈all,0<=t.loc/\t.loc<=100000/\0<=t.len/\t.len<=5000) (hlen:all.length<=5000):
 Calls Tryz.prog 147 #[.map (some X)] w fun r w'=>r=.returned (.int .i64 (all.map (fun t:ThD=>3+t.len)).sum)/\Below w.heap.size w w':=by
 obtain ⟨D,hown,hD⟩:=hpl
 have HDD:=mk0 hD
 have HND:=mk0 hnd
 have HBD:=mk0 hb
 have hXl:=hown.lt
 have hL0:LeftT all all (Maps.has D):=⟨fun x=>by rw [hD.has,zk9],fun t h=>h,hnd⟩
 have HL0:=mk0 hL0
 have hbnd:0<=(all.map (fun t:ThD=>3+t.len)).sum/\(all.map (fun t:ThD=>3+t.len)).sum<=6000*all.length:=by
  have aux:∀(l:List ThD),(∀t∈l,0<=t.len/\t.len<=5000)->0<=(l.map (fun t:ThD=>3+t.len)).sum/\(l.map (fun t:ThD=>3+t.len)).sum<=6000*l.length:=by
   intro l
   induction l with
   | nil=>intro _;simp
   | cons q l ih=>
     intro h
     have h1:=ih fun p hp=>h p (List.mem_cons_of_mem _ hp)
     have h2:=h q (List.mem_cons_self ..)
     rw [List.map_cons,List.sum_cons,List.length_cons]
     omega
  exact aux all fun t ht=>⟨(hb t ht).2.2.1,(hb t ht).2.2.2⟩
 obtain ⟨tot,htt⟩:∃tot,(all.map (fun t:ThD=>3+t.len)).sum=tot:=⟨_,rfl⟩
 have HTO:=mk0 htt
 have htot:0<=tot:=by omega
 have htot2:tot<=30000000:=by omega
 clear hD hnd hb hL0 htt hbnd
 go_enter Tryz.func147,Tryz.ntmps147
 go_wp2_with (first | (at_range;refine wpList_range_own _ rfl _ 199 rfl 3 101 law3 Tryz.underlying199 _ X all.length D rfl hown ?_;intro w0 hrg0 hg0 hs0) | go_in)
 have HR0:=mk0 hrg0
 have HG0:Hid (Below w.heap.size w w0):=⟨hg0.os,hg0.tape,hg0.output,hg0.size,fun k hk=>hg0.block k hk (by simp)⟩
 clear hrg0 hg0
 go_frame
 go_loopw [3] (fun n wr=>∃(left:Lit->Bool) (cnt:Nat) (rem:List ThD) (m:Int),n=.int .i64 m/\0<=m/\m<=tot/\wr.ranges Tryz.prog 3 thElem X w.heap.size all.length D left cnt/\Hid (LeftT all rem left/\m+(rem.map (fun t:ThD=>3+t.len)).sum=tot)/\Below w.heap.size w wr) (fun _ wr=>wr.rangeLeft X w.heap.size)
 case atStart=>exact ⟨_,_,all,0,rfl,Int.le_refl _,htot,HR0.out,⟨HL0.out,by rw [Int.zero_add];exact HTO.out⟩,HG0.out⟩
 case round=>
  obtain ⟨left,cnt,rem,m,rfl,hm0,hm1,hrg,HI,hBr⟩:=hrel
  have HRG:=mk0 hrg
  have HBR:=mk0 hBr
  clear hBr
  go_wp2_with (first | (at_next;refine wpList_next_ranges _ rfl _ rfl 3 law3 thElem (fun x:Int=>.int .i64 x) thV (fun key kl h=>by obtain ⟨x,e,-⟩:=Maps.keyOf_int_inv Tryz.underlying3 h;exact ⟨x,e⟩) zxm X w.heap.size all.length D left cnt rfl hrg ?_ ?_) | go_in)
  ·
   intro hc0 hl0
   have hrem:rem= []:=by
    cases hr:rem with
    | nil=>rfl
    | cons t r=>
      have h1:=HI.out.1.is t.loc
      rw [hr,hl0]at h1
      simp at h1
   have HR:Hid (m=tot):=by show m=tot;have:=HI.out.2;rw [hrem]at this;simpa using this
   clear hc0 hl0 hrg hrem
   go_wp2_with fail
   go_ret
   exact ⟨by rw [HR.out,HTO.out];rfl,HBR.out⟩
  intro x c kl y1 y2 w1 cnt1 hkx hlx hvy hat hrg1 hlt hg1 hs1 hen
  have hkl:kl=ikey x:=by
   obtain ⟨x',e1,e2,-⟩:=Maps.keyOf_int_inv Tryz.underlying3 hkx
   injection e1 with _ e1
   rw [e2,<-e1]
   rfl
  subst hkl
  obtain ⟨pre,t,post,hrem,htx,hta,hlf⟩:=zxo HI.out.1 hlx
  have hct:c=t:=by
   have h1:=HDD.out.at_ t.loc t (thDat t) (zxn HND.out hta)
   rw [htx,hat]at h1
   have h2:=zfd c
   rw [hvy]at h2
   have h3:y1=thDat c:=congrArg Prod.fst (Option.some.inj h2)
   rw [h3]at h1
   exact zfe h1
  subst hct
  have hsum:(rem.map (fun t:ThD=>3+t.len)).sum=((pre++post).map (fun t:ThD=>3+t.len)).sum+(3+c.len):=by
   rw [hrem]
   simp only [List.map_append,List.map_cons,List.sum_append,List.sum_cons]
   omega
  have hbd:=HBD.out c hta
  have hst:=HI.out.2
  have hps:0<=((pre++post).map (fun t:ThD=>3+t.len)).sum:=by
   have aux:∀(l:List ThD),(∀t∈l,0<=t.len)->0<=(l.map (fun t:ThD=>3+t.len)).sum:=by
    intro l
    induction l with
    | nil=>intro _;exact Int.le_refl _
    | cons q l ih=>
      intro h
      have h1:=ih fun p hp=>h p (List.mem_cons_of_mem _ hp)
      have h2:=h q (List.mem_cons_self ..)
      rw [List.map_cons,List.sum_cons]
      omega
   exact aux _ fun t ht=>(HBD.out t (hlf.sub t ht)).2.2.1
  rw [hsum]at hst
  have HNX:Hid (LeftT all (pre++post) (fun z=>left z&& !z.sameKey (ikey x))/\(m+(3+c.len))+((pre++post).map (fun t:ThD=>3+t.len)).sum=tot):=⟨hlf,by omega⟩
  have hm2:m+(3+c.len)<=tot:=by omega
  have HSZ:=mk0 (zxl (w1.alloc (.cells #[.int .i64 c.loc,.int .i64 c.tag,.int .i64 c.len,.int .i64 c.hash] 101)) c (by unfold small;omega) (by unfold small;omega))
  have w1':IntKind.i64.wrap (m+(3+c.len))=m+(3+c.len):=by rw [IntKind.wrap_i64];omega
  have HRG1:=mk0 hrg1
  have HB1:Hid (Below w.heap.size w w1):=HBR.out.grown hg1 HBR.out.size (fun j e=>by cases e;exact Nat.le_refl _)
  have HLT:=mk0 hlt
  unfold thV at hen HSZ ⊢
  clear hkx hlx hvy hat hrg1 hlt hg1 hrem htx hlf hst hsum hps hta hrg hs1
  go_wp2_with fail
  refine HSZ.out.mono ?_
  rintro r w2 ⟨rfl,hb2⟩
  have hb12:Below w1.heap.size w1 w2:=((Below.refl w1.heap.size w1).alloc (Nat.le_refl _) _).trans (hb2.mono (by simp))
  have HR2:=mk0 (World.ranges.kept HRG1.out (row:=none) ⟨hb12.os,hb12.tape,hb12.output,hb12.size,fun i hi _=>hb12.block i hi⟩ (by simp) (by simp))
  have HB2:Hid (Below w.heap.size w w2):=HB1.out.trans (hb12.mono HB1.out.size)
  clear hb2 hb12 HSZ hen
  go_wp2_with fail
  go_roundw
  case rel=>exact ⟨_,cnt1,pre++post,m+(3+c.len),by go_num,by omega,hm2,HR2.out,HNX.out,HB2.out⟩
  case measure=>rw [HR2.out.left_eq,HRG.out.left_eq];exact HLT.out
end Go.Proofs.YtjdnmblggdobgaaGreat
