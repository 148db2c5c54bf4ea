import Derived.Test.YtjdnmblggdobgaaGreatJHpBHrL
import Derived.Lib.AppendZeros
import Derived.Test.YtjdnmblggdobgaaGreatJTk2Dies
set_option maxHeartbeats 4000000
set_option maxRecDepth 100000
namespace Go.Proofs.YtjdnmblggdobgaaGreat
open Go.RowKit Go.Maps
theorem zis (w:World) (n:Nat) (hn:n<=1000000):
 Calls Tryz.prog 220 #[.slice none 0 0,.int .i64 (n:Int)] w fun r w'=>Below w.heap.size w w'/\∃v,r=.returned v/\w'.ownsRow w.heap.size 3 1 v 0 []:=by
 obtain ⟨iI,hiI,hzI0,hzI1,hzI2⟩:=info_parts Tryz.infoInt
 by_cases h0:n=0
 ·subst h0
  have h1:¬((0:Int)<0):=by omega
  go_enter Tryz.func220,Tryz.ntmps220
  go_wp2_with fail
  go_ret
  exact ⟨Below.refl _ _,_,rfl,World.ownsRow_nil _ _ _ _⟩
 have hrz:∀ty,(Builtin.append_ #[22,3] ty #[.slice none 0 0,.int .i64 (n:Int)]).run Tryz.prog w=
  .ok (.slice (some ⟨w.heap.size,0,none⟩) n (grownCap w n 0 3)) (w.drew.alloc (.cells (Builtin.zeroCells (Value.int .i64 0).cells n++Builtin.zeroCells (Value.int .i64 0).cells (grownCap w n 0 3 - n)) 3)):=fun ty=>
  Lib.run_append_nil_zeros w _ _ ty _ iI (.int .i64 0) .i64 .i64 Tryz.underlying22 Tryz.underlying3 hiI hzI0 n (by omega) (by rw [hzI1];omega) (by omega) (by rw [hzI2];omega)
 have hGn:n<=grownCap w n 0 3:=grownCap_ge w _ _ _
 have hGm:grownCap w n 0 3<=maxLen:=grownCap_le_maxLen w n 0 _ (by unfold maxLen;omega)
 obtain ⟨G,hG⟩:∃G,G=grownCap w n 0 3:=⟨_,rfl⟩
 rw [<-hG]at hrz hGn hGm
 have HOW:Hid ((w.drew.alloc (.cells (Builtin.zeroCells (Value.int .i64 0).cells n++Builtin.zeroCells (Value.int .i64 0).cells (G - n)) 3)).ownsRow w.heap.size 3 1 (.slice (some ⟨w.heap.size,0,none⟩) 0 G) 0 []):=by
  refine World.ownsRow_made w.drew _ G (Nat.le_refl _) hGm ?_
  simp [Builtin.zeroCells,Value.cells]
  omega
 have HBL:Hid (Below w.heap.size w (w.drew.alloc (.cells (Builtin.zeroCells (Value.int .i64 0).cells n++Builtin.zeroCells (Value.int .i64 0).cells (G - n)) 3))):=(Below.refl _ _).drew.alloc (Nat.le_refl _) _
 generalize (Obj.cells (Builtin.zeroCells (Value.int .i64 0).cells n++Builtin.zeroCells (Value.int .i64 0).cells (G - n)) 3)=ob at*
 have h1:¬((n:Int)<0):=by omega
 have h4:(0:Int)<n:=by omega
 have hG63:G<=9223372036854775807:=by unfold maxLen at hGm;omega
 clear hG hGm
 go_enter Tryz.func220,Tryz.ntmps220
 go_wp2_with (at_builtin;refine Lib.wpList_append_run _ rfl _ _ _ _ rfl _ _ rfl rfl _ _ (hrz _) ?_)
 go_ret
 exact ⟨HBL.out,_,rfl,HOW.out⟩
def cat (ps:List (List Int)):List Int:=ps.flatten
theorem zit (ps:List (List Int)) (k:Nat) (hk:k<ps.length):cat (ps.take (k+1))=cat (ps.take k)++ps[k]:=by
 unfold cat
 rw [List.take_succ_eq_append_getElem hk,List.flatten_append]
 simp
theorem ziu (ps:List (List Int)) (k:Nat):(cat (ps.take k)).length<=(cat ps).length:=by
 have:(cat ps).length=(cat (ps.take k)).length+(cat (ps.drop k)).length:=by unfold cat;rw [<-List.length_append,<-List.flatten_append,List.take_append_drop]
 omega
theorem ziv (w:World) (B:Nat) (v:Value) (ps:List (List Int)) (hv:SL 1 (RSl 1 RI) (· <B) w v ps) (hB:B<=w.heap.size) (hl:(cat ps).length<=500000):
 Calls Tryz.prog 173 #[v] w fun r w'=>Below w.heap.size w w'/\∃v',r=.returned v'/\w'.ownsRow w.heap.size 3 1 v' (cat ps).length (intV (cat ps)):=by
 have HV:=mk0 hv
 obtain ⟨ao,cl,rfl,-,hm,-⟩:=hv
 unfold maxLen at hm
 have HL:∀k,(cat (ps.take k)).length<=500000:=fun k=>Nat.le_trans (ziu ps k) hl
 go_enter Tryz.func173,Tryz.ntmps173
 go_wp2_with fail
 go_loopw [3,11] (fun s i wr=>∃k:Nat,k<=ps.length/\i=.int .i64 k/\s=.int .i64 ((cat (ps.take k)).length:Nat)/\w=wr) (fun _ i _=>ps.length - (intOf i).toNat)
 case atStart=>exact ⟨0,Nat.zero_le _,rfl,rfl,rfl⟩
 case round=>
  obtain ⟨k,hk,rfl,rfl,rfl⟩:=hrel
  have hl0:=HL k
  by_cases hlt:k<ps.length
  ·obtain ⟨b,off,a1,c1,rfl,hb,e1,s1⟩:=HV.out.atSl k hlt
   have hl1:=HL (k+1)
   rw [zit ps k hlt,List.length_append]at hl1
   have HFT:Hid ((cat (ps.take (k+1))).length=(cat (ps.take k)).length+ps[k].length):=by show _=_;rw [zit ps k hlt,List.length_append]
   have q1:(0:Int)<=k:=by omega
   have q2:(k:Int)<ps.length:=by omega
   clear s1
   generalize (cat (ps.take k)).length=n at*
   generalize ps[k].length=m at*
   have q3:¬((n:Int)+(m:Int)<0):=by omega
   go_wp2_with fail
   go_roundw
   case rel=>exact ⟨k+1,by omega,by go_num,by rw [HFT.out];go_num,trivial⟩
   case measure=>simp [intOf];omega
  have hke:k=ps.length:=by omega
  rw [hke,List.take_length]at hl0 ⊢
  clear hke hlt hk
  have HGW:=mk0 (zis w (cat ps).length (by omega))
  go_wp2_with fail
  refine HGW.out.mono ?_
  rintro r w1 ⟨hb1,v1,rfl,hown1⟩
  have HS1:Hid (w.heap.size<=w1.heap.size):=hb1.size
  have HO1:=mk0 (And.intro hown1 hb1)
  obtain ⟨a1,c1,rfl⟩:=zfz hown1
  clear hown1 hb1 HGW
  go_wp2_with fail
  go_loopw [6,27] (fun u i wr=>∃k:Nat,k<=ps.length/\i=.int .i64 k/\Hid (wr.ownsRow w.heap.size 3 1 u (cat (ps.take k)).length (intV (cat (ps.take k)))/\Below w.heap.size w wr)) (fun _ i _=>ps.length - (intOf i).toNat)
  case atStart=>exact ⟨0,Nat.zero_le _,rfl,HO1.out⟩
  case round=>
   obtain ⟨k,hk,rfl,HI⟩:=hrel
   by_cases hlt:k<ps.length
   ·have hsz:=HI.out.2.size
    have HV2:=HV.out.keptSl (Kp.below (HI.out.2.mono hB)) (fun _ _ h=>h)
    obtain ⟨b,off,a2,c2,rfl,hb,e1,s1⟩:=HV2.atSl k hlt
    have q1:(0:Int)<=k:=by omega
    have q2:(k:Int)<ps.length:=by omega
    have hl1:=HL (k+1)
    rw [zit ps k hlt,List.length_append]at hl1
    have HFT:=mk0 (zit ps k hlt)
    obtain ⟨a3,c3,rfl⟩:=zfz HI.out.1
    have HOW:=mk0 HI.out.1
    have HS1:=mk0 s1
    have HB2:=mk0 HI.out.2
    have HLL:Hid ((cat (ps.take k)).length+ps[k].length<=1000000):=by show _<=_;omega
    clear s1 HV2 HI
    generalize hpk:ps[k]=pk at*
    generalize hpt:(cat (ps.take k))=pt at*
    clear hpk hpt
    go_wp2_with (at_builtin;refine zir _ rfl _ _ rfl w.heap.size (.slice a3 pt.length c3) pt rfl HOW.out (· <B) (.slice a2 pk.length c2) pk rfl HS1.out HLL.out hsz ?_)
    intro v' w3 hown3 hgr3
    have hB3:Below w.heap.size w w3:=HB2.out.grown hgr3 hsz (fun k e=>(HOW.out.lt k e).1)
    have HF:Hid (w3.ownsRow w.heap.size 3 1 v' (cat (ps.take (k+1))).length (intV (cat (ps.take (k+1))))/\Below w.heap.size w w3):=by
     show _/\_
     rw [HFT.out,List.length_append]
     exact ⟨hown3,hB3⟩
    clear hown3 hgr3 hB3
    go_wp2_with fail
    go_roundw
    case rel=>exact ⟨k+1,by omega,by go_num,HF.out⟩
    case measure=>simp [intOf];omega
   have hke:k=ps.length:=by omega
   have HF:=HI.out
   rw [hke,List.take_length]at HF
   have HF:=mk0 HF
   clear HI
   go_wp2_with fail
   go_ret
   exact ⟨HF.out.2,_,rfl,HF.out.1⟩
theorem SL.sub {M:Nat->Prop} {w:World} {b off n cap:Nat} {l:List Int} (h:SL 1 RI M w (.slice (some ⟨b,off,none⟩) n cap) l) (lo hi:Nat) (h1:lo<=hi) (h2:hi<=l.length):SL 1 RI M w (sliced (some ⟨b,off,none⟩) lo hi cap 1) ((l.take hi).drop lo):=by
 obtain ⟨ao,cp,e,hc,hm,hel⟩:=h
 cases e
 have hlen:((l.take hi).drop lo).length=hi - lo:=by simp;omega
 refine ⟨(if cap=lo then some ⟨b,off,none⟩ else (some (⟨b,off,none⟩:Addr)).map (·.add (lo*1))),cap - lo,?_,by omega,by omega,fun k hk=>?_⟩
 ·rw [hlen]
  rfl
 rw [hlen]at hk
 obtain ⟨b',off',cs,e,hM,hb,hn,hcell,hr⟩:=hel (lo+k) (by omega)
 cases e
 refine ⟨b,off+lo,cs,?_,hM,hb,hn,fun j hj=>?_,?_⟩
 ·rw [if_neg (by omega),Option.map_some,zg1,Nat.mul_one]
 ·have:=hcell j hj
  rw [<-this]
  congr 1
  congr 1
  omega
 have:((l.take hi).drop lo)[k]=l[lo+k]:=by simp
 rw [this]
 exact hr
def restL (h:HeapD):List Int:=h.words.take 1++((h.words.take (h.young+1).toNat).drop h.ytop.toNat++h.words.drop h.otop.toNat)
theorem ziw (w:World) (n:Int):Calls Tryz.prog 175 #[.int .i64 n] w fun r w'=>r=.returned (.bool (n != 0))/\Below w.heap.size w w':=by
 go_enter Tryz.func175,Tryz.ntmps175
 go_wp2_with fail
 go_ret
 exact ⟨rfl,Below.refl _ _⟩
theorem zix (w:World) (X B:Nat) (vW vO kC kS kF kN kT vA:Value) (h:HeapD) (d:LinkD) (ts:List ThD) (hc:Cht X B w vW vO kC kS kF kN kT vA h d ts) (hz:Sized d h):
 Calls Tryz.prog 113 #[.agg #[.pointer (some ⟨X+1,0,none⟩)]] w fun r w'=>r=.returned (.bool (!(restL h).any (· != 0)))/\Below w.heap.size w w':=by
 obtain ⟨W0,hW⟩:∃W0,W0=w.alloc (.cells #[.pointer (some ⟨X+1,0,none⟩)] 88):=⟨_,rfl⟩
 have hB0:Below w.heap.size w W0:=hW ▸ (Below.refl _ _).alloc (Nat.le_refl _) _
 have hsz:W0.heap.size=w.heap.size+1:=by rw [hW];simp
 have hc1:=hc.below hB0
 have hp:W0.cell? ⟨w.heap.size,0,none⟩=some (.pointer (some ⟨X+1,0,none⟩)):=by rw [hW];simp [go_sem]
 have gl:=lt0 hc1.blk
 have m0:=cl0 hc1.blk 0 (x:=vW) rfl
 have m1:=cl0 hc1.blk 1 (x:=.int .i64 h.young) rfl
 have m3:=cl0 hc1.blk 3 (x:=.int .i64 h.ytop) rfl
 have m4:=cl0 hc1.blk 4 (x:=.int .i64 h.otop) rfl
 have hz1:=hz.young
 have hz2:=hz.old
 have hz3:=hz.len
 have hz4:=hz.ytop
 have hz5:=hz.otop
 have HS:=mk0 hc1.sW
 obtain ⟨aW,cW,rfl,hcap,hmx,hel⟩:=hc1.sW
 obtain ⟨bW,oW,cs,rfl,hbB,hbl,-⟩:=hel 0 (by omega)
 unfold maxLen at hmx
 have hBX:=hc.le
 obtain ⟨s1,hs1⟩:∃s,s=sliced (some ⟨bW,oW,none⟩) 0 1 cW 1:=⟨_,rfl⟩
 obtain ⟨s2,hs2⟩:∃s,s=sliced (some ⟨bW,oW,none⟩) h.ytop.toNat (h.young+1).toNat cW 1:=⟨_,rfl⟩
 obtain ⟨s3,hs3⟩:∃s,s=sliced (some ⟨bW,oW,none⟩) h.otop.toNat h.words.length cW 1:=⟨_,rfl⟩
 have r1:∀V,(Instr.slice 22 (.slice (some ⟨bW,oW,none⟩) h.words.length cW) none (some (.int .i64 1)) none).run Tryz.prog V=.ok s1 V:=fun V=>by
  rw [hs1,run_slice_h V 22 _ _ _ Tryz.underlying22 .i64 1 (by omega) (by omega)]
  rfl
 have r2:∀V,(Instr.slice 22 (.slice (some ⟨bW,oW,none⟩) h.words.length cW) (some (.int .i64 h.ytop)) (some (.int .i64 (h.young+1))) none).run Tryz.prog V=.ok s2 V:=fun V=>by
  rw [hs2,run_slice_lh V 22 _ _ _ Tryz.underlying22 .i64 .i64 h.ytop (h.young+1) (by omega) (by omega) (by omega)]
  rfl
 have r3:∀V,(Instr.slice 22 (.slice (some ⟨bW,oW,none⟩) h.words.length cW) (some (.int .i64 h.otop)) none none).run Tryz.prog V=.ok s3 V:=fun V=>by
  rw [hs3,run_slice_l V 22 _ _ _ Tryz.underlying22 .i64 h.otop (by omega) (by omega)]
  rfl
 have t1:SL 1 RI (· <B) W0 s1 (h.words.take 1):=hs1 ▸ HS.out.sub 0 1 (by omega) (by omega)
 have t2:SL 1 RI (· <B) W0 s2 ((h.words.take (h.young+1).toNat).drop h.ytop.toNat):=hs2 ▸ HS.out.sub h.ytop.toNat (h.young+1).toNat (by omega) (by omega)
 have t3:SL 1 RI (· <B) W0 s3 (h.words.drop h.otop.toNat):=by
  have:=HS.out.sub h.otop.toNat h.words.length (by omega) (Nat.le_refl _)
  rw [List.take_length]at this
  exact hs3 ▸ this
 have HBW:Hid (Below W0.heap.size W0 (W0.drew.alloc (.cells #[s1,s2,s3] 22))):=(Below.refl _ _).drew.alloc (Nat.le_refl _) _
 have hBW0:B<=W0.heap.size:=by omega
 have HCC:Hid (Calls Tryz.prog 173 #[.slice (some ⟨W0.heap.size,0,none⟩) 3 3] (W0.drew.alloc (.cells #[s1,s2,s3] 22)) fun r w'=>Below (W0.drew.alloc (.cells #[s1,s2,s3] 22)).heap.size (W0.drew.alloc (.cells #[s1,s2,s3] 22)) w'/\∃v',r=.returned v'/\w'.ownsRow (W0.drew.alloc (.cells #[s1,s2,s3] 22)).heap.size 3 1 v' (restL h).length (intV (restL h))):=by
  have hk:=Kp.below (HBW.out.mono hBW0)
  have hblk:(W0.drew.alloc (.cells #[s1,s2,s3] 22)).heap[W0.heap.size]? =some (.cells #[s1,s2,s3] 22 (0,0)):=heap_alloc_new W0.drew _
  have hll:=lt0 hblk
  have hsl:SL 1 (RSl 1 RI) (· <W0.heap.size+1) (W0.drew.alloc (.cells #[s1,s2,s3] 22)) (.slice (some ⟨W0.heap.size,0,none⟩) 3 3) [h.words.take 1,(h.words.take (h.young+1).toNat).drop h.ytop.toNat,h.words.drop h.otop.toNat]:=by
   refine ⟨_,3,rfl,by simp,by unfold maxLen;simp,fun k hk'=>?_⟩
   have hmo:∀b,b<B->b<W0.heap.size+1:=fun b hb=>by omega
   match k,hk' with
   | 0,_=>exact ⟨_,_,[s1],rfl,Nat.lt_succ_self _,hll,rfl,(fun j hj=>by rw [Nat.lt_one_iff.1 hj];exact cl0 hblk 0 rfl),s1,rfl,(t1.keptI hk).monoI hmo⟩
   | 1,_=>exact ⟨_,_,[s2],rfl,Nat.lt_succ_self _,hll,rfl,(fun j hj=>by rw [Nat.lt_one_iff.1 hj];exact cl0 hblk 1 rfl),s2,rfl,(t2.keptI hk).monoI hmo⟩
   | 2,_=>exact ⟨_,_,[s3],rfl,Nat.lt_succ_self _,hll,rfl,(fun j hj=>by rw [Nat.lt_one_iff.1 hj];exact cl0 hblk 2 rfl),s3,rfl,(t3.keptI hk).monoI hmo⟩
  have hfl:cat [h.words.take 1,(h.words.take (h.young+1).toNat).drop h.ytop.toNat,h.words.drop h.otop.toNat]=restL h:=by simp [restL,cat]
  have:=ziv (W0.drew.alloc (.cells #[s1,s2,s3] 22)) (W0.heap.size+1) _ _ hsl (by omega) (by rw [hfl];simp [restL];omega)
  rw [hfl]at this
  exact this
 have wy:IntKind.i64.wrap (h.young+1)=h.young+1:=ws0 _ (by omega) (by omega)
 have HB0:=mk0 hB0
 have HW:=mk0 hW
 have HRL:Hid ((restL h).length<=1000000):=by show (restL h).length<=1000000;simp [restL];omega
 obtain ⟨a1,n1,c1,e1⟩:∃a n c,s1=.slice a n c:=by obtain ⟨a,c,e,-⟩:=t1;exact ⟨a,_,c,e⟩
 obtain ⟨a2,n2,c2,e2⟩:∃a n c,s2=.slice a n c:=by obtain ⟨a,c,e,-⟩:=t2;exact ⟨a,_,c,e⟩
 obtain ⟨a3,n3,c3,e3⟩:∃a n c,s3=.slice a n c:=by obtain ⟨a,c,e,-⟩:=t3;exact ⟨a,_,c,e⟩
 have HSZ:=mk0 hsz
 have lw:w.heap.size<W0.heap.size:=by omega
 clear hsz
 clear hc hc1 hB0 hel t1 t2 t3 hs1 hs2 hs3 HS hz hW hbB
 subst e1 e2 e3
 generalize restL h=rl at*
 obtain ⟨b,hb⟩:∃b,(rl.any (· != 0))=b:=⟨_,rfl⟩
 rw [hb]
 have HBB:=mk0 hb
 clear hb
 go_enter Tryz.func113,Tryz.ntmps113
 go_wp2_with fail
 rw [<-HW.out]
 refine wp_region_held_drew (S:=fun W'=>∀p:Addr,p.block<W0.heap.size->W'.cell? p=W0.cell? p) (by kernel_rfl) (fun p hp=>rfl) fun hH=>?_
 refine ta 0 (.pointer (some ⟨w.heap.size,0,none⟩)) rfl hH ?_
 refine ta 1 (.pointer (some ⟨X+1,0,none⟩)) rfl hH ?_
 refine ta 2 (.pointer (some ⟨X+1,0,none⟩)) rfl hH ?_
 refine ta 3 (.pointer (some ⟨X+1,0,none⟩)) rfl hH ?_
 refine ta 4 (.pointer (some ⟨X+1,0,none⟩)) rfl hH ?_
 refine ta 5 (.pointer (some ⟨X+1,0,none⟩)) rfl hH ?_
 refine ta 6 (.slice (some ⟨bW,oW,none⟩) h.words.length cW) rfl hH ?_
 refine ta 7 (.slice a1 n1 c1) rfl hH ?_
 refine ta 8 (.pointer (some ⟨w.heap.size,0,none⟩)) rfl hH ?_
 refine ta 9 (.pointer (some ⟨X+1,0,none⟩)) rfl hH ?_
 refine ta 10 (.pointer (some ⟨X+1,0,none⟩)) rfl hH ?_
 refine ta 11 (.pointer (some ⟨X+1,0,none⟩)) rfl hH ?_
 refine ta 12 (.pointer (some ⟨X+1,0,none⟩)) rfl hH ?_
 refine ta 13 (.pointer (some ⟨X+1,0,none⟩)) rfl hH ?_
 refine ta 14 (.slice (some ⟨bW,oW,none⟩) h.words.length cW) rfl hH ?_
 refine ta 15 (.pointer (some ⟨w.heap.size,0,none⟩)) rfl hH ?_
 refine ta 16 (.pointer (some ⟨X+1,0,none⟩)) rfl hH ?_
 refine ta 17 (.pointer (some ⟨X+1,0,none⟩)) rfl hH ?_
 refine ta 18 (.pointer (some ⟨X+1,0,none⟩)) rfl hH ?_
 refine ta 19 (.pointer (some ⟨X+1,0,none⟩)) rfl hH ?_
 refine ta 20 (.pointer (some ⟨X+1,3,none⟩)) rfl hH ?_
 refine ta 21 (.int .i64 h.ytop) rfl hH ?_
 refine ta 22 (.pointer (some ⟨w.heap.size,0,none⟩)) rfl hH ?_
 refine ta 23 (.pointer (some ⟨X+1,0,none⟩)) rfl hH ?_
 refine ta 24 (.pointer (some ⟨X+1,0,none⟩)) rfl hH ?_
 refine ta 25 (.pointer (some ⟨X+1,0,none⟩)) rfl hH ?_
 refine ta 26 (.pointer (some ⟨X+1,0,none⟩)) rfl hH ?_
 refine ta 27 (.pointer (some ⟨X+1,1,none⟩)) rfl hH ?_
 refine ta 28 (.int .i64 h.young) rfl hH ?_
 refine ta 29 (.int .i64 (h.young+1)) rfl hH ?_
 refine ta 30 (.slice a2 n2 c2) rfl hH ?_
 refine ta 31 (.pointer (some ⟨w.heap.size,0,none⟩)) rfl hH ?_
 refine ta 32 (.pointer (some ⟨X+1,0,none⟩)) rfl hH ?_
 refine ta 33 (.pointer (some ⟨X+1,0,none⟩)) rfl hH ?_
 refine ta 34 (.pointer (some ⟨X+1,0,none⟩)) rfl hH ?_
 refine ta 35 (.pointer (some ⟨X+1,0,none⟩)) rfl hH ?_
 refine ta 36 (.pointer (some ⟨X+1,0,none⟩)) rfl hH ?_
 refine ta 37 (.slice (some ⟨bW,oW,none⟩) h.words.length cW) rfl hH ?_
 refine ta 38 (.pointer (some ⟨w.heap.size,0,none⟩)) rfl hH ?_
 refine ta 39 (.pointer (some ⟨X+1,0,none⟩)) rfl hH ?_
 refine ta 40 (.pointer (some ⟨X+1,0,none⟩)) rfl hH ?_
 refine ta 41 (.pointer (some ⟨X+1,0,none⟩)) rfl hH ?_
 refine ta 42 (.pointer (some ⟨X+1,0,none⟩)) rfl hH ?_
 refine ta 43 (.pointer (some ⟨X+1,4,none⟩)) rfl hH ?_
 refine ta 44 (.int .i64 h.otop) rfl hH ?_
 refine ta 45 (.slice a3 n3 c3) rfl hH ?_
 refine wpAnyH_ready (rs:=[46]) (by kernel_rfl) (by simp) ?_
 refine AllReadyH.cons rfl (fun K46 hK46=>?_) AllReadyH.nil
 go_simp
 refine hK46.out _ _ (fun p hp=>Below.cell (B:=W0.heap.size) (w:=W0) ((Below.refl _ _).drew.alloc (Nat.le_refl _) _) hp) fun hH=>?_
 refine wpAnyH_ready (rs:=[47]) (by kernel_rfl) (by simp) ?_
 refine AllReadyH.cons rfl (fun K47 hK47=>?_) AllReadyH.nil
 go_simp
 refine HCC.out.mono ?_
 rintro r w3 ⟨hb3,v3,rfl,hown3⟩
 have hb4:Below W0.heap.size W0 w3:=HBW.out.trans (hb3.mono HBW.out.size)
 refine hK47.out _ _ (fun p hp=>hb4.cell hp) fun hH=>?_
 refine ta 48 (v3) rfl hH ?_
 refine wpAnyH_done (by kernel_rfl) ?_ _
 clear hH
 simp only [Act.put,List.setIfInBounds_toArray,List.set_cons_zero,List.set_cons_succ,List.getElem_toArray,List.getElem_cons_zero,List.getElem_cons_succ]
 have HBF:Hid (Below w.heap.size w w3):=HB0.out.trans (hb4.mono HB0.out.size)
 have HCT:Hid (Calls Tryz.prog 174 #[v3,.func (.func 175) #[] #[]] w3 fun r w'=>r=.returned (.bool b)/\Below w3.heap.size w3 w'):=by
  rw [<-HBB.out]
  have hsl:=(zfb hown3 HRL.out).monoI (M':=(· <w3.heap.size)) fun k hk=>hk.lt
  refine zhy w3 w3.heap.size v3 rl hsl (Nat.le_refl _) 175 #[] #[] (· != 0) (fun args w=>by kernel_rfl) ?_
  intro x hx V hV
  exact ziw V x
 clear hb3 hb4 hown3 m0 m1 m3 m4 r1 r2 r3 HCC HBW hp
 go_wp2_with fail
 refine HCT.out.mono ?_
 rintro r w5 ⟨rfl,hb5⟩
 have HB5:Hid (Below w.heap.size w w5):=HBF.out.trans (hb5.mono HBF.out.size)
 clear hb5 HCT
 go_wp2_with fail
 go_ret
 exact ⟨rfl,HB5.out⟩
end Go.Proofs.YtjdnmblggdobgaaGreat
