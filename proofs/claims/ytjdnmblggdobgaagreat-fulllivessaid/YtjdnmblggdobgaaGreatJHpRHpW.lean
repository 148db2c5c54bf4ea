import Derived.Test.YtjdnmblggdobgaaGreatJHpMHpP
import Derived.Test.YtjdnmblggdobgaaGreatJLSetLQs
import Derived.Deep.AppendLies
import Derived.BigQuiet
import Derived.Test.YtjdnmblggdobgaaGreatJTk2Dies
set_option maxHeartbeats 4000000
set_option maxRecDepth 100000
namespace Go.Proofs.YtjdnmblggdobgaaGreat
open Go.RowKit Go.Maps
theorem ze8 (w:World) (Q:Nat) (a b c e:Value) {x0 x1 x2 x3:Value} (h0:w.cell? ⟨Q,0,none⟩=some x0) (h1:w.cell? ⟨Q,1,none⟩=some x1) (h2:w.cell? ⟨Q,2,none⟩=some x2) (h3:w.cell? ⟨Q,3,none⟩=some x3):
 ∃W,W=(((w.setCell ⟨Q,0,none⟩ a).setCell ⟨Q,1,none⟩ b).setCell ⟨Q,2,none⟩ c).setCell ⟨Q,3,none⟩ e/\w.grownBy W (some Q)/\W.cell? ⟨Q,0,none⟩=some a/\W.cell? ⟨Q,1,none⟩=some b/\W.cell? ⟨Q,2,none⟩=some c/\W.cell? ⟨Q,3,none⟩=some e:=by
 have o:∀(W:World) (i j:Nat) (v:Value),i≠j->(W.setCell ⟨Q,i,none⟩ v).cell? ⟨Q,j,none⟩=W.cell? ⟨Q,j,none⟩:=fun W i j v hne=>World.cell?_setCell_other _ _ _ _ (fun h=>hne (congrArg Addr.off h))
 have g1:w.grownBy (w.setCell ⟨Q,0,none⟩ a) (some Q):=za8 (World.grownBy.refl _ _) _ _ (Or.inl rfl)
 have k00:=World.cell?_setCell_same w ⟨Q,0,none⟩ a h0
 have k01:=(o w 0 1 a (by decide)).trans h1
 have k02:=(o w 0 2 a (by decide)).trans h2
 have k03:=(o w 0 3 a (by decide)).trans h3
 generalize w.setCell ⟨Q,0,none⟩ a=w1 at*
 have g2:=za8 g1 ⟨Q,1,none⟩ b (Or.inl rfl)
 have k10:=(o w1 1 0 b (by decide)).trans k00
 have k11:=World.cell?_setCell_same w1 ⟨Q,1,none⟩ b k01
 have k12:=(o w1 1 2 b (by decide)).trans k02
 have k13:=(o w1 1 3 b (by decide)).trans k03
 generalize w1.setCell ⟨Q,1,none⟩ b=w2 at*
 have g3:=za8 g2 ⟨Q,2,none⟩ c (Or.inl rfl)
 have k20:=(o w2 2 0 c (by decide)).trans k10
 have k21:=(o w2 2 1 c (by decide)).trans k11
 have k22:=World.cell?_setCell_same w2 ⟨Q,2,none⟩ c k12
 have k23:=(o w2 2 3 c (by decide)).trans k13
 generalize w2.setCell ⟨Q,2,none⟩ c=w3 at*
 have g4:=za8 g3 ⟨Q,3,none⟩ e (Or.inl rfl)
 exact ⟨_,rfl,g4,(o w3 3 0 e (by decide)).trans k20,(o w3 3 1 e (by decide)).trans k21,(o w3 3 2 e (by decide)).trans k22,World.cell?_setCell_same w3 ⟨Q,3,none⟩ e k23⟩
theorem ze9 (w:World) (B c:Nat) (vW vO kC kS kF kN kT:Value) (h:HeapD) (d:LinkD) (g:Gd B w c vW vO kC kS kF kN kT h d) (loc:Nat) (hl:loc+2<h.words.length):
 Calls Tryz.prog 141 #[.pointer (some ⟨c,0,none⟩),.int .i64 (loc:Int)] w fun r w'=>r=.returned (thV (thAt h.words loc))/\Below w.heap.size w w':=by
 obtain ⟨W0,hW⟩:∃W0,W0=w.alloc (.cells #[.int .i64 0,.int .i64 0,.int .i64 0,.int .i64 0] 101):=⟨_,rfl⟩
 have hB0:Below w.heap.size w W0:=hW ▸ (Below.refl w.heap.size w).alloc (Nat.le_refl _) _
 have hka:W0.heap[w.heap.size]? =some (.cells #[.int .i64 0,.int .i64 0,.int .i64 0,.int .i64 0] 101 (0,0)):=hW ▸ heap_alloc_new w _
 have g1:=g.below hB0
 have hcl:=g1.lt
 have hcw:=g.lt
 have c0:=g1.c0
 have HWE:=mk0 hW
 have HW0:=mk0 hB0
 obtain ⟨aW,cW,rfl,-,hm,-⟩:=g1.sW
 unfold maxLen at hm
 obtain ⟨bW,oW,rfl,hbW,e0⟩:=g1.sW.atI loc (by omega)
 obtain ⟨b1,o1,hq1,-,e1⟩:=g1.sW.atI (loc+1) (by omega)
 obtain ⟨b2,o2,hq2,-,e2⟩:=g1.sW.atI (loc+2) (by omega)
 obtain ⟨rfl,rfl⟩:b1=bW/\o1=oW:=by simpa using hq1.symm
 obtain ⟨rfl,rfl⟩:b2=b1/\o2=o1:=by simpa using hq2.symm
 have HTH:Hid (thAt h.words loc=⟨loc,h.words[loc],h.words[loc+1],h.words[loc+2]⟩):=by
  show thAt h.words loc=_
  rw [thAt,zen (by omega:loc<h.words.length),show (loc:Int)+1=((loc+1:Nat):Int) by omega,zen (by omega:loc+1<h.words.length),show (loc:Int)+2=((loc+2:Nat):Int) by omega,zen hl]
 have HBW:Hid (b2<w.heap.size):=Nat.lt_of_lt_of_le (by obtain ⟨_,_,e,-,-,hh⟩:=g.sW;obtain ⟨b',_,_,e',hb',_⟩:=hh loc (by omega);cases e;cases e';exact hb') g.le
 have hbWw:=HBW.out
 have q0:(0:Int)<=loc:=by omega
 have q1:(loc:Int)<h.words.length:=by omega
 have q2:(0:Int)<=(loc:Int)+1:=by omega
 have q3:(loc:Int)+1<h.words.length:=by omega
 have q4:(0:Int)<=(loc:Int)+2:=by omega
 have q5:(loc:Int)+2<h.words.length:=by omega
 have q6:((loc:Int)+1).toNat=loc+1:=by omega
 have q7:((loc:Int)+2).toNat=loc+2:=by omega
 have w1:IntKind.i64.wrap ((loc:Int)+1)=(loc:Int)+1:=ws0 _ (by omega) (by omega)
 have w2:IntKind.i64.wrap ((loc:Int)+2)=(loc:Int)+2:=ws0 _ (by omega) (by omega)
 have r0:=cl0 hka 0 (x:=.int .i64 0) rfl
 have r1:=cl0 hka 1 (x:=.int .i64 0) rfl
 have r2:=cl0 hka 2 (x:=.int .i64 0) rfl
 have r3:=cl0 hka 3 (x:=.int .i64 0) rfl
 have z0:=zcf hka
 have lz:=lt0 hka
 generalize h.words[loc]=x0 at*
 generalize h.words[loc+1]=x1 at*
 generalize h.words[loc+2]=x2 at*
 generalize h.words.length=wl at*
 clear g g1 hq1 hq2 hka hW hl
 go_enter Tryz.func141,Tryz.ntmps141
 go_wp2_with fail
 rw [<-HWE.out]
 go_region_held3 (fun W'=>∀p:Addr,p.block<w.heap.size->W'.cell? p=W0.cell? p) (exact fun p hp=>Below.cell (B:=w.heap.size) (w:=W0) (by repeat (first | assumption | exact Below.refl _ _ | refine Below.drew ?_ | refine Below.setCell ?_ (by simp) _)) hp) (fail)
 all_goals
  rename_i hH
  clear hH
  obtain ⟨W9,h9,hg9,t0,t1,t2,t3⟩:=ze8 W0 w.heap.size (.int .i64 (loc:Int)) (.int .i64 x0) (.int .i64 x1) (.int .i64 x2) r0 r1 r2 r3
  rw [<-h9]
  have hB9:=bg0 HW0.out hg9 (Nat.le_refl _)
  clear h9 hg9
  go_wp2_with fail
  exact bodyPost_ret (v:=.agg #[.int .i64 (loc:Int),.int .i64 x0,.int .i64 x1,.int .i64 x2]) (by simp [results,Tryz.results141,go_sem,t0,t1,t2,t3]) rfl ⟨by rw [HTH.out];rfl,hB9.drew⟩
def refI (fs:List (List FieldD)) (t:ThD) (n:Nat):Bool:=if 3<=t.tag then (match (fieldsAt fs t.tag)[n]? with | some f=>decide (f.kind.kind≠1) | none=>false) else decide (t.tag=2)
structure FitT (d:LinkD) (t:ThD):Prop where
 tag:3<=t.tag->t.tag<3+d.fields.length/\t.len=(fieldsAt d.fields t.tag).length
 lo:0<=t.len
 hi:t.len<=1000000
 loc:0<=t.loc/\t.loc<=1000000
theorem zfa (w:World) (B c:Nat) (vW vO kC kS kF kN kT:Value) (h:HeapD) (d:LinkD) (g:Gd B w c vW vO kC kS kF kN kT h d) (t:ThD) (hf:FitT d t) (n:Nat) (hn:(n:Int)<t.len):
 Calls Tryz.prog 131 #[.pointer (some ⟨c,0,none⟩),thV t,.int .i64 (n:Int)] w fun r w'=>r=.returned (.bool (refI d.fields t n))/\Below w.heap.size w w':=by
 have hcl:=g.lt
 have c9:=g.c9
 have HF:=mk0 g.lk.F
 have HB0:=mk0 (fun o=>(Below.refl w.heap.size w).alloc (Nat.le_refl _) o)
 obtain ⟨aF,cF,rfl,-,hm,-⟩:=g.lk.F
 unfold maxLen at hm
 unfold thV
 by_cases h1:3<=t.tag
 ·
  obtain ⟨h2,h3⟩:=hf.tag h1
  obtain ⟨k,hk⟩:∃k:Nat,t.tag=3+k:=⟨(t.tag - 3).toNat,by omega⟩
  have hkl:k<d.fields.length:=by omega
  obtain ⟨bF,oF,aV,cV,rfl,hbF,e1,sV⟩:=HF.out.atSl k hkl
  have hfa:fieldsAt d.fields t.tag=d.fields[k]:=by
   unfold fieldsAt
   rw [hk,show ((3+(k:Int)) - 3).toNat=k by omega]
   simp [hkl]
  rw [hfa]at h3
  have hnl:n<d.fields[k].length:=by omega
  obtain ⟨bV,oV,rfl,hbV,-,e2,-⟩:=sV.atF n hnl
  have HR:Hid (refI d.fields t n=decide (d.fields[k][n].kind.kind≠1)):=by
   show refI d.fields t n=_
   rw [refI,if_pos h1,hfa]
   simp [hnl]
  have q1:(0:Int)<=k:=by omega
  have q2:(k:Int)<d.fields.length:=by omega
  have q3:t.tag - 3=k:=by omega
  have q4:(0:Int)<=n:=by omega
  have wk:IntKind.i64.wrap (k:Int)=k:=ws0 _ (by omega) (by omega)
  have wk3:IntKind.i64.wrap (3+(k:Int) - 3)=k:=(by rw [show 3+(k:Int) - 3=k by omega];exact wk)
  have q5:(n:Int)<d.fields[k].length:=by omega
  have hmv:d.fields[k].length<=9223372036854775807:=by obtain ⟨_,_,-,-,h,-⟩:=sV;unfold maxLen at h;omega
  generalize d.fields[k][n].kind.kind=kk at*
  generalize d.fields[k].length=fl at*
  clear sV hfa HF g hf h3 hn
  rw [hk]at*
  by_cases hkk:kk=1
  ·
   subst hkk
   go_enter Tryz.func131,Tryz.ntmps131
   go_wp2_with fail
   go_quiet (fail)
   go_wp2_with fail
   go_ret
   exact ⟨by rw [HR.out];rfl,zdq (HB0.out _) _⟩
  have hkb:(kk==1)=false:=beq_eq_false_iff_ne.2 hkk
  go_enter Tryz.func131,Tryz.ntmps131
  go_wp2_with fail
  go_quiet (fail)
  go_wp2_with fail
  go_ret
  exact ⟨by rw [HR.out];simp [hkk],zdq (HB0.out _) _⟩
 have HR:Hid (refI d.fields t n=decide (t.tag=2)):=by show refI d.fields t n=_;rw [refI,if_neg h1]
 clear HF g hf
 go_enter Tryz.func131,Tryz.ntmps131
 go_wp2_with fail
 go_ret
 exact ⟨by rw [HR.out];by_cases h2:t.tag=2<;>simp [h2],HB0.out _⟩
def refsOf (fs:List (List FieldD)) (t:ThD):List Int:=((List.range t.len.toNat).filter (refI fs t)).map fun (n:Nat)=>t.loc+3+(n:Int)
def intV (ns:List Int):List Value:=ns.map fun x=>.int .i64 x
theorem zfb {w:World} {B:Nat} {v:Value} {ns:List Int} (h:w.ownsRow B 3 1 v ns.length (intV ns)) (hl:ns.length<=1000000):SL 1 RI (MT B [3] w) w v ns:=by
 have hz:(ns.map fun x:Int=>([Value.int .i64 x],x)).length=ns.length:=by simp
 have hf:(ns.map fun x:Int=>([Value.int .i64 x],x)).flatMap (·.1)=intV ns:=by
  rw [List.flatMap_map,intV]
  clear h hl hz
  induction ns with
  | nil=>rfl
  | cons x r ih=>rw [List.flatMap_cons,ih];rfl
 have:=ze4 (n:=1) (R:=RI) (T:=[3]) (zs:=ns.map fun x:Int=>([Value.int .i64 x],x)) (by rw [hz,hf];exact h) (fun z hz=>by
  obtain ⟨s,hs',rfl⟩:=List.mem_map.1 hz
  exact ⟨rfl,rfl⟩) (by simp) (by rw [hz];unfold maxLen;omega)
 rwa [List.map_map,show ((·.2)∘fun x:Int=>([Value.int .i64 x],x))=id from rfl,List.map_id]at this
theorem zfc (w:World) (B c:Nat) (vW vO kC kS kF kN kT:Value) (h:HeapD) (d:LinkD) (g:Gd B w c vW vO kC kS kF kN kT h d) (loc:Nat) (top:Int) (hlo:loc<=1000000) (ht:top<=h.words.length) (hfl:d.fields.length=d.classes.length) (hfs:∀f∈d.fields,f.length<=1000) (hcn:d.classes.length<=1000):
 Calls Tryz.prog 217 #[.pointer (some ⟨c,0,none⟩),.int .i64 (loc:Int),.int .i64 top] w fun r w'=>Below w.heap.size w w'/\∃t,r=.returned (.tuple #[thV t,.bool (readB d.classes.length d.fields h.words loc top)])/\(readB d.classes.length d.fields h.words loc top=true->t=thAt h.words loc):=by
 have HG:=mk0 g
 have hB0:Below w.heap.size w (w.alloc (.cells #[.int .i64 0,.int .i64 0,.int .i64 0,.int .i64 0] 101)):=(Below.refl w.heap.size w).alloc (Nat.le_refl _) _
 have HB0:=mk0 hB0
 by_cases h1:(loc:Int)+3<=top
 rotate_left
 ·
  have HR:Hid (readB d.classes.length d.fields h.words loc top=false):=by show readB _ _ _ _ _=false;simp [readB,h1]
  have h2:top<(loc:Int)+3:=by omega
  clear g hB0
  go_enter Tryz.func217,Tryz.ntmps217
  go_wp2_with fail
  exact bodyPost_ret (v:=.tuple #[thV ⟨0,0,0,0⟩,.bool false]) (by simp [results,Tryz.results217,go_sem,thV]) rfl ⟨HB0.out,⟨0,0,0,0⟩,by rw [HR.out],fun hh=>by rw [HR.out]at hh;cases hh⟩
 have hl2:loc+2<h.words.length:=by omega
 have HTH:Hid (Calls Tryz.prog 141 #[.pointer (some ⟨c,0,none⟩),.int .i64 (loc:Int)] (w.alloc (.cells #[.int .i64 0,.int .i64 0,.int .i64 0,.int .i64 0] 101)) fun r w'=>r=.returned (.agg #[.int .i64 (thAt h.words loc).loc,.int .i64 (thAt h.words loc).tag,.int .i64 (thAt h.words loc).len,.int .i64 (thAt h.words loc).hash])/\Below (w.alloc (.cells #[.int .i64 0,.int .i64 0,.int .i64 0,.int .i64 0] 101)).heap.size (w.alloc (.cells #[.int .i64 0,.int .i64 0,.int .i64 0,.int .i64 0] 101)) w'):=ze9 _ B c _ _ _ _ _ _ _ h d (g.below hB0) loc hl2
 have g1:=g.below hB0
 have hka:(w.alloc (.cells #[.int .i64 0,.int .i64 0,.int .i64 0,.int .i64 0] 101)).heap[w.heap.size]? =some (.cells #[.int .i64 0,.int .i64 0,.int .i64 0,.int .i64 0] 101 (0,0)):=heap_alloc_new w _
 have HKA:=mk0 hka
 have h2:¬top<(loc:Int)+3:=by omega
 have HTL:Hid ((thAt h.words loc).loc=loc):=rfl
 have HRB:Hid (readB d.classes.length d.fields h.words loc top=(isTagB d.classes.length (thAt h.words loc).tag&&mayHaveB d.fields (thAt h.words loc).tag (thAt h.words loc).len&&decide ((thAt h.words loc).fin<=top))):=by
  show readB _ _ _ _ _=_
  rw [readB,decide_eq_true h1]
  rfl
 have hlen:mayHaveB d.fields (thAt h.words loc).tag (thAt h.words loc).len=true->0<=(thAt h.words loc).len/\(thAt h.words loc).len<=1000:=fun hm=>by
  refine ⟨zeo hm,?_⟩
  unfold mayHaveB at hm
  split at hm
  ·
   have e:=of_decide_eq_true hm
   have:(fieldsAt d.fields (thAt h.words loc).tag).length<=1000:=by
    unfold fieldsAt
    cases hx:d.fields[((thAt h.words loc).tag - 3).toNat]? with
    | none=>simp
    | some f=>exact hfs f (List.mem_of_getElem? hx)
   omega
  rw [Bool.and_eq_true]at hm
  have:=of_decide_eq_true hm.2
  omega
 have HLN:=mk0 hlen
 clear hlen
 generalize hth:thAt h.words loc=th at*
 clear g hB0 hka
 go_enter Tryz.func217,Tryz.ntmps217
 go_wp2_with fail
 refine HTH.out.mono ?_
 rintro r w1 ⟨rfl,hb1⟩
 have hb1':Below w.heap.size w w1:=HB0.out.trans (hb1.mono HB0.out.size)
 obtain ⟨W1,hW1⟩:∃W1,W1=w1.alloc (.cells #[.int .i64 th.loc,.int .i64 th.tag,.int .i64 th.len,.int .i64 th.hash] 101):=⟨_,rfl⟩
 have hA1:Below w1.heap.size w1 W1:=hW1 ▸ (Below.refl _ _).alloc (Nat.le_refl _) _
 have HB1:Hid (Below w.heap.size w W1):=hb1'.trans (hA1.mono hb1'.size)
 have HE1:=mk0 hW1
 have HG1:=mk0 ((HG.out.below hb1').below hA1)
 have h8:W1.heap[w1.heap.size]? =some (.cells #[.int .i64 th.loc,.int .i64 th.tag,.int .i64 th.len,.int .i64 th.hash] 101 (0,0)):=hW1 ▸ heap_alloc_new w1 _
 have h6:W1.heap[w.heap.size]? =some (.cells #[.int .i64 0,.int .i64 0,.int .i64 0,.int .i64 0] 101 (0,0)):=(hA1.block _ (Nat.lt_of_lt_of_le (lt0 HKA.out) hb1.size)).trans ((hb1.block _ (lt0 HKA.out)).trans HKA.out)
 have s0:=cl0 h8 0 (x:=.int .i64 th.loc) rfl
 have s1:=cl0 h8 1 (x:=.int .i64 th.tag) rfl
 have s2:=cl0 h8 2 (x:=.int .i64 th.len) rfl
 have s3:=cl0 h8 3 (x:=.int .i64 th.hash) rfl
 have l8:=lt0 h8
 have r0:=cl0 h6 0 (x:=.int .i64 0) rfl
 have r1:=cl0 h6 1 (x:=.int .i64 0) rfl
 have r2:=cl0 h6 2 (x:=.int .i64 0) rfl
 have r3:=cl0 h6 3 (x:=.int .i64 0) rfl
 have z6:=zcf h6
 have l6:=lt0 h6
 have hne:w1.heap.size≠w.heap.size:=by have:=lt0 HKA.out;have:=hb1.size;omega
 have hcl:=HG.out.lt
 clear hb1 hb1' hA1 hW1
 have HIT:Hid (∀W,Below w.heap.size w W->Calls Tryz.prog 98 #[.pointer (some ⟨c,0,none⟩),.int .i64 th.tag] W fun r w'=>r=.returned (.bool (isTagB d.classes.length th.tag))/\w'=W):=fun W hW=>zex W B c _ _ _ _ _ _ _ h d (HG.out.below hW) th.tag hcn
 have HMH:Hid (isTagB d.classes.length th.tag=true->∀W,Below w.heap.size w W->Calls Tryz.prog 99 #[.pointer (some ⟨c,0,none⟩),.int .i64 th.tag,.int .i64 th.len] W fun r w'=>r=.returned (.bool (mayHaveB d.fields th.tag th.len))/\w'=W):=fun hi W hW=>zey W B c _ _ _ _ _ _ _ h d (HG.out.below hW) th.tag th.len (by
  rw [isTagB,Bool.and_eq_true]at hi
  have:=of_decide_eq_true hi.2
  rw [hfl]
  exact this)
 have HEN:Hid (mayHaveB d.fields th.tag th.len=true->∀W,Calls Tryz.prog 72 #[.agg #[.int .i64 th.loc,.int .i64 th.tag,.int .i64 th.len,.int .i64 th.hash]] W fun r w'=>r=.returned (.int .i64 th.fin)/\Below W.heap.size W w'):=fun hm W=>ze2 W th (by rw [HTL.out];unfold small;omega) (by have:=HLN.out hm;unfold small;omega)
 have HBW:=mk0 HB1.out
 clear HTH HG1 h8 h6 HLN
 cases hi:isTagB d.classes.length th.tag with
 | false=>
   have HR:Hid (readB d.classes.length d.fields h.words loc top=false):=HRB.out.trans (by rw [hi];rfl)
   have HC:=mk0 (hi ▸ HIT.out)
   clear HIT HMH HEN HRB
   go_wp2_with fail
   rw [<-HE1.out]
   refine wp_region_held_drew (S:=fun W'=>∀p:Addr,p.block<W1.heap.size->p.block≠w.heap.size->W'.cell? p=W1.cell? p) (by kernel_rfl) (fun p hp hq=>rfl) fun hH=>?_
   refine ta 0 (.agg #[.int .i64 th.loc,.int .i64 th.tag,.int .i64 th.len,.int .i64 th.hash]) rfl hH ?_
   refine ta 1 (.pointer (some ⟨c,0,none⟩)) rfl hH ?_
   refine ta 2 (.pointer (some ⟨c,0,none⟩)) rfl hH ?_
   refine ta 3 (.pointer (some ⟨c,0,none⟩)) rfl hH ?_
   refine ta 4 (.pointer (some ⟨w1.heap.size,1,none⟩)) rfl hH ?_
   refine ta 5 (.int .i64 th.tag) rfl hH ?_
   refine wpAnyH_ready (rs:=[6]) (by kernel_rfl) (by simp) ?_
   refine AllReadyH.cons rfl (fun K6 hK6=>?_) AllReadyH.nil
   go_simp
   refine (HC.out _ HB1.out.drew).mono ?_
   rintro r _ ⟨rfl,rfl⟩
   refine hK6.out _ _ (fun p hp hq=>rfl) fun hH=>?_
   refine ta 7 (.bool false) rfl hH ?_
   refine tan 8 rfl hH ?_
   refine tan 9 rfl hH ?_
   refine tan 10 rfl hH ?_
   refine tan 11 rfl hH ?_
   refine tan 12 rfl hH ?_
   refine tan 13 rfl hH ?_
   refine tan 14 rfl hH ?_
   refine tan 15 rfl hH ?_
   refine ta 16 (.bool false) rfl hH ?_
   refine ta 17 (.bool false) rfl hH ?_
   refine tan 18 rfl hH ?_
   refine tan 19 rfl hH ?_
   refine tan 20 rfl hH ?_
   refine tan 21 rfl hH ?_
   refine ta 22 (.bool false) rfl hH ?_
   refine wpAnyH_ready (rs:=[23]) (by kernel_rfl) (by simp) ?_
   refine AllReadyH.cons rfl (fun K23 hK23=>?_) AllReadyH.nil
   go_simp
   refine hK23.out _ _ (fun p hp hq=>(World.cell?_setCell_other _ _ _ _ (fun e=>hq (congrArg Addr.block e).symm)).trans ((World.cell?_setCell_other _ _ _ _ (fun e=>hq (congrArg Addr.block e).symm)).trans ((World.cell?_setCell_other _ _ _ _ (fun e=>hq (congrArg Addr.block e).symm)).trans ((World.cell?_setCell_other _ _ _ _ (fun e=>hq (congrArg Addr.block e).symm)).trans (rfl))))) fun hH=>?_
   refine ta 24 (.bool false) rfl hH ?_
   refine wpAnyH_done (by kernel_rfl) ?_ _
   obtain ⟨W9,h9,hg9,t0,t1,t2,t3⟩:=ze8 W1 w.heap.size (.int .i64 th.loc) (.int .i64 th.tag) (.int .i64 th.len) (.int .i64 th.hash) r0 r1 r2 r3
   have hB9:=bg0 (HB1.out) hg9 (Nat.le_refl _)
   clear hH
   rw [<-h9]
   clear h9 hg9
   simp only [Act.put,List.setIfInBounds_toArray,List.set_cons_zero,List.set_cons_succ,List.getElem_toArray,List.getElem_cons_zero,List.getElem_cons_succ]
   go_wp2_with fail
   exact bodyPost_ret (v:=.tuple #[.agg #[.int .i64 th.loc,.int .i64 th.tag,.int .i64 th.len,.int .i64 th.hash],.bool false]) (by simp [results,Tryz.results217,go_sem,t0,t1,t2,t3]) rfl ⟨hB9.drew,th,by rw [HR.out];rfl,fun _=>rfl⟩
 | true=>
   have HC:=mk0 (hi ▸ HIT.out)
   have HMC:=mk0 (HMH.out hi)
   cases hm:mayHaveB d.fields th.tag th.len with
   | false=>
     have HR:Hid (readB d.classes.length d.fields h.words loc top=false):=HRB.out.trans (by rw [hi,hm];rfl)
     have HMD:=mk0 (hm ▸ HMC.out)
     clear HIT HMH HEN HRB HMC
     go_wp2_with fail
     rw [<-HE1.out]
     refine wp_region_held_drew (S:=fun W'=>∀p:Addr,p.block<W1.heap.size->p.block≠w.heap.size->W'.cell? p=W1.cell? p) (by kernel_rfl) (fun p hp hq=>rfl) fun hH=>?_
     refine ta 0 (.agg #[.int .i64 th.loc,.int .i64 th.tag,.int .i64 th.len,.int .i64 th.hash]) rfl hH ?_
     refine ta 1 (.pointer (some ⟨c,0,none⟩)) rfl hH ?_
     refine ta 2 (.pointer (some ⟨c,0,none⟩)) rfl hH ?_
     refine ta 3 (.pointer (some ⟨c,0,none⟩)) rfl hH ?_
     refine ta 4 (.pointer (some ⟨w1.heap.size,1,none⟩)) rfl hH ?_
     refine ta 5 (.int .i64 th.tag) rfl hH ?_
     refine wpAnyH_ready (rs:=[6]) (by kernel_rfl) (by simp) ?_
     refine AllReadyH.cons rfl (fun K6 hK6=>?_) AllReadyH.nil
     go_simp
     refine (HC.out _ HB1.out.drew).mono ?_
     rintro r _ ⟨rfl,rfl⟩
     refine hK6.out _ _ (fun p hp hq=>rfl) fun hH=>?_
     refine ta 7 (.bool true) rfl hH ?_
     refine ta 8 (.pointer (some ⟨c,0,none⟩)) rfl hH ?_
     refine ta 9 (.pointer (some ⟨c,0,none⟩)) rfl hH ?_
     refine ta 10 (.pointer (some ⟨c,0,none⟩)) rfl hH ?_
     refine ta 11 (.pointer (some ⟨w1.heap.size,1,none⟩)) rfl hH ?_
     refine ta 12 (.int .i64 th.tag) rfl hH ?_
     refine ta 13 (.pointer (some ⟨w1.heap.size,2,none⟩)) rfl hH ?_
     refine ta 14 (.int .i64 th.len) rfl hH ?_
     refine wpAnyH_ready (rs:=[15]) (by kernel_rfl) (by simp) ?_
     refine AllReadyH.cons rfl (fun K15 hK15=>?_) AllReadyH.nil
     go_simp
     refine (HMD.out _ HB1.out.drew).mono ?_
     rintro r _ ⟨rfl,rfl⟩
     refine hK15.out _ _ (fun p hp hq=>rfl) fun hH=>?_
     refine ta 16 (.bool false) rfl hH ?_
     refine ta 17 (.bool false) rfl hH ?_
     refine tan 18 rfl hH ?_
     refine tan 19 rfl hH ?_
     refine tan 20 rfl hH ?_
     refine tan 21 rfl hH ?_
     refine ta 22 (.bool false) rfl hH ?_
     refine wpAnyH_ready (rs:=[23]) (by kernel_rfl) (by simp) ?_
     refine AllReadyH.cons rfl (fun K23 hK23=>?_) AllReadyH.nil
     go_simp
     refine hK23.out _ _ (fun p hp hq=>(World.cell?_setCell_other _ _ _ _ (fun e=>hq (congrArg Addr.block e).symm)).trans ((World.cell?_setCell_other _ _ _ _ (fun e=>hq (congrArg Addr.block e).symm)).trans ((World.cell?_setCell_other _ _ _ _ (fun e=>hq (congrArg Addr.block e).symm)).trans ((World.cell?_setCell_other _ _ _ _ (fun e=>hq (congrArg Addr.block e).symm)).trans (rfl))))) fun hH=>?_
     refine ta 24 (.bool false) rfl hH ?_
     refine wpAnyH_done (by kernel_rfl) ?_ _
     obtain ⟨W9,h9,hg9,t0,t1,t2,t3⟩:=ze8 W1 w.heap.size (.int .i64 th.loc) (.int .i64 th.tag) (.int .i64 th.len) (.int .i64 th.hash) r0 r1 r2 r3
     have hB9:=bg0 (HB1.out) hg9 (Nat.le_refl _)
     clear hH
     rw [<-h9]
     clear h9 hg9
     simp only [Act.put,List.setIfInBounds_toArray,List.set_cons_zero,List.set_cons_succ,List.getElem_toArray,List.getElem_cons_zero,List.getElem_cons_succ]
     go_wp2_with fail
     exact bodyPost_ret (v:=.tuple #[.agg #[.int .i64 th.loc,.int .i64 th.tag,.int .i64 th.len,.int .i64 th.hash],.bool false]) (by simp [results,Tryz.results217,go_sem,t0,t1,t2,t3]) rfl ⟨hB9.drew,th,by rw [HR.out];rfl,fun _=>rfl⟩
   | true=>
     have HR:Hid (readB d.classes.length d.fields h.words loc top=decide (th.fin<=top)):=HRB.out.trans (by rw [hi,hm];rfl)
     have HMD:=mk0 (hm ▸ HMC.out)
     have HED:=mk0 (HEN.out hm)
     clear HIT HMH HEN HRB HMC
     generalize th.fin=tf at*
     go_wp2_with fail
     rw [<-HE1.out]
     refine wp_region_held_drew (S:=fun W'=>∀p:Addr,p.block<W1.heap.size->p.block≠w.heap.size->W'.cell? p=W1.cell? p) (by kernel_rfl) (fun p hp hq=>rfl) fun hH=>?_
     refine ta 0 (.agg #[.int .i64 th.loc,.int .i64 th.tag,.int .i64 th.len,.int .i64 th.hash]) rfl hH ?_
     refine ta 1 (.pointer (some ⟨c,0,none⟩)) rfl hH ?_
     refine ta 2 (.pointer (some ⟨c,0,none⟩)) rfl hH ?_
     refine ta 3 (.pointer (some ⟨c,0,none⟩)) rfl hH ?_
     refine ta 4 (.pointer (some ⟨w1.heap.size,1,none⟩)) rfl hH ?_
     refine ta 5 (.int .i64 th.tag) rfl hH ?_
     refine wpAnyH_ready (rs:=[6]) (by kernel_rfl) (by simp) ?_
     refine AllReadyH.cons rfl (fun K6 hK6=>?_) AllReadyH.nil
     go_simp
     refine (HC.out _ HB1.out.drew).mono ?_
     rintro r _ ⟨rfl,rfl⟩
     refine hK6.out _ _ (fun p hp hq=>rfl) fun hH=>?_
     refine ta 7 (.bool true) rfl hH ?_
     refine ta 8 (.pointer (some ⟨c,0,none⟩)) rfl hH ?_
     refine ta 9 (.pointer (some ⟨c,0,none⟩)) rfl hH ?_
     refine ta 10 (.pointer (some ⟨c,0,none⟩)) rfl hH ?_
     refine ta 11 (.pointer (some ⟨w1.heap.size,1,none⟩)) rfl hH ?_
     refine ta 12 (.int .i64 th.tag) rfl hH ?_
     refine ta 13 (.pointer (some ⟨w1.heap.size,2,none⟩)) rfl hH ?_
     refine ta 14 (.int .i64 th.len) rfl hH ?_
     refine wpAnyH_ready (rs:=[15]) (by kernel_rfl) (by simp) ?_
     refine AllReadyH.cons rfl (fun K15 hK15=>?_) AllReadyH.nil
     go_simp
     refine (HMD.out _ HB1.out.drew).mono ?_
     rintro r _ ⟨rfl,rfl⟩
     refine hK15.out _ _ (fun p hp hq=>rfl) fun hH=>?_
     refine ta 16 (.bool true) rfl hH ?_
     refine ta 17 (.bool true) rfl hH ?_
     refine ta 18 (.agg #[.int .i64 th.loc,.int .i64 th.tag,.int .i64 th.len,.int .i64 th.hash]) rfl hH ?_
     refine ta 20 (.int .i64 top) rfl hH ?_
     refine wpAnyH_ready (rs:=[19]) (by kernel_rfl) (by simp) ?_
     refine AllReadyH.cons rfl (fun K19 hK19=>?_) AllReadyH.nil
     go_simp
     refine (HED.out _).mono ?_
     rintro r w5 ⟨rfl,hb5⟩
     have hb6:Below W1.heap.size W1 w5:=(Below.refl _ _).drew.trans hb5
     have y0:=(hb6.cell (p:=⟨w.heap.size,0,none⟩) l6).trans r0
     have y1:=(hb6.cell (p:=⟨w.heap.size,1,none⟩) l6).trans r1
     have y2:=(hb6.cell (p:=⟨w.heap.size,2,none⟩) l6).trans r2
     have y3:=(hb6.cell (p:=⟨w.heap.size,3,none⟩) l6).trans r3
     have z5:∀j,w5.frozen? ⟨w.heap.size,j,none⟩=false:=fun j=>(hb6.frozen (p:=⟨w.heap.size,j,none⟩) l6).trans (z6 j)
     refine hK19.out _ _ (fun p hp hq=>hb6.cell hp) fun hH=>?_
     refine ta 21 (.bool (decide (tf<=top))) rfl hH ?_
     refine ta 22 (.bool (decide (tf<=top))) rfl hH ?_
     refine wpAnyH_ready (rs:=[23]) (by kernel_rfl) (by simp) ?_
     refine AllReadyH.cons rfl (fun K23 hK23=>?_) AllReadyH.nil
     go_simp
     refine hK23.out _ _ (fun p hp hq=>(World.cell?_setCell_other _ _ _ _ (fun e=>hq (congrArg Addr.block e).symm)).trans ((World.cell?_setCell_other _ _ _ _ (fun e=>hq (congrArg Addr.block e).symm)).trans ((World.cell?_setCell_other _ _ _ _ (fun e=>hq (congrArg Addr.block e).symm)).trans ((World.cell?_setCell_other _ _ _ _ (fun e=>hq (congrArg Addr.block e).symm)).trans (hb6.cell hp))))) fun hH=>?_
     refine ta 24 (.bool (decide (tf<=top))) rfl hH ?_
     refine wpAnyH_done (by kernel_rfl) ?_ _
     obtain ⟨W9,h9,hg9,t0,t1,t2,t3⟩:=ze8 w5 w.heap.size (.int .i64 th.loc) (.int .i64 th.tag) (.int .i64 th.len) (.int .i64 th.hash) y0 y1 y2 y3
     have hB9:=bg0 (HB1.out.trans (hb6.mono HB1.out.size)) hg9 (Nat.le_refl _)
     clear hH
     rw [<-h9]
     clear h9 hg9
     simp only [Act.put,List.setIfInBounds_toArray,List.set_cons_zero,List.set_cons_succ,List.getElem_toArray,List.getElem_cons_zero,List.getElem_cons_succ]
     go_wp2_with fail
     exact bodyPost_ret (v:=.tuple #[.agg #[.int .i64 th.loc,.int .i64 th.tag,.int .i64 th.len,.int .i64 th.hash],.bool (decide (tf<=top))]) (by simp [results,Tryz.results217,go_sem,t0,t1,t2,t3]) rfl ⟨hB9,th,by rw [HR.out];rfl,fun _=>rfl⟩
end Go.Proofs.YtjdnmblggdobgaaGreat
