import Derived.Test.YtjdnmblggdobgaaGreatJHsLHpT
import Derived.Test.YtjdnmblggdobgaaGreatJLLkLBas
set_option maxHeartbeats 4000000
set_option maxRecDepth 100000
namespace Go.Proofs.YtjdnmblggdobgaaGreat
open Go.RowKit Go.Maps
def btw (n a b:Int):Bool:=decide (a<=n)&&decide (n<=b)
theorem zks (w:World) (n a b:Int):Calls Tryz.prog 78 #[.int .i64 n,.int .i64 a,.int .i64 b] w fun r w'=>r=.returned (.bool (btw n a b))/\w'=w:=by
 by_cases h0:a<=n
 ·
  by_cases h1:n<=b
  ·
   have HR:Hid (btw n a b=true):=by show btw n a b=true;simp [btw,h0,h1]
   go_enter Tryz.func78,Tryz.ntmps78
   go_wp2_with fail
   go_ret
   exact ⟨by rw [HR.out];rfl,rfl⟩
  have HR:Hid (btw n a b=false):=by show btw n a b=false;simp [btw,h1]
  go_enter Tryz.func78,Tryz.ntmps78
  go_wp2_with fail
  go_ret
  exact ⟨by rw [HR.out];rfl,rfl⟩
 have HR:Hid (btw n a b=false):=by show btw n a b=false;simp [btw,h0]
 go_enter Tryz.func78,Tryz.ntmps78
 go_wp2_with fail
 go_ret
 exact ⟨by rw [HR.out];rfl,rfl⟩
theorem zkt (w:World) (B:Nat) (kC kS kF kN kT:Value) (d:LinkD) (hk:RLk (· <B) w kC kS kF kN kT d) (tag:Int) (hn:d.classes.length<=1000):
 Calls Tryz.prog 59 #[.agg #[kC,kS,kF,kN,kT],.int .i64 tag] w fun r w'=>r=.returned (.bool (isTagB d.classes.length tag))/\Below w.heap.size w w':=by
 have HB:∀o,Hid (Below w.heap.size w (w.alloc o)):=fun o=>(Below.refl _ _).alloc (Nat.le_refl _) _
 obtain ⟨aC,cC,aS,cS,aF,cF,aN,cN,aT,cT,rfl,rfl,rfl,rfl,rfl⟩:=hk.agg
 clear hk
 by_cases h1:1<=tag
 ·
  have wn:IntKind.i64.wrap (3+(d.classes.length:Int))=3+d.classes.length:=ws0 _ (by omega) (by omega)
  by_cases h2:tag<3+d.classes.length
  ·
   have HR:Hid (isTagB d.classes.length tag=true):=by show isTagB _ _=true;simp [isTagB,h1,h2]
   go_enter Tryz.func59,Tryz.ntmps59
   go_wp2_with fail
   go_ret
   exact ⟨by rw [HR.out];rfl,(HB _).out⟩
  have HR:Hid (isTagB d.classes.length tag=false):=by show isTagB _ _=false;simp [isTagB,h2]
  go_enter Tryz.func59,Tryz.ntmps59
  go_wp2_with fail
  go_ret
  exact ⟨by rw [HR.out];rfl,(HB _).out⟩
 have HR:Hid (isTagB d.classes.length tag=false):=by show isTagB _ _=false;simp [isTagB,h1]
 go_enter Tryz.func59,Tryz.ntmps59
 go_wp2_with fail
 go_ret
 exact ⟨by rw [HR.out];rfl,(HB _).out⟩
def rLenB (fs:List (List FieldD)) (tag n:Int):Bool:=btw n 0 500&&(decide (tag<3)||decide (n=(fieldsAt fs tag).length))
theorem zku (w:World) (B:Nat) (kC kS kF kN kT:Value) (d:LinkD) (hk:RLk (· <B) w kC kS kF kN kT d) (hB:B<=w.heap.size) (tag n:Int) (ht:tag<3+d.fields.length):
 Calls Tryz.prog 60 #[.agg #[kC,kS,kF,kN,kT],.int .i64 tag,.int .i64 n] w fun r w'=>r=.returned (.bool (rLenB d.fields tag n))/\Below w.heap.size w w':=by
 have HB:∀o,Hid (Below w.heap.size w (w.alloc o)):=fun o=>(Below.refl _ _).alloc (Nat.le_refl _) _
 obtain ⟨aC,cC,aS,cS,aF,cF,aN,cN,aT,cT,rfl,rfl,rfl,rfl,rfl⟩:=hk.agg
 have HBT:Hid (∀W,Calls Tryz.prog 78 #[.int .i64 n,.int .i64 0,.int .i64 500] W fun r w'=>r=.returned (.bool (btw n 0 500))/\w'=W):=fun W=>zks W n 0 500
 have HE:Hid (rLenB d.fields tag n=(btw n 0 500&&(decide (tag<3)||decide (n=(fieldsAt d.fields tag).length)))):=rfl
 cases hb:btw n 0 500 with
 | false=>
   rw [hb]at HBT HE
   have HR:Hid (rLenB d.fields tag n=false):=HE.out.trans (by simp)
   clear hk HE hb
   go_enter Tryz.func60,Tryz.ntmps60
   go_wp2_with fail
   refine (HBT.out _).mono ?_
   rintro r _ ⟨rfl,rfl⟩
   go_wp2_with fail
   go_ret
   exact ⟨by rw [HR.out];rfl,(HB _).out⟩
 | true=>
   rw [hb]at HBT HE
   by_cases h3:tag<3
   ·
    have HR:Hid (rLenB d.fields tag n=true):=HE.out.trans (by simp [h3])
    clear hk HE hb
    go_enter Tryz.func60,Tryz.ntmps60
    go_wp2_with fail
    refine (HBT.out _).mono ?_
    rintro r _ ⟨rfl,rfl⟩
    go_wp2_with fail
    go_ret
    exact ⟨by rw [HR.out];rfl,(HB _).out⟩
   obtain ⟨k,hkk⟩:∃k:Nat,tag=3+k:=⟨(tag - 3).toNat,by omega⟩
   subst hkk
   have hkl:k<d.fields.length:=by omega
   have hkA:=hk.kept (Kp.below (((HB (.cells #[.slice aC d.classes.length cC,.slice aS d.supers.length cS,.slice aF d.fields.length cF,.slice aN d.names.length cN,.slice aT d.targets.length cT] 36)).out.mono hB)))
   obtain ⟨bF,oF,aV,cV,rfl,hbF,e1,sV⟩:=hk.F.atSl k hkl
   obtain ⟨bF',oF',aV',cV',ee,hbF',e1',sV'⟩:=hkA.F.atSl k hkl
   have hfa:fieldsAt d.fields (3+k)=d.fields[k]:=by
    unfold fieldsAt
    rw [show ((3+(k:Int)) - 3).toNat=k by omega]
    simp [hkl]
   rw [hfa]at HE
   have q1:(0:Int)<=k:=by omega
   have q2:(k:Int)<d.fields.length:=by omega
   have q3:3+(k:Int) - 3=k:=by omega
   have hmv:d.fields[k].length<=9223372036854775807:=by obtain ⟨_,_,-,-,h,-⟩:=sV;unfold maxLen at h;omega
   have hmf:d.fields.length<=9223372036854775807:=by obtain ⟨_,_,-,-,h,-⟩:=hk.F;unfold maxLen at h;omega
   clear sV sV' hfa hk hkA hb e1' ee hbF'
   generalize d.fields[k].length=fl at*
   by_cases h2:n=fl
   ·
    subst h2
    have HR:Hid (rLenB d.fields (3+k) fl=true):=HE.out.trans (by simp)
    clear HE
    go_enter Tryz.func60,Tryz.ntmps60
    go_wp2_with fail
    refine (HBT.out _).mono ?_
    rintro r _ ⟨rfl,rfl⟩
    go_wp2_with fail
    go_ret
    exact ⟨by rw [HR.out];simp<;>omega,(HB _).out⟩
   have h4:(n==(fl:Int))=false:=beq_eq_false_iff_ne.2 h2
   have HR:Hid (rLenB d.fields (3+k) n=false):=HE.out.trans (by simp [h2];omega)
   clear HE
   go_enter Tryz.func60,Tryz.ntmps60
   go_wp2_with fail
   refine (HBT.out _).mono ?_
   rintro r _ ⟨rfl,rfl⟩
   go_wp2_with fail
   go_ret
   exact ⟨by rw [HR.out];simp<;>omega,(HB _).out⟩
theorem zkv (w:World) (B:Nat) (kC kS kF kN kT:Value) (d:LinkD) (hk:RLk (· <B) w kC kS kF kN kT d) (t:ThD) (hf:FitT d t) (n:Nat) (hn:(n:Int)<t.len):
 Calls Tryz.prog 31 #[.agg #[kC,kS,kF,kN,kT],.int .i64 t.tag,.int .i64 (n:Int)] w fun r w'=>r=.returned (.bool (refI d.fields t n))/\Below w.heap.size w w':=by
 have HB0:=mk0 (fun o=>(Below.refl w.heap.size w).alloc (Nat.le_refl _) o)
 obtain ⟨aC,cC,aS,cS,aF,cF,aN,cN,aT,cT,rfl,rfl,rfl,rfl,rfl⟩:=hk.agg
 obtain ⟨_,_,-,-,hm,-⟩:=hk.F
 unfold maxLen at hm
 by_cases h1:3<=t.tag
 ·
  obtain ⟨h2,h3⟩:=hf.tag h1
  obtain ⟨k,hkk⟩:∃k:Nat,t.tag=3+k:=⟨(t.tag - 3).toNat,by omega⟩
  have hkl:k<d.fields.length:=by omega
  obtain ⟨bF,oF,aV,cV,rfl,hbF,e1,sV⟩:=hk.F.atSl k hkl
  have hfa:fieldsAt d.fields t.tag=d.fields[k]:=by
   unfold fieldsAt
   rw [hkk,show ((3+(k:Int)) - 3).toNat=k by omega]
   simp [hkl]
  rw [hfa]at h3
  have hnl:n<d.fields[k].length:=by omega
  obtain ⟨bV,oV,rfl,hbV,-,e2,-⟩:=sV.atF n hnl
  have HR:Hid (refI d.fields t n=decide (d.fields[k][n].kind.kind≠1)):=by
   show refI d.fields t n=_
   rw [refI,if_pos h1,hfa]
   simp [hnl]
  have q1:(0:Int)<=k:=by omega
  have q2:(k:Int)<d.fields.length:=by omega
  have q4:(0:Int)<=n:=by omega
  have q6:((3:Int)+k==2)=false:=beq_eq_false_iff_ne.2 (by omega)
  have wk:IntKind.i64.wrap (k:Int)=k:=ws0 _ (by omega) (by omega)
  have wk3:IntKind.i64.wrap (3+(k:Int) - 3)=k:=(by rw [show 3+(k:Int) - 3=k by omega];exact wk)
  have q5:(n:Int)<d.fields[k].length:=by omega
  have hmv:d.fields[k].length<=9223372036854775807:=by obtain ⟨_,_,-,-,h,-⟩:=sV;unfold maxLen at h;omega
  generalize d.fields[k][n].kind.kind=kk at*
  generalize d.fields[k].length=fl at*
  clear sV hfa hk hf h3 hn
  rw [hkk]at*
  by_cases hkq:kk=1
  ·
   subst hkq
   go_enter Tryz.func31,Tryz.ntmps31
   go_wp2_with fail
   go_ret
   exact ⟨by rw [HR.out];rfl,HB0.out _⟩
  have hkb:(kk==1)=false:=beq_eq_false_iff_ne.2 hkq
  go_enter Tryz.func31,Tryz.ntmps31
  go_wp2_with fail
  go_ret
  exact ⟨by rw [HR.out];simp [hkq],HB0.out _⟩
 have HR:Hid (refI d.fields t n=decide (t.tag=2)):=by show refI d.fields t n=_;rw [refI,if_neg h1]
 clear hk hf
 by_cases h2:t.tag=2
 ·
  have hb:(t.tag==2)=true:=beq_iff_eq.2 h2
  go_enter Tryz.func31,Tryz.ntmps31
  go_wp2_with fail
  go_ret
  exact ⟨by rw [HR.out];simp [h2],HB0.out _⟩
 have hb:(t.tag==2)=false:=beq_eq_false_iff_ne.2 h2
 go_enter Tryz.func31,Tryz.ntmps31
 go_wp2_with fail
 go_ret
 exact ⟨by rw [HR.out];simp [h2],HB0.out _⟩
theorem zkw (w:World) (M:Nat->Prop) (v:Value) (l:List Int) (hv:SL 1 RI M w v l) (n:Int):
 Calls Tryz.prog 74 #[v,.int .i64 n] w fun r w'=>r=.returned (.bool (l.contains n))/\w'=w:=by
 have HV:=mk0 hv
 obtain ⟨ao,cl,rfl,-,hm,-⟩:=hv
 unfold maxLen at hm
 go_enter Tryz.func74,Tryz.ntmps74
 go_wp2_with fail
 go_loopw [5] (fun i wr=>∃k:Nat,k<=l.length/\i=.int .i64 k/\wr=w/\Hid ((l.take k).contains n=false)) (fun i _=>l.length - (intOf i).toNat)
 case atStart=>exact ⟨0,Nat.zero_le _,rfl,rfl,by show (l.take 0).contains n=false;simp⟩
 case round=>
  obtain ⟨k,hk,rfl,rfl,HI⟩:=hrel
  by_cases hlt:k<l.length
  ·
   obtain ⟨b,off,rfl,hb,e⟩:=HV.out.atI k hlt
   have q1:(0:Int)<=k:=by omega
   have q2:(k:Int)<l.length:=by omega
   by_cases hx:l[k]=n
   ·
    have hxb:(l[k]==n)=true:=beq_iff_eq.2 hx
    have HR:Hid (l.contains n=true):=List.contains_iff_mem.2 (hx ▸ List.getElem_mem hlt)
    generalize l[k]=x at*
    go_wp2_with fail
    go_ret
    exact ⟨by rw [HR.out];rfl,rfl⟩
   have hxb:(l[k]==n)=false:=beq_eq_false_iff_ne.2 hx
   have HF:Hid ((l.take (k+1)).contains n=false):=by
    show (l.take (k+1)).contains n=false
    have h0:=HI.out
    rw [List.take_succ_eq_append_getElem hlt]
    rw [<-Bool.not_eq_true,List.contains_iff_mem]at h0 ⊢
    intro hh
    rcases List.mem_append.1 hh with hh | hh
    ·
     exact h0 hh
    simp at hh
    exact hx hh.symm
   generalize l[k]=x at*
   go_wp2_with fail
   go_roundw
   case rel=>exact ⟨k+1,by omega,by go_num,trivial,HF.out⟩
   case measure=>simp [intOf];omega
  have HF:Hid (l.contains n=false):=by
   have h0:=HI.out
   rw [List.take_of_length_le (by omega)]at h0
   exact h0
  go_wp2_with fail
  go_ret
  exact ⟨by rw [HF.out];rfl,rfl⟩
structure Rd (P B:Nat) (w:World) (vW vO kC kS kF kN kT:Value) (h:HeapD) (d:LinkD):Prop where
 le:B<=P
 b0:w.heap[P]? =some (.cells #[vW,.int .i64 h.young,.int .i64 h.old,.int .i64 h.ytop,.int .i64 h.otop,vO,.int .i64 h.next] 24 (0,0))
 b1:w.heap[P+1]? =some (.cells #[kC,kS,kF,kN,kT] 36 (0,0))
 sW:SL 1 RI (· <B) w vW h.words
 sO:SL 1 RI (· <B) w vO h.noted
 lk:RLk (· <B) w kC kS kF kN kT d
theorem Rd.below {P B:Nat} {w w':World} {vW vO kC kS kF kN kT:Value} {h:HeapD} {d:LinkD} (r:Rd P B w vW vO kC kS kF kN kT h d) (hb:Below w.heap.size w w'):Rd P B w' vW vO kC kS kF kN kT h d:=
 have l0:=lt0 r.b0
 have hk:=Kp.below (hb.mono (by have:=r.le;omega:B<=w.heap.size))
 ⟨r.le,(hb.block _ l0).trans r.b0,(hb.block _ (lt0 r.b1)).trans r.b1,r.sW.keptI hk,r.sO.keptI hk,r.lk.kept hk⟩
theorem Rd.new (w:World) (B:Nat) (vW vO kC kS kF kN kT:Value) (h:HeapD) (d:LinkD) (hB:B<=w.heap.size) (sW:SL 1 RI (· <B) w vW h.words) (sO:SL 1 RI (· <B) w vO h.noted) (lk:RLk (· <B) w kC kS kF kN kT d):
 Rd w.heap.size B ((w.alloc (.cells #[vW,.int .i64 h.young,.int .i64 h.old,.int .i64 h.ytop,.int .i64 h.otop,vO,.int .i64 h.next] 24)).alloc (.cells #[kC,kS,kF,kN,kT] 36)) vW vO kC kS kF kN kT h d:=by
 have hb:Below w.heap.size w ((w.alloc (.cells #[vW,.int .i64 h.young,.int .i64 h.old,.int .i64 h.ytop,.int .i64 h.otop,vO,.int .i64 h.next] 24)).alloc (.cells #[kC,kS,kF,kN,kT] 36)):=((Below.refl _ _).alloc (Nat.le_refl _) _).alloc (by simp) _
 have hk:=Kp.below (hb.mono hB)
 refine ⟨hB,(Below.heap_alloc _ _ _ (by simp)).trans (heap_alloc_new w _),?_,sW.keptI hk,sO.keptI hk,lk.kept hk⟩
 have:=heap_alloc_new (w.alloc (.cells #[vW,.int .i64 h.young,.int .i64 h.old,.int .i64 h.ytop,.int .i64 h.otop,vO,.int .i64 h.next] 24)) (.cells #[kC,kS,kF,kN,kT] 36)
 simpa using this
theorem zkx {fs:List (List FieldD)} {tag n:Int} (hfs:∀f∈fs,f.length<=500):rLenB fs tag n=mayHaveB fs tag n:=by
 unfold rLenB mayHaveB btw
 by_cases h3:3<=tag
 ·
  rw [if_pos h3]
  have hl:(fieldsAt fs tag).length<=500:=by
   unfold fieldsAt
   cases hx:fs[(tag - 3).toNat]? with
   | none=>simp
   | some f=>exact hfs f (List.mem_of_getElem? hx)
  rw [Bool.eq_iff_iff]
  simp
  omega
 rw [if_neg h3]
 rw [Bool.eq_iff_iff]
 simp
 omega
def FromOut (w:World) (o:Option (List ThD)) (r:Ending) (w':World):Prop:=
 (∃ts v,o=some ts/\r=.returned (.tuple #[v,.bool true])/\w'.ownsRow w.heap.size 3 1 v (ts.map ThD.loc).length (intV (ts.map ThD.loc)))\/(o=none/\∃a n c,r=.returned (.tuple #[.slice a n c,.bool false]))
theorem zky (w:World) (B:Nat) (vW vO kC kS kF kN kT:Value) (h:HeapD) (d:LinkD) (sW:SL 1 RI (· <B) w vW h.words) (sO:SL 1 RI (· <B) w vO h.noted) (lk:RLk (· <B) w kC kS kF kN kT d) (hB:B<=w.heap.size)
 (loc0:Nat) (top:Int) (hlo:(loc0:Int)<=top) (htp:top<=5000) (ht:top<=h.words.length) (hfl:d.fields.length=d.classes.length) (hfs:∀f∈d.fields,f.length<=500) (hcn:d.classes.length<=1000):
 Calls Tryz.prog 129 #[.agg #[vW,.int .i64 h.young,.int .i64 h.old,.int .i64 h.ytop,.int .i64 h.otop,vO,.int .i64 h.next],.agg #[kC,kS,kF,kN,kT],.int .i64 (loc0:Int),.int .i64 top] w fun r w'=>Below w.heap.size w w'/\FromOut w (walkT d.classes.length d.fields h.words loc0 top) r w':=by
 obtain ⟨iI,hiI,hzI0,hzI1,hzI2⟩:=info_parts Tryz.infoInt
 obtain ⟨W0,hW0⟩:∃W0,W0=(w.alloc (.cells #[vW,.int .i64 h.young,.int .i64 h.old,.int .i64 h.ytop,.int .i64 h.otop,vO,.int .i64 h.next] 24)).alloc (.cells #[kC,kS,kF,kN,kT] 36):=⟨_,rfl⟩
 have hrd:Rd w.heap.size B W0 vW vO kC kS kF kN kT h d:=hW0 ▸ Rd.new w B _ _ _ _ _ _ _ h d hB sW sO lk
 have hB0:Below w.heap.size w W0:=hW0 ▸ ((Below.refl _ _).alloc (Nat.le_refl _) _).alloc (by simp) _
 have hs0:W0.heap.size=w.heap.size+2:=by rw [hW0];simp
 have HRD:=mk0 hrd
 have HB0:=mk0 hB0
 have HE0:=mk0 hW0
 have HS0:=mk0 hs0
 have HLK:=mk0 (And.intro hfl (And.intro hfs hcn))
 obtain ⟨aC,cC,aS,cS,aF,cF,aN,cN,aT,cT,rfl,rfl,rfl,rfl,rfl⟩:=lk.agg
 have HM:Hid (∃a c,vW=.slice a h.words.length c/\h.words.length<=9223372036854775807):=by
  obtain ⟨a,c,e,-,hm,-⟩:=sW
  exact ⟨a,c,e,by unfold maxLen at hm;omega⟩
 clear hrd hB0 hW0 sW sO lk hfl hfs hs0
 go_enter Tryz.func129,Tryz.ntmps129
 go_wp2_with fail
 rw [<-HE0.out]
 go_loopw [2,10] (fun i v wr=>∃(loc:Nat) (ts1:List ThD),i=.int .i64 loc/\loc<=10000/\ts1.length<=loc/\Hid (wr.ownsRow W0.heap.size 3 1 v (ts1.map ThD.loc).length (intV (ts1.map ThD.loc))/\Below W0.heap.size W0 wr/\
  (((loc:Int)<=top/\walkT d.classes.length d.fields h.words loc0 top=(walkT d.classes.length d.fields h.words loc top).map (ts1++ ·))\/(top<loc/\walkT d.classes.length d.fields h.words loc0 top=none)))) (fun i _ _=>(top - intOf i).toNat)
 case atStart=>exact ⟨loc0,[],rfl,by omega,Nat.zero_le _,World.ownsRow_nil _ _ _ _,Below.refl _ _,Or.inl ⟨hlo,by cases walkT d.classes.length d.fields h.words loc0 top<;>rfl⟩⟩
 case round=>
  obtain ⟨loc,ts1,rfl,hl,htl,HI⟩:=hrel
  by_cases hlt:(loc:Int)<top
  ·
   have hwk:walkT d.classes.length d.fields h.words loc0 top=(walkT d.classes.length d.fields h.words loc top).map (ts1++ ·):=by
    rcases HI.out.2.2 with hx | hx
    ·
     exact hx.2
    exact absurd hx.1 (by omega)
   have HWK:=mk0 hwk
   clear hwk
   have hr:=HRD.out.below HI.out.2.1
   obtain ⟨aW,cW,rfl,hmW⟩:=HM.out
   have hsr:=HI.out.2.1.size
   have HFB:Hid (∀V,Below wr.heap.size wr V->Below w.heap.size w V):=fun V hV=>HB0.out.trans ((HI.out.2.1.trans (hV.mono hsr)).mono (by have:=HS0.out;omega))
   by_cases h3:(loc:Int)+3<=top
   ·
    have hl0:loc+2<h.words.length:=by omega
    obtain ⟨bW,oW,rfl,hbW,e0⟩:=hr.sW.atI loc (by omega)
    obtain ⟨bW',oW',ee,-,e1⟩:=hr.sW.atI (loc+1) (by omega)
    cases ee
    have hbB:bW<wr.heap.size:=hbW
    have q0:(0:Int)<=loc:=by omega
    have q1:(loc:Int)<h.words.length:=by omega
    have q2:(0:Int)<=(loc:Int)+1:=by omega
    have q3:(loc:Int)+1<h.words.length:=by omega
    have q6:((loc:Int)+1).toNat=loc+1:=by omega
    have w1:IntKind.i64.wrap ((loc:Int)+1)=(loc:Int)+1:=ws0 _ (by omega) (by omega)
    have w3:IntKind.i64.wrap ((loc:Int)+3)=(loc:Int)+3:=ws0 _ (by omega) (by omega)
    have hd0:decide (top<(loc:Int)+3)=false:=by simp;omega
    have HWD:Hid (h.words[loc]=wd h.words loc/\h.words[loc+1]=wd h.words ((loc:Int)+1)):=⟨(zen (by omega)).symm,by rw [show (loc:Int)+1=((loc+1:Nat):Int) by omega];exact (zen (by omega)).symm⟩
    have hne:Nonempty (Gr wr.heap.size wr):=⟨⟨wr,Below.refl _ _⟩⟩
    have l0:=lt0 hr.b0
    have l1:=lt0 hr.b1
    have k0:∀g:Gr wr.heap.size wr,g.w.cell? ⟨w.heap.size,0,none⟩=some (.slice (some ⟨bW,oW,none⟩) h.words.length cW):=fun g=>(g.ok.cell (p:=⟨w.heap.size,0,none⟩) l0).trans (cl0 hr.b0 0 rfl)
    have y0:∀g:Gr wr.heap.size wr,g.w.cell? ⟨w.heap.size+1,0,none⟩=some (.slice aC d.classes.length cC):=fun g=>(g.ok.cell (p:=⟨w.heap.size+1,0,none⟩) l1).trans (cl0 hr.b1 0 rfl)
    have y1:∀g:Gr wr.heap.size wr,g.w.cell? ⟨w.heap.size+1,1,none⟩=some (.slice aS d.supers.length cS):=fun g=>(g.ok.cell (p:=⟨w.heap.size+1,1,none⟩) l1).trans (cl0 hr.b1 1 rfl)
    have y2:∀g:Gr wr.heap.size wr,g.w.cell? ⟨w.heap.size+1,2,none⟩=some (.slice aF d.fields.length cF):=fun g=>(g.ok.cell (p:=⟨w.heap.size+1,2,none⟩) l1).trans (cl0 hr.b1 2 rfl)
    have y3:∀g:Gr wr.heap.size wr,g.w.cell? ⟨w.heap.size+1,3,none⟩=some (.slice aN d.names.length cN):=fun g=>(g.ok.cell (p:=⟨w.heap.size+1,3,none⟩) l1).trans (cl0 hr.b1 3 rfl)
    have y4:∀g:Gr wr.heap.size wr,g.w.cell? ⟨w.heap.size+1,4,none⟩=some (.slice aT d.targets.length cT):=fun g=>(g.ok.cell (p:=⟨w.heap.size+1,4,none⟩) l1).trans (cl0 hr.b1 4 rfl)
    have e0':∀g:Gr wr.heap.size wr,g.w.cell? ⟨bW,oW+loc,none⟩=some (.int .i64 h.words[loc]):=fun g=>(g.ok.cell (p:=⟨bW,oW+loc,none⟩) hbW).trans e0
    have e1':∀g:Gr wr.heap.size wr,g.w.cell? ⟨bW,oW+(loc+1),none⟩=some (.int .i64 h.words[loc+1]):=fun g=>(g.ok.cell (p:=⟨bW,oW+(loc+1),none⟩) hbW).trans e1
    have lb:∀g:Gr wr.heap.size wr,w.heap.size<g.w.heap.size:=fun g=>Nat.lt_of_lt_of_le l0 g.ok.size
    have lb1:∀g:Gr wr.heap.size wr,w.heap.size+1<g.w.heap.size:=fun g=>Nat.lt_of_lt_of_le l1 g.ok.size
    have HTG:Hid (∀g:Gr wr.heap.size wr,Calls Tryz.prog 59 #[.agg #[.slice aC d.classes.length cC,.slice aS d.supers.length cS,.slice aF d.fields.length cF,.slice aN d.names.length cN,.slice aT d.targets.length cT],.int .i64 h.words[loc]] g.w fun e w''=>e=.returned (.bool (isTagB d.classes.length h.words[loc]))/\∃g':Gr wr.heap.size wr,w''=g'.w):=fun g=>Gr.calls g (Nat.le_refl _) (zkt g.w B _ _ _ _ _ d (hr.below g.ok).lk _ HLK.out.2.2)
    have HLN:Hid (isTagB d.classes.length h.words[loc]=true->∀g:Gr wr.heap.size wr,Calls Tryz.prog 60 #[.agg #[.slice aC d.classes.length cC,.slice aS d.supers.length cS,.slice aF d.fields.length cF,.slice aN d.names.length cN,.slice aT d.targets.length cT],.int .i64 h.words[loc],.int .i64 h.words[loc+1]] g.w fun e w''=>e=.returned (.bool (mayHaveB d.fields h.words[loc] h.words[loc+1]))/\∃g':Gr wr.heap.size wr,w''=g'.w):=fun hb g=>by
     have htg:h.words[loc]<3+(d.fields.length:Int):=by
      unfold isTagB at hb
      rw [Bool.and_eq_true]at hb
      rw [HLK.out.1]
      exact of_decide_eq_true hb.2
     rw [<-zkx HLK.out.2.1]
     exact Gr.calls g (Nat.le_refl _) (zku g.w B _ _ _ _ _ d (hr.below g.ok).lk (by have:=(hr.below g.ok).le;have:=lt0 (hr.below g.ok).b0;omega) _ _ htg)
    have HRB:Hid (readB d.classes.length d.fields h.words loc top=(isTagB d.classes.length h.words[loc]&&mayHaveB d.fields h.words[loc] h.words[loc+1]&&decide ((thAt h.words loc).fin<=top))):=by
     show readB _ _ _ _ _=_
     rw [readB,HWD.out.1,HWD.out.2,decide_eq_true h3,Bool.true_and]
    have HFI:Hid ((thAt h.words loc).fin=loc+3+h.words[loc+1]):=by show loc+3+wd h.words ((loc:Int)+1)=_;rw [HWD.out.2]
    have HTH:Hid ((thAt h.words loc).loc=loc):=rfl
    have HMY:Hid (mayHaveB d.fields h.words[loc] h.words[loc+1]=true->0<=h.words[loc+1]/\h.words[loc+1]<=500):=fun hb=>by
     rw [<-zkx HLK.out.2.1]at hb
     unfold rLenB btw at hb
     simp only [Bool.and_eq_true,decide_eq_true_eq]at hb
     exact hb.1
    have HR0:=mk0 (cl0 hr.b0 0 (x:=.slice (some ⟨bW,oW,none⟩) h.words.length cW) rfl)
    clear hr e0 HWD
    generalize h.words[loc]=x0 at*
    generalize h.words[loc+1]=x1 at*
    cases hT:isTagB d.classes.length x0 with
    | false=>
      have HNO:Hid (walkT d.classes.length d.fields h.words loc0 top=none):=by
       show _=_
       rw [HWK.out,zeu hlt (by rw [HRB.out,hT];simp)]
       rfl
      rw [hT]at HTG
      clear HLN HRB HFI HMY HI HWK e1 HR0 HTH
      go_wp2_with fail
      refine zev wr.heap.size wr (by kernel_rfl) (by kernel_rfl) (Below.refl _ _) ?_
      repeat (go_big_quiet_step (first | (go_at_call 59;exact HTG.out _)))
      refine wpQuiet_nil ?_
      intro _ hw'
      obtain ⟨g,rfl⟩:=hw'
      have HFN:=mk0 (HFB.out _ g.ok)
      generalize g.w=w2 at*
      clear k0 y0 y1 y2 y3 y4 e0' e1' lb lb1 hne HTG
      go_wp2_with fail
      go_ret2
      exact ⟨HFN.out,Or.inr ⟨HNO.out,_,_,_,rfl⟩⟩
    | true=>
      rw [hT]at HTG
      have HLT:=mk0 (HLN.out hT)
      clear HLN
      cases hM:mayHaveB d.fields x0 x1 with
      | false=>
        have HNO:Hid (walkT d.classes.length d.fields h.words loc0 top=none):=by
         show _=_
         rw [HWK.out,zeu hlt (by rw [HRB.out,hM];simp)]
         rfl
        rw [hM]at HLT
        clear HRB HFI HMY HI HWK e1 HR0 HTH
        go_wp2_with fail
        refine zev wr.heap.size wr (by kernel_rfl) (by kernel_rfl) (Below.refl _ _) ?_
        repeat (go_big_quiet_step (first | (go_at_call 59;exact HTG.out _) | (go_at_call 60;exact HLT.out _)))
        refine wpQuiet_nil ?_
        intro _ hw'
        obtain ⟨g,rfl⟩:=hw'
        have HFN:=mk0 (HFB.out _ g.ok)
        generalize g.w=w2 at*
        clear k0 y0 y1 y2 y3 y4 e0' e1' lb lb1 hne HTG HLT
        go_wp2_with fail
        go_ret2
        exact ⟨HFN.out,Or.inr ⟨HNO.out,_,_,_,rfl⟩⟩
      | true=>
        rw [hM]at HLT
        obtain ⟨hx1,hx2⟩:=HMY.out hM
        have HNX:Hid (((loc:Int)+3+x1<=top/\walkT d.classes.length d.fields h.words loc0 top=(walkT d.classes.length d.fields h.words (loc+3+x1) top).map ((ts1++ [thAt h.words loc])++ ·))\/(top<(loc:Int)+3+x1/\walkT d.classes.length d.fields h.words loc0 top=none)):=by
         by_cases hfn:(loc:Int)+3+x1<=top
         ·
          refine Or.inl ⟨hfn,?_⟩
          rw [HWK.out,zet hlt (by rw [HRB.out,hT,hM,HFI.out];simp [hfn]),HFI.out]
          cases walkT d.classes.length d.fields h.words (loc+3+x1) top with
          | none=>rfl
          | some l=>simp
         refine Or.inr ⟨by omega,?_⟩
         rw [HWK.out,zeu hlt (by rw [HRB.out,hT,hM,HFI.out];simp [hfn])]
         rfl
        have HIO:=mk0 (And.intro HI.out.1 HI.out.2.1)
        have HE1:=mk0 e1
        clear HRB HFI HMY HI HWK e1
        go_wp2_with fail
        refine zev wr.heap.size wr (by kernel_rfl) (by kernel_rfl) (Below.refl _ _) ?_
        repeat (go_big_quiet_step (first | (go_at_call 59;exact HTG.out _) | (go_at_call 60;exact HLT.out _)))
        refine wpQuiet_nil ?_
        intro _ hw'
        obtain ⟨g,rfl⟩:=hw'
        have hg:=g.ok
        generalize g.w=w2 at*
        clear k0 y0 y1 y2 y3 y4 e0' e1' lb lb1 hne HTG HLT
        have hown2:=zhj HIO.out.1 hg
        have hB2:Below W0.heap.size W0 w2:=HIO.out.2.trans (hg.mono hsr)
        have hs2:=hg.size
        have r0:=(hg.cell (p:=⟨w.heap.size,0,none⟩) l0).trans HR0.out
        have r1:=(hg.cell (p:=⟨bW,oW+(loc+1),none⟩) hbB).trans HE1.out
        have l2:w.heap.size<w2.heap.size:=by omega
        have l3:bW<w2.heap.size:=by omega
        have w4:IntKind.i64.wrap (3+x1)=3+x1:=ws0 _ (by omega) (by omega)
        have w5:IntKind.i64.wrap ((loc:Int)+(3+x1))=(loc:Int)+(3+x1):=ws0 _ (by omega) (by omega)
        generalize hlc:ts1.map ThD.loc=acc at*
        have hal:acc.length=ts1.length:=by rw [<-hlc];simp
        obtain ⟨a5,c5,rfl⟩:=zfz hown2
        have HOW:=mk0 hown2
        have HB2:=mk0 hB2
        have HR01:=mk0 (And.intro r0 r1)
        have HBB:Hid (acc.length+1<=maxLen/\(acc.length+1)*8<=140737488355328/\W0.heap.size<=(w2.alloc (.cells #[.int .i64 loc] 3)).heap.size):=⟨by unfold maxLen;omega,by omega,by have:=hB2.size;simp;omega⟩
        have HAL:=mk0 hal
        have HLC:=mk0 hlc
        have HGR:Hid (∀(w3:World),(w2.alloc (.cells #[.int .i64 loc] 3)).grownBy w3 (Value.slice a5 acc.length c5).ownBlock->w3.cell? ⟨w.heap.size,0,none⟩=some (.slice (some ⟨bW,oW,none⟩) h.words.length cW)/\w3.cell? ⟨bW,oW+(loc+1),none⟩=some (.int .i64 x1)/\w.heap.size<w3.heap.size/\bW<w3.heap.size/\Below W0.heap.size W0 w3):=fun w3 hg3=>by
         have hrb:∀k,(Value.slice a5 acc.length c5).ownBlock=some k->W0.heap.size<=k:=fun k e=>(HOW.out.lt k e).1
         have hB3:Below W0.heap.size W0 w3:=(HB2.out.alloc (by have:=HB2.out.size;omega) _).grown hg3 (by have:=HB2.out.size;simp;omega) (fun k e=>hrb k e)
         have hs3:=hB3.size
         have hs0:=HS0.out
         have hbw0:bW<W0.heap.size:=by
          obtain ⟨_,_,e,-,-,hh⟩:=HRD.out.sW
          obtain ⟨b',_,_,e',hb',hb2,_⟩:=hh loc (by omega)
          cases e
          cases e'
          exact hb2
         refine ⟨(hB3.cell (p:=⟨w.heap.size,0,none⟩) (by show w.heap.size<_;omega)).trans (cl0 HRD.out.b0 0 rfl),?_,by omega,by omega,hB3⟩
         exact (hB3.cell (p:=⟨bW,oW+(loc+1),none⟩) hbw0).trans ((HB2.out.cell (p:=⟨bW,oW+(loc+1),none⟩) hbw0).symm.trans HR01.out.2)
        clear r0 r1 hown2 hB2 hg hal hlc HIO HE1 HR0
        go_wp2_with (at_builtin;refine wpList_append_lies _ rfl _ _ 22 rfl W0.heap.size 3 iI (.int .i64 0) 1 8 Tryz.underlying22 hiI hzI0 hzI1 hzI2 rfl (by decide) (.slice a5 acc.length c5) acc.length (intV acc) rfl (HOW.out.alloc _) ⟨w2.heap.size,0,none⟩ 1 1 [.int .i64 loc] rfl rfl (World.news_of_block (heap_alloc_new w2 _)) (by intro u hu;simp at hu;subst hu;rfl) (by omega) HBB.out.1 HBB.out.2.1 HBB.out.2.2 _ rfl ?_)
        intro gA cA w3 hown3 hgr3 _ hlt3
        obtain ⟨r0,r1,l4,l5,hB3⟩:=HGR.out w3 hgr3
        have HF:Hid (w3.ownsRow W0.heap.size 3 1 (.slice (some ⟨gA,0,none⟩) (acc.length+1) cA) ((ts1++ [thAt h.words loc]).map ThD.loc).length (intV ((ts1++ [thAt h.words loc]).map ThD.loc))/\Below W0.heap.size W0 w3):=by
         rw [List.map_append,HLC.out,List.length_append,zip]
         exact ⟨hown3,hB3⟩
        clear hown3 hgr3 hB3 HGR HOW HB2 HBB HR01
        go_wp2_with fail
        go_roundw
        case rel=>
         refine ⟨(loc+3+x1.toNat),ts1++ [thAt h.words loc],?_,by omega,by simp;omega,HF.out.1,HF.out.2,?_⟩
         ·
          have:((loc+3+x1.toNat:Nat):Int)=(loc:Int)+(3+x1):=by omega
          rw [this]
         have e:((loc+3+x1.toNat:Nat):Int)=(loc:Int)+3+x1:=by omega
         rw [e]
         exact HNX.out
        case measure=>simp [intOf];omega
   have HNO:Hid (walkT d.classes.length d.fields h.words loc0 top=none):=by
    show _=_
    rw [HWK.out,zeu hlt (by rw [readB,decide_eq_false h3];simp)]
    rfl
   have w3:IntKind.i64.wrap ((loc:Int)+3)=(loc:Int)+3:=ws0 _ (by omega) (by omega)
   have hd0:decide (top<(loc:Int)+3)=true:=by simp;omega
   have hne:Nonempty (Gr wr.heap.size wr):=⟨⟨wr,Below.refl _ _⟩⟩
   clear HI HWK hr
   go_wp2_with fail
   refine zev wr.heap.size wr (by kernel_rfl) (by kernel_rfl) (Below.refl _ _) ?_
   repeat (go_big_quiet_step (fail))
   refine wpQuiet_nil ?_
   intro _ hw'
   obtain ⟨g,rfl⟩:=hw'
   have HFN:=mk0 (HFB.out _ g.ok)
   generalize g.w=w2 at*
   clear hne
   go_wp2_with fail
   go_ret2
   exact ⟨HFN.out,Or.inr ⟨HNO.out,_,_,_,rfl⟩⟩
  have HFB:Hid (Below w.heap.size w wr):=HB0.out.trans (HI.out.2.1.mono (by have:=HS0.out;omega))
  by_cases heq:(loc:Int)=top
  ·
   have HYS:Hid (walkT d.classes.length d.fields h.words loc0 top=some ts1):=by
    rcases HI.out.2.2 with hx | hx
    ·
     show _=_
     rw [hx.2,zes hlt]
     simp
    exact absurd hx.1 (by omega)
   have HOW:=mk0 HI.out.1
   have hbq:((loc:Int)==top)=true:=beq_iff_eq.2 heq
   clear HI
   go_wp2_with fail
   go_ret2
   exact ⟨HFB.out,Or.inl ⟨ts1,_,HYS.out,rfl,zhp HOW.out (by have:=HS0.out;omega)⟩⟩
  have HYS:Hid (walkT d.classes.length d.fields h.words loc0 top=none):=by
   rcases HI.out.2.2 with hx | hx
   ·
    exact absurd hx.1 (by omega)
   exact hx.2
  have hbq:((loc:Int)==top)=false:=beq_eq_false_iff_ne.2 heq
  obtain ⟨a5,c5,rfl⟩:=zfz HI.out.1
  clear HI
  go_wp2_with fail
  go_ret2
  exact ⟨HFB.out,Or.inr ⟨HYS.out,_,_,_,rfl⟩⟩
theorem zkz (w:World) (B:Nat) (vW vO kC kS kF kN kT:Value) (h:HeapD) (d:LinkD) (sW:SL 1 RI (· <B) w vW h.words) (sO:SL 1 RI (· <B) w vO h.noted) (lk:RLk (· <B) w kC kS kF kN kT d) (hB:B<=w.heap.size)
 (loc:Nat) (hl:loc+2<h.words.length) (hwl:h.words.length<=100000) (hf:FitT d (thAt h.words loc)):
 Calls Tryz.prog 87 #[.agg #[vW,.int .i64 h.young,.int .i64 h.old,.int .i64 h.ytop,.int .i64 h.otop,vO,.int .i64 h.next],.agg #[kC,kS,kF,kN,kT],.int .i64 (loc:Int)] w fun r w'=>Below w.heap.size w w'/\∃v,r=.returned v/\w'.ownsRow w.heap.size 3 1 v (refsOf d.fields (thAt h.words loc)).length (intV (refsOf d.fields (thAt h.words loc))):=by
 obtain ⟨iI,hiI,hzI0,hzI1,hzI2⟩:=info_parts Tryz.infoInt
 obtain ⟨W0,hW0⟩:∃W0,W0=(w.alloc (.cells #[vW,.int .i64 h.young,.int .i64 h.old,.int .i64 h.ytop,.int .i64 h.otop,vO,.int .i64 h.next] 24)).alloc (.cells #[kC,kS,kF,kN,kT] 36):=⟨_,rfl⟩
 have hrd:Rd w.heap.size B W0 vW vO kC kS kF kN kT h d:=hW0 ▸ Rd.new w B _ _ _ _ _ _ _ h d hB sW sO lk
 have hB0:Below w.heap.size w W0:=hW0 ▸ ((Below.refl _ _).alloc (Nat.le_refl _) _).alloc (by simp) _
 have hs0:W0.heap.size=w.heap.size+2:=by rw [hW0];simp
 have HRD:=mk0 hrd
 have HB0:=mk0 hB0
 have HE0:=mk0 hW0
 have HS0:=mk0 hs0
 have HFT:=mk0 hf
 obtain ⟨aC,cC,aS,cS,aF,cF,aN,cN,aT,cT,rfl,rfl,rfl,rfl,rfl⟩:=lk.agg
 obtain ⟨aW,cW,rfl,-,hm,-⟩:=sW
 unfold maxLen at hm
 obtain ⟨bW,oW,rfl,hbW,-⟩:=hrd.sW.atI loc (by omega)
 have HTG:Hid (h.words[loc]=(thAt h.words loc).tag/\h.words[loc+1]=(thAt h.words loc).len):=⟨(zen (by omega)).symm,by show _=wd h.words ((loc:Int)+1);rw [show (loc:Int)+1=((loc+1:Nat):Int) by omega];exact (zen (by omega)).symm⟩
 have HTL:Hid ((thAt h.words loc).loc=loc):=rfl
 have HRN:Hid (refsOf d.fields (thAt h.words loc)=refsN d.fields (thAt h.words loc) (thAt h.words loc).len.toNat):=rfl
 have htlo:=hf.lo
 have hthi:=hf.hi
 have q0:(0:Int)<=loc:=by omega
 have q1:(loc:Int)<h.words.length:=by omega
 have q2:(0:Int)<=(loc:Int)+1:=by omega
 have q3:(loc:Int)+1<h.words.length:=by omega
 have q6:((loc:Int)+1).toNat=loc+1:=by omega
 have w1:IntKind.i64.wrap ((loc:Int)+1)=(loc:Int)+1:=ws0 _ (by omega) (by omega)
 have w3:IntKind.i64.wrap ((loc:Int)+3)=(loc:Int)+3:=ws0 _ (by omega) (by omega)
 have HCW:Hid (∀V,Below W0.heap.size W0 V->V.cell? ⟨w.heap.size,0,none⟩=some (.slice (some ⟨bW,oW,none⟩) h.words.length cW)/\V.cell? ⟨bW,oW+loc,none⟩=some (.int .i64 (thAt h.words loc).tag)/\V.cell? ⟨bW,oW+(loc+1),none⟩=some (.int .i64 (thAt h.words loc).len)/\w.heap.size<V.heap.size/\bW<V.heap.size):=fun V hV=>by
  have hr:=HRD.out.below hV
  obtain ⟨b1,o1,e1,hb1,c1⟩:=hr.sW.atI loc (by omega)
  obtain ⟨b2,o2,e2,hb2,c2⟩:=hr.sW.atI (loc+1) (by omega)
  cases e1
  cases e2
  rw [HTG.out.1]at c1
  rw [HTG.out.2]at c2
  exact ⟨cl0 hr.b0 0 rfl,c1,c2,lt0 hr.b0,hb1⟩
 have HCL:Hid (∀V,Below W0.heap.size W0 V->V.cell? ⟨w.heap.size+1,0,none⟩=some (.slice aC d.classes.length cC)/\V.cell? ⟨w.heap.size+1,1,none⟩=some (.slice aS d.supers.length cS)/\V.cell? ⟨w.heap.size+1,2,none⟩=some (.slice aF d.fields.length cF)/\V.cell? ⟨w.heap.size+1,3,none⟩=some (.slice aN d.names.length cN)/\V.cell? ⟨w.heap.size+1,4,none⟩=some (.slice aT d.targets.length cT)/\w.heap.size+1<V.heap.size):=fun V hV=>by
  have hr:=HRD.out.below hV
  exact ⟨cl0 hr.b1 0 rfl,cl0 hr.b1 1 rfl,cl0 hr.b1 2 rfl,cl0 hr.b1 3 rfl,cl0 hr.b1 4 rfl,lt0 hr.b1⟩
 have HWR:Hid (∀V (n:Nat),Below W0.heap.size W0 V->(n:Int)<(thAt h.words loc).len->Calls Tryz.prog 31 #[.agg #[.slice aC d.classes.length cC,.slice aS d.supers.length cS,.slice aF d.fields.length cF,.slice aN d.names.length cN,.slice aT d.targets.length cT],.int .i64 (thAt h.words loc).tag,.int .i64 (n:Int)] V fun r w'=>r=.returned (.bool (refI d.fields (thAt h.words loc) n))/\Below V.heap.size V w'):=fun V n hV hn=>zkv V B _ _ _ _ _ d (HRD.out.below hV).lk (thAt h.words loc) HFT.out n hn
 clear hrd hB0 hW0 sO lk hf HTG hbW hs0
 generalize thAt h.words loc=t at*
 generalize htl:t.len=tl at*
 clear htl
 go_enter Tryz.func87,Tryz.ntmps87
 go_wp2_with fail
 rw [<-HE0.out]
 go_loopw [7,8] (fun v i wr=>∃n:Nat,i=.int .i64 n/\(n:Int)<=tl/\Hid (wr.ownsRow W0.heap.size 3 1 v (refsN d.fields t n).length (intV (refsN d.fields t n))/\Below W0.heap.size W0 wr)) (fun _ i _=>(tl - intOf i).toNat)
 case atStart=>exact ⟨0,rfl,by omega,World.ownsRow_nil _ _ _ _,Below.refl _ _⟩
 case round=>
  obtain ⟨n,rfl,hn,HI⟩:=hrel
  obtain ⟨k0,k1,k2,k3,k4⟩:=HCW.out wr HI.out.2
  have hsr:=HI.out.2.size
  by_cases hlt:(n:Int)<tl
  ·
   have HST:=mk0 (zhq d.fields t n)
   have hne:Nonempty (Gr wr.heap.size wr):=⟨⟨wr,Below.refl _ _⟩⟩
   have HG:∀g:Gr wr.heap.size wr,Below W0.heap.size W0 g.w:=fun g=>HI.out.2.trans (g.ok.mono hsr)
   have c0:∀g:Gr wr.heap.size wr,g.w.cell? ⟨w.heap.size,0,none⟩=some (.slice (some ⟨bW,oW,none⟩) h.words.length cW):=fun g=>(HCW.out g.w (HG g)).1
   have c1:∀g:Gr wr.heap.size wr,g.w.cell? ⟨bW,oW+loc,none⟩=some (.int .i64 t.tag):=fun g=>(HCW.out g.w (HG g)).2.1
   have y0:∀g:Gr wr.heap.size wr,g.w.cell? ⟨w.heap.size+1,0,none⟩=some (.slice aC d.classes.length cC):=fun g=>(HCL.out g.w (HG g)).1
   have y1:∀g:Gr wr.heap.size wr,g.w.cell? ⟨w.heap.size+1,1,none⟩=some (.slice aS d.supers.length cS):=fun g=>(HCL.out g.w (HG g)).2.1
   have y2:∀g:Gr wr.heap.size wr,g.w.cell? ⟨w.heap.size+1,2,none⟩=some (.slice aF d.fields.length cF):=fun g=>(HCL.out g.w (HG g)).2.2.1
   have y3:∀g:Gr wr.heap.size wr,g.w.cell? ⟨w.heap.size+1,3,none⟩=some (.slice aN d.names.length cN):=fun g=>(HCL.out g.w (HG g)).2.2.2.1
   have y4:∀g:Gr wr.heap.size wr,g.w.cell? ⟨w.heap.size+1,4,none⟩=some (.slice aT d.targets.length cT):=fun g=>(HCL.out g.w (HG g)).2.2.2.2.1
   have lb:∀g:Gr wr.heap.size wr,w.heap.size<g.w.heap.size:=fun g=>(HCW.out g.w (HG g)).2.2.2.1
   have lb1:∀g:Gr wr.heap.size wr,w.heap.size+1<g.w.heap.size:=fun g=>(HCL.out g.w (HG g)).2.2.2.2.2
   have lb2:∀g:Gr wr.heap.size wr,bW<g.w.heap.size:=fun g=>(HCW.out g.w (HG g)).2.2.2.2
   have HCR:Hid (∀g:Gr wr.heap.size wr,Calls Tryz.prog 31 #[.agg #[.slice aC d.classes.length cC,.slice aS d.supers.length cS,.slice aF d.fields.length cF,.slice aN d.names.length cN,.slice aT d.targets.length cT],.int .i64 t.tag,.int .i64 (n:Int)] g.w fun e w''=>e=.returned (.bool (refI d.fields t n))/\∃g':Gr wr.heap.size wr,w''=g'.w):=fun g=>Gr.calls g (Nat.le_refl _) (HWR.out g.w n (HG g) hlt)
   have HIO:=mk0 HI.out
   clear HI HG
   cases hr:refI d.fields t n with
   | false=>
     rw [hr]at HST HCR
     go_wp2_with fail
     refine zev wr.heap.size wr (by kernel_rfl) (by kernel_rfl) (Below.refl _ _) ?_
     repeat (go_big_quiet_step (first | (go_at_call 31;exact HCR.out _)))
     refine wpQuiet_nil ?_
     intro _ hw'
     obtain ⟨g,rfl⟩:=hw'
     have HF:Hid (g.w.ownsRow W0.heap.size 3 1 u7 (refsN d.fields t (n+1)).length (intV (refsN d.fields t (n+1)))/\Below W0.heap.size W0 g.w):=by
      rw [HST.out]
      simp only [Bool.false_eq_true,if_false,List.append_nil]
      exact ⟨zhj HIO.out.1 g.ok,HIO.out.2.trans (g.ok.mono hsr)⟩
     generalize g.w=w2 at*
     clear c0 c1 y0 y1 y2 y3 y4 lb lb1 lb2 hne HCR HIO HST k0 k1 k2
     go_wp2_with fail
     go_roundw
     case rel=>exact ⟨n+1,by simp,by omega,HF.out⟩
     case measure=>simp [intOf];omega
   | true=>
     rw [hr]at HST HCR
     go_wp2_with fail
     refine zev wr.heap.size wr (by kernel_rfl) (by kernel_rfl) (Below.refl _ _) ?_
     repeat (go_big_quiet_step (first | (go_at_call 31;exact HCR.out _)))
     refine wpQuiet_nil ?_
     intro _ hw'
     obtain ⟨g,rfl⟩:=hw'
     have hown2:=zhj HIO.out.1 g.ok
     have hB2:Below W0.heap.size W0 g.w:=HIO.out.2.trans (g.ok.mono hsr)
     generalize g.w=w2 at*
     clear c0 c1 y0 y1 y2 y3 y4 lb lb1 lb2 hne HCR HIO k0 k1 k2
     have hnl:=zhr d.fields t n
     generalize hrn:refsN d.fields t n=acc at*
     obtain ⟨a5,c5,rfl⟩:=zfz hown2
     have HOW:=mk0 hown2
     have HB2:=mk0 hB2
     have w4:IntKind.i64.wrap ((loc:Int)+3+(n:Int))=(loc:Int)+3+(n:Int):=ws0 _ (by omega) (by omega)
     generalize hlx:(loc:Int)+3+(n:Int)=lx at*
     have HBB:Hid (acc.length+1<=maxLen/\(acc.length+1)*8<=140737488355328/\W0.heap.size<=(w2.alloc (.cells #[.int .i64 lx] 3)).heap.size):=⟨by unfold maxLen;omega,by omega,by have:=hB2.size;simp;omega⟩
     have HLX:Hid (t.loc+3+(n:Int)=lx):=by rw [HTL.out];exact hlx
     clear hown2 hB2 hrn
     go_wp2_with (at_builtin;refine wpList_append_lies _ rfl _ _ 22 rfl W0.heap.size 3 iI (.int .i64 0) 1 8 Tryz.underlying22 hiI hzI0 hzI1 hzI2 rfl (by decide) (.slice a5 acc.length c5) acc.length (intV acc) rfl (HOW.out.alloc _) ⟨w2.heap.size,0,none⟩ 1 1 [.int .i64 lx] rfl rfl (World.news_of_block (heap_alloc_new w2 _)) (by intro u hu;simp at hu;subst hu;rfl) (by omega) HBB.out.1 HBB.out.2.1 HBB.out.2.2 _ rfl ?_)
     intro gA cA w3 hown3 hgr3 _ hlt3
     have hrb:∀k,(Value.slice a5 acc.length c5).ownBlock=some k->W0.heap.size<=k:=fun k e=>(HOW.out.lt k e).1
     have hB3:Below W0.heap.size W0 w3:=(HB2.out.alloc HB2.out.size _).grown hgr3 (by have:=HB2.out.size;simp;omega) (fun k e=>hrb k e)
     have HF:Hid (w3.ownsRow W0.heap.size 3 1 (.slice (some ⟨gA,0,none⟩) (acc.length+1) cA) (refsN d.fields t (n+1)).length (intV (refsN d.fields t (n+1)))/\Below W0.heap.size W0 w3):=by
      rw [HST.out,HLX.out,if_pos trivial,List.length_append,zhs]
      exact ⟨hown3,hB3⟩
     clear hown3 hgr3 hB3 hrb
     go_wp2_with fail
     go_roundw
     case rel=>exact ⟨n+1,by simp,by omega,HF.out⟩
     case measure=>simp [intOf];omega
  have hne:tl.toNat=n:=by omega
  have HF:Hid (Below w.heap.size w wr/\wr.ownsRow w.heap.size 3 1 u7 (refsOf d.fields t).length (intV (refsOf d.fields t))):=by
   rw [HRN.out,hne]
   exact ⟨HB0.out.trans (HI.out.2.mono (by have:=HS0.out;omega)),zhp HI.out.1 (by have:=HS0.out;omega)⟩
  go_wp2_with fail
  go_ret
  exact ⟨HF.out.1,_,rfl,HF.out.2⟩
def BothOut (w:World) (h:HeapD) (d:LinkD) (r:Ending) (w':World):Prop:=
 (∃ys os vy vo,walkT d.classes.length d.fields h.words 1 h.ytop=some ys/\walkT d.classes.length d.fields h.words (h.young+1) h.otop=some os/\r=.returned (.tuple #[vy,vo,.bool true])/\w'.ownsRow w.heap.size 3 1 vy (ys.map ThD.loc).length (intV (ys.map ThD.loc))/\w'.ownsRow w.heap.size 3 1 vo (os.map ThD.loc).length (intV (os.map ThD.loc)))\/
  (bothT d h=none/\∃a n c a' n' c',r=.returned (.tuple #[.slice a n c,.slice a' n' c',.bool false]))
theorem zk0 (w:World) (B:Nat) (vW vO kC kS kF kN kT:Value) (h:HeapD) (d:LinkD) (sW:SL 1 RI (· <B) w vW h.words) (sO:SL 1 RI (· <B) w vO h.noted) (lk:RLk (· <B) w kC kS kF kN kT d) (hB:B<=w.heap.size) (hz:Sized d h) (hfs:∀f∈d.fields,f.length<=500):
 Calls Tryz.prog 73 #[.agg #[vW,.int .i64 h.young,.int .i64 h.old,.int .i64 h.ytop,.int .i64 h.otop,vO,.int .i64 h.next],.agg #[kC,kS,kF,kN,kT]] w fun r w'=>Below w.heap.size w w'/\BothOut w h d r w':=by
 obtain ⟨W0,hW0⟩:∃W0,W0=(w.alloc (.cells #[vW,.int .i64 h.young,.int .i64 h.old,.int .i64 h.ytop,.int .i64 h.otop,vO,.int .i64 h.next] 24)).alloc (.cells #[kC,kS,kF,kN,kT] 36):=⟨_,rfl⟩
 have hrd:Rd w.heap.size B W0 vW vO kC kS kF kN kT h d:=hW0 ▸ Rd.new w B _ _ _ _ _ _ _ h d hB sW sO lk
 have hB0:Below w.heap.size w W0:=hW0 ▸ ((Below.refl _ _).alloc (Nat.le_refl _) _).alloc (by simp) _
 have hs0:W0.heap.size=w.heap.size+2:=by rw [hW0];simp
 have z1:=hz.young
 have z2:=hz.old
 have z3:=hz.len
 have z4:=hz.ytop
 have z5:=hz.otop
 obtain ⟨yn,hyn⟩:∃yn:Nat,h.young+1=yn:=⟨(h.young+1).toNat,by omega⟩
 have hwr:IntKind.i64.wrap (h.young+1)=(yn:Int):=(ws0 _ (by omega) (by omega)).trans hyn
 have HY:Hid (h.young+1=yn):=hyn
 have HT1:=mk0 (zky W0 B _ _ _ _ _ _ _ h d hrd.sW hrd.sO hrd.lk (by omega) 1 h.ytop (by omega) (by omega) (by omega) hz.fl hfs hz.cn)
 have HT2:Hid (∀V,Below W0.heap.size W0 V->Calls Tryz.prog 129 #[.agg #[vW,.int .i64 h.young,.int .i64 h.old,.int .i64 h.ytop,.int .i64 h.otop,vO,.int .i64 h.next],.agg #[kC,kS,kF,kN,kT],.int .i64 (yn:Int),.int .i64 h.otop] V fun r w'=>Below V.heap.size V w'/\FromOut V (walkT d.classes.length d.fields h.words yn h.otop) r w'):=fun V hV=>by
  have hr:=hrd.below hV
  exact zky V B _ _ _ _ _ _ _ h d hr.sW hr.sO hr.lk (by have:=hr.le;have:=lt0 hr.b0;omega) yn h.otop (by omega) (by omega) (by omega) hz.fl hfs hz.cn
 have HRD:=mk0 hrd
 have HB0:=mk0 hB0
 have HE0:=mk0 hW0
 have HS0:=mk0 hs0
 obtain ⟨aC,cC,aS,cS,aF,cF,aN,cN,aT,cT,rfl,rfl,rfl,rfl,rfl⟩:=lk.agg
 obtain ⟨aW,cW,rfl,-⟩:=sW
 obtain ⟨aO,cO,rfl,-⟩:=sO
 have HNO1:Hid (walkT d.classes.length d.fields h.words 1 h.ytop=none->bothT d h=none):=fun e=>by unfold bothT;rw [e]
 have HNO2:Hid (walkT d.classes.length d.fields h.words yn h.otop=none->bothT d h=none):=fun e=>by
  unfold bothT
  rw [HY.out,e]
  cases walkT d.classes.length d.fields h.words 1 h.ytop<;>rfl
 rw [HE0.out]at HT1
 clear hrd hB0 hW0 hs0 lk z1 z2 z3 z4 z5 hz hyn
 go_enter Tryz.func73,Tryz.ntmps73
 go_wp2_with fail
 refine HT1.out.mono ?_
 rw [<-HE0.out]
 rintro r w1 ⟨hb1,ho1⟩
 have hr1:=HRD.out.below hb1
 have l0:=lt0 hr1.b0
 have l1:=lt0 hr1.b1
 have x0:=cl0 hr1.b0 0 (x:=.slice aW h.words.length cW) rfl
 have x1:=cl0 hr1.b0 1 (x:=.int .i64 h.young) rfl
 have x2:=cl0 hr1.b0 2 (x:=.int .i64 h.old) rfl
 have x3:=cl0 hr1.b0 3 (x:=.int .i64 h.ytop) rfl
 have x4:=cl0 hr1.b0 4 (x:=.int .i64 h.otop) rfl
 have x5:=cl0 hr1.b0 5 (x:=.slice aO h.noted.length cO) rfl
 have x6:=cl0 hr1.b0 6 (x:=.int .i64 h.next) rfl
 have y0:=cl0 hr1.b1 0 (x:=.slice aC d.classes.length cC) rfl
 have y1:=cl0 hr1.b1 1 (x:=.slice aS d.supers.length cS) rfl
 have y2:=cl0 hr1.b1 2 (x:=.slice aF d.fields.length cF) rfl
 have y3:=cl0 hr1.b1 3 (x:=.slice aN d.names.length cN) rfl
 have y4:=cl0 hr1.b1 4 (x:=.slice aT d.targets.length cT) rfl
 have HT3:=mk0 (HT2.out w1 hb1)
 have HB1:=mk0 hb1
 have hs1:=hb1.size
 have HBF:Hid (∀V,Below w1.heap.size w1 V->Below w.heap.size w V):=fun V hV=>HB0.out.trans ((HB1.out.trans (hV.mono HB1.out.size)).mono HB0.out.size)
 clear hr1 hb1 HT2 HT1
 rcases ho1 with ⟨ys,vy,hy,rfl,hoy⟩ | ⟨hy,a,n,c,rfl⟩
 ·
  obtain ⟨ay,cy,rfl⟩:=zfz hoy
  have HYY:=mk0 hy
  obtain ⟨yl,hyl⟩:∃yl,ys.map ThD.loc=yl:=⟨_,rfl⟩
  rw [hyl]at hoy ⊢
  have HYL:=mk0 hyl
  have HOY:=mk0 hoy
  clear hy hoy hyl
  go_wp2_with fail
  refine HT3.out.mono ?_
  rintro r w2 ⟨hb2,ho2⟩
  have HB2:=mk0 (HBF.out w2 hb2)
  have HOY2:=mk0 (zhj HOY.out hb2)
  clear hb2 x0 x1 x2 x3 x4 x5 x6 y0 y1 y2 y3 y4
  rcases ho2 with ⟨os,vo,hy,rfl,hoo⟩ | ⟨hy,a,n,c,rfl⟩
  ·
   obtain ⟨ao,co,rfl⟩:=zfz hoo
   have HYO:=mk0 hy
   obtain ⟨ol,hol⟩:∃ol,os.map ThD.loc=ol:=⟨_,rfl⟩
   rw [hol]at hoo ⊢
   have HOL:=mk0 hol
   have HOO:=mk0 hoo
   clear hy hoo hol
   go_wp2_with fail
   go_ret3
   exact ⟨HB2.out,Or.inl ⟨ys,os,_,_,HYY.out,by rw [HY.out];exact HYO.out,rfl,by rw [HYL.out];exact zhp HOY2.out (by have:=HS0.out;omega),by rw [HOL.out];exact zhp HOO.out (by have:=HS0.out;omega)⟩⟩
  have HYO:=mk0 (HNO2.out hy)
  clear hy
  go_wp2_with fail
  go_ret3
  exact ⟨HB2.out,Or.inr ⟨HYO.out,_,_,_,_,_,_,rfl⟩⟩
 have HYO:=mk0 (HNO1.out hy)
 clear hy
 go_wp2_with fail
 refine HT3.out.mono ?_
 rintro r w2 ⟨hb2,ho2⟩
 have HB2:=mk0 (HBF.out w2 hb2)
 clear hb2 x0 x1 x2 x3 x4 x5 x6 y0 y1 y2 y3 y4
 rcases ho2 with ⟨os,vo,hy,rfl,hoo⟩ | ⟨hy,a,n,c,rfl⟩
 ·
  obtain ⟨ao,co,rfl⟩:=zfz hoo
  clear hy hoo
  go_wp2_with fail
  go_ret3
  exact ⟨HB2.out,Or.inr ⟨HYO.out,_,_,_,_,_,_,rfl⟩⟩
 clear hy
 go_wp2_with fail
 go_ret3
 exact ⟨HB2.out,Or.inr ⟨HYO.out,_,_,_,_,_,_,rfl⟩⟩
end Go.Proofs.YtjdnmblggdobgaaGreat
