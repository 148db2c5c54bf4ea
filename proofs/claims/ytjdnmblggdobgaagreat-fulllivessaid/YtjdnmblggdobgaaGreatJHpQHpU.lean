import Derived.Test.YtjdnmblggdobgaaGreatJTk2Dies
import Derived.Test.YtjdnmblggdobgaaGreatJHpCHpH
import Derived.BigQuiet
import Derived.Laws.EntriesVeiled
set_option maxHeartbeats 4000000
set_option maxRecDepth 100000
namespace Go.Proofs.YtjdnmblggdobgaaGreat
open Go.RowKit Go.Maps
theorem Cht.len {X B:Nat} {w:World} {vW vO kC kS kF kN kT vA:Value} {h:HeapD} {d:LinkD} {ts:List ThD} (c:Cht X B w vW vO kC kS kF kN kT vA h d ts):∃a q,vA=.slice a ts.length q:=zfz c.row
theorem Cht.all {X B:Nat} {w:World} {vW vO kC kS kF kN kT vA:Value} {h:HeapD} {d:LinkD} {ts:List ThD} (c:Cht X B w vW vO kC kS kF kN kT vA h d ts) (hl:ts.length<=1000000):SL 4 RTh (· <w.heap.size) w vA ts:=
 (zhw c.row hl).mono (fun b hb=>by obtain ⟨_,cur,_,_,hb,_⟩:=hb;exact lt0 hb) (fun _ _ h=>h)
def badHash (h:HeapD) (x:ThD):Bool:=decide (x.hash<1)||decide (h.next<=x.hash)
theorem zh4 (W:World) (X B:Nat) (vW vO kC kS kF kN kT vA:Value) (h:HeapD) (d:LinkD) (ts:List ThD) (hc:Cht X B W vW vO kC kS kF kN kT vA h d ts) (P:Nat) (hP:W.cell? ⟨P,0,none⟩=some (.pointer (some ⟨X+1,0,none⟩))) (x:ThD):
 Calls Tryz.prog 169 #[.agg #[.int .i64 x.loc,.int .i64 x.tag,.int .i64 x.len,.int .i64 x.hash],.pointer (some ⟨P,0,none⟩)] W fun r W'=>r=.returned (.bool (badHash h x))/\Below W.heap.size W W':=by
 have HB:Hid (Below W.heap.size W (W.alloc (.cells #[.int .i64 x.loc,.int .i64 x.tag,.int .i64 x.len,.int .i64 x.hash] 101))):=(Below.refl _ _).alloc (Nat.le_refl _) _
 have hPl:P<W.heap.size:=World.block_lt_of_cell? W _ hP
 have gl:=lt0 hc.blk
 have c6:(W.alloc (.cells #[.int .i64 x.loc,.int .i64 x.tag,.int .i64 x.len,.int .i64 x.hash] 101)).cell? ⟨X+1,6,none⟩=some (.int .i64 h.next):=(HB.out.cell (p:=⟨X+1,6,none⟩) gl).trans (cl0 hc.blk 6 rfl)
 have p0:(W.alloc (.cells #[.int .i64 x.loc,.int .i64 x.tag,.int .i64 x.len,.int .i64 x.hash] 101)).cell? ⟨P,0,none⟩=some (.pointer (some ⟨X+1,0,none⟩)):=(HB.out.cell (p:=⟨P,0,none⟩) hPl).trans hP
 have HN:Hid (badHash h x=(decide (x.hash<1)||decide (h.next<=x.hash))):=rfl
 clear hc hP
 generalize h.next=nx at*
 by_cases h1:x.hash<1
 ·
  have hd:decide (x.hash<1)=true:=by simp [h1]
  rw [HN.out,hd]
  clear HN
  go_enter Tryz.func169,Tryz.ntmps169
  go_wp2_with fail
  go_quiet (fail)
  go_wp2_with fail
  go_ret
  exact ⟨rfl,zdq HB.out _⟩
 have hd:decide (x.hash<1)=false:=by simp [h1]
 rw [HN.out,hd]
 clear HN
 go_enter Tryz.func169,Tryz.ntmps169
 go_wp2_with fail
 go_quiet (fail)
 go_wp2_with fail
 go_ret
 exact ⟨by simp,zdq HB.out _⟩
theorem zh5 (w:World) (X B:Nat) (vW vO kC kS kF kN kT vA:Value) (h:HeapD) (d:LinkD) (ts:List ThD) (hc:Cht X B w vW vO kC kS kF kN kT vA h d ts) (hl:ts.length<=1000000):
 Calls Tryz.prog 110 #[.agg #[.pointer (some ⟨X+1,0,none⟩)]] w fun r w'=>r=.returned (.bool (!ts.any (badHash h)))/\Below w.heap.size w w':=by
 have hmf:=mkf Tryz.prog
 have hB0:Below w.heap.size w (w.alloc (.cells #[.pointer (some ⟨X+1,0,none⟩)] 88)):=(Below.refl _ _).alloc (Nat.le_refl _) _
 have hc1:=hc.below hB0
 have hp:(w.alloc (.cells #[.pointer (some ⟨X+1,0,none⟩)] 88)).cell? ⟨w.heap.size,0,none⟩=some (.pointer (some ⟨X+1,0,none⟩)):=by simp [go_sem]
 have HCC:Hid (Calls Tryz.prog 168 #[vA,.func (.func 169) #[] #[.pointer (some ⟨w.heap.size,0,none⟩)]] (w.alloc (.cells #[.pointer (some ⟨X+1,0,none⟩)] 88)) fun r w'=>r=.returned (.bool (ts.any (badHash h)))/\Below (w.alloc (.cells #[.pointer (some ⟨X+1,0,none⟩)] 88)).heap.size (w.alloc (.cells #[.pointer (some ⟨X+1,0,none⟩)] 88)) w'):=by
  refine zh0 _ _ vA ts (hc1.all hl) (Nat.le_refl _) 169 #[] _ (badHash h) (fun args w=>by kernel_rfl) ?_
  intro x hx W hW
  exact zh4 W X B _ _ _ _ _ _ _ vA h d ts (hc1.below hW) w.heap.size ((hW.cell (p:=⟨w.heap.size,0,none⟩) (by simp)).trans hp) x
 have gl:=lt0 hc1.blk
 have m12:=cl0 hc1.blk 12 (x:=vA) rfl
 have HB0:=mk0 hB0
 obtain ⟨a,q,rfl⟩:=hc.len
 clear hc hc1 hB0
 generalize ts.any (badHash h)=b at*
 go_enter Tryz.func110,Tryz.ntmps110
 go_wp2_with fail
 refine HCC.out.mono ?_
 rintro r w1 ⟨rfl,hb1⟩
 have HB1:Hid (Below w.heap.size w w1):=HB0.out.trans (hb1.mono HB0.out.size)
 clear hb1 HCC
 go_wp2_with fail
 go_ret
 exact ⟨rfl,HB1.out⟩
theorem zh6 (W:World) (X B:Nat) (vW vO kC kS kF kN kT vA:Value) (h:HeapD) (d:LinkD) (ts:List ThD) (hc:Cht X B W vW vO kC kS kF kN kT vA h d ts) (P:Nat) (hP:W.cell? ⟨P,0,none⟩=some (.pointer (some ⟨X+1,0,none⟩))) (n:Int) (hn:(Lit.int .i64 n).wf=true):
 Calls Tryz.prog 170 #[.int .i64 n,.pointer (some ⟨P,0,none⟩)] W fun r W'=>r=.returned (.bool (!leadB ts n))/\Below W.heap.size W W':=by
 have HC:=mk0 (zhv W X B _ _ _ _ _ _ _ vA h d ts hc n hn)
 have hPl:P<W.heap.size:=World.block_lt_of_cell? W _ hP
 clear hc hn
 generalize leadB ts n=b at*
 go_enter Tryz.func170,Tryz.ntmps170
 go_wp2_with fail
 refine HC.out.mono ?_
 rintro r w1 ⟨rfl,hb1⟩
 clear HC
 go_wp2_with fail
 go_ret
 exact ⟨rfl,hb1⟩
structure Lain (d:LinkD) (h:HeapD) (ts:List ThD):Prop where
 len:ts.length<=1000000
 words:h.words.length<=100000
 wf:∀x∈h.words,(Lit.int .i64 x).wf=true
 fit:∀t∈ts,FitT d t/\0<=t.loc/\t.fin<=h.words.length
theorem Lain.wdf {d:LinkD} {h:HeapD} {ts:List ThD} (l:Lain d h ts) (a:Int):(Lit.int .i64 (wd h.words a)).wf=true:=by
 unfold wd
 cases hx:h.words[a.toNat]? with
 | none=>decide
 | some x=>exact l.wf x (List.mem_of_getElem? hx)
theorem zh7 (W:World) (X B:Nat) (vW vO kC kS kF kN kT vA:Value) (h:HeapD) (d:LinkD) (ts:List ThD) (hc:Cht X B W vW vO kC kS kF kN kT vA h d ts) (hl:Lain d h ts) (P Q:Nat) (hP:W.cell? ⟨P,0,none⟩=some (.pointer (some ⟨X+1,0,none⟩))) (hQ:W.cell? ⟨Q,0,none⟩=some (.func (.func 170) #[] #[.pointer (some ⟨P,0,none⟩)])) (x:ThD) (hx:x∈ts):
 Calls Tryz.prog 171 #[.agg #[.int .i64 x.loc,.int .i64 x.tag,.int .i64 x.len,.int .i64 x.hash],.pointer (some ⟨P,0,none⟩),.pointer (some ⟨Q,0,none⟩)] W fun r W'=>r=.returned (.bool (hasRefB d.fields h.words x fun n=>!leadB ts n))/\Below W.heap.size W W':=by
 obtain ⟨W0,hW⟩:∃W0,W0=W.alloc (.cells #[.int .i64 x.loc,.int .i64 x.tag,.int .i64 x.len,.int .i64 x.hash] 101):=⟨_,rfl⟩
 have hB0:Below W.heap.size W W0:=hW ▸ (Below.refl _ _).alloc (Nat.le_refl _) _
 have hPl:P<W.heap.size:=World.block_lt_of_cell? W _ hP
 have hQl:Q<W.heap.size:=World.block_lt_of_cell? W _ hQ
 have gl:=lt0 hc.blk
 have hbx:W0.heap[W.heap.size]? =some (.cells #[.int .i64 x.loc,.int .i64 x.tag,.int .i64 x.len,.int .i64 x.hash] 101 (0,0)):=hW ▸ heap_alloc_new W _
 have p0:W0.cell? ⟨P,0,none⟩=some (.pointer (some ⟨X+1,0,none⟩)):=(hB0.cell (p:=⟨P,0,none⟩) hPl).trans hP
 have q0:W0.cell? ⟨Q,0,none⟩=some (.func (.func 170) #[] #[.pointer (some ⟨P,0,none⟩)]):=(hB0.cell (p:=⟨Q,0,none⟩) hQl).trans hQ
 have s0:=cl0 hbx 0 (x:=.int .i64 x.loc) rfl
 have s1:=cl0 hbx 1 (x:=.int .i64 x.tag) rfl
 have s2:=cl0 hbx 2 (x:=.int .i64 x.len) rfl
 have s3:=cl0 hbx 3 (x:=.int .i64 x.hash) rfl
 have ls:=lt0 hbx
 obtain ⟨hf,h1,h2⟩:=hl.fit x hx
 have HC:Hid (∀V,Below W0.heap.size W0 V->Calls Tryz.prog 172 #[.pointer (some ⟨X+1,0,none⟩),.agg #[.int .i64 x.loc,.int .i64 x.tag,.int .i64 x.len,.int .i64 x.hash],.func (.func 170) #[] #[.pointer (some ⟨P,0,none⟩)]] V fun r w'=>r=.returned (.bool (hasRefB d.fields h.words x fun n=>!leadB ts n))/\Below V.heap.size V w'):=by
  intro V hV
  have hcV:=(hc.below hB0).below hV
  refine zh3 V B (X+1) _ _ _ _ _ _ _ h d hcV.gd x hf h1 h2 hl.words 170 #[] _ (fun n=>!leadB ts n) (fun args w=>by kernel_rfl) ?_
  intro a ha V2 hV2
  exact zh6 V2 X B _ _ _ _ _ _ _ vA h d ts (hcV.below hV2) P ((hV2.cell (p:=⟨P,0,none⟩) (by show P<_;have:=hB0.size;have:=hV.size;omega)).trans ((hV.cell (p:=⟨P,0,none⟩) (by show P<_;have:=hB0.size;omega)).trans p0)) _ (hl.wdf a)
 have HB0:=mk0 hB0
 have HW:=mk0 hW
 have hpl0:P<W0.heap.size:=by have:=hB0.size;omega
 have hql0:Q<W0.heap.size:=by have:=hB0.size;omega
 clear hc hl hP hQ hB0 hW hbx hf h1 h2 hx
 generalize hasRefB d.fields h.words x (fun n=>!leadB ts n)=b at*
 go_enter Tryz.func171,Tryz.ntmps171
 go_wp2_with fail
 rw [<-HW.out]
 go_region_held3 (fun W'=>∀p:Addr,p.block<W0.heap.size->W'.cell? p=W0.cell? p) (exact fun p hp=>Below.cell (B:=W0.heap.size) (w:=W0) (by repeat (first | assumption | exact Below.refl _ _ | refine Below.drew ?_)) hp) (first | (refine (HC.out _ ?_).mono ?_;(exact (Below.refl _ _).drew);rintro r w2 ⟨rfl,hb2⟩;have hb3:Below W0.heap.size W0 w2:=(Below.refl W0.heap.size W0).drew.trans hb2;clear hb2))
 all_goals
  rename_i hS1
  clear hS1
  go_wp2_with fail
  go_ret
  exact ⟨rfl,HB0.out.trans (hb3.mono HB0.out.size)⟩
theorem zh8 (w:World) (X B:Nat) (vW vO kC kS kF kN kT vA:Value) (h:HeapD) (d:LinkD) (ts:List ThD) (hc:Cht X B w vW vO kC kS kF kN kT vA h d ts) (hl:Lain d h ts):
 Calls Tryz.prog 112 #[.agg #[.pointer (some ⟨X+1,0,none⟩)]] w fun r w'=>r=.returned (.bool (!ts.any fun x=>hasRefB d.fields h.words x fun n=>!leadB ts n))/\Below w.heap.size w w':=by
 have hmf:=mkf Tryz.prog
 obtain ⟨W0,hW⟩:∃W0,W0=(w.alloc (.cells #[.pointer (some ⟨X+1,0,none⟩)] 88)).alloc (.cells #[.func (.func 170) #[] #[.pointer (some ⟨w.heap.size,0,none⟩)]] 79):=⟨_,rfl⟩
 have hsz:W0.heap.size=w.heap.size+2:=by rw [hW];simp
 have hB0:Below w.heap.size w W0:=hW ▸ ((Below.refl _ _).alloc (Nat.le_refl _) _).alloc (by simp) _
 have hc1:=hc.below hB0
 have hp:W0.cell? ⟨w.heap.size,0,none⟩=some (.pointer (some ⟨X+1,0,none⟩)):=by rw [hW];simp [go_sem]
 have hq:W0.cell? ⟨w.heap.size+1,0,none⟩=some (.func (.func 170) #[] #[.pointer (some ⟨w.heap.size,0,none⟩)]):=by rw [hW];simp [go_sem]
 have HCC:Hid (Calls Tryz.prog 168 #[vA,.func (.func 171) #[] #[.pointer (some ⟨w.heap.size,0,none⟩),.pointer (some ⟨w.heap.size+1,0,none⟩)]] W0 fun r w'=>r=.returned (.bool (ts.any fun x=>hasRefB d.fields h.words x fun n=>!leadB ts n))/\Below W0.heap.size W0 w'):=by
  refine zh0 _ _ vA ts (hc1.all hl.len) (Nat.le_refl _) 171 #[] _ (fun x=>hasRefB d.fields h.words x fun n=>!leadB ts n) (fun args w=>by kernel_rfl) ?_
  intro x hx V hV
  exact zh7 V X B _ _ _ _ _ _ _ vA h d ts (hc1.below hV) hl w.heap.size (w.heap.size+1) ((hV.cell (p:=⟨w.heap.size,0,none⟩) (by show w.heap.size<_;omega)).trans hp) ((hV.cell (p:=⟨w.heap.size+1,0,none⟩) (by show w.heap.size+1<_;omega)).trans hq) x hx
 have gl:=lt0 hc1.blk
 have m12:=cl0 hc1.blk 12 (x:=vA) rfl
 have HB0:=mk0 hB0
 obtain ⟨a,q,rfl⟩:=hc.len
 rw [hW]at HCC m12 gl
 clear hc hc1 hB0 hp hq hl
 generalize (ts.any fun x=>hasRefB d.fields h.words x fun n=>!leadB ts n)=b at*
 go_enter Tryz.func112,Tryz.ntmps112
 go_wp2_with fail
 refine HCC.out.mono ?_
 rintro r w1 ⟨rfl,hb1⟩
 rw [<-hW]at hb1
 have HB1:Hid (Below w.heap.size w w1):=HB0.out.trans (hb1.mono HB0.out.size)
 clear hb1 HCC
 go_wp2_with fail
 go_ret
 exact ⟨rfl,HB1.out⟩
def riseTo (l:List Int) (k:Nat):Prop:=∀j,0<j->j<k->wd l ((j:Int) - 1)<wd l j
theorem zh9 {l:List Int} {k:Nat} (h:riseTo l k) (hk:0<k->wd l ((k:Int) - 1)<wd l k):riseTo l (k+1):=fun j h0 hj=>by
 by_cases e:j=k
 ·
  subst e
  exact hk h0
 exact h j h0 (by omega)
theorem zia (w:World) (X B:Nat) (vW vO kC kS kF kN kT vA:Value) (h:HeapD) (d:LinkD) (ts:List ThD) (hc:Cht X B w vW vO kC kS kF kN kT vA h d ts):
 Calls Tryz.prog 114 #[.agg #[.pointer (some ⟨X+1,0,none⟩)]] w fun r w'=>(∃b,r=.returned (.bool b)/\(b=true↔riseTo h.noted h.noted.length))/\Below w.heap.size w w':=by
 have hB0:Below w.heap.size w (w.alloc (.cells #[.pointer (some ⟨X+1,0,none⟩)] 88)):=(Below.refl _ _).alloc (Nat.le_refl _) _
 have hc1:=hc.below hB0
 have hp:(w.alloc (.cells #[.pointer (some ⟨X+1,0,none⟩)] 88)).cell? ⟨w.heap.size,0,none⟩=some (.pointer (some ⟨X+1,0,none⟩)):=by simp [go_sem]
 have gl:=lt0 hc1.blk
 have HS:=mk0 hc1.sO
 have m5:=cl0 hc1.blk 5 (x:=vO) rfl
 obtain ⟨ao,ca,rfl,-,hmx,-⟩:=hc.sO
 unfold maxLen at hmx
 have HB0:=mk0 hB0
 clear hc hc1 hB0
 go_enter Tryz.func114,Tryz.ntmps114
 go_wp2_with fail
 go_loopw [13] (fun i wr=>∃k:Nat,k<=h.noted.length/\i=.int .i64 k/\wr=w.alloc (.cells #[.pointer (some ⟨X+1,0,none⟩)] 88)/\Hid (riseTo h.noted k)) (fun i _=>h.noted.length - (intOf i).toNat)
 case atStart=>exact ⟨0,Nat.zero_le _,rfl,rfl,fun j _ hj=>by omega⟩
 case round=>
  obtain ⟨k,hk,rfl,rfl,HR⟩:=hrel
  by_cases hlt:k<h.noted.length
  ·
   obtain ⟨bW,oW,rfl,hbW,eW⟩:=HS.out.atI k hlt
   have q1:(0:Int)<=k:=by omega
   have q2:(k:Int)<h.noted.length:=by omega
   have HWK:Hid (h.noted[k]=wd h.noted k):=(zen hlt).symm
   by_cases hk0:0<(k:Int)
   ·
    obtain ⟨j,hj⟩:∃j:Nat,(k:Int) - 1=j:=⟨k - 1,by omega⟩
    have hjl:j<h.noted.length:=by omega
    obtain ⟨bV,oV,e,hbV,eV⟩:=HS.out.atI j hjl
    obtain ⟨rfl,rfl⟩:bV=bW/\oV=oW:=by injection e with e;injection e with e1 e2;exact ⟨e1.symm,e2.symm⟩
    have HWJ:Hid (h.noted[j]=wd h.noted ((k:Int) - 1)):=by
     show _=_
     rw [hj]
     exact (zen hjl).symm
    have hwr:IntKind.i64.wrap ((k:Int) - 1)=(j:Int):=by rw [hj];exact ws0 _ (by omega) (by omega)
    have q3:(0:Int)<=j:=by omega
    have q4:(j:Int)<h.noted.length:=by omega
    have HJ:=mk0 hj
    by_cases hle:h.noted[k]<=h.noted[j]
    ·
     have HF:Hid (¬riseTo h.noted h.noted.length):=fun hh=>by
      have:=hh k (by omega) hlt
      rw [<-HWK.out,<-HWJ.out]at this
      omega
     generalize h.noted[k]=x at*
     generalize h.noted[j]=y at*
     clear hj e
     go_wp2_with fail
     go_ret
     exact ⟨⟨false,rfl,by simp;exact HF.out⟩,HB0.out⟩
    have HX:=mk0 (zh9 HR.out (fun _=>by rw [<-HWK.out,<-HWJ.out];omega))
    generalize h.noted[k]=x at*
    generalize h.noted[j]=y at*
    clear hj e
    go_wp2_with fail
    go_roundw
    case rel=>exact ⟨k+1,by omega,by go_num,trivial,HX.out⟩
    case measure=>simp [intOf];omega
   have HX:=mk0 (zh9 HR.out (fun hh=>absurd hh (by omega)))
   generalize h.noted[k]=x at*
   go_wp2_with fail
   go_roundw
   case rel=>exact ⟨k+1,by omega,by go_num,trivial,HX.out⟩
   case measure=>simp [intOf];omega
  have hke:k=h.noted.length:=by omega
  have HF:Hid (riseTo h.noted h.noted.length):=hke ▸ HR.out
  go_wp2_with fail
  go_ret
  exact ⟨⟨true,rfl,by simp;exact HF.out⟩,HB0.out⟩
def partsB (h:HeapD):Bool:=partB h.young&&partB h.old
def wordsB (h:HeapD):Bool:=decide ((h.words.length:Int)=1+h.young+h.old)
def topsB (h:HeapD):Bool:=decide (1<=h.ytop)&&decide (h.ytop<=h.young+1)&&decide (h.young+1<=h.otop)&&decide (h.otop<=h.young+h.old+1)&&decide (1<=h.next)
theorem zib (w:World) (vW vO:Value) (h:HeapD):Calls Tryz.prog 106 #[.agg #[vW,.int .i64 h.young,.int .i64 h.old,.int .i64 h.ytop,.int .i64 h.otop,vO,.int .i64 h.next]] w fun r w'=>r=.returned (.bool (partsB h))/\Below w.heap.size w w':=by
 have HB:∀o,Hid (Below w.heap.size w (w.alloc o)):=fun o=>(Below.refl _ _).alloc (Nat.le_refl _) _
 have HY:Hid (∀W,Calls Tryz.prog 48 #[.int .i64 h.young] W fun r w'=>r=.returned (.bool (partB h.young))/\w'=W):=fun W=>zew W _
 have HO:Hid (∀W,Calls Tryz.prog 48 #[.int .i64 h.old] W fun r w'=>r=.returned (.bool (partB h.old))/\w'=W):=fun W=>zew W _
 unfold partsB
 generalize partB h.young=a at*
 generalize partB h.old=b at*
 go_enter Tryz.func106,Tryz.ntmps106
 go_wp2_with fail
 refine (HY.out _).mono ?_
 rintro r _ ⟨rfl,rfl⟩
 cases a with
 | false=>
   go_wp2_with fail
   go_ret
   exact ⟨rfl,(HB _).out⟩
 | true=>
   go_wp2_with fail
   refine (HO.out _).mono ?_
   rintro r _ ⟨rfl,rfl⟩
   go_wp2_with fail
   go_ret
   exact ⟨by simp,(HB _).out⟩
theorem zic (w:World) (aW:Option Addr) (cW:Nat) (vO:Value) (h:HeapD) (hy:3<=h.young/\h.young<=2000) (ho:3<=h.old/\h.old<=2000):Calls Tryz.prog 107 #[.agg #[.slice aW h.words.length cW,.int .i64 h.young,.int .i64 h.old,.int .i64 h.ytop,.int .i64 h.otop,vO,.int .i64 h.next]] w fun r w'=>r=.returned (.bool (wordsB h))/\Below w.heap.size w w':=by
 have HB:∀o,Hid (Below w.heap.size w (w.alloc o)):=fun o=>(Below.refl _ _).alloc (Nat.le_refl _) _
 have w1:IntKind.i64.wrap (1+h.young)=1+h.young:=ws0 _ (by omega) (by omega)
 have w2:IntKind.i64.wrap (1+h.young+h.old)=1+h.young+h.old:=ws0 _ (by omega) (by omega)
 have HR:Hid (wordsB h=((h.words.length:Int)==1+h.young+h.old)):=by
  show _=_
  unfold wordsB
  by_cases e:(h.words.length:Int)=1+h.young+h.old<;>simp [e]
 go_enter Tryz.func107,Tryz.ntmps107
 go_wp2_with fail
 go_ret
 exact ⟨by rw [HR.out];simp,(HB _).out⟩
theorem zid (w:World) (vW vO:Value) (h:HeapD) (hy:3<=h.young/\h.young<=2000) (ho:3<=h.old/\h.old<=2000):Calls Tryz.prog 108 #[.agg #[vW,.int .i64 h.young,.int .i64 h.old,.int .i64 h.ytop,.int .i64 h.otop,vO,.int .i64 h.next]] w fun r w'=>r=.returned (.bool (topsB h))/\Below w.heap.size w w':=by
 have HB:∀o,Hid (Below w.heap.size w (w.alloc o)):=fun o=>(Below.refl _ _).alloc (Nat.le_refl _) _
 have w1:IntKind.i64.wrap (h.young+1)=h.young+1:=ws0 _ (by omega) (by omega)
 have w2:IntKind.i64.wrap (h.young+h.old)=h.young+h.old:=ws0 _ (by omega) (by omega)
 have w3:IntKind.i64.wrap (h.young+h.old+1)=h.young+h.old+1:=ws0 _ (by omega) (by omega)
 have HR:Hid (topsB h=(decide (1<=h.ytop)&&decide (h.ytop<=h.young+1)&&decide (h.young+1<=h.otop)&&decide (h.otop<=h.young+h.old+1)&&decide (1<=h.next))):=rfl
 by_cases h1:1<=h.ytop
 ·
  by_cases h2:h.ytop<=h.young+1
  ·
   by_cases h3:h.young+1<=h.otop
   ·
    by_cases h4:h.otop<=h.young+h.old+1
    ·
     by_cases h5:1<=h.next
     all_goals
      have HX:=mk0 HR.out
      simp only [h1,h2,h3,h4,h5,decide_true,decide_false,Bool.and_true,Bool.and_false]at HX
      clear HR
      go_enter Tryz.func108,Tryz.ntmps108
      go_wp2_with fail
      go_ret
      exact ⟨by rw [HX.out];rfl,(HB _).out⟩
    have HX:=mk0 HR.out
    simp only [h1,h2,h3,h4,decide_true,decide_false,Bool.and_true,Bool.and_false,Bool.false_and]at HX
    clear HR
    go_enter Tryz.func108,Tryz.ntmps108
    go_wp2_with fail
    go_ret
    exact ⟨by rw [HX.out];rfl,(HB _).out⟩
   have HX:=mk0 HR.out
   simp only [h1,h2,h3,decide_true,decide_false,Bool.and_true,Bool.and_false,Bool.false_and]at HX
   clear HR
   go_enter Tryz.func108,Tryz.ntmps108
   go_wp2_with fail
   go_ret
   exact ⟨by rw [HX.out];rfl,(HB _).out⟩
  have HX:=mk0 HR.out
  simp only [h1,h2,decide_true,decide_false,Bool.and_false,Bool.false_and]at HX
  clear HR
  go_enter Tryz.func108,Tryz.ntmps108
  go_wp2_with fail
  go_ret
  exact ⟨by rw [HX.out];rfl,(HB _).out⟩
 have HX:=mk0 HR.out
 simp only [h1,decide_false,Bool.false_and]at HX
 clear HR
 go_enter Tryz.func108,Tryz.ntmps108
 go_wp2_with fail
 go_ret
 exact ⟨by rw [HX.out];rfl,(HB _).out⟩
theorem zie (ts:List ThD) {n:Int} {t:ThD} (h:plAt ts n=some t):t∈ts/\t.loc=n:=by
 have key:∀(l:List ThD) (acc:Option ThD),l.foldl (fun acc t=>if t.loc=n then some t else acc) acc=some t->acc=some t\/(t∈l/\t.loc=n):=by
  intro l
  induction l with
  | nil=>exact fun acc h=>Or.inl h
  | cons x l ih=>
    intro acc h
    rw [List.foldl_cons]at h
    rcases ih _ h with h1 | h1
    ·
     by_cases e:x.loc=n
     ·
      rw [if_pos e]at h1
      cases h1
      exact Or.inr ⟨List.mem_cons_self,e⟩
     rw [if_neg e]at h1
     exact Or.inl h1
    exact Or.inr ⟨List.mem_cons_of_mem _ h1.1,h1.2⟩
 rcases key ts none h with h | h
 ·
  cases h
 exact h
def badNote (d:LinkD) (h:HeapD) (ts:List ThD) (n:Int):Bool:=!(plAt ts n).isSome|| !decide (h.young<n)||((refsOf d.fields (atOr ts n)).length:Int)==0
theorem zif (W:World) (X B:Nat) (vW vO kC kS kF kN kT vA:Value) (h:HeapD) (d:LinkD) (ts:List ThD) (hc:Cht X B W vW vO kC kS kF kN kT vA h d ts) (hl:Lain d h ts) (P:Nat) (hP:W.cell? ⟨P,0,none⟩=some (.pointer (some ⟨X+1,0,none⟩))) (n:Int) (hn:(Lit.int .i64 n).wf=true):
 Calls Tryz.prog 176 #[.int .i64 n,.pointer (some ⟨P,0,none⟩)] W fun r W'=>r=.returned (.bool (badNote d h ts n))/\Below W.heap.size W W':=by
 have hPl:P<W.heap.size:=World.block_lt_of_cell? W _ hP
 have HAT:=mk0 (zhu W X B _ _ _ _ _ _ _ vA h d ts hc n hn)
 have HC:=mk0 hc
 have gl:=lt0 hc.blk
 have HFT:Hid ((plAt ts n).isSome=true->FitT d (atOr ts n)/\0<=(atOr ts n).loc/\(atOr ts n).fin<=h.words.length):=fun hs=>by
  obtain ⟨t,ht⟩:=Option.isSome_iff_exists.1 hs
  have e:atOr ts n=t:=by unfold atOr;rw [ht];rfl
  rw [e]
  exact hl.fit t (zie ts ht).1
 have hwl:=hl.words
 have HBN:Hid (badNote d h ts n=(!(plAt ts n).isSome|| !decide (h.young<n)||((refsOf d.fields (atOr ts n)).length:Int)==0)):=rfl
 unfold thV at HAT
 clear hc hl hn
 generalize atOr ts n=t at*
 generalize (plAt ts n).isSome=ok at*
 go_enter Tryz.func176,Tryz.ntmps176
 go_wp2_with fail
 refine HAT.out.mono ?_
 rintro r w1 ⟨rfl,hb1⟩
 have hs1:=hb1.size
 obtain ⟨W1,hW1⟩:∃W1,W1=w1.alloc (.cells #[.int .i64 t.loc,.int .i64 t.tag,.int .i64 t.len,.int .i64 t.hash] 101):=⟨_,rfl⟩
 have hA1:Below w1.heap.size w1 W1:=hW1 ▸ (Below.refl _ _).alloc (Nat.le_refl _) _
 have HB1:Hid (Below W.heap.size W W1):=hb1.trans (hA1.mono hs1)
 have h8:W1.heap[w1.heap.size]? =some (.cells #[.int .i64 t.loc,.int .i64 t.tag,.int .i64 t.len,.int .i64 t.hash] 101 (0,0)):=hW1 ▸ heap_alloc_new w1 _
 have s0:=cl0 h8 0 (x:=.int .i64 t.loc) rfl
 have s1:=cl0 h8 1 (x:=.int .i64 t.tag) rfl
 have s2:=cl0 h8 2 (x:=.int .i64 t.len) rfl
 have s3:=cl0 h8 3 (x:=.int .i64 t.hash) rfl
 have l8:=lt0 h8
 have p0:W1.cell? ⟨P,0,none⟩=some (.pointer (some ⟨X+1,0,none⟩)):=(HB1.out.cell (p:=⟨P,0,none⟩) hPl).trans hP
 have HC1:=mk0 (HC.out.below HB1.out)
 have hpl:P<W1.heap.size:=by have:=HB1.out.size;omega
 have gl1:X+1<W1.heap.size:=by have:=HB1.out.size;omega
 have HIO:Hid (∀V,Below W1.heap.size W1 V->Calls Tryz.prog 177 #[.pointer (some ⟨X+1,0,none⟩),.int .i64 n] V fun r w'=>r=.returned (.bool (decide (h.young<n)))/\w'=V):=fun V hV=>zez V B (X+1) _ _ _ _ _ _ _ h d (HC1.out.below hV).gd n
 have HE1:=mk0 hW1
 have hlt:P<w1.heap.size:=by omega
 clear hb1 hA1 hW1 h8 HAT HC hP
 cases ok with
 | false=>
   have HR:Hid (badNote d h ts n=true):=HBN.out.trans (by simp)
   clear HFT HBN
   go_wp2_with fail
   rw [<-HE1.out]
   go_quiet (fail)
   go_wp2_with fail
   go_ret
   exact ⟨by rw [HR.out];rfl,zdq HB1.out _⟩
 | true=>
   obtain ⟨hf,ht0,htf⟩:=HFT.out rfl
   have hfin:t.fin=t.loc+3+t.len:=rfl
   have hfl:=hf.lo
   by_cases hy:h.young<n
   ·
    have hd:decide (h.young<n)=true:=by simp [hy]
    rw [hd]at HIO
    have HRF:Hid (∀V,Below W1.heap.size W1 V->Calls Tryz.prog 178 #[.pointer (some ⟨X+1,0,none⟩),.agg #[.int .i64 t.loc,.int .i64 t.tag,.int .i64 t.len,.int .i64 t.hash]] V fun r w'=>Below V.heap.size V w'/\∃a c,r=.returned (.slice a (refsOf d.fields t).length c)):=fun V hV=>(zht V B (X+1) _ _ _ _ _ _ _ h d (HC1.out.below hV).gd t hf (by omega) (by omega)).mono fun r w' ⟨hb,v,hr,ho⟩=>by
     obtain ⟨a,c,e⟩:=zfz ho
     exact ⟨hb,a,c,by rw [hr,e]⟩
    have HR:Hid (badNote d h ts n=(((refsOf d.fields t).length:Int)==0)):=HBN.out.trans (by simp [hy])
    generalize (refsOf d.fields t).length=rl at*
    clear HFT HBN hf htf hfin
    go_wp2_with fail
    rw [<-HE1.out]
    refine wp_region_held_drew (S:=fun W'=>∀p:Addr,p.block<W1.heap.size->W'.cell? p=W1.cell? p) (by kernel_rfl) (fun p hp=>rfl) fun hH=>?_
    refine ta 0 (.bool true) rfl hH ?_
    refine ta 1 (.bool false) rfl hH ?_
    refine ta 2 (.bool false) rfl hH ?_
    refine ta 3 (.pointer (some ⟨P,0,none⟩)) rfl hH ?_
    refine ta 4 (.pointer (some ⟨X+1,0,none⟩)) rfl hH ?_
    refine ta 5 (.pointer (some ⟨X+1,0,none⟩)) rfl hH ?_
    refine ta 6 (.pointer (some ⟨X+1,0,none⟩)) rfl hH ?_
    refine ta 7 (.int .i64 n) rfl hH ?_
    refine wpAnyH_ready (rs:=[8]) (by kernel_rfl) (by simp) ?_
    refine AllReadyH.cons rfl (fun K8 hK8=>?_) AllReadyH.nil
    go_simp
    refine (HIO.out _ (Below.refl _ _).drew).mono ?_
    rintro r _ ⟨rfl,rfl⟩
    refine hK8.out _ _ (fun p hp=>rfl) fun hH=>?_
    refine ta 9 (.bool false) rfl hH ?_
    refine ta 10 (.bool false) rfl hH ?_
    refine ta 11 (.bool false) rfl hH ?_
    refine ta 12 (.pointer (some ⟨P,0,none⟩)) rfl hH ?_
    refine ta 13 (.pointer (some ⟨X+1,0,none⟩)) rfl hH ?_
    refine ta 14 (.pointer (some ⟨X+1,0,none⟩)) rfl hH ?_
    refine ta 15 (.pointer (some ⟨X+1,0,none⟩)) rfl hH ?_
    refine ta 16 (.agg #[.int .i64 t.loc,.int .i64 t.tag,.int .i64 t.len,.int .i64 t.hash]) rfl hH ?_
    refine wpAnyH_ready (rs:=[17]) (by kernel_rfl) (by simp) ?_
    refine AllReadyH.cons rfl (fun K17 hK17=>?_) AllReadyH.nil
    go_simp
    refine (HRF.out _ (Below.refl _ _).drew).mono ?_
    rintro r w3 ⟨hb3,a3,c3,rfl⟩
    have hb4:Below W1.heap.size W1 w3:=(Below.refl W1.heap.size W1).drew.trans hb3
    refine hK17.out _ _ (fun p hp=>hb4.cell hp) fun hH=>?_
    refine ta 18 (.int .i64 (rl:Int)) rfl hH ?_
    refine ta 19 (.bool ((rl:Int)==0)) rfl hH ?_
    refine ta 20 (.bool ((rl:Int)==0)) rfl hH ?_
    refine ta 21 (.bool ((rl:Int)==0)) rfl hH ?_
    refine wpAnyH_done (by kernel_rfl) ?_ _
    clear hH
    simp only [Act.put,List.setIfInBounds_toArray,List.set_cons_zero,List.set_cons_succ,List.getElem_toArray,List.getElem_cons_zero,List.getElem_cons_succ]
    go_wp2_with fail
    go_ret
    exact ⟨by rw [HR.out];rfl,HB1.out.trans (hb4.mono HB1.out.size)⟩
   have hd:decide (h.young<n)=false:=by simp [hy]
   rw [hd]at HIO
   have HR:Hid (badNote d h ts n=true):=HBN.out.trans (by simp [hy])
   clear HFT HBN hf htf hfin
   go_wp2_with fail
   rw [<-HE1.out]
   refine wp_region_held_drew (S:=fun W'=>∀p:Addr,p.block<W1.heap.size->W'.cell? p=W1.cell? p) (by kernel_rfl) (fun p hp=>rfl) fun hH=>?_
   refine ta 0 (.bool true) rfl hH ?_
   refine ta 1 (.bool false) rfl hH ?_
   refine ta 2 (.bool false) rfl hH ?_
   refine ta 3 (.pointer (some ⟨P,0,none⟩)) rfl hH ?_
   refine ta 4 (.pointer (some ⟨X+1,0,none⟩)) rfl hH ?_
   refine ta 5 (.pointer (some ⟨X+1,0,none⟩)) rfl hH ?_
   refine ta 6 (.pointer (some ⟨X+1,0,none⟩)) rfl hH ?_
   refine ta 7 (.int .i64 n) rfl hH ?_
   refine wpAnyH_ready (rs:=[8]) (by kernel_rfl) (by simp) ?_
   refine AllReadyH.cons rfl (fun K8 hK8=>?_) AllReadyH.nil
   go_simp
   refine (HIO.out _ (Below.refl _ _).drew).mono ?_
   rintro r _ ⟨rfl,rfl⟩
   refine hK8.out _ _ (fun p hp=>rfl) fun hH=>?_
   refine ta 9 (.bool true) rfl hH ?_
   refine ta 10 (.bool true) rfl hH ?_
   refine ta 11 (.bool true) rfl hH ?_
   refine tan 12 rfl hH ?_
   refine tan 13 rfl hH ?_
   refine tan 14 rfl hH ?_
   refine tan 15 rfl hH ?_
   refine tan 16 rfl hH ?_
   refine tan 17 rfl hH ?_
   refine tan 18 rfl hH ?_
   refine tan 19 rfl hH ?_
   refine ta 20 (.bool true) rfl hH ?_
   refine ta 21 (.bool true) rfl hH ?_
   refine wpAnyH_done (by kernel_rfl) ?_ _
   clear hH
   simp only [Act.put,List.setIfInBounds_toArray,List.set_cons_zero,List.set_cons_succ,List.getElem_toArray,List.getElem_cons_zero,List.getElem_cons_succ]
   go_wp2_with fail
   go_ret
   exact ⟨by rw [HR.out];rfl,HB1.out.drew⟩
theorem zig (w:World) (X B:Nat) (vW vO kC kS kF kN kT vA:Value) (h:HeapD) (d:LinkD) (ts:List ThD) (hc:Cht X B w vW vO kC kS kF kN kT vA h d ts) (hl:Lain d h ts) (hwn:∀x∈h.noted,(Lit.int .i64 x).wf=true):
 Calls Tryz.prog 115 #[.agg #[.pointer (some ⟨X+1,0,none⟩)]] w fun r w'=>r=.returned (.bool (!h.noted.any (badNote d h ts)))/\Below w.heap.size w w':=by
 have hmf:=mkf Tryz.prog
 obtain ⟨W0,hW⟩:∃W0,W0=w.alloc (.cells #[.pointer (some ⟨X+1,0,none⟩)] 88):=⟨_,rfl⟩
 have hB0:Below w.heap.size w W0:=hW ▸ (Below.refl _ _).alloc (Nat.le_refl _) _
 have hsz:W0.heap.size=w.heap.size+1:=by rw [hW];simp
 have hc1:=hc.below hB0
 have hp:W0.cell? ⟨w.heap.size,0,none⟩=some (.pointer (some ⟨X+1,0,none⟩)):=by rw [hW];simp [go_sem]
 have HCC:Hid (Calls Tryz.prog 174 #[vO,.func (.func 176) #[] #[.pointer (some ⟨w.heap.size,0,none⟩)]] W0 fun r w'=>r=.returned (.bool (h.noted.any (badNote d h ts)))/\Below W0.heap.size W0 w'):=by
  refine zhy _ B vO _ hc1.sO (by have:=hc1.le;have:=lt0 hc1.blk;omega) 176 #[] _ (badNote d h ts) (fun args w=>by kernel_rfl) ?_
  intro x hx V hV
  exact zif V X B _ _ _ _ _ _ _ vA h d ts (hc1.below hV) hl w.heap.size ((hV.cell (p:=⟨w.heap.size,0,none⟩) (by show w.heap.size<_;omega)).trans hp) x (hwn x hx)
 have gl:=lt0 hc1.blk
 have m5:=cl0 hc1.blk 5 (x:=vO) rfl
 have HB0:=mk0 hB0
 obtain ⟨a,q,rfl,-⟩:=hc.sO
 rw [hW]at HCC m5 gl
 clear hc hc1 hB0 hp hl hwn
 generalize h.noted.any (badNote d h ts)=b at*
 go_enter Tryz.func115,Tryz.ntmps115
 go_wp2_with fail
 refine HCC.out.mono ?_
 rintro r w1 ⟨rfl,hb1⟩
 rw [<-hW]at hb1
 have HB1:Hid (Below w.heap.size w w1):=HB0.out.trans (hb1.mono HB0.out.size)
 clear hb1 HCC
 go_wp2_with fail
 go_ret
 exact ⟨rfl,HB1.out⟩
structure HsD (hs:List Int) (D:DataW Unit):Prop where
 has:∀n,Maps.has D (ikey n)=decide (n∈hs)
 le:Maps.size D<=hs.length
 eq:Maps.size D=hs.length↔hs.Nodup
theorem zih:HsD [] (.map []):=⟨fun n=>by simp;rfl,Nat.le_refl _,by simp;rfl⟩
theorem zii (hs:List Int) (x:Int):(hs++ [x]).Nodup↔hs.Nodup/\x∉hs:=by
 rw [List.nodup_append]
 constructor
 ·
  rintro ⟨h1,-,h3⟩
  exact ⟨h1,fun hx=>h3 x hx x (by simp) rfl⟩
 rintro ⟨h1,h2⟩
 refine ⟨h1,by simp,fun a ha b hb e=>?_⟩
 rw [List.mem_singleton]at hb
 subst hb
 subst e
 exact h2 ha
theorem zij {hs:List Int} {D:DataW Unit} (h:HsD hs D) (ht:Tidy D) (x:Int) (v:DataW Unit):HsD (hs++ [x]) (D.put (ikey x) v):=by
 have hm:=ht.isMap
 have hsz:Maps.size (D.put (ikey x) v)=if Maps.has D (ikey x)=true then Maps.size D else Maps.size D+1:=size_put ht v
 have hle:=h.le
 have heq:=h.eq
 rw [h.has x]at hsz
 refine ⟨fun n=>?_,?_,?_⟩
 ·
  by_cases e:x=n
  ·
   subst e
   rw [has_put_same hm (isIKey _)]
   simp
  rw [has_put_other (zfg (Ne.symm e)),h.has]
  have e2:¬n=x:=fun q=>e q.symm
  simp [e2]
 ·
  rw [hsz,List.length_append]
  split<;>simp<;>omega
 rw [hsz,List.length_append,zii]
 by_cases hx:x∈hs
 ·
  simp [hx]
  omega
 simp [hx]
 exact heq
theorem zik (w:World) (X B:Nat) (vW vO kC kS kF kN kT vA:Value) (h:HeapD) (d:LinkD) (ts:List ThD) (hc:Cht X B w vW vO kC kS kF kN kT vA h d ts) (hl:ts.length<=1000000) (hwh:∀t∈ts,(Lit.int .i64 t.hash).wf=true):
 Calls Tryz.prog 111 #[.agg #[.pointer (some ⟨X+1,0,none⟩)]] w fun r w'=>r=.returned (.bool (decide ((ts.map ThD.hash).Nodup)))/\Below w.heap.size w w':=by
 have hmm:=@run_makeMap Tryz.prog
 obtain ⟨W0,hW⟩:∃W0,W0=(w.alloc (.cells #[.pointer (some ⟨X+1,0,none⟩)] 88)).alloc (.map #[] 0):=⟨_,rfl⟩
 have hsz:W0.heap.size=w.heap.size+1+1:=by rw [hW];simp
 have hB0:Below w.heap.size w W0:=hW ▸ ((Below.refl _ _).alloc (Nat.le_refl _) _).alloc (by simp) _
 have hbx:W0.heap[w.heap.size]? =some (.cells #[.pointer (some ⟨X+1,0,none⟩)] 88 (0,0)):=by
  rw [hW]
  exact (Below.heap_alloc _ _ _ (by simp)).trans (heap_alloc_new w _)
 have hmp:W0.ownsMap Tryz.prog 3 thElem (w.heap.size+1) 0 (.map []):=by
  have:=World.ownsMap_made (w.alloc (.cells #[.pointer (some ⟨X+1,0,none⟩)] 88)) Tryz.prog 3 thElem
  rw [<-hW]at this
  simpa using this
 have hc0:=hc.below hB0
 have HS:Hid (SL 4 RTh (· <w.heap.size) w vA ts):=hc.all hl
 have gl:=lt0 hc.blk
 have gl0:=lt0 hc0.blk
 have m12:=cl0 hc0.blk 12 (x:=vA) rfl
 have p0:=cl0 hbx 0 (x:=.pointer (some ⟨X+1,0,none⟩)) rfl
 obtain ⟨a,q,rfl⟩:=hc.len
 have HC0:=mk0 hc0
 have HB0:=mk0 hB0
 have HBX:=mk0 hbx
 have HM:=mk0 hmp
 have HWH:=mk0 hwh
 have HW:=mk0 hW
 clear hc hc0 hB0 hbx hmp hwh
 rw [hW]at m12 p0 gl0
 clear hW
 go_enter Tryz.func111,Tryz.ntmps111
 go_wp2_with fail
 rw [<-HW.out]
 rw [<-HW.out]at m12 p0 gl0
 go_loopw [13] (fun i wr=>∃(k:Nat) (D:DataW Unit),k<=ts.length/\i=.int .i64 k/\Hid (wr.ownsMap Tryz.prog 3 thElem (w.heap.size+1) k D/\HsD ((ts.take k).map ThD.hash) D/\Below (w.heap.size+1) W0 wr)) (fun i _=>ts.length - (intOf i).toNat)
 case atStart=>exact ⟨0,.map [],Nat.zero_le _,rfl,HM.out,by simpa using zih,Below.refl _ _⟩
 case round=>
  obtain ⟨k,D,hk,rfl,HI⟩:=hrel
  have hsr:=HI.out.2.2.size
  have hBw:Below w.heap.size w wr:=HB0.out.trans (HI.out.2.2.mono (by omega))
  by_cases hlt:k<ts.length
  ·
   obtain ⟨bA,oA,rfl,hbA,e0,e1,e2,e3⟩:=(HS.out.keptTh (Kp.below hBw)).atTh k hlt
   have q1:(0:Int)<=k:=by omega
   have q2:(k:Int)<ts.length:=by omega
   have hwf:=HWH.out ts[k] (List.getElem_mem hlt)
   have HTK:Hid ((ts.take (k+1)).map ThD.hash=(ts.take k).map ThD.hash++ [ts[k].hash]):=by
    show _=_
    rw [List.take_succ_eq_append_getElem hlt,List.map_append]
    rfl
   generalize ts[k]=t at*
   obtain ⟨W7,hW7⟩:∃W7,W7=wr.alloc (.cells #[.int .i64 t.loc,.int .i64 t.tag,.int .i64 t.len,.int .i64 t.hash] 101):=⟨_,rfl⟩
   have hA7:Below wr.heap.size wr W7:=hW7 ▸ (Below.refl _ _).alloc (Nat.le_refl _) _
   have h7:W7.heap[wr.heap.size]? =some (.cells #[.int .i64 t.loc,.int .i64 t.tag,.int .i64 t.len,.int .i64 t.hash] 101 (0,0)):=hW7 ▸ heap_alloc_new wr _
   have hm7:W7.ownsMap Tryz.prog 3 thElem (w.heap.size+1) k D:=by rw [hW7];exact HI.out.1.alloc _
   have hkey:keyOf Tryz.prog 3 (.int .i64 t.hash)=some (ikey t.hash):=keyOf_int_mk Tryz.underlying3 hwf
   obtain ⟨w11,hrun,hown11,hg11⟩:=World.ownsMap.update (w:=W7) hm7 law3 Tryz.underlying183 (by unfold maxLen;omega) hkey (zfd t)
   unfold thV at hrun
   have hD2:=zij HI.out.2.1 (hm7.tidy law3) t.hash (thDat t)
   rw [<-HTK.out]at hD2
   have hB11:Below (w.heap.size+1) W0 w11:=(HI.out.2.2.trans (hA7.mono (by omega))).grown hg11 (by have:=hA7.size;omega) (fun q e=>by cases e;exact Nat.le_refl _)
   have s0:=cl0 h7 0 (x:=.int .i64 t.loc) rfl
   have s1:=cl0 h7 1 (x:=.int .i64 t.tag) rfl
   have s2:=cl0 h7 2 (x:=.int .i64 t.len) rfl
   have s3:=cl0 h7 3 (x:=.int .i64 t.hash) rfl
   have l7:=lt0 h7
   have HF:Hid (w11.ownsMap Tryz.prog 3 thElem (w.heap.size+1) (k+1) (D.put (ikey t.hash) (thDat t))/\HsD ((ts.take (k+1)).map ThD.hash) (D.put (ikey t.hash) (thDat t))/\Below (w.heap.size+1) W0 w11):=⟨hown11,hD2,hB11⟩
   rw [hW7]at s0 s1 s2 s3 l7 hrun
   clear hA7 h7 hm7 hkey hown11 hg11 hD2 hB11 hW7 hwf HI
   go_wp2_with fail
   go_roundw
   case rel=>exact ⟨k+1,_,by omega,by go_num,HF.out⟩
   case measure=>simp [intOf];omega
  have hke:k=ts.length:=by omega
  have HR:Hid ((Maps.size D:Int)==(ts.length:Int)↔(ts.map ThD.hash).Nodup):=by
   have:=HI.out.2.1.eq
   rw [hke,List.take_length,List.length_map]at this
   show _↔_
   rw [<-this]
   simp
   omega
  have hln:=HI.out.1.drew.len (e:=101) Tryz.underlying183
  have p1:=(HI.out.2.2.cell (p:=⟨w.heap.size,0,none⟩) (by show w.heap.size<_;omega)).trans p0
  have m1:=(HI.out.2.2.cell (p:=⟨X+1,12,none⟩) (by show X+1<_;omega)).trans m12
  have glr:X+1<wr.heap.size:=by omega
  have glp:w.heap.size<wr.heap.size:=by omega
  have HBw:=mk0 hBw
  clear HI hBw p0 m12
  generalize Maps.size D=sz at*
  go_wp2_with fail
  go_region
  all_goals
   go_wp2_with fail
   go_ret
  all_goals refine ⟨?_,HBw.out.drew⟩
  have hr:=HR.out
  show Ending.returned (.bool ((sz:Int)==(ts.length:Int)))=_
  congr 2
  by_cases hd:(ts.map ThD.hash).Nodup
  ·
   rw [decide_eq_true hd]
   exact hr.2 hd
  rw [decide_eq_false hd]
  exact Bool.eq_false_iff.2 fun e=>hd (hr.1 e)
end Go.Proofs.YtjdnmblggdobgaaGreat
