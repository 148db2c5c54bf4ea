import Derived.Test.YtjdnmblggdobgaaGreatJHpKHtA
import Derived.Test.YtjdnmblggdobgaaGreatJHmCBx
import Derived.Test.YtjdnmblggdobgaaGreatJTk2Dies
set_option maxHeartbeats 2000000
set_option maxRecDepth 100000
namespace Go.Proofs.YtjdnmblggdobgaaGreat
open Go.RowKit Go.Maps
def newD (y o:Int):HeapD:=⟨List.replicate (1+y+o).toNat 0,y,o,1,y+1,[],1⟩
def NewOut (w:World) (y o:Int) (r:Ending) (w':World):Prop:=
 (partB y=true/\partB o=true/\∃v,r=.returned (.tuple #[.agg #[v,.int .i64 y,.int .i64 o,.int .i64 1,.int .i64 (y+1),.slice none 0 0,.int .i64 1],.int .i64 0])/\w'.ownsRow w.heap.size 3 1 v (newD y o).words.length (intV (newD y o).words))\/
  ((partB y&&partB o)=false/\r=.returned (.tuple #[.agg #[.slice none 0 0,.int .i64 0,.int .i64 0,.int .i64 0,.int .i64 0,.slice none 0 0,.int .i64 0],.int .i64 3]))
theorem zmc (w:World) (y o:Int):Calls Tryz.prog 17 #[.int .i64 y,.int .i64 o] w fun r w'=>Below w.heap.size w w'/\NewOut w y o r w':=by
 obtain ⟨iI,hiI,hzI0,hzI1,hzI2⟩:=info_parts Tryz.infoInt
 have HY:Hid (∀W,Calls Tryz.prog 48 #[.int .i64 y] W fun r w'=>r=.returned (.bool (partB y))/\w'=W):=fun W=>zew W _
 have HO:Hid (∀W,Calls Tryz.prog 48 #[.int .i64 o] W fun r w'=>r=.returned (.bool (partB o))/\w'=W):=fun W=>zew W _
 have HB0:=mk0 (fun ob=>(Below.refl w.heap.size w).alloc (Nat.le_refl _) ob)
 cases hy:partB y with
 | false=>
   rw [hy]at HY
   have HR:Hid ((partB y&&partB o)=false):=by show _=_;rw [hy];rfl
   clear hy
   go_enter Tryz.func17,Tryz.ntmps17
   go_wp2_with fail
   refine (HY.out _).mono ?_
   rintro r _ ⟨rfl,rfl⟩
   go_wp2_with fail
   exact bodyPost_ret (v:=.tuple #[.agg #[.slice none 0 0,.int .i64 0,.int .i64 0,.int .i64 0,.int .i64 0,.slice none 0 0,.int .i64 0],.int .i64 3]) (by simp [results,Tryz.results17,go_sem]) rfl ⟨HB0.out _,Or.inr ⟨HR.out,rfl⟩⟩
 | true=>
   rw [hy]at HY
   cases ho:partB o with
   | false=>
     rw [ho]at HO
     have HR:Hid ((partB y&&partB o)=false):=by show _=_;rw [hy,ho];rfl
     clear hy ho
     go_enter Tryz.func17,Tryz.ntmps17
     go_wp2_with fail
     refine (HY.out _).mono ?_
     rintro r _ ⟨rfl,rfl⟩
     go_wp2_with fail
     refine (HO.out _).mono ?_
     rintro r _ ⟨rfl,rfl⟩
     go_wp2_with fail
     exact bodyPost_ret (v:=.tuple #[.agg #[.slice none 0 0,.int .i64 0,.int .i64 0,.int .i64 0,.int .i64 0,.slice none 0 0,.int .i64 0],.int .i64 3]) (by simp [results,Tryz.results17,go_sem]) rfl ⟨HB0.out _,Or.inr ⟨HR.out,rfl⟩⟩
   | true=>
     rw [ho]at HO
     have HYT:=mk0 hy
     have HOT:=mk0 ho
     unfold partB at hy ho
     simp only [Bool.and_eq_true,decide_eq_true_eq]at hy ho
     obtain ⟨y1,y2⟩:=hy
     obtain ⟨o1,o2⟩:=ho
     have w1:IntKind.i64.wrap (1+y)=1+y:=ws0 _ (by omega) (by omega)
     have w2:IntKind.i64.wrap (1+y+o)=1+y+o:=ws0 _ (by omega) (by omega)
     have w3:IntKind.i64.wrap (y+1)=y+1:=ws0 _ (by omega) (by omega)
     go_enter Tryz.func17,Tryz.ntmps17
     go_wp2_with fail
     refine (HY.out _).mono ?_
     rintro r _ ⟨rfl,rfl⟩
     go_wp2_with fail
     refine (HO.out _).mono ?_
     rintro r _ ⟨rfl,rfl⟩
     obtain ⟨n,hn⟩:∃n:Nat,1+y+o=(n:Int):=⟨(1+y+o).toNat,by omega⟩
     have hn1:n<=5000:=by omega
     have HN:=mk0 hn
     have HBD:Hid (iI.bytes*n<=281474976710656/\n<=maxLen/\w.heap.size<=(w.alloc (.cells #[.slice none 0 0,.int .i64 0,.int .i64 0,.int .i64 0,.int .i64 0,.slice none 0 0,.int .i64 0] 24)).heap.size):=⟨by rw [hzI2];omega,by unfold maxLen;omega,by simp⟩
     clear hn
     go_wp2_with (refine wpList_make_full _ rfl _ _ 22 rfl w.heap.size 3 iI (.int .i64 0) 1 Tryz.underlying22 hiI hzI0 hzI1 .i64 .i64 (1+y+o) (1+y+o) n rfl rfl HN.out HN.out HBD.out.1 HBD.out.2.1 HBD.out.2.2 ?_)
     intro w5 hown hgr
     have hblk:w5.heap[w.heap.size]? =some (.cells #[.slice none 0 0,.int .i64 0,.int .i64 0,.int .i64 0,.int .i64 0,.slice none 0 0,.int .i64 0] 24 (0,0)):=(hgr.block w.heap.size (by simp) (by simp)).trans (heap_alloc_new w _)
     have r0:=cl0 hblk 0 (x:=.slice none 0 0) rfl
     have r1:=cl0 hblk 1 (x:=.int .i64 0) rfl
     have r2:=cl0 hblk 2 (x:=.int .i64 0) rfl
     have r3:=cl0 hblk 3 (x:=.int .i64 0) rfl
     have r4:=cl0 hblk 4 (x:=.int .i64 0) rfl
     have r5:=cl0 hblk 5 (x:=.slice none 0 0) rfl
     have r6:=cl0 hblk 6 (x:=.int .i64 0) rfl
     have rz:=fun j=>zcf hblk j
     have rl:=lt0 hblk
     have HOWN:=mk0 hown
     have hB5:Below w.heap.size w w5:=(HB0.out _).grown hgr (by simp) (fun k e=>by cases e)
     have HB5:=mk0 hB5
     have hown':w5.ownsRow w.heap.size 3 1 (.slice (some ⟨w.heap.size+1,0,none⟩) n n) n (madeCells #[Value.int .i64 0] n).toList:=hown
     obtain ⟨hgS,hcS,-⟩:=zl9 w.heap.size [.slice (some ⟨w.heap.size+1,0,none⟩) n n,.int .i64 y,.int .i64 o,.int .i64 1,.int .i64 (y+1),.slice none 0 0,.int .i64 1] w5 0 (fun j hj=>by
      rw [Nat.zero_add]
      match j,hj with
      | 0,_=>exact ⟨_,r0⟩
      | 1,_=>exact ⟨_,r1⟩
      | 2,_=>exact ⟨_,r2⟩
      | 3,_=>exact ⟨_,r3⟩
      | 4,_=>exact ⟨_,r4⟩
      | 5,_=>exact ⟨_,r5⟩
      | 6,_=>exact ⟨_,r6⟩
      )
     obtain ⟨W9,h9⟩:∃W9,setL w5 w.heap.size 0 [.slice (some ⟨w.heap.size+1,0,none⟩) n n,.int .i64 y,.int .i64 o,.int .i64 1,.int .i64 (y+1),.slice none 0 0,.int .i64 1]=W9:=⟨_,rfl⟩
     rw [h9]at hgS hcS
     have hw9:=hgS.size
     have q0:∀ob:Obj,(W9.alloc ob).cell? ⟨w.heap.size,0,none⟩=some (.slice (some ⟨w.heap.size+1,0,none⟩) n n):=fun ob=>(((Below.refl W9.heap.size W9).alloc (Nat.le_refl _) ob).cell (p:=⟨w.heap.size,0,none⟩) (by show w.heap.size<_;omega)).trans ((hcS 0 (by simp)).trans rfl)
     have q1:∀ob:Obj,(W9.alloc ob).cell? ⟨w.heap.size,1,none⟩=some (.int .i64 y):=fun ob=>(((Below.refl W9.heap.size W9).alloc (Nat.le_refl _) ob).cell (p:=⟨w.heap.size,1,none⟩) (by show w.heap.size<_;omega)).trans ((hcS 1 (by simp)).trans rfl)
     have q2:∀ob:Obj,(W9.alloc ob).cell? ⟨w.heap.size,2,none⟩=some (.int .i64 o):=fun ob=>(((Below.refl W9.heap.size W9).alloc (Nat.le_refl _) ob).cell (p:=⟨w.heap.size,2,none⟩) (by show w.heap.size<_;omega)).trans ((hcS 2 (by simp)).trans rfl)
     have q3:∀ob:Obj,(W9.alloc ob).cell? ⟨w.heap.size,3,none⟩=some (.int .i64 1):=fun ob=>(((Below.refl W9.heap.size W9).alloc (Nat.le_refl _) ob).cell (p:=⟨w.heap.size,3,none⟩) (by show w.heap.size<_;omega)).trans ((hcS 3 (by simp)).trans rfl)
     have q4:∀ob:Obj,(W9.alloc ob).cell? ⟨w.heap.size,4,none⟩=some (.int .i64 (y+1)):=fun ob=>(((Below.refl W9.heap.size W9).alloc (Nat.le_refl _) ob).cell (p:=⟨w.heap.size,4,none⟩) (by show w.heap.size<_;omega)).trans ((hcS 4 (by simp)).trans rfl)
     have q5:∀ob:Obj,(W9.alloc ob).cell? ⟨w.heap.size,5,none⟩=some (.slice none 0 0):=fun ob=>(((Below.refl W9.heap.size W9).alloc (Nat.le_refl _) ob).cell (p:=⟨w.heap.size,5,none⟩) (by show w.heap.size<_;omega)).trans ((hcS 5 (by simp)).trans rfl)
     have q6:∀ob:Obj,(W9.alloc ob).cell? ⟨w.heap.size,6,none⟩=some (.int .i64 1):=fun ob=>(((Below.refl W9.heap.size W9).alloc (Nat.le_refl _) ob).cell (p:=⟨w.heap.size,6,none⟩) (by show w.heap.size<_;omega)).trans ((hcS 6 (by simp)).trans rfl)
     have hB9:Below w.heap.size w W9:=bg0 HB5.out hgS (Nat.le_refl _)
     have ho9:=hown'.kept hgS (Or.inr fun e=>by have e:w.heap.size+1=w.heap.size:=Option.some.inj e;omega)
     have HD:Hid ((newD y o).words.length=n/\intV (newD y o).words=(madeCells #[Value.int .i64 0] n).toList):=by
      have e:(1+y+o).toNat=n:=by have:=HN.out;omega
      refine ⟨by unfold newD;rw [e];simp,?_⟩
      unfold newD
      rw [e]
      have e2:(madeCells #[Value.int .i64 0] n).toList=List.replicate n (Value.int .i64 0):=by
       rw [List.eq_replicate_iff]
       refine ⟨by simp [madeCells],fun b hb=>?_⟩
       simp [madeCells,Nat.mod_one]at hb
       exact hb.2.symm
      rw [e2]
      simp [intV]
     have H9:Hid ((((((((w5.setCell ⟨w.heap.size,0,none⟩ (.slice (some ⟨w.heap.size+1,0,none⟩) n n)).setCell ⟨w.heap.size,1,none⟩ (.int .i64 y)).setCell ⟨w.heap.size,2,none⟩ (.int .i64 o)).setCell ⟨w.heap.size,3,none⟩ (.int .i64 1)).setCell ⟨w.heap.size,4,none⟩ (.int .i64 (y+1))).setCell ⟨w.heap.size,5,none⟩ (.slice none 0 0)).setCell ⟨w.heap.size,6,none⟩ (.int .i64 1))=W9):=h9
     have l9:w.heap.size<W9.heap.size:=by omega
     have HF:Hid (∀ob:Obj,Below w.heap.size w (W9.alloc ob)/\(W9.alloc ob).ownsRow w.heap.size 3 1 (.slice (some ⟨w.heap.size+1,0,none⟩) n n) (newD y o).words.length (intV (newD y o).words)):=fun ob=>by
      rw [HD.out.1,HD.out.2]
      exact ⟨hB9.alloc (by omega) _,ho9.alloc _⟩
     clear hown hown' hgr hB5 hblk hgS hcS h9 hB9 ho9
     go_wp2_with fail
     rw [H9.out]
     exact bodyPost_ret (v:=.tuple #[.agg #[.slice (some ⟨w.heap.size+1,0,none⟩) n n,.int .i64 y,.int .i64 o,.int .i64 1,.int .i64 (y+1),.slice none 0 0,.int .i64 1],.int .i64 0]) (by simp [results,Tryz.results17,go_sem,q0,q1,q2,q3,q4,q5,q6]) rfl ⟨(HF.out _).1,Or.inl ⟨HYT.out,HOT.out,_,rfl,(HF.out _).2⟩⟩

theorem nilEqlI (c:Nat) (w:World):(binOp BinOp.eql 22 (.slice none 0 c) (.slice none 0 0)).run Tryz.prog w=.ok (.bool true) w:=by kernel_rfl
theorem nilNotI (a:Addr) (n c:Nat) (w:World):(binOp BinOp.eql 22 (.slice (some a) n c) (.slice none 0 0)).run Tryz.prog w=.ok (.bool false) w:=by kernel_rfl
theorem nilGI:Tryz.prog.eqGuardType Tryz.prog.depth 22=false:=by kernel_rfl
theorem zmf (w:World) (M:Nat->Prop) (v:Value) (l:List Int) (hv:SL 1 RI M w v l) (hl:l.length<=1000000):
 Calls Tryz.prog 71 #[v] w fun r w'=>Below w.heap.size w w'/\∃a c,r=.returned (.slice a l.length c)/\w'.ownsRow w.heap.size 3 1 (.slice a l.length c) l.length (intV l):=by
 have hnE:=nilEqlI
 have hnN:=nilNotI
 have hnG:=nilGI
 have HV:=mk0 hv
 obtain ⟨ao,cl,rfl,-,-,hel⟩:=hv
 cases ao with
 | none=>
   have hl0:l= []:=by
    cases l with
    | nil=>rfl
    | cons x l=>obtain ⟨b,off,cs,e,-⟩:=hel 0 (by simp);cases e
   subst hl0
   clear hel
   go_enter Tryz.func71,Tryz.ntmps71
   go_wp2_with fail
   go_ret
   exact ⟨Below.refl _ _,_,_,rfl,World.ownsRow_nil _ _ _ _⟩
 | some ad=>
   have HB0:Hid (Below w.heap.size w (w.alloc (.cells #[] 3))):=(Below.refl _ _).alloc (Nat.le_refl _) _
   have HOE:=mk0 (zjx w 3 1)
   have HSV:Hid (SL 1 RI M (w.alloc (.cells #[] 3)) (.slice (some ad) l.length cl) l):=HV.out.keptI ⟨HB0.out.size,fun b hb hlt=>HB0.out.block b hlt⟩
   have HBD:Hid (([]:List Int).length+l.length<=1000000/\w.heap.size<=(w.alloc (.cells #[] 3)).heap.size):=⟨by rw [List.length_nil,Nat.zero_add];exact hl,by simp⟩
   clear hel
   go_enter Tryz.func71,Tryz.ntmps71
   go_wp2_with (at_builtin;refine zir _ rfl _ _ rfl w.heap.size (.slice (some ⟨w.heap.size,0,none⟩) 0 0) [] rfl HOE.out M (.slice (some ad) l.length cl) l rfl HSV.out HBD.out.1 HBD.out.2 ?_)
   intro v2 w2 hown2 hgr2
   have hB2:Below w.heap.size w w2:=HB0.out.grown hgr2 (by simp) (fun k e=>by cases e;exact Nat.le_refl _)
   have hown2:w2.ownsRow w.heap.size 3 1 v2 l.length (intV l):=hown2
   obtain ⟨a2,c2,rfl⟩:=zfz hown2
   have HF:=mk0 (And.intro hB2 hown2)
   clear hB2 hown2 hgr2 HSV HOE
   go_wp2_with fail
   go_ret
   exact ⟨HF.out.1,_,_,rfl,HF.out.2⟩
structure OwnV (b:Nat) (w:World) (nW nO:Value) (h:HeapD):Prop where
 rW:w.ownsRow b 3 1 nW h.words.length (intV h.words)
 rO:w.ownsRow b 3 1 nO h.noted.length (intV h.noted)
 ne:∀k,nW.ownBlock=some k->nO.ownBlock≠some k
theorem OwnV.below {b:Nat} {w w':World} {nW nO:Value} {h:HeapD} (o:OwnV b w nW nO h) (hb:Below w.heap.size w w'):OwnV b w' nW nO h:=⟨zhj o.rW hb,zhj o.rO hb,o.ne⟩
theorem OwnV.mono {b b':Nat} {w:World} {nW nO:Value} {h:HeapD} (o:OwnV b w nW nO h) (hb:b'<=b):OwnV b' w nW nO h:=⟨zhp o.rW hb,zhp o.rO hb,o.ne⟩
theorem OwnV.grown {b g:Nat} {w w':World} {nW nO:Value} {h:HeapD} (o:OwnV b w nW nO h) (hg:w.grownBy w' (some g)) (h1:nW.ownBlock≠some g) (h2:nO.ownBlock≠some g):OwnV b w' nW nO h:=⟨o.rW.kept hg (Or.inr h1),o.rO.kept hg (Or.inr h2),o.ne⟩
def OwnOut (w:World) (h:HeapD) (kC kS kF kN kT:Value) (r:Ending) (w':World):Prop:=
 ∃nW dW nO dO,r=.returned (.agg #[.slice nW h.words.length dW,.int .i64 h.young,.int .i64 h.old,.int .i64 h.ytop,.int .i64 h.otop,.slice nO h.noted.length dO,.int .i64 h.next,kC,kS,kF,kN,kT])/\OwnV w.heap.size w' (.slice nW h.words.length dW) (.slice nO h.noted.length dO) h
theorem zmg (w:World) (B:Nat) (vW vO kC kS kF kN kT:Value) (h:HeapD) (d:LinkD) (sW:SL 1 RI (· <B) w vW h.words) (sO:SL 1 RI (· <B) w vO h.noted) (lk:RLk (· <B) w kC kS kF kN kT d) (hB:B<=w.heap.size) (hl1:h.words.length<=1000000) (hl2:h.noted.length<=1000000):
 Calls Tryz.prog 137 #[.agg #[vW,.int .i64 h.young,.int .i64 h.old,.int .i64 h.ytop,.int .i64 h.otop,vO,.int .i64 h.next],.agg #[kC,kS,kF,kN,kT]] w fun r w'=>Below w.heap.size w w'/\OwnOut w h kC kS kF kN kT r w':=by
 obtain ⟨W0,hW0⟩:∃W0,W0=((w.alloc (.cells #[vW,.int .i64 h.young,.int .i64 h.old,.int .i64 h.ytop,.int .i64 h.otop,vO,.int .i64 h.next] 24)).alloc (.cells #[kC,kS,kF,kN,kT] 36)).alloc (.cells #[.slice none 0 0,.int .i64 0,.int .i64 0,.int .i64 0,.int .i64 0,.slice none 0 0,.int .i64 0,.slice none 0 0,.slice none 0 0,.slice none 0 0,.slice none 0 0,.slice none 0 0] 129):=⟨_,rfl⟩
 have hB0:Below w.heap.size w W0:=hW0 ▸ (((Below.refl _ _).alloc (Nat.le_refl _) _).alloc (by simp) _).alloc (by simp;omega) _
 have hr0:Rd w.heap.size B W0 vW vO kC kS kF kN kT h d:=hW0 ▸ (Rd.new w B _ _ _ _ _ _ _ h d hB sW sO lk).below ((Below.refl _ _).alloc (Nat.le_refl _) _)
 have hb2:W0.heap[w.heap.size+2]? =some (.cells #[.slice none 0 0,.int .i64 0,.int .i64 0,.int .i64 0,.int .i64 0,.slice none 0 0,.int .i64 0,.slice none 0 0,.slice none 0 0,.slice none 0 0,.slice none 0 0,.slice none 0 0] 129 (0,0)):=by
  have:=heap_alloc_new ((w.alloc (.cells #[vW,.int .i64 h.young,.int .i64 h.old,.int .i64 h.ytop,.int .i64 h.otop,vO,.int .i64 h.next] 24)).alloc (.cells #[kC,kS,kF,kN,kT] 36)) (.cells #[.slice none 0 0,.int .i64 0,.int .i64 0,.int .i64 0,.int .i64 0,.slice none 0 0,.int .i64 0,.slice none 0 0,.slice none 0 0,.slice none 0 0,.slice none 0 0,.slice none 0 0] 129)
  rw [<-hW0]at this
  simpa using this
 have hs0:W0.heap.size=w.heap.size+3:=by rw [hW0];simp
 have HC1:=mk0 (zmf W0 (· <B) _ _ hr0.sW hl1)
 have HR0:=mk0 hr0
 have HB0:=mk0 hB0
 have HB2:=mk0 hb2
 have HE0:=mk0 hW0
 have HS0:=mk0 hs0
 have HL2:=mk0 hl2
 obtain ⟨aC,cC,aS,cS,aF,cF,aN,cN,aT,cT,rfl,rfl,rfl,rfl,rfl⟩:=lk.agg
 obtain ⟨aW,cW,rfl,-⟩:=sW
 obtain ⟨aO,cO,rfl,-⟩:=sO
 rw [HE0.out]at HC1
 clear lk hr0 hB0 hb2 hW0 hs0 hl2 hl1
 go_enter Tryz.func137,Tryz.ntmps137
 go_wp2_with fail
 refine HC1.out.mono ?_
 rw [<-HE0.out]
 rintro r w1 ⟨hb1,nW,dW,rfl,hoW⟩
 have hr1:=HR0.out.below hb1
 have hs1:=hb1.size
 have c10:=cl0 hr1.b0 0 (x:=.slice aW h.words.length cW) rfl
 have z10:=zcf hr1.b0 0
 have l10:=lt0 hr1.b0
 have hg1:w1.grownBy (w1.setCell ⟨w.heap.size,0,none⟩ (.slice nW h.words.length dW)) (some w.heap.size):=za8 (World.grownBy.refl _ _) _ _ (Or.inl rfl)
 obtain ⟨W1,hW1⟩:∃W1,W1=w1.setCell ⟨w.heap.size,0,none⟩ (.slice nW h.words.length dW):=⟨_,rfl⟩
 rw [<-hW1]at hg1
 have hb10:W1.heap[w.heap.size]? =some (.cells #[.slice nW h.words.length dW,.int .i64 h.young,.int .i64 h.old,.int .i64 h.ytop,.int .i64 h.otop,.slice aO h.noted.length cO,.int .i64 h.next] 24 (0,0)):=hW1 ▸ zg6 hr1.b0 _
 have hk1:Kp (· <B) w1 W1:=⟨hg1.size,fun k hk hl=>hg1.block k hl (by have:=HR0.out.le;intro e;injection e;omega)⟩
 have c15:=cl0 hr1.b0 5 (x:=.slice aO h.noted.length cO) rfl
 have HWE:=mk0 hW1
 have hs11:=hg1.size
 have HC2:=mk0 (zmf W1 (· <B) _ _ (hr1.sO.keptI hk1) HL2.out)
 have hoW1:W1.ownsRow W0.heap.size 3 1 (.slice nW h.words.length dW) h.words.length (intV h.words):=hoW.kept hg1 (Or.inr fun e=>by have:=(hoW.lt _ e).1;have:=HS0.out;omega)
 have HOW1:=mk0 hoW1
 have hb11:W1.heap[w.heap.size+1]? =some (.cells #[.slice aC d.classes.length cC,.slice aS d.supers.length cS,.slice aF d.fields.length cF,.slice aN d.names.length cN,.slice aT d.targets.length cT] 36 (0,0)):=(hg1.block _ (lt0 hr1.b1) (by simp)).trans hr1.b1
 have hb12:W1.heap[w.heap.size+2]? =some (.cells #[.slice none 0 0,.int .i64 0,.int .i64 0,.int .i64 0,.int .i64 0,.slice none 0 0,.int .i64 0,.slice none 0 0,.slice none 0 0,.slice none 0 0,.slice none 0 0,.slice none 0 0] 129 (0,0)):=(hg1.block _ (Nat.lt_of_lt_of_le (lt0 HB2.out) hs1) (by simp)).trans ((hb1.block _ (lt0 HB2.out)).trans HB2.out)
 have HBS:=mk0 (And.intro hb10 (And.intro hb11 hb12))
 have HBW1:Hid (Below w.heap.size w W1):=bg0 (HB0.out.trans (hb1.mono HB0.out.size)) hg1 (Nat.le_refl _)
 clear hr1 hb1 hoW hg1 hW1 hk1 hoW1 hb10 hb11 hb12 HC1
 go_wp2_with fail
 rw [<-HWE.out]
 refine HC2.out.mono ?_
 rintro r w2 ⟨hb2,nO,dO,rfl,hoO⟩
 obtain ⟨k0,k1,k2⟩:=HBS.out
 have hs2:=hb2.size
 have e0:=(hb2.block _ (lt0 k0)).trans k0
 have e1:=(hb2.block _ (lt0 k1)).trans k1
 have e2:=(hb2.block _ (lt0 k2)).trans k2
 have c25:=cl0 e0 5 (x:=.slice aO h.noted.length cO) rfl
 have z25:=zcf e0 5
 have l25:=lt0 e0
 have hg2:w2.grownBy (w2.setCell ⟨w.heap.size,5,none⟩ (.slice nO h.noted.length dO)) (some w.heap.size):=za8 (World.grownBy.refl _ _) _ _ (Or.inl rfl)
 obtain ⟨W2,hW2⟩:∃W2,W2=w2.setCell ⟨w.heap.size,5,none⟩ (.slice nO h.noted.length dO):=⟨_,rfl⟩
 rw [<-hW2]at hg2
 have HWF:=mk0 hW2
 have f0:W2.heap[w.heap.size]? =some (.cells #[.slice nW h.words.length dW,.int .i64 h.young,.int .i64 h.old,.int .i64 h.ytop,.int .i64 h.otop,.slice nO h.noted.length dO,.int .i64 h.next] 24 (0,0)):=hW2 ▸ zg6 e0 _
 have f1:=(hg2.block _ (lt0 e1) (by simp)).trans e1
 have f2:=(hg2.block _ (lt0 e2) (by simp)).trans e2
 have lf0:=lt0 e0
 have lf1:=lt0 e1
 have lf2:=lt0 e2
 have zf2:=fun j=>zcf e2 j
 have u0:=cl0 e0 0 (x:=.slice nW h.words.length dW) rfl
 have u1:=cl0 e0 1 (x:=.int .i64 h.young) rfl
 have u2:=cl0 e0 2 (x:=.int .i64 h.old) rfl
 have u3:=cl0 e0 3 (x:=.int .i64 h.ytop) rfl
 have u4:=cl0 e0 4 (x:=.int .i64 h.otop) rfl
 have u5:=cl0 e0 5 (x:=.slice aO h.noted.length cO) rfl
 have u6:=cl0 e0 6 (x:=.int .i64 h.next) rfl
 have y0:=cl0 e1 0 (x:=.slice aC d.classes.length cC) rfl
 have y1:=cl0 e1 1 (x:=.slice aS d.supers.length cS) rfl
 have y2:=cl0 e1 2 (x:=.slice aF d.fields.length cF) rfl
 have y3:=cl0 e1 3 (x:=.slice aN d.names.length cN) rfl
 have y4:=cl0 e1 4 (x:=.slice aT d.targets.length cT) rfl
 have v0:=cl0 e2 0 (x:=.slice none 0 0) rfl
 have v1:=cl0 e2 1 (x:=.int .i64 0) rfl
 have v2:=cl0 e2 2 (x:=.int .i64 0) rfl
 have v3:=cl0 e2 3 (x:=.int .i64 0) rfl
 have v4:=cl0 e2 4 (x:=.int .i64 0) rfl
 have v5:=cl0 e2 5 (x:=.slice none 0 0) rfl
 have v6:=cl0 e2 6 (x:=.int .i64 0) rfl
 have v7:=cl0 e2 7 (x:=.slice none 0 0) rfl
 have v8:=cl0 e2 8 (x:=.slice none 0 0) rfl
 have v9:=cl0 e2 9 (x:=.slice none 0 0) rfl
 have v10:=cl0 e2 10 (x:=.slice none 0 0) rfl
 have v11:=cl0 e2 11 (x:=.slice none 0 0) rfl
 have hsz2:=hg2.size
 have HOV:Hid (OwnV w.heap.size W2 (.slice nW h.words.length dW) (.slice nO h.noted.length dO) h):=by
  have hneW:∀k,(Value.slice nW h.words.length dW).ownBlock=some k->W0.heap.size<=k/\k<W1.heap.size:=fun k e=>HOW1.out.lt k e
  have hneO:∀k,(Value.slice nO h.noted.length dO).ownBlock=some k->W1.heap.size<=k:=fun k e=>(hoO.lt k e).1
  refine ⟨zhp ((zhj HOW1.out hb2).kept hg2 (Or.inr fun e=>by have:=(hneW _ e).1;have:=HS0.out;omega)) (by have:=HS0.out;omega),zhp (hoO.kept hg2 (Or.inr fun e=>by have:=hneO _ e;have:=HBW1.out.size;omega)) (by have:=HBW1.out.size;omega),fun k e1 e2=>?_⟩
  have:=(hneW k e1).2
  have:=hneO k e2
  omega
 have hB2:Below w.heap.size w W2:=bg0 (HBW1.out.trans (hb2.mono HBW1.out.size)) hg2 (Nat.le_refl _)
 obtain ⟨W9,h9,hgS,hq,hr,rz,rl⟩:=setN (zs:=[.slice none 0 0,.int .i64 0,.int .i64 0,.int .i64 0,.int .i64 0,.slice none 0 0,.int .i64 0,.slice none 0 0,.slice none 0 0,.slice none 0 0,.slice none 0 0,.slice none 0 0]) f2 [.slice nW h.words.length dW,.int .i64 h.young,.int .i64 h.old,.int .i64 h.ytop,.int .i64 h.otop,.slice nO h.noted.length dO,.int .i64 h.next,.slice aC d.classes.length cC,.slice aS d.supers.length cS,.slice aF d.fields.length cF,.slice aN d.names.length cN,.slice aT d.targets.length cT] rfl
 have r0:=hr 0 _ rfl
 have r1:=hr 1 _ rfl
 have r2:=hr 2 _ rfl
 have r3:=hr 3 _ rfl
 have r4:=hr 4 _ rfl
 have r5:=hr 5 _ rfl
 have r6:=hr 6 _ rfl
 have r7:=hr 7 _ rfl
 have r8:=hr 8 _ rfl
 have r9:=hr 9 _ rfl
 have r10:=hr 10 _ rfl
 have r11:=hr 11 _ rfl
 have q0:=hq 0 _ rfl
 have q1:=hq 1 _ rfl
 have q2:=hq 2 _ rfl
 have q3:=hq 3 _ rfl
 have q4:=hq 4 _ rfl
 have q5:=hq 5 _ rfl
 have q6:=hq 6 _ rfl
 have q7:=hq 7 _ rfl
 have q8:=hq 8 _ rfl
 have q9:=hq 9 _ rfl
 have q10:=hq 10 _ rfl
 have q11:=hq 11 _ rfl
 have hw9:=hgS.size
 have HB9:=mk0 (bg0 (hB2) hgS (by omega))
 have HG9:=mk0 hgS
 simp only [setL,Nat.reduceAdd]at h9
 have H9:=mk0 h9
 clear hgS hq hr h9
 have HOF:Hid (OwnV w.heap.size W9 (.slice nW h.words.length dW) (.slice nO h.noted.length dO) h):=HOV.out.grown HG9.out (fun e=>by
  obtain ⟨h1,h2⟩:=HOW1.out.lt _ e
  have:=HS0.out
  have h3:w.heap.size+2<W0.heap.size:=by omega
  omega) (fun e=>by
  have h1:=(hoO.lt _ e).1
  have:=lt0 k2
  omega)
 clear r0 r1 r2 r3 r4 r5 r6 r7 r8 r9 r10 r11 rz rl
 clear hb2 hoO k0 k1 k2 e0 e1 e2 f0 f1 f2 hg2 hW2 hB2 HBS HC2 c10 z10 c15 c25 l10
 go_wp2_with fail
 rw [<-HWF.out,H9.out]
 exact bodyPost_ret (v:=.agg #[.slice nW h.words.length dW,.int .i64 h.young,.int .i64 h.old,.int .i64 h.ytop,.int .i64 h.otop,.slice nO h.noted.length dO,.int .i64 h.next,.slice aC d.classes.length cC,.slice aS d.supers.length cS,.slice aF d.fields.length cF,.slice aN d.names.length cN,.slice aT d.targets.length cT]) (by simp [results,Tryz.results137,go_sem,q0,q1,q2,q3,q4,q5,q6,q7,q8,q9,q10,q11]) rfl ⟨HB9.out,nW,dW,nO,dO,rfl,HOF.out⟩

def topOf (h:HeapD) (old:Bool):Int:=if old then h.otop else h.ytop
def endOf (h:HeapD) (old:Bool):Int:=if old then (h.words.length:Int) else h.young+1
def roomB (h:HeapD) (old:Bool) (len:Int):Bool:=decide (topOf h old+3+len<=endOf h old)
def topCell (old:Bool):Nat:=if old then 4 else 3
theorem zmi (w:World) (B c:Nat) (vW vO kC kS kF kN kT:Value) (h:HeapD) (d:LinkD) (g:Gd B w c vW vO kC kS kF kN kT h d) (old:Bool) (hy:0<=h.young/\h.young<=1000000):
 Calls Tryz.prog 187 #[.pointer (some ⟨c,0,none⟩),.bool old] w fun r w'=>r=.returned (.tuple #[.pointer (some ⟨c,topCell old,none⟩),.int .i64 (endOf h old)])/\∃q,w'=w.drewN q:=by
 have hl:=g.lt
 have c0:=g.c0
 have c1:=g.c1
 obtain ⟨aW,cW,rfl,-,hm,-⟩:=g.sW
 unfold maxLen at hm
 have wy:IntKind.i64.wrap (h.young+1)=h.young+1:=ws0 _ (by omega) (by omega)
 clear g
 cases old with
 | true=>
   go_enter Tryz.func187,Tryz.ntmps187
   go_wp2_with fail
   go_quiet (fail)
   go_wp2_with fail
   go_ret2
   exact ⟨rfl,_,rfl⟩
 | false=>
   go_enter Tryz.func187,Tryz.ntmps187
   go_wp2_with fail
   go_quiet (fail)
   go_wp2_with fail
   go_ret2
   exact ⟨rfl,_,rfl⟩
theorem zmj (w:World) (B c:Nat) (vW vO kC kS kF kN kT:Value) (h:HeapD) (d:LinkD) (g:Gd B w c vW vO kC kS kF kN kT h d) (old:Bool) (len:Int) (hy:0<=h.young/\h.young<=1000000) (ht:0<=topOf h old/\topOf h old<=1000000) (hn:0<=len/\len<=1000000):
 Calls Tryz.prog 156 #[.pointer (some ⟨c,0,none⟩),.int .i64 len,.bool old] w fun r w'=>r=.returned (.bool (roomB h old len))/\Below w.heap.size w w':=by
 have HPA:=mk0 (zmi w B c _ _ _ _ _ _ _ h d g old hy)
 have hl:=g.lt
 have ct:w.cell? ⟨c,topCell old,none⟩=some (.int .i64 (topOf h old)):=by
  cases old
  ·
   exact g.c3
  exact g.c4
 have HRM:Hid (roomB h old len=decide (topOf h old+3+len<=endOf h old)):=rfl
 clear g
 generalize topOf h old=tp at*
 generalize endOf h old=en at*
 generalize topCell old=tc at*
 have w1:IntKind.i64.wrap (tp+3)=tp+3:=ws0 _ (by omega) (by omega)
 have w2:IntKind.i64.wrap (tp+3+len)=tp+3+len:=ws0 _ (by omega) (by omega)
 go_enter Tryz.func156,Tryz.ntmps156
 go_wp2_with fail
 refine HPA.out.mono ?_
 rintro r w1 ⟨rfl,q,rfl⟩
 have HB:Hid (Below w.heap.size w (w.drewN q)):=zdq (Below.refl _ _) q
 clear HPA
 go_wp2_with fail
 go_ret
 exact ⟨by rw [HRM.out];rfl,HB.out⟩
end Go.Proofs.YtjdnmblggdobgaaGreat
