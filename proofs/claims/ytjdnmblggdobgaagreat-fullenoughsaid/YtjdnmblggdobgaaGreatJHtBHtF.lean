import Derived.Test.YtjdnmblggdobgaaGreatJHpKHtA
import Derived.Test.YtjdnmblggdobgaaGreatJHmCBx
set_option maxHeartbeats 2000000
set_option maxRecDepth 100000
namespace Go.Proofs.YtjdnmblggdobgaaGreat
open Go.RowKit Go.Maps Tryz
def xo (y o:Int):ar:=⟨List.replicate (1+y+o).toNat 0,y,o,1,y+1,[],1⟩
def Ew (w:World) (y o:Int) (r:Ending) (w':World):Prop:=
 (jb y=true/\jb o=true/\∃v,r=.returned (.tuple #[.agg #[v,.i y,.i o,.i 1,.i (y+1),.nl,.i 1],.i 0])/\w'.ownsRow w.heap.size 3 1 v (xo y o).ab.length (bw (xo y o).ab))\/
  ((jb y&&jb o)=false/\r=.returned (.tuple #[.agg #[.nl,.i 0,.i 0,.i 0,.i 0,.nl,.i 0],.i 3]))
theorem zlj (w:World) (y o:Int):Calls prog 17 #[.i y,.i o] w fun r w'=>Bl w w'/\Ew w y o r w':=by
 obtain ⟨iI,ak,ac,ad,af⟩:=info_parts jy;have X:Hid (∀W,Calls prog 48 #[.i y] W fun r w'=>r=.returned (.bool (jb y))/\w'=W):=fun W=>zew W _;have HO:Hid (∀W,Calls prog 48 #[.i o] W fun r w'=>r=.returned (.bool (jb o))/\w'=W):=fun W=>zew W _;have L:=ag (fun A=>(br w.heap.size w).alloc (nlq _) A);cases hy:jb y with
 | false=>
   rw [hy]at X;have HR:Hid ((jb y&&jb o)=false):=by show _=_;rw [hy];rfl
   clear hy;go_enter func17,ntmps17;go_wp2_with fail;refine (X.o _).mono ?_;rintro r _ ⟨rfl,rfl⟩;go_wp2_with fail;exact bodyPost_ret (v:=.tuple #[.agg #[.nl,.i 0,.i 0,.i 0,.i 0,.nl,.i 0],.i 3]) (by simp [results,results17,go_sem]) rfl ⟨L.o _,Or.inr ⟨HR.o,rfl⟩⟩
 | true=>
   rw [hy]at X;cases ho:jb o with
   | false=>
     rw [ho]at HO;have HR:Hid ((jb y&&jb o)=false):=by show _=_;rw [hy,ho];rfl
     clear hy ho;go_enter func17,ntmps17;go_wp2_with fail;refine (X.o _).mono ?_;rintro r _ ⟨rfl,rfl⟩;go_wp2_with fail;refine (HO.o _).mono ?_;rintro r _ ⟨rfl,rfl⟩;go_wp2_with fail;exact bodyPost_ret (v:=.tuple #[.agg #[.nl,.i 0,.i 0,.i 0,.i 0,.nl,.i 0],.i 3]) (by simp [results,results17,go_sem]) rfl ⟨L.o _,Or.inr ⟨HR.o,rfl⟩⟩
   | true=>
     rw [ho]at HO;have aj:=ag hy;have ai:=ag ho;unfold jb at hy ho;simp only [Bool.and_eq_true,decide_eq_true_eq]at hy ho;obtain ⟨y1,y2⟩:=hy;obtain ⟨o1,o2⟩:=ho;have w1:IntKind.i64.wrap (1+y)=1+y:=gp _ (by omega) (by omega);have w2:IntKind.i64.wrap (1+y+o)=1+y+o:=gp _ (by omega) (by omega);have w3:IntKind.i64.wrap (y+1)=y+1:=gp _ (by omega) (by omega);go_enter func17,ntmps17;go_wp2_with fail;refine (X.o _).mono ?_;rintro r _ ⟨rfl,rfl⟩;go_wp2_with fail;refine (HO.o _).mono ?_;rintro r _ ⟨rfl,rfl⟩;obtain ⟨n,hn⟩:∃n:Nat,1+y+o=(n:Int):=⟨(1+y+o).toNat,by omega⟩;have an:n<=5000:=by omega
     have HN:=ag hn;have N:Hid (iI.bytes*n<=281474976710656/\n<=maxLen/\w.heap.size<=(w.alloc (.cells #[.nl,.i 0,.i 0,.i 0,.i 0,.nl,.i 0] 24)).heap.size):=⟨by rw [af];omega,by unfold maxLen;omega,by simp⟩;clear hn;go_wp2_with (refine wpList_make_full _ rfl _ _ 22 rfl w.heap.size 3 iI (.i 0) 1 underlying22 ak ac ad .i64 .i64 (1+y+o) (1+y+o) n rfl rfl HN.o HN.o N.o.1 N.o.2.1 N.o.2.2 ?_);intro V I O;have D:V.heap[w.heap.size]? =some (.cells #[.nl,.i 0,.i 0,.i 0,.i 0,.nl,.i 0] 24 (0,0)):=(O.block w.heap.size (by simp) (by simp)).trans (heap_alloc_new w _);have r0:=bp D 0 (x:=.nl) rfl;have r1:=bp D 1 (x:=.i 0) rfl;have r2:=bp D 2 (x:=.i 0) rfl;have r3:=bp D 3 (x:=.i 0) rfl;have r4:=bp D 4 (x:=.i 0) rfl;have r5:=bp D 5 (x:=.nl) rfl;have r6:=bp D 6 (x:=.i 0) rfl;have rz:=fun j=>pj D j;have rl:=bz D;have al:=ag I;have Y:Bl w V:=(L.o _).grown O (by simp) (fun k e=>by cases e);have ah:=ag Y;have J:V.ownsRow w.heap.size 3 1 (.slice (some ⟨w.heap.size+1,0,none⟩) n n) n (madeCells #[Value.int .i64 0] n).toList:=I;obtain ⟨G,F,-⟩:=zlg w.heap.size [.slice (some ⟨w.heap.size+1,0,none⟩) n n,.i y,.i o,.i 1,.i (y+1),.nl,.i 1] V 0 (fun j hj=>by
      rw [Nat.zero_add];match j,hj with
      | 0,_=>exact ⟨_,r0⟩
      | 1,_=>exact ⟨_,r1⟩
      | 2,_=>exact ⟨_,r2⟩
      | 3,_=>exact ⟨_,r3⟩
      | 4,_=>exact ⟨_,r4⟩
      | 5,_=>exact ⟨_,r5⟩
      | 6,_=>exact ⟨_,r6⟩
      )
     obtain ⟨E,h9⟩:∃E,pf V w.heap.size 0 [.slice (some ⟨w.heap.size+1,0,none⟩) n n,.i y,.i o,.i 1,.i (y+1),.nl,.i 1]=E:=⟨_,rfl⟩;rw [h9]at G F;have ao:=G.size;have q0:∀A:Obj,(E.alloc A).cell? ⟨w.heap.size,0,none⟩=some (.slice (some ⟨w.heap.size+1,0,none⟩) n n):=fun A=>(((br E.heap.size E).alloc (nlq _) A).cell (p:=⟨w.heap.size,0,none⟩) (by show w.heap.size<_;omega)).trans ((F 0 (by simp)).trans rfl);have q1:∀A:Obj,(E.alloc A).cell? ⟨w.heap.size,1,none⟩=some (.i y):=fun A=>(((br E.heap.size E).alloc (nlq _) A).cell (p:=⟨w.heap.size,1,none⟩) (by show w.heap.size<_;omega)).trans ((F 1 (by simp)).trans rfl);have q2:∀A:Obj,(E.alloc A).cell? ⟨w.heap.size,2,none⟩=some (.i o):=fun A=>(((br E.heap.size E).alloc (nlq _) A).cell (p:=⟨w.heap.size,2,none⟩) (by show w.heap.size<_;omega)).trans ((F 2 (by simp)).trans rfl);have q3:∀A:Obj,(E.alloc A).cell? ⟨w.heap.size,3,none⟩=some (.i 1):=fun A=>(((br E.heap.size E).alloc (nlq _) A).cell (p:=⟨w.heap.size,3,none⟩) (by show w.heap.size<_;omega)).trans ((F 3 (by simp)).trans rfl);have q4:∀A:Obj,(E.alloc A).cell? ⟨w.heap.size,4,none⟩=some (.i (y+1)):=fun A=>(((br E.heap.size E).alloc (nlq _) A).cell (p:=⟨w.heap.size,4,none⟩) (by show w.heap.size<_;omega)).trans ((F 4 (by simp)).trans rfl);have q5:∀A:Obj,(E.alloc A).cell? ⟨w.heap.size,5,none⟩=some (.nl):=fun A=>(((br E.heap.size E).alloc (nlq _) A).cell (p:=⟨w.heap.size,5,none⟩) (by show w.heap.size<_;omega)).trans ((F 5 (by simp)).trans rfl);have q6:∀A:Obj,(E.alloc A).cell? ⟨w.heap.size,6,none⟩=some (.i 1):=fun A=>(((br E.heap.size E).alloc (nlq _) A).cell (p:=⟨w.heap.size,6,none⟩) (by show w.heap.size<_;omega)).trans ((F 6 (by simp)).trans rfl);have Z:Bl w E:=rn ah.o G (nlq _);have aa:=J.kept G (Or.inr fun e=>by have e:w.heap.size+1=w.heap.size:=ojq e;omega);have HD:Hid ((xo y o).ab.length=n/\bw (xo y o).ab=(madeCells #[Value.int .i64 0] n).toList):=by
      have e:(1+y+o).toNat=n:=by have:=HN.o;omega
      refine ⟨by unfold xo;rw [e];simp,?_⟩;unfold xo;rw [e];have e2:(madeCells #[Value.int .i64 0] n).toList=List.replicate n (Value.int .i64 0):=by rw [List.eq_replicate_iff];refine ⟨by simp [madeCells],fun b hb=>?_⟩;simp [madeCells,Nat.mod_one]at hb;exact hb.2.symm
      rw [e2];simp [bw]
     have H9:Hid ((((((((V.setCell ⟨w.heap.size,0,none⟩ (.slice (some ⟨w.heap.size+1,0,none⟩) n n)).setCell ⟨w.heap.size,1,none⟩ (.i y)).setCell ⟨w.heap.size,2,none⟩ (.i o)).setCell ⟨w.heap.size,3,none⟩ (.i 1)).setCell ⟨w.heap.size,4,none⟩ (.i (y+1))).setCell ⟨w.heap.size,5,none⟩ (.nl)).setCell ⟨w.heap.size,6,none⟩ (.i 1))=E):=h9;have l9:w.heap.size<E.heap.size:=by omega
     have HF:Hid (∀A:Obj,Bl w (E.alloc A)/\(E.alloc A).ownsRow w.heap.size 3 1 (.slice (some ⟨w.heap.size+1,0,none⟩) n n) (xo y o).ab.length (bw (xo y o).ab)):=fun A=>by rw [HD.o.1,HD.o.2];exact ⟨Z.alloc (by omega) _,aa.alloc _⟩
     clear I J O Y D G F h9 Z aa;go_wp2_with fail;rw [H9.o];exact bodyPost_ret (v:=.tuple #[.agg #[.slice (some ⟨w.heap.size+1,0,none⟩) n n,.i y,.i o,.i 1,.i (y+1),.nl,.i 1],.i 0]) (by simp [results,results17,go_sem,q0,q1,q2,q3,q4,q5,q6]) rfl ⟨(HF.o _).1,Or.inl ⟨aj.o,ai.o,_,rfl,(HF.o _).2⟩⟩

theorem Dc (c:Nat) (w:World):(binOp BinOp.eql 22 (.slice none 0 c) (.nl)).run prog w=.ok (.bool true) w:=by kernel_rfl
theorem Di (a:Addr) (n c:Nat) (w:World):(binOp BinOp.eql 22 (.slice (some a) n c) (.nl)).run prog w=.ok (.bool false) w:=by kernel_rfl
theorem nilGI:prog.eqGuardType prog.depth 22=false:=by kernel_rfl
theorem zlm (w:World) (M:Nat->Prop) (v:Value) (l:List Int) (X:SL 1 RI M w v l) (hl:l.length<=1000000):
 Calls prog 71 #[v] w fun r w'=>Bl w w'/\∃a c,r=.returned (.slice a l.length c)/\w'.ownsRow w.heap.size 3 1 (.slice a l.length c) l.length (bw l):=by
 have aa:=Dc;have af:=Di;have ac:=nilGI;have Z:=ag X;obtain ⟨ao,W,rfl,-,-,F⟩:=X;cases ao with
 | none=>
   have N:l= []:=by
    cases l with
    | nil=>rfl
    | cons x l=>obtain ⟨b,off,cs,e,-⟩:=F 0 (by simp);cases e
   subst N;clear F;go_enter func71,ntmps71;go_wp2_with fail;go_ret;exact ⟨br _ _,_,_,rfl,World.ownsRow_nil _ _ _ _⟩
 | some ad=>
   have E:Hid (Bl w (w.alloc (.cells #[] 3))):=(br _ _).alloc (nlq _) _;have I:=ag (Fl w 3 1);have J:Hid (SL 1 RI M (w.alloc (.cells #[] 3)) (.slice (some ad) l.length W) l):=Z.o.keptI ⟨E.o.size,fun b hb O=>E.o.block b O⟩;have G:Hid (([]:List Int).length+l.length<=1000000/\w.heap.size<=(w.alloc (.cells #[] 3)).heap.size):=⟨by rw [List.length_nil,Nat.zero_add];exact hl,by simp⟩;clear F;go_enter func71,ntmps71;go_wp2_with (at_builtin;refine zis _ rfl _ _ rfl w.heap.size (.slice (some ⟨w.heap.size,0,none⟩) 0 0) [] rfl I.o M (.slice (some ad) l.length W) l rfl J.o G.o.1 G.o.2 ?_);intro v2 Y A D;have L:Bl w Y:=E.o.grown D (by simp) (fun k e=>by cases e;exact nlq _);have A:Y.ownsRow w.heap.size 3 1 v2 l.length (bw l):=A;obtain ⟨a2,c2,rfl⟩:=kq A;have V:=ag (And.intro L A);clear L A D J I;go_wp2_with fail;go_ret;exact ⟨V.o.1,_,_,rfl,V.o.2⟩
structure ni (b:Nat) (w:World) (nW nO:Value) (h:ar):Prop where
 rW:w.ownsRow b 3 1 nW h.ab.length (bw h.ab)
 rO:w.ownsRow b 3 1 nO h.am.length (bw h.am)
 ne:∀k,nW.ownBlock=some k->nO.ownBlock≠some k
theorem ni.below {b:Nat} {w w':World} {E D:Value} {h:ar} (o:ni b w E D h) (A:Bl w w'):ni b w' E D h:=⟨mf o.rW A,mf o.rO A,o.ne⟩
theorem ni.mono {b A:Nat} {w:World} {F E:Value} {h:ar} (o:ni b w F E h) (D:A<=b):ni A w F E h:=⟨yy o.rW D,yy o.rO D,o.ne⟩
theorem ni.grown {b g:Nat} {w w':World} {D A:Value} {h:ar} (o:ni b w D A h) (E:w.grownBy w' (some g)) (h1:D.ownBlock≠some g) (F:A.ownBlock≠some g):ni b w' D A h:=⟨o.rW.kept E (Or.inr h1),o.rO.kept E (Or.inr F),o.ne⟩
def Ex (w:World) (h:ar) (kC kS kF kN kT:Value) (r:Ending) (w':World):Prop:=
 ∃nW dW nO dO,r=.returned (.agg #[.slice nW h.ab.length dW,.i h.ae,.i h.old,.i h.bo,.i h.ba,.slice nO h.am.length dO,.i h.next,kC,kS,kF,kN,kT])/\ni w.heap.size w' (.slice nW h.ab.length dW) (.slice nO h.am.length dO) h
theorem zln (w:World) (B:Nat) (vW vO kC kS kF kN kT:Value) (h:ar) (d:bd) (sW:SL 1 RI (· <B) w vW h.ab) (sO:SL 1 RI (· <B) w vO h.am) (lk:mt (· <B) w kC kS kF kN kT d) (hB:B<=w.heap.size) (a7:h.ab.length<=1000000) (a8:h.am.length<=1000000):
 Calls prog 137 #[.agg #[vW,.i h.ae,.i h.old,.i h.bo,.i h.ba,vO,.i h.next],.agg #[kC,kS,kF,kN,kT]] w fun r w'=>Bl w w'/\Ex w h kC kS kF kN kT r w':=by
 obtain ⟨Z,J⟩:∃Z,Z=((w.alloc (.cells #[vW,.i h.ae,.i h.old,.i h.bo,.i h.ba,vO,.i h.next] 24)).alloc (.cells #[kC,kS,kF,kN,kT] 36)).alloc (.cells #[.nl,.i 0,.i 0,.i 0,.i 0,.nl,.i 0,.nl,.nl,.nl,.nl,.nl] 129):=⟨_,rfl⟩;have a4:Bl w Z:=J ▸ (((br _ _).alloc (nlq _) _).alloc (by simp) _).alloc (by simp;omega) _;have ay:Rd w.heap.size B Z vW vO kC kS kF kN kT h d:=J ▸ (Rd.new w B _ _ _ _ _ _ _ h d hB sW sO lk).below ((br _ _).alloc (nlq _) _);have A:Z.heap[w.heap.size+2]? =some (.cells #[.nl,.i 0,.i 0,.i 0,.i 0,.nl,.i 0,.nl,.nl,.nl,.nl,.nl] 129 (0,0)):=by have:=heap_alloc_new ((w.alloc (.cells #[vW,.i h.ae,.i h.old,.i h.bo,.i h.ba,vO,.i h.next] 24)).alloc (.cells #[kC,kS,kF,kN,kT] 36)) (.cells #[.nl,.i 0,.i 0,.i 0,.i 0,.nl,.i 0,.nl,.nl,.nl,.nl,.nl] 129);rw [<-J]at this;simpa using this
 have a9:Z.heap.size=w.heap.size+3:=by rw [J];simp
 have av:=ag (zlm Z (· <B) _ _ ay.sW a7);have a3:=ag ay;have az:=ag a4;have au:=ag A;have a2:=ag J;have aa:=ag a9;have be:=ag a8;obtain ⟨aC,cC,aS,cS,aF,cF,aN,cN,aT,cT,rfl,rfl,rfl,rfl,rfl⟩:=lk.agg;obtain ⟨aW,cW,rfl,-⟩:=sW;obtain ⟨aO,cO,rfl,-⟩:=sO;rw [a2.o]at av;clear lk ay a4 A J a9 a8 a7;go_enter func137,ntmps137;go_wp2_with fail;refine av.o.mono ?_;rw [<-a2.o];rintro r w1 ⟨X,Y,W,rfl,aw⟩;have F:=a3.o.below X;have bu:=X.size;have bm:=bp F.b0 0 (x:=.slice aW h.ab.length cW) rfl;have b5:=pj F.b0 0;have bv:=bz F.b0;have E:w1.grownBy (w1.setCell ⟨w.heap.size,0,none⟩ (.slice Y h.ab.length W)) (some w.heap.size):=ow (World.grownBy.refl _ _) _ _ (Or.inl rfl);obtain ⟨V,ac⟩:∃V,V=w1.setCell ⟨w.heap.size,0,none⟩ (.slice Y h.ab.length W):=⟨_,rfl⟩;rw [<-ac]at E;have ai:V.heap[w.heap.size]? =some (.cells #[.slice Y h.ab.length W,.i h.ae,.i h.old,.i h.bo,.i h.ba,.slice aO h.am.length cO,.i h.next] 24 (0,0)):=ac ▸ rr F.b0 _;have a6:Kp (· <B) w1 V:=⟨E.size,fun k hk hl=>E.block k hl (by have:=a3.o.le;intro e;injection e;omega)⟩;have bn:=bp F.b0 5 (x:=.slice aO h.am.length cO) rfl;have bi:=ag ac;have b6:=E.size;have a1:=ag (zlm V (· <B) _ _ (F.sO.keptI a6) be.o);have ap:V.ownsRow Z.heap.size 3 1 (.slice Y h.ab.length W) h.ab.length (bw h.ab):=aw.kept E (Or.inr fun e=>by have:=(aw.lt _ e).1;have:=aa.o;omega);have O:=ag ap;have ak:V.heap[w.heap.size+1]? =some (.cells #[.slice aC d.aj.length cC,.slice aS d.bg.length cS,.slice aF d.fields.length cF,.slice aN d.names.length cN,.slice aT d.ax.length cT] 36 (0,0)):=(E.block _ (bz F.b1) (by simp)).trans F.b1;have al:V.heap[w.heap.size+2]? =some (.cells #[.nl,.i 0,.i 0,.i 0,.i 0,.nl,.i 0,.nl,.nl,.nl,.nl,.nl] 129 (0,0)):=(E.block _ (ll3 (bz au.o) bu) (by simp)).trans ((X.block _ (bz au.o)).trans au.o);have a0:=ag (And.intro ai (And.intro ak al));have I:Hid (Bl w V):=rn (az.o.trans (X.mono az.o.size)) E (nlq _);clear F X aw E ac a6 ap ai ak al av;go_wp2_with fail;rw [<-bi.o];refine a1.o.mono ?_;rintro r w2 ⟨A,nO,dO,rfl,ah⟩;obtain ⟨k0,k1,k2⟩:=a0.o;have ca:=A.size;have e0:=(A.block _ (bz k0)).trans k0;have e1:=(A.block _ (bz k1)).trans k1;have D:=(A.block _ (bz k2)).trans k2;have bs:=bp e0 5 (x:=.slice aO h.am.length cO) rfl;have cl:=pj e0 5;have ce:=bz e0;have G:w2.grownBy (w2.setCell ⟨w.heap.size,5,none⟩ (.slice nO h.am.length dO)) (some w.heap.size):=ow (World.grownBy.refl _ _) _ _ (Or.inl rfl);obtain ⟨W2,ad⟩:∃W2,W2=w2.setCell ⟨w.heap.size,5,none⟩ (.slice nO h.am.length dO):=⟨_,rfl⟩;rw [<-ad]at G;have bl:=ag ad;have f0:W2.heap[w.heap.size]? =some (.cells #[.slice Y h.ab.length W,.i h.ae,.i h.old,.i h.bo,.i h.ba,.slice nO h.am.length dO,.i h.next] 24 (0,0)):=ad ▸ rr e0 _;have f1:=(G.block _ (bz e1) (by simp)).trans e1;have f2:=(G.block _ (bz D) (by simp)).trans D;have cf:=bz e0;have ch:=bz e1;have ci:=bz D;have cm:=fun j=>pj D j;have uk:=ip e0;have yk:=cells5 e1;have v0:=bp D 0 (x:=.nl) rfl;have v1:=bp D 1 (x:=.i 0) rfl;have v2:=bp D 2 (x:=.i 0) rfl;have v3:=bp D 3 (x:=.i 0) rfl;have v4:=bp D 4 (x:=.i 0) rfl;have v5:=bp D 5 (x:=.nl) rfl;have v6:=bp D 6 (x:=.i 0) rfl;have v7:=bp D 7 (x:=.nl) rfl;have v8:=bp D 8 (x:=.nl) rfl;have v9:=bp D 9 (x:=.nl) rfl;have cj:=bp D 10 (x:=.nl) rfl;have ck:=bp D 11 (x:=.nl) rfl;have b7:=G.size;have bh:Hid (ni w.heap.size W2 (.slice Y h.ab.length W) (.slice nO h.am.length dO) h):=by have ao:∀k,(Value.slice Y h.ab.length W).ownBlock=some k->Z.heap.size<=k/\k<V.heap.size:=fun k e=>O.o.lt k e;have an:∀k,(Value.slice nO h.am.length dO).ownBlock=some k->V.heap.size<=k:=fun k e=>(ah.lt k e).1;refine ⟨yy ((mf O.o A).kept G (Or.inr fun e=>by have:=(ao _ e).1;have:=aa.o;omega)) (by have:=aa.o;omega),yy (ah.kept G (Or.inr fun e=>by have:=an _ e;have:=I.o.size;omega)) (by have:=I.o.size;omega),fun k e1 D=>?_⟩;have:=(ao k e1).2;have:=an k D;omega
 have a5:Bl w W2:=rn (I.o.trans (A.mono I.o.size)) G (nlq _);obtain ⟨W9,h9,af,L,N,rz,rl⟩:=B7 f2 [.slice Y h.ab.length W,.i h.ae,.i h.old,.i h.bo,.i h.ba,.slice nO h.am.length dO,.i h.next,.slice aC d.aj.length cC,.slice aS d.bg.length cS,.slice aF d.fields.length cF,.slice aN d.names.length cN,.slice aT d.ax.length cT] rfl;have r0:=N 0 _ rfl;have r1:=N 1 _ rfl;have r2:=N 2 _ rfl;have r3:=N 3 _ rfl;have r4:=N 4 _ rfl;have r5:=N 5 _ rfl;have r6:=N 6 _ rfl;have r7:=N 7 _ rfl;have r8:=N 8 _ rfl;have r9:=N 9 _ rfl;have b3:=N 10 _ rfl;have b4:=N 11 _ rfl;have q0:=L 0 _ rfl;have q1:=L 1 _ rfl;have q2:=L 2 _ rfl;have q3:=L 3 _ rfl;have q4:=L 4 _ rfl;have q5:=L 5 _ rfl;have q6:=L 6 _ rfl;have q7:=L 7 _ rfl;have q8:=L 8 _ rfl;have q9:=L 9 _ rfl;have bx:=L 10 _ rfl;have b2:=L 11 _ rfl;have cc:=af.size;have bb:=ag (rn (a5) af (by omega));have bc:=ag af;simp only [pf,Nat.reduceAdd]at h9;have H9:=ag h9;clear af L N h9;have bf:Hid (ni w.heap.size W9 (.slice Y h.ab.length W) (.slice nO h.am.length dO) h):=bh.o.grown bc.o (fun e=>by
  obtain ⟨h1,h2⟩:=O.o.lt _ e;have:=aa.o;have h3:w.heap.size+2<Z.heap.size:=by omega
  omega) (fun e=>by
  have h1:=(ah.lt _ e).1;have:=bz k2;omega)
 clear r0 r1 r2 r3 r4 r5 r6 r7 r8 r9 b3 b4 rz rl;clear A ah k0 k1 k2 e0 e1 D f0 f1 f2 G ad a5 a0 a1 bm b5 bn bs bv;go_wp2_with fail;rw [<-bl.o,H9.o];exact bodyPost_ret (v:=.agg #[.slice Y h.ab.length W,.i h.ae,.i h.old,.i h.bo,.i h.ba,.slice nO h.am.length dO,.i h.next,.slice aC d.aj.length cC,.slice aS d.bg.length cS,.slice aF d.fields.length cF,.slice aN d.names.length cN,.slice aT d.ax.length cT]) (by simp [results,results137,go_sem,q0,q1,q2,q3,q4,q5,q6,q7,q8,q9,bx,b2]) rfl ⟨bb.o,Y,W,nO,dO,rfl,bf.o⟩

def fy (h:ar) (old:Bool):Int:=if old then h.ba else h.bo
def ss (h:ar) (old:Bool):Int:=if old then (h.ab.length:Int) else h.ae+1
def kd (h:ar) (old:Bool) (len:Int):Bool:=decide (fy h old+3+len<=ss h old)
def td (old:Bool):Nat:=if old then 4 else 3
theorem zlp (w:World) (B c:Nat) (N L E I F G J:Value) (h:ar) (d:bd) (g:Gd B w c N L E I F G J h d) (A:Bool) (Z:0<=h.ae/\h.ae<=1000000):
 Calls prog 187 #[.p c,.bool A] w fun r w'=>r=.returned (.tuple #[.pointer (some ⟨c,td A,none⟩),.i (ss h A)])/\∃q,w'=w.drewN q:=by
 have Y:=g.lt;have V:=g.c0;have W:=g.c1;obtain ⟨O,X,rfl,-,D,-⟩:=g.sW;unfold maxLen at D;have wy:IntKind.i64.wrap (h.ae+1)=h.ae+1:=gp _ (by omega) (by omega);clear g;cases A with
 | true=>
   go_enter func187,ntmps187;go_wp2_with fail;go_quiet (fail);go_wp2_with fail
   go_ret2
   exact ⟨rfl,_,rfl⟩
 | false=>
   go_enter func187,ntmps187;go_wp2_with fail;go_quiet (fail);go_wp2_with fail
   go_ret2
   exact ⟨rfl,_,rfl⟩
theorem zlq (w:World) (B c:Nat) (W V I N J L O:Value) (h:ar) (d:bd) (g:Gd B w c W V I N J L O h d) (A:Bool) (len:Int) (G:0<=h.ae/\h.ae<=1000000) (ht:0<=fy h A/\fy h A<=1000000) (hn:0<=len/\len<=1000000):
 Calls prog 156 #[.p c,.i len,.bool A] w fun r w'=>r=.returned (.bool (kd h A len))/\Bl w w':=by
 have D:=ag (zlp w B c _ _ _ _ _ _ _ h d g A G);have Z:=g.lt;have Y:w.cell? ⟨c,td A,none⟩=some (.i (fy h A)):=by
  cases A
  ·exact g.c3
  exact g.c4
 have E:Hid (kd h A len=decide (fy h A+3+len<=ss h A)):=rfl;clear g;generalize fy h A=tp at*;generalize ss h A=en at*;generalize td A=tc at*;have X:IntKind.i64.wrap (tp+3)=tp+3:=gp _ (by omega) (by omega);have w2:IntKind.i64.wrap (tp+3+len)=tp+3+len:=gp _ (by omega) (by omega);go_enter func156,ntmps156;go_wp2_with fail;refine D.o.mono ?_;rintro r X ⟨rfl,q,rfl⟩;have F:Hid (Bl w (w.drewN q)):=o7 (br _ _) q;clear D;go_wp2_with fail;go_ret;exact ⟨by rw [E.o];rfl,F.o⟩
end Go.Proofs.YtjdnmblggdobgaaGreat
