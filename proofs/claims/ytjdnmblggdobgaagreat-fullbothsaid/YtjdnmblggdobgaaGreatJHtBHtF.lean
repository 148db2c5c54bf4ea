import Derived.Test.YtjdnmblggdobgaaGreatJHpKHtA
import Derived.Test.YtjdnmblggdobgaaGreatJHmCBx
set_option maxHeartbeats 2000000
set_option maxRecDepth 100000
namespace Go.Proofs.YtjdnmblggdobgaaGreat
open Go.Maps Go.RowKit Tryz List Or World
variable (a:Addr) (n:Nat) {b:Nat} (w:World) (X B c:Nat) (W V I N J L O vW vO kC kS kF kN kT vA:Value) (h:ar) (d:ax) (ts:List bq)
def yw (y o:Int):ar:=⟨replicate (1+y+o).toNat 0,y,o,1,y+1,[],1⟩
def E7 (w:World) (y o:Int) (r:Ending) (w':World):Prop:=
 (jd y=true/\jd o=true/\∃v,r=.returned (.tuple #[.agg #[v,.i y,.i o,.i 1,.i (y+1),.nl,.i 1],.i 0])/\w'.ownsRow w.heap.size 3 1 v (yw y o).ab.length (b8 (yw y o).ab))\/
  ((jd y&&jd o)=false/\r=.returned (.tuple #[.agg #[.nl,.i 0,.i 0,.i 0,.i 0,.nl,.i 0],.i 3]))
theorem zla (y o:Int):Calls prog 17 #[.i y,.i o] w fun r w'=>Bl w w'/\E7 w y o r w':=by
 obtain ⟨iI,ak,ac,ad,ae⟩:=info_parts kh;have X:Hid (∀W,Calls prog 48 #[.i y] W fun r w'=>r=.returned (.bool (jd y))/\w'=W):=fun W=>zen W _;have HO:Hid (∀W,Calls prog 48 #[.i o] W fun r w'=>r=.returned (.bool (jd o))/\w'=W):=fun W=>zen W _;have L:=aj (fun A=>(br w.heap.size w).alloc (nlq _) A);cases hy:jd y
 ·rw [hy]at X;have HR:Hid ((jd y&&jd o)=false):=by show _=_;rw [hy];rfl
  clear hy;go_enter func17,ntmps17
  go_wp21
  refine (X.o _).mono ?_;rintro r _ ⟨rfl,rfl⟩
  go_wp21
  exact bodyPost_ret (v:=.tuple #[.agg #[.nl,.i 0,.i 0,.i 0,.i 0,.nl,.i 0],.i 3]) (by simp [results,results17,go_sem]) rfl ⟨L.o _,inr ⟨HR.o,rfl⟩⟩
 rw [hy]at X;cases ho:jd o
 ·rw [ho]at HO;have HR:Hid ((jd y&&jd o)=false):=by show _=_;rw [hy,ho];rfl
  clear hy ho;go_enter func17,ntmps17
  go_wp21
  refine (X.o _).mono ?_;rintro r _ ⟨rfl,rfl⟩
  go_wp21
  refine (HO.o _).mono ?_;rintro r _ ⟨rfl,rfl⟩
  go_wp21
  exact bodyPost_ret (v:=.tuple #[.agg #[.nl,.i 0,.i 0,.i 0,.i 0,.nl,.i 0],.i 3]) (by simp [results,results17,go_sem]) rfl ⟨L.o _,inr ⟨HR.o,rfl⟩⟩
 rw [ho]at HO;have ai:=aj hy;have ah:=aj ho;unfold jd at hy ho;simp only [Bool.and_eq_true,decide_eq_true_eq]at hy ho;obtain ⟨y1,y2⟩:=hy;obtain ⟨o1,o2⟩:=ho;have w1:IntKind.i64.wrap (1+y)=1+y:=gw _ (by omega) (by omega);have w2:IntKind.i64.wrap (1+y+o)=1+y+o:=gw _ (by omega) (by omega);have w3:IntKind.i64.wrap (y+1)=y+1:=gw _ (by omega) (by omega);go_enter func17,ntmps17
 go_wp21
 refine (X.o _).mono ?_;rintro r _ ⟨rfl,rfl⟩
 go_wp21
 refine (HO.o _).mono ?_;rintro r _ ⟨rfl,rfl⟩;obtain ⟨n,hn⟩:∃n:Nat,1+y+o=(n:Int):=⟨(1+y+o).toNat,by omega⟩;have am:n<=5000:=by omega
 have HN:=aj hn;have N:Hid (iI.bytes*n<=281474976710656/\n<=maxLen/\w.heap.size<=(w.alloc (.cells #[.nl,.i 0,.i 0,.i 0,.i 0,.nl,.i 0] 24)).heap.size):=⟨by rw [ae];omega,by unfold maxLen;omega,by simp⟩;clear hn;go_wp2_with (refine wpList_make_full _ rfl _ _ 22 rfl w.heap.size 3 iI (.i 0) 1 underlying22 ak ac ad .i64 .i64 (1+y+o) (1+y+o) n rfl rfl HN.o HN.o N.o.1 N.o.2.1 N.o.2.2 ?_);intro V I O;have D:V.heap[w.heap.size]? =some (.cells #[.nl,.i 0,.i 0,.i 0,.i 0,.nl,.i 0] 24 (0,0)):=(O.block w.heap.size (by simp) (by simp)).trans (heap_alloc_new w _);have r0:=bg D 0 (x:=.nl) rfl;have r1:=bg D 1 (x:=.i 0) rfl;have r2:=bg D 2 (x:=.i 0) rfl;have r3:=bg D 3 (x:=.i 0) rfl;have r4:=bg D 4 (x:=.i 0) rfl;have r5:=bg D 5 (x:=.nl) rfl;have r6:=bg D 6 (x:=.i 0) rfl;have rz:=fun j=>pq D j;have rl:=bz D;have al:=aj I;have Y:Bl w V:=(L.o _).grown O (by simp) (fun k e=>by cases e);have af:=aj Y;have J:V.ownsRow w.heap.size 3 1 (.slice (some ⟨w.heap.size+1,0,none⟩) n n) n (madeCells #[Value.int .i64 0] n).toList:=I;obtain ⟨G,F,-⟩:=Dx w.heap.size [.slice (some ⟨w.heap.size+1,0,none⟩) n n,.i y,.i o,.i 1,.i (y+1),.nl,.i 1] V 0 (fun j hj=>by
  rw [Nat.zero_add];match j,hj with
  | 0,_=>exact ⟨_,r0⟩
  | 1,_=>exact ⟨_,r1⟩
  | 2,_=>exact ⟨_,r2⟩
  | 3,_=>exact ⟨_,r3⟩
  | 4,_=>exact ⟨_,r4⟩
  | 5,_=>exact ⟨_,r5⟩
  | 6,_=>exact ⟨_,r6⟩
  )
 obtain ⟨E,h9⟩:∃E,jj V w.heap.size 0 [.slice (some ⟨w.heap.size+1,0,none⟩) n n,.i y,.i o,.i 1,.i (y+1),.nl,.i 1]=E:=⟨_,rfl⟩;rw [h9]at G F;have an:=G.size;have q0:∀A:Obj,(E.alloc A).cell? ⟨w.heap.size,0,none⟩=some (.slice (some ⟨w.heap.size+1,0,none⟩) n n):=fun A=>(((br E.heap.size E).alloc (nlq _) A).cell (p:=⟨w.heap.size,0,none⟩) (by show w.heap.size<_;omega)).trans ((F 0 (by simp)).trans rfl);have q1:∀A:Obj,(E.alloc A).cell? ⟨w.heap.size,1,none⟩=some (.i y):=fun A=>(((br E.heap.size E).alloc (nlq _) A).cell (p:=⟨w.heap.size,1,none⟩) (by show w.heap.size<_;omega)).trans ((F 1 (by simp)).trans rfl);have q2:∀A:Obj,(E.alloc A).cell? ⟨w.heap.size,2,none⟩=some (.i o):=fun A=>(((br E.heap.size E).alloc (nlq _) A).cell (p:=⟨w.heap.size,2,none⟩) (by show w.heap.size<_;omega)).trans ((F 2 (by simp)).trans rfl);have q3:∀A:Obj,(E.alloc A).cell? ⟨w.heap.size,3,none⟩=some (.i 1):=fun A=>(((br E.heap.size E).alloc (nlq _) A).cell (p:=⟨w.heap.size,3,none⟩) (by show w.heap.size<_;omega)).trans ((F 3 (by simp)).trans rfl);have q4:∀A:Obj,(E.alloc A).cell? ⟨w.heap.size,4,none⟩=some (.i (y+1)):=fun A=>(((br E.heap.size E).alloc (nlq _) A).cell (p:=⟨w.heap.size,4,none⟩) (by show w.heap.size<_;omega)).trans ((F 4 (by simp)).trans rfl);have q5:∀A:Obj,(E.alloc A).cell? ⟨w.heap.size,5,none⟩=some (.nl):=fun A=>(((br E.heap.size E).alloc (nlq _) A).cell (p:=⟨w.heap.size,5,none⟩) (by show w.heap.size<_;omega)).trans ((F 5 (by simp)).trans rfl);have q6:∀A:Obj,(E.alloc A).cell? ⟨w.heap.size,6,none⟩=some (.i 1):=fun A=>(((br E.heap.size E).alloc (nlq _) A).cell (p:=⟨w.heap.size,6,none⟩) (by show w.heap.size<_;omega)).trans ((F 6 (by simp)).trans rfl);have Z:Bl w E:=pf af.o G (nlq _);have aa:=J.kept G (inr fun e=>by have e:w.heap.size+1=w.heap.size:=ojq e;omega);have HD:Hid ((yw y o).ab.length=n/\b8 (yw y o).ab=(madeCells #[Value.int .i64 0] n).toList):=by
  have e:(1+y+o).toNat=n:=by have:=HN.o;omega
  refine ⟨by unfold yw;rw [e];simp,?_⟩;unfold yw;rw [e];have e2:(madeCells #[Value.int .i64 0] n).toList=replicate n (Value.int .i64 0):=by rw [eq_replicate_iff];refine ⟨by simp [madeCells],fun b hb=>?_⟩;simp [madeCells,Nat.mod_one]at hb;exact hb.2.symm
  rw [e2];simp [b8]
 have H9:Hid ((((((((V.setCell ⟨w.heap.size,0,none⟩ (.slice (some ⟨w.heap.size+1,0,none⟩) n n)).setCell ⟨w.heap.size,1,none⟩ (.i y)).setCell ⟨w.heap.size,2,none⟩ (.i o)).setCell ⟨w.heap.size,3,none⟩ (.i 1)).setCell ⟨w.heap.size,4,none⟩ (.i (y+1))).setCell ⟨w.heap.size,5,none⟩ (.nl)).setCell ⟨w.heap.size,6,none⟩ (.i 1))=E):=h9;have l9:w.heap.size<E.heap.size:=by omega
 have HF:Hid (∀A:Obj,Bl w (E.alloc A)/\(E.alloc A).ownsRow w.heap.size 3 1 (.slice (some ⟨w.heap.size+1,0,none⟩) n n) (yw y o).ab.length (b8 (yw y o).ab)):=fun A=>by rw [HD.o.1,HD.o.2];exact ⟨Z.alloc (by omega) _,aa.alloc _⟩
 clear I J O Y D G F h9 Z aa
 go_wp21
 rw [H9.o];exact bodyPost_ret (v:=.tuple #[.agg #[.slice (some ⟨w.heap.size+1,0,none⟩) n n,.i y,.i o,.i 1,.i (y+1),.nl,.i 1],.i 0]) (by simp [results,results17,go_sem,q0,q1,q2,q3,q4,q5,q6]) rfl ⟨(HF.o _).1,inl ⟨ai.o,ah.o,_,rfl,(HF.o _).2⟩⟩
theorem Dq (w:World):(binOp BinOp.eql 22 (.slice none 0 c) (.nl)).run prog w=.ok (.bool true) w:=by kernel_rfl
theorem Dr (w:World):(binOp BinOp.eql 22 (.slice (some a) n c) (.nl)).run prog w=.ok (.bool false) w:=by kernel_rfl
theorem nilGI:prog.eqGuardType prog.depth 22=false:=by kernel_rfl
theorem zld (M:Nat->Prop) (v:Value) (l:List Int) (W:SL 1 RI M w v l) (Z:l.length<=1000000):
 Calls prog 71 #[v] w fun r w'=>Bl w w'/\∃a c,r=.returned (.slice a l.length c)/\w'.ownsRow w.heap.size 3 1 (.slice a l.length c) l.length (b8 l):=by
 have aa:=Dq;have ae:=Dr;have ac:=nilGI;have Y:=aj W;obtain ⟨ao,cl,rfl,-,-,F⟩:=W;cases ao with
 | none=>
   have N:l= []:=by
    cases l with
    | nil=>rfl
    | cons x l=>obtain ⟨b,off,cs,e,-⟩:=F 0 (by simp);cases e
   subst N;clear F;go_enter func71,ntmps71
   go_wp21
   go_ret;exact ⟨br _ _,_,_,rfl,ownsRow_nil _ _ _ _⟩
 | some ad=>
   have E:Hid (Bl w (w.alloc (.cells #[] 3))):=(br _ _).alloc (nlq _) _;have I:=aj (zjp w 3 1);have J:Hid (SL 1 RI M (w.alloc (.cells #[] 3)) (.slice (some ad) l.length cl) l):=Y.o.keptI ⟨E.o.size,fun b hb O=>E.o.block b O⟩;have G:Hid (([]:List Int).length+l.length<=1000000/\w.heap.size<=(w.alloc (.cells #[] 3)).heap.size):=⟨by rw [length_nil,Nat.zero_add];exact Z,by simp⟩;clear F;go_enter func71,ntmps71;go_wp2_with (at_builtin;refine zii _ rfl _ _ rfl w.heap.size (.slice (some ⟨w.heap.size,0,none⟩) 0 0) [] rfl I.o M (.slice (some ad) l.length cl) l rfl J.o G.o.1 G.o.2 ?_);intro v2 X A D;have L:Bl w X:=E.o.grown D (by simp) (fun k e=>by cases e;exact nlq _);have A:X.ownsRow w.heap.size 3 1 v2 l.length (b8 l):=A;obtain ⟨a2,c2,rfl⟩:=ku A;have V:=aj (And.intro L A);clear L A D J I
   go_wp21
   go_ret;exact ⟨V.o.1,_,_,rfl,V.o.2⟩
structure ik (b:Nat) (w:World) (nW nO:Value) (h:ar):Prop where
 rW:w.ownsRow b 3 1 nW h.ab.length (b8 h.ab)
 rO:w.ownsRow b 3 1 nO h.ap.length (b8 h.ap)
 ne:∀k,nW.ownBlock=some k->nO.ownBlock≠some k
theorem ik.below {w w':World} {E D:Value} {h:ar} (o:ik b w E D h) (A:Bl w w'):ik b w' E D h:=⟨km o.rW A,km o.rO A,o.ne⟩
theorem ik.mono {A:Nat} {w:World} {F E:Value} {h:ar} (o:ik b w F E h) (D:A<=b):ik A w F E h:=⟨vb o.rW D,vb o.rO D,o.ne⟩
theorem ik.grown {g:Nat} {w w':World} {D A:Value} {h:ar} (o:ik b w D A h) (E:w.grownBy w' (some g)) (h1:D.ownBlock≠some g) (F:A.ownBlock≠some g):ik b w' D A h:=⟨o.rW.kept E (inr h1),o.rO.kept E (inr F),o.ne⟩
def Ae (w:World) (h:ar) (kC kS kF kN kT:Value) (r:Ending) (w':World):Prop:=
 ∃nW dW nO dO,r=.returned (.agg #[.slice nW h.ab.length dW,.i h.ae,.i h.old,.i h.bk,.i h.be,.slice nO h.ap.length dO,.i h.next,kC,kS,kF,kN,kT])/\ik w.heap.size w' (.slice nW h.ab.length dW) (.slice nO h.ap.length dO) h
theorem zle (sW:SL 1 RI (· <B) w vW h.ab) (sO:SL 1 RI (· <B) w vO h.ap) (lk:nh (· <B) w kC kS kF kN kT d) (hB:B<=w.heap.size) (a9:h.ab.length<=1000000) (bb:h.ap.length<=1000000):
 Calls prog 137 #[.agg #[vW,.i h.ae,.i h.old,.i h.bk,.i h.be,vO,.i h.next],.agg #[kC,kS,kF,kN,kT]] w fun r w'=>Bl w w'/\Ae w h kC kS kF kN kT r w':=by
 obtain ⟨Z,J⟩:∃Z,Z=((w.alloc (.cells #[vW,.i h.ae,.i h.old,.i h.bk,.i h.be,vO,.i h.next] 24)).alloc (.cells #[kC,kS,kF,kN,kT] 36)).alloc (.cells #[.nl,.i 0,.i 0,.i 0,.i 0,.nl,.i 0,.nl,.nl,.nl,.nl,.nl] 129):=⟨_,rfl⟩;have a6:Bl w Z:=J ▸ (((br _ _).alloc (nlq _) _).alloc (by simp) _).alloc (by simp;omega) _;have a0:Rd w.heap.size B Z vW vO kC kS kF kN kT h d:=J ▸ (Rd.new w B _ _ _ _ _ _ _ h d hB sW sO lk).below ((br _ _).alloc (nlq _) _);have A:Z.heap[w.heap.size+2]? =some (.cells #[.nl,.i 0,.i 0,.i 0,.i 0,.nl,.i 0,.nl,.nl,.nl,.nl,.nl] 129 (0,0)):=by have:=heap_alloc_new ((w.alloc (.cells #[vW,.i h.ae,.i h.old,.i h.bk,.i h.be,vO,.i h.next] 24)).alloc (.cells #[kC,kS,kF,kN,kT] 36)) (.cells #[.nl,.i 0,.i 0,.i 0,.i 0,.nl,.i 0,.nl,.nl,.nl,.nl,.nl] 129);rw [<-J]at this;simpa using this
 have bc:Z.heap.size=w.heap.size+3:=by rw [J];simp
 have ay:=aj (zld Z (· <B) _ _ a0.sW a9);have a5:=aj a0;have a1:=aj a6;have aw:=aj A;have a4:=aj J;have aa:=aj bc;have bh:=aj bb;obtain ⟨aC,cC,aS,cS,aF,cF,aN,cN,aT,cT,rfl,rfl,rfl,rfl,rfl⟩:=lk.agg;obtain ⟨aW,cW,rfl,-⟩:=sW;obtain ⟨aO,cO,rfl,-⟩:=sO;rw [a4.o]at ay;clear lk a0 a6 A J bc bb a9;go_enter func137,ntmps137
 go_wp21
 refine ay.o.mono ?_;rw [<-a4.o];rintro r w1 ⟨X,Y,W,rfl,az⟩;have F:=a5.o.below X;have bx:=X.size;have bo:=bg F.b0 0 (x:=.slice aW h.ab.length cW) rfl;have b7:=pq F.b0 0;have b2:=bz F.b0;have E:w1.grownBy (w1.setCell ⟨w.heap.size,0,none⟩ (.slice Y h.ab.length W)) (some w.heap.size):=pi (grownBy.refl _ _) _ _ (inl rfl);obtain ⟨V,ac⟩:∃V,V=w1.setCell ⟨w.heap.size,0,none⟩ (.slice Y h.ab.length W):=⟨_,rfl⟩;rw [<-ac]at E;have ai:V.heap[w.heap.size]? =some (.cells (H7 Y W aO cO h) 24 (0,0)):=ac ▸ s9 F.b0 _;have a8:Kp (· <B) w1 V:=⟨E.size,fun k hk hl=>E.block k hl (by have:=a5.o.le;intro e;injection e;omega)⟩;have bs:=bg F.b0 5 (x:=.slice aO h.ap.length cO) rfl;have bm:=aj ac;have b9:=E.size;have a3:=aj (zld V (· <B) _ _ (F.sO.keptI a8) bh.o);have av:V.ownsRow Z.heap.size 3 1 (.slice Y h.ab.length W) h.ab.length (b8 h.ab):=az.kept E (inr fun e=>by have:=(az.lt _ e).1;have:=aa.o;omega);have O:=aj av;have ak:V.heap[w.heap.size+1]? =some (.cells (K5 aC cC aS cS aF cF aN cN aT cT d) 36 (0,0)):=(E.block _ (bz F.b1) (by simp)).trans F.b1;have al:V.heap[w.heap.size+2]? =some (.cells #[.nl,.i 0,.i 0,.i 0,.i 0,.nl,.i 0,.nl,.nl,.nl,.nl,.nl] 129 (0,0)):=(E.block _ (ll3 (bz aw.o) bx) (by simp)).trans ((X.block _ (bz aw.o)).trans aw.o);have a2:=aj (And.intro ai (And.intro ak al));have I:Hid (Bl w V):=pf (a1.o.trans (X.mono a1.o.size)) E (nlq _);clear F X az E ac a8 av ai ak al ay
 go_wp21
 rw [<-bm.o];refine a3.o.mono ?_;rintro r w2 ⟨A,nO,dO,rfl,ah⟩;obtain ⟨k0,k1,k2⟩:=a2.o;have cc:=A.size;have e0:=(A.block _ (bz k0)).trans k0;have e1:=(A.block _ (bz k1)).trans k1;have D:=(A.block _ (bz k2)).trans k2;have bu:=bg e0 5 (x:=.slice aO h.ap.length cO) rfl;have cn:=pq e0 5;have cf:=bz e0;have G:w2.grownBy (w2.setCell ⟨w.heap.size,5,none⟩ (.slice nO h.ap.length dO)) (some w.heap.size):=pi (grownBy.refl _ _) _ _ (inl rfl);obtain ⟨W2,ad⟩:∃W2,W2=w2.setCell ⟨w.heap.size,5,none⟩ (.slice nO h.ap.length dO):=⟨_,rfl⟩;rw [<-ad]at G;have bn:=aj ad;have f0:W2.heap[w.heap.size]? =some (.cells (H7 Y W nO dO h) 24 (0,0)):=ad ▸ s9 e0 _;have f1:=(G.block _ (bz e1) (by simp)).trans e1;have f2:=(G.block _ (bz D) (by simp)).trans D;have ch:=bz e0;have ci:=bz e1;have cj:=bz D;have co:=fun j=>pq D j;have uk:=il e0;have yk:=cells5 e1;have v0:=bg D 0 (x:=.nl) rfl;have v1:=bg D 1 (x:=.i 0) rfl;have v2:=bg D 2 (x:=.i 0) rfl;have v3:=bg D 3 (x:=.i 0) rfl;have v4:=bg D 4 (x:=.i 0) rfl;have v5:=bg D 5 (x:=.nl) rfl;have v6:=bg D 6 (x:=.i 0) rfl;have v7:=bg D 7 (x:=.nl) rfl;have v8:=bg D 8 (x:=.nl) rfl;have v9:=bg D 9 (x:=.nl) rfl;have ck:=bg D 10 (x:=.nl) rfl;have cm:=bg D 11 (x:=.nl) rfl;have ca:=G.size;have bl:Hid (ik w.heap.size W2 (.slice Y h.ab.length W) (.slice nO h.ap.length dO) h):=by have au:∀k,(Value.slice Y h.ab.length W).ownBlock=some k->Z.heap.size<=k/\k<V.heap.size:=fun k e=>O.o.lt k e;have an:∀k,(Value.slice nO h.ap.length dO).ownBlock=some k->V.heap.size<=k:=fun k e=>(ah.lt k e).1;refine ⟨vb ((km O.o A).kept G (inr fun e=>by have:=(au _ e).1;have:=aa.o;omega)) (by have:=aa.o;omega),vb (ah.kept G (inr fun e=>by have:=an _ e;have:=I.o.size;omega)) (by have:=I.o.size;omega),fun k e1 D=>?_⟩;have:=(au k e1).2;have:=an k D;omega
 have a7:Bl w W2:=pf (I.o.trans (A.mono I.o.size)) G (nlq _);obtain ⟨W9,h9,af,L,N,rz,rl⟩:=si f2 [.slice Y h.ab.length W,.i h.ae,.i h.old,.i h.bk,.i h.be,.slice nO h.ap.length dO,.i h.next,.slice aC d.am.length cC,.slice aS d.bj.length cS,.slice aF d.fields.length cF,.slice aN d.names.length cN,.slice aT d.ba.length cT] rfl;have r0:=N 0 _ rfl;have r1:=N 1 _ rfl;have r2:=N 2 _ rfl;have r3:=N 3 _ rfl;have r4:=N 4 _ rfl;have r5:=N 5 _ rfl;have r6:=N 6 _ rfl;have r7:=N 7 _ rfl;have r8:=N 8 _ rfl;have r9:=N 9 _ rfl;have b5:=N 10 _ rfl;have b6:=N 11 _ rfl;have q0:=L 0 _ rfl;have q1:=L 1 _ rfl;have q2:=L 2 _ rfl;have q3:=L 3 _ rfl;have q4:=L 4 _ rfl;have q5:=L 5 _ rfl;have q6:=L 6 _ rfl;have q7:=L 7 _ rfl;have q8:=L 8 _ rfl;have q9:=L 9 _ rfl;have b3:=L 10 _ rfl;have b4:=L 11 _ rfl;have ce:=af.size;have bd:=aj (pf (a7) af (by omega));have bf:=aj af;simp only [jj,Nat.reduceAdd]at h9;have H9:=aj h9;clear af L N h9;have bi:Hid (ik w.heap.size W9 (.slice Y h.ab.length W) (.slice nO h.ap.length dO) h):=bl.o.grown bf.o (fun e=>by
  obtain ⟨h1,h2⟩:=O.o.lt _ e;have:=aa.o;have h3:w.heap.size+2<Z.heap.size:=by omega
  omega) (fun e=>by
  have h1:=(ah.lt _ e).1;have:=bz k2;omega)
 clear r0 r1 r2 r3 r4 r5 r6 r7 r8 r9 b5 b6 rz rl;clear A ah k0 k1 k2 e0 e1 D f0 f1 f2 G ad a7 a2 a3 bo b7 bs bu b2
 go_wp21
 rw [<-bn.o,H9.o];exact bodyPost_ret (v:=.agg #[.slice Y h.ab.length W,.i h.ae,.i h.old,.i h.bk,.i h.be,.slice nO h.ap.length dO,.i h.next,.slice aC d.am.length cC,.slice aS d.bj.length cS,.slice aF d.fields.length cF,.slice aN d.names.length cN,.slice aT d.ba.length cT]) (by simp [results,results137,go_sem,q0,q1,q2,q3,q4,q5,q6,q7,q8,q9,b3,b4]) rfl ⟨bd.o,Y,W,nO,dO,rfl,bi.o⟩
theorem zlf (hc:qc X B w vW vO kC kS kF kN kT vA h d ts) (al:h.ab.length<=1000000) (an:h.ap.length<=1000000):
 Calls prog 123 #[.agg #[.p (X+1)]] w fun r w'=>Bl w w'/\Ae w h kC kS kF kN kT r w':=by
 obtain ⟨E,G⟩:∃E,E=(w.alloc (.cells #[.p (X+1)] 88)).alloc (.cells #[.nl,.i 0,.i 0,.i 0,.i 0,.nl,.i 0,.nl,.nl,.nl,.nl,.nl] 129):=⟨_,rfl⟩;have Y:Bl w E:=G ▸ ((br _ _).alloc (nlq _) _).alloc (by simp) _;have ai:E.heap[w.heap.size+1]? =some (.cells #[.nl,.i 0,.i 0,.i 0,.i 0,.nl,.i 0,.nl,.nl,.nl,.nl,.nl] 129 (0,0)):=by have:=heap_alloc_new (w.alloc (.cells #[.p (X+1)] 88)) (.cells #[.nl,.i 0,.i 0,.i 0,.i 0,.nl,.i 0,.nl,.nl,.nl,.nl,.nl] 129);rw [<-G]at this;simpa using this
 have hp:E.cell? ⟨w.heap.size,0,none⟩=some (.p (X+1)):=by rw [G];simp [go_sem]
 have A:=hc.below Y;have gl:X+1<w.heap.size+1:=by have:=bz hc.blk;omega
 have F:Hid (E.heap.size=w.heap.size+2):=by show _=_;rw [G];simp
 have az:Hid (∀V,Bl E V->Calls prog 137 #[.agg #[vW,.i h.ae,.i h.old,.i h.bk,.i h.be,vO,.i h.next],.agg #[kC,kS,kF,kN,kT]] V fun r w'=>Bl V w'/\Ae V h kC kS kF kN kT r w'):=fun V hV=>by have O:=A.below hV;exact zle V B _ _ _ _ _ _ _ h d O.sW O.sO O.lk (by have:=O.le;have:=bz O.blk;omega) al an
 have Z:=aj Y;have aa:=aj ai;have aw:=aj G;have m0:=bg A.blk 0 (x:=vW) rfl;have m1:=bg A.blk 1 (x:=.i h.ae) rfl;have m2:=bg A.blk 2 (x:=.i h.old) rfl;have m3:=bg A.blk 3 (x:=.i h.bk) rfl;have m4:=bg A.blk 4 (x:=.i h.be) rfl;have m5:=bg A.blk 5 (x:=vO) rfl;have m6:=bg A.blk 6 (x:=.i h.next) rfl;have m7:=bg A.blk 7 (x:=kC) rfl;have m8:=bg A.blk 8 (x:=kS) rfl;have m9:=bg A.blk 9 (x:=kF) rfl;have a7:=bg A.blk 10 (x:=kN) rfl;have a8:=bg A.blk 11 (x:=kT) rfl;obtain ⟨aC,cC,aS,cS,aF,cF,aN,cN,aT,cT,rfl,rfl,rfl,rfl,rfl⟩:=hc.lk.agg;obtain ⟨aW,cW,rfl,-⟩:=hc.sW;obtain ⟨aO,cO,rfl,-⟩:=hc.sO;have ls:w.heap.size<w.heap.size+1:=by omega
 have a4:X+1<E.heap.size:=bz A.blk;clear hc A Y ai G al an;go_enter func123,ntmps123
 go_wp21
 rw [<-aw.o];refine wp_region_held_drew (S:=fun W'=>∀p:Addr,p.block<w.heap.size+1->W'.cell? p=E.cell? p) (by kernel_rfl) (fun p hp=>rfl) fun D=>?_;refine ta 0 (.p w.heap.size) rfl D ?_;refine ta 1 (.p (X+1)) rfl D ?_;refine ta 2 (.p (X+1)) rfl D ?_;refine ta 3 (.p (X+1)) rfl D ?_;refine ta 4 (.p (X+1)) rfl D ?_;refine ta 5 (.agg (H7 aW cW aO cO h)) rfl D ?_;refine ta 6 (.p w.heap.size) rfl D ?_;refine ta 7 (.p (X+1)) rfl D ?_;refine ta 8 (.p (X+1)) rfl D ?_;refine ta 9 (.p (X+1)) rfl D ?_;refine ta 10 (.pointer (some ⟨X+1,7,none⟩)) rfl D ?_;refine ta 11 (.agg (K5 aC cC aS cS aF cF aN cN aT cT d)) rfl D ?_;refine wpAnyH_ready (rs:=[12]) (by kernel_rfl) (by simp) ?_;refine AllReadyH.cons rfl (fun a2 af=>?_) AllReadyH.nil;go_simp;refine (az.o _ (br _ _).drew).mono ?_;rintro r w5 ⟨ak,nW,dW,nO,dO,rfl,I⟩;have N:Bl E w5:=(br E.heap.size E).drew.trans ak;have a5:=N.size;have I:ik E.heap.size w5 (.slice nW h.ab.length dW) (.slice nO h.ap.length dO) h:=I;have f2:=(N.block _ (bz aa.o)).trans aa.o;have ad:Bl w w5:=Z.o.trans (N.mono Z.o.size);obtain ⟨W9,h9,W,J,L,rz,rl⟩:=si (zs:=[.nl,.i 0,.i 0,.i 0,.i 0,.nl,.i 0,.nl,.nl,.nl,.nl,.nl]) f2 [.slice nW h.ab.length dW,.i h.ae,.i h.old,.i h.bk,.i h.be,.slice nO h.ap.length dO,.i h.next,.slice aC d.am.length cC,.slice aS d.bj.length cS,.slice aF d.fields.length cF,.slice aN d.names.length cN,.slice aT d.ba.length cT] rfl;have r0:=L 0 _ rfl;have r1:=L 1 _ rfl;have r2:=L 2 _ rfl;have r3:=L 3 _ rfl;have r4:=L 4 _ rfl;have r5:=L 5 _ rfl;have r6:=L 6 _ rfl;have r7:=L 7 _ rfl;have r8:=L 8 _ rfl;have r9:=L 9 _ rfl;have a9:=L 10 _ rfl;have bb:=L 11 _ rfl;have q0:=J 0 _ rfl;have q1:=J 1 _ rfl;have q2:=J 2 _ rfl;have q3:=J 3 _ rfl;have q4:=J 4 _ rfl;have q5:=J 5 _ rfl;have q6:=J 6 _ rfl;have q7:=J 7 _ rfl;have q8:=J 8 _ rfl;have q9:=J 9 _ rfl;have a0:=J 10 _ rfl;have a1:=J 11 _ rfl;have a6:=W.size;have au:=aj (pf (ad) W (by omega));have ac:=aj W;simp only [jj,Nat.reduceAdd]at h9;have H9:=aj h9;clear W J L h9;have ay:Hid (ik w.heap.size W9 (.slice nW h.ab.length dW) (.slice nO h.ap.length dO) h):=(I.mono (by have:=F.o;omega)).grown ac.o (fun e=>by have:=(I.rW.lt _ e).1;have:=F.o;omega) (fun e=>by have:=(I.rO.lt _ e).1;have:=F.o;omega);have av:Hid (∀p:Addr,p.block<w.heap.size+1->W9.cell? p=E.cell? p):=fun p hp=>(cell?_of_block (a:=p) (ac.o.block p.block (by have:=F.o;omega) (by intro e;injection e;omega))).trans (N.cell (by have:=F.o;omega));clear ak f2 ad I;refine af.o _ _ (fun p hp=>N.cell (by have:=F.o;omega)) fun D=>?_;refine wpAnyH_ready (rs:=[13]) (by kernel_rfl) (by simp) ?_;refine AllReadyH.cons rfl (fun a3 ah=>?_) AllReadyH.nil;go_simp;rw [H9.o];refine ah.o _ _ av.o fun D=>?_;refine wpAnyH_done (by kernel_rfl) ?_ _;clear D;try simp only [Act.put,p1q,p4q,p3q,p2q,p5q,p6q]
 go_wp21
 exact bodyPost_ret (v:=.agg #[.slice nW h.ab.length dW,.i h.ae,.i h.old,.i h.bk,.i h.be,.slice nO h.ap.length dO,.i h.next,.slice aC d.am.length cC,.slice aS d.bj.length cS,.slice aF d.fields.length cF,.slice aN d.names.length cN,.slice aT d.ba.length cT]) (by simp [results,results123,go_sem,q0,q1,q2,q3,q4,q5,q6,q7,q8,q9,a0,a1]) rfl ⟨au.o,nW,dW,nO,dO,rfl,ay.o⟩
def jo (h:ar) (old:Bool):Int:=if old then h.be else h.bk
def ux (h:ar) (old:Bool):Int:=if old then (h.ab.length:Int) else h.ae+1
def pw (h:ar) (old:Bool) (len:Int):Bool:=decide (jo h old+3+len<=ux h old)
def ug (old:Bool):Nat:=if old then 4 else 3
theorem zlg (E I F G J:Value) (h:ar) (d:ax) (g:Gd B w c N L E I F G J h d) (A:Bool) (Z:0<=h.ae/\h.ae<=1000000):
 Calls prog 187 #[.p c,.bool A] w fun r w'=>r=.returned (.tuple #[.pointer (some ⟨c,ug A,none⟩),.i (ux h A)])/\∃q,w'=w.drewN q:=by
 have Y:=g.lt;have V:=g.c0;have W:=g.c1;obtain ⟨O,X,rfl,-,D,-⟩:=g.sW;unfold maxLen at D;have wy:IntKind.i64.wrap (h.ae+1)=h.ae+1:=gw _ (by omega) (by omega);clear g;cases A
 ·go_enter func187,ntmps187
  go_wp21
  go_quiet (fail)
  go_wp21
  go_ret2
  exact ⟨rfl,_,rfl⟩
 go_enter func187,ntmps187
 go_wp21
 go_quiet (fail)
 go_wp21
 go_ret2
 exact ⟨rfl,_,rfl⟩
theorem zlh (g:Gd B w c W V I N J L O h d) (A:Bool) (len:Int) (G:0<=h.ae/\h.ae<=1000000) (ht:0<=jo h A/\jo h A<=1000000) (hn:0<=len/\len<=1000000):
 Calls prog 156 #[.p c,.i len,.bool A] w fun r w'=>r=.returned (.bool (pw h A len))/\Bl w w':=by
 have D:=aj (zlg w B c _ _ _ _ _ _ _ h d g A G);have Z:=g.lt;have Y:w.cell? ⟨c,ug A,none⟩=some (.i (jo h A)):=by
  cases A
  ·exact g.c3
  exact g.c4
 have E:Hid (pw h A len=decide (jo h A+3+len<=ux h A)):=rfl;clear g;generalize jo h A=tp at*;generalize ux h A=en at*;generalize ug A=tc at*;have X:IntKind.i64.wrap (tp+3)=tp+3:=gw _ (by omega) (by omega);have w2:IntKind.i64.wrap (tp+3+len)=tp+3+len:=gw _ (by omega) (by omega);go_enter func156,ntmps156
 go_wp21
 refine D.o.mono ?_;rintro r X ⟨rfl,q,rfl⟩;have F:Hid (Bl w (w.drewN q)):=pa (br _ _) q;clear D
 go_wp21
 go_ret;exact ⟨by rw [E.o];rfl,F.o⟩
theorem zli (hc:qc X B w vW vO kC kS kF kN kT vA h d ts) (A len:Int) (I:Bool) (W:d.am.length<=1000):
 Calls prog 120 #[.agg #[.p (X+1),.i A,.i len,.bool I]] w fun r w'=>r=.returned (.bool (dx d.am.length A))/\Bl w w':=by
 obtain ⟨E,G⟩:∃E,E=w.alloc (.cells #[.p (X+1),.i A,.i len,.bool I] 96):=⟨_,rfl⟩;have J:Bl w E:=G ▸ (br _ _).alloc (nlq _) _;have D:E.heap[w.heap.size]? =some (.cells #[.p (X+1),.i A,.i len,.bool I] 96 (0,0)):=G ▸ heap_alloc_new w _;have c0:=bg D 0 (x:=.p (X+1)) rfl;have c1:=bg D 1 (x:=.i A) rfl;have c2:=bg D 2 (x:=.i len) rfl;have c3:=bg D 3 (x:=.bool I) rfl;have l0:=bz D;have O:=hc.below J;have Z:Hid (∀V,Bl E V->Calls prog 98 #[.p (X+1),.i A] V fun r w'=>r=.returned (.bool (dx d.am.length A))/\Bl V w'):=fun V hV=>by have ad:=O.below hV;exact (zeo V B (X+1) _ _ _ _ _ _ _ h d ad.gd A W).mono fun r w' ⟨e1,e2⟩=>⟨e1,e2 ▸ br _ _⟩
 have L:=aj J;have Y:=aj G;clear hc O D J G W;generalize dx d.am.length A=b at*;go_enter func120,ntmps120
 go_wp21
 rw [<-Y.o];refine wp_region_held_drew (S:=fun W'=>∀p:Addr,p.block<E.heap.size->W'.cell? p=E.cell? p) (by kernel_rfl) (fun p hp=>rfl) fun F=>?_;refine ta 0 (.p w.heap.size) rfl F ?_;refine ta 1 (.p w.heap.size) rfl F ?_;refine ta 2 (.p (X+1)) rfl F ?_;refine ta 3 (.p (X+1)) rfl F ?_;refine ta 4 (.p (X+1)) rfl F ?_;refine ta 5 (.pointer (some ⟨w.heap.size,1,none⟩)) rfl F ?_;refine ta 6 (.i A) rfl F ?_;refine wpAnyH_ready (rs:=[7]) (by kernel_rfl) (by simp) ?_;refine AllReadyH.cons rfl (fun K7 aa=>?_) AllReadyH.nil;go_simp;refine (Z.o _ (br _ _).drew).mono ?_;rintro r w5 ⟨rfl,ac⟩;have N:Bl E w5:=(br E.heap.size E).drew.trans ac;refine aa.o _ _ (fun p hp=>N.cell hp) fun F=>?_;refine ta 8 (.bool b) rfl F ?_;refine wpAnyH_done (by kernel_rfl) ?_ _;clear F;try simp only [Act.put,p1q,p4q,p3q,p2q,p5q,p6q]
 go_wp21
 go_ret;exact ⟨rfl,L.o.trans (N.mono L.o.size)⟩
theorem zlj (hc:qc X B w vW vO kC kS kF kN kT vA h d ts) (A len:Int) (I:Bool) (ht:A<3+d.fields.length):
 Calls prog 121 #[.agg #[.p (X+1),.i A,.i len,.bool I]] w fun r w'=>r=.returned (.bool (da d.fields A len))/\Bl w w':=by
 obtain ⟨F,G⟩:∃F,F=w.alloc (.cells #[.p (X+1),.i A,.i len,.bool I] 96):=⟨_,rfl⟩;have J:Bl w F:=G ▸ (br _ _).alloc (nlq _) _;have D:F.heap[w.heap.size]? =some (.cells #[.p (X+1),.i A,.i len,.bool I] 96 (0,0)):=G ▸ heap_alloc_new w _;have c0:=bg D 0 (x:=.p (X+1)) rfl;have c1:=bg D 1 (x:=.i A) rfl;have c2:=bg D 2 (x:=.i len) rfl;have c3:=bg D 3 (x:=.bool I) rfl;have l0:=bz D;have O:=hc.below J;have Y:Hid (∀V,Bl F V->Calls prog 99 #[.p (X+1),.i A,.i len] V fun r w'=>r=.returned (.bool (da d.fields A len))/\Bl V w'):=fun V hV=>by have ac:=O.below hV;exact (zep V B (X+1) _ _ _ _ _ _ _ h d ac.gd A len ht).mono fun r w' ⟨e1,e2⟩=>⟨e1,e2 ▸ br _ _⟩
 have L:=aj J;have W:=aj G;clear hc O D J G ht;generalize da d.fields A len=b at*;go_enter func121,ntmps121
 go_wp21
 rw [<-W.o];refine wp_region_held_drew (S:=fun W'=>∀p:Addr,p.block<F.heap.size->W'.cell? p=F.cell? p) (by kernel_rfl) (fun p hp=>rfl) fun E=>?_;refine ta 0 (.p w.heap.size) rfl E ?_;refine ta 1 (.p w.heap.size) rfl E ?_;refine ta 2 (.p (X+1)) rfl E ?_;refine ta 3 (.p (X+1)) rfl E ?_;refine ta 4 (.p (X+1)) rfl E ?_;refine ta 5 (.pointer (some ⟨w.heap.size,1,none⟩)) rfl E ?_;refine ta 6 (.i A) rfl E ?_;refine ta 7 (.pointer (some ⟨w.heap.size,2,none⟩)) rfl E ?_;refine ta 8 (.i len) rfl E ?_;refine wpAnyH_ready (rs:=[9]) (by kernel_rfl) (by simp) ?_;refine AllReadyH.cons rfl (fun K9 Z=>?_) AllReadyH.nil;go_simp;refine (Y.o _ (br _ _).drew).mono ?_;rintro r w5 ⟨rfl,aa⟩;have N:Bl F w5:=(br F.heap.size F).drew.trans aa;refine Z.o _ _ (fun p hp=>N.cell hp) fun E=>?_;refine ta 10 (.bool b) rfl E ?_;refine wpAnyH_done (by kernel_rfl) ?_ _;clear E;try simp only [Act.put,p1q,p4q,p3q,p2q,p5q,p6q]
 go_wp21
 go_ret;exact ⟨rfl,L.o.trans (N.mono L.o.size)⟩
theorem zlk (hc:qc X B w vW vO kC kS kF kN kT vA h d ts) (I len:Int) (A:Bool) (hy:0<=h.ae/\h.ae<=1000000) (ht:0<=jo h A/\jo h A<=1000000) (hn:0<=len/\len<=1000000):
 Calls prog 122 #[.agg #[.p (X+1),.i I,.i len,.bool A]] w fun r w'=>r=.returned (.bool (pw h A len))/\Bl w w':=by
 obtain ⟨F,G⟩:∃F,F=w.alloc (.cells #[.p (X+1),.i I,.i len,.bool A] 96):=⟨_,rfl⟩;have J:Bl w F:=G ▸ (br _ _).alloc (nlq _) _;have D:F.heap[w.heap.size]? =some (.cells #[.p (X+1),.i I,.i len,.bool A] 96 (0,0)):=G ▸ heap_alloc_new w _;have c0:=bg D 0 (x:=.p (X+1)) rfl;have c1:=bg D 1 (x:=.i I) rfl;have c2:=bg D 2 (x:=.i len) rfl;have c3:=bg D 3 (x:=.bool A) rfl;have l0:=bz D;have O:=hc.below J;have Y:Hid (∀V,Bl F V->Calls prog 156 #[.p (X+1),.i len,.bool A] V fun r w'=>r=.returned (.bool (pw h A len))/\Bl V w'):=fun V hV=>by have ac:=O.below hV;exact zlh V B (X+1) _ _ _ _ _ _ _ h d ac.gd A len hy ht hn
 have L:=aj J;have W:=aj G;clear hc O D J G hy ht hn;generalize pw h A len=b at*;go_enter func122,ntmps122
 go_wp21
 rw [<-W.o];refine wp_region_held_drew (S:=fun W'=>∀p:Addr,p.block<F.heap.size->W'.cell? p=F.cell? p) (by kernel_rfl) (fun p hp=>rfl) fun E=>?_;refine ta 0 (.p w.heap.size) rfl E ?_;refine ta 1 (.p w.heap.size) rfl E ?_;refine ta 2 (.p (X+1)) rfl E ?_;refine ta 3 (.p (X+1)) rfl E ?_;refine ta 4 (.p (X+1)) rfl E ?_;refine ta 5 (.pointer (some ⟨w.heap.size,2,none⟩)) rfl E ?_;refine ta 6 (.i len) rfl E ?_;refine ta 7 (.pointer (some ⟨w.heap.size,3,none⟩)) rfl E ?_;refine ta 8 (.bool A) rfl E ?_;refine wpAnyH_ready (rs:=[9]) (by kernel_rfl) (by simp) ?_;refine AllReadyH.cons rfl (fun K9 Z=>?_) AllReadyH.nil;go_simp;refine (Y.o _ (br _ _).drew).mono ?_;rintro r w5 ⟨rfl,aa⟩;have N:Bl F w5:=(br F.heap.size F).drew.trans aa;refine Z.o _ _ (fun p hp=>N.cell hp) fun E=>?_;refine ta 10 (.bool b) rfl E ?_;refine wpAnyH_done (by kernel_rfl) ?_ _;clear E;try simp only [Act.put,p1q,p4q,p3q,p2q,p5q,p6q]
 go_wp21
 go_ret;exact ⟨rfl,L.o.trans (N.mono L.o.size)⟩
end Go.Proofs.YtjdnmblggdobgaaGreat
