import Derived.Test.YtjdnmblggdobgaaGreatJLMemLEv
set_option maxHeartbeats 2000000
namespace Go.Proofs.YtjdnmblggdobgaaGreat
open Go.RowKit Tryz List World
variable (w:World) (b B P:Nat) (l:List aq) (v:Value) (s:ByteArray) (k:fw) (t g:Nat)
def sg (w:World) (b:Nat) (l:List aq):Prop:=∃Bm,w.cell? ⟨b,5,none⟩=some (.map (some Bm))/\iy w Bm l
theorem sg.lt {w:World} {b:Nat} {l:List aq} (h:sg w b l):b<w.heap.size:=by obtain ⟨A,h,_⟩:=h;exact block_lt_of_cell? w _ h
theorem sg.below {w w':World} {b:Nat} {l:List aq} (h:sg w b l) (A:Bl w w'):sg w' b l:=by have F:=h.lt;obtain ⟨E,h,D⟩:=h;exact ⟨E,(A.cell (p:=⟨b,5,none⟩) F).trans h,D.below A D.lt⟩
theorem A6 (D:sg w b l) (F:s.size<=maxLen):
 Calls prog 199 #[.p b,.string s] w fun r w'=>r=.returned (.i (num l s))/\w'=w:=by
 obtain ⟨A,h,E⟩:=D;exact zcg w b A l s h E F
theorem zdd (A:sg w b l) (F:w.cell? ⟨P,0,none⟩=some (.p b)) (D:s.size<=maxLen):
 Calls prog 285 #[.string s,.p P] w fun r w'=>r=.returned (.bool (ng l s))/\w'=w:=by
 have E:=aj A;clear A;go_enter func285,ntmps285
 go_wp21
 refine (A6 _ b l s E.o D).mono ?_;rintro r G ⟨rfl,rfl⟩;clear D F
 go_wp21
 go_ret;exact ⟨rfl,rfl⟩
theorem zde (ns:List ByteArray) (E:sg w b l) (I:SL 1 RS (· <B) w v ns) (N:B<=w.heap.size):
 Calls prog 235 #[.p b,v] w fun r w'=>r=.returned (.bool (ns.all (ng l)))/\Bl w w':=by
 have O:=ri prog;have L:=aj I;obtain ⟨ao,cl,rfl,-⟩:=I;have J:=aj E;have A:=aj (fun o=>(br w.heap.size w).alloc (nlq _) o);clear E;go_enter func235,ntmps235
 go_wp21
 refine (zc3 _ B _ ns (L.o.keptS (Kp.below ((A.o _).mono N))) (by simp;omega) 285 #[] _ (ng l) (fun args w=>by kernel_rfl) ?_).mono ?_
 ·rintro x Y u W F ⟨rfl,V⟩;refine (zdd W b w.heap.size l x ((J.o.below (A.o _)).below F) ((F.cell (p:=⟨w.heap.size,0,none⟩) (by simp)).trans (by simp [go_sem])) V).mono ?_;rintro r w' ⟨rfl,rfl⟩;exact ⟨rfl,br _ _⟩
 rintro r X ⟨rfl,G⟩;have D:Bl w X:=(A.o _).trans (G.mono (by simp));clear G
 go_wp21
 go_ret;exact ⟨rfl,D⟩
theorem Cp (E:s.size<=maxLen) (A:w.heap.size=g):SL 1 RS (· <g+1) (w.alloc (.cells #[.string s] t)) (.slice (some ⟨g,0,none⟩) 1 1) [s]:=by
 subst A;refine ⟨some ⟨w.heap.size,0,none⟩,1,rfl,nlq _,by unfold maxLen;simp,fun k D=>?_⟩;have:k=0:=by simpa using D
 subst this;refine ⟨w.heap.size,0,[.string s],rfl,by simp,by simp,rfl,fun j F=>?_,rfl,E⟩;have:j=0:=by omega
 subst this;simp [go_sem]
theorem A8 (D:k.dj.size<=maxLen) (A:w.heap.size=g):SL 2 RK (· <g+1) (w.alloc (.cells #[.i k.kind,.string k.dj] t)) (.slice (some ⟨g,0,none⟩) 1 1) [k]:=by
 subst A;refine ⟨some ⟨w.heap.size,0,none⟩,1,rfl,nlq _,by unfold maxLen;simp,fun i hi=>?_⟩;have:i=0:=by simpa using hi
 subst this;refine ⟨w.heap.size,0,[.i k.kind,.string k.dj],rfl,by simp,by simp,rfl,fun j E=>?_,rfl,D⟩;rcases (by omega:j=0\/j=1)with rfl | rfl<;>simp [go_sem]
theorem zdf (J:sg w b l) (V:w.cell? ⟨P,0,none⟩=some (.p b)) (I:k.dj.size<=maxLen):
 Calls prog 293 #[.agg #[.i k.kind,.string k.dj],.p P] w fun r w'=>r=.returned (.bool (im l k))/\Bl w w':=by
 have N:=aj J;have W:=block_lt_of_cell? w _ V;have E:=aj (fun o=>(br w.heap.size w).alloc (nlq _) o);clear J;by_cases h:k.dj=⟨#[]⟩
 ·have F:Hid (im l k=true):=by show im l k=true;simp [im,h]
  have h':=Cx h;clear h I;go_enter func293,ntmps293
  go_wp21
  go_ret;exact ⟨by rw [F.o];rfl,E.o _⟩
 have F:Hid (im l k=ng l k.dj):=by show im l k=_;simp [im,h]
 have h':¬k.dj.toList= []:=fun e=>h (Eo e);have O:=aj I;clear h I;go_enter func293,ntmps293
 go_wp21
 have A:=E.o (.cells #[.i k.kind,.string k.dj] 123);have D:=A.alloc A.size (.cells #[.string k.dj] 9);refine (zde _ b (w.heap.size+1+1) l _ [k.dj] (N.o.below D) (Cp _ k.dj _ (w.heap.size+1) O.o (by simp)) (by simp)).mono ?_;rintro r X ⟨rfl,L⟩;have G:=D.trans (L.mono (by simp;omega));clear L A D
 go_wp21
 go_ret;exact ⟨by rw [F.o];simp [h'],G⟩
theorem zdg (E:List fw) (F:sg w b l) (J:SL 2 RK (· <B) w v E) (O:B<=w.heap.size):
 Calls prog 244 #[.p b,v] w fun r w'=>r=.returned (.bool (E.all (im l)))/\Bl w w':=by
 have V:=ri prog;have N:=aj J;obtain ⟨ao,cl,rfl,-⟩:=J;have L:=aj F;have A:=aj (fun o=>(br w.heap.size w).alloc (nlq _) o);clear F;go_enter func244,ntmps244
 go_wp21
 refine (zcu _ B _ E (N.o.keptK (Kp.below ((A.o _).mono O))) (by simp;omega) 293 #[] _ (im l) (fun args w=>by kernel_rfl) ?_).mono ?_
 ·rintro x Z u W G ⟨rfl,X⟩;exact zdf W b w.heap.size l x ((L.o.below (A.o _)).below G) ((G.cell (p:=⟨w.heap.size,0,none⟩) (by simp)).trans (by simp [go_sem])) X
 rintro r Y ⟨rfl,I⟩;have D:Bl w Y:=(A.o _).trans (I.mono (by simp));clear I
 go_wp21
 go_ret;exact ⟨rfl,D⟩
section
open Go.Maps
variable (w:World) (s A:ByteArray) (t B b P:Nat) (l:List aq) (x:List Nat) (c:aq) (u vC vS J V L O X Y vF vN vT W N:Value)
theorem pa {B:Nat} {w w':World} (h:Below B w w') (n:Nat):Below B w (w'.drewN n):=⟨h.os,h.tape,h.output,h.size,h.block⟩
theorem uh.nums {B:Nat} {w:World} {b:Nat} {l:List aq} {D I E G J F:Value} {A:Nat} (h:uh B w b l D I E G J F A):sg w b l:=⟨A,bg h.blk 5 rfl,h.nm⟩
theorem uh.cell0 {B:Nat} {w:World} {b:Nat} {l:List aq} {A I E G J F:Value} {D:Nat} (h:uh B w b l A I E G J F D):w.cell? ⟨b,0,none⟩=some A:=bg h.blk 0 rfl
theorem zdi (V X Z W:Value) (F:Nat) (E:uh B w b l O Y V X Z W F):
 Calls prog 203 #[.p b] w fun r w'=>r=.returned (.bool (dy l))/\Bl w w':=by
 have c0:=E.cell0;have c5:=bg E.blk 5 (x:=.map (some F)) rfl;obtain ⟨ao,cl,rfl,-,G,-⟩:=E.sC;obtain ⟨D,A,J⟩:=E.nm;have L:∀n I,(Builtin.len_ #[152] I #[.map (some F)]).run prog (w.drewN n)=.ok (.i (Maps.size D)) (w.drewN n):=fun n I=>ownsMap.len (w:=w.drewN n) A underlying152 I;have N:Hid (((Maps.size D:Int)==(l.length:Int))=dy l):=by show ((Maps.size D:Int)==(l.length:Int))=dy l;rw [Bool.eq_iff_iff,<-J.eq,beq_iff_eq];constructor<;>intro h<;>omega
 clear J A E;unfold maxLen at G;go_enter func203,ntmps203
 go_wp21
 go_quiet (fail)
 go_wp21
 go_ret;exact ⟨by rw [<-N.o];rfl,pa (br _ _) _⟩
theorem two_S (I:s.size<=maxLen) (D:A.size<=maxLen):SL 1 RS (· <w.heap.size+1) (w.alloc (.cells #[.string s,.string A] t)) (.slice (some ⟨w.heap.size,0,none⟩) 2 2) [s,A]:=by
 refine ⟨some ⟨w.heap.size,0,none⟩,2,rfl,nlq _,by unfold maxLen;simp,fun k F=>?_⟩;have G:k<2:=by simpa using F
 rcases (by omega:k=0\/k=1)with rfl | rfl
 ·refine ⟨w.heap.size,0,[.string s],rfl,by simp,by simp,rfl,fun j E=>?_,rfl,I⟩;have:j=0:=by omega
  subst this;simp [go_sem]
 refine ⟨w.heap.size,0,[.string A],rfl,by simp,by simp,rfl,fun j E=>?_,rfl,D⟩;have:j=0:=by omega
 subst this;simp [go_sem]
theorem zdj (V X O:Value) (G:Nat) (J:uh B w b l L W N V X O G):
 Calls prog 204 #[.p b] w fun r w'=>r=.returned (.bool (qn l))/\Bl w w':=by
 have I:=aj J.nums;have D:=aj (fun o=>(br w.heap.size w).alloc (nlq _) o);go_enter func204,ntmps204
 go_wp21
 have A:=D.o (.cells #[.string f9,.string gr] 9);refine (zde _ b (w.heap.size+1) l _ [f9,gr] (I.o.below A) (two_S w f9 gr _ (by decide) (by decide)) (by simp)).mono ?_;rintro r Y ⟨rfl,F⟩;have E:=A.trans (F.mono (by simp));clear F A
 go_wp21
 go_ret;exact ⟨by simp [qn],E⟩
theorem zdk:f9.toList= [79,98,106,101,99,116]:=by rw [ByteArray.toList_eq];rfl
def upperB (c:aq):Bool:=(decide (c.name=f9))==(decide (c.b9=(⟨#[]⟩:ByteArray)))
theorem zdl (I:B8 B w u c):
 Calls prog 237 #[u] w fun r w'=>r=.returned (.bool (upperB c))/\Bl w w':=by
 obtain ⟨N,J,mo,L,rfl,-,-,-,-⟩:=I;have D:=aj (fun o=>(br w.heap.size w).alloc (nlq _) o);by_cases h1:c.name=f9
 ·have G:c.name.toList= [79,98,106,101,99,116]:=by rw [h1];exact zdk
  by_cases A:c.b9=⟨#[]⟩
  ·have F:=Cx A;have E:Hid (upperB c=true):=by show upperB c=true;simp [upperB,h1,A]
   clear h1 A;go_enter func237,ntmps237
   go_wp21
   go_ret;exact ⟨by rw [E.o];simp,D.o _⟩
  have F:¬c.b9.toList= []:=fun e=>A (Eo e);have E:Hid (upperB c=false):=by show upperB c=false;simp [upperB,h1,A]
  clear h1 A;go_enter func237,ntmps237
  go_wp21
  go_ret;exact ⟨by rw [E.o];simp [F],D.o _⟩
 have G:¬c.name.toList= [79,98,106,101,99,116]:=fun e=>h1 (Bu (e.trans zdk.symm));by_cases A:c.b9=⟨#[]⟩
 ·have F:=Cx A;have E:Hid (upperB c=false):=by show upperB c=false;simp [upperB,h1,A]
  clear h1 A;go_enter func237,ntmps237
  go_wp21
  go_ret;exact ⟨by rw [E.o];simp [G],D.o _⟩
 have F:¬c.b9.toList= []:=fun e=>A (Eo e);have E:Hid (upperB c=true):=by show upperB c=true;simp [upperB,h1,A]
 clear h1 A;go_enter func237,ntmps237
 go_wp21
 go_ret;exact ⟨by rw [E.o];simp;rw [beq_eq_false_iff_ne.2 G];(cases hh:c.b9.toList with | nil=>exact absurd hh F | cons _ _=>rfl),D.o _⟩
theorem zdm (E:Nat) (A:uh B w b l J V L O X N E):
 Calls prog 205 #[.p b] w fun r w'=>r=.returned (.bool (sp l))/\Bl w w':=by
 have Y:=A.cell0;have F:=aj A.sC;have D:=A.le;obtain ⟨ao,cl,rfl,-⟩:=A.sC;clear A;go_enter func205,ntmps205
 go_wp21
 refine (zco _ B _ l F.o D 237 #[] #[] upperB (fun args w=>by kernel_rfl) ?_).mono ?_
 ·intro x _ u W _ I;exact zdl W B x u I
 rintro r Z ⟨rfl,G⟩
 go_wp21
 go_ret;exact ⟨rfl,G⟩
def ss (l:List aq) (c:aq):Bool:=decide (c.b9=(⟨#[]⟩:ByteArray))||ng l c.b9
theorem zdn (hu:B8 B w u c) (J:sg w b l) (Y:w.cell? ⟨P,0,none⟩=some (.p b)):
 Calls prog 238 #[u,.p P] w fun r w'=>r=.returned (.bool (ss l c))/\Bl w w':=by
 obtain ⟨X,V,mo,W,rfl,-,-,-,I⟩:=hu;have Z:=block_lt_of_cell? w _ Y;have N:=aj J;have E:=aj (fun o=>(br w.heap.size w).alloc (nlq _) o);clear J;by_cases h:c.b9=⟨#[]⟩
 ·have F:Hid (ss l c=true):=by show ss l c=true;simp [ss,h]
  have h':=Cx h;clear h I;go_enter func238,ntmps238
  go_wp21
  go_ret;exact ⟨by rw [F.o];rfl,E.o _⟩
 have F:Hid (ss l c=ng l c.b9):=by show ss l c=_;simp [ss,h]
 have h':¬c.b9.toList= []:=fun e=>h (Eo e);have O:=aj I;clear h I;go_enter func238,ntmps238
 go_wp21
 have A:=E.o (.cells #[.string c.name,.string c.b9,.slice X c.fields.length V,.slice mo c.bd.length W] 162);have D:=A.alloc A.size (.cells #[.string c.b9] 9);refine (zde _ b (w.heap.size+1+1) l _ [c.b9] (N.o.below D) (Cp _ c.b9 _ (w.heap.size+1) O.o (by simp)) (by simp)).mono ?_;rintro r w1 ⟨rfl,L⟩;have G:=D.trans (L.mono (by simp;omega));clear L A D
 go_wp21
 go_ret;exact ⟨by rw [F.o];simp [h'],G⟩
theorem zdo (vS Z vN vT vL:Value) (J:Nat) (D:uh B w b l Y vS Z vN vT vL J):
 Calls prog 206 #[.p b] w fun r w'=>r=.returned (.bool (np l))/\Bl w w':=by
 have V:=ri prog;have c0:=D.cell0;have O:=bz D.blk;have N:=aj D.sC;have L:=aj D.nums;have F:=D.le;have A:=aj (fun o=>(br w.heap.size w).alloc (nlq _) o);obtain ⟨ao,cl,rfl,-⟩:=D.sC;clear D;go_enter func206,ntmps206
 go_wp21
 refine (zco _ B _ l (N.o.keptC (Kp.below ((A.o _).mono F))) (by simp;omega) 238 #[] _ (ss l) (fun args w=>by kernel_rfl) ?_).mono ?_
 ·intro x _ u W G X;exact zdn W B b w.heap.size l x u X ((L.o.below (A.o _)).below G) ((G.cell (p:=⟨w.heap.size,0,none⟩) (by simp)).trans (by simp [go_sem]))
 rintro r w1 ⟨rfl,I⟩;have E:Bl w w1:=(A.o _).trans (I.mono (by simp));clear I
 go_wp21
 go_ret;exact ⟨rfl,E⟩
theorem zdp (ao:Option Addr) (cl:Nat) (D:zh B w u x) (A:w.cell? ⟨b,0,none⟩=some (.slice ao l.length cl)) (G:w.cell? ⟨P,0,none⟩=some (.p b)):
 Calls prog 240 #[u,.p P] w fun r w'=>r=.returned (.bool (decide (x.length<=l.length)))/\Bl w w':=by
 obtain ⟨E,F,rfl,-⟩:=D;go_enter func240,ntmps240
 go_wp21
 go_ret;exact ⟨by simp,br _ _⟩
theorem zdq (O:Value) (V:Nat) (D:uh B w b l vC vS vF vN vT O V):
 Calls prog 207 #[.p b] w fun r w'=>r=.returned (.bool (jf l))/\Bl w w':=by
 have Z:=ri prog;have Y:=D.cell0;have c6:=bg D.blk 6 (x:=O) rfl;have G:=bz D.blk;have N:=D.sL;have I:=D.le;have A:=aj (fun o=>(br w.heap.size w).alloc (nlq _) o);obtain ⟨ao,cl,rfl,-⟩:=D.sC;have E:Hid (jf l=((range l.length).map (dt l)).all fun x=>decide (x.length<=l.length)):=by show jf l=_;rw [jf,all_map];rfl
 clear D;generalize (range l.length).map (dt l)=LL at*;have X:=aj N;obtain ⟨al,cc,rfl,-⟩:=N;go_enter func207,ntmps207
 go_wp21
 refine (zc6 _ B _ _ (X.o.keptSl (Kp.below ((A.o _).mono I)) fun _ _ h=>h) (by simp;omega) 240 #[] _ (fun x=>decide (x.length<=l.length)) (fun args w=>by kernel_rfl) ?_).mono ?_
 ·intro x _ u W J hu;exact zdp W B b w.heap.size l x u ao cl hu ((J.cell (p:=⟨b,0,none⟩) (by simp;omega)).trans (((A.o _).cell (p:=⟨b,0,none⟩) G).trans Y)) ((J.cell (p:=⟨w.heap.size,0,none⟩) (by simp)).trans (by simp [go_sem]))
 rintro r w1 ⟨rfl,L⟩;have F:Bl w w1:=(A.o _).trans (L.mono (by simp));clear L
 go_wp21
 go_ret;exact ⟨by rw [E.o];rfl,F⟩
theorem zdr (x:bv) (u:Value) (W:Bz B w u x) (G:sg w b l) (O:w.cell? ⟨P,0,none⟩=some (.p b)):
 Calls prog 243 #[u,.p P] w fun r w'=>r=.returned (.bool (im l x.kind))/\Bl w w':=by
 obtain ⟨rfl,-,J⟩:=W;have V:=block_lt_of_cell? w _ O;have L:=aj G;have N:=aj J;have E:=aj (fun o=>(br w.heap.size w).alloc (nlq _) o);clear G J;go_enter func243,ntmps243
 go_wp21
 have A:=E.o (.cells #[.string x.name,.i x.kind.kind,.string x.kind.dj] 125);have D:=A.alloc A.size (.cells #[.i x.kind.kind,.string x.kind.dj] 123);refine (zdg _ b (w.heap.size+1+1) l _ [x.kind] (L.o.below D) (A8 _ x.kind _ (w.heap.size+1) N.o (by simp)) (by simp)).mono ?_;rintro r X ⟨rfl,I⟩;have F:=D.trans (I.mono (by simp;omega));clear I A D
 go_wp21
 go_ret;exact ⟨by simp,F⟩
theorem zds (x:jg) (u:Value) (W:D3 B w u x) (G:sg w b l) (O:w.cell? ⟨P,0,none⟩=some (.p b)):
 Calls prog 297 #[u,.p P] w fun r w'=>r=.returned (.bool (ng l x.dj))/\Bl w w':=by
 obtain ⟨rfl,J⟩:=W;have V:=block_lt_of_cell? w _ O;have L:=aj G;have N:=aj J;have E:=aj (fun o=>(br w.heap.size w).alloc (nlq _) o);clear G J;go_enter func297,ntmps297
 go_wp21
 have A:=E.o (.cells #[.i x.zp,.i x.upto,.i x.loc,.string x.dj] 248);have D:=A.alloc A.size (.cells #[.string x.dj] 9);refine (zde _ b (w.heap.size+1+1) l _ [x.dj] (L.o.below D) (Cp _ x.dj _ (w.heap.size+1) N.o (by simp)) (by simp)).mono ?_;rintro r X ⟨rfl,I⟩;have F:=D.trans (I.mono (by simp;omega));clear I A D
 go_wp21
 go_ret;exact ⟨by simp,F⟩
theorem zdt (x:ew) (u:Value) (hu:Av B w u x) (hN:sg w b l) (hB:B<=w.heap.size):
 Calls prog 246 #[.p b,u] w fun r w'=>r=.returned (.bool (nt l x))/\Bl w w':=by
 have ac:=ri prog;obtain ⟨ao,ca,ho,Y,rfl,ea,eh,-,hs,-⟩:=hu;have X:=aj hN;have HS:=aj hs;have EA:=aj ea;have EH:=aj eh;have O:=aj (fun o=>(br w.heap.size w).alloc (nlq _) o);clear hN hs ea eh;have J:=O.o (.cells #[.p b] 148);have G:=J.alloc J.size (.cells #[.string x.name,.bool x.static,.slice ao x.args.length ca,.i x.ret.kind,.string x.ret.dj,.i x.stack,.i x.locals,.string x.code,.slice ho x.hands.length Y] 159);go_enter func246,ntmps246
 go_wp21
 refine (zdg _ b B l _ x.args (X.o.below G) (EA.o.keptK (Kp.below (G.mono hB))) (by simp;omega)).mono ?_;rintro r I ⟨rfl,D⟩;have d0:I.cell? ⟨w.heap.size,0,none⟩=some (.p b):=(D.cell (p:=⟨w.heap.size,0,none⟩) (by simp;omega)).trans (by simp [go_sem]);have d3:I.cell? ⟨w.heap.size+1,3,none⟩=some (.i x.ret.kind):=(D.cell (p:=⟨w.heap.size+1,3,none⟩) (by simp)).trans (by simp [go_sem]);have d4:I.cell? ⟨w.heap.size+1,4,none⟩=some (.string x.ret.dj):=(D.cell (p:=⟨w.heap.size+1,4,none⟩) (by simp)).trans (by simp [go_sem]);have d8:I.cell? ⟨w.heap.size+1,8,none⟩=some (.slice ho x.hands.length Y):=(D.cell (p:=⟨w.heap.size+1,8,none⟩) (by simp)).trans (by simp [go_sem]);have E:=G.trans (D.mono (by simp;omega));have ad:w.heap.size+1<I.heap.size:=block_lt_of_cell? I _ d3;have V:Hid (nt l x=(x.args.all (im l)&&im l x.ret&&x.hands.all (fun h=>ng l h.dj))):=rfl;clear D J G;cases ha:x.args.all (im l)
 ·have N:Hid (nt l x=false):=by rw [V.o,ha];rfl
  clear ha
  go_wp21
  go_ret;exact ⟨by rw [N.o];rfl,E⟩
 have HA:=aj ha;clear ha
 go_wp21
 have L:=E.alloc E.size (.cells #[.i x.ret.kind,.string x.ret.dj] 123);refine (zdg _ b (I.heap.size+1) l _ [x.ret] (X.o.below L) (A8 I x.ret _ I.heap.size HS.o rfl) (by simp)).mono ?_;rintro r w2 ⟨rfl,D⟩;have A:=L.trans (D.mono (by have:=E.size;simp;omega));have Z:w2.cell? ⟨w.heap.size,0,none⟩=some (.p b):=(D.cell (p:=⟨w.heap.size,0,none⟩) (by simp;omega)).trans (by rw [cell?_alloc_past _ _ _ (by omega)];exact d0);have f8:w2.cell? ⟨w.heap.size+1,8,none⟩=some (.slice ho x.hands.length Y):=(D.cell (p:=⟨w.heap.size+1,8,none⟩) (by simp;omega)).trans (by rw [cell?_alloc_past _ _ _ (by omega)];exact d8);clear D E L d0 d3 d4 d8;cases hr:im l x.ret
 ·have N:Hid (nt l x=false):=by rw [V.o,HA.o,hr];rfl
  have F:([x.ret].all (im l))=false:=by simp [hr]
  rw [F];clear hr F
  go_wp21
  go_ret;exact ⟨by rw [N.o];rfl,A⟩
 have N:Hid (nt l x=x.hands.all (fun h=>ng l h.dj)):=by rw [V.o,HA.o,hr];rfl
 have F:([x.ret].all (im l))=true:=by simp [hr]
 rw [F];clear hr F
 go_wp21
 refine (zcx _ B _ x.hands (EH.o.keptH (Kp.below (A.mono hB))) (by have:=A.size;omega) 297 #[] _ (fun h=>ng l h.dj) (fun args w=>by kernel_rfl) ?_).mono ?_
 ·intro y _ u W hW hu;exact zds W B b w.heap.size l y u hu ((X.o.below A).below hW) ((hW.cell (p:=⟨w.heap.size,0,none⟩) (block_lt_of_cell? w2 _ Z)).trans Z)
 rintro r w3 ⟨rfl,D⟩;have aa:=A.trans (D.mono A.size);clear D A Z f8
 go_wp21
 go_ret;exact ⟨by rw [N.o];rfl,aa⟩
def zy (l:List aq) (c:aq):Bool:=(c.fields.all fun f=>im l f.kind)&&c.bd.all (nt l)
theorem zdu (I:B8 B w u c) (hN:sg w b l) (J:w.cell? ⟨P,0,none⟩=some (.p b)) (hB:B<=w.heap.size):
 Calls prog 241 #[u,.p P] w fun r w'=>r=.returned (.bool (zy l c))/\Bl w w':=by
 have ac:=ri prog;obtain ⟨fo,cf,mo,Z,rfl,ef,em,-,-⟩:=I;have F:=block_lt_of_cell? w _ J;have Y:=aj hN;have EF:=aj ef;have EM:=aj em;have N:=aj (fun o=>(br w.heap.size w).alloc (nlq _) o);clear hN ef em;have D:=N.o (.cells #[.string c.name,.string c.b9,.slice fo c.fields.length cf,.slice mo c.bd.length Z] 162);go_enter func241,ntmps241
 go_wp21
 refine (zcr _ B _ c.fields (EF.o.keptF (Kp.below (D.mono hB))) (by simp;omega) 243 #[] _ (fun f=>im l f.kind) (fun args w=>by kernel_rfl) ?_).mono ?_
 ·intro y _ u W G I;exact zdr W B b P l y u I ((Y.o.below D).below G) ((G.cell (p:=⟨P,0,none⟩) (by simp;omega)).trans ((D.cell (p:=⟨P,0,none⟩) F).trans J))
 rintro r L ⟨rfl,E⟩;have d3:L.cell? ⟨w.heap.size,3,none⟩=some (.slice mo c.bd.length Z):=(E.cell (p:=⟨w.heap.size,3,none⟩) (by simp)).trans (by simp [go_sem]);have A:=D.trans (E.mono (by simp));have ad:w.heap.size<L.heap.size:=block_lt_of_cell? L _ d3;have aa:L.cell? ⟨P,0,none⟩=some (.p b):=(A.cell (p:=⟨P,0,none⟩) F).trans J;have X:Hid (zy l c=((c.fields.all fun f=>im l f.kind)&&c.bd.all (nt l))):=rfl;clear E D J;cases ha:c.fields.all fun f=>im l f.kind
 ·have O:Hid (zy l c=false):=by rw [X.o,ha];rfl
  clear ha
  go_wp21
  go_ret;exact ⟨by rw [O.o];rfl,A⟩
 have O:Hid (zy l c=c.bd.all (nt l)):=by rw [X.o,ha];rfl
 clear ha
 go_wp21
 refine (zc0 _ B _ c.bd (EM.o.keptM (Kp.below (A.mono hB))) (by omega) 246 _ #[] (nt l) (fun args w=>by kernel_rfl) ?_).mono ?_
 ·intro y _ u W G I;exact zdt W B b l y u I ((Y.o.below A).below G) (by have:=G.size;omega)
 rintro r w2 ⟨rfl,E⟩;have V:=A.trans (E.mono A.size);clear E A
 go_wp21
 go_ret;exact ⟨by rw [O.o];rfl,V⟩
theorem zdv (vS Z vN vT vL:Value) (J:Nat) (D:uh B w b l Y vS Z vN vT vL J):
 Calls prog 209 #[.p b] w fun r w'=>r=.returned (.bool (ub l))/\Bl w w':=by
 have V:=ri prog;have c0:=D.cell0;have O:=bz D.blk;have N:=aj D.sC;have L:=aj D.nums;have G:=D.le;have A:=aj (fun o=>(br w.heap.size w).alloc (nlq _) o);obtain ⟨ao,cl,rfl,-⟩:=D.sC;clear D;go_enter func209,ntmps209
 go_wp21
 refine (zco _ B _ l (N.o.keptC (Kp.below ((A.o _).mono G))) (by simp;omega) 241 #[] _ (zy l) (fun args w=>by kernel_rfl) ?_).mono ?_
 ·intro x _ u W E X;exact zdu W B b w.heap.size l x u X ((L.o.below (A.o _)).below E) ((E.cell (p:=⟨w.heap.size,0,none⟩) (by simp)).trans (by simp [go_sem])) (by have:=E.size;simp at this;omega)
 rintro r w1 ⟨rfl,I⟩;have F:Bl w w1:=(A.o _).trans (I.mono (by simp));clear I
 go_wp21
 go_ret;exact ⟨rfl,F⟩
theorem zdw (x:List bv) (u:Value) (A:yd B w u x):Calls prog 256 #[u] w fun r w'=>r=.returned (.bool (decide (x.length<=12)))/\Bl w w':=by
 obtain ⟨D,E,rfl,-⟩:=A;go_enter func256,ntmps256
 go_wp21
 go_ret;exact ⟨by simp;omega,br _ _⟩
theorem zdx (x:List ByteArray) (u:Value) (A:zi B w u x):Calls prog 258 #[u] w fun r w'=>r=.returned (.bool (decide (x.length<=16)))/\Bl w w':=by
 obtain ⟨D,E,rfl,-⟩:=A;go_enter func258,ntmps258
 go_wp21
 go_ret;exact ⟨by simp;omega,br _ _⟩
theorem zdy (vL:Value) (Z:Nat) (D:uh B w b l vC vS X Y vT vL Z):
 Calls prog 212 #[.p b] w fun r w'=>r=.returned (.bool (nk l))/\Bl w w':=by
 have c2:=bg D.blk 2 (x:=X) rfl;have c3:=bg D.blk 3 (x:=Y) rfl;have J:=bz D.blk;have O:=D.sF;have V:=D.sN;have F:=D.le;have N:Hid (nk l=((((range l.length).map (fieldsOf l)).all fun x=>decide (x.length<=12))&&(((range l.length).map (fg l)).all fun x=>decide (x.length<=16)))):=by show nk l=_;rw [nk,all_map,all_map];rfl
 clear D;generalize (range l.length).map (fieldsOf l)=LF at*;generalize (range l.length).map (fg l)=LN at*;have HF:=aj O;have HN:=aj V;obtain ⟨af,cf,rfl,-⟩:=O;obtain ⟨an,cn,rfl,-⟩:=V;go_enter func212,ntmps212
 go_wp21
 refine (zc9 _ B _ _ HF.o F 256 #[] #[] (fun x=>decide (x.length<=12)) (fun args w=>by kernel_rfl) ?_).mono ?_
 ·intro x _ u W _ L;exact zdw W B x u L
 rintro r w1 ⟨rfl,A⟩;have d3:w1.cell? ⟨b,3,none⟩=some (.slice an _ cn):=(A.cell (p:=⟨b,3,none⟩) J).trans c3;cases ha:LF.all fun x=>decide (x.length<=12)
 ·have G:Hid (nk l=false):=by rw [N.o,ha];rfl
  clear ha
  go_wp21
  go_ret;exact ⟨by rw [G.o];rfl,A⟩
 have G:Hid (nk l=(LN.all fun x=>decide (x.length<=16))):=by rw [N.o,ha];rfl
 clear ha
 go_wp21
 refine (zdc _ B _ _ (HN.o.keptSl (Kp.below (A.mono F)) fun _ _ h=>h) (by have:=A.size;omega) 258 #[] #[] (fun x=>decide (x.length<=16)) (fun args w=>by kernel_rfl) ?_).mono ?_
 ·intro x _ u W _ L;exact zdx W B x u L
 rintro r w2 ⟨rfl,E⟩;have I:=A.trans (E.mono A.size);clear A E
 go_wp21
 go_ret;exact ⟨by rw [G.o];rfl,I⟩
end
end Go.Proofs.YtjdnmblggdobgaaGreat
