import Derived.Test.YtjdnmblggdobgaaGreatJLMemLEv
set_option maxHeartbeats 2000000
namespace Go.Proofs.YtjdnmblggdobgaaGreat
open Go.RowKit Tryz
def ra (w:World) (b:Nat) (l:List aq):Prop:=∃Bm,w.cell? ⟨b,5,none⟩=some (.map (some Bm))/\iu w Bm l
theorem ra.lt {w:World} {b:Nat} {l:List aq} (h:ra w b l):b<w.heap.size:=by obtain ⟨A,h,_⟩:=h;exact World.block_lt_of_cell? w _ h
theorem ra.below {w w':World} {b:Nat} {l:List aq} (h:ra w b l) (A:Bl w w'):ra w' b l:=by have F:=h.lt;obtain ⟨E,h,D⟩:=h;exact ⟨E,(A.cell (p:=⟨b,5,none⟩) F).trans h,D.below A D.lt⟩
theorem Ad (w:World) (b:Nat) (l:List aq) (s:ByteArray) (D:ra w b l) (F:s.size<=maxLen):
 Calls prog 199 #[.p b,.string s] w fun r w'=>r=.returned (.i (num l s))/\w'=w:=by
 obtain ⟨A,h,E⟩:=D;exact zcg w b A l s h E F
theorem zdm (w:World) (b P:Nat) (l:List aq) (s:ByteArray) (A:ra w b l) (F:w.cell? ⟨P,0,none⟩=some (.p b)) (D:s.size<=maxLen):
 Calls prog 285 #[.string s,.p P] w fun r w'=>r=.returned (.bool (mm l s))/\w'=w:=by
 have E:=ag A;clear A;go_enter func285,ntmps285;go_wp2_with fail;refine (Ad _ b l s E.o D).mono ?_;rintro r G ⟨rfl,rfl⟩;clear D F;go_wp2_with fail;go_ret;exact ⟨rfl,rfl⟩
theorem zdn (w:World) (b B:Nat) (l:List aq) (v:Value) (ns:List ByteArray) (E:ra w b l) (I:SL 1 RS (· <B) w v ns) (N:B<=w.heap.size):
 Calls prog 235 #[.p b,v] w fun r w'=>r=.returned (.bool (ns.all (mm l)))/\Bl w w':=by
 have O:=qj prog;have L:=ag I;obtain ⟨Y,Z,rfl,-⟩:=I;have J:=ag E;have A:=ag (fun o=>(br w.heap.size w).alloc (nlq _) o);clear E;go_enter func235,ntmps235;go_wp2_with fail;refine (zc9 _ B _ ns (L.o.keptS (Kp.below ((A.o _).mono N))) (by simp;omega) 285 #[] _ (mm l) (fun args w=>by kernel_rfl) ?_).mono ?_
 ·rintro x hx u W F ⟨rfl,V⟩;refine (zdm W b w.heap.size l x ((J.o.below (A.o _)).below F) ((F.cell (p:=⟨w.heap.size,0,none⟩) (by simp)).trans (by simp [go_sem])) V).mono ?_;rintro r w' ⟨rfl,rfl⟩;exact ⟨rfl,br _ _⟩
 rintro r X ⟨rfl,G⟩;have D:Bl w X:=(A.o _).trans (G.mono (by simp));clear G;go_wp2_with fail;go_ret;exact ⟨rfl,D⟩
theorem Bv (w:World) (s:ByteArray) (t g:Nat) (E:s.size<=maxLen) (A:w.heap.size=g):SL 1 RS (· <g+1) (w.alloc (.cells #[.string s] t)) (.slice (some ⟨g,0,none⟩) 1 1) [s]:=by
 subst A;refine ⟨some ⟨w.heap.size,0,none⟩,1,rfl,nlq _,by unfold maxLen;simp,fun k D=>?_⟩;have:k=0:=by simpa using D
 subst this;refine ⟨w.heap.size,0,[.string s],rfl,by simp,by simp,rfl,fun j F=>?_,rfl,E⟩;have:j=0:=by omega
 subst this;simp [go_sem]
theorem Af (w:World) (k:fm) (t g:Nat) (D:k.de.size<=maxLen) (A:w.heap.size=g):SL 2 RK (· <g+1) (w.alloc (.cells #[.i k.kind,.string k.de] t)) (.slice (some ⟨g,0,none⟩) 1 1) [k]:=by
 subst A;refine ⟨some ⟨w.heap.size,0,none⟩,1,rfl,nlq _,by unfold maxLen;simp,fun i hi=>?_⟩;have:i=0:=by simpa using hi
 subst this;refine ⟨w.heap.size,0,[.i k.kind,.string k.de],rfl,by simp,by simp,rfl,fun j E=>?_,rfl,D⟩;rcases (by omega:j=0\/j=1)with rfl | rfl<;>simp [go_sem]
theorem zdo (w:World) (b P:Nat) (l:List aq) (k:fm) (J:ra w b l) (V:w.cell? ⟨P,0,none⟩=some (.p b)) (I:k.de.size<=maxLen):
 Calls prog 293 #[.agg #[.i k.kind,.string k.de],.p P] w fun r w'=>r=.returned (.bool (ig l k))/\Bl w w':=by
 have N:=ag J;have W:=World.block_lt_of_cell? w _ V;have E:=ag (fun o=>(br w.heap.size w).alloc (nlq _) o);clear J;by_cases h:k.de=⟨#[]⟩
 ·have F:Hid (ig l k=true):=by show ig l k=true;simp [ig,h]
  have h':=Cg h;clear h I;go_enter func293,ntmps293;go_wp2_with fail;go_ret;exact ⟨by rw [F.o];rfl,E.o _⟩
 have F:Hid (ig l k=mm l k.de):=by show ig l k=_;simp [ig,h]
 have h':¬k.de.toList= []:=fun e=>h (Eh e);have O:=ag I;clear h I;go_enter func293,ntmps293;go_wp2_with fail;have A:=E.o (.cells #[.i k.kind,.string k.de] 123);have D:=A.alloc A.size (.cells #[.string k.de] 9);refine (zdn _ b (w.heap.size+1+1) l _ [k.de] (N.o.below D) (Bv _ k.de _ (w.heap.size+1) O.o (by simp)) (by simp)).mono ?_;rintro r X ⟨rfl,L⟩;have G:=D.trans (L.mono (by simp;omega));clear L A D;go_wp2_with fail;go_ret;exact ⟨by rw [F.o];simp [h'],G⟩
theorem zdp (w:World) (b B:Nat) (l:List aq) (v:Value) (E:List fm) (F:ra w b l) (J:SL 2 RK (· <B) w v E) (O:B<=w.heap.size):
 Calls prog 244 #[.p b,v] w fun r w'=>r=.returned (.bool (E.all (ig l)))/\Bl w w':=by
 have V:=qj prog;have N:=ag J;obtain ⟨Z,cl,rfl,-⟩:=J;have L:=ag F;have A:=ag (fun o=>(br w.heap.size w).alloc (nlq _) o);clear F;go_enter func244,ntmps244;go_wp2_with fail;refine (zcx _ B _ E (N.o.keptK (Kp.below ((A.o _).mono O))) (by simp;omega) 293 #[] _ (ig l) (fun args w=>by kernel_rfl) ?_).mono ?_
 ·rintro x hx u W G ⟨rfl,X⟩;exact zdo W b w.heap.size l x ((L.o.below (A.o _)).below G) ((G.cell (p:=⟨w.heap.size,0,none⟩) (by simp)).trans (by simp [go_sem])) X
 rintro r Y ⟨rfl,I⟩;have D:Bl w Y:=(A.o _).trans (I.mono (by simp));clear I;go_wp2_with fail;go_ret;exact ⟨rfl,D⟩
end Go.Proofs.YtjdnmblggdobgaaGreat
namespace Go.Proofs.YtjdnmblggdobgaaGreat
open Go.RowKit Go.Maps Tryz
theorem o7 {B:Nat} {w w':World} (h:Below B w w') (n:Nat):Below B w (w'.drewN n):=⟨h.os,h.tape,h.output,h.size,h.block⟩
theorem ti.nums {B:Nat} {w:World} {b:Nat} {l:List aq} {D I E G J F:Value} {A:Nat} (h:ti B w b l D I E G J F A):ra w b l:=⟨A,bp h.blk 5 rfl,h.nm⟩
theorem ti.cell0 {B:Nat} {w:World} {b:Nat} {l:List aq} {A I E G J F:Value} {D:Nat} (h:ti B w b l A I E G J F D):w.cell? ⟨b,0,none⟩=some A:=bp h.blk 0 rfl
theorem zdr (w:World) (B b:Nat) (l:List aq) (O Y V X Z W:Value) (F:Nat) (E:ti B w b l O Y V X Z W F):
 Calls prog 203 #[.p b] w fun r w'=>r=.returned (.bool (dr l))/\Bl w w':=by
 have c0:=E.cell0;have c5:=bp E.blk 5 (x:=.map (some F)) rfl;obtain ⟨ao,cl,rfl,-,G,-⟩:=E.sC;obtain ⟨D,A,J⟩:=E.nm;have L:∀n I,(Builtin.len_ #[152] I #[.map (some F)]).run prog (w.drewN n)=.ok (.i (Maps.size D)) (w.drewN n):=fun n I=>World.ownsMap.len (w:=w.drewN n) A underlying152 I;have N:Hid (((Maps.size D:Int)==(l.length:Int))=dr l):=by show ((Maps.size D:Int)==(l.length:Int))=dr l;rw [Bool.eq_iff_iff,<-J.eq,beq_iff_eq];constructor<;>intro h<;>omega
 clear J A E;unfold maxLen at G;go_enter func203,ntmps203;go_wp2_with fail;go_quiet (fail);go_wp2_with fail;go_ret;exact ⟨by rw [<-N.o];rfl,o7 (br _ _) _⟩
theorem two_S (w:World) (s A:ByteArray) (t:Nat) (I:s.size<=maxLen) (D:A.size<=maxLen):SL 1 RS (· <w.heap.size+1) (w.alloc (.cells #[.string s,.string A] t)) (.slice (some ⟨w.heap.size,0,none⟩) 2 2) [s,A]:=by
 refine ⟨some ⟨w.heap.size,0,none⟩,2,rfl,nlq _,by unfold maxLen;simp,fun k F=>?_⟩;have G:k<2:=by simpa using F
 rcases (by omega:k=0\/k=1)with rfl | rfl
 ·refine ⟨w.heap.size,0,[.string s],rfl,by simp,by simp,rfl,fun j E=>?_,rfl,I⟩;have:j=0:=by omega
  subst this;simp [go_sem]
 refine ⟨w.heap.size,0,[.string A],rfl,by simp,by simp,rfl,fun j E=>?_,rfl,D⟩;have:j=0:=by omega
 subst this;simp [go_sem]
theorem zds (w:World) (B b:Nat) (l:List aq) (L W N V X O:Value) (G:Nat) (J:ti B w b l L W N V X O G):
 Calls prog 204 #[.p b] w fun r w'=>r=.returned (.bool (qb l))/\Bl w w':=by
 have I:=ag J.nums;have D:=ag (fun o=>(br w.heap.size w).alloc (nlq _) o);go_enter func204,ntmps204;go_wp2_with fail;have A:=D.o (.cells #[.string fw,.string gn] 9);refine (zdn _ b (w.heap.size+1) l _ [fw,gn] (I.o.below A) (two_S w fw gn _ (by decide) (by decide)) (by simp)).mono ?_;rintro r Y ⟨rfl,F⟩;have E:=A.trans (F.mono (by simp));clear F A;go_wp2_with fail;go_ret;exact ⟨by simp [qb],E⟩
theorem zdt:fw.toList= [79,98,106,101,99,116]:=by rw [ByteArray.toList_eq];rfl
def upperB (c:aq):Bool:=(decide (c.name=fw))==(decide (c.bv=(⟨#[]⟩:ByteArray)))
theorem zdu (w:World) (B:Nat) (c:aq) (u:Value) (I:Bb B w u c):
 Calls prog 237 #[u] w fun r w'=>r=.returned (.bool (upperB c))/\Bl w w':=by
 obtain ⟨N,J,mo,L,rfl,-,-,-,-⟩:=I;have D:=ag (fun o=>(br w.heap.size w).alloc (nlq _) o);by_cases h1:c.name=fw
 ·have G:c.name.toList= [79,98,106,101,99,116]:=by rw [h1];exact zdt
  by_cases A:c.bv=⟨#[]⟩
  ·have F:=Cg A;have E:Hid (upperB c=true):=by show upperB c=true;simp [upperB,h1,A]
   clear h1 A;go_enter func237,ntmps237;go_wp2_with fail;go_ret;exact ⟨by rw [E.o];simp,D.o _⟩
  have F:¬c.bv.toList= []:=fun e=>A (Eh e);have E:Hid (upperB c=false):=by show upperB c=false;simp [upperB,h1,A]
  clear h1 A;go_enter func237,ntmps237;go_wp2_with fail;go_ret;exact ⟨by rw [E.o];simp [F],D.o _⟩
 have G:¬c.name.toList= [79,98,106,101,99,116]:=fun e=>h1 (Av (e.trans zdt.symm));by_cases A:c.bv=⟨#[]⟩
 ·have F:=Cg A;have E:Hid (upperB c=false):=by show upperB c=false;simp [upperB,h1,A]
  clear h1 A;go_enter func237,ntmps237;go_wp2_with fail;go_ret;exact ⟨by rw [E.o];simp [G],D.o _⟩
 have F:¬c.bv.toList= []:=fun e=>A (Eh e);have E:Hid (upperB c=true):=by show upperB c=true;simp [upperB,h1,A]
 clear h1 A;go_enter func237,ntmps237;go_wp2_with fail;go_ret;exact ⟨by rw [E.o];simp;rw [beq_eq_false_iff_ne.2 G];(cases hh:c.bv.toList with | nil=>exact absurd hh F | cons _ _=>rfl),D.o _⟩
theorem zdv (w:World) (B b:Nat) (l:List aq) (J V L O X N:Value) (E:Nat) (A:ti B w b l J V L O X N E):
 Calls prog 205 #[.p b] w fun r w'=>r=.returned (.bool (ri l))/\Bl w w':=by
 have Z:=A.cell0;have F:=ag A.sC;have D:=A.le;obtain ⟨Y,cl,rfl,-⟩:=A.sC;clear A;go_enter func205,ntmps205;go_wp2_with fail;refine (zcp _ B _ l F.o D 237 #[] #[] upperB (fun args w=>by kernel_rfl) ?_).mono ?_
 ·intro x _ u W _ I;exact zdu W B x u I
 rintro r w1 ⟨rfl,G⟩;go_wp2_with fail;go_ret;exact ⟨rfl,G⟩
def rq (l:List aq) (c:aq):Bool:=decide (c.bv=(⟨#[]⟩:ByteArray))||mm l c.bv
theorem zdw (w:World) (B b P:Nat) (l:List aq) (c:aq) (u:Value) (hu:Bb B w u c) (J:ra w b l) (Y:w.cell? ⟨P,0,none⟩=some (.p b)):
 Calls prog 238 #[u,.p P] w fun r w'=>r=.returned (.bool (rq l c))/\Bl w w':=by
 obtain ⟨X,V,mo,W,rfl,-,-,-,I⟩:=hu;have Z:=World.block_lt_of_cell? w _ Y;have N:=ag J;have E:=ag (fun o=>(br w.heap.size w).alloc (nlq _) o);clear J;by_cases h:c.bv=⟨#[]⟩
 ·have F:Hid (rq l c=true):=by show rq l c=true;simp [rq,h]
  have h':=Cg h;clear h I;go_enter func238,ntmps238;go_wp2_with fail;go_ret;exact ⟨by rw [F.o];rfl,E.o _⟩
 have F:Hid (rq l c=mm l c.bv):=by show rq l c=_;simp [rq,h]
 have h':¬c.bv.toList= []:=fun e=>h (Eh e);have O:=ag I;clear h I;go_enter func238,ntmps238;go_wp2_with fail;have A:=E.o (.cells #[.string c.name,.string c.bv,.slice X c.fields.length V,.slice mo c.be.length W] 162);have D:=A.alloc A.size (.cells #[.string c.bv] 9);refine (zdn _ b (w.heap.size+1+1) l _ [c.bv] (N.o.below D) (Bv _ c.bv _ (w.heap.size+1) O.o (by simp)) (by simp)).mono ?_;rintro r w1 ⟨rfl,L⟩;have G:=D.trans (L.mono (by simp;omega));clear L A D;go_wp2_with fail;go_ret;exact ⟨by rw [F.o];simp [h'],G⟩
theorem zdx (w:World) (B b:Nat) (l:List aq) (Y vS Z vN vT vL:Value) (J:Nat) (D:ti B w b l Y vS Z vN vT vL J):
 Calls prog 206 #[.p b] w fun r w'=>r=.returned (.bool (mw l))/\Bl w w':=by
 have V:=qj prog;have c0:=D.cell0;have O:=bz D.blk;have N:=ag D.sC;have L:=ag D.nums;have F:=D.le;have A:=ag (fun o=>(br w.heap.size w).alloc (nlq _) o);obtain ⟨ao,cl,rfl,-⟩:=D.sC;clear D;go_enter func206,ntmps206;go_wp2_with fail;refine (zcp _ B _ l (N.o.keptC (Kp.below ((A.o _).mono F))) (by simp;omega) 238 #[] _ (rq l) (fun args w=>by kernel_rfl) ?_).mono ?_
 ·intro x _ u W G X;exact zdw W B b w.heap.size l x u X ((L.o.below (A.o _)).below G) ((G.cell (p:=⟨w.heap.size,0,none⟩) (by simp)).trans (by simp [go_sem]))
 rintro r w1 ⟨rfl,I⟩;have E:Bl w w1:=(A.o _).trans (I.mono (by simp));clear I;go_wp2_with fail;go_ret;exact ⟨rfl,E⟩
theorem zdy (w:World) (B b P:Nat) (l:List aq) (x:List Nat) (u:Value) (A:Option Addr) (D:Nat) (F:ya B w u x) (E:w.cell? ⟨b,0,none⟩=some (.slice A l.length D)) (J:w.cell? ⟨P,0,none⟩=some (.p b)):
 Calls prog 240 #[u,.p P] w fun r w'=>r=.returned (.bool (decide (x.length<=l.length)))/\Bl w w':=by
 obtain ⟨G,I,rfl,-⟩:=F;go_enter func240,ntmps240;go_wp2_with fail;go_ret;exact ⟨by simp,br _ _⟩
theorem zdz (w:World) (B b:Nat) (l:List aq) (vC vS vF vN vT O:Value) (V:Nat) (D:ti B w b l vC vS vF vN vT O V):
 Calls prog 207 #[.p b] w fun r w'=>r=.returned (.bool (jc l))/\Bl w w':=by
 have aa:=qj prog;have Z:=D.cell0;have c6:=bp D.blk 6 (x:=O) rfl;have G:=bz D.blk;have N:=D.sL;have I:=D.le;have A:=ag (fun o=>(br w.heap.size w).alloc (nlq _) o);obtain ⟨Y,cl,rfl,-⟩:=D.sC;have E:Hid (jc l=((List.range l.length).map (di l)).all fun x=>decide (x.length<=l.length)):=by show jc l=_;rw [jc,List.all_map];rfl
 clear D;generalize (List.range l.length).map (di l)=LL at*;have X:=ag N;obtain ⟨al,cc,rfl,-⟩:=N;go_enter func207,ntmps207;go_wp2_with fail;refine (zdd _ B _ _ (X.o.keptSl (Kp.below ((A.o _).mono I)) fun _ _ h=>h) (by simp;omega) 240 #[] _ (fun x=>decide (x.length<=l.length)) (fun args w=>by kernel_rfl) ?_).mono ?_
 ·intro x _ u W J hu;exact zdy W B b w.heap.size l x u Y cl hu ((J.cell (p:=⟨b,0,none⟩) (by simp;omega)).trans (((A.o _).cell (p:=⟨b,0,none⟩) G).trans Z)) ((J.cell (p:=⟨w.heap.size,0,none⟩) (by simp)).trans (by simp [go_sem]))
 rintro r w1 ⟨rfl,L⟩;have F:Bl w w1:=(A.o _).trans (L.mono (by simp));clear L;go_wp2_with fail;go_ret;exact ⟨by rw [E.o];rfl,F⟩
theorem zd0 (w:World) (B b P:Nat) (l:List aq) (x:bq) (u:Value) (W:A1 B w u x) (G:ra w b l) (O:w.cell? ⟨P,0,none⟩=some (.p b)):
 Calls prog 243 #[u,.p P] w fun r w'=>r=.returned (.bool (ig l x.kind))/\Bl w w':=by
 obtain ⟨rfl,-,J⟩:=W;have V:=World.block_lt_of_cell? w _ O;have L:=ag G;have N:=ag J;have E:=ag (fun o=>(br w.heap.size w).alloc (nlq _) o);clear G J;go_enter func243,ntmps243;go_wp2_with fail;have A:=E.o (.cells #[.string x.name,.i x.kind.kind,.string x.kind.de] 125);have D:=A.alloc A.size (.cells #[.i x.kind.kind,.string x.kind.de] 123);refine (zdp _ b (w.heap.size+1+1) l _ [x.kind] (L.o.below D) (Af _ x.kind _ (w.heap.size+1) N.o (by simp)) (by simp)).mono ?_;rintro r X ⟨rfl,I⟩;have F:=D.trans (I.mono (by simp;omega));clear I A D;go_wp2_with fail;go_ret;exact ⟨by simp,F⟩
theorem zd1 (w:World) (B b P:Nat) (l:List aq) (x:iz) (u:Value) (W:Dx B w u x) (G:ra w b l) (O:w.cell? ⟨P,0,none⟩=some (.p b)):
 Calls prog 297 #[u,.p P] w fun r w'=>r=.returned (.bool (mm l x.de))/\Bl w w':=by
 obtain ⟨rfl,J⟩:=W;have V:=World.block_lt_of_cell? w _ O;have L:=ag G;have N:=ag J;have E:=ag (fun o=>(br w.heap.size w).alloc (nlq _) o);clear G J;go_enter func297,ntmps297;go_wp2_with fail;have A:=E.o (.cells #[.i x.yj,.i x.upto,.i x.loc,.string x.de] 248);have D:=A.alloc A.size (.cells #[.string x.de] 9);refine (zdn _ b (w.heap.size+1+1) l _ [x.de] (L.o.below D) (Bv _ x.de _ (w.heap.size+1) N.o (by simp)) (by simp)).mono ?_;rintro r X ⟨rfl,I⟩;have F:=D.trans (I.mono (by simp;omega));clear I A D;go_wp2_with fail;go_ret;exact ⟨by simp,F⟩
theorem zd2 (w:World) (B b:Nat) (l:List aq) (x:d9) (u:Value) (hu:zr B w u x) (hN:ra w b l) (hB:B<=w.heap.size):
 Calls prog 246 #[.p b,u] w fun r w'=>r=.returned (.bool (my l x))/\Bl w w':=by
 have ac:=qj prog;obtain ⟨ao,ca,ho,Y,rfl,ea,eh,-,hs,-⟩:=hu;have X:=ag hN;have HS:=ag hs;have EA:=ag ea;have EH:=ag eh;have O:=ag (fun o=>(br w.heap.size w).alloc (nlq _) o);clear hN hs ea eh;have J:=O.o (.cells #[.p b] 148);have G:=J.alloc J.size (.cells #[.string x.name,.bool x.static,.slice ao x.args.length ca,.i x.ret.kind,.string x.ret.de,.i x.stack,.i x.locals,.string x.code,.slice ho x.hands.length Y] 159);go_enter func246,ntmps246;go_wp2_with fail;refine (zdp _ b B l _ x.args (X.o.below G) (EA.o.keptK (Kp.below (G.mono hB))) (by simp;omega)).mono ?_;rintro r I ⟨rfl,D⟩;have d0:I.cell? ⟨w.heap.size,0,none⟩=some (.p b):=(D.cell (p:=⟨w.heap.size,0,none⟩) (by simp;omega)).trans (by simp [go_sem]);have d3:I.cell? ⟨w.heap.size+1,3,none⟩=some (.i x.ret.kind):=(D.cell (p:=⟨w.heap.size+1,3,none⟩) (by simp)).trans (by simp [go_sem]);have d4:I.cell? ⟨w.heap.size+1,4,none⟩=some (.string x.ret.de):=(D.cell (p:=⟨w.heap.size+1,4,none⟩) (by simp)).trans (by simp [go_sem]);have d8:I.cell? ⟨w.heap.size+1,8,none⟩=some (.slice ho x.hands.length Y):=(D.cell (p:=⟨w.heap.size+1,8,none⟩) (by simp)).trans (by simp [go_sem]);have E:=G.trans (D.mono (by simp;omega));have ad:w.heap.size+1<I.heap.size:=World.block_lt_of_cell? I _ d3;have V:Hid (my l x=(x.args.all (ig l)&&ig l x.ret&&x.hands.all (fun h=>mm l h.de))):=rfl;clear D J G;cases ha:x.args.all (ig l)
 ·have N:Hid (my l x=false):=by rw [V.o,ha];rfl
  clear ha;go_wp2_with fail;go_ret;exact ⟨by rw [N.o];rfl,E⟩
 have HA:=ag ha;clear ha;go_wp2_with fail;have L:=E.alloc E.size (.cells #[.i x.ret.kind,.string x.ret.de] 123);refine (zdp _ b (I.heap.size+1) l _ [x.ret] (X.o.below L) (Af I x.ret _ I.heap.size HS.o rfl) (by simp)).mono ?_;rintro r w2 ⟨rfl,D⟩;have A:=L.trans (D.mono (by have:=E.size;simp;omega));have Z:w2.cell? ⟨w.heap.size,0,none⟩=some (.p b):=(D.cell (p:=⟨w.heap.size,0,none⟩) (by simp;omega)).trans (by rw [World.cell?_alloc_past _ _ _ (by omega)];exact d0);have f8:w2.cell? ⟨w.heap.size+1,8,none⟩=some (.slice ho x.hands.length Y):=(D.cell (p:=⟨w.heap.size+1,8,none⟩) (by simp;omega)).trans (by rw [World.cell?_alloc_past _ _ _ (by omega)];exact d8);clear D E L d0 d3 d4 d8;cases hr:ig l x.ret
 ·have N:Hid (my l x=false):=by rw [V.o,HA.o,hr];rfl
  have F:([x.ret].all (ig l))=false:=by simp [hr]
  rw [F];clear hr F;go_wp2_with fail;go_ret;exact ⟨by rw [N.o];rfl,A⟩
 have N:Hid (my l x=x.hands.all (fun h=>mm l h.de)):=by rw [V.o,HA.o,hr];rfl
 have F:([x.ret].all (ig l))=true:=by simp [hr]
 rw [F];clear hr F;go_wp2_with fail;refine (zc1 _ B _ x.hands (EH.o.keptH (Kp.below (A.mono hB))) (by have:=A.size;omega) 297 #[] _ (fun h=>mm l h.de) (fun args w=>by kernel_rfl) ?_).mono ?_
 ·intro y _ u W hW hu;exact zd1 W B b w.heap.size l y u hu ((X.o.below A).below hW) ((hW.cell (p:=⟨w.heap.size,0,none⟩) (World.block_lt_of_cell? w2 _ Z)).trans Z)
 rintro r w3 ⟨rfl,D⟩;have aa:=A.trans (D.mono A.size);clear D A Z f8;go_wp2_with fail;go_ret;exact ⟨by rw [N.o];rfl,aa⟩
def yu (l:List aq) (c:aq):Bool:=(c.fields.all fun f=>ig l f.kind)&&c.be.all (my l)
theorem zd3 (w:World) (B b P:Nat) (l:List aq) (c:aq) (u:Value) (I:Bb B w u c) (hN:ra w b l) (J:w.cell? ⟨P,0,none⟩=some (.p b)) (hB:B<=w.heap.size):
 Calls prog 241 #[u,.p P] w fun r w'=>r=.returned (.bool (yu l c))/\Bl w w':=by
 have ac:=qj prog;obtain ⟨fo,cf,mo,Z,rfl,ef,em,-,-⟩:=I;have F:=World.block_lt_of_cell? w _ J;have Y:=ag hN;have EF:=ag ef;have EM:=ag em;have N:=ag (fun o=>(br w.heap.size w).alloc (nlq _) o);clear hN ef em;have D:=N.o (.cells #[.string c.name,.string c.bv,.slice fo c.fields.length cf,.slice mo c.be.length Z] 162);go_enter func241,ntmps241;go_wp2_with fail;refine (zct _ B _ c.fields (EF.o.keptF (Kp.below (D.mono hB))) (by simp;omega) 243 #[] _ (fun f=>ig l f.kind) (fun args w=>by kernel_rfl) ?_).mono ?_
 ·intro y _ u W G I;exact zd0 W B b P l y u I ((Y.o.below D).below G) ((G.cell (p:=⟨P,0,none⟩) (by simp;omega)).trans ((D.cell (p:=⟨P,0,none⟩) F).trans J))
 rintro r L ⟨rfl,E⟩;have d3:L.cell? ⟨w.heap.size,3,none⟩=some (.slice mo c.be.length Z):=(E.cell (p:=⟨w.heap.size,3,none⟩) (by simp)).trans (by simp [go_sem]);have A:=D.trans (E.mono (by simp));have ad:w.heap.size<L.heap.size:=World.block_lt_of_cell? L _ d3;have aa:L.cell? ⟨P,0,none⟩=some (.p b):=(A.cell (p:=⟨P,0,none⟩) F).trans J;have X:Hid (yu l c=((c.fields.all fun f=>ig l f.kind)&&c.be.all (my l))):=rfl;clear E D J;cases ha:c.fields.all fun f=>ig l f.kind
 ·have O:Hid (yu l c=false):=by rw [X.o,ha];rfl
  clear ha;go_wp2_with fail;go_ret;exact ⟨by rw [O.o];rfl,A⟩
 have O:Hid (yu l c=c.be.all (my l)):=by rw [X.o,ha];rfl
 clear ha;go_wp2_with fail;refine (zc5 _ B _ c.be (EM.o.keptM (Kp.below (A.mono hB))) (by omega) 246 _ #[] (my l) (fun args w=>by kernel_rfl) ?_).mono ?_
 ·intro y _ u W G I;exact zd2 W B b l y u I ((Y.o.below A).below G) (by have:=G.size;omega)
 rintro r w2 ⟨rfl,E⟩;have V:=A.trans (E.mono A.size);clear E A;go_wp2_with fail;go_ret;exact ⟨by rw [O.o];rfl,V⟩
theorem zd4 (w:World) (B b:Nat) (l:List aq) (Y vS Z vN vT vL:Value) (J:Nat) (D:ti B w b l Y vS Z vN vT vL J):
 Calls prog 209 #[.p b] w fun r w'=>r=.returned (.bool (sq l))/\Bl w w':=by
 have V:=qj prog;have c0:=D.cell0;have O:=bz D.blk;have N:=ag D.sC;have L:=ag D.nums;have G:=D.le;have A:=ag (fun o=>(br w.heap.size w).alloc (nlq _) o);obtain ⟨ao,cl,rfl,-⟩:=D.sC;clear D;go_enter func209,ntmps209;go_wp2_with fail;refine (zcp _ B _ l (N.o.keptC (Kp.below ((A.o _).mono G))) (by simp;omega) 241 #[] _ (yu l) (fun args w=>by kernel_rfl) ?_).mono ?_
 ·intro x _ u W E X;exact zd3 W B b w.heap.size l x u X ((L.o.below (A.o _)).below E) ((E.cell (p:=⟨w.heap.size,0,none⟩) (by simp)).trans (by simp [go_sem])) (by have:=E.size;simp at this;omega)
 rintro r w1 ⟨rfl,I⟩;have F:Bl w w1:=(A.o _).trans (I.mono (by simp));clear I;go_wp2_with fail;go_ret;exact ⟨rfl,F⟩
theorem zd5 (w:World) (B:Nat) (x:List bq) (u:Value) (A:xb B w u x):Calls prog 256 #[u] w fun r w'=>r=.returned (.bool (decide (x.length<=12)))/\Bl w w':=by obtain ⟨D,E,rfl,-⟩:=A;go_enter func256,ntmps256;go_wp2_with fail;go_ret;exact ⟨by simp;omega,br _ _⟩
theorem zd6 (w:World) (B:Nat) (x:List ByteArray) (u:Value) (A:yb B w u x):Calls prog 258 #[u] w fun r w'=>r=.returned (.bool (decide (x.length<=16)))/\Bl w w':=by obtain ⟨D,E,rfl,-⟩:=A;go_enter func258,ntmps258;go_wp2_with fail;go_ret;exact ⟨by simp;omega,br _ _⟩
theorem zd7 (w:World) (B b:Nat) (l:List aq) (vC vS X Y vT vL:Value) (Z:Nat) (D:ti B w b l vC vS X Y vT vL Z):
 Calls prog 212 #[.p b] w fun r w'=>r=.returned (.bool (mu l))/\Bl w w':=by
 have c2:=bp D.blk 2 (x:=X) rfl;have c3:=bp D.blk 3 (x:=Y) rfl;have J:=bz D.blk;have O:=D.sF;have V:=D.sN;have F:=D.le;have N:Hid (mu l=((((List.range l.length).map (fieldsOf l)).all fun x=>decide (x.length<=12))&&(((List.range l.length).map (fb l)).all fun x=>decide (x.length<=16)))):=by show mu l=_;rw [mu,List.all_map,List.all_map];rfl
 clear D;generalize (List.range l.length).map (fieldsOf l)=LF at*;generalize (List.range l.length).map (fb l)=LN at*;have HF:=ag O;have HN:=ag V;obtain ⟨af,cf,rfl,-⟩:=O;obtain ⟨an,cn,rfl,-⟩:=V;go_enter func212,ntmps212;go_wp2_with fail;refine (zdh _ B _ _ HF.o F 256 #[] #[] (fun x=>decide (x.length<=12)) (fun args w=>by kernel_rfl) ?_).mono ?_
 ·intro x _ u W _ L;exact zd5 W B x u L
 rintro r w1 ⟨rfl,A⟩;have d3:w1.cell? ⟨b,3,none⟩=some (.slice an _ cn):=(A.cell (p:=⟨b,3,none⟩) J).trans c3;cases ha:LF.all fun x=>decide (x.length<=12)
 ·have G:Hid (mu l=false):=by rw [N.o,ha];rfl
  clear ha;go_wp2_with fail;go_ret;exact ⟨by rw [G.o];rfl,A⟩
 have G:Hid (mu l=(LN.all fun x=>decide (x.length<=16))):=by rw [N.o,ha];rfl
 clear ha;go_wp2_with fail;refine (zdl _ B _ _ (HN.o.keptSl (Kp.below (A.mono F)) fun _ _ h=>h) (by have:=A.size;omega) 258 #[] #[] (fun x=>decide (x.length<=16)) (fun args w=>by kernel_rfl) ?_).mono ?_
 ·intro x _ u W _ L;exact zd6 W B x u L
 rintro r w2 ⟨rfl,E⟩;have I:=A.trans (E.mono A.size);clear A E;go_wp2_with fail;go_ret;exact ⟨by rw [G.o];rfl,I⟩
end Go.Proofs.YtjdnmblggdobgaaGreat
