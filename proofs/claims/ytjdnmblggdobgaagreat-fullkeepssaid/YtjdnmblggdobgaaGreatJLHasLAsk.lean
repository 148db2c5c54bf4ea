import Derived.Test.YtjdnmblggdobgaaGreatJTk2Dies
import Derived.Test.YtjdnmblggdobgaaGreatJLMemLEv
set_option maxHeartbeats 2000000
namespace Go.Proofs.YtjdnmblggdobgaaGreat
open Go.RowKit
def Nums (w:World) (b:Nat) (l:List am):Prop:=∃Bm,w.cell? ⟨b,5,none⟩=some (.map (some Bm))/\ia w Bm l
theorem Nums.lt {w:World} {b:Nat} {l:List am} (h:Nums w b l):b<w.heap.size:=by obtain ⟨u,h,_⟩:=h;exact World.block_lt_of_cell? w _ h
theorem Nums.below {w w':World} {b:Nat} {l:List am} (h:Nums w b l) (u:Below w.heap.size w w'):Nums w' b l:=by have E:=h.lt;obtain ⟨D,h,A⟩:=h;exact ⟨D,(u.cell (p:=⟨b,5,none⟩) E).trans h,A.below u A.lt⟩
theorem numberN (w:World) (b:Nat) (l:List am) (s:ByteArray) (A:Nums w b l) (E:s.size<=maxLen):
 Calls Tryz.prog 199 #[.pointer (some ⟨b,0,none⟩),.string s] w fun r w'=>r=.returned (.int .i64 (num l s))/\w'=w:=by
 obtain ⟨u,h,D⟩:=A;exact zcg w b u l s h D E
theorem zdm (w:World) (b P:Nat) (l:List am) (s:ByteArray) (u:Nums w b l) (E:w.cell? ⟨P,0,none⟩=some (.pointer (some ⟨b,0,none⟩))) (A:s.size<=maxLen):
 Calls Tryz.prog 285 #[.string s,.pointer (some ⟨P,0,none⟩)] w fun r w'=>r=.returned (.bool (kw l s))/\w'=w:=by
 have D:=ag u;clear u;go_enter Tryz.func285,Tryz.ntmps285;go_wp2_with fail;refine (numberN _ b l s D.o A).mono ?_;rintro r F ⟨rfl,rfl⟩;clear A E;go_wp2_with fail;go_ret;exact ⟨rfl,rfl⟩
theorem zdn (w:World) (b B:Nat) (l:List am) (v:Value) (ns:List ByteArray) (E:Nums w b l) (I:SL 1 RS (· <B) w v ns) (N:B<=w.heap.size):
 Calls Tryz.prog 235 #[.pointer (some ⟨b,0,none⟩),v] w fun r w'=>r=.returned (.bool (ns.all (kw l)))/\Below w.heap.size w w':=by
 have O:=np Tryz.prog;have L:=ag I;obtain ⟨Y,Z,rfl,-⟩:=I;have J:=ag E;have A:=ag (fun o=>(br w.heap.size w).alloc (nlq _) o);clear E;go_enter Tryz.func235,Tryz.ntmps235;go_wp2_with fail;refine (zc9 _ B _ ns (L.o.keptS (Kp.below ((A.o _).mono N))) (by simp;omega) 285 #[] _ (kw l) (fun args w=>by kernel_rfl) ?_).mono ?_
 ·rintro x hx u W F ⟨rfl,V⟩;refine (zdm W b w.heap.size l x ((J.o.below (A.o _)).below F) ((F.cell (p:=⟨w.heap.size,0,none⟩) (by simp)).trans (by simp [go_sem])) V).mono ?_;rintro r w' ⟨rfl,rfl⟩;exact ⟨rfl,br _ _⟩
 rintro r X ⟨rfl,G⟩;have D:Below w.heap.size w X:=(A.o _).trans (G.mono (by simp));clear G;go_wp2_with fail;go_ret;exact ⟨rfl,D⟩
theorem one_S (w:World) (s:ByteArray) (t g:Nat) (D:s.size<=maxLen) (u:w.heap.size=g):SL 1 RS (· <g+1) (w.alloc (.cells #[.string s] t)) (.slice (some ⟨g,0,none⟩) 1 1) [s]:=by
 subst u;refine ⟨some ⟨w.heap.size,0,none⟩,1,rfl,nlq _,by unfold maxLen;simp,fun k A=>?_⟩;have:k=0:=by simpa using A
 subst this;refine ⟨w.heap.size,0,[.string s],rfl,by simp,by simp,rfl,fun j E=>?_,rfl,D⟩;have:j=0:=by omega
 subst this;simp [go_sem]
theorem one_K (w:World) (k:ew) (t g:Nat) (A:k.da.size<=maxLen) (u:w.heap.size=g):SL 2 RK (· <g+1) (w.alloc (.cells #[.int .i64 k.kind,.string k.da] t)) (.slice (some ⟨g,0,none⟩) 1 1) [k]:=by
 subst u;refine ⟨some ⟨w.heap.size,0,none⟩,1,rfl,nlq _,by unfold maxLen;simp,fun i hi=>?_⟩;have:i=0:=by simpa using hi
 subst this;refine ⟨w.heap.size,0,[.int .i64 k.kind,.string k.da],rfl,by simp,by simp,rfl,fun j D=>?_,rfl,A⟩;rcases (by omega:j=0\/j=1)with rfl | rfl<;>simp [go_sem]
theorem zdo (w:World) (b P:Nat) (l:List am) (k:ew) (I:Nums w b l) (O:w.cell? ⟨P,0,none⟩=some (.pointer (some ⟨b,0,none⟩))) (G:k.da.size<=maxLen):
 Calls Tryz.prog 293 #[.agg #[.int .i64 k.kind,.string k.da],.pointer (some ⟨P,0,none⟩)] w fun r w'=>r=.returned (.bool (gq l k))/\Below w.heap.size w w':=by
 have L:=ag I;have V:=World.block_lt_of_cell? w _ O;have D:=ag (fun o=>(br w.heap.size w).alloc (nlq _) o);clear I;by_cases h:k.da=⟨#[]⟩
 ·have E:Hid (gq l k=true):=by show gq l k=true;simp [gq,h]
  have h':=zcb h;clear h G;go_enter Tryz.func293,Tryz.ntmps293;go_wp2_with fail;go_ret;exact ⟨by rw [E.o];rfl,D.o _⟩
 have E:Hid (gq l k=kw l k.da):=by show gq l k=_;simp [gq,h]
 have h':¬k.da.toList= []:=fun e=>h (zca e);have N:=ag G;clear h G;go_enter Tryz.func293,Tryz.ntmps293;go_wp2_with fail;have u:=D.o (.cells #[.int .i64 k.kind,.string k.da] 123);have A:=u.alloc u.size (.cells #[.string k.da] 9);refine (zdn _ b (w.heap.size+1+1) l _ [k.da] (L.o.below A) (one_S _ k.da _ (w.heap.size+1) N.o (by simp)) (by simp)).mono ?_;rintro r W ⟨rfl,J⟩;have F:=A.trans (J.mono (by simp;omega));clear J u A;go_wp2_with fail;go_ret;exact ⟨by rw [E.o];simp [h'],F⟩
theorem zdp (w:World) (b B:Nat) (l:List am) (v:Value) (E:List ew) (F:Nums w b l) (J:SL 2 RK (· <B) w v E) (O:B<=w.heap.size):
 Calls Tryz.prog 244 #[.pointer (some ⟨b,0,none⟩),v] w fun r w'=>r=.returned (.bool (E.all (gq l)))/\Below w.heap.size w w':=by
 have V:=np Tryz.prog;have N:=ag J;obtain ⟨Z,cl,rfl,-⟩:=J;have L:=ag F;have A:=ag (fun o=>(br w.heap.size w).alloc (nlq _) o);clear F;go_enter Tryz.func244,Tryz.ntmps244;go_wp2_with fail;refine (zcx _ B _ E (N.o.keptK (Kp.below ((A.o _).mono O))) (by simp;omega) 293 #[] _ (gq l) (fun args w=>by kernel_rfl) ?_).mono ?_
 ·rintro x hx u W G ⟨rfl,X⟩;exact zdo W b w.heap.size l x ((L.o.below (A.o _)).below G) ((G.cell (p:=⟨w.heap.size,0,none⟩) (by simp)).trans (by simp [go_sem])) X
 rintro r Y ⟨rfl,I⟩;have D:Below w.heap.size w Y:=(A.o _).trans (I.mono (by simp));clear I;go_wp2_with fail;go_ret;exact ⟨rfl,D⟩
end Go.Proofs.YtjdnmblggdobgaaGreat
namespace Go.Proofs.YtjdnmblggdobgaaGreat
open Go.RowKit Go.Maps
theorem mp {B:Nat} {w w':World} (h:Below B w w') (n:Nat):Below B w (w'.drewN n):=⟨h.os,h.tape,h.output,h.size,h.block⟩
theorem Web.nums {B:Nat} {w:World} {b:Nat} {l:List am} {A G D F I E:Value} {u:Nat} (h:Web B w b l A G D F I E u):Nums w b l:=⟨u,ba h.blk 5 rfl,h.nm⟩
theorem Web.cell0 {B:Nat} {w:World} {b:Nat} {l:List am} {u G D F I E:Value} {A:Nat} (h:Web B w b l u G D F I E A):w.cell? ⟨b,0,none⟩=some u:=ba h.blk 0 rfl
theorem zdr (w:World) (B b:Nat) (l:List am) (N X O W Y V:Value) (E:Nat) (A:Web B w b l N X O W Y V E):
 Calls Tryz.prog 203 #[.pointer (some ⟨b,0,none⟩)] w fun r w'=>r=.returned (.bool (dq l))/\Below w.heap.size w w':=by
 have c0:=A.cell0;have c5:=ba A.blk 5 (x:=.map (some E)) rfl;obtain ⟨Z,cl,rfl,-,F,-⟩:=A.sC;obtain ⟨D,u,I⟩:=A.nm;have J:∀n G,(Builtin.len_ #[152] G #[.map (some E)]).run Tryz.prog (w.drewN n)=.ok (.int .i64 (Maps.size D)) (w.drewN n):=fun n G=>World.ownsMap.len (w:=w.drewN n) u Tryz.underlying152 G;have L:Hid (((Maps.size D:Int)==(l.length:Int))=dq l):=by show ((Maps.size D:Int)==(l.length:Int))=dq l;rw [Bool.eq_iff_iff,<-I.eq,beq_iff_eq];constructor<;>intro h<;>omega
 clear I u A;unfold maxLen at F;go_enter Tryz.func203,Tryz.ntmps203;go_wp2_with fail;go_quiet (fail);go_wp2_with fail;go_ret;exact ⟨by rw [<-L.o];rfl,mp (br _ _) _⟩
theorem two_S (w:World) (s u:ByteArray) (t:Nat) (G:s.size<=maxLen) (A:u.size<=maxLen):SL 1 RS (· <w.heap.size+1) (w.alloc (.cells #[.string s,.string u] t)) (.slice (some ⟨w.heap.size,0,none⟩) 2 2) [s,u]:=by
 refine ⟨some ⟨w.heap.size,0,none⟩,2,rfl,nlq _,by unfold maxLen;simp,fun k E=>?_⟩;have F:k<2:=by simpa using E
 rcases (by omega:k=0\/k=1)with rfl | rfl
 ·refine ⟨w.heap.size,0,[.string s],rfl,by simp,by simp,rfl,fun j D=>?_,rfl,G⟩;have:j=0:=by omega
  subst this;simp [go_sem]
 refine ⟨w.heap.size,0,[.string u],rfl,by simp,by simp,rfl,fun j D=>?_,rfl,A⟩;have:j=0:=by omega
 subst this;simp [go_sem]
theorem zds (w:World) (B b:Nat) (l:List am) (J V L O W N:Value) (F:Nat) (I:Web B w b l J V L O W N F):
 Calls Tryz.prog 204 #[.pointer (some ⟨b,0,none⟩)] w fun r w'=>r=.returned (.bool (ni l))/\Below w.heap.size w w':=by
 have G:=ag I.nums;have A:=ag (fun o=>(br w.heap.size w).alloc (nlq _) o);go_enter Tryz.func204,Tryz.ntmps204;go_wp2_with fail;have u:=A.o (.cells #[.string fd,.string f9] 9);refine (zdn _ b (w.heap.size+1) l _ [fd,f9] (G.o.below u) (two_S w fd f9 _ (by decide) (by decide)) (by simp)).mono ?_;rintro r X ⟨rfl,E⟩;have D:=u.trans (E.mono (by simp));clear E u;go_wp2_with fail;go_ret;exact ⟨by simp [ni],D⟩
theorem zdt:fd.toList= [79,98,106,101,99,116]:=by rw [ByteArray.toList_eq];rfl
def upperB (c:am):Bool:=(decide (c.name=fd))==(decide (c.bq=(⟨#[]⟩:ByteArray)))
theorem zdu (w:World) (B:Nat) (c:am) (u:Value) (I:ElC B w u c):
 Calls Tryz.prog 237 #[u] w fun r w'=>r=.returned (.bool (upperB c))/\Below w.heap.size w w':=by
 obtain ⟨N,J,O,L,rfl,-,-,-,-⟩:=I;have D:=ag (fun o=>(br w.heap.size w).alloc (nlq _) o);by_cases h1:c.name=fd
 ·have G:c.name.toList= [79,98,106,101,99,116]:=by rw [h1];exact zdt
  by_cases A:c.bq=⟨#[]⟩
  ·have F:=zcb A;have E:Hid (upperB c=true):=by show upperB c=true;simp [upperB,h1,A]
   clear h1 A;go_enter Tryz.func237,Tryz.ntmps237;go_wp2_with fail;go_ret;exact ⟨by rw [E.o];simp,D.o _⟩
  have F:¬c.bq.toList= []:=fun e=>A (zca e);have E:Hid (upperB c=false):=by show upperB c=false;simp [upperB,h1,A]
  clear h1 A;go_enter Tryz.func237,Tryz.ntmps237;go_wp2_with fail;go_ret;exact ⟨by rw [E.o];simp [F],D.o _⟩
 have G:¬c.name.toList= [79,98,106,101,99,116]:=fun e=>h1 (zb9 (e.trans zdt.symm));by_cases A:c.bq=⟨#[]⟩
 ·have F:=zcb A;have E:Hid (upperB c=false):=by show upperB c=false;simp [upperB,h1,A]
  clear h1 A;go_enter Tryz.func237,Tryz.ntmps237;go_wp2_with fail;go_ret;exact ⟨by rw [E.o];simp [G],D.o _⟩
 have F:¬c.bq.toList= []:=fun e=>A (zca e);have E:Hid (upperB c=true):=by show upperB c=true;simp [upperB,h1,A]
 clear h1 A;go_enter Tryz.func237,Tryz.ntmps237;go_wp2_with fail;go_ret;exact ⟨by rw [E.o];simp;rw [beq_eq_false_iff_ne.2 G];(cases hh:c.bq.toList with | nil=>exact absurd hh F | cons _ _=>rfl),D.o _⟩
theorem zdv (w:World) (B b:Nat) (l:List am) (J V L O X N:Value) (E:Nat) (A:Web B w b l J V L O X N E):
 Calls Tryz.prog 205 #[.pointer (some ⟨b,0,none⟩)] w fun r w'=>r=.returned (.bool (askUpper l))/\Below w.heap.size w w':=by
 have Z:=A.cell0;have F:=ag A.sC;have D:=A.le;obtain ⟨Y,cl,rfl,-⟩:=A.sC;clear A;go_enter Tryz.func205,Tryz.ntmps205;go_wp2_with fail;refine (zcp _ B _ l F.o D 237 #[] #[] upperB (fun args w=>by kernel_rfl) ?_).mono ?_
 ·intro x _ u W _ I;exact zdu W B x u I
 rintro r w1 ⟨rfl,G⟩;go_wp2_with fail;go_ret;exact ⟨rfl,G⟩
def superB (l:List am) (c:am):Bool:=decide (c.bq=(⟨#[]⟩:ByteArray))||kw l c.bq
theorem zdw (w:World) (B b P:Nat) (l:List am) (c:am) (u:Value) (hu:ElC B w u c) (J:Nums w b l) (Y:w.cell? ⟨P,0,none⟩=some (.pointer (some ⟨b,0,none⟩))):
 Calls Tryz.prog 238 #[u,.pointer (some ⟨P,0,none⟩)] w fun r w'=>r=.returned (.bool (superB l c))/\Below w.heap.size w w':=by
 obtain ⟨X,V,mo,W,rfl,-,-,-,I⟩:=hu;have Z:=World.block_lt_of_cell? w _ Y;have N:=ag J;have E:=ag (fun o=>(br w.heap.size w).alloc (nlq _) o);clear J;by_cases h:c.bq=⟨#[]⟩
 ·have F:Hid (superB l c=true):=by show superB l c=true;simp [superB,h]
  have h':=zcb h;clear h I;go_enter Tryz.func238,Tryz.ntmps238;go_wp2_with fail;go_ret;exact ⟨by rw [F.o];rfl,E.o _⟩
 have F:Hid (superB l c=kw l c.bq):=by show superB l c=_;simp [superB,h]
 have h':¬c.bq.toList= []:=fun e=>h (zca e);have O:=ag I;clear h I;go_enter Tryz.func238,Tryz.ntmps238;go_wp2_with fail;have A:=E.o (.cells #[.string c.name,.string c.bq,.slice X c.fields.length V,.slice mo c.ar.length W] 162);have D:=A.alloc A.size (.cells #[.string c.bq] 9);refine (zdn _ b (w.heap.size+1+1) l _ [c.bq] (N.o.below D) (one_S _ c.bq _ (w.heap.size+1) O.o (by simp)) (by simp)).mono ?_;rintro r w1 ⟨rfl,L⟩;have G:=D.trans (L.mono (by simp;omega));clear L A D;go_wp2_with fail;go_ret;exact ⟨by rw [F.o];simp [h'],G⟩
theorem zdx (w:World) (B b:Nat) (l:List am) (Y vS Z vN vT vL:Value) (J:Nat) (D:Web B w b l Y vS Z vN vT vL J):
 Calls Tryz.prog 206 #[.pointer (some ⟨b,0,none⟩)] w fun r w'=>r=.returned (.bool (ld l))/\Below w.heap.size w w':=by
 have V:=np Tryz.prog;have c0:=D.cell0;have O:=bz D.blk;have N:=ag D.sC;have L:=ag D.nums;have F:=D.le;have A:=ag (fun o=>(br w.heap.size w).alloc (nlq _) o);obtain ⟨ao,cl,rfl,-⟩:=D.sC;clear D;go_enter Tryz.func206,Tryz.ntmps206;go_wp2_with fail;refine (zcp _ B _ l (N.o.keptC (Kp.below ((A.o _).mono F))) (by simp;omega) 238 #[] _ (superB l) (fun args w=>by kernel_rfl) ?_).mono ?_
 ·intro x _ u W G X;exact zdw W B b w.heap.size l x u X ((L.o.below (A.o _)).below G) ((G.cell (p:=⟨w.heap.size,0,none⟩) (by simp)).trans (by simp [go_sem]))
 rintro r w1 ⟨rfl,I⟩;have E:Below w.heap.size w w1:=(A.o _).trans (I.mono (by simp));clear I;go_wp2_with fail;go_ret;exact ⟨rfl,E⟩
theorem zdy (w:World) (B b P:Nat) (l:List am) (x:List Nat) (u:Value) (A:Option Addr) (D:Nat) (F:ElIs B w u x) (E:w.cell? ⟨b,0,none⟩=some (.slice A l.length D)) (J:w.cell? ⟨P,0,none⟩=some (.pointer (some ⟨b,0,none⟩))):
 Calls Tryz.prog 240 #[u,.pointer (some ⟨P,0,none⟩)] w fun r w'=>r=.returned (.bool (decide (x.length<=l.length)))/\Below w.heap.size w w':=by
 obtain ⟨G,I,rfl,-⟩:=F;go_enter Tryz.func240,Tryz.ntmps240;go_wp2_with fail;go_ret;exact ⟨by simp,br _ _⟩
theorem zdz (w:World) (B b:Nat) (l:List am) (vC vS vF vN vT O:Value) (V:Nat) (D:Web B w b l vC vS vF vN vT O V):
 Calls Tryz.prog 207 #[.pointer (some ⟨b,0,none⟩)] w fun r w'=>r=.returned (.bool (ik l))/\Below w.heap.size w w':=by
 have aa:=np Tryz.prog;have Z:=D.cell0;have c6:=ba D.blk 6 (x:=O) rfl;have G:=bz D.blk;have N:=D.sL;have I:=D.le;have A:=ag (fun o=>(br w.heap.size w).alloc (nlq _) o);obtain ⟨Y,cl,rfl,-⟩:=D.sC;have E:Hid (ik l=((List.range l.length).map (di l)).all fun x=>decide (x.length<=l.length)):=by show ik l=_;rw [ik,List.all_map];rfl
 clear D;generalize (List.range l.length).map (di l)=LL at*;have X:=ag N;obtain ⟨al,cc,rfl,-⟩:=N;go_enter Tryz.func207,Tryz.ntmps207;go_wp2_with fail;refine (zdd _ B _ _ (X.o.keptSl (Kp.below ((A.o _).mono I)) fun _ _ h=>h) (by simp;omega) 240 #[] _ (fun x=>decide (x.length<=l.length)) (fun args w=>by kernel_rfl) ?_).mono ?_
 ·intro x _ u W J hu;exact zdy W B b w.heap.size l x u Y cl hu ((J.cell (p:=⟨b,0,none⟩) (by simp;omega)).trans (((A.o _).cell (p:=⟨b,0,none⟩) G).trans Z)) ((J.cell (p:=⟨w.heap.size,0,none⟩) (by simp)).trans (by simp [go_sem]))
 rintro r w1 ⟨rfl,L⟩;have F:Below w.heap.size w w1:=(A.o _).trans (L.mono (by simp));clear L;go_wp2_with fail;go_ret;exact ⟨by rw [E.o];rfl,F⟩
theorem zd0 (w:World) (B b P:Nat) (l:List am) (x:bo) (u:Value) (W:ElF B w u x) (G:Nums w b l) (O:w.cell? ⟨P,0,none⟩=some (.pointer (some ⟨b,0,none⟩))):
 Calls Tryz.prog 243 #[u,.pointer (some ⟨P,0,none⟩)] w fun r w'=>r=.returned (.bool (gq l x.kind))/\Below w.heap.size w w':=by
 obtain ⟨rfl,-,J⟩:=W;have V:=World.block_lt_of_cell? w _ O;have L:=ag G;have N:=ag J;have E:=ag (fun o=>(br w.heap.size w).alloc (nlq _) o);clear G J;go_enter Tryz.func243,Tryz.ntmps243;go_wp2_with fail;have A:=E.o (.cells #[.string x.name,.int .i64 x.kind.kind,.string x.kind.da] 125);have D:=A.alloc A.size (.cells #[.int .i64 x.kind.kind,.string x.kind.da] 123);refine (zdp _ b (w.heap.size+1+1) l _ [x.kind] (L.o.below D) (one_K _ x.kind _ (w.heap.size+1) N.o (by simp)) (by simp)).mono ?_;rintro r X ⟨rfl,I⟩;have F:=D.trans (I.mono (by simp;omega));clear I A D;go_wp2_with fail;go_ret;exact ⟨by simp,F⟩
theorem zd1 (w:World) (B b P:Nat) (l:List am) (x:ii) (u:Value) (W:ElH B w u x) (G:Nums w b l) (O:w.cell? ⟨P,0,none⟩=some (.pointer (some ⟨b,0,none⟩))):
 Calls Tryz.prog 297 #[u,.pointer (some ⟨P,0,none⟩)] w fun r w'=>r=.returned (.bool (kw l x.da))/\Below w.heap.size w w':=by
 obtain ⟨rfl,J⟩:=W;have V:=World.block_lt_of_cell? w _ O;have L:=ag G;have N:=ag J;have E:=ag (fun o=>(br w.heap.size w).alloc (nlq _) o);clear G J;go_enter Tryz.func297,Tryz.ntmps297;go_wp2_with fail;have A:=E.o (.cells #[.int .i64 x.frm,.int .i64 x.upto,.int .i64 x.loc,.string x.da] 248);have D:=A.alloc A.size (.cells #[.string x.da] 9);refine (zdn _ b (w.heap.size+1+1) l _ [x.da] (L.o.below D) (one_S _ x.da _ (w.heap.size+1) N.o (by simp)) (by simp)).mono ?_;rintro r X ⟨rfl,I⟩;have F:=D.trans (I.mono (by simp;omega));clear I A D;go_wp2_with fail;go_ret;exact ⟨by simp,F⟩
theorem zd2 (w:World) (B b:Nat) (l:List am) (x:dx) (u:Value) (hu:ElM B w u x) (hN:Nums w b l) (hB:B<=w.heap.size):
 Calls Tryz.prog 246 #[.pointer (some ⟨b,0,none⟩),u] w fun r w'=>r=.returned (.bool (li l x))/\Below w.heap.size w w':=by
 have ac:=np Tryz.prog;obtain ⟨ao,ca,ho,Y,rfl,ea,eh,-,hs,-⟩:=hu;have X:=ag hN;have HS:=ag hs;have EA:=ag ea;have EH:=ag eh;have O:=ag (fun o=>(br w.heap.size w).alloc (nlq _) o);clear hN hs ea eh;have J:=O.o (.cells #[.pointer (some ⟨b,0,none⟩)] 148);have G:=J.alloc J.size (.cells #[.string x.name,.bool x.static,.slice ao x.args.length ca,.int .i64 x.ret.kind,.string x.ret.da,.int .i64 x.stack,.int .i64 x.locals,.string x.code,.slice ho x.hands.length Y] 159);go_enter Tryz.func246,Tryz.ntmps246;go_wp2_with fail;refine (zdp _ b B l _ x.args (X.o.below G) (EA.o.keptK (Kp.below (G.mono hB))) (by simp;omega)).mono ?_;rintro r I ⟨rfl,D⟩;have d0:I.cell? ⟨w.heap.size,0,none⟩=some (.pointer (some ⟨b,0,none⟩)):=(D.cell (p:=⟨w.heap.size,0,none⟩) (by simp;omega)).trans (by simp [go_sem]);have d3:I.cell? ⟨w.heap.size+1,3,none⟩=some (.int .i64 x.ret.kind):=(D.cell (p:=⟨w.heap.size+1,3,none⟩) (by simp)).trans (by simp [go_sem]);have d4:I.cell? ⟨w.heap.size+1,4,none⟩=some (.string x.ret.da):=(D.cell (p:=⟨w.heap.size+1,4,none⟩) (by simp)).trans (by simp [go_sem]);have d8:I.cell? ⟨w.heap.size+1,8,none⟩=some (.slice ho x.hands.length Y):=(D.cell (p:=⟨w.heap.size+1,8,none⟩) (by simp)).trans (by simp [go_sem]);have E:=G.trans (D.mono (by simp;omega));have ad:w.heap.size+1<I.heap.size:=World.block_lt_of_cell? I _ d3;have V:Hid (li l x=(x.args.all (gq l)&&gq l x.ret&&x.hands.all (fun h=>kw l h.da))):=rfl;clear D J G;cases ha:x.args.all (gq l)
 ·have N:Hid (li l x=false):=by rw [V.o,ha];rfl
  clear ha;go_wp2_with fail;go_ret;exact ⟨by rw [N.o];rfl,E⟩
 have HA:=ag ha;clear ha;go_wp2_with fail;have L:=E.alloc E.size (.cells #[.int .i64 x.ret.kind,.string x.ret.da] 123);refine (zdp _ b (I.heap.size+1) l _ [x.ret] (X.o.below L) (one_K I x.ret _ I.heap.size HS.o rfl) (by simp)).mono ?_;rintro r w2 ⟨rfl,D⟩;have A:=L.trans (D.mono (by have:=E.size;simp;omega));have Z:w2.cell? ⟨w.heap.size,0,none⟩=some (.pointer (some ⟨b,0,none⟩)):=(D.cell (p:=⟨w.heap.size,0,none⟩) (by simp;omega)).trans (by rw [World.cell?_alloc_past _ _ _ (by omega)];exact d0);have f8:w2.cell? ⟨w.heap.size+1,8,none⟩=some (.slice ho x.hands.length Y):=(D.cell (p:=⟨w.heap.size+1,8,none⟩) (by simp;omega)).trans (by rw [World.cell?_alloc_past _ _ _ (by omega)];exact d8);clear D E L d0 d3 d4 d8;cases hr:gq l x.ret
 ·have N:Hid (li l x=false):=by rw [V.o,HA.o,hr];rfl
  have F:([x.ret].all (gq l))=false:=by simp [hr]
  rw [F];clear hr F;go_wp2_with fail;go_ret;exact ⟨by rw [N.o];rfl,A⟩
 have N:Hid (li l x=x.hands.all (fun h=>kw l h.da)):=by rw [V.o,HA.o,hr];rfl
 have F:([x.ret].all (gq l))=true:=by simp [hr]
 rw [F];clear hr F;go_wp2_with fail;refine (zc1 _ B _ x.hands (EH.o.keptH (Kp.below (A.mono hB))) (by have:=A.size;omega) 297 #[] _ (fun h=>kw l h.da) (fun args w=>by kernel_rfl) ?_).mono ?_
 ·intro y _ u W hW hu;exact zd1 W B b w.heap.size l y u hu ((X.o.below A).below hW) ((hW.cell (p:=⟨w.heap.size,0,none⟩) (World.block_lt_of_cell? w2 _ Z)).trans Z)
 rintro r w3 ⟨rfl,D⟩;have aa:=A.trans (D.mono A.size);clear D A Z f8;go_wp2_with fail;go_ret;exact ⟨by rw [N.o];rfl,aa⟩
def toldB (l:List am) (c:am):Bool:=(c.fields.all fun f=>gq l f.kind)&&c.ar.all (li l)
theorem zd3 (w:World) (B b P:Nat) (l:List am) (c:am) (u:Value) (I:ElC B w u c) (hN:Nums w b l) (J:w.cell? ⟨P,0,none⟩=some (.pointer (some ⟨b,0,none⟩))) (hB:B<=w.heap.size):
 Calls Tryz.prog 241 #[u,.pointer (some ⟨P,0,none⟩)] w fun r w'=>r=.returned (.bool (toldB l c))/\Below w.heap.size w w':=by
 have ac:=np Tryz.prog;obtain ⟨fo,cf,mo,Z,rfl,ef,em,-,-⟩:=I;have F:=World.block_lt_of_cell? w _ J;have Y:=ag hN;have EF:=ag ef;have EM:=ag em;have N:=ag (fun o=>(br w.heap.size w).alloc (nlq _) o);clear hN ef em;have D:=N.o (.cells #[.string c.name,.string c.bq,.slice fo c.fields.length cf,.slice mo c.ar.length Z] 162);go_enter Tryz.func241,Tryz.ntmps241;go_wp2_with fail;refine (zct _ B _ c.fields (EF.o.keptF (Kp.below (D.mono hB))) (by simp;omega) 243 #[] _ (fun f=>gq l f.kind) (fun args w=>by kernel_rfl) ?_).mono ?_
 ·intro y _ u W G I;exact zd0 W B b P l y u I ((Y.o.below D).below G) ((G.cell (p:=⟨P,0,none⟩) (by simp;omega)).trans ((D.cell (p:=⟨P,0,none⟩) F).trans J))
 rintro r L ⟨rfl,E⟩;have d3:L.cell? ⟨w.heap.size,3,none⟩=some (.slice mo c.ar.length Z):=(E.cell (p:=⟨w.heap.size,3,none⟩) (by simp)).trans (by simp [go_sem]);have A:=D.trans (E.mono (by simp));have ad:w.heap.size<L.heap.size:=World.block_lt_of_cell? L _ d3;have aa:L.cell? ⟨P,0,none⟩=some (.pointer (some ⟨b,0,none⟩)):=(A.cell (p:=⟨P,0,none⟩) F).trans J;have X:Hid (toldB l c=((c.fields.all fun f=>gq l f.kind)&&c.ar.all (li l))):=rfl;clear E D J;cases ha:c.fields.all fun f=>gq l f.kind
 ·have O:Hid (toldB l c=false):=by rw [X.o,ha];rfl
  clear ha;go_wp2_with fail;go_ret;exact ⟨by rw [O.o];rfl,A⟩
 have O:Hid (toldB l c=c.ar.all (li l)):=by rw [X.o,ha];rfl
 clear ha;go_wp2_with fail;refine (zc5 _ B _ c.ar (EM.o.keptM (Kp.below (A.mono hB))) (by omega) 246 _ #[] (li l) (fun args w=>by kernel_rfl) ?_).mono ?_
 ·intro y _ u W G I;exact zd2 W B b l y u I ((Y.o.below A).below G) (by have:=G.size;omega)
 rintro r w2 ⟨rfl,E⟩;have V:=A.trans (E.mono A.size);clear E A;go_wp2_with fail;go_ret;exact ⟨by rw [O.o];rfl,V⟩
theorem zd4 (w:World) (B b:Nat) (l:List am) (Y vS Z vN vT vL:Value) (J:Nat) (D:Web B w b l Y vS Z vN vT vL J):
 Calls Tryz.prog 209 #[.pointer (some ⟨b,0,none⟩)] w fun r w'=>r=.returned (.bool (askTold l))/\Below w.heap.size w w':=by
 have V:=np Tryz.prog;have c0:=D.cell0;have O:=bz D.blk;have N:=ag D.sC;have L:=ag D.nums;have G:=D.le;have A:=ag (fun o=>(br w.heap.size w).alloc (nlq _) o);obtain ⟨ao,cl,rfl,-⟩:=D.sC;clear D;go_enter Tryz.func209,Tryz.ntmps209;go_wp2_with fail;refine (zcp _ B _ l (N.o.keptC (Kp.below ((A.o _).mono G))) (by simp;omega) 241 #[] _ (toldB l) (fun args w=>by kernel_rfl) ?_).mono ?_
 ·intro x _ u W E X;exact zd3 W B b w.heap.size l x u X ((L.o.below (A.o _)).below E) ((E.cell (p:=⟨w.heap.size,0,none⟩) (by simp)).trans (by simp [go_sem])) (by have:=E.size;simp at this;omega)
 rintro r w1 ⟨rfl,I⟩;have F:Below w.heap.size w w1:=(A.o _).trans (I.mono (by simp));clear I;go_wp2_with fail;go_ret;exact ⟨rfl,F⟩
theorem zd5 (w:World) (B:Nat) (x:List bo) (u:Value) (A:ElFs B w u x):Calls Tryz.prog 256 #[u] w fun r w'=>r=.returned (.bool (decide (x.length<=12)))/\Below w.heap.size w w':=by obtain ⟨D,E,rfl,-⟩:=A;go_enter Tryz.func256,Tryz.ntmps256;go_wp2_with fail;go_ret;exact ⟨by simp;omega,br _ _⟩
theorem zd6 (w:World) (B:Nat) (x:List ByteArray) (u:Value) (A:ElSs B w u x):Calls Tryz.prog 258 #[u] w fun r w'=>r=.returned (.bool (decide (x.length<=16)))/\Below w.heap.size w w':=by obtain ⟨D,E,rfl,-⟩:=A;go_enter Tryz.func258,Tryz.ntmps258;go_wp2_with fail;go_ret;exact ⟨by simp;omega,br _ _⟩
theorem zd7 (w:World) (B b:Nat) (l:List am) (vC vS X Y vT vL:Value) (Z:Nat) (D:Web B w b l vC vS X Y vT vL Z):
 Calls Tryz.prog 212 #[.pointer (some ⟨b,0,none⟩)] w fun r w'=>r=.returned (.bool (la l))/\Below w.heap.size w w':=by
 have c2:=ba D.blk 2 (x:=X) rfl;have c3:=ba D.blk 3 (x:=Y) rfl;have J:=bz D.blk;have O:=D.sF;have V:=D.sN;have F:=D.le;have N:Hid (la l=((((List.range l.length).map (fieldsOf l)).all fun x=>decide (x.length<=12))&&(((List.range l.length).map (d9 l)).all fun x=>decide (x.length<=16)))):=by show la l=_;rw [la,List.all_map,List.all_map];rfl
 clear D;generalize (List.range l.length).map (fieldsOf l)=LF at*;generalize (List.range l.length).map (d9 l)=LN at*;have HF:=ag O;have HN:=ag V;obtain ⟨af,cf,rfl,-⟩:=O;obtain ⟨an,cn,rfl,-⟩:=V;go_enter Tryz.func212,Tryz.ntmps212;go_wp2_with fail;refine (zdh _ B _ _ HF.o F 256 #[] #[] (fun x=>decide (x.length<=12)) (fun args w=>by kernel_rfl) ?_).mono ?_
 ·intro x _ u W _ L;exact zd5 W B x u L
 rintro r w1 ⟨rfl,A⟩;have d3:w1.cell? ⟨b,3,none⟩=some (.slice an _ cn):=(A.cell (p:=⟨b,3,none⟩) J).trans c3;cases ha:LF.all fun x=>decide (x.length<=12)
 ·have G:Hid (la l=false):=by rw [N.o,ha];rfl
  clear ha;go_wp2_with fail;go_ret;exact ⟨by rw [G.o];rfl,A⟩
 have G:Hid (la l=(LN.all fun x=>decide (x.length<=16))):=by rw [N.o,ha];rfl
 clear ha;go_wp2_with fail;refine (zdl _ B _ _ (HN.o.keptSl (Kp.below (A.mono F)) fun _ _ h=>h) (by have:=A.size;omega) 258 #[] #[] (fun x=>decide (x.length<=16)) (fun args w=>by kernel_rfl) ?_).mono ?_
 ·intro x _ u W _ L;exact zd6 W B x u L
 rintro r w2 ⟨rfl,E⟩;have I:=A.trans (E.mono A.size);clear A E;go_wp2_with fail;go_ret;exact ⟨by rw [G.o];rfl,I⟩
end Go.Proofs.YtjdnmblggdobgaaGreat
