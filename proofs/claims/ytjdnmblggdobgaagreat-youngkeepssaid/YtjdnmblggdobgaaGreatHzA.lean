import Derived.Test.YtjdnmblggdobgaaGreatJLPu5HuE
import Derived.Test.YtjdnmblggdobgaaGreatJTilHvE
import Derived.Test.YtjdnmblggdobgaaGreatJHyBHyC
set_option maxHeartbeats 4000000
set_option maxRecDepth 100000
namespace Go.Proofs.YtjdnmblggdobgaaGreat
open Go.RowKit Go.Maps
theorem zud (ts:List bp) (v:Int):(!dh ts v)=(v != 0&& !(ts.map bp.loc).contains v):=by unfold dh;rw [zn0];cases (ts.map bp.loc).contains v<;>cases h:v==0<;>simp_all
theorem zue (w:World) (B:Nat) (vW vO kC kS kF kN kT:Value) (h:bb) (d:bd) (g:Hd B w vW vO kC kS kF kN kT h d) (hz:jy d h) (hd:Few d) (ts:List bp) (F:im d h=some ts) (vR:Value) (rs:List Int) (hs:SL 1 RI (· <B) w vR rs):
 Calls Tryz.prog 85 #[.agg #[vW,.int .i64 h.ag,.int .i64 h.old,.int .i64 h.be,.int .i64 h.ar,vO,.int .i64 h.next],.agg #[kC,kS,kF,kN,kT],vR] w fun r w'=>r=.returned (.int .i64 (jg ts rs))/\Below w.heap.size w w':=by
 have HG:=ae g;have a3:=ae hs;obtain ⟨aW,cW,aO,cO,aC,cC,aS,cS,aF,cF,aN,cN,aT,cT,rfl,rfl,rfl,rfl,rfl,rfl,rfl⟩:=g.agg;obtain ⟨aR,cR,rfl,-,a5,-⟩:=hs;unfold maxLen at a5;clear g;obtain ⟨W0,ak,aa,a6,k0,k1⟩:=j7 w #[.slice aW h.ab.length cW,.int .i64 h.ag,.int .i64 h.old,.int .i64 h.be,.int .i64 h.ar,.slice aO h.am.length cO,.int .i64 h.next] #[.slice aC d.aj.length cC,.slice aS d.ax.length cS,.slice aF d.fields.length cF,.slice aN d.names.length cN,.slice aT d.aq.length cT] 24 36;have g2:=HG.o.below (aa.mono HG.o.le);have J:=ae (znr W0 B _ _ _ _ _ _ _ h d g2.sW g2.sO g2.lk g2.le hz (fun f hf=>lt3 (hd.fs f hf) (by omega)));have ai:=ae F;have HZ:=ae hz;have V:=ae aa;have W:=ae ak;rw [W.o]at J;clear k0 k1 aa ak a6 g2 F hz hd;by_cases E:(rs.length:Int)<=1000
 rotate_left
 ·have HR:Hid (jg ts rs=2):=by show _=_;unfold jg;rw [if_neg (by simpa using E)]
  have av:Hid (Below w.heap.size w ((w.alloc (.cells #[.slice aW h.ab.length cW,.int .i64 h.ag,.int .i64 h.old,.int .i64 h.be,.int .i64 h.ar,.slice aO h.am.length cO,.int .i64 h.next] 24)).alloc (.cells #[.slice aC d.aj.length cC,.slice aS d.ax.length cS,.slice aF d.fields.length cF,.slice aN d.names.length cN,.slice aT d.aq.length cT] 36))):=by rw [<-W.o];exact V.o
  clear J;go_enter Tryz.func85,Tryz.ntmps85;go_wp2_with fail;go_ret;exact ⟨by rw [HR.o];rfl,av.o⟩
 go_enter Tryz.func85,Tryz.ntmps85;go_wp2_with fail;refine J.o.mono ?_;rw [<-W.o];rintro r w1 ⟨al,⟨ys,os,vy,vo,h1,h2,rfl,L,N⟩ | ⟨au,-⟩⟩
 rotate_left
 ·rw [ai.o]at au;cases au
 have F:=zrh ai.o h1 h2;have Y:Hid (∀v,(!dh ts v)=(v != 0&&(!(ys.map bp.loc).contains v&& !(os.map bp.loc).contains v))):=fun v=>by rw [zud,F,List.map_append,List.contains_append,Bool.not_or]
 obtain ⟨m1,ad⟩:∃m:List Int,ys.map bp.loc=m:=⟨_,rfl⟩;obtain ⟨m2,af⟩:∃m:List Int,os.map bp.loc=m:=⟨_,rfl⟩;rw [ad]at L Y;rw [af]at N Y;have z1:=HZ.o.ag;have z2:=HZ.o.old;have z4:=HZ.o.be;have z5:=HZ.o.ar;have an:m1.length<=1000000:=by have:=zhn (by omega) h1;rw [<-ad,List.length_map];omega
 have ao:m2.length<=1000000:=by have:=zhn (by omega) h2;rw [<-af,List.length_map];omega
 clear z1 z2 z4 z5;have s1:=zfb L an;have s2:=zfb N ao;have az:Hid (∀v,Calls Tryz.prog 74 #[vy,.int .i64 v] w1 fun r w'=>r=.returned (.bool (m1.contains v))/\w'=w1):=fun v=>zkz w1 _ _ _ s1 v;have a0:Hid (∀v,Calls Tryz.prog 74 #[vo,.int .i64 v] w1 fun r w'=>r=.returned (.bool (m2.contains v))/\w'=w1):=fun v=>zkz w1 _ _ _ s2 v;obtain ⟨a1,c1,rfl⟩:=zms L;obtain ⟨a2,c2,rfl⟩:=zms N;have D:=V.o.trans (al.mono V.o.size);have ah:=ae D;have a4:=ae (a3.o.keptI (Kp.below (D.mono HG.o.le)));clear al D L N s1 s2 ad af h1 h2 F an ao J;go_wp2_with fail;go_loopw [10] (fun i wr=>∃k:Nat,i=.int .i64 k/\k<=rs.length/\wr=w1/\Hid (∀v∈rs.take k,(!dh ts v)=false)) (fun i _=>rs.length - (intOf i).toNat)
 case atStart=>exact ⟨0,rfl,n0q _,rfl,fun v G=>by cases G⟩
 case round=>
  obtain ⟨k,rfl,hk,rfl,HP⟩:=hrel;by_cases ac:k<rs.length
  ·obtain ⟨bR,off,rfl,a8,e0⟩:=a4.o.atI k ac;have A:=ae (Y.o rs[k]);have Z:Hid ((!dh ts rs[k])=false->∀v∈rs.take (k+1),(!dh ts v)=false):=fun hq v G=>by
    rw [List.take_succ_eq_append_getElem ac]at G;rcases List.mem_append.1 G with G | G
    ·exact HP.o v G
    rw [List.mem_singleton]at G;rw [G];exact hq
   have ay:Hid ((!dh ts rs[k])=true->jg ts rs=5):=fun hq=>by unfold jg;rw [if_pos (decide_eq_true E)];have:(rs.any fun x=>!dh ts x)=true:=List.any_eq_true.2 ⟨rs[k],gm ac,hq⟩;rw [this];rfl
   have hA:=az.o rs[k];have hB:=a0.o rs[k];generalize rs[k]=v at*;have HA:=ae hA;have I:=ae hB;generalize (!dh ts v)=q at*;clear hA hB;by_cases O:v=0
   ·have X:Hid (q=false):=by show _=_;rw [A.o,O];rfl
    have a7:(v==0)=true:=by simpa using O
    clear A;go_wp2_with fail;go_roundw
    case rel=>exact ⟨k+1,by go_num,by omega,by trivial,Z.o X.o⟩
    case measure=>simp [intOf];omega
   have a7:(v==0)=false:=by simpa using O
   cases hq1:m1.contains v with
   | true=>
     have X:Hid (q=false):=by show _=_;rw [A.o,hq1];simp
     rw [hq1]at HA;clear A hq1;go_wp2_with fail;refine HA.o.mono ?_;rintro r _ ⟨rfl,rfl⟩;go_wp2_with fail;go_roundw
     case rel=>exact ⟨k+1,by go_num,by omega,by trivial,Z.o X.o⟩
     case measure=>simp [intOf];omega
   | false=>
     rw [hq1]at HA;cases hq2:m2.contains v with
     | true=>
       have X:Hid (q=false):=by show _=_;rw [A.o,hq1,hq2];simp
       rw [hq2]at I;clear A hq1 hq2;go_wp2_with fail;refine HA.o.mono ?_;rintro r _ ⟨rfl,rfl⟩;go_wp2_with fail;refine I.o.mono ?_;rintro r _ ⟨rfl,rfl⟩;go_wp2_with fail;go_roundw
       case rel=>exact ⟨k+1,by go_num,by omega,by trivial,Z.o X.o⟩
       case measure=>simp [intOf];omega
     | false=>
       have X:Hid (q=true):=by show _=_;rw [A.o,hq1,hq2];simpa using O
       rw [hq2]at I;clear A hq1 hq2;go_wp2_with fail;refine HA.o.mono ?_;rintro r _ ⟨rfl,rfl⟩;go_wp2_with fail;refine I.o.mono ?_;rintro r _ ⟨rfl,rfl⟩;go_wp2_with fail;go_ret;exact ⟨by rw [ay.o X.o];rfl,ah.o⟩
  have HR:Hid (jg ts rs=0):=by
   show _=_;unfold jg;rw [if_pos (decide_eq_true E)];have:(rs.any fun x=>!dh ts x)=false:=List.any_eq_false.2 fun v G=>by have hp:=HP.o;rw [List.take_of_length_le (by omega)]at hp;rw [hp v G];decide
   rw [this];rfl
  go_wp2_with fail;go_ret;exact ⟨by rw [HR.o];rfl,ah.o⟩
theorem zuf (w:World) (B:Nat) (vW vO kC kS kF kN kT:Value) (h:bb) (d:bd) (g:Hd B w vW vO kC kS kF kN kT h d) (ac:h.next<=9223372036854775807) (vR:Value) (rs:List Int) (hs:SL 1 RI (· <B) w vR rs):
 Calls Tryz.prog 34 #[.agg #[vW,.int .i64 h.ag,.int .i64 h.old,.int .i64 h.be,.int .i64 h.ar,vO,.int .i64 h.next],.agg #[kC,kS,kF,kN,kT],vR] w fun r w'=>r=.returned (.int .i64 (fm d h rs))/\Below w.heap.size w w':=by
 have HG:=ae g;have af:=ae hs;obtain ⟨aW,cW,aO,cO,aC,cC,aS,cS,aF,cF,aN,cN,aT,cT,rfl,rfl,rfl,rfl,rfl,rfl,rfl⟩:=g.agg;obtain ⟨aR,cR,rfl,-⟩:=hs;clear g;obtain ⟨J,Z,E,ai,k0,k1⟩:=j7 w #[.slice aW h.ab.length cW,.int .i64 h.ag,.int .i64 h.old,.int .i64 h.be,.int .i64 h.ar,.slice aO h.am.length cO,.int .i64 h.next] #[.slice aC d.aj.length cC,.slice aS d.ax.length cS,.slice aF d.fields.length cF,.slice aN d.names.length cN,.slice aT d.aq.length cT] 24 36;have ak:=bk k0;have lk1:=bk k1;have F:=ae E;have L:=ae Z;have Y:=ae (And.intro k0 k1);have X:Hid (∀V,Below J.heap.size J V->Hd B V (.slice aW h.ab.length cW) (.slice aO h.am.length cO) (.slice aC d.aj.length cC) (.slice aS d.ax.length cS) (.slice aF d.fields.length cF) (.slice aN d.names.length cN) (.slice aT d.aq.length cT) h d):=fun V N=>HG.o.below ((E.trans (N.mono E.size)).mono HG.o.le);have ah:Hid (∀V,Below J.heap.size J V->SL 1 RI (· <B) V (.slice aR rs.length cR) rs):=fun V N=>af.o.keptI (Kp.below ((E.trans (N.mono E.size)).mono HG.o.le));have D:=ae (zrf J B _ _ _ _ _ _ _ h d (X.o J (br _ _)) ac);rw [L.o]at D;have I:bq d h=0\/bq d h≠0:=by omega
 clear E Z ai ac k0 k1;rcases I with I | I
 ·obtain ⟨ts,rt⟩:=ztn I;have W:=ae (fun V (N:Below J.heap.size J V)=>zue V B _ _ _ _ _ _ _ h d (X.o V N) rt.sized (zki rt.ok) ts rt.both (.slice aR rs.length cR) rs (ah.o V N));have HR:Hid (fm d h rs=jg ts rs):=by
   show _=_;unfold fm tsOf;rw [if_pos I,rt.both];rfl
  rw [I]at D;clear rt I;go_enter Tryz.func34,Tryz.ntmps34;go_wp2_with fail;refine D.o.mono ?_;rw [<-L.o];rintro r w1 ⟨rfl,A⟩;have j0:=(A.block _ ak).trans Y.o.1;have j1:=(A.block _ lk1).trans Y.o.2;obtain ⟨a0,a1,a2,a3,a4,a5,a6,az,al⟩:=iu j0;obtain ⟨b0,b1,b2,b3,b4,bl⟩:=cells5 j1;have G:=ae A;have O:=ae (W.o w1 A);clear A j0 j1 D W;go_wp2_with fail;refine O.o.mono ?_;rintro r w2 ⟨rfl,aa⟩;have ad:Hid (Below w.heap.size w w2):=F.o.trans ((G.o.trans (aa.mono G.o.size)).mono F.o.size);clear aa O;go_wp2_with fail;go_ret;exact ⟨by rw [HR.o];rfl,ad.o⟩
 have HR:Hid (fm d h rs=bq d h):=by show _=_;unfold fm;rw [if_neg I]
 have an:(bq d h==0)=false:=by simpa using I
 go_enter Tryz.func34,Tryz.ntmps34;go_wp2_with fail;refine D.o.mono ?_;rw [<-L.o];rintro r w1 ⟨rfl,A⟩;have G:Hid (Below w.heap.size w w1):=F.o.trans (A.mono F.o.size);clear A D;go_wp2_with fail;go_ret;exact ⟨by rw [HR.o];rfl,G.o⟩
end Go.Proofs.YtjdnmblggdobgaaGreat
