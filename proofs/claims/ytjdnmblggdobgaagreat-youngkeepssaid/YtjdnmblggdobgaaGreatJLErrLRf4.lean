import Derived.Test.YtjdnmblggdobgaaGreatJLHasLAsk
import Derived.Laws.StructEq
set_option maxHeartbeats 4000000
namespace Go.Proofs.YtjdnmblggdobgaaGreat
open Go.RowKit Go.Maps
theorem kindEql (k D:Int) (c A:ByteArray) (w:World):(binOp BinOp.eql 123 (.agg #[.int .i64 k,.string c]) (.agg #[.int .i64 D,.string A])).run Tryz.prog w=.ok (.bool ((k==D)&&(c.toList==A.toList))) w:=by
 have L:=Tryz.underlying3;have I:=Tryz.isAgg3;have O:=Tryz.sizeOf3;have N:=Tryz.underlying9;have J:=Tryz.isAgg9;have V:=Tryz.sizeOf9;have F:Tryz.prog.underlying 123=some (.struct (Tryz.prog.fieldsOf 123)):=by kernel_rfl
 have G:Tryz.prog.stoodInHeld 123=false:=by kernel_rfl
 rw [run_eql_struct,show (10000:Nat)=9999+1 from rfl,run_equalIn_agg w 9999 123 _ _ F G];simp only [Program.fieldsOf,Tryz.underlying123];go_simp;by_cases h1:k=D<;>by_cases E:c.toList=A.toList<;>simp [h1,E]
theorem kindGuard:Tryz.prog.eqGuardType Tryz.prog.depth 123=false:=by kernel_rfl
theorem zd8 (w:World) (B b:Nat) (l:List ap) (vC vS vF vN vT vL:Value) (Y:Nat) (A:Web B w b l vC vS vF vN vT vL Y) (he:0<=num l fx):
 Calls Tryz.prog 208 #[.pointer (some ⟨b,0,none⟩)] w fun r w'=>r=.returned (.bool (js l))/\Below w.heap.size w w':=by
 have L:∀n,gu (w.drewN n) Y l:=fun n=>A.nm.below (ku (br w.heap.size w) n) A.nm.lt;have c5:=aw A.blk 5 (x:=.map (some Y)) rfl;have c1:=aw A.blk 1 (x:=vS) rfl;have c2:=aw A.blk 2 (x:=vF) rfl;have F:Hid (∀s,s.size<=maxLen->∀n,Calls Tryz.prog 199 #[.pointer (some ⟨b,0,none⟩),.string s] (w.drewN n) fun r w'=>r=.returned (.int .i64 (num l s))/\w'=w.drewN n):=fun s hs n=>zcg _ b Y l s c5 (L n) hs;obtain ⟨n,hn⟩:=Int.eq_ofNat_of_zero_le he;have an:n<l.length:=by have:=(za2 l fx).2;omega
 obtain ⟨t,ht⟩:∃t,num l fd=t:=⟨_,rfl⟩;have E:=za2 l fd;have D:=za2 l (b9 l n).bo;rw [ht]at E;have HA:Hid (js l=(decide (df l n=t)&&(match fieldsOf l n with | []=>false | f::_=>dv f.kind ⟨1,⟨#[]⟩⟩))):=by show js l=_;unfold js;rw [ht,hn];rfl
 have J:((List.range l.length).map (df l)).length=l.length:=by simp
 have I:((List.range l.length).map (fieldsOf l)).length=l.length:=by simp
 obtain ⟨aS,cS,V,-⟩:=A.sS;obtain ⟨aF,cF,O,-⟩:=A.sF;rw [J]at V;rw [I]at O;subst V O;obtain ⟨bS,oS,rfl,ah,e1⟩:=A.sS.atI n (by omega);obtain ⟨bF,oF,aL,cL,rfl,ag,G,X⟩:=A.sF.atSl n (by omega);have g1:((List.range l.length).map (df l))[n]'(by omega)=df l n:=by simp
 have g2:((List.range l.length).map (fieldsOf l))[n]'(by omega)=fieldsOf l n:=by simp
 rw [g1]at e1;rw [g2]at G X;have N:df l n=num l (b9 l n).bo:=rfl;rw [<-N]at D;clear g1 g2 J I N A c5 L;generalize df l n=s at*;generalize fieldsOf l n=fs at*;have HE:Hid (num l fx=n):=hn;have HT:Hid (num l fd=t):=ht;have au:=E.1;have av:=E.2;have ao:=D.1;have aq:=D.2;have ad:(0:Int)<=n:=by omega
 have af:(n:Int)<l.length:=by omega
 clear hn ht he E D;by_cases hst:s=t
 ·subst hst;cases fs with
  | nil=>
    have aa:w.cell? ⟨bF,oF+n,none⟩=some (.slice aL 0 cL):=G;clear G X;go_enter Tryz.func208,Tryz.ntmps208;go_wp2_with (go_at_call 199;refine (F.o fx (by decide) 0).mono ?_;rintro r w1 ⟨h1,rfl⟩;rw [HE.o]at h1;subst h1);go_quiet (first | (go_at_call 199;exact Calls.quiet_of_same ((F.o fd (by decide) _).mono fun _ _ h=>⟨h.1.trans (by rw [HT.o]),h.2⟩)));go_wp2_with fail;go_ret;exact ⟨by rw [HA.o];simp,ku (ku (br _ _) _) _⟩
  | cons f fs=>
    obtain ⟨bf,of,rfl,ai,y0,y1,y2,z1,z2⟩:=X.atF 0 (by simp);have aa:w.cell? ⟨bF,oF+n,none⟩=some (.slice (some ⟨bf,of,none⟩) (fs.length+1) cL):=G;have ay:w.cell? ⟨bf,of+1,none⟩=some (.int .i64 f.kind.kind):=by simpa using y1
    have az:w.cell? ⟨bf,of+2,none⟩=some (.string f.kind.da):=by simpa using y2
    have ax:f.kind.da.size<=maxLen:=z2;have aj:(0:Int)<((fs.length+1:Nat):Int):=by omega
    clear G X y0 y1 y2 z1 z2;have ak:=kindEql f.kind.kind 1 f.kind.da ⟨#[]⟩;have al:=kindGuard;go_enter Tryz.func208,Tryz.ntmps208;go_wp2_with (go_at_call 199;refine (F.o fx (by decide) 0).mono ?_;rintro r w1 ⟨h1,rfl⟩;rw [HE.o]at h1;subst h1);go_quiet (first | (go_at_call 199;exact Calls.quiet_of_same ((F.o fd (by decide) _).mono fun _ _ h=>⟨h.1.trans (by rw [HT.o]),h.2⟩)));go_wp2_with fail;go_ret;have W:(f.kind.kind==1&&f.kind.da.toList.isEmpty)=js l:=by
     rw [HA.o,dv];by_cases Z:f.kind.da=⟨#[]⟩
     ·rw [zcb Z,Bool.eq_iff_iff];simp [Z]
     have:f.kind.da.toList.isEmpty=false:=by
      cases hq:f.kind.da.toList with
      | nil=>exact absurd (zca hq) Z
      | cons _ _=>rfl
     rw [this];simp [Z]
    exact ⟨by rw [<-W];rfl,ku (ku (br _ _) _) _⟩
 have hd:(s==t)=false:=by simpa using hst
 have ac:decide (s=t)=false:=by simpa using hst
 clear X;go_enter Tryz.func208,Tryz.ntmps208;go_wp2_with (go_at_call 199;refine (F.o fx (by decide) 0).mono ?_;rintro r w1 ⟨h1,rfl⟩;rw [HE.o]at h1;subst h1);go_quiet (first | (go_at_call 199;exact Calls.quiet_of_same ((F.o fd (by decide) _).mono fun _ _ h=>⟨h.1.trans (by rw [HT.o]),h.2⟩)));go_wp2_with fail;go_ret;exact ⟨by rw [HA.o,ac];rfl,ku (ku (br _ _) _) _⟩
def cz {α:Type} (p:α->α->Bool):List α->List α->Bool
 | [],[]=>true
 | x::l,y::m=>p x y&&cz p l m
 | _,_=>false
theorem zd9 {α:Type} (p:α->α->Bool):∀(l m:List α),l.length≠m.length->cz p l m=false
 | [],[],h=>absurd rfl h
 | x::l,y::m,h=>by rw [cz,zd9 p l m (fun e=>h (by simp [e]))];simp
 | [],_::_,_=>rfl
 | _::_,[],_=>rfl
theorem zea {α:Type} (p:α->α->Bool) (l m:List α) (k:Nat) (A:k<l.length) (D:k<m.length):cz p (l.drop k) (m.drop k)=(p l[k] m[k]&&cz p (l.drop (k+1)) (m.drop (k+1))):=by rw [List.drop_eq_getElem_cons A,List.drop_eq_getElem_cons D,cz]
theorem zeb {α:Type} (p:α->α->Bool) (l m:List α) (k:Nat) (A:¬k<l.length) (h:l.length=m.length):cz p (l.drop k) (m.drop k)=true:=by rw [List.drop_of_length_le (by omega),List.drop_of_length_le (by omega),cz]
theorem zec (a b:ByteArray):(a.toList==b.toList)=decide (a=b):=by rw [Bool.eq_iff_iff,beq_iff_eq,decide_eq_true_iff];exact ⟨zb9,fun h=>by rw [h]⟩
def fh (a b:Int):Bool:=a==b
def fv (a b:ByteArray):Bool:=a.toList==b.toList
def fb (a b:bg):Bool:=decide (a.name=b.name)&&dv a.kind b.kind
def ff (a b:cg):Bool:=(a.da==b.da)&&(a.meth==b.meth)
theorem zed (k D:Int) (c A:ByteArray):((k==D)&&(c.toList==A.toList))=dv ⟨k,c⟩ ⟨D,A⟩:=by rw [zec,dv,Bool.eq_iff_iff];simp
theorem kindNeq (x y:ew) (w:World):(binOp BinOp.neq 123 (.agg #[.int .i64 x.kind,.string x.da]) (.agg #[.int .i64 y.kind,.string y.da])).run Tryz.prog w=.ok (.bool (!dv x y)) w:=by
 have I:=Tryz.underlying3;have F:=Tryz.isAgg3;have L:=Tryz.sizeOf3;have J:=Tryz.underlying9;have G:=Tryz.isAgg9;have N:=Tryz.sizeOf9;have D:Tryz.prog.underlying 123=some (.struct (Tryz.prog.fieldsOf 123)):=by kernel_rfl
 have E:Tryz.prog.stoodInHeld 123=false:=by kernel_rfl
 rw [run_neq_struct,show (10000:Nat)=9999+1 from rfl,run_equalIn_agg w 9999 123 _ _ D E];simp only [Program.fieldsOf,Tryz.underlying123];go_simp;rw [<-zed x.kind y.kind x.da y.da];by_cases h1:x.kind=y.kind<;>by_cases A:x.da.toList=y.da.toList<;>simp [h1,A]
theorem kindNeqG:Tryz.prog.eqGuardType Tryz.prog.depth 123=false:=by kernel_rfl
theorem targNeq (x y:cg) (w:World):(binOp BinOp.neq 233 (.agg #[.int .i64 x.da,.int .i64 x.meth]) (.agg #[.int .i64 y.da,.int .i64 y.meth])).run Tryz.prog w=.ok (.bool (!ff x y)) w:=by
 have I:=Tryz.underlying3;have F:=Tryz.isAgg3;have L:=Tryz.sizeOf3;have J:=Tryz.underlying9;have G:=Tryz.isAgg9;have N:=Tryz.sizeOf9;have D:Tryz.prog.underlying 233=some (.struct (Tryz.prog.fieldsOf 233)):=by kernel_rfl
 have E:Tryz.prog.stoodInHeld 233=false:=by kernel_rfl
 rw [run_neq_struct,show (10000:Nat)=9999+1 from rfl,run_equalIn_agg w 9999 233 _ _ D E];simp only [Program.fieldsOf,Tryz.underlying233];go_simp;rw [ff];by_cases h1:x.da=y.da<;>by_cases A:x.meth=y.meth<;>simp [h1,A]
theorem targNeqG:Tryz.prog.eqGuardType Tryz.prog.depth 233=false:=by kernel_rfl
theorem fieldNeq (x y:bg) (w:World):(binOp BinOp.neq 125 (.agg #[.string x.name,.int .i64 x.kind.kind,.string x.kind.da]) (.agg #[.string y.name,.int .i64 y.kind.kind,.string y.kind.da])).run Tryz.prog w=.ok (.bool (!fb x y)) w:=by
 have N:=Tryz.underlying3;have I:=Tryz.isAgg3;have W:=Tryz.sizeOf3;have O:=Tryz.underlying9;have J:=Tryz.isAgg9;have X:=Tryz.sizeOf9;have V:=Tryz.underlying123;have L:=Tryz.isAgg123;have Y:=Tryz.sizeOf123;have E:Tryz.prog.underlying 123=some (.struct (Tryz.prog.fieldsOf 123)):=by kernel_rfl
 have G:Tryz.prog.stoodInHeld 123=false:=by kernel_rfl
 have D:Tryz.prog.underlying 125=some (.struct (Tryz.prog.fieldsOf 125)):=by kernel_rfl
 have F:Tryz.prog.stoodInHeld 125=false:=by kernel_rfl
 rw [run_neq_struct,show (10000:Nat)=9999+1 from rfl,run_equalIn_agg w 9999 125 _ _ D F];simp only [Program.fieldsOf,Tryz.underlying125];go_simp;rw [fb,<-zec,<-zed x.kind.kind y.kind.kind x.kind.da y.kind.da];by_cases h0:x.name.toList=y.name.toList<;>by_cases h1:x.kind.kind=y.kind.kind<;>by_cases A:x.kind.da.toList=y.kind.da.toList<;>simp [h0,h1,A]
theorem fieldNeqG:Tryz.prog.eqGuardType Tryz.prog.depth 125=false:=by kernel_rfl
theorem zee (w:World) (M M':Nat->Prop) (u v:Value) (l m:List Int) (V:SL 1 RI M w u l) (W:SL 1 RI M' w v m):
 Calls Tryz.prog 259 #[u,v] w fun r w'=>r=.returned (.bool (cz fh l m))/\∃n,w'=w.drewN n:=by
 have Z:=ae V;have N:=ae W;obtain ⟨au,cu,rfl,_,hl,-⟩:=V;obtain ⟨av,cv,rfl,_,O,-⟩:=W;unfold maxLen at hl O;by_cases A:l.length=m.length
 rotate_left
 ·have h0:¬(l.length:Int)=m.length:=by omega
  have Y:=ae (zd9 fh l m A);clear A;go_enter Tryz.func259,Tryz.ntmps259;go_wp2
  go_ret;exact ⟨by rw [Y.o];rfl,0,rfl⟩
 rw [<-A]at N ⊢;have E:=ae A;clear O A;go_enter Tryz.func259,Tryz.ntmps259;go_wp2
 go_loopw [13] (fun i wr=>∃k:Nat,k<=l.length/\i=.int .i64 k/\Hid (cz fh l m=cz fh (l.drop k) (m.drop k))/\∃n,wr=w.drewN n) (fun i _=>l.length - (intOf i).toNat)
 case atStart=>exact ⟨0,n0q _,rfl,rfl,0,rfl⟩
 case round=>
  obtain ⟨k,hk,rfl,J,n,rfl⟩:=hrel;by_cases F:k<l.length
  ·have I:k<m.length:=by have:=E.o;omega
   obtain ⟨b,off,rfl,_,c0⟩:=Z.o.atI k F;obtain ⟨b2,X,rfl,_,d0⟩:=N.o.atI k I;have G:=ae (zea fh l m k F I);generalize l[k]=x at*;generalize m[k]=y at*;cases hs:fh x y with
   | true=>
     have L:x=y:=by simpa [fh]using hs
     have D:Hid (cz fh l m=cz fh (l.drop (k+1)) (m.drop (k+1))):=J.o.trans (by rw [G.o,hs,Bool.true_and]);go_wp2
     go_quiet (fail);go_wp2
     go_roundw
     case rel=>exact ⟨k+1,by omega,by go_num,D.o,_,rfl⟩
     case measure=>simp [intOf];omega
   | false=>
     have L:¬x=y:=by simpa [fh]using hs
     have D:Hid (cz fh l m=false):=J.o.trans (by rw [G.o,hs,Bool.false_and]);go_wp2
     go_quiet (fail);go_wp2
     go_ret;exact ⟨by rw [D.o];rfl,_,World.drewN_drewN _ _ _⟩
  have D:Hid (cz fh l m=true):=J.o.trans (zeb fh l m k F E.o);go_wp2
  go_ret;exact ⟨by rw [D.o];rfl,n,rfl⟩
theorem zef (w:World) (M M':Nat->Prop) (u v:Value) (l m:List ew) (O:SL 2 RK M w u l) (V:SL 2 RK M' w v m):
 Calls Tryz.prog 302 #[u,v] w fun r w'=>r=.returned (.bool (cz dv l m))/\∃n,w'=w.drewN n:=by
 have Y:=ae O;have L:=ae V;obtain ⟨au,cu,rfl,_,Z,-⟩:=O;obtain ⟨av,cv,rfl,_,N,-⟩:=V;unfold maxLen at Z N;by_cases A:l.length=m.length
 rotate_left
 ·have h0:¬(l.length:Int)=m.length:=by omega
  have X:=ae (zd9 dv l m A);clear A;go_enter Tryz.func302,Tryz.ntmps302;go_wp2
  go_ret;exact ⟨by rw [X.o];rfl,0,rfl⟩
 rw [<-A]at L ⊢;have E:=ae A;clear N A;go_enter Tryz.func302,Tryz.ntmps302;go_wp2
 go_loopw [13] (fun i wr=>∃k:Nat,k<=l.length/\i=.int .i64 k/\Hid (cz dv l m=cz dv (l.drop k) (m.drop k))/\∃n,wr=w.drewN n) (fun i _=>l.length - (intOf i).toNat)
 case atStart=>exact ⟨0,n0q _,rfl,rfl,0,rfl⟩
 case round=>
  obtain ⟨k,hk,rfl,J,n,rfl⟩:=hrel;by_cases F:k<l.length
  ·have I:k<m.length:=by have:=E.o;omega
   obtain ⟨b,off,rfl,_,c0,c1,_⟩:=Y.o.atK k F;obtain ⟨b2,W,rfl,_,d0,d1,_⟩:=L.o.atK k I;have G:=ae (zea dv l m k F I);have aa:=kindNeq l[k] m[k];have ac:=kindNeqG;generalize l[k]=x at*;generalize m[k]=y at*;cases hs:dv x y with
   | true=>
     have D:Hid (cz dv l m=cz dv (l.drop (k+1)) (m.drop (k+1))):=J.o.trans (by rw [G.o,hs,Bool.true_and]);go_wp2
     go_quiet (fail);go_wp2
     go_roundw
     case rel=>exact ⟨k+1,by omega,by go_num,D.o,_,rfl⟩
     case measure=>simp [intOf];omega
   | false=>
     have D:Hid (cz dv l m=false):=J.o.trans (by rw [G.o,hs,Bool.false_and]);go_wp2
     go_quiet (fail);go_wp2
     go_ret;exact ⟨by rw [D.o];rfl,_,World.drewN_drewN _ _ _⟩
  have D:Hid (cz dv l m=true):=J.o.trans (zeb dv l m k F E.o);go_wp2
  go_ret;exact ⟨by rw [D.o];rfl,n,rfl⟩
theorem zeg (w:World) (M M':Nat->Prop) (u v:Value) (l m:List bg) (O:SL 3 RF M w u l) (V:SL 3 RF M' w v m):
 Calls Tryz.prog 261 #[u,v] w fun r w'=>r=.returned (.bool (cz fb l m))/\∃n,w'=w.drewN n:=by
 have Y:=ae O;have L:=ae V;obtain ⟨au,cu,rfl,_,Z,-⟩:=O;obtain ⟨av,cv,rfl,_,N,-⟩:=V;unfold maxLen at Z N;by_cases A:l.length=m.length
 rotate_left
 ·have h0:¬(l.length:Int)=m.length:=by omega
  have X:=ae (zd9 fb l m A);clear A;go_enter Tryz.func261,Tryz.ntmps261;go_wp2
  go_ret;exact ⟨by rw [X.o];rfl,0,rfl⟩
 rw [<-A]at L ⊢;have E:=ae A;clear N A;go_enter Tryz.func261,Tryz.ntmps261;go_wp2
 go_loopw [13] (fun i wr=>∃k:Nat,k<=l.length/\i=.int .i64 k/\Hid (cz fb l m=cz fb (l.drop k) (m.drop k))/\∃n,wr=w.drewN n) (fun i _=>l.length - (intOf i).toNat)
 case atStart=>exact ⟨0,n0q _,rfl,rfl,0,rfl⟩
 case round=>
  obtain ⟨k,hk,rfl,J,n,rfl⟩:=hrel;by_cases F:k<l.length
  ·have I:k<m.length:=by have:=E.o;omega
   obtain ⟨b,off,rfl,_,c0,c1,c2,_⟩:=Y.o.atF k F;obtain ⟨b2,W,rfl,_,d0,d1,d2,_⟩:=L.o.atF k I;have G:=ae (zea fb l m k F I);have aa:=fieldNeq l[k] m[k];have ac:=fieldNeqG;generalize l[k]=x at*;generalize m[k]=y at*;cases hs:fb x y with
   | true=>
     have D:Hid (cz fb l m=cz fb (l.drop (k+1)) (m.drop (k+1))):=J.o.trans (by rw [G.o,hs,Bool.true_and]);go_wp2
     go_quiet (fail);go_wp2
     go_roundw
     case rel=>exact ⟨k+1,by omega,by go_num,D.o,_,rfl⟩
     case measure=>simp [intOf];omega
   | false=>
     have D:Hid (cz fb l m=false):=J.o.trans (by rw [G.o,hs,Bool.false_and]);go_wp2
     go_quiet (fail);go_wp2
     go_ret;exact ⟨by rw [D.o];rfl,_,World.drewN_drewN _ _ _⟩
  have D:Hid (cz fb l m=true):=J.o.trans (zeb fb l m k F E.o);go_wp2
  go_ret;exact ⟨by rw [D.o];rfl,n,rfl⟩
theorem zeh (w:World) (M M':Nat->Prop) (u v:Value) (l m:List ByteArray) (V:SL 1 RS M w u l) (W:SL 1 RS M' w v m):
 Calls Tryz.prog 263 #[u,v] w fun r w'=>r=.returned (.bool (cz fv l m))/\∃n,w'=w.drewN n:=by
 have Z:=ae V;have N:=ae W;obtain ⟨au,cu,rfl,_,hl,-⟩:=V;obtain ⟨av,cv,rfl,_,O,-⟩:=W;unfold maxLen at hl O;by_cases A:l.length=m.length
 rotate_left
 ·have h0:¬(l.length:Int)=m.length:=by omega
  have Y:=ae (zd9 fv l m A);clear A;go_enter Tryz.func263,Tryz.ntmps263;go_wp2
  go_ret;exact ⟨by rw [Y.o];rfl,0,rfl⟩
 rw [<-A]at N ⊢;have E:=ae A;clear O A;go_enter Tryz.func263,Tryz.ntmps263;go_wp2
 go_loopw [13] (fun i wr=>∃k:Nat,k<=l.length/\i=.int .i64 k/\Hid (cz fv l m=cz fv (l.drop k) (m.drop k))/\∃n,wr=w.drewN n) (fun i _=>l.length - (intOf i).toNat)
 case atStart=>exact ⟨0,n0q _,rfl,rfl,0,rfl⟩
 case round=>
  obtain ⟨k,hk,rfl,J,n,rfl⟩:=hrel;by_cases F:k<l.length
  ·have I:k<m.length:=by have:=E.o;omega
   obtain ⟨b,off,rfl,_,c0,_⟩:=Z.o.atS k F;obtain ⟨b2,X,rfl,_,d0,_⟩:=N.o.atS k I;have G:=ae (zea fv l m k F I);generalize l[k]=x at*;generalize m[k]=y at*;cases hs:fv x y with
   | true=>
     have L:(x.toList==y.toList)=true:=hs;have D:Hid (cz fv l m=cz fv (l.drop (k+1)) (m.drop (k+1))):=J.o.trans (by rw [G.o,hs,Bool.true_and]);go_wp2
     go_quiet (fail);go_wp2
     go_roundw
     case rel=>exact ⟨k+1,by omega,by go_num,D.o,_,rfl⟩
     case measure=>simp [intOf];omega
   | false=>
     have L:(x.toList==y.toList)=false:=hs;have D:Hid (cz fv l m=false):=J.o.trans (by rw [G.o,hs,Bool.false_and]);go_wp2
     go_quiet (fail);go_wp2
     go_ret;exact ⟨by rw [D.o];rfl,_,World.drewN_drewN _ _ _⟩
  have D:Hid (cz fv l m=true):=J.o.trans (zeb fv l m k F E.o);go_wp2
  go_ret;exact ⟨by rw [D.o];rfl,n,rfl⟩
theorem zei (w:World) (M M':Nat->Prop) (u v:Value) (l m:List cg) (O:SL 2 RT M w u l) (V:SL 2 RT M' w v m):
 Calls Tryz.prog 265 #[u,v] w fun r w'=>r=.returned (.bool (cz ff l m))/\∃n,w'=w.drewN n:=by
 have Y:=ae O;have L:=ae V;obtain ⟨au,cu,rfl,_,Z,-⟩:=O;obtain ⟨av,cv,rfl,_,N,-⟩:=V;unfold maxLen at Z N;by_cases A:l.length=m.length
 rotate_left
 ·have h0:¬(l.length:Int)=m.length:=by omega
  have X:=ae (zd9 ff l m A);clear A;go_enter Tryz.func265,Tryz.ntmps265;go_wp2
  go_ret;exact ⟨by rw [X.o];rfl,0,rfl⟩
 rw [<-A]at L ⊢;have E:=ae A;clear N A;go_enter Tryz.func265,Tryz.ntmps265;go_wp2
 go_loopw [13] (fun i wr=>∃k:Nat,k<=l.length/\i=.int .i64 k/\Hid (cz ff l m=cz ff (l.drop k) (m.drop k))/\∃n,wr=w.drewN n) (fun i _=>l.length - (intOf i).toNat)
 case atStart=>exact ⟨0,n0q _,rfl,rfl,0,rfl⟩
 case round=>
  obtain ⟨k,hk,rfl,J,n,rfl⟩:=hrel;by_cases F:k<l.length
  ·have I:k<m.length:=by have:=E.o;omega
   obtain ⟨b,off,rfl,_,c0,c1⟩:=Y.o.atT k F;obtain ⟨b2,W,rfl,_,d0,d1⟩:=L.o.atT k I;have G:=ae (zea ff l m k F I);have aa:=targNeq l[k] m[k];have ac:=targNeqG;generalize l[k]=x at*;generalize m[k]=y at*;cases hs:ff x y with
   | true=>
     have D:Hid (cz ff l m=cz ff (l.drop (k+1)) (m.drop (k+1))):=J.o.trans (by rw [G.o,hs,Bool.true_and]);go_wp2
     go_quiet (fail);go_wp2
     go_roundw
     case rel=>exact ⟨k+1,by omega,by go_num,D.o,_,rfl⟩
     case measure=>simp [intOf];omega
   | false=>
     have D:Hid (cz ff l m=false):=J.o.trans (by rw [G.o,hs,Bool.false_and]);go_wp2
     go_quiet (fail);go_wp2
     go_ret;exact ⟨by rw [D.o];rfl,_,World.drewN_drewN _ _ _⟩
  have D:Hid (cz ff l m=true):=J.o.trans (zeb ff l m k F E.o);go_wp2
  go_ret;exact ⟨by rw [D.o];rfl,n,rfl⟩
theorem zej (w:World) (M M':Nat->Prop) (u v:Value) (l m:List (List bg)) (V:SL 1 (jm 3 RF) M w u l) (W:SL 1 (jm 3 RF) M' w v m):
 Calls Tryz.prog 260 #[u,v,.func (.func 261) #[] #[]] w fun r w'=>r=.returned (.bool (cz (cz fb) l m))/\∃n,w'=w.drewN n:=by
 have HU:=ae V;have N:=ae W;obtain ⟨au,cu,rfl,_,hl,-⟩:=V;obtain ⟨av,cv,rfl,_,O,-⟩:=W;unfold maxLen at hl O;by_cases A:l.length=m.length
 rotate_left
 ·have h0:¬(l.length:Int)=m.length:=by omega
  have HR:=ae (zd9 (cz fb) l m A);clear A;go_enter Tryz.func260,Tryz.ntmps260;go_wp2
  go_ret;exact ⟨by rw [HR.o];rfl,0,rfl⟩
 rw [<-A]at N ⊢;have E:=ae A;clear O A;go_enter Tryz.func260,Tryz.ntmps260;go_wp2
 go_loopw [17] (fun i wr=>∃k:Nat,k<=l.length/\i=.int .i64 k/\Hid (cz (cz fb) l m=cz (cz fb) (l.drop k) (m.drop k))/\∃n,wr=w.drewN n) (fun i _=>l.length - (intOf i).toNat)
 case atStart=>exact ⟨0,n0q _,rfl,rfl,0,rfl⟩
 case round=>
  obtain ⟨k,hk,rfl,L,n,rfl⟩:=hrel;by_cases F:k<l.length
  ·have I:k<m.length:=by have:=E.o;omega
   obtain ⟨b,off,a1,k1,rfl,_,c0,Y⟩:=HU.o.atSl k F;obtain ⟨b2,X,a2,k2,rfl,_,d0,Z⟩:=N.o.atSl k I;have G:=ae (zea (cz fb) l m k F I);generalize l[k]=x at*;generalize m[k]=y at*;have J:=ae (zeg (w.drewN n) M M' _ _ x y (Y.kept ⟨nlq _,fun _ _ _=>rfl⟩ fun _ _ h=>h) (Z.kept ⟨nlq _,fun _ _ _=>rfl⟩ fun _ _ h=>h));clear Y Z;cases hs:cz fb x y with
   | true=>
     rw [hs]at J;have D:Hid (cz (cz fb) l m=cz (cz fb) (l.drop (k+1)) (m.drop (k+1))):=L.o.trans (by rw [G.o,hs,Bool.true_and]);clear hs;go_wp2_with (first | (go_at_call 261;refine J.o.mono ?_;rintro r w7 ⟨rfl,n7,rfl⟩));go_roundw
     case rel=>exact ⟨k+1,by omega,by go_num,D.o,_,rfl⟩
     case measure=>simp [intOf];omega
   | false=>
     rw [hs]at J;have D:Hid (cz (cz fb) l m=false):=L.o.trans (by rw [G.o,hs,Bool.false_and]);clear hs;go_wp2_with (first | (go_at_call 261;refine J.o.mono ?_;rintro r w7 ⟨rfl,n7,rfl⟩));go_ret;exact ⟨by rw [D.o];rfl,_,rfl⟩
  have D:Hid (cz (cz fb) l m=true):=L.o.trans (zeb (cz fb) l m k F E.o);go_wp2
  go_ret;exact ⟨by rw [D.o];rfl,n,rfl⟩
theorem zek (w:World) (M M':Nat->Prop) (u v:Value) (l m:List (List ByteArray)) (V:SL 1 (jm 1 RS) M w u l) (W:SL 1 (jm 1 RS) M' w v m):
 Calls Tryz.prog 262 #[u,v,.func (.func 263) #[] #[]] w fun r w'=>r=.returned (.bool (cz (cz fv) l m))/\∃n,w'=w.drewN n:=by
 have HU:=ae V;have N:=ae W;obtain ⟨au,cu,rfl,_,hl,-⟩:=V;obtain ⟨av,cv,rfl,_,O,-⟩:=W;unfold maxLen at hl O;by_cases A:l.length=m.length
 rotate_left
 ·have h0:¬(l.length:Int)=m.length:=by omega
  have HR:=ae (zd9 (cz fv) l m A);clear A;go_enter Tryz.func262,Tryz.ntmps262;go_wp2
  go_ret;exact ⟨by rw [HR.o];rfl,0,rfl⟩
 rw [<-A]at N ⊢;have E:=ae A;clear O A;go_enter Tryz.func262,Tryz.ntmps262;go_wp2
 go_loopw [17] (fun i wr=>∃k:Nat,k<=l.length/\i=.int .i64 k/\Hid (cz (cz fv) l m=cz (cz fv) (l.drop k) (m.drop k))/\∃n,wr=w.drewN n) (fun i _=>l.length - (intOf i).toNat)
 case atStart=>exact ⟨0,n0q _,rfl,rfl,0,rfl⟩
 case round=>
  obtain ⟨k,hk,rfl,L,n,rfl⟩:=hrel;by_cases F:k<l.length
  ·have I:k<m.length:=by have:=E.o;omega
   obtain ⟨b,off,a1,k1,rfl,_,c0,Y⟩:=HU.o.atSl k F;obtain ⟨b2,X,a2,k2,rfl,_,d0,Z⟩:=N.o.atSl k I;have G:=ae (zea (cz fv) l m k F I);generalize l[k]=x at*;generalize m[k]=y at*;have J:=ae (zeh (w.drewN n) M M' _ _ x y (Y.kept ⟨nlq _,fun _ _ _=>rfl⟩ fun _ _ h=>h) (Z.kept ⟨nlq _,fun _ _ _=>rfl⟩ fun _ _ h=>h));clear Y Z;cases hs:cz fv x y with
   | true=>
     rw [hs]at J;have D:Hid (cz (cz fv) l m=cz (cz fv) (l.drop (k+1)) (m.drop (k+1))):=L.o.trans (by rw [G.o,hs,Bool.true_and]);clear hs;go_wp2_with (first | (go_at_call 263;refine J.o.mono ?_;rintro r w7 ⟨rfl,n7,rfl⟩));go_roundw
     case rel=>exact ⟨k+1,by omega,by go_num,D.o,_,rfl⟩
     case measure=>simp [intOf];omega
   | false=>
     rw [hs]at J;have D:Hid (cz (cz fv) l m=false):=L.o.trans (by rw [G.o,hs,Bool.false_and]);clear hs;go_wp2_with (first | (go_at_call 263;refine J.o.mono ?_;rintro r w7 ⟨rfl,n7,rfl⟩));go_ret;exact ⟨by rw [D.o];rfl,_,rfl⟩
  have D:Hid (cz (cz fv) l m=true):=L.o.trans (zeb (cz fv) l m k F E.o);go_wp2
  go_ret;exact ⟨by rw [D.o];rfl,n,rfl⟩
theorem zel (w:World) (M M':Nat->Prop) (u v:Value) (l m:List (List cg)) (V:SL 1 (jm 2 RT) M w u l) (W:SL 1 (jm 2 RT) M' w v m):
 Calls Tryz.prog 264 #[u,v,.func (.func 265) #[] #[]] w fun r w'=>r=.returned (.bool (cz (cz ff) l m))/\∃n,w'=w.drewN n:=by
 have HU:=ae V;have N:=ae W;obtain ⟨au,cu,rfl,_,hl,-⟩:=V;obtain ⟨av,cv,rfl,_,O,-⟩:=W;unfold maxLen at hl O;by_cases A:l.length=m.length
 rotate_left
 ·have h0:¬(l.length:Int)=m.length:=by omega
  have HR:=ae (zd9 (cz ff) l m A);clear A;go_enter Tryz.func264,Tryz.ntmps264;go_wp2
  go_ret;exact ⟨by rw [HR.o];rfl,0,rfl⟩
 rw [<-A]at N ⊢;have E:=ae A;clear O A;go_enter Tryz.func264,Tryz.ntmps264;go_wp2
 go_loopw [17] (fun i wr=>∃k:Nat,k<=l.length/\i=.int .i64 k/\Hid (cz (cz ff) l m=cz (cz ff) (l.drop k) (m.drop k))/\∃n,wr=w.drewN n) (fun i _=>l.length - (intOf i).toNat)
 case atStart=>exact ⟨0,n0q _,rfl,rfl,0,rfl⟩
 case round=>
  obtain ⟨k,hk,rfl,L,n,rfl⟩:=hrel;by_cases F:k<l.length
  ·have I:k<m.length:=by have:=E.o;omega
   obtain ⟨b,off,a1,k1,rfl,_,c0,Y⟩:=HU.o.atSl k F;obtain ⟨b2,X,a2,k2,rfl,_,d0,Z⟩:=N.o.atSl k I;have G:=ae (zea (cz ff) l m k F I);generalize l[k]=x at*;generalize m[k]=y at*;have J:=ae (zei (w.drewN n) M M' _ _ x y (Y.kept ⟨nlq _,fun _ _ _=>rfl⟩ fun _ _ h=>h) (Z.kept ⟨nlq _,fun _ _ _=>rfl⟩ fun _ _ h=>h));clear Y Z;cases hs:cz ff x y with
   | true=>
     rw [hs]at J;have D:Hid (cz (cz ff) l m=cz (cz ff) (l.drop (k+1)) (m.drop (k+1))):=L.o.trans (by rw [G.o,hs,Bool.true_and]);clear hs;go_wp2_with (first | (go_at_call 265;refine J.o.mono ?_;rintro r w7 ⟨rfl,n7,rfl⟩));go_roundw
     case rel=>exact ⟨k+1,by omega,by go_num,D.o,_,rfl⟩
     case measure=>simp [intOf];omega
   | false=>
     rw [hs]at J;have D:Hid (cz (cz ff) l m=false):=L.o.trans (by rw [G.o,hs,Bool.false_and]);clear hs;go_wp2_with (first | (go_at_call 265;refine J.o.mono ?_;rintro r w7 ⟨rfl,n7,rfl⟩));go_ret;exact ⟨by rw [D.o];rfl,_,rfl⟩
  have D:Hid (cz (cz ff) l m=true):=L.o.trans (zeb (cz ff) l m k F E.o);go_wp2
  go_ret;exact ⟨by rw [D.o];rfl,n,rfl⟩
structure bd where
 aj:List ap
 ax:List Int
 fields:List (List bg)
 names:List (List ByteArray)
 aq:List (List cg)
structure j9 (M:Nat->Prop) (w:World) (kC kS kF kN kT:Value) (d:bd):Prop where
 C:SL 4 RC M w kC d.aj
 S:SL 1 RI M w kS d.ax
 F:SL 1 (jm 3 RF) M w kF d.fields
 N:SL 1 (jm 1 RS) M w kN d.names
 T:SL 1 (jm 2 RT) M w kT d.aq
theorem j9.kept {M:Nat->Prop} {w w':World} {D I E G J:Value} {d:bd} (h:j9 M w D I E G J d) (A:Kp M w w'):j9 M w' D I E G J d:=
 ⟨h.C.keptC A,h.S.keptI A,h.F.keptSl A fun _ _ h=>h,h.N.keptSl A fun _ _ h=>h,h.T.keptSl A fun _ _ h=>h⟩
def makesB (l:List ap) (d:bd):Bool:=
 cz fh ((List.range l.length).map (df l)) d.ax&&cz (cz fb) ((List.range l.length).map (fieldsOf l)) d.fields&&
  cz (cz fv) ((List.range l.length).map (d9 l)) d.names&&cz (cz ff) ((List.range l.length).map (d7 l)) d.aq
theorem zem (w:World) (B b:Nat) (l:List ap) (vC vS vF vN vT vL:Value) (Bm:Nat) (I:Web B w b l vC vS vF vN vT vL Bm) (O X V W Y:Value) (d:bd) (hk:j9 (· <B) w O X V W Y d):
 Calls Tryz.prog 216 #[.pointer (some ⟨b,0,none⟩),.agg #[O,X,V,W,Y]] w fun r w'=>r=.returned (.bool (makesB l d))/\Below w.heap.size w w':=by
 have hb:b<w.heap.size:=ll3 I.bB I.le;have c1:=aw I.blk 1 (x:=vS) rfl;have c2:=aw I.blk 2 (x:=vF) rfl;have c3:=aw I.blk 3 (x:=vN) rfl;have c4:=aw I.blk 4 (x:=vT) rfl;have J:Below w.heap.size w (w.alloc (.cells #[O,X,V,W,Y] 36)):=(br _ _).alloc (nlq _) _;have E:=ae J;have L:=J.mono I.le;have A:=hk.kept (Kp.below L);have D:=I.below L;have G:∀n,Kp (· <B) (w.alloc (.cells #[O,X,V,W,Y] 36)) ((w.alloc (.cells #[O,X,V,W,Y] 36)).drewN n):=fun n=>⟨nlq _,fun _ _ _=>rfl⟩;generalize hS:(List.range l.length).map (df l)=lS at*;generalize hF:(List.range l.length).map (fieldsOf l)=lF at*;generalize hN:(List.range l.length).map (d9 l)=lN at*;generalize hT:(List.range l.length).map (d7 l)=lT at*;have sS:SL 1 RI (· <B) _ vS lS:=hS ▸ D.sS;have sF:SL 1 (jm 3 RF) (· <B) _ vF lF:=hF ▸ D.sF;have sN:SL 1 (jm 1 RS) (· <B) _ vN lN:=hN ▸ D.sN;have sT:SL 1 (jm 2 RT) (· <B) _ vT lT:=hT ▸ D.sT;have HM:Hid (makesB l d=(cz fh lS d.ax&&cz (cz fb) lF d.fields&&cz (cz fv) lN d.names&&cz (cz ff) lT d.aq)):=by show makesB l d=_;rw [makesB,hS,hF,hN,hT]
 have Z:=ae (fun n=>zee _ _ _ _ _ _ _ (sS.keptI (G n)) (A.S.keptI (G n)));have H2:=ae (fun n=>zej _ _ _ _ _ _ _ (sF.keptSl (G n) fun _ _ h=>h) (A.F.keptSl (G n) fun _ _ h=>h));have H3:=ae (fun n=>zek _ _ _ _ _ _ _ (sN.keptSl (G n) fun _ _ h=>h) (A.N.keptSl (G n) fun _ _ h=>h));have H4:=ae (fun n=>zel _ _ _ _ _ _ _ (sT.keptSl (G n) fun _ _ h=>h) (A.T.keptSl (G n) fun _ _ h=>h));clear I hk D A sS sF sN sT G hS hF hN hT J L;generalize cz fh lS d.ax=e1 at*;generalize cz (cz fb) lF d.fields=e2 at*;generalize cz (cz fv) lN d.names=e3 at*;generalize cz (cz ff) lT d.aq=e4 at*;cases e1 with
 | false=>
   go_enter Tryz.func216,Tryz.ntmps216;go_wp2_with fail;go_quiet (first | (go_at_call 259;exact Calls.quiet_of (Z.o _)) | (go_at_call 260;exact Calls.quiet_of (H2.o _)) | (go_at_call 262;exact Calls.quiet_of (H3.o _)) | (go_at_call 264;exact Calls.quiet_of (H4.o _)));go_wp2_with fail;go_ret;exact ⟨by rw [HM.o];rfl,ku E.o _⟩
 | true=>
   cases e2 with
   | false=>
     go_enter Tryz.func216,Tryz.ntmps216;go_wp2_with fail;go_quiet (first | (go_at_call 259;exact Calls.quiet_of (Z.o _)) | (go_at_call 260;exact Calls.quiet_of (H2.o _)) | (go_at_call 262;exact Calls.quiet_of (H3.o _)) | (go_at_call 264;exact Calls.quiet_of (H4.o _)));go_wp2_with fail;go_ret;exact ⟨by rw [HM.o];rfl,ku E.o _⟩
   | true=>
     cases e3 with
     | false=>
       go_enter Tryz.func216,Tryz.ntmps216;go_wp2_with fail;go_quiet (first | (go_at_call 259;exact Calls.quiet_of (Z.o _)) | (go_at_call 260;exact Calls.quiet_of (H2.o _)) | (go_at_call 262;exact Calls.quiet_of (H3.o _)) | (go_at_call 264;exact Calls.quiet_of (H4.o _)));go_wp2_with fail;go_ret;exact ⟨by rw [HM.o];rfl,ku E.o _⟩
     | true=>
       go_enter Tryz.func216,Tryz.ntmps216;go_wp2_with fail;go_quiet (first | (go_at_call 259;exact Calls.quiet_of (Z.o _)) | (go_at_call 260;exact Calls.quiet_of (H2.o _)) | (go_at_call 262;exact Calls.quiet_of (H3.o _)) | (go_at_call 264;exact Calls.quiet_of (H4.o _)));go_wp2_with fail;go_ret;exact ⟨by rw [HM.o];rfl,ku E.o _⟩
end Go.Proofs.YtjdnmblggdobgaaGreat
namespace Go.Proofs.YtjdnmblggdobgaaGreat
open Go.RowKit
structure bb where
 ab:List Int
 ag:Int
 old:Int
 be:Int
 ar:Int
 am:List Int
 next:Int
structure bp where
 loc:Int
 tag:Int
 len:Int
 hash:Int
def wd (ws:List Int) (i:Int):Int:=ws[i.toNat]?.getD 0
theorem mw {ws:List Int} {i:Nat} (h:i<ws.length):wd ws i=ws[i]:=by simp [wd,h]
def dw (n:Nat) (tag:Int):Bool:=decide (1<=tag)&&decide (tag<3+n)
def gr (fs:List (List bg)) (tag:Int):List bg:=fs[(tag - 3).toNat]?.getD []
def cq (fs:List (List bg)) (tag len:Int):Bool:=if 3<=tag then decide (len=(gr fs tag).length) else decide (0<=len)&&decide (len<=500)
def bj (ws:List Int) (loc:Int):bp:=⟨loc,wd ws loc,wd ws (loc+1),wd ws (loc+2)⟩
def bp.fin (t:bp):Int:=t.loc+3+t.len
def io (n:Nat) (fs:List (List bg)) (ws:List Int) (loc top:Int):Bool:=
 decide (loc+3<=top)&&dw n (wd ws loc)&&cq fs (wd ws loc) (wd ws (loc+1))&&decide ((bj ws loc).fin<=top)
def ir (n:Nat) (fs:List (List bg)) (ws:List Int) (top:Int):Nat->Int->Option (List bp)
 | 0,_=>some []
 | f+1,loc=>if loc<top then (if io n fs ws loc top=true then (ir n fs ws top f (bj ws loc).fin).map (bj ws loc:: ·) else none) else some []
def cb (n:Nat) (fs:List (List bg)) (ws:List Int) (loc top:Int):Option (List bp):=ir n fs ws top (top - loc).toNat loc
theorem zeo {fs:List (List bg)} {A len:Int} (h:cq fs A len=true):0<=len:=by
 unfold cq at h;split at h
 ·have:=of_decide_eq_true h;omega
 rw [Bool.and_eq_true]at h;exact of_decide_eq_true h.1
theorem zep {n:Nat} {fs:List (List bg)} {ws:List Int} {A D:Int} (h:io n fs ws A D=true):A+3<=(bj ws A).fin/\(bj ws A).fin<=D/\dw n (wd ws A)=true/\cq fs (wd ws A) (wd ws (A+1))=true:=by unfold io at h;simp only [Bool.and_eq_true]at h;obtain ⟨⟨⟨h1,F⟩,E⟩,G⟩:=h;have I:=zeo E;exact ⟨by show A+3<=A+3+wd ws (A+1);omega,of_decide_eq_true G,F,E⟩
theorem zeq (n:Nat) (fs:List (List bg)) (ws:List Int) (A:Int):∀(f:Nat) (loc:Int),A - loc<=f->ir n fs ws A (f+1) loc=ir n fs ws A f loc
 | 0,loc,h=>by rw [ir,ir,if_neg (by omega)]
 | f+1,loc,h=>by
   by_cases D:loc<A
   ·by_cases E:io n fs ws loc A=true
    ·have I:=(zep E).1;have F:ir n fs ws A (f+1+1) loc=(ir n fs ws A (f+1) (bj ws loc).fin).map (bj ws loc:: ·):=by rw [ir,if_pos D,if_pos E]
     have G:ir n fs ws A (f+1) loc=(ir n fs ws A f (bj ws loc).fin).map (bj ws loc:: ·):=by rw [ir,if_pos D,if_pos E]
     rw [F,G,zeq n fs ws A f _ (by omega)]
    rw [ir,if_pos D,if_neg E,ir,if_pos D,if_neg E]
   rw [ir,if_neg D,ir,if_neg D]
theorem zer (n:Nat) (fs:List (List bg)) (ws:List Int) (D:Int) (A:Int) (f g:Nat) (h:D - A<=f) (E:f<=g):ir n fs ws D g A=ir n fs ws D f A:=by
 obtain ⟨k,rfl⟩:=Nat.exists_eq_add_of_le E;induction k with
 | zero=>rfl
 | succ k ih=>rw [show f+(k+1)=f+k+1 by omega,zeq _ _ _ _ _ _ (by omega),ih (by omega)]
theorem zes {n:Nat} {fs:List (List bg)} {ws:List Int} {A D:Int} (h:¬A<D):cb n fs ws A D=some []:=by
 unfold cb;cases (D - A).toNat with
 | zero=>rfl
 | succ k=>rw [ir,if_neg h]
theorem zet {n:Nat} {fs:List (List bg)} {ws:List Int} {A D:Int} (h:A<D) (E:io n fs ws A D=true):cb n fs ws A D=(cb n fs ws (bj ws A).fin D).map (bj ws A:: ·):=by have G:=(zep E).1;unfold cb;obtain ⟨k,F⟩:∃k,(D - A).toNat=k+1:=⟨(D - A).toNat - 1,by omega⟩;rw [F,ir,if_pos h,if_pos E,zer _ _ _ _ _ (D - (bj ws A).fin).toNat k (by omega) (by omega)]
theorem zeu {n:Nat} {fs:List (List bg)} {ws:List Int} {A D:Int} (h:A<D) (F:¬io n fs ws A D=true):cb n fs ws A D=none:=by unfold cb;obtain ⟨k,E⟩:∃k,(D - A).toNat=k+1:=⟨(D - A).toNat - 1,by omega⟩;rw [E,ir,if_pos h,if_neg F]
end Go.Proofs.YtjdnmblggdobgaaGreat
namespace Go.Proofs.YtjdnmblggdobgaaGreat
open Go.RowKit Go.Maps
theorem zos (w:World) (M M':Nat->Prop) (u v:Value) (l m:List ew) (O:SL 2 RK M w u l) (V:SL 2 RK M' w v m):
 Calls Tryz.prog 227 #[u,v] w fun r w'=>r=.returned (.bool (cz dv l m))/\∃n,w'=w.drewN n:=by
 have Y:=ae O;have L:=ae V;obtain ⟨au,cu,rfl,_,Z,-⟩:=O;obtain ⟨av,cv,rfl,_,N,-⟩:=V;unfold maxLen at Z N;by_cases A:l.length=m.length
 rotate_left
 ·have h0:¬(l.length:Int)=m.length:=by omega
  have X:=ae (zd9 dv l m A);clear A;go_enter Tryz.func227,Tryz.ntmps227;go_wp2
  go_ret;exact ⟨by rw [X.o];rfl,0,rfl⟩
 rw [<-A]at L ⊢;have E:=ae A;clear N A;go_enter Tryz.func227,Tryz.ntmps227;go_wp2
 go_loopw [5] (fun i wr=>∃k:Nat,k<=l.length/\i=.int .i64 k/\Hid (cz dv l m=cz dv (l.drop k) (m.drop k))/\∃n,wr=w.drewN n) (fun i _=>l.length - (intOf i).toNat)
 case atStart=>exact ⟨0,n0q _,rfl,rfl,0,rfl⟩
 case round=>
  obtain ⟨k,hk,rfl,J,n,rfl⟩:=hrel;by_cases F:k<l.length
  ·have I:k<m.length:=by have:=E.o;omega
   obtain ⟨b,off,rfl,_,c0,c1,_⟩:=Y.o.atK k F;obtain ⟨b2,W,rfl,_,d0,d1,_⟩:=L.o.atK k I;have G:=ae (zea dv l m k F I);have aa:=kindNeq l[k] m[k];have ac:=kindNeqG;generalize l[k]=x at*;generalize m[k]=y at*;cases hs:dv x y with
   | true=>
     have D:Hid (cz dv l m=cz dv (l.drop (k+1)) (m.drop (k+1))):=J.o.trans (by rw [G.o,hs,Bool.true_and]);go_wp2
     go_quiet (fail);go_wp2
     go_roundw
     case rel=>exact ⟨k+1,by omega,by go_num,D.o,_,rfl⟩
     case measure=>simp [intOf];omega
   | false=>
     have D:Hid (cz dv l m=false):=J.o.trans (by rw [G.o,hs,Bool.false_and]);go_wp2
     go_quiet (fail);go_wp2
     go_ret;exact ⟨by rw [D.o];rfl,_,World.drewN_drewN _ _ _⟩
  have D:Hid (cz dv l m=true):=J.o.trans (zeb dv l m k F E.o);go_wp2
  go_ret;exact ⟨by rw [D.o];rfl,n,rfl⟩
theorem zot (w:World) (M M':Nat->Prop) (u v:Value) (l m:List bg) (O:SL 3 RF M w u l) (V:SL 3 RF M' w v m):
 Calls Tryz.prog 186 #[u,v] w fun r w'=>r=.returned (.bool (cz fb l m))/\∃n,w'=w.drewN n:=by
 have Y:=ae O;have L:=ae V;obtain ⟨au,cu,rfl,_,Z,-⟩:=O;obtain ⟨av,cv,rfl,_,N,-⟩:=V;unfold maxLen at Z N;by_cases A:l.length=m.length
 rotate_left
 ·have h0:¬(l.length:Int)=m.length:=by omega
  have X:=ae (zd9 fb l m A);clear A;go_enter Tryz.func186,Tryz.ntmps186;go_wp2
  go_ret;exact ⟨by rw [X.o];rfl,0,rfl⟩
 rw [<-A]at L ⊢;have E:=ae A;clear N A;go_enter Tryz.func186,Tryz.ntmps186;go_wp2
 go_loopw [5] (fun i wr=>∃k:Nat,k<=l.length/\i=.int .i64 k/\Hid (cz fb l m=cz fb (l.drop k) (m.drop k))/\∃n,wr=w.drewN n) (fun i _=>l.length - (intOf i).toNat)
 case atStart=>exact ⟨0,n0q _,rfl,rfl,0,rfl⟩
 case round=>
  obtain ⟨k,hk,rfl,J,n,rfl⟩:=hrel;by_cases F:k<l.length
  ·have I:k<m.length:=by have:=E.o;omega
   obtain ⟨b,off,rfl,_,c0,c1,c2,_⟩:=Y.o.atF k F;obtain ⟨b2,W,rfl,_,d0,d1,d2,_⟩:=L.o.atF k I;have G:=ae (zea fb l m k F I);have aa:=fieldNeq l[k] m[k];have ac:=fieldNeqG;generalize l[k]=x at*;generalize m[k]=y at*;cases hs:fb x y with
   | true=>
     have D:Hid (cz fb l m=cz fb (l.drop (k+1)) (m.drop (k+1))):=J.o.trans (by rw [G.o,hs,Bool.true_and]);go_wp2
     go_quiet (fail);go_wp2
     go_roundw
     case rel=>exact ⟨k+1,by omega,by go_num,D.o,_,rfl⟩
     case measure=>simp [intOf];omega
   | false=>
     have D:Hid (cz fb l m=false):=J.o.trans (by rw [G.o,hs,Bool.false_and]);go_wp2
     go_quiet (fail);go_wp2
     go_ret;exact ⟨by rw [D.o];rfl,_,World.drewN_drewN _ _ _⟩
  have D:Hid (cz fb l m=true):=J.o.trans (zeb fb l m k F E.o);go_wp2
  go_ret;exact ⟨by rw [D.o];rfl,n,rfl⟩
end Go.Proofs.YtjdnmblggdobgaaGreat
