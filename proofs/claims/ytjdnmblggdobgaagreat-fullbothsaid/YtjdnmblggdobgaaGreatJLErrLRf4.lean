import Derived.Test.YtjdnmblggdobgaaGreatJLHasLAsk
set_option maxHeartbeats 4000000
namespace Go.Proofs.YtjdnmblggdobgaaGreat
open Go.RowKit Tryz List World
section
open Go.Maps
variable (x y:fw) {α:Type} (p:α->α->Bool) (l m:List α) (k:Nat) (w:World) (B b:Nat) (M M':Nat->Prop) (u v:Value)
theorem A4 (k D:Int) (c A:ByteArray) (w:World):(binOp BinOp.eql 123 (.agg #[.i k,.string c]) (.agg #[.i D,.string A])).run prog w=.ok (.bool ((k==D)&&(c.toList==A.toList))) w:=by
 have L:=underlying3;have I:=isAgg3;have O:=sizeOf3;have N:=underlying9;have J:=isAgg9;have V:=sizeOf9;have F:prog.underlying 123=some (.struct (prog.fieldsOf 123)):=by kernel_rfl
 have G:prog.stoodInHeld 123=false:=by kernel_rfl
 rw [run_eql_struct,show (10000:Nat)=9999+1 from rfl,run_equalIn_agg w 9999 123 _ _ F G];simp only [Program.fieldsOf,underlying123];go_simp;by_cases h1:k=D<;>by_cases E:c.toList=A.toList<;>simp [h1,E]
theorem xx:prog.eqGuardType prog.depth 123=false:=by kernel_rfl
theorem zdz (l:List aq) (vC vS vF vN vT vL:Value) (Y:Nat) (A:uh B w b l vC vS vF vN vT vL Y) (he:0<=num l gr):
 Calls prog 208 #[.p b] w fun r w'=>r=.returned (.bool (mt l))/\Bl w w':=by
 have L:∀n,iy (w.drewN n) Y l:=fun n=>A.nm.below (pa (br w.heap.size w) n) A.nm.lt;have c5:=bg A.blk 5 (x:=.map (some Y)) rfl;have c1:=bg A.blk 1 (x:=vS) rfl;have c2:=bg A.blk 2 (x:=vF) rfl;have F:Hid (∀s,s.size<=maxLen->∀n,Calls prog 199 #[.p b,.string s] (w.drewN n) fun r w'=>r=.returned (.i (num l s))/\w'=w.drewN n):=fun s hs n=>zcg _ b Y l s c5 (L n) hs;obtain ⟨n,hn⟩:=Int.eq_ofNat_of_zero_le he;have an:n<l.length:=by have:=(Ej l gr).2;omega
 obtain ⟨t,ht⟩:∃t,num l f9=t:=⟨_,rfl⟩;have E:=Ej l f9;have D:=Ej l (cz l n).b9;rw [ht]at E;have HA:Hid (mt l=(decide (dv l n=t)&&(match fieldsOf l n with | []=>false | f::_=>ep f.kind ⟨1,⟨#[]⟩⟩))):=by show mt l=_;unfold mt;rw [ht,hn];rfl
 have J:((range l.length).map (dv l)).length=l.length:=by simp
 have I:((range l.length).map (fieldsOf l)).length=l.length:=by simp
 obtain ⟨aS,cS,V,-⟩:=A.sS;obtain ⟨aF,cF,O,-⟩:=A.sF;rw [J]at V;rw [I]at O;subst V O;obtain ⟨bS,oS,rfl,ah,e1⟩:=A.sS.atI n (by omega);obtain ⟨bF,oF,aL,cL,rfl,af,G,X⟩:=A.sF.atSl n (by omega);have g1:((range l.length).map (dv l))[n]'(by omega)=dv l n:=by simp
 have g2:((range l.length).map (fieldsOf l))[n]'(by omega)=fieldsOf l n:=by simp
 rw [g1]at e1;rw [g2]at G X;have N:dv l n=num l (cz l n).b9:=rfl;rw [<-N]at D;clear g1 g2 J I N A c5 L;generalize dv l n=s at*;generalize fieldsOf l n=fs at*;have HE:Hid (num l gr=n):=hn;have HT:Hid (num l f9=t):=ht;have aw:=E.1;have ay:=E.2;have au:=D.1;have av:=D.2;have ad:(0:Int)<=n:=by omega
 have ae:(n:Int)<l.length:=by omega
 clear hn ht he E D;by_cases hst:s=t
 ·subst hst;cases fs with
  | nil=>
    have aa:w.cell? ⟨bF,oF+n,none⟩=some (.slice aL 0 cL):=G;clear G X;go_enter func208,ntmps208;go_wp2_with (go_at_call 199;refine (F.o gr (by decide) 0).mono ?_;rintro r w1 ⟨h1,rfl⟩;rw [HE.o]at h1;subst h1);go_quiet (first | (go_at_call 199;exact Calls.quiet_of_same ((F.o f9 (by decide) _).mono fun _ _ h=>⟨h.1.trans (by rw [HT.o]),h.2⟩)))
    go_wp21
    go_ret;exact ⟨by rw [HA.o];simp,pa (pa (br _ _) _) _⟩
  | cons f fs=>
    obtain ⟨bf,of,rfl,ai,y0,y1,y2,z1,z2⟩:=X.atF 0 (by simp);have aa:w.cell? ⟨bF,oF+n,none⟩=some (.slice (some ⟨bf,of,none⟩) (fs.length+1) cL):=G;have a0:w.cell? ⟨bf,of+1,none⟩=some (.i f.kind.kind):=by simpa using y1
    have a1:w.cell? ⟨bf,of+2,none⟩=some (.string f.kind.dj):=by simpa using y2
    have az:f.kind.dj.size<=maxLen:=z2;have ak:(0:Int)<((fs.length+1:Nat):Int):=by omega
    clear G X y0 y1 y2 z1 z2;have al:=A4 f.kind.kind 1 f.kind.dj ⟨#[]⟩;have am:=xx;go_enter func208,ntmps208;go_wp2_with (go_at_call 199;refine (F.o gr (by decide) 0).mono ?_;rintro r w1 ⟨h1,rfl⟩;rw [HE.o]at h1;subst h1);go_quiet (first | (go_at_call 199;exact Calls.quiet_of_same ((F.o f9 (by decide) _).mono fun _ _ h=>⟨h.1.trans (by rw [HT.o]),h.2⟩)))
    go_wp21
    go_ret;have W:(f.kind.kind==1&&f.kind.dj.toList.isEmpty)=mt l:=by
     rw [HA.o,ep];by_cases Z:f.kind.dj=⟨#[]⟩
     ·rw [Cx Z,Bool.eq_iff_iff];simp [Z]
     have:f.kind.dj.toList.isEmpty=false:=by
      cases hq:f.kind.dj.toList with
      | nil=>exact absurd (Eo hq) Z
      | cons _ _=>rfl
     rw [this];simp [Z]
    exact ⟨by rw [<-W];rfl,pa (pa (br _ _) _) _⟩
 have hd:(s==t)=false:=by simpa using hst
 have ac:decide (s=t)=false:=by simpa using hst
 clear X;go_enter func208,ntmps208;go_wp2_with (go_at_call 199;refine (F.o gr (by decide) 0).mono ?_;rintro r w1 ⟨h1,rfl⟩;rw [HE.o]at h1;subst h1);go_quiet (first | (go_at_call 199;exact Calls.quiet_of_same ((F.o f9 (by decide) _).mono fun _ _ h=>⟨h.1.trans (by rw [HT.o]),h.2⟩)))
 go_wp21
 go_ret;exact ⟨by rw [HA.o,ac];rfl,pa (pa (br _ _) _) _⟩
def di {α:Type} (p:α->α->Bool):List α->List α->Bool
 | [],[]=>true
 | x::l,y::m=>p x y&&di p l m
 | _,_=>false
theorem y9 {α:Type} (p:α->α->Bool):∀(l m:List α),l.length≠m.length->di p l m=false
 | [],[],h=>absurd rfl h
 | x::l,y::m,h=>by rw [di,y9 p l m (fun e=>h (by simp [e]))];simp
 | [],_::_,_=>rfl
 | _::_,[],_=>rfl
theorem zz (A:k<l.length) (D:k<m.length):di p (l.drop k) (m.drop k)=(p l[k] m[k]&&di p (l.drop (k+1)) (m.drop (k+1))):=by rw [drop_eq_getElem_cons A,drop_eq_getElem_cons D,di]
theorem Aa (A:¬k<l.length) (h:l.length=m.length):di p (l.drop k) (m.drop k)=true:=by rw [drop_of_length_le (by omega),drop_of_length_le (by omega),di]
theorem zd3 (a b:ByteArray):(a.toList==b.toList)=decide (a=b):=by rw [Bool.eq_iff_iff,beq_iff_eq,decide_eq_true_iff];exact ⟨Bu,fun h=>by rw [h]⟩
def gc (a b:Int):Bool:=a==b
def gn (a b:ByteArray):Bool:=a.toList==b.toList
def fq (a b:bv):Bool:=decide (a.name=b.name)&&ep a.kind b.kind
def ga (a b:dc):Bool:=(a.dj==b.dj)&&(a.uf==b.uf)
theorem zd4 (k D:Int) (c A:ByteArray):((k==D)&&(c.toList==A.toList))=ep ⟨k,c⟩ ⟨D,A⟩:=by rw [zd3,ep,Bool.eq_iff_iff];simp
theorem yq:(binOp BinOp.neq 123 (.agg #[.i x.kind,.string x.dj]) (.agg #[.i y.kind,.string y.dj])).run prog w=.ok (.bool (!ep x y)) w:=by
 have I:=underlying3;have F:=isAgg3;have L:=sizeOf3;have J:=underlying9;have G:=isAgg9;have N:=sizeOf9;have D:prog.underlying 123=some (.struct (prog.fieldsOf 123)):=by kernel_rfl
 have E:prog.stoodInHeld 123=false:=by kernel_rfl
 rw [run_neq_struct,show (10000:Nat)=9999+1 from rfl,run_equalIn_agg w 9999 123 _ _ D E];simp only [Program.fieldsOf,underlying123];go_simp;rw [<-zd4 x.kind y.kind x.dj y.dj];by_cases h1:x.kind=y.kind<;>by_cases A:x.dj.toList=y.dj.toList<;>simp [h1,A]
theorem wu:prog.eqGuardType prog.depth 123=false:=by kernel_rfl
theorem A9 (x y:dc) (w:World):(binOp BinOp.neq 233 (.agg #[.i x.dj,.i x.uf]) (.agg #[.i y.dj,.i y.uf])).run prog w=.ok (.bool (!ga x y)) w:=by
 have I:=underlying3;have F:=isAgg3;have L:=sizeOf3;have J:=underlying9;have G:=isAgg9;have N:=sizeOf9;have D:prog.underlying 233=some (.struct (prog.fieldsOf 233)):=by kernel_rfl
 have E:prog.stoodInHeld 233=false:=by kernel_rfl
 rw [run_neq_struct,show (10000:Nat)=9999+1 from rfl,run_equalIn_agg w 9999 233 _ _ D E];simp only [Program.fieldsOf,underlying233];go_simp;rw [ga];by_cases h1:x.dj=y.dj<;>by_cases A:x.uf=y.uf<;>simp [h1,A]
theorem zx:prog.eqGuardType prog.depth 233=false:=by kernel_rfl
theorem zo (x y:bv) (w:World):(binOp BinOp.neq 125 (.agg #[.string x.name,.i x.kind.kind,.string x.kind.dj]) (.agg #[.string y.name,.i y.kind.kind,.string y.kind.dj])).run prog w=.ok (.bool (!fq x y)) w:=by
 have N:=underlying3;have I:=isAgg3;have W:=sizeOf3;have O:=underlying9;have J:=isAgg9;have X:=sizeOf9;have V:=underlying123;have L:=isAgg123;have Y:=sizeOf123;have E:prog.underlying 123=some (.struct (prog.fieldsOf 123)):=by kernel_rfl
 have G:prog.stoodInHeld 123=false:=by kernel_rfl
 have D:prog.underlying 125=some (.struct (prog.fieldsOf 125)):=by kernel_rfl
 have F:prog.stoodInHeld 125=false:=by kernel_rfl
 rw [run_neq_struct,show (10000:Nat)=9999+1 from rfl,run_equalIn_agg w 9999 125 _ _ D F];simp only [Program.fieldsOf,underlying125];go_simp;rw [fq,<-zd3,<-zd4 x.kind.kind y.kind.kind x.kind.dj y.kind.dj];by_cases h0:x.name.toList=y.name.toList<;>by_cases h1:x.kind.kind=y.kind.kind<;>by_cases A:x.kind.dj.toList=y.kind.dj.toList<;>simp [h0,h1,A]
theorem xu:prog.eqGuardType prog.depth 125=false:=by kernel_rfl
theorem zd5 (l m:List Int) (V:SL 1 RI M w u l) (W:SL 1 RI M' w v m):
 Calls prog 259 #[u,v] w fun r w'=>r=.returned (.bool (di gc l m))/\∃n,w'=w.drewN n:=by
 have Z:=aj V;have N:=aj W;obtain ⟨au,cu,rfl,_,hl,-⟩:=V;obtain ⟨av,cv,rfl,_,O,-⟩:=W;unfold maxLen at hl O;by_cases A:l.length=m.length
 rotate_left
 ·have h0:¬(l.length:Int)=m.length:=by omega
  have Y:=aj (y9 gc l m A);clear A;go_enter func259,ntmps259;go_wp2
  go_ret;exact ⟨by rw [Y.o];rfl,0,rfl⟩
 rw [<-A]at N ⊢;have E:=aj A;clear O A;go_enter func259,ntmps259;go_wp2
 go_loopw [13] (fun i wr=>∃k:Nat,k<=l.length/\i=.i k/\Hid (di gc l m=di gc (l.drop k) (m.drop k))/\∃n,wr=w.drewN n) (fun i _=>l.length - (intOf i).toNat)
 case atStart=>exact ⟨0,n0q _,rfl,rfl,0,rfl⟩
 case round=>
  obtain ⟨k,hk,rfl,J,n,rfl⟩:=hrel;by_cases F:k<l.length
  ·have I:k<m.length:=by have:=E.o;omega
   obtain ⟨b,off,rfl,_,c0⟩:=Z.o.atI k F;obtain ⟨b2,X,rfl,_,d0⟩:=N.o.atI k I;have G:=aj (zz gc l m k F I);generalize l[k]=x at*;generalize m[k]=y at*;cases hs:gc x y
   ·have L:¬x=y:=by simpa [gc]using hs
    have D:Hid (di gc l m=false):=J.o.trans (by rw [G.o,hs,Bool.false_and]);go_wp2
    go_quiet (fail);go_wp2
    go_ret;exact ⟨by rw [D.o];rfl,_,drewN_drewN _ _ _⟩
   have L:x=y:=by simpa [gc]using hs
   have D:Hid (di gc l m=di gc (l.drop (k+1)) (m.drop (k+1))):=J.o.trans (by rw [G.o,hs,Bool.true_and]);go_wp2
   go_quiet (fail);go_wp2
   go_roundw
   case rel=>exact ⟨k+1,by omega,by go_num,D.o,_,rfl⟩
   case measure=>simp [intOf];omega
  have D:Hid (di gc l m=true):=J.o.trans (Aa gc l m k F E.o);go_wp2
  go_ret;exact ⟨by rw [D.o];rfl,n,rfl⟩
theorem zd6 (l m:List fw) (O:SL 2 RK M w u l) (V:SL 2 RK M' w v m):
 Calls prog 302 #[u,v] w fun r w'=>r=.returned (.bool (di ep l m))/\∃n,w'=w.drewN n:=by
 have Y:=aj O;have L:=aj V;obtain ⟨au,cu,rfl,_,Z,-⟩:=O;obtain ⟨av,cv,rfl,_,N,-⟩:=V;unfold maxLen at Z N;by_cases A:l.length=m.length
 rotate_left
 ·have h0:¬(l.length:Int)=m.length:=by omega
  have X:=aj (y9 ep l m A);clear A;go_enter func302,ntmps302;go_wp2
  go_ret;exact ⟨by rw [X.o];rfl,0,rfl⟩
 rw [<-A]at L ⊢;have E:=aj A;clear N A;go_enter func302,ntmps302;go_wp2
 go_loopw [13] (fun i wr=>∃k:Nat,k<=l.length/\i=.i k/\Hid (di ep l m=di ep (l.drop k) (m.drop k))/\∃n,wr=w.drewN n) (fun i _=>l.length - (intOf i).toNat)
 case atStart=>exact ⟨0,n0q _,rfl,rfl,0,rfl⟩
 case round=>
  obtain ⟨k,hk,rfl,J,n,rfl⟩:=hrel;by_cases F:k<l.length
  ·have I:k<m.length:=by have:=E.o;omega
   obtain ⟨b,off,rfl,_,c0,c1,_⟩:=Y.o.atK k F;obtain ⟨b2,W,rfl,_,d0,d1,_⟩:=L.o.atK k I;have G:=aj (zz ep l m k F I);have aa:=yq l[k] m[k];have ac:=wu;generalize l[k]=x at*;generalize m[k]=y at*;cases hs:ep x y
   ·have D:Hid (di ep l m=false):=J.o.trans (by rw [G.o,hs,Bool.false_and]);go_wp2
    go_quiet (fail);go_wp2
    go_ret;exact ⟨by rw [D.o];rfl,_,drewN_drewN _ _ _⟩
   have D:Hid (di ep l m=di ep (l.drop (k+1)) (m.drop (k+1))):=J.o.trans (by rw [G.o,hs,Bool.true_and]);go_wp2
   go_quiet (fail);go_wp2
   go_roundw
   case rel=>exact ⟨k+1,by omega,by go_num,D.o,_,rfl⟩
   case measure=>simp [intOf];omega
  have D:Hid (di ep l m=true):=J.o.trans (Aa ep l m k F E.o);go_wp2
  go_ret;exact ⟨by rw [D.o];rfl,n,rfl⟩
theorem zd7 (l m:List bv) (O:SL 3 RF M w u l) (V:SL 3 RF M' w v m):
 Calls prog 261 #[u,v] w fun r w'=>r=.returned (.bool (di fq l m))/\∃n,w'=w.drewN n:=by
 have Y:=aj O;have L:=aj V;obtain ⟨au,cu,rfl,_,Z,-⟩:=O;obtain ⟨av,cv,rfl,_,N,-⟩:=V;unfold maxLen at Z N;by_cases A:l.length=m.length
 rotate_left
 ·have h0:¬(l.length:Int)=m.length:=by omega
  have X:=aj (y9 fq l m A);clear A;go_enter func261,ntmps261;go_wp2
  go_ret;exact ⟨by rw [X.o];rfl,0,rfl⟩
 rw [<-A]at L ⊢;have E:=aj A;clear N A;go_enter func261,ntmps261;go_wp2
 go_loopw [13] (fun i wr=>∃k:Nat,k<=l.length/\i=.i k/\Hid (di fq l m=di fq (l.drop k) (m.drop k))/\∃n,wr=w.drewN n) (fun i _=>l.length - (intOf i).toNat)
 case atStart=>exact ⟨0,n0q _,rfl,rfl,0,rfl⟩
 case round=>
  obtain ⟨k,hk,rfl,J,n,rfl⟩:=hrel;by_cases F:k<l.length
  ·have I:k<m.length:=by have:=E.o;omega
   obtain ⟨b,off,rfl,_,c0,c1,c2,_⟩:=Y.o.atF k F;obtain ⟨b2,W,rfl,_,d0,d1,d2,_⟩:=L.o.atF k I;have G:=aj (zz fq l m k F I);have aa:=zo l[k] m[k];have ac:=xu;generalize l[k]=x at*;generalize m[k]=y at*;cases hs:fq x y
   ·have D:Hid (di fq l m=false):=J.o.trans (by rw [G.o,hs,Bool.false_and]);go_wp2
    go_quiet (fail);go_wp2
    go_ret;exact ⟨by rw [D.o];rfl,_,drewN_drewN _ _ _⟩
   have D:Hid (di fq l m=di fq (l.drop (k+1)) (m.drop (k+1))):=J.o.trans (by rw [G.o,hs,Bool.true_and]);go_wp2
   go_quiet (fail);go_wp2
   go_roundw
   case rel=>exact ⟨k+1,by omega,by go_num,D.o,_,rfl⟩
   case measure=>simp [intOf];omega
  have D:Hid (di fq l m=true):=J.o.trans (Aa fq l m k F E.o);go_wp2
  go_ret;exact ⟨by rw [D.o];rfl,n,rfl⟩
theorem zd8 (l m:List ByteArray) (V:SL 1 RS M w u l) (W:SL 1 RS M' w v m):
 Calls prog 263 #[u,v] w fun r w'=>r=.returned (.bool (di gn l m))/\∃n,w'=w.drewN n:=by
 have Z:=aj V;have N:=aj W;obtain ⟨au,cu,rfl,_,hl,-⟩:=V;obtain ⟨av,cv,rfl,_,O,-⟩:=W;unfold maxLen at hl O;by_cases A:l.length=m.length
 rotate_left
 ·have h0:¬(l.length:Int)=m.length:=by omega
  have Y:=aj (y9 gn l m A);clear A;go_enter func263,ntmps263;go_wp2
  go_ret;exact ⟨by rw [Y.o];rfl,0,rfl⟩
 rw [<-A]at N ⊢;have E:=aj A;clear O A;go_enter func263,ntmps263;go_wp2
 go_loopw [13] (fun i wr=>∃k:Nat,k<=l.length/\i=.i k/\Hid (di gn l m=di gn (l.drop k) (m.drop k))/\∃n,wr=w.drewN n) (fun i _=>l.length - (intOf i).toNat)
 case atStart=>exact ⟨0,n0q _,rfl,rfl,0,rfl⟩
 case round=>
  obtain ⟨k,hk,rfl,J,n,rfl⟩:=hrel;by_cases F:k<l.length
  ·have I:k<m.length:=by have:=E.o;omega
   obtain ⟨b,off,rfl,_,c0,_⟩:=Z.o.atS k F;obtain ⟨b2,X,rfl,_,d0,_⟩:=N.o.atS k I;have G:=aj (zz gn l m k F I);generalize l[k]=x at*;generalize m[k]=y at*;cases hs:gn x y
   ·have L:(x.toList==y.toList)=false:=hs;have D:Hid (di gn l m=false):=J.o.trans (by rw [G.o,hs,Bool.false_and]);go_wp2
    go_quiet (fail);go_wp2
    go_ret;exact ⟨by rw [D.o];rfl,_,drewN_drewN _ _ _⟩
   have L:(x.toList==y.toList)=true:=hs;have D:Hid (di gn l m=di gn (l.drop (k+1)) (m.drop (k+1))):=J.o.trans (by rw [G.o,hs,Bool.true_and]);go_wp2
   go_quiet (fail);go_wp2
   go_roundw
   case rel=>exact ⟨k+1,by omega,by go_num,D.o,_,rfl⟩
   case measure=>simp [intOf];omega
  have D:Hid (di gn l m=true):=J.o.trans (Aa gn l m k F E.o);go_wp2
  go_ret;exact ⟨by rw [D.o];rfl,n,rfl⟩
theorem zd9 (l m:List dc) (O:SL 2 RT M w u l) (V:SL 2 RT M' w v m):
 Calls prog 265 #[u,v] w fun r w'=>r=.returned (.bool (di ga l m))/\∃n,w'=w.drewN n:=by
 have Y:=aj O;have L:=aj V;obtain ⟨au,cu,rfl,_,Z,-⟩:=O;obtain ⟨av,cv,rfl,_,N,-⟩:=V;unfold maxLen at Z N;by_cases A:l.length=m.length
 rotate_left
 ·have h0:¬(l.length:Int)=m.length:=by omega
  have X:=aj (y9 ga l m A);clear A;go_enter func265,ntmps265;go_wp2
  go_ret;exact ⟨by rw [X.o];rfl,0,rfl⟩
 rw [<-A]at L ⊢;have E:=aj A;clear N A;go_enter func265,ntmps265;go_wp2
 go_loopw [13] (fun i wr=>∃k:Nat,k<=l.length/\i=.i k/\Hid (di ga l m=di ga (l.drop k) (m.drop k))/\∃n,wr=w.drewN n) (fun i _=>l.length - (intOf i).toNat)
 case atStart=>exact ⟨0,n0q _,rfl,rfl,0,rfl⟩
 case round=>
  obtain ⟨k,hk,rfl,J,n,rfl⟩:=hrel;by_cases F:k<l.length
  ·have I:k<m.length:=by have:=E.o;omega
   obtain ⟨b,off,rfl,_,c0,c1⟩:=Y.o.atT k F;obtain ⟨b2,W,rfl,_,d0,d1⟩:=L.o.atT k I;have G:=aj (zz ga l m k F I);have aa:=A9 l[k] m[k];have ac:=zx;generalize l[k]=x at*;generalize m[k]=y at*;cases hs:ga x y
   ·have D:Hid (di ga l m=false):=J.o.trans (by rw [G.o,hs,Bool.false_and]);go_wp2
    go_quiet (fail);go_wp2
    go_ret;exact ⟨by rw [D.o];rfl,_,drewN_drewN _ _ _⟩
   have D:Hid (di ga l m=di ga (l.drop (k+1)) (m.drop (k+1))):=J.o.trans (by rw [G.o,hs,Bool.true_and]);go_wp2
   go_quiet (fail);go_wp2
   go_roundw
   case rel=>exact ⟨k+1,by omega,by go_num,D.o,_,rfl⟩
   case measure=>simp [intOf];omega
  have D:Hid (di ga l m=true):=J.o.trans (Aa ga l m k F E.o);go_wp2
  go_ret;exact ⟨by rw [D.o];rfl,n,rfl⟩
theorem zea (l m:List (List bv)) (V:SL 1 (la 3 RF) M w u l) (W:SL 1 (la 3 RF) M' w v m):
 Calls prog 260 #[u,v,.func (.func 261) #[] #[]] w fun r w'=>r=.returned (.bool (di (di fq) l m))/\∃n,w'=w.drewN n:=by
 have HU:=aj V;have N:=aj W;obtain ⟨au,cu,rfl,_,hl,-⟩:=V;obtain ⟨av,cv,rfl,_,O,-⟩:=W;unfold maxLen at hl O;by_cases A:l.length=m.length
 rotate_left
 ·have h0:¬(l.length:Int)=m.length:=by omega
  have HR:=aj (y9 (di fq) l m A);clear A;go_enter func260,ntmps260;go_wp2
  go_ret;exact ⟨by rw [HR.o];rfl,0,rfl⟩
 rw [<-A]at N ⊢;have E:=aj A;clear O A;go_enter func260,ntmps260;go_wp2
 go_loopw [17] (fun i wr=>∃k:Nat,k<=l.length/\i=.i k/\Hid (di (di fq) l m=di (di fq) (l.drop k) (m.drop k))/\∃n,wr=w.drewN n) (fun i _=>l.length - (intOf i).toNat)
 case atStart=>exact ⟨0,n0q _,rfl,rfl,0,rfl⟩
 case round=>
  obtain ⟨k,hk,rfl,L,n,rfl⟩:=hrel;by_cases F:k<l.length
  ·have I:k<m.length:=by have:=E.o;omega
   obtain ⟨b,off,a1,k1,rfl,_,c0,Y⟩:=HU.o.atSl k F;obtain ⟨b2,X,a2,k2,rfl,_,d0,Z⟩:=N.o.atSl k I;have G:=aj (zz (di fq) l m k F I);generalize l[k]=x at*;generalize m[k]=y at*;have J:=aj (zd7 (w.drewN n) M M' _ _ x y (Y.kept ⟨nlq _,fun _ _ _=>rfl⟩ fun _ _ h=>h) (Z.kept ⟨nlq _,fun _ _ _=>rfl⟩ fun _ _ h=>h));clear Y Z;cases hs:di fq x y
   ·rw [hs]at J;have D:Hid (di (di fq) l m=false):=L.o.trans (by rw [G.o,hs,Bool.false_and]);clear hs;go_wp2_with (first | (go_at_call 261;refine J.o.mono ?_;rintro r w7 ⟨rfl,n7,rfl⟩));go_ret;exact ⟨by rw [D.o];rfl,_,rfl⟩
   rw [hs]at J;have D:Hid (di (di fq) l m=di (di fq) (l.drop (k+1)) (m.drop (k+1))):=L.o.trans (by rw [G.o,hs,Bool.true_and]);clear hs;go_wp2_with (first | (go_at_call 261;refine J.o.mono ?_;rintro r w7 ⟨rfl,n7,rfl⟩));go_roundw
   case rel=>exact ⟨k+1,by omega,by go_num,D.o,_,rfl⟩
   case measure=>simp [intOf];omega
  have D:Hid (di (di fq) l m=true):=L.o.trans (Aa (di fq) l m k F E.o);go_wp2
  go_ret;exact ⟨by rw [D.o];rfl,n,rfl⟩
theorem zeb (l m:List (List ByteArray)) (V:SL 1 (la 1 RS) M w u l) (W:SL 1 (la 1 RS) M' w v m):
 Calls prog 262 #[u,v,.func (.func 263) #[] #[]] w fun r w'=>r=.returned (.bool (di (di gn) l m))/\∃n,w'=w.drewN n:=by
 have HU:=aj V;have N:=aj W;obtain ⟨au,cu,rfl,_,hl,-⟩:=V;obtain ⟨av,cv,rfl,_,O,-⟩:=W;unfold maxLen at hl O;by_cases A:l.length=m.length
 rotate_left
 ·have h0:¬(l.length:Int)=m.length:=by omega
  have HR:=aj (y9 (di gn) l m A);clear A;go_enter func262,ntmps262;go_wp2
  go_ret;exact ⟨by rw [HR.o];rfl,0,rfl⟩
 rw [<-A]at N ⊢;have E:=aj A;clear O A;go_enter func262,ntmps262;go_wp2
 go_loopw [17] (fun i wr=>∃k:Nat,k<=l.length/\i=.i k/\Hid (di (di gn) l m=di (di gn) (l.drop k) (m.drop k))/\∃n,wr=w.drewN n) (fun i _=>l.length - (intOf i).toNat)
 case atStart=>exact ⟨0,n0q _,rfl,rfl,0,rfl⟩
 case round=>
  obtain ⟨k,hk,rfl,L,n,rfl⟩:=hrel;by_cases F:k<l.length
  ·have I:k<m.length:=by have:=E.o;omega
   obtain ⟨b,off,a1,k1,rfl,_,c0,Y⟩:=HU.o.atSl k F;obtain ⟨b2,X,a2,k2,rfl,_,d0,Z⟩:=N.o.atSl k I;have G:=aj (zz (di gn) l m k F I);generalize l[k]=x at*;generalize m[k]=y at*;have J:=aj (zd8 (w.drewN n) M M' _ _ x y (Y.kept ⟨nlq _,fun _ _ _=>rfl⟩ fun _ _ h=>h) (Z.kept ⟨nlq _,fun _ _ _=>rfl⟩ fun _ _ h=>h));clear Y Z;cases hs:di gn x y
   ·rw [hs]at J;have D:Hid (di (di gn) l m=false):=L.o.trans (by rw [G.o,hs,Bool.false_and]);clear hs;go_wp2_with (first | (go_at_call 263;refine J.o.mono ?_;rintro r w7 ⟨rfl,n7,rfl⟩));go_ret;exact ⟨by rw [D.o];rfl,_,rfl⟩
   rw [hs]at J;have D:Hid (di (di gn) l m=di (di gn) (l.drop (k+1)) (m.drop (k+1))):=L.o.trans (by rw [G.o,hs,Bool.true_and]);clear hs;go_wp2_with (first | (go_at_call 263;refine J.o.mono ?_;rintro r w7 ⟨rfl,n7,rfl⟩));go_roundw
   case rel=>exact ⟨k+1,by omega,by go_num,D.o,_,rfl⟩
   case measure=>simp [intOf];omega
  have D:Hid (di (di gn) l m=true):=L.o.trans (Aa (di gn) l m k F E.o);go_wp2
  go_ret;exact ⟨by rw [D.o];rfl,n,rfl⟩
theorem zec (l m:List (List dc)) (V:SL 1 (la 2 RT) M w u l) (W:SL 1 (la 2 RT) M' w v m):
 Calls prog 264 #[u,v,.func (.func 265) #[] #[]] w fun r w'=>r=.returned (.bool (di (di ga) l m))/\∃n,w'=w.drewN n:=by
 have HU:=aj V;have N:=aj W;obtain ⟨au,cu,rfl,_,hl,-⟩:=V;obtain ⟨av,cv,rfl,_,O,-⟩:=W;unfold maxLen at hl O;by_cases A:l.length=m.length
 rotate_left
 ·have h0:¬(l.length:Int)=m.length:=by omega
  have HR:=aj (y9 (di ga) l m A);clear A;go_enter func264,ntmps264;go_wp2
  go_ret;exact ⟨by rw [HR.o];rfl,0,rfl⟩
 rw [<-A]at N ⊢;have E:=aj A;clear O A;go_enter func264,ntmps264;go_wp2
 go_loopw [17] (fun i wr=>∃k:Nat,k<=l.length/\i=.i k/\Hid (di (di ga) l m=di (di ga) (l.drop k) (m.drop k))/\∃n,wr=w.drewN n) (fun i _=>l.length - (intOf i).toNat)
 case atStart=>exact ⟨0,n0q _,rfl,rfl,0,rfl⟩
 case round=>
  obtain ⟨k,hk,rfl,L,n,rfl⟩:=hrel;by_cases F:k<l.length
  ·have I:k<m.length:=by have:=E.o;omega
   obtain ⟨b,off,a1,k1,rfl,_,c0,Y⟩:=HU.o.atSl k F;obtain ⟨b2,X,a2,k2,rfl,_,d0,Z⟩:=N.o.atSl k I;have G:=aj (zz (di ga) l m k F I);generalize l[k]=x at*;generalize m[k]=y at*;have J:=aj (zd9 (w.drewN n) M M' _ _ x y (Y.kept ⟨nlq _,fun _ _ _=>rfl⟩ fun _ _ h=>h) (Z.kept ⟨nlq _,fun _ _ _=>rfl⟩ fun _ _ h=>h));clear Y Z;cases hs:di ga x y
   ·rw [hs]at J;have D:Hid (di (di ga) l m=false):=L.o.trans (by rw [G.o,hs,Bool.false_and]);clear hs;go_wp2_with (first | (go_at_call 265;refine J.o.mono ?_;rintro r w7 ⟨rfl,n7,rfl⟩));go_ret;exact ⟨by rw [D.o];rfl,_,rfl⟩
   rw [hs]at J;have D:Hid (di (di ga) l m=di (di ga) (l.drop (k+1)) (m.drop (k+1))):=L.o.trans (by rw [G.o,hs,Bool.true_and]);clear hs;go_wp2_with (first | (go_at_call 265;refine J.o.mono ?_;rintro r w7 ⟨rfl,n7,rfl⟩));go_roundw
   case rel=>exact ⟨k+1,by omega,by go_num,D.o,_,rfl⟩
   case measure=>simp [intOf];omega
  have D:Hid (di (di ga) l m=true):=L.o.trans (Aa (di ga) l m k F E.o);go_wp2
  go_ret;exact ⟨by rw [D.o];rfl,n,rfl⟩
structure ax where
 am:List aq
 bj:List Int
 fields:List (List bv)
 names:List (List ByteArray)
 ba:List (List dc)
structure nh (M:Nat->Prop) (w:World) (kC kS kF kN kT:Value) (d:ax):Prop where
 C:SL 4 RC M w kC d.am
 S:SL 1 RI M w kS d.bj
 F:SL 1 (la 3 RF) M w kF d.fields
 N:SL 1 (la 1 RS) M w kN d.names
 T:SL 1 (la 2 RT) M w kT d.ba
theorem nh.kept {M:Nat->Prop} {w w':World} {D I E G J:Value} {d:ax} (h:nh M w D I E G J d) (A:Kp M w w'):nh M w' D I E G J d:=
 ⟨h.C.keptC A,h.S.keptI A,h.F.keptSl A fun _ _ h=>h,h.N.keptSl A fun _ _ h=>h,h.T.keptSl A fun _ _ h=>h⟩
def sq (l:List aq) (d:ax):Bool:=
 di gc ((range l.length).map (dv l)) d.bj&&di (di fq) ((range l.length).map (fieldsOf l)) d.fields&&
  di (di gn) ((range l.length).map (fg l)) d.names&&di (di ga) ((range l.length).map (fd l)) d.ba
theorem zed (l:List aq) (vC vS vF vN vT vL:Value) (Bm:Nat) (I:uh B w b l vC vS vF vN vT vL Bm) (O X V W Y:Value) (d:ax) (hk:nh (· <B) w O X V W Y d):
 Calls prog 216 #[.p b,.agg #[O,X,V,W,Y]] w fun r w'=>r=.returned (.bool (sq l d))/\Bl w w':=by
 have hb:b<w.heap.size:=ll3 I.bB I.le;have c1:=bg I.blk 1 (x:=vS) rfl;have c2:=bg I.blk 2 (x:=vF) rfl;have c3:=bg I.blk 3 (x:=vN) rfl;have c4:=bg I.blk 4 (x:=vT) rfl;have J:Bl w (w.alloc (.cells #[O,X,V,W,Y] 36)):=(br _ _).alloc (nlq _) _;have E:=aj J;have L:=J.mono I.le;have A:=hk.kept (Kp.below L);have D:=I.below L;have G:∀n,Kp (· <B) (w.alloc (.cells #[O,X,V,W,Y] 36)) ((w.alloc (.cells #[O,X,V,W,Y] 36)).drewN n):=fun n=>⟨nlq _,fun _ _ _=>rfl⟩;generalize hS:(range l.length).map (dv l)=lS at*;generalize hF:(range l.length).map (fieldsOf l)=lF at*;generalize hN:(range l.length).map (fg l)=lN at*;generalize hT:(range l.length).map (fd l)=lT at*;have sS:SL 1 RI (· <B) _ vS lS:=hS ▸ D.sS;have sF:SL 1 (la 3 RF) (· <B) _ vF lF:=hF ▸ D.sF;have sN:SL 1 (la 1 RS) (· <B) _ vN lN:=hN ▸ D.sN;have sT:SL 1 (la 2 RT) (· <B) _ vT lT:=hT ▸ D.sT;have HM:Hid (sq l d=(di gc lS d.bj&&di (di fq) lF d.fields&&di (di gn) lN d.names&&di (di ga) lT d.ba)):=by show sq l d=_;rw [sq,hS,hF,hN,hT]
 have Z:=aj (fun n=>zd5 _ _ _ _ _ _ _ (sS.keptI (G n)) (A.S.keptI (G n)));have H2:=aj (fun n=>zea _ _ _ _ _ _ _ (sF.keptSl (G n) fun _ _ h=>h) (A.F.keptSl (G n) fun _ _ h=>h));have H3:=aj (fun n=>zeb _ _ _ _ _ _ _ (sN.keptSl (G n) fun _ _ h=>h) (A.N.keptSl (G n) fun _ _ h=>h));have H4:=aj (fun n=>zec _ _ _ _ _ _ _ (sT.keptSl (G n) fun _ _ h=>h) (A.T.keptSl (G n) fun _ _ h=>h));clear I hk D A sS sF sN sT G hS hF hN hT J L;generalize di gc lS d.bj=e1 at*;generalize di (di fq) lF d.fields=e2 at*;generalize di (di gn) lN d.names=e3 at*;generalize di (di ga) lT d.ba=e4 at*;cases e1
 ·go_enter func216,ntmps216
  go_wp21
  go_quiet (first | (go_at_call 259;exact Calls.quiet_of (Z.o _)) | (go_at_call 260;exact Calls.quiet_of (H2.o _)) | (go_at_call 262;exact Calls.quiet_of (H3.o _)) | (go_at_call 264;exact Calls.quiet_of (H4.o _)))
  go_wp21
  go_ret;exact ⟨by rw [HM.o];rfl,pa E.o _⟩
 cases e2
 ·go_enter func216,ntmps216
  go_wp21
  go_quiet (first | (go_at_call 259;exact Calls.quiet_of (Z.o _)) | (go_at_call 260;exact Calls.quiet_of (H2.o _)) | (go_at_call 262;exact Calls.quiet_of (H3.o _)) | (go_at_call 264;exact Calls.quiet_of (H4.o _)))
  go_wp21
  go_ret;exact ⟨by rw [HM.o];rfl,pa E.o _⟩
 cases e3
 ·go_enter func216,ntmps216
  go_wp21
  go_quiet (first | (go_at_call 259;exact Calls.quiet_of (Z.o _)) | (go_at_call 260;exact Calls.quiet_of (H2.o _)) | (go_at_call 262;exact Calls.quiet_of (H3.o _)) | (go_at_call 264;exact Calls.quiet_of (H4.o _)))
  go_wp21
  go_ret;exact ⟨by rw [HM.o];rfl,pa E.o _⟩
 go_enter func216,ntmps216
 go_wp21
 go_quiet (first | (go_at_call 259;exact Calls.quiet_of (Z.o _)) | (go_at_call 260;exact Calls.quiet_of (H2.o _)) | (go_at_call 262;exact Calls.quiet_of (H3.o _)) | (go_at_call 264;exact Calls.quiet_of (H4.o _)))
 go_wp21
 go_ret;exact ⟨by rw [HM.o];rfl,pa E.o _⟩
end
variable {n:Nat} {fs:List (List bv)} {ws:List Int} {A D:Int}
structure ar where
 ab:List Int
 ae:Int
 old:Int
 bk:Int
 be:Int
 ap:List Int
 next:Int
structure bq where
 loc:Int
 tag:Int
 len:Int
 hash:Int
def wd (ws:List Int) (i:Int):Int:=ws[i.toNat]?.getD 0
theorem qm {i:Nat} (h:i<ws.length):wd ws i=ws[i]:=by simp [wd,h]
def dx (n:Nat) (tag:Int):Bool:=decide (1<=tag)&&decide (tag<3+n)
def iu (fs:List (List bv)) (tag:Int):List bv:=fs[(tag - 3).toNat]?.getD []
def da (fs:List (List bv)) (tag len:Int):Bool:=if 3<=tag then decide (len=(iu fs tag).length) else decide (0<=len)&&decide (len<=500)
def bp (ws:List Int) (loc:Int):bq:=⟨loc,wd ws loc,wd ws (loc+1),wd ws (loc+2)⟩
def bq.fin (t:bq):Int:=t.loc+3+t.len
def je (n:Nat) (fs:List (List bv)) (ws:List Int) (loc top:Int):Bool:=
 decide (loc+3<=top)&&dx n (wd ws loc)&&da fs (wd ws loc) (wd ws (loc+1))&&decide ((bp ws loc).fin<=top)
def jp (n:Nat) (fs:List (List bv)) (ws:List Int) (top:Int):Nat->Int->Option (List bq)
 | 0,_=>some []
 | f+1,loc=>if loc<top then (if je n fs ws loc top=true then (jp n fs ws top f (bp ws loc).fin).map (bp ws loc:: ·) else none) else some []
def cw (n:Nat) (fs:List (List bv)) (ws:List Int) (loc top:Int):Option (List bq):=jp n fs ws top (top - loc).toNat loc
theorem yb {len:Int} (h:da fs A len=true):0<=len:=by
 unfold da at h;split at h
 ·have:=of_decide_eq_true h;omega
 rw [Bool.and_eq_true]at h;exact of_decide_eq_true h.1
theorem Cs (h:je n fs ws A D=true):A+3<=(bp ws A).fin/\(bp ws A).fin<=D/\dx n (wd ws A)=true/\da fs (wd ws A) (wd ws (A+1))=true:=by unfold je at h;simp only [Bool.and_eq_true]at h;obtain ⟨⟨⟨h1,F⟩,E⟩,G⟩:=h;have I:=yb E;exact ⟨by show A+3<=A+3+wd ws (A+1);omega,of_decide_eq_true G,F,E⟩
theorem zeh (n:Nat) (fs:List (List bv)) (ws:List Int) (A:Int):∀(f:Nat) (loc:Int),A - loc<=f->jp n fs ws A (f+1) loc=jp n fs ws A f loc
 | 0,loc,h=>by rw [jp,jp,if_neg (by omega)]
 | f+1,loc,h=>by
   by_cases D:loc<A
   ·by_cases E:je n fs ws loc A=true
    ·have I:=(Cs E).1;have F:jp n fs ws A (f+1+1) loc=(jp n fs ws A (f+1) (bp ws loc).fin).map (bp ws loc:: ·):=by rw [jp,if_pos D,if_pos E]
     have G:jp n fs ws A (f+1) loc=(jp n fs ws A f (bp ws loc).fin).map (bp ws loc:: ·):=by rw [jp,if_pos D,if_pos E]
     rw [F,G,zeh n fs ws A f _ (by omega)]
    rw [jp,if_pos D,if_neg E,jp,if_pos D,if_neg E]
   rw [jp,if_neg D,jp,if_neg D]
theorem zei (n:Nat) (fs:List (List bv)) (ws:List Int) (D:Int) (A:Int) (f g:Nat) (h:D - A<=f) (E:f<=g):jp n fs ws D g A=jp n fs ws D f A:=by
 obtain ⟨k,rfl⟩:=Nat.exists_eq_add_of_le E;induction k with
 | zero=>rfl
 | succ k ih=>rw [show f+(k+1)=f+k+1 by omega,zeh _ _ _ _ _ _ (by omega),ih (by omega)]
theorem Dw (h:¬A<D):cw n fs ws A D=some []:=by
 unfold cw;cases (D - A).toNat with
 | zero=>rfl
 | succ k=>rw [jp,if_neg h]
theorem Ep (h:A<D) (E:je n fs ws A D=true):cw n fs ws A D=(cw n fs ws (bp ws A).fin D).map (bp ws A:: ·):=by have G:=(Cs E).1;unfold cw;obtain ⟨k,F⟩:∃k,(D - A).toNat=k+1:=⟨(D - A).toNat - 1,by omega⟩;rw [F,jp,if_pos h,if_pos E,zei _ _ _ _ _ (D - (bp ws A).fin).toNat k (by omega) (by omega)]
theorem Cy (h:A<D) (F:¬je n fs ws A D=true):cw n fs ws A D=none:=by unfold cw;obtain ⟨k,E⟩:∃k,(D - A).toNat=k+1:=⟨(D - A).toNat - 1,by omega⟩;rw [E,jp,if_pos h,if_neg F]
abbrev H7 (a:Option Addr) (i:Nat) (b:Option Addr) (j:Nat) (h:ar):Array Value:=#[.slice a h.ab.length i,.i h.ae,.i h.old,.i h.bk,.i h.be,.slice b h.ap.length j,.i h.next]
abbrev K5 (a:Option Addr) (i:Nat) (b:Option Addr) (j:Nat) (c:Option Addr) (k:Nat) (e:Option Addr) (l:Nat) (f:Option Addr) (m:Nat) (d:ax):Array Value:=#[.slice a d.am.length i,.slice b d.bj.length j,.slice c d.fields.length k,.slice e d.names.length l,.slice f d.ba.length m]
section
open Go.Maps
variable (w:World) (M M':Nat->Prop) (u v:Value)
theorem zoi (l m:List fw) (O:SL 2 RK M w u l) (V:SL 2 RK M' w v m):
 Calls prog 227 #[u,v] w fun r w'=>r=.returned (.bool (di ep l m))/\∃n,w'=w.drewN n:=by
 have Y:=aj O;have L:=aj V;obtain ⟨au,cu,rfl,_,Z,-⟩:=O;obtain ⟨av,cv,rfl,_,N,-⟩:=V;unfold maxLen at Z N;by_cases A:l.length=m.length
 rotate_left
 ·have h0:¬(l.length:Int)=m.length:=by omega
  have X:=aj (y9 ep l m A);clear A;go_enter func227,ntmps227;go_wp2
  go_ret;exact ⟨by rw [X.o];rfl,0,rfl⟩
 rw [<-A]at L ⊢;have E:=aj A;clear N A;go_enter func227,ntmps227;go_wp2
 go_loopw [5] (fun i wr=>∃k:Nat,k<=l.length/\i=.i k/\Hid (di ep l m=di ep (l.drop k) (m.drop k))/\∃n,wr=w.drewN n) (fun i _=>l.length - (intOf i).toNat)
 case atStart=>exact ⟨0,n0q _,rfl,rfl,0,rfl⟩
 case round=>
  obtain ⟨k,hk,rfl,J,n,rfl⟩:=hrel;by_cases F:k<l.length
  ·have I:k<m.length:=by have:=E.o;omega
   obtain ⟨b,off,rfl,_,c0,c1,_⟩:=Y.o.atK k F;obtain ⟨b2,W,rfl,_,d0,d1,_⟩:=L.o.atK k I;have G:=aj (zz ep l m k F I);have aa:=yq l[k] m[k];have ac:=wu;generalize l[k]=x at*;generalize m[k]=y at*;cases hs:ep x y
   ·have D:Hid (di ep l m=false):=J.o.trans (by rw [G.o,hs,Bool.false_and]);go_wp2
    go_quiet (fail);go_wp2
    go_ret;exact ⟨by rw [D.o];rfl,_,drewN_drewN _ _ _⟩
   have D:Hid (di ep l m=di ep (l.drop (k+1)) (m.drop (k+1))):=J.o.trans (by rw [G.o,hs,Bool.true_and]);go_wp2
   go_quiet (fail);go_wp2
   go_roundw
   case rel=>exact ⟨k+1,by omega,by go_num,D.o,_,rfl⟩
   case measure=>simp [intOf];omega
  have D:Hid (di ep l m=true):=J.o.trans (Aa ep l m k F E.o);go_wp2
  go_ret;exact ⟨by rw [D.o];rfl,n,rfl⟩
theorem zoj (l m:List bv) (O:SL 3 RF M w u l) (V:SL 3 RF M' w v m):
 Calls prog 186 #[u,v] w fun r w'=>r=.returned (.bool (di fq l m))/\∃n,w'=w.drewN n:=by
 have Y:=aj O;have L:=aj V;obtain ⟨au,cu,rfl,_,Z,-⟩:=O;obtain ⟨av,cv,rfl,_,N,-⟩:=V;unfold maxLen at Z N;by_cases A:l.length=m.length
 rotate_left
 ·have h0:¬(l.length:Int)=m.length:=by omega
  have X:=aj (y9 fq l m A);clear A;go_enter func186,ntmps186;go_wp2
  go_ret;exact ⟨by rw [X.o];rfl,0,rfl⟩
 rw [<-A]at L ⊢;have E:=aj A;clear N A;go_enter func186,ntmps186;go_wp2
 go_loopw [5] (fun i wr=>∃k:Nat,k<=l.length/\i=.i k/\Hid (di fq l m=di fq (l.drop k) (m.drop k))/\∃n,wr=w.drewN n) (fun i _=>l.length - (intOf i).toNat)
 case atStart=>exact ⟨0,n0q _,rfl,rfl,0,rfl⟩
 case round=>
  obtain ⟨k,hk,rfl,J,n,rfl⟩:=hrel;by_cases F:k<l.length
  ·have I:k<m.length:=by have:=E.o;omega
   obtain ⟨b,off,rfl,_,c0,c1,c2,_⟩:=Y.o.atF k F;obtain ⟨b2,W,rfl,_,d0,d1,d2,_⟩:=L.o.atF k I;have G:=aj (zz fq l m k F I);have aa:=zo l[k] m[k];have ac:=xu;generalize l[k]=x at*;generalize m[k]=y at*;cases hs:fq x y
   ·have D:Hid (di fq l m=false):=J.o.trans (by rw [G.o,hs,Bool.false_and]);go_wp2
    go_quiet (fail);go_wp2
    go_ret;exact ⟨by rw [D.o];rfl,_,drewN_drewN _ _ _⟩
   have D:Hid (di fq l m=di fq (l.drop (k+1)) (m.drop (k+1))):=J.o.trans (by rw [G.o,hs,Bool.true_and]);go_wp2
   go_quiet (fail);go_wp2
   go_roundw
   case rel=>exact ⟨k+1,by omega,by go_num,D.o,_,rfl⟩
   case measure=>simp [intOf];omega
  have D:Hid (di fq l m=true):=J.o.trans (Aa fq l m k F E.o);go_wp2
  go_ret;exact ⟨by rw [D.o];rfl,n,rfl⟩
end
end Go.Proofs.YtjdnmblggdobgaaGreat
