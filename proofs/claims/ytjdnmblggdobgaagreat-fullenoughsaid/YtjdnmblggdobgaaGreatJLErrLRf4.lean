import Derived.Test.YtjdnmblggdobgaaGreatJLHasLAsk
import Derived.Laws.StructEq
set_option maxHeartbeats 4000000
namespace Go.Proofs.YtjdnmblggdobgaaGreat
open Go.RowKit Go.Maps Tryz
theorem Ab (k D:Int) (c A:ByteArray) (w:World):(binOp BinOp.eql 123 (.agg #[.i k,.string c]) (.agg #[.i D,.string A])).run prog w=.ok (.bool ((k==D)&&(c.toList==A.toList))) w:=by
 have L:=underlying3;have I:=isAgg3;have O:=sizeOf3;have N:=underlying9;have J:=isAgg9;have V:=sizeOf9;have F:prog.underlying 123=some (.struct (prog.fieldsOf 123)):=by kernel_rfl
 have G:prog.stoodInHeld 123=false:=by kernel_rfl
 rw [run_eql_struct,show (10000:Nat)=9999+1 from rfl,run_equalIn_agg w 9999 123 _ _ F G];simp only [Program.fieldsOf,underlying123];go_simp;by_cases h1:k=D<;>by_cases E:c.toList=A.toList<;>simp [h1,E]
theorem wh:prog.eqGuardType prog.depth 123=false:=by kernel_rfl
theorem zd8 (w:World) (B b:Nat) (l:List aq) (vC vS vF vN vT vL:Value) (Y:Nat) (A:ti B w b l vC vS vF vN vT vL Y) (he:0<=num l gn):
 Calls prog 208 #[.p b] w fun r w'=>r=.returned (.bool (lq l))/\Bl w w':=by
 have L:∀n,iu (w.drewN n) Y l:=fun n=>A.nm.below (o7 (br w.heap.size w) n) A.nm.lt;have c5:=bp A.blk 5 (x:=.map (some Y)) rfl;have c1:=bp A.blk 1 (x:=vS) rfl;have c2:=bp A.blk 2 (x:=vF) rfl;have F:Hid (∀s,s.size<=maxLen->∀n,Calls prog 199 #[.p b,.string s] (w.drewN n) fun r w'=>r=.returned (.i (num l s))/\w'=w.drewN n):=fun s hs n=>zcg _ b Y l s c5 (L n) hs;obtain ⟨n,hn⟩:=Int.eq_ofNat_of_zero_le he;have ao:n<l.length:=by have:=(Ee l gn).2;omega
 obtain ⟨t,ht⟩:∃t,num l fw=t:=⟨_,rfl⟩;have E:=Ee l fw;have D:=Ee l (cd l n).bv;rw [ht]at E;have HA:Hid (lq l=(decide (dj l n=t)&&(match fieldsOf l n with | []=>false | f::_=>d7 f.kind ⟨1,⟨#[]⟩⟩))):=by show lq l=_;unfold lq;rw [ht,hn];rfl
 have J:((List.range l.length).map (dj l)).length=l.length:=by simp
 have I:((List.range l.length).map (fieldsOf l)).length=l.length:=by simp
 obtain ⟨aS,cS,V,-⟩:=A.sS;obtain ⟨aF,cF,O,-⟩:=A.sF;rw [J]at V;rw [I]at O;subst V O;obtain ⟨bS,oS,rfl,ai,e1⟩:=A.sS.atI n (by omega);obtain ⟨bF,oF,aL,cL,rfl,ah,G,X⟩:=A.sF.atSl n (by omega);have g1:((List.range l.length).map (dj l))[n]'(by omega)=dj l n:=by simp
 have g2:((List.range l.length).map (fieldsOf l))[n]'(by omega)=fieldsOf l n:=by simp
 rw [g1]at e1;rw [g2]at G X;have N:dj l n=num l (cd l n).bv:=rfl;rw [<-N]at D;clear g1 g2 J I N A c5 L;generalize dj l n=s at*;generalize fieldsOf l n=fs at*;have HE:Hid (num l gn=n):=hn;have HT:Hid (num l fw=t):=ht;have av:=E.1;have aw:=E.2;have ap:=D.1;have au:=D.2;have ad:(0:Int)<=n:=by omega
 have af:(n:Int)<l.length:=by omega
 clear hn ht he E D;by_cases hst:s=t
 ·subst hst;cases fs with
  | nil=>
    have aa:w.cell? ⟨bF,oF+n,none⟩=some (.slice aL 0 cL):=G;clear G X;go_enter func208,ntmps208;go_wp2_with (go_at_call 199;refine (F.o gn (by decide) 0).mono ?_;rintro r w1 ⟨h1,rfl⟩;rw [HE.o]at h1;subst h1);go_quiet (first | (go_at_call 199;exact Calls.quiet_of_same ((F.o fw (by decide) _).mono fun _ _ h=>⟨h.1.trans (by rw [HT.o]),h.2⟩)));go_wp2_with fail;go_ret;exact ⟨by rw [HA.o];simp,o7 (o7 (br _ _) _) _⟩
  | cons f fs=>
    obtain ⟨bf,of,rfl,aj,y0,y1,y2,z1,z2⟩:=X.atF 0 (by simp);have aa:w.cell? ⟨bF,oF+n,none⟩=some (.slice (some ⟨bf,of,none⟩) (fs.length+1) cL):=G;have ay:w.cell? ⟨bf,of+1,none⟩=some (.i f.kind.kind):=by simpa using y1
    have az:w.cell? ⟨bf,of+2,none⟩=some (.string f.kind.de):=by simpa using y2
    have ax:f.kind.de.size<=maxLen:=z2;have ak:(0:Int)<((fs.length+1:Nat):Int):=by omega
    clear G X y0 y1 y2 z1 z2;have al:=Ab f.kind.kind 1 f.kind.de ⟨#[]⟩;have an:=wh;go_enter func208,ntmps208;go_wp2_with (go_at_call 199;refine (F.o gn (by decide) 0).mono ?_;rintro r w1 ⟨h1,rfl⟩;rw [HE.o]at h1;subst h1);go_quiet (first | (go_at_call 199;exact Calls.quiet_of_same ((F.o fw (by decide) _).mono fun _ _ h=>⟨h.1.trans (by rw [HT.o]),h.2⟩)));go_wp2_with fail;go_ret;have W:(f.kind.kind==1&&f.kind.de.toList.isEmpty)=lq l:=by
     rw [HA.o,d7];by_cases Z:f.kind.de=⟨#[]⟩
     ·rw [Cg Z,Bool.eq_iff_iff];simp [Z]
     have:f.kind.de.toList.isEmpty=false:=by
      cases hq:f.kind.de.toList with
      | nil=>exact absurd (Eh hq) Z
      | cons _ _=>rfl
     rw [this];simp [Z]
    exact ⟨by rw [<-W];rfl,o7 (o7 (br _ _) _) _⟩
 have hd:(s==t)=false:=by simpa using hst
 have ac:decide (s=t)=false:=by simpa using hst
 clear X;go_enter func208,ntmps208;go_wp2_with (go_at_call 199;refine (F.o gn (by decide) 0).mono ?_;rintro r w1 ⟨h1,rfl⟩;rw [HE.o]at h1;subst h1);go_quiet (first | (go_at_call 199;exact Calls.quiet_of_same ((F.o fw (by decide) _).mono fun _ _ h=>⟨h.1.trans (by rw [HT.o]),h.2⟩)));go_wp2_with fail;go_ret;exact ⟨by rw [HA.o,ac];rfl,o7 (o7 (br _ _) _) _⟩
def db {α:Type} (p:α->α->Bool):List α->List α->Bool
 | [],[]=>true
 | x::l,y::m=>p x y&&db p l m
 | _,_=>false
theorem xt {α:Type} (p:α->α->Bool):∀(l m:List α),l.length≠m.length->db p l m=false
 | [],[],h=>absurd rfl h
 | x::l,y::m,h=>by rw [db,xt p l m (fun e=>h (by simp [e]))];simp
 | [],_::_,_=>rfl
 | _::_,[],_=>rfl
theorem yw {α:Type} (p:α->α->Bool) (l m:List α) (k:Nat) (A:k<l.length) (D:k<m.length):db p (l.drop k) (m.drop k)=(p l[k] m[k]&&db p (l.drop (k+1)) (m.drop (k+1))):=by rw [List.drop_eq_getElem_cons A,List.drop_eq_getElem_cons D,db]
theorem yx {α:Type} (p:α->α->Bool) (l m:List α) (k:Nat) (A:¬k<l.length) (h:l.length=m.length):db p (l.drop k) (m.drop k)=true:=by rw [List.drop_of_length_le (by omega),List.drop_of_length_le (by omega),db]
theorem zec (a b:ByteArray):(a.toList==b.toList)=decide (a=b):=by rw [Bool.eq_iff_iff,beq_iff_eq,decide_eq_true_iff];exact ⟨Av,fun h=>by rw [h]⟩
def f9 (a b:Int):Bool:=a==b
def gh (a b:ByteArray):Bool:=a.toList==b.toList
def fp (a b:bq):Bool:=decide (a.name=b.name)&&d7 a.kind b.kind
def fx (a b:cw):Bool:=(a.de==b.de)&&(a.s9==b.s9)
theorem zed (k D:Int) (c A:ByteArray):((k==D)&&(c.toList==A.toList))=d7 ⟨k,c⟩ ⟨D,A⟩:=by rw [zec,d7,Bool.eq_iff_iff];simp
theorem xi (x y:fm) (w:World):(binOp BinOp.neq 123 (.agg #[.i x.kind,.string x.de]) (.agg #[.i y.kind,.string y.de])).run prog w=.ok (.bool (!d7 x y)) w:=by
 have I:=underlying3;have F:=isAgg3;have L:=sizeOf3;have J:=underlying9;have G:=isAgg9;have N:=sizeOf9;have D:prog.underlying 123=some (.struct (prog.fieldsOf 123)):=by kernel_rfl
 have E:prog.stoodInHeld 123=false:=by kernel_rfl
 rw [run_neq_struct,show (10000:Nat)=9999+1 from rfl,run_equalIn_agg w 9999 123 _ _ D E];simp only [Program.fieldsOf,underlying123];go_simp;rw [<-zed x.kind y.kind x.de y.de];by_cases h1:x.kind=y.kind<;>by_cases A:x.de.toList=y.de.toList<;>simp [h1,A]
theorem uw:prog.eqGuardType prog.depth 123=false:=by kernel_rfl
theorem Ag (x y:cw) (w:World):(binOp BinOp.neq 233 (.agg #[.i x.de,.i x.s9]) (.agg #[.i y.de,.i y.s9])).run prog w=.ok (.bool (!fx x y)) w:=by
 have I:=underlying3;have F:=isAgg3;have L:=sizeOf3;have J:=underlying9;have G:=isAgg9;have N:=sizeOf9;have D:prog.underlying 233=some (.struct (prog.fieldsOf 233)):=by kernel_rfl
 have E:prog.stoodInHeld 233=false:=by kernel_rfl
 rw [run_neq_struct,show (10000:Nat)=9999+1 from rfl,run_equalIn_agg w 9999 233 _ _ D E];simp only [Program.fieldsOf,underlying233];go_simp;rw [fx];by_cases h1:x.de=y.de<;>by_cases A:x.s9=y.s9<;>simp [h1,A]
theorem yr:prog.eqGuardType prog.depth 233=false:=by kernel_rfl
theorem yi (x y:bq) (w:World):(binOp BinOp.neq 125 (.agg #[.string x.name,.i x.kind.kind,.string x.kind.de]) (.agg #[.string y.name,.i y.kind.kind,.string y.kind.de])).run prog w=.ok (.bool (!fp x y)) w:=by
 have N:=underlying3;have I:=isAgg3;have W:=sizeOf3;have O:=underlying9;have J:=isAgg9;have X:=sizeOf9;have V:=underlying123;have L:=isAgg123;have Y:=sizeOf123;have E:prog.underlying 123=some (.struct (prog.fieldsOf 123)):=by kernel_rfl
 have G:prog.stoodInHeld 123=false:=by kernel_rfl
 have D:prog.underlying 125=some (.struct (prog.fieldsOf 125)):=by kernel_rfl
 have F:prog.stoodInHeld 125=false:=by kernel_rfl
 rw [run_neq_struct,show (10000:Nat)=9999+1 from rfl,run_equalIn_agg w 9999 125 _ _ D F];simp only [Program.fieldsOf,underlying125];go_simp;rw [fp,<-zec,<-zed x.kind.kind y.kind.kind x.kind.de y.kind.de];by_cases h0:x.name.toList=y.name.toList<;>by_cases h1:x.kind.kind=y.kind.kind<;>by_cases A:x.kind.de.toList=y.kind.de.toList<;>simp [h0,h1,A]
theorem we:prog.eqGuardType prog.depth 125=false:=by kernel_rfl
theorem zee (w:World) (M M':Nat->Prop) (u v:Value) (l m:List Int) (V:SL 1 RI M w u l) (W:SL 1 RI M' w v m):
 Calls prog 259 #[u,v] w fun r w'=>r=.returned (.bool (db f9 l m))/\∃n,w'=w.drewN n:=by
 have Z:=ag V;have N:=ag W;obtain ⟨au,cu,rfl,_,hl,-⟩:=V;obtain ⟨av,cv,rfl,_,O,-⟩:=W;unfold maxLen at hl O;by_cases A:l.length=m.length
 rotate_left
 ·have h0:¬(l.length:Int)=m.length:=by omega
  have Y:=ag (xt f9 l m A);clear A;go_enter func259,ntmps259;go_wp2
  go_ret;exact ⟨by rw [Y.o];rfl,0,rfl⟩
 rw [<-A]at N ⊢;have E:=ag A;clear O A;go_enter func259,ntmps259;go_wp2
 go_loopw [13] (fun i wr=>∃k:Nat,k<=l.length/\i=.i k/\Hid (db f9 l m=db f9 (l.drop k) (m.drop k))/\∃n,wr=w.drewN n) (fun i _=>l.length - (intOf i).toNat)
 case atStart=>exact ⟨0,n0q _,rfl,rfl,0,rfl⟩
 case round=>
  obtain ⟨k,hk,rfl,J,n,rfl⟩:=hrel;by_cases F:k<l.length
  ·have I:k<m.length:=by have:=E.o;omega
   obtain ⟨b,off,rfl,_,c0⟩:=Z.o.atI k F;obtain ⟨b2,X,rfl,_,d0⟩:=N.o.atI k I;have G:=ag (yw f9 l m k F I);generalize l[k]=x at*;generalize m[k]=y at*;cases hs:f9 x y with
   | true=>
     have L:x=y:=by simpa [f9]using hs
     have D:Hid (db f9 l m=db f9 (l.drop (k+1)) (m.drop (k+1))):=J.o.trans (by rw [G.o,hs,Bool.true_and]);go_wp2
     go_quiet (fail);go_wp2
     go_roundw
     case rel=>exact ⟨k+1,by omega,by go_num,D.o,_,rfl⟩
     case measure=>simp [intOf];omega
   | false=>
     have L:¬x=y:=by simpa [f9]using hs
     have D:Hid (db f9 l m=false):=J.o.trans (by rw [G.o,hs,Bool.false_and]);go_wp2
     go_quiet (fail);go_wp2
     go_ret;exact ⟨by rw [D.o];rfl,_,World.drewN_drewN _ _ _⟩
  have D:Hid (db f9 l m=true):=J.o.trans (yx f9 l m k F E.o);go_wp2
  go_ret;exact ⟨by rw [D.o];rfl,n,rfl⟩
theorem zef (w:World) (M M':Nat->Prop) (u v:Value) (l m:List fm) (O:SL 2 RK M w u l) (V:SL 2 RK M' w v m):
 Calls prog 302 #[u,v] w fun r w'=>r=.returned (.bool (db d7 l m))/\∃n,w'=w.drewN n:=by
 have Y:=ag O;have L:=ag V;obtain ⟨au,cu,rfl,_,Z,-⟩:=O;obtain ⟨av,cv,rfl,_,N,-⟩:=V;unfold maxLen at Z N;by_cases A:l.length=m.length
 rotate_left
 ·have h0:¬(l.length:Int)=m.length:=by omega
  have X:=ag (xt d7 l m A);clear A;go_enter func302,ntmps302;go_wp2
  go_ret;exact ⟨by rw [X.o];rfl,0,rfl⟩
 rw [<-A]at L ⊢;have E:=ag A;clear N A;go_enter func302,ntmps302;go_wp2
 go_loopw [13] (fun i wr=>∃k:Nat,k<=l.length/\i=.i k/\Hid (db d7 l m=db d7 (l.drop k) (m.drop k))/\∃n,wr=w.drewN n) (fun i _=>l.length - (intOf i).toNat)
 case atStart=>exact ⟨0,n0q _,rfl,rfl,0,rfl⟩
 case round=>
  obtain ⟨k,hk,rfl,J,n,rfl⟩:=hrel;by_cases F:k<l.length
  ·have I:k<m.length:=by have:=E.o;omega
   obtain ⟨b,off,rfl,_,c0,c1,_⟩:=Y.o.atK k F;obtain ⟨b2,W,rfl,_,d0,d1,_⟩:=L.o.atK k I;have G:=ag (yw d7 l m k F I);have aa:=xi l[k] m[k];have ac:=uw;generalize l[k]=x at*;generalize m[k]=y at*;cases hs:d7 x y with
   | true=>
     have D:Hid (db d7 l m=db d7 (l.drop (k+1)) (m.drop (k+1))):=J.o.trans (by rw [G.o,hs,Bool.true_and]);go_wp2
     go_quiet (fail);go_wp2
     go_roundw
     case rel=>exact ⟨k+1,by omega,by go_num,D.o,_,rfl⟩
     case measure=>simp [intOf];omega
   | false=>
     have D:Hid (db d7 l m=false):=J.o.trans (by rw [G.o,hs,Bool.false_and]);go_wp2
     go_quiet (fail);go_wp2
     go_ret;exact ⟨by rw [D.o];rfl,_,World.drewN_drewN _ _ _⟩
  have D:Hid (db d7 l m=true):=J.o.trans (yx d7 l m k F E.o);go_wp2
  go_ret;exact ⟨by rw [D.o];rfl,n,rfl⟩
theorem zeg (w:World) (M M':Nat->Prop) (u v:Value) (l m:List bq) (O:SL 3 RF M w u l) (V:SL 3 RF M' w v m):
 Calls prog 261 #[u,v] w fun r w'=>r=.returned (.bool (db fp l m))/\∃n,w'=w.drewN n:=by
 have Y:=ag O;have L:=ag V;obtain ⟨au,cu,rfl,_,Z,-⟩:=O;obtain ⟨av,cv,rfl,_,N,-⟩:=V;unfold maxLen at Z N;by_cases A:l.length=m.length
 rotate_left
 ·have h0:¬(l.length:Int)=m.length:=by omega
  have X:=ag (xt fp l m A);clear A;go_enter func261,ntmps261;go_wp2
  go_ret;exact ⟨by rw [X.o];rfl,0,rfl⟩
 rw [<-A]at L ⊢;have E:=ag A;clear N A;go_enter func261,ntmps261;go_wp2
 go_loopw [13] (fun i wr=>∃k:Nat,k<=l.length/\i=.i k/\Hid (db fp l m=db fp (l.drop k) (m.drop k))/\∃n,wr=w.drewN n) (fun i _=>l.length - (intOf i).toNat)
 case atStart=>exact ⟨0,n0q _,rfl,rfl,0,rfl⟩
 case round=>
  obtain ⟨k,hk,rfl,J,n,rfl⟩:=hrel;by_cases F:k<l.length
  ·have I:k<m.length:=by have:=E.o;omega
   obtain ⟨b,off,rfl,_,c0,c1,c2,_⟩:=Y.o.atF k F;obtain ⟨b2,W,rfl,_,d0,d1,d2,_⟩:=L.o.atF k I;have G:=ag (yw fp l m k F I);have aa:=yi l[k] m[k];have ac:=we;generalize l[k]=x at*;generalize m[k]=y at*;cases hs:fp x y with
   | true=>
     have D:Hid (db fp l m=db fp (l.drop (k+1)) (m.drop (k+1))):=J.o.trans (by rw [G.o,hs,Bool.true_and]);go_wp2
     go_quiet (fail);go_wp2
     go_roundw
     case rel=>exact ⟨k+1,by omega,by go_num,D.o,_,rfl⟩
     case measure=>simp [intOf];omega
   | false=>
     have D:Hid (db fp l m=false):=J.o.trans (by rw [G.o,hs,Bool.false_and]);go_wp2
     go_quiet (fail);go_wp2
     go_ret;exact ⟨by rw [D.o];rfl,_,World.drewN_drewN _ _ _⟩
  have D:Hid (db fp l m=true):=J.o.trans (yx fp l m k F E.o);go_wp2
  go_ret;exact ⟨by rw [D.o];rfl,n,rfl⟩
theorem zeh (w:World) (M M':Nat->Prop) (u v:Value) (l m:List ByteArray) (V:SL 1 RS M w u l) (W:SL 1 RS M' w v m):
 Calls prog 263 #[u,v] w fun r w'=>r=.returned (.bool (db gh l m))/\∃n,w'=w.drewN n:=by
 have Z:=ag V;have N:=ag W;obtain ⟨au,cu,rfl,_,hl,-⟩:=V;obtain ⟨av,cv,rfl,_,O,-⟩:=W;unfold maxLen at hl O;by_cases A:l.length=m.length
 rotate_left
 ·have h0:¬(l.length:Int)=m.length:=by omega
  have Y:=ag (xt gh l m A);clear A;go_enter func263,ntmps263;go_wp2
  go_ret;exact ⟨by rw [Y.o];rfl,0,rfl⟩
 rw [<-A]at N ⊢;have E:=ag A;clear O A;go_enter func263,ntmps263;go_wp2
 go_loopw [13] (fun i wr=>∃k:Nat,k<=l.length/\i=.i k/\Hid (db gh l m=db gh (l.drop k) (m.drop k))/\∃n,wr=w.drewN n) (fun i _=>l.length - (intOf i).toNat)
 case atStart=>exact ⟨0,n0q _,rfl,rfl,0,rfl⟩
 case round=>
  obtain ⟨k,hk,rfl,J,n,rfl⟩:=hrel;by_cases F:k<l.length
  ·have I:k<m.length:=by have:=E.o;omega
   obtain ⟨b,off,rfl,_,c0,_⟩:=Z.o.atS k F;obtain ⟨b2,X,rfl,_,d0,_⟩:=N.o.atS k I;have G:=ag (yw gh l m k F I);generalize l[k]=x at*;generalize m[k]=y at*;cases hs:gh x y with
   | true=>
     have L:(x.toList==y.toList)=true:=hs;have D:Hid (db gh l m=db gh (l.drop (k+1)) (m.drop (k+1))):=J.o.trans (by rw [G.o,hs,Bool.true_and]);go_wp2
     go_quiet (fail);go_wp2
     go_roundw
     case rel=>exact ⟨k+1,by omega,by go_num,D.o,_,rfl⟩
     case measure=>simp [intOf];omega
   | false=>
     have L:(x.toList==y.toList)=false:=hs;have D:Hid (db gh l m=false):=J.o.trans (by rw [G.o,hs,Bool.false_and]);go_wp2
     go_quiet (fail);go_wp2
     go_ret;exact ⟨by rw [D.o];rfl,_,World.drewN_drewN _ _ _⟩
  have D:Hid (db gh l m=true):=J.o.trans (yx gh l m k F E.o);go_wp2
  go_ret;exact ⟨by rw [D.o];rfl,n,rfl⟩
theorem zei (w:World) (M M':Nat->Prop) (u v:Value) (l m:List cw) (O:SL 2 RT M w u l) (V:SL 2 RT M' w v m):
 Calls prog 265 #[u,v] w fun r w'=>r=.returned (.bool (db fx l m))/\∃n,w'=w.drewN n:=by
 have Y:=ag O;have L:=ag V;obtain ⟨au,cu,rfl,_,Z,-⟩:=O;obtain ⟨av,cv,rfl,_,N,-⟩:=V;unfold maxLen at Z N;by_cases A:l.length=m.length
 rotate_left
 ·have h0:¬(l.length:Int)=m.length:=by omega
  have X:=ag (xt fx l m A);clear A;go_enter func265,ntmps265;go_wp2
  go_ret;exact ⟨by rw [X.o];rfl,0,rfl⟩
 rw [<-A]at L ⊢;have E:=ag A;clear N A;go_enter func265,ntmps265;go_wp2
 go_loopw [13] (fun i wr=>∃k:Nat,k<=l.length/\i=.i k/\Hid (db fx l m=db fx (l.drop k) (m.drop k))/\∃n,wr=w.drewN n) (fun i _=>l.length - (intOf i).toNat)
 case atStart=>exact ⟨0,n0q _,rfl,rfl,0,rfl⟩
 case round=>
  obtain ⟨k,hk,rfl,J,n,rfl⟩:=hrel;by_cases F:k<l.length
  ·have I:k<m.length:=by have:=E.o;omega
   obtain ⟨b,off,rfl,_,c0,c1⟩:=Y.o.atT k F;obtain ⟨b2,W,rfl,_,d0,d1⟩:=L.o.atT k I;have G:=ag (yw fx l m k F I);have aa:=Ag l[k] m[k];have ac:=yr;generalize l[k]=x at*;generalize m[k]=y at*;cases hs:fx x y with
   | true=>
     have D:Hid (db fx l m=db fx (l.drop (k+1)) (m.drop (k+1))):=J.o.trans (by rw [G.o,hs,Bool.true_and]);go_wp2
     go_quiet (fail);go_wp2
     go_roundw
     case rel=>exact ⟨k+1,by omega,by go_num,D.o,_,rfl⟩
     case measure=>simp [intOf];omega
   | false=>
     have D:Hid (db fx l m=false):=J.o.trans (by rw [G.o,hs,Bool.false_and]);go_wp2
     go_quiet (fail);go_wp2
     go_ret;exact ⟨by rw [D.o];rfl,_,World.drewN_drewN _ _ _⟩
  have D:Hid (db fx l m=true):=J.o.trans (yx fx l m k F E.o);go_wp2
  go_ret;exact ⟨by rw [D.o];rfl,n,rfl⟩
theorem zej (w:World) (M M':Nat->Prop) (u v:Value) (l m:List (List bq)) (V:SL 1 (kr 3 RF) M w u l) (W:SL 1 (kr 3 RF) M' w v m):
 Calls prog 260 #[u,v,.func (.func 261) #[] #[]] w fun r w'=>r=.returned (.bool (db (db fp) l m))/\∃n,w'=w.drewN n:=by
 have HU:=ag V;have N:=ag W;obtain ⟨au,cu,rfl,_,hl,-⟩:=V;obtain ⟨av,cv,rfl,_,O,-⟩:=W;unfold maxLen at hl O;by_cases A:l.length=m.length
 rotate_left
 ·have h0:¬(l.length:Int)=m.length:=by omega
  have HR:=ag (xt (db fp) l m A);clear A;go_enter func260,ntmps260;go_wp2
  go_ret;exact ⟨by rw [HR.o];rfl,0,rfl⟩
 rw [<-A]at N ⊢;have E:=ag A;clear O A;go_enter func260,ntmps260;go_wp2
 go_loopw [17] (fun i wr=>∃k:Nat,k<=l.length/\i=.i k/\Hid (db (db fp) l m=db (db fp) (l.drop k) (m.drop k))/\∃n,wr=w.drewN n) (fun i _=>l.length - (intOf i).toNat)
 case atStart=>exact ⟨0,n0q _,rfl,rfl,0,rfl⟩
 case round=>
  obtain ⟨k,hk,rfl,L,n,rfl⟩:=hrel;by_cases F:k<l.length
  ·have I:k<m.length:=by have:=E.o;omega
   obtain ⟨b,off,a1,k1,rfl,_,c0,Y⟩:=HU.o.atSl k F;obtain ⟨b2,X,a2,k2,rfl,_,d0,Z⟩:=N.o.atSl k I;have G:=ag (yw (db fp) l m k F I);generalize l[k]=x at*;generalize m[k]=y at*;have J:=ag (zeg (w.drewN n) M M' _ _ x y (Y.kept ⟨nlq _,fun _ _ _=>rfl⟩ fun _ _ h=>h) (Z.kept ⟨nlq _,fun _ _ _=>rfl⟩ fun _ _ h=>h));clear Y Z;cases hs:db fp x y with
   | true=>
     rw [hs]at J;have D:Hid (db (db fp) l m=db (db fp) (l.drop (k+1)) (m.drop (k+1))):=L.o.trans (by rw [G.o,hs,Bool.true_and]);clear hs;go_wp2_with (first | (go_at_call 261;refine J.o.mono ?_;rintro r w7 ⟨rfl,n7,rfl⟩));go_roundw
     case rel=>exact ⟨k+1,by omega,by go_num,D.o,_,rfl⟩
     case measure=>simp [intOf];omega
   | false=>
     rw [hs]at J;have D:Hid (db (db fp) l m=false):=L.o.trans (by rw [G.o,hs,Bool.false_and]);clear hs;go_wp2_with (first | (go_at_call 261;refine J.o.mono ?_;rintro r w7 ⟨rfl,n7,rfl⟩));go_ret;exact ⟨by rw [D.o];rfl,_,rfl⟩
  have D:Hid (db (db fp) l m=true):=L.o.trans (yx (db fp) l m k F E.o);go_wp2
  go_ret;exact ⟨by rw [D.o];rfl,n,rfl⟩
theorem zek (w:World) (M M':Nat->Prop) (u v:Value) (l m:List (List ByteArray)) (V:SL 1 (kr 1 RS) M w u l) (W:SL 1 (kr 1 RS) M' w v m):
 Calls prog 262 #[u,v,.func (.func 263) #[] #[]] w fun r w'=>r=.returned (.bool (db (db gh) l m))/\∃n,w'=w.drewN n:=by
 have HU:=ag V;have N:=ag W;obtain ⟨au,cu,rfl,_,hl,-⟩:=V;obtain ⟨av,cv,rfl,_,O,-⟩:=W;unfold maxLen at hl O;by_cases A:l.length=m.length
 rotate_left
 ·have h0:¬(l.length:Int)=m.length:=by omega
  have HR:=ag (xt (db gh) l m A);clear A;go_enter func262,ntmps262;go_wp2
  go_ret;exact ⟨by rw [HR.o];rfl,0,rfl⟩
 rw [<-A]at N ⊢;have E:=ag A;clear O A;go_enter func262,ntmps262;go_wp2
 go_loopw [17] (fun i wr=>∃k:Nat,k<=l.length/\i=.i k/\Hid (db (db gh) l m=db (db gh) (l.drop k) (m.drop k))/\∃n,wr=w.drewN n) (fun i _=>l.length - (intOf i).toNat)
 case atStart=>exact ⟨0,n0q _,rfl,rfl,0,rfl⟩
 case round=>
  obtain ⟨k,hk,rfl,L,n,rfl⟩:=hrel;by_cases F:k<l.length
  ·have I:k<m.length:=by have:=E.o;omega
   obtain ⟨b,off,a1,k1,rfl,_,c0,Y⟩:=HU.o.atSl k F;obtain ⟨b2,X,a2,k2,rfl,_,d0,Z⟩:=N.o.atSl k I;have G:=ag (yw (db gh) l m k F I);generalize l[k]=x at*;generalize m[k]=y at*;have J:=ag (zeh (w.drewN n) M M' _ _ x y (Y.kept ⟨nlq _,fun _ _ _=>rfl⟩ fun _ _ h=>h) (Z.kept ⟨nlq _,fun _ _ _=>rfl⟩ fun _ _ h=>h));clear Y Z;cases hs:db gh x y with
   | true=>
     rw [hs]at J;have D:Hid (db (db gh) l m=db (db gh) (l.drop (k+1)) (m.drop (k+1))):=L.o.trans (by rw [G.o,hs,Bool.true_and]);clear hs;go_wp2_with (first | (go_at_call 263;refine J.o.mono ?_;rintro r w7 ⟨rfl,n7,rfl⟩));go_roundw
     case rel=>exact ⟨k+1,by omega,by go_num,D.o,_,rfl⟩
     case measure=>simp [intOf];omega
   | false=>
     rw [hs]at J;have D:Hid (db (db gh) l m=false):=L.o.trans (by rw [G.o,hs,Bool.false_and]);clear hs;go_wp2_with (first | (go_at_call 263;refine J.o.mono ?_;rintro r w7 ⟨rfl,n7,rfl⟩));go_ret;exact ⟨by rw [D.o];rfl,_,rfl⟩
  have D:Hid (db (db gh) l m=true):=L.o.trans (yx (db gh) l m k F E.o);go_wp2
  go_ret;exact ⟨by rw [D.o];rfl,n,rfl⟩
theorem zel (w:World) (M M':Nat->Prop) (u v:Value) (l m:List (List cw)) (V:SL 1 (kr 2 RT) M w u l) (W:SL 1 (kr 2 RT) M' w v m):
 Calls prog 264 #[u,v,.func (.func 265) #[] #[]] w fun r w'=>r=.returned (.bool (db (db fx) l m))/\∃n,w'=w.drewN n:=by
 have HU:=ag V;have N:=ag W;obtain ⟨au,cu,rfl,_,hl,-⟩:=V;obtain ⟨av,cv,rfl,_,O,-⟩:=W;unfold maxLen at hl O;by_cases A:l.length=m.length
 rotate_left
 ·have h0:¬(l.length:Int)=m.length:=by omega
  have HR:=ag (xt (db fx) l m A);clear A;go_enter func264,ntmps264;go_wp2
  go_ret;exact ⟨by rw [HR.o];rfl,0,rfl⟩
 rw [<-A]at N ⊢;have E:=ag A;clear O A;go_enter func264,ntmps264;go_wp2
 go_loopw [17] (fun i wr=>∃k:Nat,k<=l.length/\i=.i k/\Hid (db (db fx) l m=db (db fx) (l.drop k) (m.drop k))/\∃n,wr=w.drewN n) (fun i _=>l.length - (intOf i).toNat)
 case atStart=>exact ⟨0,n0q _,rfl,rfl,0,rfl⟩
 case round=>
  obtain ⟨k,hk,rfl,L,n,rfl⟩:=hrel;by_cases F:k<l.length
  ·have I:k<m.length:=by have:=E.o;omega
   obtain ⟨b,off,a1,k1,rfl,_,c0,Y⟩:=HU.o.atSl k F;obtain ⟨b2,X,a2,k2,rfl,_,d0,Z⟩:=N.o.atSl k I;have G:=ag (yw (db fx) l m k F I);generalize l[k]=x at*;generalize m[k]=y at*;have J:=ag (zei (w.drewN n) M M' _ _ x y (Y.kept ⟨nlq _,fun _ _ _=>rfl⟩ fun _ _ h=>h) (Z.kept ⟨nlq _,fun _ _ _=>rfl⟩ fun _ _ h=>h));clear Y Z;cases hs:db fx x y with
   | true=>
     rw [hs]at J;have D:Hid (db (db fx) l m=db (db fx) (l.drop (k+1)) (m.drop (k+1))):=L.o.trans (by rw [G.o,hs,Bool.true_and]);clear hs;go_wp2_with (first | (go_at_call 265;refine J.o.mono ?_;rintro r w7 ⟨rfl,n7,rfl⟩));go_roundw
     case rel=>exact ⟨k+1,by omega,by go_num,D.o,_,rfl⟩
     case measure=>simp [intOf];omega
   | false=>
     rw [hs]at J;have D:Hid (db (db fx) l m=false):=L.o.trans (by rw [G.o,hs,Bool.false_and]);clear hs;go_wp2_with (first | (go_at_call 265;refine J.o.mono ?_;rintro r w7 ⟨rfl,n7,rfl⟩));go_ret;exact ⟨by rw [D.o];rfl,_,rfl⟩
  have D:Hid (db (db fx) l m=true):=L.o.trans (yx (db fx) l m k F E.o);go_wp2
  go_ret;exact ⟨by rw [D.o];rfl,n,rfl⟩
structure bd where
 aj:List aq
 bg:List Int
 fields:List (List bq)
 names:List (List ByteArray)
 ax:List (List cw)
structure mt (M:Nat->Prop) (w:World) (kC kS kF kN kT:Value) (d:bd):Prop where
 C:SL 4 RC M w kC d.aj
 S:SL 1 RI M w kS d.bg
 F:SL 1 (kr 3 RF) M w kF d.fields
 N:SL 1 (kr 1 RS) M w kN d.names
 T:SL 1 (kr 2 RT) M w kT d.ax
theorem mt.kept {M:Nat->Prop} {w w':World} {D I E G J:Value} {d:bd} (h:mt M w D I E G J d) (A:Kp M w w'):mt M w' D I E G J d:=
 ⟨h.C.keptC A,h.S.keptI A,h.F.keptSl A fun _ _ h=>h,h.N.keptSl A fun _ _ h=>h,h.T.keptSl A fun _ _ h=>h⟩
def rp (l:List aq) (d:bd):Bool:=
 db f9 ((List.range l.length).map (dj l)) d.bg&&db (db fp) ((List.range l.length).map (fieldsOf l)) d.fields&&
  db (db gh) ((List.range l.length).map (fb l)) d.names&&db (db fx) ((List.range l.length).map (ew l)) d.ax
theorem zem (w:World) (B b:Nat) (l:List aq) (vC vS vF vN vT vL:Value) (Bm:Nat) (I:ti B w b l vC vS vF vN vT vL Bm) (O X V W Y:Value) (d:bd) (hk:mt (· <B) w O X V W Y d):
 Calls prog 216 #[.p b,.agg #[O,X,V,W,Y]] w fun r w'=>r=.returned (.bool (rp l d))/\Bl w w':=by
 have hb:b<w.heap.size:=ll3 I.bB I.le;have c1:=bp I.blk 1 (x:=vS) rfl;have c2:=bp I.blk 2 (x:=vF) rfl;have c3:=bp I.blk 3 (x:=vN) rfl;have c4:=bp I.blk 4 (x:=vT) rfl;have J:Bl w (w.alloc (.cells #[O,X,V,W,Y] 36)):=(br _ _).alloc (nlq _) _;have E:=ag J;have L:=J.mono I.le;have A:=hk.kept (Kp.below L);have D:=I.below L;have G:∀n,Kp (· <B) (w.alloc (.cells #[O,X,V,W,Y] 36)) ((w.alloc (.cells #[O,X,V,W,Y] 36)).drewN n):=fun n=>⟨nlq _,fun _ _ _=>rfl⟩;generalize hS:(List.range l.length).map (dj l)=lS at*;generalize hF:(List.range l.length).map (fieldsOf l)=lF at*;generalize hN:(List.range l.length).map (fb l)=lN at*;generalize hT:(List.range l.length).map (ew l)=lT at*;have sS:SL 1 RI (· <B) _ vS lS:=hS ▸ D.sS;have sF:SL 1 (kr 3 RF) (· <B) _ vF lF:=hF ▸ D.sF;have sN:SL 1 (kr 1 RS) (· <B) _ vN lN:=hN ▸ D.sN;have sT:SL 1 (kr 2 RT) (· <B) _ vT lT:=hT ▸ D.sT;have HM:Hid (rp l d=(db f9 lS d.bg&&db (db fp) lF d.fields&&db (db gh) lN d.names&&db (db fx) lT d.ax)):=by show rp l d=_;rw [rp,hS,hF,hN,hT]
 have Z:=ag (fun n=>zee _ _ _ _ _ _ _ (sS.keptI (G n)) (A.S.keptI (G n)));have H2:=ag (fun n=>zej _ _ _ _ _ _ _ (sF.keptSl (G n) fun _ _ h=>h) (A.F.keptSl (G n) fun _ _ h=>h));have H3:=ag (fun n=>zek _ _ _ _ _ _ _ (sN.keptSl (G n) fun _ _ h=>h) (A.N.keptSl (G n) fun _ _ h=>h));have H4:=ag (fun n=>zel _ _ _ _ _ _ _ (sT.keptSl (G n) fun _ _ h=>h) (A.T.keptSl (G n) fun _ _ h=>h));clear I hk D A sS sF sN sT G hS hF hN hT J L;generalize db f9 lS d.bg=e1 at*;generalize db (db fp) lF d.fields=e2 at*;generalize db (db gh) lN d.names=e3 at*;generalize db (db fx) lT d.ax=e4 at*;cases e1 with
 | false=>
   go_enter func216,ntmps216;go_wp2_with fail;go_quiet (first | (go_at_call 259;exact Calls.quiet_of (Z.o _)) | (go_at_call 260;exact Calls.quiet_of (H2.o _)) | (go_at_call 262;exact Calls.quiet_of (H3.o _)) | (go_at_call 264;exact Calls.quiet_of (H4.o _)));go_wp2_with fail;go_ret;exact ⟨by rw [HM.o];rfl,o7 E.o _⟩
 | true=>
   cases e2 with
   | false=>
     go_enter func216,ntmps216;go_wp2_with fail;go_quiet (first | (go_at_call 259;exact Calls.quiet_of (Z.o _)) | (go_at_call 260;exact Calls.quiet_of (H2.o _)) | (go_at_call 262;exact Calls.quiet_of (H3.o _)) | (go_at_call 264;exact Calls.quiet_of (H4.o _)));go_wp2_with fail;go_ret;exact ⟨by rw [HM.o];rfl,o7 E.o _⟩
   | true=>
     cases e3 with
     | false=>
       go_enter func216,ntmps216;go_wp2_with fail;go_quiet (first | (go_at_call 259;exact Calls.quiet_of (Z.o _)) | (go_at_call 260;exact Calls.quiet_of (H2.o _)) | (go_at_call 262;exact Calls.quiet_of (H3.o _)) | (go_at_call 264;exact Calls.quiet_of (H4.o _)));go_wp2_with fail;go_ret;exact ⟨by rw [HM.o];rfl,o7 E.o _⟩
     | true=>
       go_enter func216,ntmps216;go_wp2_with fail;go_quiet (first | (go_at_call 259;exact Calls.quiet_of (Z.o _)) | (go_at_call 260;exact Calls.quiet_of (H2.o _)) | (go_at_call 262;exact Calls.quiet_of (H3.o _)) | (go_at_call 264;exact Calls.quiet_of (H4.o _)));go_wp2_with fail;go_ret;exact ⟨by rw [HM.o];rfl,o7 E.o _⟩
end Go.Proofs.YtjdnmblggdobgaaGreat
namespace Go.Proofs.YtjdnmblggdobgaaGreat
open Go.RowKit Tryz
structure ar where
 ab:List Int
 ae:Int
 old:Int
 bo:Int
 ba:Int
 am:List Int
 next:Int
structure bk where
 loc:Int
 tag:Int
 len:Int
 hash:Int
def wd (ws:List Int) (i:Int):Int:=ws[i.toNat]?.getD 0
theorem pi {ws:List Int} {i:Nat} (h:i<ws.length):wd ws i=ws[i]:=by simp [wd,h]
def dq (n:Nat) (tag:Int):Bool:=decide (1<=tag)&&decide (tag<3+n)
def gz (fs:List (List bq)) (tag:Int):List bq:=fs[(tag - 3).toNat]?.getD []
def cg (fs:List (List bq)) (tag len:Int):Bool:=if 3<=tag then decide (len=(gz fs tag).length) else decide (0<=len)&&decide (len<=500)
def bj (ws:List Int) (loc:Int):bk:=⟨loc,wd ws loc,wd ws (loc+1),wd ws (loc+2)⟩
def bk.fin (t:bk):Int:=t.loc+3+t.len
def gr (n:Nat) (fs:List (List bq)) (ws:List Int) (loc top:Int):Bool:=
 decide (loc+3<=top)&&dq n (wd ws loc)&&cg fs (wd ws loc) (wd ws (loc+1))&&decide ((bj ws loc).fin<=top)
def jj (n:Nat) (fs:List (List bq)) (ws:List Int) (top:Int):Nat->Int->Option (List bk)
 | 0,_=>some []
 | f+1,loc=>if loc<top then (if gr n fs ws loc top=true then (jj n fs ws top f (bj ws loc).fin).map (bj ws loc:: ·) else none) else some []
def b9 (n:Nat) (fs:List (List bq)) (ws:List Int) (loc top:Int):Option (List bk):=jj n fs ws top (top - loc).toNat loc
theorem vd {fs:List (List bq)} {A len:Int} (h:cg fs A len=true):0<=len:=by
 unfold cg at h;split at h
 ·have:=of_decide_eq_true h;omega
 rw [Bool.and_eq_true]at h;exact of_decide_eq_true h.1
theorem Ay {n:Nat} {fs:List (List bq)} {ws:List Int} {A D:Int} (h:gr n fs ws A D=true):A+3<=(bj ws A).fin/\(bj ws A).fin<=D/\dq n (wd ws A)=true/\cg fs (wd ws A) (wd ws (A+1))=true:=by unfold gr at h;simp only [Bool.and_eq_true]at h;obtain ⟨⟨⟨h1,F⟩,E⟩,G⟩:=h;have I:=vd E;exact ⟨by show A+3<=A+3+wd ws (A+1);omega,of_decide_eq_true G,F,E⟩
theorem zeq (n:Nat) (fs:List (List bq)) (ws:List Int) (A:Int):∀(f:Nat) (loc:Int),A - loc<=f->jj n fs ws A (f+1) loc=jj n fs ws A f loc
 | 0,loc,h=>by rw [jj,jj,if_neg (by omega)]
 | f+1,loc,h=>by
   by_cases D:loc<A
   ·by_cases E:gr n fs ws loc A=true
    ·have I:=(Ay E).1;have F:jj n fs ws A (f+1+1) loc=(jj n fs ws A (f+1) (bj ws loc).fin).map (bj ws loc:: ·):=by rw [jj,if_pos D,if_pos E]
     have G:jj n fs ws A (f+1) loc=(jj n fs ws A f (bj ws loc).fin).map (bj ws loc:: ·):=by rw [jj,if_pos D,if_pos E]
     rw [F,G,zeq n fs ws A f _ (by omega)]
    rw [jj,if_pos D,if_neg E,jj,if_pos D,if_neg E]
   rw [jj,if_neg D,jj,if_neg D]
theorem zer (n:Nat) (fs:List (List bq)) (ws:List Int) (D:Int) (A:Int) (f g:Nat) (h:D - A<=f) (E:f<=g):jj n fs ws D g A=jj n fs ws D f A:=by
 obtain ⟨k,rfl⟩:=Nat.exists_eq_add_of_le E;induction k with
 | zero=>rfl
 | succ k ih=>rw [show f+(k+1)=f+k+1 by omega,zeq _ _ _ _ _ _ (by omega),ih (by omega)]
theorem A6 {n:Nat} {fs:List (List bq)} {ws:List Int} {A D:Int} (h:¬A<D):b9 n fs ws A D=some []:=by
 unfold b9;cases (D - A).toNat with
 | zero=>rfl
 | succ k=>rw [jj,if_neg h]
theorem Cb {n:Nat} {fs:List (List bq)} {ws:List Int} {A D:Int} (h:A<D) (E:gr n fs ws A D=true):b9 n fs ws A D=(b9 n fs ws (bj ws A).fin D).map (bj ws A:: ·):=by have G:=(Ay E).1;unfold b9;obtain ⟨k,F⟩:∃k,(D - A).toNat=k+1:=⟨(D - A).toNat - 1,by omega⟩;rw [F,jj,if_pos h,if_pos E,zer _ _ _ _ _ (D - (bj ws A).fin).toNat k (by omega) (by omega)]
theorem Cc {n:Nat} {fs:List (List bq)} {ws:List Int} {A D:Int} (h:A<D) (F:¬gr n fs ws A D=true):b9 n fs ws A D=none:=by unfold b9;obtain ⟨k,E⟩:∃k,(D - A).toNat=k+1:=⟨(D - A).toNat - 1,by omega⟩;rw [E,jj,if_pos h,if_neg F]
end Go.Proofs.YtjdnmblggdobgaaGreat
namespace Go.Proofs.YtjdnmblggdobgaaGreat
open Go.RowKit Go.Maps Tryz
theorem zos (w:World) (M M':Nat->Prop) (u v:Value) (l m:List fm) (O:SL 2 RK M w u l) (V:SL 2 RK M' w v m):
 Calls prog 227 #[u,v] w fun r w'=>r=.returned (.bool (db d7 l m))/\∃n,w'=w.drewN n:=by
 have Y:=ag O;have L:=ag V;obtain ⟨au,cu,rfl,_,Z,-⟩:=O;obtain ⟨av,cv,rfl,_,N,-⟩:=V;unfold maxLen at Z N;by_cases A:l.length=m.length
 rotate_left
 ·have h0:¬(l.length:Int)=m.length:=by omega
  have X:=ag (xt d7 l m A);clear A;go_enter func227,ntmps227;go_wp2
  go_ret;exact ⟨by rw [X.o];rfl,0,rfl⟩
 rw [<-A]at L ⊢;have E:=ag A;clear N A;go_enter func227,ntmps227;go_wp2
 go_loopw [5] (fun i wr=>∃k:Nat,k<=l.length/\i=.i k/\Hid (db d7 l m=db d7 (l.drop k) (m.drop k))/\∃n,wr=w.drewN n) (fun i _=>l.length - (intOf i).toNat)
 case atStart=>exact ⟨0,n0q _,rfl,rfl,0,rfl⟩
 case round=>
  obtain ⟨k,hk,rfl,J,n,rfl⟩:=hrel;by_cases F:k<l.length
  ·have I:k<m.length:=by have:=E.o;omega
   obtain ⟨b,off,rfl,_,c0,c1,_⟩:=Y.o.atK k F;obtain ⟨b2,W,rfl,_,d0,d1,_⟩:=L.o.atK k I;have G:=ag (yw d7 l m k F I);have aa:=xi l[k] m[k];have ac:=uw;generalize l[k]=x at*;generalize m[k]=y at*;cases hs:d7 x y with
   | true=>
     have D:Hid (db d7 l m=db d7 (l.drop (k+1)) (m.drop (k+1))):=J.o.trans (by rw [G.o,hs,Bool.true_and]);go_wp2
     go_quiet (fail);go_wp2
     go_roundw
     case rel=>exact ⟨k+1,by omega,by go_num,D.o,_,rfl⟩
     case measure=>simp [intOf];omega
   | false=>
     have D:Hid (db d7 l m=false):=J.o.trans (by rw [G.o,hs,Bool.false_and]);go_wp2
     go_quiet (fail);go_wp2
     go_ret;exact ⟨by rw [D.o];rfl,_,World.drewN_drewN _ _ _⟩
  have D:Hid (db d7 l m=true):=J.o.trans (yx d7 l m k F E.o);go_wp2
  go_ret;exact ⟨by rw [D.o];rfl,n,rfl⟩
theorem zot (w:World) (M M':Nat->Prop) (u v:Value) (l m:List bq) (O:SL 3 RF M w u l) (V:SL 3 RF M' w v m):
 Calls prog 186 #[u,v] w fun r w'=>r=.returned (.bool (db fp l m))/\∃n,w'=w.drewN n:=by
 have Y:=ag O;have L:=ag V;obtain ⟨au,cu,rfl,_,Z,-⟩:=O;obtain ⟨av,cv,rfl,_,N,-⟩:=V;unfold maxLen at Z N;by_cases A:l.length=m.length
 rotate_left
 ·have h0:¬(l.length:Int)=m.length:=by omega
  have X:=ag (xt fp l m A);clear A;go_enter func186,ntmps186;go_wp2
  go_ret;exact ⟨by rw [X.o];rfl,0,rfl⟩
 rw [<-A]at L ⊢;have E:=ag A;clear N A;go_enter func186,ntmps186;go_wp2
 go_loopw [5] (fun i wr=>∃k:Nat,k<=l.length/\i=.i k/\Hid (db fp l m=db fp (l.drop k) (m.drop k))/\∃n,wr=w.drewN n) (fun i _=>l.length - (intOf i).toNat)
 case atStart=>exact ⟨0,n0q _,rfl,rfl,0,rfl⟩
 case round=>
  obtain ⟨k,hk,rfl,J,n,rfl⟩:=hrel;by_cases F:k<l.length
  ·have I:k<m.length:=by have:=E.o;omega
   obtain ⟨b,off,rfl,_,c0,c1,c2,_⟩:=Y.o.atF k F;obtain ⟨b2,W,rfl,_,d0,d1,d2,_⟩:=L.o.atF k I;have G:=ag (yw fp l m k F I);have aa:=yi l[k] m[k];have ac:=we;generalize l[k]=x at*;generalize m[k]=y at*;cases hs:fp x y with
   | true=>
     have D:Hid (db fp l m=db fp (l.drop (k+1)) (m.drop (k+1))):=J.o.trans (by rw [G.o,hs,Bool.true_and]);go_wp2
     go_quiet (fail);go_wp2
     go_roundw
     case rel=>exact ⟨k+1,by omega,by go_num,D.o,_,rfl⟩
     case measure=>simp [intOf];omega
   | false=>
     have D:Hid (db fp l m=false):=J.o.trans (by rw [G.o,hs,Bool.false_and]);go_wp2
     go_quiet (fail);go_wp2
     go_ret;exact ⟨by rw [D.o];rfl,_,World.drewN_drewN _ _ _⟩
  have D:Hid (db fp l m=true):=J.o.trans (yx fp l m k F E.o);go_wp2
  go_ret;exact ⟨by rw [D.o];rfl,n,rfl⟩
end Go.Proofs.YtjdnmblggdobgaaGreat
