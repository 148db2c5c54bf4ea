import Derived.Test.YtjdnmblggdobgaaGreatJLHasLAsk
import Derived.Laws.StructEq
set_option maxHeartbeats 4000000
namespace Go.Proofs.YtjdnmblggdobgaaGreat
open Go.RowKit Go.Maps
theorem kindEql (k A:Int) (c u:ByteArray) (w:World):(binOp BinOp.eql 123 (.agg #[.int .i64 k,.string c]) (.agg #[.int .i64 A,.string u])).run Tryz.prog w=.ok (.bool ((k==A)&&(c.toList==u.toList))) w:=by
 have J:=Tryz.underlying3;have G:=Tryz.isAgg3;have N:=Tryz.sizeOf3;have L:=Tryz.underlying9;have I:=Tryz.isAgg9;have O:=Tryz.sizeOf9;have E:Tryz.prog.underlying 123=some (.struct (Tryz.prog.fieldsOf 123)):=by kernel_rfl
 have F:Tryz.prog.stoodInHeld 123=false:=by kernel_rfl
 rw [run_eql_struct,show (10000:Nat)=9999+1 from rfl,run_equalIn_agg w 9999 123 _ _ E F];simp only [Program.fieldsOf,Tryz.underlying123];go_simp;by_cases h1:k=A<;>by_cases D:c.toList=u.toList<;>simp [h1,D]
theorem kindGuard:Tryz.prog.eqGuardType Tryz.prog.depth 123=false:=by kernel_rfl
theorem zd8 (w:World) (B b:Nat) (l:List am) (vC vS vF vN vT vL:Value) (X:Nat) (u:Web B w b l vC vS vF vN vT vL X) (he:0<=num l f9):
 Calls Tryz.prog 208 #[.pointer (some ⟨b,0,none⟩)] w fun r w'=>r=.returned (.bool (j9 l))/\Below w.heap.size w w':=by
 have J:∀n,ia (w.drewN n) X l:=fun n=>u.nm.below (mp (br w.heap.size w) n) u.nm.lt;have c5:=ba u.blk 5 (x:=.map (some X)) rfl;have c1:=ba u.blk 1 (x:=vS) rfl;have c2:=ba u.blk 2 (x:=vF) rfl;have E:Hid (∀s,s.size<=maxLen->∀n,Calls Tryz.prog 199 #[.pointer (some ⟨b,0,none⟩),.string s] (w.drewN n) fun r w'=>r=.returned (.int .i64 (num l s))/\w'=w.drewN n):=fun s hs n=>zcg _ b X l s c5 (J n) hs;obtain ⟨n,hn⟩:=Int.eq_ofNat_of_zero_le he;have an:n<l.length:=by have:=(za2 l f9).2;omega
 obtain ⟨t,Z⟩:∃t,num l fd=t:=⟨_,rfl⟩;have D:=za2 l fd;have A:=za2 l (b8 l n).bq;rw [Z]at D;have HA:Hid (j9 l=(decide (dj l n=t)&&(match fieldsOf l n with | []=>false | f::_=>dw f.kind ⟨1,⟨#[]⟩⟩))):=by show j9 l=_;unfold j9;rw [Z,hn];rfl
 have I:((List.range l.length).map (dj l)).length=l.length:=by simp
 have G:((List.range l.length).map (fieldsOf l)).length=l.length:=by simp
 obtain ⟨aS,cS,O,-⟩:=u.sS;obtain ⟨aF,cF,N,-⟩:=u.sF;rw [I]at O;rw [G]at N;subst O N;obtain ⟨bS,oS,rfl,ah,e1⟩:=u.sS.atI n (by omega);obtain ⟨bF,oF,aL,cL,rfl,af,F,W⟩:=u.sF.atSl n (by omega);have g1:((List.range l.length).map (dj l))[n]'(by omega)=dj l n:=by simp
 have g2:((List.range l.length).map (fieldsOf l))[n]'(by omega)=fieldsOf l n:=by simp
 rw [g1]at e1;rw [g2]at F W;have L:dj l n=num l (b8 l n).bq:=rfl;rw [<-L]at A;clear g1 g2 I G L u c5 J;generalize dj l n=s at*;generalize fieldsOf l n=fs at*;have HE:Hid (num l f9=n):=hn;have HT:Hid (num l fd=t):=Z;have aq:=D.1;have ar:=D.2;have ao:=A.1;have ap:=A.2;have ad:(0:Int)<=n:=by omega
 have ae:(n:Int)<l.length:=by omega
 clear hn Z he D A;by_cases hst:s=t
 ·subst hst;cases fs with
  | nil=>
    have aa:w.cell? ⟨bF,oF+n,none⟩=some (.slice aL 0 cL):=F;clear F W;go_enter Tryz.func208,Tryz.ntmps208;go_wp2_with (go_at_call 199;refine (E.o f9 (by decide) 0).mono ?_;rintro r w1 ⟨h1,rfl⟩;rw [HE.o]at h1;subst h1);go_quiet (first | (go_at_call 199;exact Calls.quiet_of_same ((E.o fd (by decide) _).mono fun _ _ h=>⟨h.1.trans (by rw [HT.o]),h.2⟩)));go_wp2_with fail;go_ret;exact ⟨by rw [HA.o];simp,mp (mp (br _ _) _) _⟩
  | cons f fs=>
    obtain ⟨bf,of,rfl,ai,y0,y1,y2,z1,z2⟩:=W.atF 0 (by simp);have aa:w.cell? ⟨bF,oF+n,none⟩=some (.slice (some ⟨bf,of,none⟩) (fs.length+1) cL):=F;have av:w.cell? ⟨bf,of+1,none⟩=some (.int .i64 f.kind.kind):=by simpa using y1
    have aw:w.cell? ⟨bf,of+2,none⟩=some (.string f.kind.da):=by simpa using y2
    have au:f.kind.da.size<=maxLen:=z2;have aj:(0:Int)<((fs.length+1:Nat):Int):=by omega
    clear F W y0 y1 y2 z1 z2;have ak:=kindEql f.kind.kind 1 f.kind.da ⟨#[]⟩;have al:=kindGuard;go_enter Tryz.func208,Tryz.ntmps208;go_wp2_with (go_at_call 199;refine (E.o f9 (by decide) 0).mono ?_;rintro r w1 ⟨h1,rfl⟩;rw [HE.o]at h1;subst h1);go_quiet (first | (go_at_call 199;exact Calls.quiet_of_same ((E.o fd (by decide) _).mono fun _ _ h=>⟨h.1.trans (by rw [HT.o]),h.2⟩)));go_wp2_with fail;go_ret;have V:(f.kind.kind==1&&f.kind.da.toList.isEmpty)=j9 l:=by
     rw [HA.o,dw];by_cases Y:f.kind.da=⟨#[]⟩
     ·rw [zcb Y,Bool.eq_iff_iff];simp [Y]
     have:f.kind.da.toList.isEmpty=false:=by
      cases hq:f.kind.da.toList with
      | nil=>exact absurd (zca hq) Y
      | cons _ _=>rfl
     rw [this];simp [Y]
    exact ⟨by rw [<-V];rfl,mp (mp (br _ _) _) _⟩
 have hd:(s==t)=false:=by simpa using hst
 have ac:decide (s=t)=false:=by simpa using hst
 clear W;go_enter Tryz.func208,Tryz.ntmps208;go_wp2_with (go_at_call 199;refine (E.o f9 (by decide) 0).mono ?_;rintro r w1 ⟨h1,rfl⟩;rw [HE.o]at h1;subst h1);go_quiet (first | (go_at_call 199;exact Calls.quiet_of_same ((E.o fd (by decide) _).mono fun _ _ h=>⟨h.1.trans (by rw [HT.o]),h.2⟩)));go_wp2_with fail;go_ret;exact ⟨by rw [HA.o,ac];rfl,mp (mp (br _ _) _) _⟩
def cz {α:Type} (p:α->α->Bool):List α->List α->Bool
 | [],[]=>true
 | x::l,y::m=>p x y&&cz p l m
 | _,_=>false
theorem zd9 {α:Type} (p:α->α->Bool):∀(l m:List α),l.length≠m.length->cz p l m=false
 | [],[],h=>absurd rfl h
 | x::l,y::m,h=>by rw [cz,zd9 p l m (fun e=>h (by simp [e]))];simp
 | [],_::_,_=>rfl
 | _::_,[],_=>rfl
theorem zea {α:Type} (p:α->α->Bool) (l m:List α) (k:Nat) (u:k<l.length) (A:k<m.length):cz p (l.drop k) (m.drop k)=(p l[k] m[k]&&cz p (l.drop (k+1)) (m.drop (k+1))):=by rw [List.drop_eq_getElem_cons u,List.drop_eq_getElem_cons A,cz]
theorem zeb {α:Type} (p:α->α->Bool) (l m:List α) (k:Nat) (u:¬k<l.length) (h:l.length=m.length):cz p (l.drop k) (m.drop k)=true:=by rw [List.drop_of_length_le (by omega),List.drop_of_length_le (by omega),cz]
theorem zec (a b:ByteArray):(a.toList==b.toList)=decide (a=b):=by rw [Bool.eq_iff_iff,beq_iff_eq,decide_eq_true_iff];exact ⟨zb9,fun h=>by rw [h]⟩
def fp (a b:Int):Bool:=a==b
def fx (a b:ByteArray):Bool:=a.toList==b.toList
def ey (a b:bo):Bool:=decide (a.name=b.name)&&dw a.kind b.kind
def fg (a b:cd):Bool:=(a.da==b.da)&&(a.meth==b.meth)
theorem zed (k A:Int) (c u:ByteArray):((k==A)&&(c.toList==u.toList))=dw ⟨k,c⟩ ⟨A,u⟩:=by rw [zec,dw,Bool.eq_iff_iff];simp
theorem kindNeq (x y:ew) (w:World):(binOp BinOp.neq 123 (.agg #[.int .i64 x.kind,.string x.da]) (.agg #[.int .i64 y.kind,.string y.da])).run Tryz.prog w=.ok (.bool (!dw x y)) w:=by
 have G:=Tryz.underlying3;have E:=Tryz.isAgg3;have J:=Tryz.sizeOf3;have I:=Tryz.underlying9;have F:=Tryz.isAgg9;have L:=Tryz.sizeOf9;have A:Tryz.prog.underlying 123=some (.struct (Tryz.prog.fieldsOf 123)):=by kernel_rfl
 have D:Tryz.prog.stoodInHeld 123=false:=by kernel_rfl
 rw [run_neq_struct,show (10000:Nat)=9999+1 from rfl,run_equalIn_agg w 9999 123 _ _ A D];simp only [Program.fieldsOf,Tryz.underlying123];go_simp;rw [<-zed x.kind y.kind x.da y.da];by_cases h1:x.kind=y.kind<;>by_cases u:x.da.toList=y.da.toList<;>simp [h1,u]
theorem kindNeqG:Tryz.prog.eqGuardType Tryz.prog.depth 123=false:=by kernel_rfl
theorem targNeq (x y:cd) (w:World):(binOp BinOp.neq 233 (.agg #[.int .i64 x.da,.int .i64 x.meth]) (.agg #[.int .i64 y.da,.int .i64 y.meth])).run Tryz.prog w=.ok (.bool (!fg x y)) w:=by
 have G:=Tryz.underlying3;have E:=Tryz.isAgg3;have J:=Tryz.sizeOf3;have I:=Tryz.underlying9;have F:=Tryz.isAgg9;have L:=Tryz.sizeOf9;have A:Tryz.prog.underlying 233=some (.struct (Tryz.prog.fieldsOf 233)):=by kernel_rfl
 have D:Tryz.prog.stoodInHeld 233=false:=by kernel_rfl
 rw [run_neq_struct,show (10000:Nat)=9999+1 from rfl,run_equalIn_agg w 9999 233 _ _ A D];simp only [Program.fieldsOf,Tryz.underlying233];go_simp;rw [fg];by_cases h1:x.da=y.da<;>by_cases u:x.meth=y.meth<;>simp [h1,u]
theorem targNeqG:Tryz.prog.eqGuardType Tryz.prog.depth 233=false:=by kernel_rfl
theorem fieldNeq (x y:bo) (w:World):(binOp BinOp.neq 125 (.agg #[.string x.name,.int .i64 x.kind.kind,.string x.kind.da]) (.agg #[.string y.name,.int .i64 y.kind.kind,.string y.kind.da])).run Tryz.prog w=.ok (.bool (!ey x y)) w:=by
 have L:=Tryz.underlying3;have G:=Tryz.isAgg3;have V:=Tryz.sizeOf3;have N:=Tryz.underlying9;have I:=Tryz.isAgg9;have W:=Tryz.sizeOf9;have O:=Tryz.underlying123;have J:=Tryz.isAgg123;have X:=Tryz.sizeOf123;have D:Tryz.prog.underlying 123=some (.struct (Tryz.prog.fieldsOf 123)):=by kernel_rfl
 have F:Tryz.prog.stoodInHeld 123=false:=by kernel_rfl
 have A:Tryz.prog.underlying 125=some (.struct (Tryz.prog.fieldsOf 125)):=by kernel_rfl
 have E:Tryz.prog.stoodInHeld 125=false:=by kernel_rfl
 rw [run_neq_struct,show (10000:Nat)=9999+1 from rfl,run_equalIn_agg w 9999 125 _ _ A E];simp only [Program.fieldsOf,Tryz.underlying125];go_simp;rw [ey,<-zec,<-zed x.kind.kind y.kind.kind x.kind.da y.kind.da];by_cases h0:x.name.toList=y.name.toList<;>by_cases h1:x.kind.kind=y.kind.kind<;>by_cases u:x.kind.da.toList=y.kind.da.toList<;>simp [h0,h1,u]
theorem fieldNeqG:Tryz.prog.eqGuardType Tryz.prog.depth 125=false:=by kernel_rfl
theorem zee (w:World) (M M':Nat->Prop) (u v:Value) (l m:List Int) (V:SL 1 RI M w u l) (W:SL 1 RI M' w v m):
 Calls Tryz.prog 259 #[u,v] w fun r w'=>r=.returned (.bool (cz fp l m))/\∃n,w'=w.drewN n:=by
 have Z:=ag V;have N:=ag W;obtain ⟨au,cu,rfl,_,hl,-⟩:=V;obtain ⟨av,cv,rfl,_,O,-⟩:=W;unfold maxLen at hl O;by_cases A:l.length=m.length
 rotate_left
 ·have h0:¬(l.length:Int)=m.length:=by omega
  have Y:=ag (zd9 fp l m A);clear A;go_enter Tryz.func259,Tryz.ntmps259;go_wp2
  go_ret;exact ⟨by rw [Y.o];rfl,0,rfl⟩
 rw [<-A]at N ⊢;have E:=ag A;clear O A;go_enter Tryz.func259,Tryz.ntmps259;go_wp2
 go_loopw [13] (fun i wr=>∃k:Nat,k<=l.length/\i=.int .i64 k/\Hid (cz fp l m=cz fp (l.drop k) (m.drop k))/\∃n,wr=w.drewN n) (fun i _=>l.length - (intOf i).toNat)
 case atStart=>exact ⟨0,n0q _,rfl,rfl,0,rfl⟩
 case round=>
  obtain ⟨k,hk,rfl,J,n,rfl⟩:=hrel;by_cases F:k<l.length
  ·have I:k<m.length:=by have:=E.o;omega
   obtain ⟨b,off,rfl,_,c0⟩:=Z.o.atI k F;obtain ⟨b2,X,rfl,_,d0⟩:=N.o.atI k I;have G:=ag (zea fp l m k F I);generalize l[k]=x at*;generalize m[k]=y at*;cases hs:fp x y with
   | true=>
     have L:x=y:=by simpa [fp]using hs
     have D:Hid (cz fp l m=cz fp (l.drop (k+1)) (m.drop (k+1))):=J.o.trans (by rw [G.o,hs,Bool.true_and]);go_wp2
     go_quiet (fail);go_wp2
     go_roundw
     case rel=>exact ⟨k+1,by omega,by go_num,D.o,_,rfl⟩
     case measure=>simp [intOf];omega
   | false=>
     have L:¬x=y:=by simpa [fp]using hs
     have D:Hid (cz fp l m=false):=J.o.trans (by rw [G.o,hs,Bool.false_and]);go_wp2
     go_quiet (fail);go_wp2
     go_ret;exact ⟨by rw [D.o];rfl,_,World.drewN_drewN _ _ _⟩
  have D:Hid (cz fp l m=true):=J.o.trans (zeb fp l m k F E.o);go_wp2
  go_ret;exact ⟨by rw [D.o];rfl,n,rfl⟩
theorem zef (w:World) (M M':Nat->Prop) (u v:Value) (l m:List ew) (O:SL 2 RK M w u l) (V:SL 2 RK M' w v m):
 Calls Tryz.prog 302 #[u,v] w fun r w'=>r=.returned (.bool (cz dw l m))/\∃n,w'=w.drewN n:=by
 have Y:=ag O;have L:=ag V;obtain ⟨au,cu,rfl,_,Z,-⟩:=O;obtain ⟨av,cv,rfl,_,N,-⟩:=V;unfold maxLen at Z N;by_cases A:l.length=m.length
 rotate_left
 ·have h0:¬(l.length:Int)=m.length:=by omega
  have X:=ag (zd9 dw l m A);clear A;go_enter Tryz.func302,Tryz.ntmps302;go_wp2
  go_ret;exact ⟨by rw [X.o];rfl,0,rfl⟩
 rw [<-A]at L ⊢;have E:=ag A;clear N A;go_enter Tryz.func302,Tryz.ntmps302;go_wp2
 go_loopw [13] (fun i wr=>∃k:Nat,k<=l.length/\i=.int .i64 k/\Hid (cz dw l m=cz dw (l.drop k) (m.drop k))/\∃n,wr=w.drewN n) (fun i _=>l.length - (intOf i).toNat)
 case atStart=>exact ⟨0,n0q _,rfl,rfl,0,rfl⟩
 case round=>
  obtain ⟨k,hk,rfl,J,n,rfl⟩:=hrel;by_cases F:k<l.length
  ·have I:k<m.length:=by have:=E.o;omega
   obtain ⟨b,off,rfl,_,c0,c1,_⟩:=Y.o.atK k F;obtain ⟨b2,W,rfl,_,d0,d1,_⟩:=L.o.atK k I;have G:=ag (zea dw l m k F I);have aa:=kindNeq l[k] m[k];have ac:=kindNeqG;generalize l[k]=x at*;generalize m[k]=y at*;cases hs:dw x y with
   | true=>
     have D:Hid (cz dw l m=cz dw (l.drop (k+1)) (m.drop (k+1))):=J.o.trans (by rw [G.o,hs,Bool.true_and]);go_wp2
     go_quiet (fail);go_wp2
     go_roundw
     case rel=>exact ⟨k+1,by omega,by go_num,D.o,_,rfl⟩
     case measure=>simp [intOf];omega
   | false=>
     have D:Hid (cz dw l m=false):=J.o.trans (by rw [G.o,hs,Bool.false_and]);go_wp2
     go_quiet (fail);go_wp2
     go_ret;exact ⟨by rw [D.o];rfl,_,World.drewN_drewN _ _ _⟩
  have D:Hid (cz dw l m=true):=J.o.trans (zeb dw l m k F E.o);go_wp2
  go_ret;exact ⟨by rw [D.o];rfl,n,rfl⟩
theorem zeg (w:World) (M M':Nat->Prop) (u v:Value) (l m:List bo) (O:SL 3 RF M w u l) (V:SL 3 RF M' w v m):
 Calls Tryz.prog 261 #[u,v] w fun r w'=>r=.returned (.bool (cz ey l m))/\∃n,w'=w.drewN n:=by
 have Y:=ag O;have L:=ag V;obtain ⟨au,cu,rfl,_,Z,-⟩:=O;obtain ⟨av,cv,rfl,_,N,-⟩:=V;unfold maxLen at Z N;by_cases A:l.length=m.length
 rotate_left
 ·have h0:¬(l.length:Int)=m.length:=by omega
  have X:=ag (zd9 ey l m A);clear A;go_enter Tryz.func261,Tryz.ntmps261;go_wp2
  go_ret;exact ⟨by rw [X.o];rfl,0,rfl⟩
 rw [<-A]at L ⊢;have E:=ag A;clear N A;go_enter Tryz.func261,Tryz.ntmps261;go_wp2
 go_loopw [13] (fun i wr=>∃k:Nat,k<=l.length/\i=.int .i64 k/\Hid (cz ey l m=cz ey (l.drop k) (m.drop k))/\∃n,wr=w.drewN n) (fun i _=>l.length - (intOf i).toNat)
 case atStart=>exact ⟨0,n0q _,rfl,rfl,0,rfl⟩
 case round=>
  obtain ⟨k,hk,rfl,J,n,rfl⟩:=hrel;by_cases F:k<l.length
  ·have I:k<m.length:=by have:=E.o;omega
   obtain ⟨b,off,rfl,_,c0,c1,c2,_⟩:=Y.o.atF k F;obtain ⟨b2,W,rfl,_,d0,d1,d2,_⟩:=L.o.atF k I;have G:=ag (zea ey l m k F I);have aa:=fieldNeq l[k] m[k];have ac:=fieldNeqG;generalize l[k]=x at*;generalize m[k]=y at*;cases hs:ey x y with
   | true=>
     have D:Hid (cz ey l m=cz ey (l.drop (k+1)) (m.drop (k+1))):=J.o.trans (by rw [G.o,hs,Bool.true_and]);go_wp2
     go_quiet (fail);go_wp2
     go_roundw
     case rel=>exact ⟨k+1,by omega,by go_num,D.o,_,rfl⟩
     case measure=>simp [intOf];omega
   | false=>
     have D:Hid (cz ey l m=false):=J.o.trans (by rw [G.o,hs,Bool.false_and]);go_wp2
     go_quiet (fail);go_wp2
     go_ret;exact ⟨by rw [D.o];rfl,_,World.drewN_drewN _ _ _⟩
  have D:Hid (cz ey l m=true):=J.o.trans (zeb ey l m k F E.o);go_wp2
  go_ret;exact ⟨by rw [D.o];rfl,n,rfl⟩
theorem zeh (w:World) (M M':Nat->Prop) (u v:Value) (l m:List ByteArray) (V:SL 1 RS M w u l) (W:SL 1 RS M' w v m):
 Calls Tryz.prog 263 #[u,v] w fun r w'=>r=.returned (.bool (cz fx l m))/\∃n,w'=w.drewN n:=by
 have Z:=ag V;have N:=ag W;obtain ⟨au,cu,rfl,_,hl,-⟩:=V;obtain ⟨av,cv,rfl,_,O,-⟩:=W;unfold maxLen at hl O;by_cases A:l.length=m.length
 rotate_left
 ·have h0:¬(l.length:Int)=m.length:=by omega
  have Y:=ag (zd9 fx l m A);clear A;go_enter Tryz.func263,Tryz.ntmps263;go_wp2
  go_ret;exact ⟨by rw [Y.o];rfl,0,rfl⟩
 rw [<-A]at N ⊢;have E:=ag A;clear O A;go_enter Tryz.func263,Tryz.ntmps263;go_wp2
 go_loopw [13] (fun i wr=>∃k:Nat,k<=l.length/\i=.int .i64 k/\Hid (cz fx l m=cz fx (l.drop k) (m.drop k))/\∃n,wr=w.drewN n) (fun i _=>l.length - (intOf i).toNat)
 case atStart=>exact ⟨0,n0q _,rfl,rfl,0,rfl⟩
 case round=>
  obtain ⟨k,hk,rfl,J,n,rfl⟩:=hrel;by_cases F:k<l.length
  ·have I:k<m.length:=by have:=E.o;omega
   obtain ⟨b,off,rfl,_,c0,_⟩:=Z.o.atS k F;obtain ⟨b2,X,rfl,_,d0,_⟩:=N.o.atS k I;have G:=ag (zea fx l m k F I);generalize l[k]=x at*;generalize m[k]=y at*;cases hs:fx x y with
   | true=>
     have L:(x.toList==y.toList)=true:=hs;have D:Hid (cz fx l m=cz fx (l.drop (k+1)) (m.drop (k+1))):=J.o.trans (by rw [G.o,hs,Bool.true_and]);go_wp2
     go_quiet (fail);go_wp2
     go_roundw
     case rel=>exact ⟨k+1,by omega,by go_num,D.o,_,rfl⟩
     case measure=>simp [intOf];omega
   | false=>
     have L:(x.toList==y.toList)=false:=hs;have D:Hid (cz fx l m=false):=J.o.trans (by rw [G.o,hs,Bool.false_and]);go_wp2
     go_quiet (fail);go_wp2
     go_ret;exact ⟨by rw [D.o];rfl,_,World.drewN_drewN _ _ _⟩
  have D:Hid (cz fx l m=true):=J.o.trans (zeb fx l m k F E.o);go_wp2
  go_ret;exact ⟨by rw [D.o];rfl,n,rfl⟩
theorem zei (w:World) (M M':Nat->Prop) (u v:Value) (l m:List cd) (O:SL 2 RT M w u l) (V:SL 2 RT M' w v m):
 Calls Tryz.prog 265 #[u,v] w fun r w'=>r=.returned (.bool (cz fg l m))/\∃n,w'=w.drewN n:=by
 have Y:=ag O;have L:=ag V;obtain ⟨au,cu,rfl,_,Z,-⟩:=O;obtain ⟨av,cv,rfl,_,N,-⟩:=V;unfold maxLen at Z N;by_cases A:l.length=m.length
 rotate_left
 ·have h0:¬(l.length:Int)=m.length:=by omega
  have X:=ag (zd9 fg l m A);clear A;go_enter Tryz.func265,Tryz.ntmps265;go_wp2
  go_ret;exact ⟨by rw [X.o];rfl,0,rfl⟩
 rw [<-A]at L ⊢;have E:=ag A;clear N A;go_enter Tryz.func265,Tryz.ntmps265;go_wp2
 go_loopw [13] (fun i wr=>∃k:Nat,k<=l.length/\i=.int .i64 k/\Hid (cz fg l m=cz fg (l.drop k) (m.drop k))/\∃n,wr=w.drewN n) (fun i _=>l.length - (intOf i).toNat)
 case atStart=>exact ⟨0,n0q _,rfl,rfl,0,rfl⟩
 case round=>
  obtain ⟨k,hk,rfl,J,n,rfl⟩:=hrel;by_cases F:k<l.length
  ·have I:k<m.length:=by have:=E.o;omega
   obtain ⟨b,off,rfl,_,c0,c1⟩:=Y.o.atT k F;obtain ⟨b2,W,rfl,_,d0,d1⟩:=L.o.atT k I;have G:=ag (zea fg l m k F I);have aa:=targNeq l[k] m[k];have ac:=targNeqG;generalize l[k]=x at*;generalize m[k]=y at*;cases hs:fg x y with
   | true=>
     have D:Hid (cz fg l m=cz fg (l.drop (k+1)) (m.drop (k+1))):=J.o.trans (by rw [G.o,hs,Bool.true_and]);go_wp2
     go_quiet (fail);go_wp2
     go_roundw
     case rel=>exact ⟨k+1,by omega,by go_num,D.o,_,rfl⟩
     case measure=>simp [intOf];omega
   | false=>
     have D:Hid (cz fg l m=false):=J.o.trans (by rw [G.o,hs,Bool.false_and]);go_wp2
     go_quiet (fail);go_wp2
     go_ret;exact ⟨by rw [D.o];rfl,_,World.drewN_drewN _ _ _⟩
  have D:Hid (cz fg l m=true):=J.o.trans (zeb fg l m k F E.o);go_wp2
  go_ret;exact ⟨by rw [D.o];rfl,n,rfl⟩
theorem zej (w:World) (M M':Nat->Prop) (u v:Value) (l m:List (List bo)) (V:SL 1 (jv 3 RF) M w u l) (W:SL 1 (jv 3 RF) M' w v m):
 Calls Tryz.prog 260 #[u,v,.func (.func 261) #[] #[]] w fun r w'=>r=.returned (.bool (cz (cz ey) l m))/\∃n,w'=w.drewN n:=by
 have HU:=ag V;have N:=ag W;obtain ⟨au,cu,rfl,_,hl,-⟩:=V;obtain ⟨av,cv,rfl,_,O,-⟩:=W;unfold maxLen at hl O;by_cases A:l.length=m.length
 rotate_left
 ·have h0:¬(l.length:Int)=m.length:=by omega
  have HR:=ag (zd9 (cz ey) l m A);clear A;go_enter Tryz.func260,Tryz.ntmps260;go_wp2
  go_ret;exact ⟨by rw [HR.o];rfl,0,rfl⟩
 rw [<-A]at N ⊢;have E:=ag A;clear O A;go_enter Tryz.func260,Tryz.ntmps260;go_wp2
 go_loopw [17] (fun i wr=>∃k:Nat,k<=l.length/\i=.int .i64 k/\Hid (cz (cz ey) l m=cz (cz ey) (l.drop k) (m.drop k))/\∃n,wr=w.drewN n) (fun i _=>l.length - (intOf i).toNat)
 case atStart=>exact ⟨0,n0q _,rfl,rfl,0,rfl⟩
 case round=>
  obtain ⟨k,hk,rfl,L,n,rfl⟩:=hrel;by_cases F:k<l.length
  ·have I:k<m.length:=by have:=E.o;omega
   obtain ⟨b,off,a1,k1,rfl,_,c0,Y⟩:=HU.o.atSl k F;obtain ⟨b2,X,a2,k2,rfl,_,d0,Z⟩:=N.o.atSl k I;have G:=ag (zea (cz ey) l m k F I);generalize l[k]=x at*;generalize m[k]=y at*;have J:=ag (zeg (w.drewN n) M M' _ _ x y (Y.kept ⟨nlq _,fun _ _ _=>rfl⟩ fun _ _ h=>h) (Z.kept ⟨nlq _,fun _ _ _=>rfl⟩ fun _ _ h=>h));clear Y Z;cases hs:cz ey x y with
   | true=>
     rw [hs]at J;have D:Hid (cz (cz ey) l m=cz (cz ey) (l.drop (k+1)) (m.drop (k+1))):=L.o.trans (by rw [G.o,hs,Bool.true_and]);clear hs;go_wp2_with (first | (go_at_call 261;refine J.o.mono ?_;rintro r w7 ⟨rfl,n7,rfl⟩));go_roundw
     case rel=>exact ⟨k+1,by omega,by go_num,D.o,_,rfl⟩
     case measure=>simp [intOf];omega
   | false=>
     rw [hs]at J;have D:Hid (cz (cz ey) l m=false):=L.o.trans (by rw [G.o,hs,Bool.false_and]);clear hs;go_wp2_with (first | (go_at_call 261;refine J.o.mono ?_;rintro r w7 ⟨rfl,n7,rfl⟩));go_ret;exact ⟨by rw [D.o];rfl,_,rfl⟩
  have D:Hid (cz (cz ey) l m=true):=L.o.trans (zeb (cz ey) l m k F E.o);go_wp2
  go_ret;exact ⟨by rw [D.o];rfl,n,rfl⟩
theorem zek (w:World) (M M':Nat->Prop) (u v:Value) (l m:List (List ByteArray)) (V:SL 1 (jv 1 RS) M w u l) (W:SL 1 (jv 1 RS) M' w v m):
 Calls Tryz.prog 262 #[u,v,.func (.func 263) #[] #[]] w fun r w'=>r=.returned (.bool (cz (cz fx) l m))/\∃n,w'=w.drewN n:=by
 have HU:=ag V;have N:=ag W;obtain ⟨au,cu,rfl,_,hl,-⟩:=V;obtain ⟨av,cv,rfl,_,O,-⟩:=W;unfold maxLen at hl O;by_cases A:l.length=m.length
 rotate_left
 ·have h0:¬(l.length:Int)=m.length:=by omega
  have HR:=ag (zd9 (cz fx) l m A);clear A;go_enter Tryz.func262,Tryz.ntmps262;go_wp2
  go_ret;exact ⟨by rw [HR.o];rfl,0,rfl⟩
 rw [<-A]at N ⊢;have E:=ag A;clear O A;go_enter Tryz.func262,Tryz.ntmps262;go_wp2
 go_loopw [17] (fun i wr=>∃k:Nat,k<=l.length/\i=.int .i64 k/\Hid (cz (cz fx) l m=cz (cz fx) (l.drop k) (m.drop k))/\∃n,wr=w.drewN n) (fun i _=>l.length - (intOf i).toNat)
 case atStart=>exact ⟨0,n0q _,rfl,rfl,0,rfl⟩
 case round=>
  obtain ⟨k,hk,rfl,L,n,rfl⟩:=hrel;by_cases F:k<l.length
  ·have I:k<m.length:=by have:=E.o;omega
   obtain ⟨b,off,a1,k1,rfl,_,c0,Y⟩:=HU.o.atSl k F;obtain ⟨b2,X,a2,k2,rfl,_,d0,Z⟩:=N.o.atSl k I;have G:=ag (zea (cz fx) l m k F I);generalize l[k]=x at*;generalize m[k]=y at*;have J:=ag (zeh (w.drewN n) M M' _ _ x y (Y.kept ⟨nlq _,fun _ _ _=>rfl⟩ fun _ _ h=>h) (Z.kept ⟨nlq _,fun _ _ _=>rfl⟩ fun _ _ h=>h));clear Y Z;cases hs:cz fx x y with
   | true=>
     rw [hs]at J;have D:Hid (cz (cz fx) l m=cz (cz fx) (l.drop (k+1)) (m.drop (k+1))):=L.o.trans (by rw [G.o,hs,Bool.true_and]);clear hs;go_wp2_with (first | (go_at_call 263;refine J.o.mono ?_;rintro r w7 ⟨rfl,n7,rfl⟩));go_roundw
     case rel=>exact ⟨k+1,by omega,by go_num,D.o,_,rfl⟩
     case measure=>simp [intOf];omega
   | false=>
     rw [hs]at J;have D:Hid (cz (cz fx) l m=false):=L.o.trans (by rw [G.o,hs,Bool.false_and]);clear hs;go_wp2_with (first | (go_at_call 263;refine J.o.mono ?_;rintro r w7 ⟨rfl,n7,rfl⟩));go_ret;exact ⟨by rw [D.o];rfl,_,rfl⟩
  have D:Hid (cz (cz fx) l m=true):=L.o.trans (zeb (cz fx) l m k F E.o);go_wp2
  go_ret;exact ⟨by rw [D.o];rfl,n,rfl⟩
theorem zel (w:World) (M M':Nat->Prop) (u v:Value) (l m:List (List cd)) (V:SL 1 (jv 2 RT) M w u l) (W:SL 1 (jv 2 RT) M' w v m):
 Calls Tryz.prog 264 #[u,v,.func (.func 265) #[] #[]] w fun r w'=>r=.returned (.bool (cz (cz fg) l m))/\∃n,w'=w.drewN n:=by
 have HU:=ag V;have N:=ag W;obtain ⟨au,cu,rfl,_,hl,-⟩:=V;obtain ⟨av,cv,rfl,_,O,-⟩:=W;unfold maxLen at hl O;by_cases A:l.length=m.length
 rotate_left
 ·have h0:¬(l.length:Int)=m.length:=by omega
  have HR:=ag (zd9 (cz fg) l m A);clear A;go_enter Tryz.func264,Tryz.ntmps264;go_wp2
  go_ret;exact ⟨by rw [HR.o];rfl,0,rfl⟩
 rw [<-A]at N ⊢;have E:=ag A;clear O A;go_enter Tryz.func264,Tryz.ntmps264;go_wp2
 go_loopw [17] (fun i wr=>∃k:Nat,k<=l.length/\i=.int .i64 k/\Hid (cz (cz fg) l m=cz (cz fg) (l.drop k) (m.drop k))/\∃n,wr=w.drewN n) (fun i _=>l.length - (intOf i).toNat)
 case atStart=>exact ⟨0,n0q _,rfl,rfl,0,rfl⟩
 case round=>
  obtain ⟨k,hk,rfl,L,n,rfl⟩:=hrel;by_cases F:k<l.length
  ·have I:k<m.length:=by have:=E.o;omega
   obtain ⟨b,off,a1,k1,rfl,_,c0,Y⟩:=HU.o.atSl k F;obtain ⟨b2,X,a2,k2,rfl,_,d0,Z⟩:=N.o.atSl k I;have G:=ag (zea (cz fg) l m k F I);generalize l[k]=x at*;generalize m[k]=y at*;have J:=ag (zei (w.drewN n) M M' _ _ x y (Y.kept ⟨nlq _,fun _ _ _=>rfl⟩ fun _ _ h=>h) (Z.kept ⟨nlq _,fun _ _ _=>rfl⟩ fun _ _ h=>h));clear Y Z;cases hs:cz fg x y with
   | true=>
     rw [hs]at J;have D:Hid (cz (cz fg) l m=cz (cz fg) (l.drop (k+1)) (m.drop (k+1))):=L.o.trans (by rw [G.o,hs,Bool.true_and]);clear hs;go_wp2_with (first | (go_at_call 265;refine J.o.mono ?_;rintro r w7 ⟨rfl,n7,rfl⟩));go_roundw
     case rel=>exact ⟨k+1,by omega,by go_num,D.o,_,rfl⟩
     case measure=>simp [intOf];omega
   | false=>
     rw [hs]at J;have D:Hid (cz (cz fg) l m=false):=L.o.trans (by rw [G.o,hs,Bool.false_and]);clear hs;go_wp2_with (first | (go_at_call 265;refine J.o.mono ?_;rintro r w7 ⟨rfl,n7,rfl⟩));go_ret;exact ⟨by rw [D.o];rfl,_,rfl⟩
  have D:Hid (cz (cz fg) l m=true):=L.o.trans (zeb (cz fg) l m k F E.o);go_wp2
  go_ret;exact ⟨by rw [D.o];rfl,n,rfl⟩
structure be where
 aj:List am
 ax:List Int
 fields:List (List bo)
 names:List (List ByteArray)
 aq:List (List cd)
structure ma (M:Nat->Prop) (w:World) (kC kS kF kN kT:Value) (d:be):Prop where
 C:SL 4 RC M w kC d.aj
 S:SL 1 RI M w kS d.ax
 F:SL 1 (jv 3 RF) M w kF d.fields
 N:SL 1 (jv 1 RS) M w kN d.names
 T:SL 1 (jv 2 RT) M w kT d.aq
theorem ma.kept {M:Nat->Prop} {w w':World} {A G D E I:Value} {d:be} (h:ma M w A G D E I d) (u:Kp M w w'):ma M w' A G D E I d:=
 ⟨h.C.keptC u,h.S.keptI u,h.F.keptSl u fun _ _ h=>h,h.N.keptSl u fun _ _ h=>h,h.T.keptSl u fun _ _ h=>h⟩
def makesB (l:List am) (d:be):Bool:=
 cz fp ((List.range l.length).map (dj l)) d.ax&&cz (cz ey) ((List.range l.length).map (fieldsOf l)) d.fields&&
  cz (cz fx) ((List.range l.length).map (d9 l)) d.names&&cz (cz fg) ((List.range l.length).map (d7 l)) d.aq
theorem zem (w:World) (B b:Nat) (l:List am) (vC vS vF vN vT vL:Value) (Bm:Nat) (G:Web B w b l vC vS vF vN vT vL Bm) (L W O V X:Value) (d:be) (hk:ma (· <B) w L W O V X d):
 Calls Tryz.prog 216 #[.pointer (some ⟨b,0,none⟩),.agg #[L,W,O,V,X]] w fun r w'=>r=.returned (.bool (makesB l d))/\Below w.heap.size w w':=by
 have hb:b<w.heap.size:=ll3 G.bB G.le;have c1:=ba G.blk 1 (x:=vS) rfl;have c2:=ba G.blk 2 (x:=vF) rfl;have c3:=ba G.blk 3 (x:=vN) rfl;have c4:=ba G.blk 4 (x:=vT) rfl;have I:Below w.heap.size w (w.alloc (.cells #[L,W,O,V,X] 36)):=(br _ _).alloc (nlq _) _;have D:=ag I;have J:=I.mono G.le;have u:=hk.kept (Kp.below J);have A:=G.below J;have E:∀n,Kp (· <B) (w.alloc (.cells #[L,W,O,V,X] 36)) ((w.alloc (.cells #[L,W,O,V,X] 36)).drewN n):=fun n=>⟨nlq _,fun _ _ _=>rfl⟩;generalize hS:(List.range l.length).map (dj l)=lS at*;generalize hF:(List.range l.length).map (fieldsOf l)=lF at*;generalize hN:(List.range l.length).map (d9 l)=lN at*;generalize hT:(List.range l.length).map (d7 l)=lT at*;have sS:SL 1 RI (· <B) _ vS lS:=hS ▸ A.sS;have sF:SL 1 (jv 3 RF) (· <B) _ vF lF:=hF ▸ A.sF;have sN:SL 1 (jv 1 RS) (· <B) _ vN lN:=hN ▸ A.sN;have sT:SL 1 (jv 2 RT) (· <B) _ vT lT:=hT ▸ A.sT;have HM:Hid (makesB l d=(cz fp lS d.ax&&cz (cz ey) lF d.fields&&cz (cz fx) lN d.names&&cz (cz fg) lT d.aq)):=by show makesB l d=_;rw [makesB,hS,hF,hN,hT]
 have Y:=ag (fun n=>zee _ _ _ _ _ _ _ (sS.keptI (E n)) (u.S.keptI (E n)));have Z:=ag (fun n=>zej _ _ _ _ _ _ _ (sF.keptSl (E n) fun _ _ h=>h) (u.F.keptSl (E n) fun _ _ h=>h));have H3:=ag (fun n=>zek _ _ _ _ _ _ _ (sN.keptSl (E n) fun _ _ h=>h) (u.N.keptSl (E n) fun _ _ h=>h));have H4:=ag (fun n=>zel _ _ _ _ _ _ _ (sT.keptSl (E n) fun _ _ h=>h) (u.T.keptSl (E n) fun _ _ h=>h));clear G hk A u sS sF sN sT E hS hF hN hT I J;generalize cz fp lS d.ax=e1 at*;generalize cz (cz ey) lF d.fields=e2 at*;generalize cz (cz fx) lN d.names=e3 at*;generalize cz (cz fg) lT d.aq=e4 at*;cases e1 with
 | false=>
   go_enter Tryz.func216,Tryz.ntmps216;go_wp2_with fail;go_quiet (first | (go_at_call 259;exact Calls.quiet_of (Y.o _)) | (go_at_call 260;exact Calls.quiet_of (Z.o _)) | (go_at_call 262;exact Calls.quiet_of (H3.o _)) | (go_at_call 264;exact Calls.quiet_of (H4.o _)));go_wp2_with fail;go_ret;exact ⟨by rw [HM.o];rfl,mp D.o _⟩
 | true=>
   cases e2 with
   | false=>
     go_enter Tryz.func216,Tryz.ntmps216;go_wp2_with fail;go_quiet (first | (go_at_call 259;exact Calls.quiet_of (Y.o _)) | (go_at_call 260;exact Calls.quiet_of (Z.o _)) | (go_at_call 262;exact Calls.quiet_of (H3.o _)) | (go_at_call 264;exact Calls.quiet_of (H4.o _)));go_wp2_with fail;go_ret;exact ⟨by rw [HM.o];rfl,mp D.o _⟩
   | true=>
     cases e3 with
     | false=>
       go_enter Tryz.func216,Tryz.ntmps216;go_wp2_with fail;go_quiet (first | (go_at_call 259;exact Calls.quiet_of (Y.o _)) | (go_at_call 260;exact Calls.quiet_of (Z.o _)) | (go_at_call 262;exact Calls.quiet_of (H3.o _)) | (go_at_call 264;exact Calls.quiet_of (H4.o _)));go_wp2_with fail;go_ret;exact ⟨by rw [HM.o];rfl,mp D.o _⟩
     | true=>
       go_enter Tryz.func216,Tryz.ntmps216;go_wp2_with fail;go_quiet (first | (go_at_call 259;exact Calls.quiet_of (Y.o _)) | (go_at_call 260;exact Calls.quiet_of (Z.o _)) | (go_at_call 262;exact Calls.quiet_of (H3.o _)) | (go_at_call 264;exact Calls.quiet_of (H4.o _)));go_wp2_with fail;go_ret;exact ⟨by rw [HM.o];rfl,mp D.o _⟩
end Go.Proofs.YtjdnmblggdobgaaGreat
namespace Go.Proofs.YtjdnmblggdobgaaGreat
open Go.RowKit
structure bd where
 ab:List Int
 ae:Int
 old:Int
 bg:Int
 bk:Int
 ap:List Int
 next:Int
structure bp where
 loc:Int
 tag:Int
 len:Int
 hash:Int
def wd (ws:List Int) (i:Int):Int:=ws[i.toNat]?.getD 0
theorem zen {ws:List Int} {i:Nat} (h:i<ws.length):wd ws i=ws[i]:=by simp [wd,h]
def eo (n:Nat) (tag:Int):Bool:=decide (1<=tag)&&decide (tag<3+n)
def gw (fs:List (List bo)) (tag:Int):List bo:=fs[(tag - 3).toNat]?.getD []
def dh (fs:List (List bo)) (tag len:Int):Bool:=if 3<=tag then decide (len=(gw fs tag).length) else decide (0<=len)&&decide (len<=500)
def bj (ws:List Int) (loc:Int):bp:=⟨loc,wd ws loc,wd ws (loc+1),wd ws (loc+2)⟩
def bp.fin (t:bp):Int:=t.loc+3+t.len
def ip (n:Nat) (fs:List (List bo)) (ws:List Int) (loc top:Int):Bool:=
 decide (loc+3<=top)&&eo n (wd ws loc)&&dh fs (wd ws loc) (wd ws (loc+1))&&decide ((bj ws loc).fin<=top)
def iq (n:Nat) (fs:List (List bo)) (ws:List Int) (top:Int):Nat->Int->Option (List bp)
 | 0,_=>some []
 | f+1,loc=>if loc<top then (if ip n fs ws loc top=true then (iq n fs ws top f (bj ws loc).fin).map (bj ws loc:: ·) else none) else some []
def b9 (n:Nat) (fs:List (List bo)) (ws:List Int) (loc top:Int):Option (List bp):=iq n fs ws top (top - loc).toNat loc
theorem zeo {fs:List (List bo)} {u len:Int} (h:dh fs u len=true):0<=len:=by
 unfold dh at h;split at h
 ·have:=of_decide_eq_true h;omega
 rw [Bool.and_eq_true]at h;exact of_decide_eq_true h.1
theorem zep {n:Nat} {fs:List (List bo)} {ws:List Int} {u A:Int} (h:ip n fs ws u A=true):u+3<=(bj ws u).fin/\(bj ws u).fin<=A/\eo n (wd ws u)=true/\dh fs (wd ws u) (wd ws (u+1))=true:=by unfold ip at h;simp only [Bool.and_eq_true]at h;obtain ⟨⟨⟨h1,E⟩,D⟩,F⟩:=h;have G:=zeo D;exact ⟨by show u+3<=u+3+wd ws (u+1);omega,of_decide_eq_true F,E,D⟩
theorem zeq (n:Nat) (fs:List (List bo)) (ws:List Int) (u:Int):∀(f:Nat) (loc:Int),u - loc<=f->iq n fs ws u (f+1) loc=iq n fs ws u f loc
 | 0,loc,h=>by rw [iq,iq,if_neg (by omega)]
 | f+1,loc,h=>by
   by_cases A:loc<u
   ·by_cases D:ip n fs ws loc u=true
    ·have G:=(zep D).1;have E:iq n fs ws u (f+1+1) loc=(iq n fs ws u (f+1) (bj ws loc).fin).map (bj ws loc:: ·):=by rw [iq,if_pos A,if_pos D]
     have F:iq n fs ws u (f+1) loc=(iq n fs ws u f (bj ws loc).fin).map (bj ws loc:: ·):=by rw [iq,if_pos A,if_pos D]
     rw [E,F,zeq n fs ws u f _ (by omega)]
    rw [iq,if_pos A,if_neg D,iq,if_pos A,if_neg D]
   rw [iq,if_neg A,iq,if_neg A]
theorem zer (n:Nat) (fs:List (List bo)) (ws:List Int) (A:Int) (u:Int) (f g:Nat) (h:A - u<=f) (D:f<=g):iq n fs ws A g u=iq n fs ws A f u:=by
 obtain ⟨k,rfl⟩:=Nat.exists_eq_add_of_le D;induction k with
 | zero=>rfl
 | succ k ih=>rw [show f+(k+1)=f+k+1 by omega,zeq _ _ _ _ _ _ (by omega),ih (by omega)]
theorem zes {n:Nat} {fs:List (List bo)} {ws:List Int} {u A:Int} (h:¬u<A):b9 n fs ws u A=some []:=by
 unfold b9;cases (A - u).toNat with
 | zero=>rfl
 | succ k=>rw [iq,if_neg h]
theorem zet {n:Nat} {fs:List (List bo)} {ws:List Int} {u A:Int} (h:u<A) (D:ip n fs ws u A=true):b9 n fs ws u A=(b9 n fs ws (bj ws u).fin A).map (bj ws u:: ·):=by have F:=(zep D).1;unfold b9;obtain ⟨k,E⟩:∃k,(A - u).toNat=k+1:=⟨(A - u).toNat - 1,by omega⟩;rw [E,iq,if_pos h,if_pos D,zer _ _ _ _ _ (A - (bj ws u).fin).toNat k (by omega) (by omega)]
theorem zeu {n:Nat} {fs:List (List bo)} {ws:List Int} {u A:Int} (h:u<A) (E:¬ip n fs ws u A=true):b9 n fs ws u A=none:=by unfold b9;obtain ⟨k,D⟩:∃k,(A - u).toNat=k+1:=⟨(A - u).toNat - 1,by omega⟩;rw [D,iq,if_pos h,if_neg E]
end Go.Proofs.YtjdnmblggdobgaaGreat
namespace Go.Proofs.YtjdnmblggdobgaaGreat
open Go.RowKit Go.Maps
theorem zos (w:World) (M M':Nat->Prop) (u v:Value) (l m:List ew) (O:SL 2 RK M w u l) (V:SL 2 RK M' w v m):
 Calls Tryz.prog 227 #[u,v] w fun r w'=>r=.returned (.bool (cz dw l m))/\∃n,w'=w.drewN n:=by
 have Y:=ag O;have L:=ag V;obtain ⟨au,cu,rfl,_,Z,-⟩:=O;obtain ⟨av,cv,rfl,_,N,-⟩:=V;unfold maxLen at Z N;by_cases A:l.length=m.length
 rotate_left
 ·have h0:¬(l.length:Int)=m.length:=by omega
  have X:=ag (zd9 dw l m A);clear A;go_enter Tryz.func227,Tryz.ntmps227;go_wp2
  go_ret;exact ⟨by rw [X.o];rfl,0,rfl⟩
 rw [<-A]at L ⊢;have E:=ag A;clear N A;go_enter Tryz.func227,Tryz.ntmps227;go_wp2
 go_loopw [5] (fun i wr=>∃k:Nat,k<=l.length/\i=.int .i64 k/\Hid (cz dw l m=cz dw (l.drop k) (m.drop k))/\∃n,wr=w.drewN n) (fun i _=>l.length - (intOf i).toNat)
 case atStart=>exact ⟨0,n0q _,rfl,rfl,0,rfl⟩
 case round=>
  obtain ⟨k,hk,rfl,J,n,rfl⟩:=hrel;by_cases F:k<l.length
  ·have I:k<m.length:=by have:=E.o;omega
   obtain ⟨b,off,rfl,_,c0,c1,_⟩:=Y.o.atK k F;obtain ⟨b2,W,rfl,_,d0,d1,_⟩:=L.o.atK k I;have G:=ag (zea dw l m k F I);have aa:=kindNeq l[k] m[k];have ac:=kindNeqG;generalize l[k]=x at*;generalize m[k]=y at*;cases hs:dw x y with
   | true=>
     have D:Hid (cz dw l m=cz dw (l.drop (k+1)) (m.drop (k+1))):=J.o.trans (by rw [G.o,hs,Bool.true_and]);go_wp2
     go_quiet (fail);go_wp2
     go_roundw
     case rel=>exact ⟨k+1,by omega,by go_num,D.o,_,rfl⟩
     case measure=>simp [intOf];omega
   | false=>
     have D:Hid (cz dw l m=false):=J.o.trans (by rw [G.o,hs,Bool.false_and]);go_wp2
     go_quiet (fail);go_wp2
     go_ret;exact ⟨by rw [D.o];rfl,_,World.drewN_drewN _ _ _⟩
  have D:Hid (cz dw l m=true):=J.o.trans (zeb dw l m k F E.o);go_wp2
  go_ret;exact ⟨by rw [D.o];rfl,n,rfl⟩
theorem zot (w:World) (M M':Nat->Prop) (u v:Value) (l m:List bo) (O:SL 3 RF M w u l) (V:SL 3 RF M' w v m):
 Calls Tryz.prog 186 #[u,v] w fun r w'=>r=.returned (.bool (cz ey l m))/\∃n,w'=w.drewN n:=by
 have Y:=ag O;have L:=ag V;obtain ⟨au,cu,rfl,_,Z,-⟩:=O;obtain ⟨av,cv,rfl,_,N,-⟩:=V;unfold maxLen at Z N;by_cases A:l.length=m.length
 rotate_left
 ·have h0:¬(l.length:Int)=m.length:=by omega
  have X:=ag (zd9 ey l m A);clear A;go_enter Tryz.func186,Tryz.ntmps186;go_wp2
  go_ret;exact ⟨by rw [X.o];rfl,0,rfl⟩
 rw [<-A]at L ⊢;have E:=ag A;clear N A;go_enter Tryz.func186,Tryz.ntmps186;go_wp2
 go_loopw [5] (fun i wr=>∃k:Nat,k<=l.length/\i=.int .i64 k/\Hid (cz ey l m=cz ey (l.drop k) (m.drop k))/\∃n,wr=w.drewN n) (fun i _=>l.length - (intOf i).toNat)
 case atStart=>exact ⟨0,n0q _,rfl,rfl,0,rfl⟩
 case round=>
  obtain ⟨k,hk,rfl,J,n,rfl⟩:=hrel;by_cases F:k<l.length
  ·have I:k<m.length:=by have:=E.o;omega
   obtain ⟨b,off,rfl,_,c0,c1,c2,_⟩:=Y.o.atF k F;obtain ⟨b2,W,rfl,_,d0,d1,d2,_⟩:=L.o.atF k I;have G:=ag (zea ey l m k F I);have aa:=fieldNeq l[k] m[k];have ac:=fieldNeqG;generalize l[k]=x at*;generalize m[k]=y at*;cases hs:ey x y with
   | true=>
     have D:Hid (cz ey l m=cz ey (l.drop (k+1)) (m.drop (k+1))):=J.o.trans (by rw [G.o,hs,Bool.true_and]);go_wp2
     go_quiet (fail);go_wp2
     go_roundw
     case rel=>exact ⟨k+1,by omega,by go_num,D.o,_,rfl⟩
     case measure=>simp [intOf];omega
   | false=>
     have D:Hid (cz ey l m=false):=J.o.trans (by rw [G.o,hs,Bool.false_and]);go_wp2
     go_quiet (fail);go_wp2
     go_ret;exact ⟨by rw [D.o];rfl,_,World.drewN_drewN _ _ _⟩
  have D:Hid (cz ey l m=true):=J.o.trans (zeb ey l m k F E.o);go_wp2
  go_ret;exact ⟨by rw [D.o];rfl,n,rfl⟩
end Go.Proofs.YtjdnmblggdobgaaGreat
