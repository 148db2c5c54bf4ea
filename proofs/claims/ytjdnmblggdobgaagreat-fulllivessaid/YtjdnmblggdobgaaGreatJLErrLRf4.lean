import Derived.Test.YtjdnmblggdobgaaGreatJLHasLAsk
import Derived.Laws.StructEq
set_option maxHeartbeats 4000000
namespace Go.Proofs.YtjdnmblggdobgaaGreat
open Go.RowKit Go.Maps
theorem kindEql (k k':Int) (c c':ByteArray) (w:World):(binOp BinOp.eql 123 (.agg #[.int .i64 k,.string c]) (.agg #[.int .i64 k',.string c'])).run Tryz.prog w=.ok (.bool ((k==k')&&(c.toList==c'.toList))) w:=by
 have u3:=Tryz.underlying3
 have a3:=Tryz.isAgg3
 have z3:=Tryz.sizeOf3
 have u9:=Tryz.underlying9
 have a9:=Tryz.isAgg9
 have z9:=Tryz.sizeOf9
 have hS:Tryz.prog.underlying 123=some (.struct (Tryz.prog.fieldsOf 123)):=by kernel_rfl
 have hp:Tryz.prog.stoodInHeld 123=false:=by kernel_rfl
 rw [run_eql_struct,show (10000:Nat)=9999+1 from rfl,run_equalIn_agg w 9999 123 _ _ hS hp]
 simp only [Program.fieldsOf,Tryz.underlying123]
 go_simp
 by_cases h1:k=k'<;>by_cases h2:c.toList=c'.toList<;>simp [h1,h2]
theorem kindGuard:Tryz.prog.eqGuardType Tryz.prog.depth 123=false:=by kernel_rfl
theorem zd8 (w:World) (B b:Nat) (l:List ClassD) (vC vS vF vN vT vL:Value) (Bm:Nat) (hw:Web B w b l vC vS vF vN vT vL Bm) (he:0<=num l errName):
 Calls Tryz.prog 208 #[.pointer (some ⟨b,0,none⟩)] w fun r w'=>r=.returned (.bool (askError l))/\Below w.heap.size w w':=by
 have hnm:∀n,NumMap (w.drewN n) Bm l:=fun n=>hw.nm.below (zdq (Below.refl w.heap.size w) n) hw.nm.lt
 have c5:=cl0 hw.blk 5 (x:=.map (some Bm)) rfl
 have c1:=cl0 hw.blk 1 (x:=vS) rfl
 have c2:=cl0 hw.blk 2 (x:=vF) rfl
 have HN:Hid (∀s,s.size<=maxLen->∀n,Calls Tryz.prog 199 #[.pointer (some ⟨b,0,none⟩),.string s] (w.drewN n) fun r w'=>r=.returned (.int .i64 (num l s))/\w'=w.drewN n):=fun s hs n=>zcg _ b Bm l s c5 (hnm n) hs
 obtain ⟨n,hn⟩:=Int.eq_ofNat_of_zero_le he
 have hnl:n<l.length:=by have:=(za2 l errName).2;omega
 obtain ⟨t,ht⟩:∃t,num l topName=t:=⟨_,rfl⟩
 have htb:=za2 l topName
 have hsb:=za2 l (clsAt l n).super
 rw [ht]at htb
 have HA:Hid (askError l=(decide (supAt l n=t)&&(match fieldsOf l n with | []=>false | f::_=>sameK f.kind ⟨1,⟨#[]⟩⟩))):=by
  show askError l=_
  unfold askError
  rw [ht,hn]
  rfl
 have hlS:((List.range l.length).map (supAt l)).length=l.length:=by simp
 have hlF:((List.range l.length).map (fieldsOf l)).length=l.length:=by simp
 obtain ⟨aS,cS,hvS,-⟩:=hw.sS
 obtain ⟨aF,cF,hvF,-⟩:=hw.sF
 rw [hlS]at hvS
 rw [hlF]at hvF
 subst hvS hvF
 obtain ⟨bS,oS,rfl,hbS,e1⟩:=hw.sS.atI n (by omega)
 obtain ⟨bF,oF,aL,cL,rfl,hbF,e2,sL⟩:=hw.sF.atSl n (by omega)
 have g1:((List.range l.length).map (supAt l))[n]'(by omega)=supAt l n:=by simp
 have g2:((List.range l.length).map (fieldsOf l))[n]'(by omega)=fieldsOf l n:=by simp
 rw [g1]at e1
 rw [g2]at e2 sL
 have hsx:supAt l n=num l (clsAt l n).super:=rfl
 rw [<-hsx]at hsb
 clear g1 g2 hlS hlF hsx hw c5 hnm
 generalize supAt l n=s at*
 generalize fieldsOf l n=fs at*
 have HE:Hid (num l errName=n):=hn
 have HT:Hid (num l topName=t):=ht
 have ht1:=htb.1
 have ht2:=htb.2
 have hs1:=hsb.1
 have hs2:=hsb.2
 have h00:(0:Int)<=n:=by omega
 have h01:(n:Int)<l.length:=by omega
 clear hn ht he htb hsb
 by_cases hst:s=t
 ·
  subst hst
  cases fs with
  | nil=>
    have e2':w.cell? ⟨bF,oF+n,none⟩=some (.slice aL 0 cL):=e2
    clear e2 sL
    go_enter Tryz.func208,Tryz.ntmps208
    go_wp2_with (go_at_call 199;refine (HN.out errName (by decide) 0).mono ?_;rintro r w1 ⟨h1,rfl⟩;rw [HE.out]at h1;subst h1)
    go_quiet (first | (go_at_call 199;exact Calls.quiet_of_same ((HN.out topName (by decide) _).mono fun _ _ h=>⟨h.1.trans (by rw [HT.out]),h.2⟩)))
    go_wp2_with fail
    go_ret
    exact ⟨by rw [HA.out];simp,zdq (zdq (Below.refl _ _) _) _⟩
  | cons f fs=>
    obtain ⟨bf,of,rfl,hbf,y0,y1,y2,z1,z2⟩:=sL.atF 0 (by simp)
    have e2':w.cell? ⟨bF,oF+n,none⟩=some (.slice (some ⟨bf,of,none⟩) (fs.length+1) cL):=e2
    have y1':w.cell? ⟨bf,of+1,none⟩=some (.int .i64 f.kind.kind):=by simpa using y1
    have y2':w.cell? ⟨bf,of+2,none⟩=some (.string f.kind.cls):=by simpa using y2
    have hz2:f.kind.cls.size<=maxLen:=z2
    have hfl:(0:Int)<((fs.length+1:Nat):Int):=by omega
    clear e2 sL y0 y1 y2 z1 z2
    have hke:=kindEql f.kind.kind 1 f.kind.cls ⟨#[]⟩
    have hkg:=kindGuard
    go_enter Tryz.func208,Tryz.ntmps208
    go_wp2_with (go_at_call 199;refine (HN.out errName (by decide) 0).mono ?_;rintro r w1 ⟨h1,rfl⟩;rw [HE.out]at h1;subst h1)
    go_quiet (first | (go_at_call 199;exact Calls.quiet_of_same ((HN.out topName (by decide) _).mono fun _ _ h=>⟨h.1.trans (by rw [HT.out]),h.2⟩)))
    go_wp2_with fail
    go_ret
    have hval:(f.kind.kind==1&&f.kind.cls.toList.isEmpty)=askError l:=by
     rw [HA.out,sameK]
     by_cases h2:f.kind.cls=⟨#[]⟩
     ·
      rw [zcb h2,Bool.eq_iff_iff]
      simp [h2]
     have:f.kind.cls.toList.isEmpty=false:=by
      cases hq:f.kind.cls.toList with
      | nil=>exact absurd (zca hq) h2
      | cons _ _=>rfl
     rw [this]
     simp [h2]
    exact ⟨by rw [<-hval];rfl,zdq (zdq (Below.refl _ _) _) _⟩
 have hd:(s==t)=false:=by simpa using hst
 have hd2:decide (s=t)=false:=by simpa using hst
 clear sL
 go_enter Tryz.func208,Tryz.ntmps208
 go_wp2_with (go_at_call 199;refine (HN.out errName (by decide) 0).mono ?_;rintro r w1 ⟨h1,rfl⟩;rw [HE.out]at h1;subst h1)
 go_quiet (first | (go_at_call 199;exact Calls.quiet_of_same ((HN.out topName (by decide) _).mono fun _ _ h=>⟨h.1.trans (by rw [HT.out]),h.2⟩)))
 go_wp2_with fail
 go_ret
 exact ⟨by rw [HA.out,hd2];rfl,zdq (zdq (Below.refl _ _) _) _⟩
def eqL {α:Type} (p:α->α->Bool):List α->List α->Bool
 | [],[]=>true
 | x::l,y::m=>p x y&&eqL p l m
 | _,_=>false
theorem zd9 {α:Type} (p:α->α->Bool):∀(l m:List α),l.length≠m.length->eqL p l m=false
 | [],[],h=>absurd rfl h
 | x::l,y::m,h=>by rw [eqL,zd9 p l m (fun e=>h (by simp [e]))];simp
 | [],_::_,_=>rfl
 | _::_,[],_=>rfl
theorem zea {α:Type} (p:α->α->Bool) (l m:List α) (k:Nat) (hk:k<l.length) (hm:k<m.length):eqL p (l.drop k) (m.drop k)=(p l[k] m[k]&&eqL p (l.drop (k+1)) (m.drop (k+1))):=by
 rw [List.drop_eq_getElem_cons hk,List.drop_eq_getElem_cons hm,eqL]
theorem zeb {α:Type} (p:α->α->Bool) (l m:List α) (k:Nat) (hk:¬k<l.length) (h:l.length=m.length):eqL p (l.drop k) (m.drop k)=true:=by
 rw [List.drop_of_length_le (by omega),List.drop_of_length_le (by omega),eqL]
theorem zec (a b:ByteArray):(a.toList==b.toList)=decide (a=b):=by
 rw [Bool.eq_iff_iff,beq_iff_eq,decide_eq_true_iff]
 exact ⟨zb9,fun h=>by rw [h]⟩
def sameI (a b:Int):Bool:=a==b
def sameS (a b:ByteArray):Bool:=a.toList==b.toList
def sameF (a b:FieldD):Bool:=decide (a.name=b.name)&&sameK a.kind b.kind
def sameT (a b:TargD):Bool:=(a.cls==b.cls)&&(a.meth==b.meth)
theorem zed (k k':Int) (c c':ByteArray):((k==k')&&(c.toList==c'.toList))=sameK ⟨k,c⟩ ⟨k',c'⟩:=by
 rw [zec,sameK,Bool.eq_iff_iff]
 simp
theorem kindNeq (x y:KindD) (w:World):(binOp BinOp.neq 123 (.agg #[.int .i64 x.kind,.string x.cls]) (.agg #[.int .i64 y.kind,.string y.cls])).run Tryz.prog w=.ok (.bool (!sameK x y)) w:=by
 have u3:=Tryz.underlying3
 have a3:=Tryz.isAgg3
 have z3:=Tryz.sizeOf3
 have u9:=Tryz.underlying9
 have a9:=Tryz.isAgg9
 have z9:=Tryz.sizeOf9
 have hS:Tryz.prog.underlying 123=some (.struct (Tryz.prog.fieldsOf 123)):=by kernel_rfl
 have hp:Tryz.prog.stoodInHeld 123=false:=by kernel_rfl
 rw [run_neq_struct,show (10000:Nat)=9999+1 from rfl,run_equalIn_agg w 9999 123 _ _ hS hp]
 simp only [Program.fieldsOf,Tryz.underlying123]
 go_simp
 rw [<-zed x.kind y.kind x.cls y.cls]
 by_cases h1:x.kind=y.kind<;>by_cases h2:x.cls.toList=y.cls.toList<;>simp [h1,h2]
theorem kindNeqG:Tryz.prog.eqGuardType Tryz.prog.depth 123=false:=by kernel_rfl
theorem targNeq (x y:TargD) (w:World):(binOp BinOp.neq 233 (.agg #[.int .i64 x.cls,.int .i64 x.meth]) (.agg #[.int .i64 y.cls,.int .i64 y.meth])).run Tryz.prog w=.ok (.bool (!sameT x y)) w:=by
 have u3:=Tryz.underlying3
 have a3:=Tryz.isAgg3
 have z3:=Tryz.sizeOf3
 have u9:=Tryz.underlying9
 have a9:=Tryz.isAgg9
 have z9:=Tryz.sizeOf9
 have hS:Tryz.prog.underlying 233=some (.struct (Tryz.prog.fieldsOf 233)):=by kernel_rfl
 have hp:Tryz.prog.stoodInHeld 233=false:=by kernel_rfl
 rw [run_neq_struct,show (10000:Nat)=9999+1 from rfl,run_equalIn_agg w 9999 233 _ _ hS hp]
 simp only [Program.fieldsOf,Tryz.underlying233]
 go_simp
 rw [sameT]
 by_cases h1:x.cls=y.cls<;>by_cases h2:x.meth=y.meth<;>simp [h1,h2]
theorem targNeqG:Tryz.prog.eqGuardType Tryz.prog.depth 233=false:=by kernel_rfl
theorem fieldNeq (x y:FieldD) (w:World):(binOp BinOp.neq 125 (.agg #[.string x.name,.int .i64 x.kind.kind,.string x.kind.cls]) (.agg #[.string y.name,.int .i64 y.kind.kind,.string y.kind.cls])).run Tryz.prog w=.ok (.bool (!sameF x y)) w:=by
 have u3:=Tryz.underlying3
 have a3:=Tryz.isAgg3
 have z3:=Tryz.sizeOf3
 have u9:=Tryz.underlying9
 have a9:=Tryz.isAgg9
 have z9:=Tryz.sizeOf9
 have uk:=Tryz.underlying123
 have ak:=Tryz.isAgg123
 have zk:=Tryz.sizeOf123
 have hSk:Tryz.prog.underlying 123=some (.struct (Tryz.prog.fieldsOf 123)):=by kernel_rfl
 have hpk:Tryz.prog.stoodInHeld 123=false:=by kernel_rfl
 have hS:Tryz.prog.underlying 125=some (.struct (Tryz.prog.fieldsOf 125)):=by kernel_rfl
 have hp:Tryz.prog.stoodInHeld 125=false:=by kernel_rfl
 rw [run_neq_struct,show (10000:Nat)=9999+1 from rfl,run_equalIn_agg w 9999 125 _ _ hS hp]
 simp only [Program.fieldsOf,Tryz.underlying125]
 go_simp
 rw [sameF,<-zec,<-zed x.kind.kind y.kind.kind x.kind.cls y.kind.cls]
 by_cases h0:x.name.toList=y.name.toList<;>by_cases h1:x.kind.kind=y.kind.kind<;>by_cases h2:x.kind.cls.toList=y.kind.cls.toList<;>simp [h0,h1,h2]
theorem fieldNeqG:Tryz.prog.eqGuardType Tryz.prog.depth 125=false:=by kernel_rfl
theorem zee (w:World) (M M':Nat->Prop) (u v:Value) (l m:List Int) (hu:SL 1 RI M w u l) (hv:SL 1 RI M' w v m):
 Calls Tryz.prog 259 #[u,v] w fun r w'=>r=.returned (.bool (eqL sameI l m))/\∃n,w'=w.drewN n:=by
 have HU:=mk0 hu
 have HV:=mk0 hv
 obtain ⟨au,cu,rfl,_,hl,-⟩:=hu
 obtain ⟨av,cv,rfl,_,hm,-⟩:=hv
 unfold maxLen at hl hm
 by_cases hlen:l.length=m.length
 rotate_left
 ·
  have h0:¬(l.length:Int)=m.length:=by omega
  have HR:=mk0 (zd9 sameI l m hlen)
  clear hlen
  go_enter Tryz.func259,Tryz.ntmps259
  go_wp2
  go_ret
  exact ⟨by rw [HR.out];rfl,0,rfl⟩
 rw [<-hlen]at HV ⊢
 have HLEN:=mk0 hlen
 clear hm hlen
 go_enter Tryz.func259,Tryz.ntmps259
 go_wp2
 go_loopw [13] (fun i wr=>∃k:Nat,k<=l.length/\i=.int .i64 k/\Hid (eqL sameI l m=eqL sameI (l.drop k) (m.drop k))/\∃n,wr=w.drewN n) (fun i _=>l.length - (intOf i).toNat)
 case atStart=>exact ⟨0,Nat.zero_le _,rfl,rfl,0,rfl⟩
 case round=>
  obtain ⟨k,hk,rfl,HQ,n,rfl⟩:=hrel
  by_cases hlt:k<l.length
  ·
   have hlm:k<m.length:=by have:=HLEN.out;omega
   obtain ⟨b,off,rfl,_,c0⟩:=HU.out.atI k hlt
   obtain ⟨b2,off2,rfl,_,d0⟩:=HV.out.atI k hlm
   have HST:=mk0 (zea sameI l m k hlt hlm)
   generalize l[k]=x at*
   generalize m[k]=y at*
   cases hs:sameI x y with
   | true=>
     have hs':x=y:=by simpa [sameI]using hs
     have HQ':Hid (eqL sameI l m=eqL sameI (l.drop (k+1)) (m.drop (k+1))):=HQ.out.trans (by rw [HST.out,hs,Bool.true_and])
     go_wp2
     go_quiet (fail)
     go_wp2
     go_roundw
     case rel=>exact ⟨k+1,by omega,by go_num,HQ'.out,_,rfl⟩
     case measure=>simp [intOf];omega
   | false=>
     have hs':¬x=y:=by simpa [sameI]using hs
     have HQ':Hid (eqL sameI l m=false):=HQ.out.trans (by rw [HST.out,hs,Bool.false_and])
     go_wp2
     go_quiet (fail)
     go_wp2
     go_ret
     exact ⟨by rw [HQ'.out];rfl,_,World.drewN_drewN _ _ _⟩
  have HQ':Hid (eqL sameI l m=true):=HQ.out.trans (zeb sameI l m k hlt HLEN.out)
  go_wp2
  go_ret
  exact ⟨by rw [HQ'.out];rfl,n,rfl⟩
theorem zef (w:World) (M M':Nat->Prop) (u v:Value) (l m:List KindD) (hu:SL 2 RK M w u l) (hv:SL 2 RK M' w v m):
 Calls Tryz.prog 302 #[u,v] w fun r w'=>r=.returned (.bool (eqL sameK l m))/\∃n,w'=w.drewN n:=by
 have HU:=mk0 hu
 have HV:=mk0 hv
 obtain ⟨au,cu,rfl,_,hl,-⟩:=hu
 obtain ⟨av,cv,rfl,_,hm,-⟩:=hv
 unfold maxLen at hl hm
 by_cases hlen:l.length=m.length
 rotate_left
 ·
  have h0:¬(l.length:Int)=m.length:=by omega
  have HR:=mk0 (zd9 sameK l m hlen)
  clear hlen
  go_enter Tryz.func302,Tryz.ntmps302
  go_wp2
  go_ret
  exact ⟨by rw [HR.out];rfl,0,rfl⟩
 rw [<-hlen]at HV ⊢
 have HLEN:=mk0 hlen
 clear hm hlen
 go_enter Tryz.func302,Tryz.ntmps302
 go_wp2
 go_loopw [13] (fun i wr=>∃k:Nat,k<=l.length/\i=.int .i64 k/\Hid (eqL sameK l m=eqL sameK (l.drop k) (m.drop k))/\∃n,wr=w.drewN n) (fun i _=>l.length - (intOf i).toNat)
 case atStart=>exact ⟨0,Nat.zero_le _,rfl,rfl,0,rfl⟩
 case round=>
  obtain ⟨k,hk,rfl,HQ,n,rfl⟩:=hrel
  by_cases hlt:k<l.length
  ·
   have hlm:k<m.length:=by have:=HLEN.out;omega
   obtain ⟨b,off,rfl,_,c0,c1,_⟩:=HU.out.atK k hlt
   obtain ⟨b2,off2,rfl,_,d0,d1,_⟩:=HV.out.atK k hlm
   have HST:=mk0 (zea sameK l m k hlt hlm)
   have hne:=kindNeq l[k] m[k]
   have hng:=kindNeqG
   generalize l[k]=x at*
   generalize m[k]=y at*
   cases hs:sameK x y with
   | true=>
     have HQ':Hid (eqL sameK l m=eqL sameK (l.drop (k+1)) (m.drop (k+1))):=HQ.out.trans (by rw [HST.out,hs,Bool.true_and])
     go_wp2
     go_quiet (fail)
     go_wp2
     go_roundw
     case rel=>exact ⟨k+1,by omega,by go_num,HQ'.out,_,rfl⟩
     case measure=>simp [intOf];omega
   | false=>
     have HQ':Hid (eqL sameK l m=false):=HQ.out.trans (by rw [HST.out,hs,Bool.false_and])
     go_wp2
     go_quiet (fail)
     go_wp2
     go_ret
     exact ⟨by rw [HQ'.out];rfl,_,World.drewN_drewN _ _ _⟩
  have HQ':Hid (eqL sameK l m=true):=HQ.out.trans (zeb sameK l m k hlt HLEN.out)
  go_wp2
  go_ret
  exact ⟨by rw [HQ'.out];rfl,n,rfl⟩
theorem zeg (w:World) (M M':Nat->Prop) (u v:Value) (l m:List FieldD) (hu:SL 3 RF M w u l) (hv:SL 3 RF M' w v m):
 Calls Tryz.prog 261 #[u,v] w fun r w'=>r=.returned (.bool (eqL sameF l m))/\∃n,w'=w.drewN n:=by
 have HU:=mk0 hu
 have HV:=mk0 hv
 obtain ⟨au,cu,rfl,_,hl,-⟩:=hu
 obtain ⟨av,cv,rfl,_,hm,-⟩:=hv
 unfold maxLen at hl hm
 by_cases hlen:l.length=m.length
 rotate_left
 ·
  have h0:¬(l.length:Int)=m.length:=by omega
  have HR:=mk0 (zd9 sameF l m hlen)
  clear hlen
  go_enter Tryz.func261,Tryz.ntmps261
  go_wp2
  go_ret
  exact ⟨by rw [HR.out];rfl,0,rfl⟩
 rw [<-hlen]at HV ⊢
 have HLEN:=mk0 hlen
 clear hm hlen
 go_enter Tryz.func261,Tryz.ntmps261
 go_wp2
 go_loopw [13] (fun i wr=>∃k:Nat,k<=l.length/\i=.int .i64 k/\Hid (eqL sameF l m=eqL sameF (l.drop k) (m.drop k))/\∃n,wr=w.drewN n) (fun i _=>l.length - (intOf i).toNat)
 case atStart=>exact ⟨0,Nat.zero_le _,rfl,rfl,0,rfl⟩
 case round=>
  obtain ⟨k,hk,rfl,HQ,n,rfl⟩:=hrel
  by_cases hlt:k<l.length
  ·
   have hlm:k<m.length:=by have:=HLEN.out;omega
   obtain ⟨b,off,rfl,_,c0,c1,c2,_⟩:=HU.out.atF k hlt
   obtain ⟨b2,off2,rfl,_,d0,d1,d2,_⟩:=HV.out.atF k hlm
   have HST:=mk0 (zea sameF l m k hlt hlm)
   have hne:=fieldNeq l[k] m[k]
   have hng:=fieldNeqG
   generalize l[k]=x at*
   generalize m[k]=y at*
   cases hs:sameF x y with
   | true=>
     have HQ':Hid (eqL sameF l m=eqL sameF (l.drop (k+1)) (m.drop (k+1))):=HQ.out.trans (by rw [HST.out,hs,Bool.true_and])
     go_wp2
     go_quiet (fail)
     go_wp2
     go_roundw
     case rel=>exact ⟨k+1,by omega,by go_num,HQ'.out,_,rfl⟩
     case measure=>simp [intOf];omega
   | false=>
     have HQ':Hid (eqL sameF l m=false):=HQ.out.trans (by rw [HST.out,hs,Bool.false_and])
     go_wp2
     go_quiet (fail)
     go_wp2
     go_ret
     exact ⟨by rw [HQ'.out];rfl,_,World.drewN_drewN _ _ _⟩
  have HQ':Hid (eqL sameF l m=true):=HQ.out.trans (zeb sameF l m k hlt HLEN.out)
  go_wp2
  go_ret
  exact ⟨by rw [HQ'.out];rfl,n,rfl⟩
theorem zeh (w:World) (M M':Nat->Prop) (u v:Value) (l m:List ByteArray) (hu:SL 1 RS M w u l) (hv:SL 1 RS M' w v m):
 Calls Tryz.prog 263 #[u,v] w fun r w'=>r=.returned (.bool (eqL sameS l m))/\∃n,w'=w.drewN n:=by
 have HU:=mk0 hu
 have HV:=mk0 hv
 obtain ⟨au,cu,rfl,_,hl,-⟩:=hu
 obtain ⟨av,cv,rfl,_,hm,-⟩:=hv
 unfold maxLen at hl hm
 by_cases hlen:l.length=m.length
 rotate_left
 ·
  have h0:¬(l.length:Int)=m.length:=by omega
  have HR:=mk0 (zd9 sameS l m hlen)
  clear hlen
  go_enter Tryz.func263,Tryz.ntmps263
  go_wp2
  go_ret
  exact ⟨by rw [HR.out];rfl,0,rfl⟩
 rw [<-hlen]at HV ⊢
 have HLEN:=mk0 hlen
 clear hm hlen
 go_enter Tryz.func263,Tryz.ntmps263
 go_wp2
 go_loopw [13] (fun i wr=>∃k:Nat,k<=l.length/\i=.int .i64 k/\Hid (eqL sameS l m=eqL sameS (l.drop k) (m.drop k))/\∃n,wr=w.drewN n) (fun i _=>l.length - (intOf i).toNat)
 case atStart=>exact ⟨0,Nat.zero_le _,rfl,rfl,0,rfl⟩
 case round=>
  obtain ⟨k,hk,rfl,HQ,n,rfl⟩:=hrel
  by_cases hlt:k<l.length
  ·
   have hlm:k<m.length:=by have:=HLEN.out;omega
   obtain ⟨b,off,rfl,_,c0,_⟩:=HU.out.atS k hlt
   obtain ⟨b2,off2,rfl,_,d0,_⟩:=HV.out.atS k hlm
   have HST:=mk0 (zea sameS l m k hlt hlm)
   generalize l[k]=x at*
   generalize m[k]=y at*
   cases hs:sameS x y with
   | true=>
     have hs':(x.toList==y.toList)=true:=hs
     have HQ':Hid (eqL sameS l m=eqL sameS (l.drop (k+1)) (m.drop (k+1))):=HQ.out.trans (by rw [HST.out,hs,Bool.true_and])
     go_wp2
     go_quiet (fail)
     go_wp2
     go_roundw
     case rel=>exact ⟨k+1,by omega,by go_num,HQ'.out,_,rfl⟩
     case measure=>simp [intOf];omega
   | false=>
     have hs':(x.toList==y.toList)=false:=hs
     have HQ':Hid (eqL sameS l m=false):=HQ.out.trans (by rw [HST.out,hs,Bool.false_and])
     go_wp2
     go_quiet (fail)
     go_wp2
     go_ret
     exact ⟨by rw [HQ'.out];rfl,_,World.drewN_drewN _ _ _⟩
  have HQ':Hid (eqL sameS l m=true):=HQ.out.trans (zeb sameS l m k hlt HLEN.out)
  go_wp2
  go_ret
  exact ⟨by rw [HQ'.out];rfl,n,rfl⟩
theorem zei (w:World) (M M':Nat->Prop) (u v:Value) (l m:List TargD) (hu:SL 2 RT M w u l) (hv:SL 2 RT M' w v m):
 Calls Tryz.prog 265 #[u,v] w fun r w'=>r=.returned (.bool (eqL sameT l m))/\∃n,w'=w.drewN n:=by
 have HU:=mk0 hu
 have HV:=mk0 hv
 obtain ⟨au,cu,rfl,_,hl,-⟩:=hu
 obtain ⟨av,cv,rfl,_,hm,-⟩:=hv
 unfold maxLen at hl hm
 by_cases hlen:l.length=m.length
 rotate_left
 ·
  have h0:¬(l.length:Int)=m.length:=by omega
  have HR:=mk0 (zd9 sameT l m hlen)
  clear hlen
  go_enter Tryz.func265,Tryz.ntmps265
  go_wp2
  go_ret
  exact ⟨by rw [HR.out];rfl,0,rfl⟩
 rw [<-hlen]at HV ⊢
 have HLEN:=mk0 hlen
 clear hm hlen
 go_enter Tryz.func265,Tryz.ntmps265
 go_wp2
 go_loopw [13] (fun i wr=>∃k:Nat,k<=l.length/\i=.int .i64 k/\Hid (eqL sameT l m=eqL sameT (l.drop k) (m.drop k))/\∃n,wr=w.drewN n) (fun i _=>l.length - (intOf i).toNat)
 case atStart=>exact ⟨0,Nat.zero_le _,rfl,rfl,0,rfl⟩
 case round=>
  obtain ⟨k,hk,rfl,HQ,n,rfl⟩:=hrel
  by_cases hlt:k<l.length
  ·
   have hlm:k<m.length:=by have:=HLEN.out;omega
   obtain ⟨b,off,rfl,_,c0,c1⟩:=HU.out.atT k hlt
   obtain ⟨b2,off2,rfl,_,d0,d1⟩:=HV.out.atT k hlm
   have HST:=mk0 (zea sameT l m k hlt hlm)
   have hne:=targNeq l[k] m[k]
   have hng:=targNeqG
   generalize l[k]=x at*
   generalize m[k]=y at*
   cases hs:sameT x y with
   | true=>
     have HQ':Hid (eqL sameT l m=eqL sameT (l.drop (k+1)) (m.drop (k+1))):=HQ.out.trans (by rw [HST.out,hs,Bool.true_and])
     go_wp2
     go_quiet (fail)
     go_wp2
     go_roundw
     case rel=>exact ⟨k+1,by omega,by go_num,HQ'.out,_,rfl⟩
     case measure=>simp [intOf];omega
   | false=>
     have HQ':Hid (eqL sameT l m=false):=HQ.out.trans (by rw [HST.out,hs,Bool.false_and])
     go_wp2
     go_quiet (fail)
     go_wp2
     go_ret
     exact ⟨by rw [HQ'.out];rfl,_,World.drewN_drewN _ _ _⟩
  have HQ':Hid (eqL sameT l m=true):=HQ.out.trans (zeb sameT l m k hlt HLEN.out)
  go_wp2
  go_ret
  exact ⟨by rw [HQ'.out];rfl,n,rfl⟩
theorem zej (w:World) (M M':Nat->Prop) (u v:Value) (l m:List (List FieldD)) (hu:SL 1 (RSl 3 RF) M w u l) (hv:SL 1 (RSl 3 RF) M' w v m):
 Calls Tryz.prog 260 #[u,v,.func (.func 261) #[] #[]] w fun r w'=>r=.returned (.bool (eqL (eqL sameF) l m))/\∃n,w'=w.drewN n:=by
 have HU:=mk0 hu
 have HV:=mk0 hv
 obtain ⟨au,cu,rfl,_,hl,-⟩:=hu
 obtain ⟨av,cv,rfl,_,hm,-⟩:=hv
 unfold maxLen at hl hm
 by_cases hlen:l.length=m.length
 rotate_left
 ·
  have h0:¬(l.length:Int)=m.length:=by omega
  have HR:=mk0 (zd9 (eqL sameF) l m hlen)
  clear hlen
  go_enter Tryz.func260,Tryz.ntmps260
  go_wp2
  go_ret
  exact ⟨by rw [HR.out];rfl,0,rfl⟩
 rw [<-hlen]at HV ⊢
 have HLEN:=mk0 hlen
 clear hm hlen
 go_enter Tryz.func260,Tryz.ntmps260
 go_wp2
 go_loopw [17] (fun i wr=>∃k:Nat,k<=l.length/\i=.int .i64 k/\Hid (eqL (eqL sameF) l m=eqL (eqL sameF) (l.drop k) (m.drop k))/\∃n,wr=w.drewN n) (fun i _=>l.length - (intOf i).toNat)
 case atStart=>exact ⟨0,Nat.zero_le _,rfl,rfl,0,rfl⟩
 case round=>
  obtain ⟨k,hk,rfl,HQ,n,rfl⟩:=hrel
  by_cases hlt:k<l.length
  ·
   have hlm:k<m.length:=by have:=HLEN.out;omega
   obtain ⟨b,off,a1,k1,rfl,_,c0,su⟩:=HU.out.atSl k hlt
   obtain ⟨b2,off2,a2,k2,rfl,_,d0,sv⟩:=HV.out.atSl k hlm
   have HST:=mk0 (zea (eqL sameF) l m k hlt hlm)
   generalize l[k]=x at*
   generalize m[k]=y at*
   have HC:=mk0 (zeg (w.drewN n) M M' _ _ x y (su.kept ⟨Nat.le_refl _,fun _ _ _=>rfl⟩ fun _ _ h=>h) (sv.kept ⟨Nat.le_refl _,fun _ _ _=>rfl⟩ fun _ _ h=>h))
   clear su sv
   cases hs:eqL sameF x y with
   | true=>
     rw [hs]at HC
     have HQ':Hid (eqL (eqL sameF) l m=eqL (eqL sameF) (l.drop (k+1)) (m.drop (k+1))):=HQ.out.trans (by rw [HST.out,hs,Bool.true_and])
     clear hs
     go_wp2_with (first | (go_at_call 261;refine HC.out.mono ?_;rintro r w7 ⟨rfl,n7,rfl⟩))
     go_roundw
     case rel=>exact ⟨k+1,by omega,by go_num,HQ'.out,_,rfl⟩
     case measure=>simp [intOf];omega
   | false=>
     rw [hs]at HC
     have HQ':Hid (eqL (eqL sameF) l m=false):=HQ.out.trans (by rw [HST.out,hs,Bool.false_and])
     clear hs
     go_wp2_with (first | (go_at_call 261;refine HC.out.mono ?_;rintro r w7 ⟨rfl,n7,rfl⟩))
     go_ret
     exact ⟨by rw [HQ'.out];rfl,_,rfl⟩
  have HQ':Hid (eqL (eqL sameF) l m=true):=HQ.out.trans (zeb (eqL sameF) l m k hlt HLEN.out)
  go_wp2
  go_ret
  exact ⟨by rw [HQ'.out];rfl,n,rfl⟩
theorem zek (w:World) (M M':Nat->Prop) (u v:Value) (l m:List (List ByteArray)) (hu:SL 1 (RSl 1 RS) M w u l) (hv:SL 1 (RSl 1 RS) M' w v m):
 Calls Tryz.prog 262 #[u,v,.func (.func 263) #[] #[]] w fun r w'=>r=.returned (.bool (eqL (eqL sameS) l m))/\∃n,w'=w.drewN n:=by
 have HU:=mk0 hu
 have HV:=mk0 hv
 obtain ⟨au,cu,rfl,_,hl,-⟩:=hu
 obtain ⟨av,cv,rfl,_,hm,-⟩:=hv
 unfold maxLen at hl hm
 by_cases hlen:l.length=m.length
 rotate_left
 ·
  have h0:¬(l.length:Int)=m.length:=by omega
  have HR:=mk0 (zd9 (eqL sameS) l m hlen)
  clear hlen
  go_enter Tryz.func262,Tryz.ntmps262
  go_wp2
  go_ret
  exact ⟨by rw [HR.out];rfl,0,rfl⟩
 rw [<-hlen]at HV ⊢
 have HLEN:=mk0 hlen
 clear hm hlen
 go_enter Tryz.func262,Tryz.ntmps262
 go_wp2
 go_loopw [17] (fun i wr=>∃k:Nat,k<=l.length/\i=.int .i64 k/\Hid (eqL (eqL sameS) l m=eqL (eqL sameS) (l.drop k) (m.drop k))/\∃n,wr=w.drewN n) (fun i _=>l.length - (intOf i).toNat)
 case atStart=>exact ⟨0,Nat.zero_le _,rfl,rfl,0,rfl⟩
 case round=>
  obtain ⟨k,hk,rfl,HQ,n,rfl⟩:=hrel
  by_cases hlt:k<l.length
  ·
   have hlm:k<m.length:=by have:=HLEN.out;omega
   obtain ⟨b,off,a1,k1,rfl,_,c0,su⟩:=HU.out.atSl k hlt
   obtain ⟨b2,off2,a2,k2,rfl,_,d0,sv⟩:=HV.out.atSl k hlm
   have HST:=mk0 (zea (eqL sameS) l m k hlt hlm)
   generalize l[k]=x at*
   generalize m[k]=y at*
   have HC:=mk0 (zeh (w.drewN n) M M' _ _ x y (su.kept ⟨Nat.le_refl _,fun _ _ _=>rfl⟩ fun _ _ h=>h) (sv.kept ⟨Nat.le_refl _,fun _ _ _=>rfl⟩ fun _ _ h=>h))
   clear su sv
   cases hs:eqL sameS x y with
   | true=>
     rw [hs]at HC
     have HQ':Hid (eqL (eqL sameS) l m=eqL (eqL sameS) (l.drop (k+1)) (m.drop (k+1))):=HQ.out.trans (by rw [HST.out,hs,Bool.true_and])
     clear hs
     go_wp2_with (first | (go_at_call 263;refine HC.out.mono ?_;rintro r w7 ⟨rfl,n7,rfl⟩))
     go_roundw
     case rel=>exact ⟨k+1,by omega,by go_num,HQ'.out,_,rfl⟩
     case measure=>simp [intOf];omega
   | false=>
     rw [hs]at HC
     have HQ':Hid (eqL (eqL sameS) l m=false):=HQ.out.trans (by rw [HST.out,hs,Bool.false_and])
     clear hs
     go_wp2_with (first | (go_at_call 263;refine HC.out.mono ?_;rintro r w7 ⟨rfl,n7,rfl⟩))
     go_ret
     exact ⟨by rw [HQ'.out];rfl,_,rfl⟩
  have HQ':Hid (eqL (eqL sameS) l m=true):=HQ.out.trans (zeb (eqL sameS) l m k hlt HLEN.out)
  go_wp2
  go_ret
  exact ⟨by rw [HQ'.out];rfl,n,rfl⟩
theorem zel (w:World) (M M':Nat->Prop) (u v:Value) (l m:List (List TargD)) (hu:SL 1 (RSl 2 RT) M w u l) (hv:SL 1 (RSl 2 RT) M' w v m):
 Calls Tryz.prog 264 #[u,v,.func (.func 265) #[] #[]] w fun r w'=>r=.returned (.bool (eqL (eqL sameT) l m))/\∃n,w'=w.drewN n:=by
 have HU:=mk0 hu
 have HV:=mk0 hv
 obtain ⟨au,cu,rfl,_,hl,-⟩:=hu
 obtain ⟨av,cv,rfl,_,hm,-⟩:=hv
 unfold maxLen at hl hm
 by_cases hlen:l.length=m.length
 rotate_left
 ·
  have h0:¬(l.length:Int)=m.length:=by omega
  have HR:=mk0 (zd9 (eqL sameT) l m hlen)
  clear hlen
  go_enter Tryz.func264,Tryz.ntmps264
  go_wp2
  go_ret
  exact ⟨by rw [HR.out];rfl,0,rfl⟩
 rw [<-hlen]at HV ⊢
 have HLEN:=mk0 hlen
 clear hm hlen
 go_enter Tryz.func264,Tryz.ntmps264
 go_wp2
 go_loopw [17] (fun i wr=>∃k:Nat,k<=l.length/\i=.int .i64 k/\Hid (eqL (eqL sameT) l m=eqL (eqL sameT) (l.drop k) (m.drop k))/\∃n,wr=w.drewN n) (fun i _=>l.length - (intOf i).toNat)
 case atStart=>exact ⟨0,Nat.zero_le _,rfl,rfl,0,rfl⟩
 case round=>
  obtain ⟨k,hk,rfl,HQ,n,rfl⟩:=hrel
  by_cases hlt:k<l.length
  ·
   have hlm:k<m.length:=by have:=HLEN.out;omega
   obtain ⟨b,off,a1,k1,rfl,_,c0,su⟩:=HU.out.atSl k hlt
   obtain ⟨b2,off2,a2,k2,rfl,_,d0,sv⟩:=HV.out.atSl k hlm
   have HST:=mk0 (zea (eqL sameT) l m k hlt hlm)
   generalize l[k]=x at*
   generalize m[k]=y at*
   have HC:=mk0 (zei (w.drewN n) M M' _ _ x y (su.kept ⟨Nat.le_refl _,fun _ _ _=>rfl⟩ fun _ _ h=>h) (sv.kept ⟨Nat.le_refl _,fun _ _ _=>rfl⟩ fun _ _ h=>h))
   clear su sv
   cases hs:eqL sameT x y with
   | true=>
     rw [hs]at HC
     have HQ':Hid (eqL (eqL sameT) l m=eqL (eqL sameT) (l.drop (k+1)) (m.drop (k+1))):=HQ.out.trans (by rw [HST.out,hs,Bool.true_and])
     clear hs
     go_wp2_with (first | (go_at_call 265;refine HC.out.mono ?_;rintro r w7 ⟨rfl,n7,rfl⟩))
     go_roundw
     case rel=>exact ⟨k+1,by omega,by go_num,HQ'.out,_,rfl⟩
     case measure=>simp [intOf];omega
   | false=>
     rw [hs]at HC
     have HQ':Hid (eqL (eqL sameT) l m=false):=HQ.out.trans (by rw [HST.out,hs,Bool.false_and])
     clear hs
     go_wp2_with (first | (go_at_call 265;refine HC.out.mono ?_;rintro r w7 ⟨rfl,n7,rfl⟩))
     go_ret
     exact ⟨by rw [HQ'.out];rfl,_,rfl⟩
  have HQ':Hid (eqL (eqL sameT) l m=true):=HQ.out.trans (zeb (eqL sameT) l m k hlt HLEN.out)
  go_wp2
  go_ret
  exact ⟨by rw [HQ'.out];rfl,n,rfl⟩
structure LinkD where
 classes:List ClassD
 supers:List Int
 fields:List (List FieldD)
 names:List (List ByteArray)
 targets:List (List TargD)
structure RLk (M:Nat->Prop) (w:World) (kC kS kF kN kT:Value) (d:LinkD):Prop where
 C:SL 4 RC M w kC d.classes
 S:SL 1 RI M w kS d.supers
 F:SL 1 (RSl 3 RF) M w kF d.fields
 N:SL 1 (RSl 1 RS) M w kN d.names
 T:SL 1 (RSl 2 RT) M w kT d.targets
theorem RLk.kept {M:Nat->Prop} {w w':World} {kC kS kF kN kT:Value} {d:LinkD} (h:RLk M w kC kS kF kN kT d) (hk:Kp M w w'):RLk M w' kC kS kF kN kT d:=
 ⟨h.C.keptC hk,h.S.keptI hk,h.F.keptSl hk fun _ _ h=>h,h.N.keptSl hk fun _ _ h=>h,h.T.keptSl hk fun _ _ h=>h⟩
def makesB (l:List ClassD) (d:LinkD):Bool:=
 eqL sameI ((List.range l.length).map (supAt l)) d.supers&&eqL (eqL sameF) ((List.range l.length).map (fieldsOf l)) d.fields&&
  eqL (eqL sameS) ((List.range l.length).map (namesOf l)) d.names&&eqL (eqL sameT) ((List.range l.length).map (targetsOf l)) d.targets
theorem zem (w:World) (B b:Nat) (l:List ClassD) (vC vS vF vN vT vL:Value) (Bm:Nat) (hw:Web B w b l vC vS vF vN vT vL Bm) (kC kS kF kN kT:Value) (d:LinkD) (hk:RLk (· <B) w kC kS kF kN kT d):
 Calls Tryz.prog 216 #[.pointer (some ⟨b,0,none⟩),.agg #[kC,kS,kF,kN,kT]] w fun r w'=>r=.returned (.bool (makesB l d))/\Below w.heap.size w w':=by
 have hb:b<w.heap.size:=Nat.lt_of_lt_of_le hw.bB hw.le
 have c1:=cl0 hw.blk 1 (x:=vS) rfl
 have c2:=cl0 hw.blk 2 (x:=vF) rfl
 have c3:=cl0 hw.blk 3 (x:=vN) rfl
 have c4:=cl0 hw.blk 4 (x:=vT) rfl
 have hB0:Below w.heap.size w (w.alloc (.cells #[kC,kS,kF,kN,kT] 36)):=(Below.refl _ _).alloc (Nat.le_refl _) _
 have HB0:=mk0 hB0
 have hB1:=hB0.mono hw.le
 have hk1:=hk.kept (Kp.below hB1)
 have hw1:=hw.below hB1
 have KD:∀n,Kp (· <B) (w.alloc (.cells #[kC,kS,kF,kN,kT] 36)) ((w.alloc (.cells #[kC,kS,kF,kN,kT] 36)).drewN n):=fun n=>⟨Nat.le_refl _,fun _ _ _=>rfl⟩
 generalize hS:(List.range l.length).map (supAt l)=lS at*
 generalize hF:(List.range l.length).map (fieldsOf l)=lF at*
 generalize hN:(List.range l.length).map (namesOf l)=lN at*
 generalize hT:(List.range l.length).map (targetsOf l)=lT at*
 have sS:SL 1 RI (· <B) _ vS lS:=hS ▸ hw1.sS
 have sF:SL 1 (RSl 3 RF) (· <B) _ vF lF:=hF ▸ hw1.sF
 have sN:SL 1 (RSl 1 RS) (· <B) _ vN lN:=hN ▸ hw1.sN
 have sT:SL 1 (RSl 2 RT) (· <B) _ vT lT:=hT ▸ hw1.sT
 have HM:Hid (makesB l d=(eqL sameI lS d.supers&&eqL (eqL sameF) lF d.fields&&eqL (eqL sameS) lN d.names&&eqL (eqL sameT) lT d.targets)):=by
  show makesB l d=_
  rw [makesB,hS,hF,hN,hT]
 have H1:=mk0 (fun n=>zee _ _ _ _ _ _ _ (sS.keptI (KD n)) (hk1.S.keptI (KD n)))
 have H2:=mk0 (fun n=>zej _ _ _ _ _ _ _ (sF.keptSl (KD n) fun _ _ h=>h) (hk1.F.keptSl (KD n) fun _ _ h=>h))
 have H3:=mk0 (fun n=>zek _ _ _ _ _ _ _ (sN.keptSl (KD n) fun _ _ h=>h) (hk1.N.keptSl (KD n) fun _ _ h=>h))
 have H4:=mk0 (fun n=>zel _ _ _ _ _ _ _ (sT.keptSl (KD n) fun _ _ h=>h) (hk1.T.keptSl (KD n) fun _ _ h=>h))
 clear hw hk hw1 hk1 sS sF sN sT KD hS hF hN hT hB0 hB1
 generalize eqL sameI lS d.supers=e1 at*
 generalize eqL (eqL sameF) lF d.fields=e2 at*
 generalize eqL (eqL sameS) lN d.names=e3 at*
 generalize eqL (eqL sameT) lT d.targets=e4 at*
 cases e1 with
 | false=>
   go_enter Tryz.func216,Tryz.ntmps216
   go_wp2_with fail
   go_quiet (first | (go_at_call 259;exact Calls.quiet_of (H1.out _)) | (go_at_call 260;exact Calls.quiet_of (H2.out _)) | (go_at_call 262;exact Calls.quiet_of (H3.out _)) | (go_at_call 264;exact Calls.quiet_of (H4.out _)))
   go_wp2_with fail
   go_ret
   exact ⟨by rw [HM.out];rfl,zdq HB0.out _⟩
 | true=>
   cases e2 with
   | false=>
     go_enter Tryz.func216,Tryz.ntmps216
     go_wp2_with fail
     go_quiet (first | (go_at_call 259;exact Calls.quiet_of (H1.out _)) | (go_at_call 260;exact Calls.quiet_of (H2.out _)) | (go_at_call 262;exact Calls.quiet_of (H3.out _)) | (go_at_call 264;exact Calls.quiet_of (H4.out _)))
     go_wp2_with fail
     go_ret
     exact ⟨by rw [HM.out];rfl,zdq HB0.out _⟩
   | true=>
     cases e3 with
     | false=>
       go_enter Tryz.func216,Tryz.ntmps216
       go_wp2_with fail
       go_quiet (first | (go_at_call 259;exact Calls.quiet_of (H1.out _)) | (go_at_call 260;exact Calls.quiet_of (H2.out _)) | (go_at_call 262;exact Calls.quiet_of (H3.out _)) | (go_at_call 264;exact Calls.quiet_of (H4.out _)))
       go_wp2_with fail
       go_ret
       exact ⟨by rw [HM.out];rfl,zdq HB0.out _⟩
     | true=>
       go_enter Tryz.func216,Tryz.ntmps216
       go_wp2_with fail
       go_quiet (first | (go_at_call 259;exact Calls.quiet_of (H1.out _)) | (go_at_call 260;exact Calls.quiet_of (H2.out _)) | (go_at_call 262;exact Calls.quiet_of (H3.out _)) | (go_at_call 264;exact Calls.quiet_of (H4.out _)))
       go_wp2_with fail
       go_ret
       exact ⟨by rw [HM.out];rfl,zdq HB0.out _⟩
end Go.Proofs.YtjdnmblggdobgaaGreat
namespace Go.Proofs.YtjdnmblggdobgaaGreat
open Go.RowKit
structure HeapD where
 words:List Int
 young:Int
 old:Int
 ytop:Int
 otop:Int
 noted:List Int
 next:Int
structure ThD where
 loc:Int
 tag:Int
 len:Int
 hash:Int
def wd (ws:List Int) (i:Int):Int:=ws[i.toNat]?.getD 0
theorem zen {ws:List Int} {i:Nat} (h:i<ws.length):wd ws i=ws[i]:=by simp [wd,h]
def isTagB (n:Nat) (tag:Int):Bool:=decide (1<=tag)&&decide (tag<3+n)
def fieldsAt (fs:List (List FieldD)) (tag:Int):List FieldD:=fs[(tag - 3).toNat]?.getD []
def mayHaveB (fs:List (List FieldD)) (tag len:Int):Bool:=if 3<=tag then decide (len=(fieldsAt fs tag).length) else decide (0<=len)&&decide (len<=500)
def thAt (ws:List Int) (loc:Int):ThD:=⟨loc,wd ws loc,wd ws (loc+1),wd ws (loc+2)⟩
def ThD.fin (t:ThD):Int:=t.loc+3+t.len
def readB (n:Nat) (fs:List (List FieldD)) (ws:List Int) (loc top:Int):Bool:=
 decide (loc+3<=top)&&isTagB n (wd ws loc)&&mayHaveB fs (wd ws loc) (wd ws (loc+1))&&decide ((thAt ws loc).fin<=top)
def walkF (n:Nat) (fs:List (List FieldD)) (ws:List Int) (top:Int):Nat->Int->Option (List ThD)
 | 0,_=>some []
 | f+1,loc=>if loc<top then (if readB n fs ws loc top=true then (walkF n fs ws top f (thAt ws loc).fin).map (thAt ws loc:: ·) else none) else some []
def walkT (n:Nat) (fs:List (List FieldD)) (ws:List Int) (loc top:Int):Option (List ThD):=walkF n fs ws top (top - loc).toNat loc
theorem zeo {fs:List (List FieldD)} {tag len:Int} (h:mayHaveB fs tag len=true):0<=len:=by
 unfold mayHaveB at h
 split at h
 ·
  have:=of_decide_eq_true h;omega
 rw [Bool.and_eq_true]at h;exact of_decide_eq_true h.1
theorem zep {n:Nat} {fs:List (List FieldD)} {ws:List Int} {loc top:Int} (h:readB n fs ws loc top=true):loc+3<=(thAt ws loc).fin/\(thAt ws loc).fin<=top/\isTagB n (wd ws loc)=true/\mayHaveB fs (wd ws loc) (wd ws (loc+1))=true:=by
 unfold readB at h
 simp only [Bool.and_eq_true]at h
 obtain ⟨⟨⟨h1,h2⟩,h3⟩,h4⟩:=h
 have h5:=zeo h3
 exact ⟨by show loc+3<=loc+3+wd ws (loc+1);omega,of_decide_eq_true h4,h2,h3⟩
theorem zeq (n:Nat) (fs:List (List FieldD)) (ws:List Int) (top:Int):∀(f:Nat) (loc:Int),top - loc<=f->walkF n fs ws top (f+1) loc=walkF n fs ws top f loc
 | 0,loc,h=>by rw [walkF,walkF,if_neg (by omega)]
 | f+1,loc,h=>by
   by_cases hl:loc<top
   ·
    by_cases hr:readB n fs ws loc top=true
    ·
     have hf:=(zep hr).1
     have e1:walkF n fs ws top (f+1+1) loc=(walkF n fs ws top (f+1) (thAt ws loc).fin).map (thAt ws loc:: ·):=by rw [walkF,if_pos hl,if_pos hr]
     have e2:walkF n fs ws top (f+1) loc=(walkF n fs ws top f (thAt ws loc).fin).map (thAt ws loc:: ·):=by rw [walkF,if_pos hl,if_pos hr]
     rw [e1,e2,zeq n fs ws top f _ (by omega)]
    rw [walkF,if_pos hl,if_neg hr,walkF,if_pos hl,if_neg hr]
   rw [walkF,if_neg hl,walkF,if_neg hl]
theorem zer (n:Nat) (fs:List (List FieldD)) (ws:List Int) (top:Int) (loc:Int) (f g:Nat) (h:top - loc<=f) (hg:f<=g):walkF n fs ws top g loc=walkF n fs ws top f loc:=by
 obtain ⟨k,rfl⟩:=Nat.exists_eq_add_of_le hg
 induction k with
 | zero=>rfl
 | succ k ih=>rw [show f+(k+1)=f+k+1 by omega,zeq _ _ _ _ _ _ (by omega),ih (by omega)]
theorem zes {n:Nat} {fs:List (List FieldD)} {ws:List Int} {loc top:Int} (h:¬loc<top):walkT n fs ws loc top=some []:=by
 unfold walkT
 cases (top - loc).toNat with
 | zero=>rfl
 | succ k=>rw [walkF,if_neg h]
theorem zet {n:Nat} {fs:List (List FieldD)} {ws:List Int} {loc top:Int} (h:loc<top) (hr:readB n fs ws loc top=true):walkT n fs ws loc top=(walkT n fs ws (thAt ws loc).fin top).map (thAt ws loc:: ·):=by
 have hf:=(zep hr).1
 unfold walkT
 obtain ⟨k,hk⟩:∃k,(top - loc).toNat=k+1:=⟨(top - loc).toNat - 1,by omega⟩
 rw [hk,walkF,if_pos h,if_pos hr,zer _ _ _ _ _ (top - (thAt ws loc).fin).toNat k (by omega) (by omega)]
theorem zeu {n:Nat} {fs:List (List FieldD)} {ws:List Int} {loc top:Int} (h:loc<top) (hr:¬readB n fs ws loc top=true):walkT n fs ws loc top=none:=by
 unfold walkT
 obtain ⟨k,hk⟩:∃k,(top - loc).toNat=k+1:=⟨(top - loc).toNat - 1,by omega⟩
 rw [hk,walkF,if_pos h,if_neg hr]
end Go.Proofs.YtjdnmblggdobgaaGreat
namespace Go.Proofs.YtjdnmblggdobgaaGreat
open Go.RowKit Go.Maps
theorem zo1 (w:World) (M M':Nat->Prop) (u v:Value) (l m:List KindD) (hu:SL 2 RK M w u l) (hv:SL 2 RK M' w v m):
 Calls Tryz.prog 227 #[u,v] w fun r w'=>r=.returned (.bool (eqL sameK l m))/\∃n,w'=w.drewN n:=by
 have HU:=mk0 hu
 have HV:=mk0 hv
 obtain ⟨au,cu,rfl,_,hl,-⟩:=hu
 obtain ⟨av,cv,rfl,_,hm,-⟩:=hv
 unfold maxLen at hl hm
 by_cases hlen:l.length=m.length
 rotate_left
 ·
  have h0:¬(l.length:Int)=m.length:=by omega
  have HR:=mk0 (zd9 sameK l m hlen)
  clear hlen
  go_enter Tryz.func227,Tryz.ntmps227
  go_wp2
  go_ret
  exact ⟨by rw [HR.out];rfl,0,rfl⟩
 rw [<-hlen]at HV ⊢
 have HLEN:=mk0 hlen
 clear hm hlen
 go_enter Tryz.func227,Tryz.ntmps227
 go_wp2
 go_loopw [5] (fun i wr=>∃k:Nat,k<=l.length/\i=.int .i64 k/\Hid (eqL sameK l m=eqL sameK (l.drop k) (m.drop k))/\∃n,wr=w.drewN n) (fun i _=>l.length - (intOf i).toNat)
 case atStart=>exact ⟨0,Nat.zero_le _,rfl,rfl,0,rfl⟩
 case round=>
  obtain ⟨k,hk,rfl,HQ,n,rfl⟩:=hrel
  by_cases hlt:k<l.length
  ·
   have hlm:k<m.length:=by have:=HLEN.out;omega
   obtain ⟨b,off,rfl,_,c0,c1,_⟩:=HU.out.atK k hlt
   obtain ⟨b2,off2,rfl,_,d0,d1,_⟩:=HV.out.atK k hlm
   have HST:=mk0 (zea sameK l m k hlt hlm)
   have hne:=kindNeq l[k] m[k]
   have hng:=kindNeqG
   generalize l[k]=x at*
   generalize m[k]=y at*
   cases hs:sameK x y with
   | true=>
     have HQ':Hid (eqL sameK l m=eqL sameK (l.drop (k+1)) (m.drop (k+1))):=HQ.out.trans (by rw [HST.out,hs,Bool.true_and])
     go_wp2
     go_quiet (fail)
     go_wp2
     go_roundw
     case rel=>exact ⟨k+1,by omega,by go_num,HQ'.out,_,rfl⟩
     case measure=>simp [intOf];omega
   | false=>
     have HQ':Hid (eqL sameK l m=false):=HQ.out.trans (by rw [HST.out,hs,Bool.false_and])
     go_wp2
     go_quiet (fail)
     go_wp2
     go_ret
     exact ⟨by rw [HQ'.out];rfl,_,World.drewN_drewN _ _ _⟩
  have HQ':Hid (eqL sameK l m=true):=HQ.out.trans (zeb sameK l m k hlt HLEN.out)
  go_wp2
  go_ret
  exact ⟨by rw [HQ'.out];rfl,n,rfl⟩
theorem zo2 (w:World) (M M':Nat->Prop) (u v:Value) (l m:List FieldD) (hu:SL 3 RF M w u l) (hv:SL 3 RF M' w v m):
 Calls Tryz.prog 186 #[u,v] w fun r w'=>r=.returned (.bool (eqL sameF l m))/\∃n,w'=w.drewN n:=by
 have HU:=mk0 hu
 have HV:=mk0 hv
 obtain ⟨au,cu,rfl,_,hl,-⟩:=hu
 obtain ⟨av,cv,rfl,_,hm,-⟩:=hv
 unfold maxLen at hl hm
 by_cases hlen:l.length=m.length
 rotate_left
 ·
  have h0:¬(l.length:Int)=m.length:=by omega
  have HR:=mk0 (zd9 sameF l m hlen)
  clear hlen
  go_enter Tryz.func186,Tryz.ntmps186
  go_wp2
  go_ret
  exact ⟨by rw [HR.out];rfl,0,rfl⟩
 rw [<-hlen]at HV ⊢
 have HLEN:=mk0 hlen
 clear hm hlen
 go_enter Tryz.func186,Tryz.ntmps186
 go_wp2
 go_loopw [5] (fun i wr=>∃k:Nat,k<=l.length/\i=.int .i64 k/\Hid (eqL sameF l m=eqL sameF (l.drop k) (m.drop k))/\∃n,wr=w.drewN n) (fun i _=>l.length - (intOf i).toNat)
 case atStart=>exact ⟨0,Nat.zero_le _,rfl,rfl,0,rfl⟩
 case round=>
  obtain ⟨k,hk,rfl,HQ,n,rfl⟩:=hrel
  by_cases hlt:k<l.length
  ·
   have hlm:k<m.length:=by have:=HLEN.out;omega
   obtain ⟨b,off,rfl,_,c0,c1,c2,_⟩:=HU.out.atF k hlt
   obtain ⟨b2,off2,rfl,_,d0,d1,d2,_⟩:=HV.out.atF k hlm
   have HST:=mk0 (zea sameF l m k hlt hlm)
   have hne:=fieldNeq l[k] m[k]
   have hng:=fieldNeqG
   generalize l[k]=x at*
   generalize m[k]=y at*
   cases hs:sameF x y with
   | true=>
     have HQ':Hid (eqL sameF l m=eqL sameF (l.drop (k+1)) (m.drop (k+1))):=HQ.out.trans (by rw [HST.out,hs,Bool.true_and])
     go_wp2
     go_quiet (fail)
     go_wp2
     go_roundw
     case rel=>exact ⟨k+1,by omega,by go_num,HQ'.out,_,rfl⟩
     case measure=>simp [intOf];omega
   | false=>
     have HQ':Hid (eqL sameF l m=false):=HQ.out.trans (by rw [HST.out,hs,Bool.false_and])
     go_wp2
     go_quiet (fail)
     go_wp2
     go_ret
     exact ⟨by rw [HQ'.out];rfl,_,World.drewN_drewN _ _ _⟩
  have HQ':Hid (eqL sameF l m=true):=HQ.out.trans (zeb sameF l m k hlt HLEN.out)
  go_wp2
  go_ret
  exact ⟨by rw [HQ'.out];rfl,n,rfl⟩
end Go.Proofs.YtjdnmblggdobgaaGreat
