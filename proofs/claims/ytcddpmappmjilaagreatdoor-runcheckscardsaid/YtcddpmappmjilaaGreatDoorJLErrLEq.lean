import Derived.Test.YtcddpmappmjilaaGreatDoorJLEvLAsk
import Derived.Laws.StructEq
namespace Go.Proofs.YtcddpmappmjilaaGreatDoor
open Go.RowKit Go.Maps
theorem kindEql (k k':Int) (c c':ByteArray) (w:World):(binOp BinOp.eql 80 (.agg #[.int .i64 k,.string c]) (.agg #[.int .i64 k',.string c'])).run Tryz.prog w=.ok (.bool ((k==k')&&(c.toList==c'.toList))) w:=by
 have u3:=Tryz.underlying3
 have a3:=Tryz.isAgg3
 have z3:=Tryz.sizeOf3
 have u9:=Tryz.underlying9
 have a9:=Tryz.isAgg9
 have z9:=Tryz.sizeOf9
 have hS:Tryz.prog.underlying 80=some (.struct (Tryz.prog.fieldsOf 80)):=by kernel_rfl
 have hp:Tryz.prog.stoodInHeld 80=false:=by kernel_rfl
 rw [run_eql_struct,show (10000:Nat)=9999+1 from rfl,run_equalIn_agg w 9999 80 _ _ hS hp]
 simp only [Program.fieldsOf,Tryz.underlying80]
 go_simp
 by_cases h1:k=k'<;>by_cases h2:c.toList=c'.toList<;>simp [h1,h2]
theorem kindGuard:Tryz.prog.eqGuardType Tryz.prog.depth 80=false:=by kernel_rfl
set_option maxHeartbeats 2000000 in
theorem errorIsRight_any (w:World) (B b:Nat) (l:List ClassD) (vC vS vF vN vT vL:Value) (Bm:Nat) (hw:Web B w b l vC vS vF vN vT vL Bm) (he:0<=num l errName):
 Calls Tryz.prog 94 #[.pointer (some ⟨b,0,none⟩)] w fun r w'=>r=.returned (.bool (askError l))/\Below w.heap.size w w':=by
 have hnm:∀n,NumMap (w.drewN n) Bm l:=fun n=>hw.nm.below (below_dn (Below.refl w.heap.size w) n) hw.nm.lt
 have c5:=cell_of hw.blk 5 (x:=.map (some Bm)) rfl
 have c1:=cell_of hw.blk 1 (x:=vS) rfl
 have c2:=cell_of hw.blk 2 (x:=vF) rfl
 have HN:Hid (∀s,s.size<=maxLen->∀n,Calls Tryz.prog 85 #[.pointer (some ⟨b,0,none⟩),.string s] (w.drewN n) fun r w'=>r=.returned (.int .i64 (num l s))/\w'=w.drewN n):=fun s hs n=>number_any _ b Bm l s c5 (hnm n) hs
 obtain ⟨n,hn⟩:=Int.eq_ofNat_of_zero_le he
 have hnl:n<l.length:=by have:=(num_le l errName).2;omega
 obtain ⟨t,ht⟩:∃t,num l topName=t:=⟨_,rfl⟩
 have htb:=num_le l topName
 have hsb:=num_le l (clsAt l n).super
 rw [ht]at htb
 have HA:Hid (askError l=(decide (supAt l n=t)&&(match fieldsOf l n with | []=>false | f::_=>sameK f.kind ⟨1,⟨#[]⟩⟩))):=by
  show askError l=_
  unfold askError
  rw [ht,hn]
  rfl
 have hlS:((List.range l.length).map (supAt l)).length=l.length:=by simp
 have hlF:((List.range l.length).map (fieldsOf l)).length=l.length:=by simp
 obtain ⟨aS,cS,hvS,-⟩:=hw.sS
 obtain ⟨aF,cF,hvF,-⟩:=hw.sF
 rw [hlS]at hvS
 rw [hlF]at hvF
 subst hvS hvF
 obtain ⟨bS,oS,rfl,hbS,e1⟩:=hw.sS.atI n (by omega)
 obtain ⟨bF,oF,aL,cL,rfl,hbF,e2,sL⟩:=hw.sF.atSl n (by omega)
 have g1:((List.range l.length).map (supAt l))[n]'(by omega)=supAt l n:=by simp
 have g2:((List.range l.length).map (fieldsOf l))[n]'(by omega)=fieldsOf l n:=by simp
 rw [g1]at e1
 rw [g2]at e2 sL
 have hsx:supAt l n=num l (clsAt l n).super:=rfl
 rw [<-hsx]at hsb
 clear g1 g2 hlS hlF hsx hw c5 hnm
 generalize supAt l n=s at*
 generalize fieldsOf l n=fs at*
 have HE:Hid (num l errName=n):=hn
 have HT:Hid (num l topName=t):=ht
 have ht1:=htb.1
 have ht2:=htb.2
 have hs1:=hsb.1
 have hs2:=hsb.2
 have h00:(0:Int)<=n:=by omega
 have h01:(n:Int)<l.length:=by omega
 clear hn ht he htb hsb
 by_cases hst:s=t
 ·
  subst hst
  cases fs with
  | nil=>
    have e2':w.cell? ⟨bF,oF+n,none⟩=some (.slice aL 0 cL):=e2
    clear e2 sL
    go_enter Tryz.func94,Tryz.ntmps94
    go_wp2_with (go_at_call 85;refine (HN.out errName (by decide) 0).mono ?_;rintro r w1 ⟨h1,rfl⟩;rw [HE.out]at h1;subst h1)
    go_quiet (first | (go_at_call 85;exact Calls.quiet_of_same ((HN.out topName (by decide) _).mono fun _ _ h=>⟨h.1.trans (by rw [HT.out]),h.2⟩)))
    go_wp2_with fail
    go_ret
    exact ⟨by rw [HA.out];simp,below_dn (below_dn (Below.refl _ _) _) _⟩
  | cons f fs=>
    obtain ⟨bf,of,rfl,hbf,y0,y1,y2,z1,z2⟩:=sL.atF 0 (by simp)
    have e2':w.cell? ⟨bF,oF+n,none⟩=some (.slice (some ⟨bf,of,none⟩) (fs.length+1) cL):=e2
    have y1':w.cell? ⟨bf,of+1,none⟩=some (.int .i64 f.kind.kind):=by simpa using y1
    have y2':w.cell? ⟨bf,of+2,none⟩=some (.string f.kind.cls):=by simpa using y2
    have hz2:f.kind.cls.size<=maxLen:=z2
    have hfl:(0:Int)<((fs.length+1:Nat):Int):=by omega
    clear e2 sL y0 y1 y2 z1 z2
    have hke:=kindEql f.kind.kind 1 f.kind.cls ⟨#[]⟩
    have hkg:=kindGuard
    go_enter Tryz.func94,Tryz.ntmps94
    go_wp2_with (go_at_call 85;refine (HN.out errName (by decide) 0).mono ?_;rintro r w1 ⟨h1,rfl⟩;rw [HE.out]at h1;subst h1)
    go_quiet (first | (go_at_call 85;exact Calls.quiet_of_same ((HN.out topName (by decide) _).mono fun _ _ h=>⟨h.1.trans (by rw [HT.out]),h.2⟩)))
    go_wp2_with fail
    go_ret
    have hval:(f.kind.kind==1&&f.kind.cls.toList.isEmpty)=askError l:=by
     rw [HA.out,sameK]
     by_cases h2:f.kind.cls=⟨#[]⟩
     ·
      rw [nil_tl h2,Bool.eq_iff_iff]
      simp [h2]
     have:f.kind.cls.toList.isEmpty=false:=by
      cases hq:f.kind.cls.toList with
      | nil=>exact absurd (tl_nil hq) h2
      | cons _ _=>rfl
     rw [this]
     simp [h2]
    exact ⟨by rw [<-hval];rfl,below_dn (below_dn (Below.refl _ _) _) _⟩
 have hd:(s==t)=false:=by simpa using hst
 have hd2:decide (s=t)=false:=by simpa using hst
 clear sL
 go_enter Tryz.func94,Tryz.ntmps94
 go_wp2_with (go_at_call 85;refine (HN.out errName (by decide) 0).mono ?_;rintro r w1 ⟨h1,rfl⟩;rw [HE.out]at h1;subst h1)
 go_quiet (first | (go_at_call 85;exact Calls.quiet_of_same ((HN.out topName (by decide) _).mono fun _ _ h=>⟨h.1.trans (by rw [HT.out]),h.2⟩)))
 go_wp2_with fail
 go_ret
 exact ⟨by rw [HA.out,hd2];rfl,below_dn (below_dn (Below.refl _ _) _) _⟩
end Go.Proofs.YtcddpmappmjilaaGreatDoor
namespace Go.Proofs.YtcddpmappmjilaaGreatDoor
open Go.RowKit Go.Maps
def eqL {α:Type} (p:α->α->Bool):List α->List α->Bool
 | [],[]=>true
 | x::l,y::m=>p x y&&eqL p l m
 | _,_=>false
theorem eqL_len {α:Type} (p:α->α->Bool):∀(l m:List α),l.length≠m.length->eqL p l m=false
 | [],[],h=>absurd rfl h
 | x::l,y::m,h=>by rw [eqL,eqL_len p l m (fun e=>h (by simp [e]))];simp
 | [],_::_,_=>rfl
 | _::_,[],_=>rfl
theorem eqL_step {α:Type} (p:α->α->Bool) (l m:List α) (k:Nat) (hk:k<l.length) (hm:k<m.length):eqL p (l.drop k) (m.drop k)=(p l[k] m[k]&&eqL p (l.drop (k+1)) (m.drop (k+1))):=by
 rw [List.drop_eq_getElem_cons hk,List.drop_eq_getElem_cons hm,eqL]
theorem eqL_end {α:Type} (p:α->α->Bool) (l m:List α) (k:Nat) (hk:¬k<l.length) (h:l.length=m.length):eqL p (l.drop k) (m.drop k)=true:=by
 rw [List.drop_of_length_le (by omega),List.drop_of_length_le (by omega),eqL]
theorem tl_beq (a b:ByteArray):(a.toList==b.toList)=decide (a=b):=by
 rw [Bool.eq_iff_iff,beq_iff_eq,decide_eq_true_iff]
 exact ⟨tl_inj,fun h=>by rw [h]⟩
def sameI (a b:Int):Bool:=a==b
def sameS (a b:ByteArray):Bool:=a.toList==b.toList
def sameF (a b:FieldD):Bool:=decide (a.name=b.name)&&sameK a.kind b.kind
def sameT (a b:TargD):Bool:=(a.cls==b.cls)&&(a.meth==b.meth)
theorem sameK_eq (k k':Int) (c c':ByteArray):((k==k')&&(c.toList==c'.toList))=sameK ⟨k,c⟩ ⟨k',c'⟩:=by
 rw [tl_beq,sameK,Bool.eq_iff_iff]
 simp
theorem kindNeq (x y:KindD) (w:World):(binOp BinOp.neq 80 (.agg #[.int .i64 x.kind,.string x.cls]) (.agg #[.int .i64 y.kind,.string y.cls])).run Tryz.prog w=.ok (.bool (!sameK x y)) w:=by
 have u3:=Tryz.underlying3
 have a3:=Tryz.isAgg3
 have z3:=Tryz.sizeOf3
 have u9:=Tryz.underlying9
 have a9:=Tryz.isAgg9
 have z9:=Tryz.sizeOf9
 have hS:Tryz.prog.underlying 80=some (.struct (Tryz.prog.fieldsOf 80)):=by kernel_rfl
 have hp:Tryz.prog.stoodInHeld 80=false:=by kernel_rfl
 rw [run_neq_struct,show (10000:Nat)=9999+1 from rfl,run_equalIn_agg w 9999 80 _ _ hS hp]
 simp only [Program.fieldsOf,Tryz.underlying80]
 go_simp
 rw [<-sameK_eq x.kind y.kind x.cls y.cls]
 by_cases h1:x.kind=y.kind<;>by_cases h2:x.cls.toList=y.cls.toList<;>simp [h1,h2]
theorem kindNeqG:Tryz.prog.eqGuardType Tryz.prog.depth 80=false:=by kernel_rfl
theorem targNeq (x y:TargD) (w:World):(binOp BinOp.neq 67 (.agg #[.int .i64 x.cls,.int .i64 x.meth]) (.agg #[.int .i64 y.cls,.int .i64 y.meth])).run Tryz.prog w=.ok (.bool (!sameT x y)) w:=by
 have u3:=Tryz.underlying3
 have a3:=Tryz.isAgg3
 have z3:=Tryz.sizeOf3
 have u9:=Tryz.underlying9
 have a9:=Tryz.isAgg9
 have z9:=Tryz.sizeOf9
 have hS:Tryz.prog.underlying 67=some (.struct (Tryz.prog.fieldsOf 67)):=by kernel_rfl
 have hp:Tryz.prog.stoodInHeld 67=false:=by kernel_rfl
 rw [run_neq_struct,show (10000:Nat)=9999+1 from rfl,run_equalIn_agg w 9999 67 _ _ hS hp]
 simp only [Program.fieldsOf,Tryz.underlying67]
 go_simp
 rw [sameT]
 by_cases h1:x.cls=y.cls<;>by_cases h2:x.meth=y.meth<;>simp [h1,h2]
theorem targNeqG:Tryz.prog.eqGuardType Tryz.prog.depth 67=false:=by kernel_rfl
theorem fieldNeq (x y:FieldD) (w:World):(binOp BinOp.neq 85 (.agg #[.string x.name,.int .i64 x.kind.kind,.string x.kind.cls]) (.agg #[.string y.name,.int .i64 y.kind.kind,.string y.kind.cls])).run Tryz.prog w=.ok (.bool (!sameF x y)) w:=by
 have u3:=Tryz.underlying3
 have a3:=Tryz.isAgg3
 have z3:=Tryz.sizeOf3
 have u9:=Tryz.underlying9
 have a9:=Tryz.isAgg9
 have z9:=Tryz.sizeOf9
 have uk:=Tryz.underlying80
 have ak:=Tryz.isAgg80
 have zk:=Tryz.sizeOf80
 have hSk:Tryz.prog.underlying 80=some (.struct (Tryz.prog.fieldsOf 80)):=by kernel_rfl
 have hpk:Tryz.prog.stoodInHeld 80=false:=by kernel_rfl
 have hS:Tryz.prog.underlying 85=some (.struct (Tryz.prog.fieldsOf 85)):=by kernel_rfl
 have hp:Tryz.prog.stoodInHeld 85=false:=by kernel_rfl
 rw [run_neq_struct,show (10000:Nat)=9999+1 from rfl,run_equalIn_agg w 9999 85 _ _ hS hp]
 simp only [Program.fieldsOf,Tryz.underlying85]
 go_simp
 rw [sameF,<-tl_beq,<-sameK_eq x.kind.kind y.kind.kind x.kind.cls y.kind.cls]
 by_cases h0:x.name.toList=y.name.toList<;>by_cases h1:x.kind.kind=y.kind.kind<;>by_cases h2:x.kind.cls.toList=y.kind.cls.toList<;>simp [h0,h1,h2]
theorem fieldNeqG:Tryz.prog.eqGuardType Tryz.prog.depth 85=false:=by kernel_rfl
set_option maxHeartbeats 1000000 in
theorem equalI_any (w:World) (M M':Nat->Prop) (u v:Value) (l m:List Int) (hu:SL 1 RI M w u l) (hv:SL 1 RI M' w v m):
 Calls Tryz.prog 133 #[u,v] w fun r w'=>r=.returned (.bool (eqL sameI l m))/\∃n,w'=w.drewN n:=by
 have HU:=mkHid hu
 have HV:=mkHid hv
 obtain ⟨au,cu,rfl,_,hl,-⟩:=hu
 obtain ⟨av,cv,rfl,_,hm,-⟩:=hv
 unfold maxLen at hl hm
 by_cases hlen:l.length=m.length
 rotate_left
 ·
  have h0:¬(l.length:Int)=m.length:=by omega
  have HR:=mkHid (eqL_len sameI l m hlen)
  clear hlen
  go_enter Tryz.func133,Tryz.ntmps133
  go_wp2
  go_ret
  exact ⟨by rw [HR.out];rfl,0,rfl⟩
 rw [<-hlen]at HV ⊢
 have HLEN:=mkHid hlen
 clear hm hlen
 go_enter Tryz.func133,Tryz.ntmps133
 go_wp2
 go_loopw [13] (fun i wr=>∃k:Nat,k<=l.length/\i=.int .i64 k/\Hid (eqL sameI l m=eqL sameI (l.drop k) (m.drop k))/\∃n,wr=w.drewN n) (fun i _=>l.length - (intOf i).toNat)
 case atStart=>exact ⟨0,Nat.zero_le _,rfl,rfl,0,rfl⟩
 case round=>
  obtain ⟨k,hk,rfl,HQ,n,rfl⟩:=hrel
  by_cases hlt:k<l.length
  ·
   have hlm:k<m.length:=by have:=HLEN.out;omega
   obtain ⟨b,off,rfl,_,c0⟩:=HU.out.atI k hlt
   obtain ⟨b2,off2,rfl,_,d0⟩:=HV.out.atI k hlm
   have HST:=mkHid (eqL_step sameI l m k hlt hlm)
   generalize l[k]=x at*
   generalize m[k]=y at*
   cases hs:sameI x y with
   | true=>
     have hs':x=y:=by simpa [sameI]using hs
     have HQ':Hid (eqL sameI l m=eqL sameI (l.drop (k+1)) (m.drop (k+1))):=HQ.out.trans (by rw [HST.out,hs,Bool.true_and])
     go_wp2
     go_quiet (fail)
     go_wp2
     go_roundw
     case rel=>exact ⟨k+1,by omega,by go_num,HQ'.out,_,rfl⟩
     case measure=>simp [intOf];omega
   | false=>
     have hs':¬x=y:=by simpa [sameI]using hs
     have HQ':Hid (eqL sameI l m=false):=HQ.out.trans (by rw [HST.out,hs,Bool.false_and])
     go_wp2
     go_quiet (fail)
     go_wp2
     go_ret
     exact ⟨by rw [HQ'.out];rfl,_,World.drewN_drewN _ _ _⟩
  have HQ':Hid (eqL sameI l m=true):=HQ.out.trans (eqL_end sameI l m k hlt HLEN.out)
  go_wp2
  go_ret
  exact ⟨by rw [HQ'.out];rfl,n,rfl⟩
set_option maxHeartbeats 1000000 in
theorem equalK_any (w:World) (M M':Nat->Prop) (u v:Value) (l m:List KindD) (hu:SL 2 RK M w u l) (hv:SL 2 RK M' w v m):
 Calls Tryz.prog 236 #[u,v] w fun r w'=>r=.returned (.bool (eqL sameK l m))/\∃n,w'=w.drewN n:=by
 have HU:=mkHid hu
 have HV:=mkHid hv
 obtain ⟨au,cu,rfl,_,hl,-⟩:=hu
 obtain ⟨av,cv,rfl,_,hm,-⟩:=hv
 unfold maxLen at hl hm
 by_cases hlen:l.length=m.length
 rotate_left
 ·
  have h0:¬(l.length:Int)=m.length:=by omega
  have HR:=mkHid (eqL_len sameK l m hlen)
  clear hlen
  go_enter Tryz.func236,Tryz.ntmps236
  go_wp2
  go_ret
  exact ⟨by rw [HR.out];rfl,0,rfl⟩
 rw [<-hlen]at HV ⊢
 have HLEN:=mkHid hlen
 clear hm hlen
 go_enter Tryz.func236,Tryz.ntmps236
 go_wp2
 go_loopw [13] (fun i wr=>∃k:Nat,k<=l.length/\i=.int .i64 k/\Hid (eqL sameK l m=eqL sameK (l.drop k) (m.drop k))/\∃n,wr=w.drewN n) (fun i _=>l.length - (intOf i).toNat)
 case atStart=>exact ⟨0,Nat.zero_le _,rfl,rfl,0,rfl⟩
 case round=>
  obtain ⟨k,hk,rfl,HQ,n,rfl⟩:=hrel
  by_cases hlt:k<l.length
  ·
   have hlm:k<m.length:=by have:=HLEN.out;omega
   obtain ⟨b,off,rfl,_,c0,c1,_⟩:=HU.out.atK k hlt
   obtain ⟨b2,off2,rfl,_,d0,d1,_⟩:=HV.out.atK k hlm
   have HST:=mkHid (eqL_step sameK l m k hlt hlm)
   have hne:=kindNeq l[k] m[k]
   have hng:=kindNeqG
   generalize l[k]=x at*
   generalize m[k]=y at*
   cases hs:sameK x y with
   | true=>
     have HQ':Hid (eqL sameK l m=eqL sameK (l.drop (k+1)) (m.drop (k+1))):=HQ.out.trans (by rw [HST.out,hs,Bool.true_and])
     go_wp2
     go_quiet (fail)
     go_wp2
     go_roundw
     case rel=>exact ⟨k+1,by omega,by go_num,HQ'.out,_,rfl⟩
     case measure=>simp [intOf];omega
   | false=>
     have HQ':Hid (eqL sameK l m=false):=HQ.out.trans (by rw [HST.out,hs,Bool.false_and])
     go_wp2
     go_quiet (fail)
     go_wp2
     go_ret
     exact ⟨by rw [HQ'.out];rfl,_,World.drewN_drewN _ _ _⟩
  have HQ':Hid (eqL sameK l m=true):=HQ.out.trans (eqL_end sameK l m k hlt HLEN.out)
  go_wp2
  go_ret
  exact ⟨by rw [HQ'.out];rfl,n,rfl⟩
set_option maxHeartbeats 1000000 in
theorem equalF_any (w:World) (M M':Nat->Prop) (u v:Value) (l m:List FieldD) (hu:SL 3 RF M w u l) (hv:SL 3 RF M' w v m):
 Calls Tryz.prog 135 #[u,v] w fun r w'=>r=.returned (.bool (eqL sameF l m))/\∃n,w'=w.drewN n:=by
 have HU:=mkHid hu
 have HV:=mkHid hv
 obtain ⟨au,cu,rfl,_,hl,-⟩:=hu
 obtain ⟨av,cv,rfl,_,hm,-⟩:=hv
 unfold maxLen at hl hm
 by_cases hlen:l.length=m.length
 rotate_left
 ·
  have h0:¬(l.length:Int)=m.length:=by omega
  have HR:=mkHid (eqL_len sameF l m hlen)
  clear hlen
  go_enter Tryz.func135,Tryz.ntmps135
  go_wp2
  go_ret
  exact ⟨by rw [HR.out];rfl,0,rfl⟩
 rw [<-hlen]at HV ⊢
 have HLEN:=mkHid hlen
 clear hm hlen
 go_enter Tryz.func135,Tryz.ntmps135
 go_wp2
 go_loopw [13] (fun i wr=>∃k:Nat,k<=l.length/\i=.int .i64 k/\Hid (eqL sameF l m=eqL sameF (l.drop k) (m.drop k))/\∃n,wr=w.drewN n) (fun i _=>l.length - (intOf i).toNat)
 case atStart=>exact ⟨0,Nat.zero_le _,rfl,rfl,0,rfl⟩
 case round=>
  obtain ⟨k,hk,rfl,HQ,n,rfl⟩:=hrel
  by_cases hlt:k<l.length
  ·
   have hlm:k<m.length:=by have:=HLEN.out;omega
   obtain ⟨b,off,rfl,_,c0,c1,c2,_⟩:=HU.out.atF k hlt
   obtain ⟨b2,off2,rfl,_,d0,d1,d2,_⟩:=HV.out.atF k hlm
   have HST:=mkHid (eqL_step sameF l m k hlt hlm)
   have hne:=fieldNeq l[k] m[k]
   have hng:=fieldNeqG
   generalize l[k]=x at*
   generalize m[k]=y at*
   cases hs:sameF x y with
   | true=>
     have HQ':Hid (eqL sameF l m=eqL sameF (l.drop (k+1)) (m.drop (k+1))):=HQ.out.trans (by rw [HST.out,hs,Bool.true_and])
     go_wp2
     go_quiet (fail)
     go_wp2
     go_roundw
     case rel=>exact ⟨k+1,by omega,by go_num,HQ'.out,_,rfl⟩
     case measure=>simp [intOf];omega
   | false=>
     have HQ':Hid (eqL sameF l m=false):=HQ.out.trans (by rw [HST.out,hs,Bool.false_and])
     go_wp2
     go_quiet (fail)
     go_wp2
     go_ret
     exact ⟨by rw [HQ'.out];rfl,_,World.drewN_drewN _ _ _⟩
  have HQ':Hid (eqL sameF l m=true):=HQ.out.trans (eqL_end sameF l m k hlt HLEN.out)
  go_wp2
  go_ret
  exact ⟨by rw [HQ'.out];rfl,n,rfl⟩
set_option maxHeartbeats 1000000 in
theorem equalS_any (w:World) (M M':Nat->Prop) (u v:Value) (l m:List ByteArray) (hu:SL 1 RS M w u l) (hv:SL 1 RS M' w v m):
 Calls Tryz.prog 137 #[u,v] w fun r w'=>r=.returned (.bool (eqL sameS l m))/\∃n,w'=w.drewN n:=by
 have HU:=mkHid hu
 have HV:=mkHid hv
 obtain ⟨au,cu,rfl,_,hl,-⟩:=hu
 obtain ⟨av,cv,rfl,_,hm,-⟩:=hv
 unfold maxLen at hl hm
 by_cases hlen:l.length=m.length
 rotate_left
 ·
  have h0:¬(l.length:Int)=m.length:=by omega
  have HR:=mkHid (eqL_len sameS l m hlen)
  clear hlen
  go_enter Tryz.func137,Tryz.ntmps137
  go_wp2
  go_ret
  exact ⟨by rw [HR.out];rfl,0,rfl⟩
 rw [<-hlen]at HV ⊢
 have HLEN:=mkHid hlen
 clear hm hlen
 go_enter Tryz.func137,Tryz.ntmps137
 go_wp2
 go_loopw [13] (fun i wr=>∃k:Nat,k<=l.length/\i=.int .i64 k/\Hid (eqL sameS l m=eqL sameS (l.drop k) (m.drop k))/\∃n,wr=w.drewN n) (fun i _=>l.length - (intOf i).toNat)
 case atStart=>exact ⟨0,Nat.zero_le _,rfl,rfl,0,rfl⟩
 case round=>
  obtain ⟨k,hk,rfl,HQ,n,rfl⟩:=hrel
  by_cases hlt:k<l.length
  ·
   have hlm:k<m.length:=by have:=HLEN.out;omega
   obtain ⟨b,off,rfl,_,c0,_⟩:=HU.out.atS k hlt
   obtain ⟨b2,off2,rfl,_,d0,_⟩:=HV.out.atS k hlm
   have HST:=mkHid (eqL_step sameS l m k hlt hlm)
   generalize l[k]=x at*
   generalize m[k]=y at*
   cases hs:sameS x y with
   | true=>
     have hs':(x.toList==y.toList)=true:=hs
     have HQ':Hid (eqL sameS l m=eqL sameS (l.drop (k+1)) (m.drop (k+1))):=HQ.out.trans (by rw [HST.out,hs,Bool.true_and])
     go_wp2
     go_quiet (fail)
     go_wp2
     go_roundw
     case rel=>exact ⟨k+1,by omega,by go_num,HQ'.out,_,rfl⟩
     case measure=>simp [intOf];omega
   | false=>
     have hs':(x.toList==y.toList)=false:=hs
     have HQ':Hid (eqL sameS l m=false):=HQ.out.trans (by rw [HST.out,hs,Bool.false_and])
     go_wp2
     go_quiet (fail)
     go_wp2
     go_ret
     exact ⟨by rw [HQ'.out];rfl,_,World.drewN_drewN _ _ _⟩
  have HQ':Hid (eqL sameS l m=true):=HQ.out.trans (eqL_end sameS l m k hlt HLEN.out)
  go_wp2
  go_ret
  exact ⟨by rw [HQ'.out];rfl,n,rfl⟩
set_option maxHeartbeats 1000000 in
theorem equalT_any (w:World) (M M':Nat->Prop) (u v:Value) (l m:List TargD) (hu:SL 2 RT M w u l) (hv:SL 2 RT M' w v m):
 Calls Tryz.prog 139 #[u,v] w fun r w'=>r=.returned (.bool (eqL sameT l m))/\∃n,w'=w.drewN n:=by
 have HU:=mkHid hu
 have HV:=mkHid hv
 obtain ⟨au,cu,rfl,_,hl,-⟩:=hu
 obtain ⟨av,cv,rfl,_,hm,-⟩:=hv
 unfold maxLen at hl hm
 by_cases hlen:l.length=m.length
 rotate_left
 ·
  have h0:¬(l.length:Int)=m.length:=by omega
  have HR:=mkHid (eqL_len sameT l m hlen)
  clear hlen
  go_enter Tryz.func139,Tryz.ntmps139
  go_wp2
  go_ret
  exact ⟨by rw [HR.out];rfl,0,rfl⟩
 rw [<-hlen]at HV ⊢
 have HLEN:=mkHid hlen
 clear hm hlen
 go_enter Tryz.func139,Tryz.ntmps139
 go_wp2
 go_loopw [13] (fun i wr=>∃k:Nat,k<=l.length/\i=.int .i64 k/\Hid (eqL sameT l m=eqL sameT (l.drop k) (m.drop k))/\∃n,wr=w.drewN n) (fun i _=>l.length - (intOf i).toNat)
 case atStart=>exact ⟨0,Nat.zero_le _,rfl,rfl,0,rfl⟩
 case round=>
  obtain ⟨k,hk,rfl,HQ,n,rfl⟩:=hrel
  by_cases hlt:k<l.length
  ·
   have hlm:k<m.length:=by have:=HLEN.out;omega
   obtain ⟨b,off,rfl,_,c0,c1⟩:=HU.out.atT k hlt
   obtain ⟨b2,off2,rfl,_,d0,d1⟩:=HV.out.atT k hlm
   have HST:=mkHid (eqL_step sameT l m k hlt hlm)
   have hne:=targNeq l[k] m[k]
   have hng:=targNeqG
   generalize l[k]=x at*
   generalize m[k]=y at*
   cases hs:sameT x y with
   | true=>
     have HQ':Hid (eqL sameT l m=eqL sameT (l.drop (k+1)) (m.drop (k+1))):=HQ.out.trans (by rw [HST.out,hs,Bool.true_and])
     go_wp2
     go_quiet (fail)
     go_wp2
     go_roundw
     case rel=>exact ⟨k+1,by omega,by go_num,HQ'.out,_,rfl⟩
     case measure=>simp [intOf];omega
   | false=>
     have HQ':Hid (eqL sameT l m=false):=HQ.out.trans (by rw [HST.out,hs,Bool.false_and])
     go_wp2
     go_quiet (fail)
     go_wp2
     go_ret
     exact ⟨by rw [HQ'.out];rfl,_,World.drewN_drewN _ _ _⟩
  have HQ':Hid (eqL sameT l m=true):=HQ.out.trans (eqL_end sameT l m k hlt HLEN.out)
  go_wp2
  go_ret
  exact ⟨by rw [HQ'.out];rfl,n,rfl⟩
set_option maxHeartbeats 1000000 in
theorem equalFs_any (w:World) (M M':Nat->Prop) (u v:Value) (l m:List (List FieldD)) (hu:SL 1 (RSl 3 RF) M w u l) (hv:SL 1 (RSl 3 RF) M' w v m):
 Calls Tryz.prog 134 #[u,v,.func (.func 135) #[] #[]] w fun r w'=>r=.returned (.bool (eqL (eqL sameF) l m))/\∃n,w'=w.drewN n:=by
 have HU:=mkHid hu
 have HV:=mkHid hv
 obtain ⟨au,cu,rfl,_,hl,-⟩:=hu
 obtain ⟨av,cv,rfl,_,hm,-⟩:=hv
 unfold maxLen at hl hm
 by_cases hlen:l.length=m.length
 rotate_left
 ·
  have h0:¬(l.length:Int)=m.length:=by omega
  have HR:=mkHid (eqL_len (eqL sameF) l m hlen)
  clear hlen
  go_enter Tryz.func134,Tryz.ntmps134
  go_wp2
  go_ret
  exact ⟨by rw [HR.out];rfl,0,rfl⟩
 rw [<-hlen]at HV ⊢
 have HLEN:=mkHid hlen
 clear hm hlen
 go_enter Tryz.func134,Tryz.ntmps134
 go_wp2
 go_loopw [17] (fun i wr=>∃k:Nat,k<=l.length/\i=.int .i64 k/\Hid (eqL (eqL sameF) l m=eqL (eqL sameF) (l.drop k) (m.drop k))/\∃n,wr=w.drewN n) (fun i _=>l.length - (intOf i).toNat)
 case atStart=>exact ⟨0,Nat.zero_le _,rfl,rfl,0,rfl⟩
 case round=>
  obtain ⟨k,hk,rfl,HQ,n,rfl⟩:=hrel
  by_cases hlt:k<l.length
  ·
   have hlm:k<m.length:=by have:=HLEN.out;omega
   obtain ⟨b,off,a1,k1,rfl,_,c0,su⟩:=HU.out.atSl k hlt
   obtain ⟨b2,off2,a2,k2,rfl,_,d0,sv⟩:=HV.out.atSl k hlm
   have HST:=mkHid (eqL_step (eqL sameF) l m k hlt hlm)
   generalize l[k]=x at*
   generalize m[k]=y at*
   have HC:=mkHid (equalF_any (w.drewN n) M M' _ _ x y (su.kept ⟨Nat.le_refl _,fun _ _ _=>rfl⟩ fun _ _ h=>h) (sv.kept ⟨Nat.le_refl _,fun _ _ _=>rfl⟩ fun _ _ h=>h))
   clear su sv
   cases hs:eqL sameF x y with
   | true=>
     rw [hs]at HC
     have HQ':Hid (eqL (eqL sameF) l m=eqL (eqL sameF) (l.drop (k+1)) (m.drop (k+1))):=HQ.out.trans (by rw [HST.out,hs,Bool.true_and])
     clear hs
     go_wp2_with (first | (go_at_call 135;refine HC.out.mono ?_;rintro r w7 ⟨rfl,n7,rfl⟩))
     go_roundw
     case rel=>exact ⟨k+1,by omega,by go_num,HQ'.out,_,rfl⟩
     case measure=>simp [intOf];omega
   | false=>
     rw [hs]at HC
     have HQ':Hid (eqL (eqL sameF) l m=false):=HQ.out.trans (by rw [HST.out,hs,Bool.false_and])
     clear hs
     go_wp2_with (first | (go_at_call 135;refine HC.out.mono ?_;rintro r w7 ⟨rfl,n7,rfl⟩))
     go_ret
     exact ⟨by rw [HQ'.out];rfl,_,rfl⟩
  have HQ':Hid (eqL (eqL sameF) l m=true):=HQ.out.trans (eqL_end (eqL sameF) l m k hlt HLEN.out)
  go_wp2
  go_ret
  exact ⟨by rw [HQ'.out];rfl,n,rfl⟩
set_option maxHeartbeats 1000000 in
theorem equalSs_any (w:World) (M M':Nat->Prop) (u v:Value) (l m:List (List ByteArray)) (hu:SL 1 (RSl 1 RS) M w u l) (hv:SL 1 (RSl 1 RS) M' w v m):
 Calls Tryz.prog 136 #[u,v,.func (.func 137) #[] #[]] w fun r w'=>r=.returned (.bool (eqL (eqL sameS) l m))/\∃n,w'=w.drewN n:=by
 have HU:=mkHid hu
 have HV:=mkHid hv
 obtain ⟨au,cu,rfl,_,hl,-⟩:=hu
 obtain ⟨av,cv,rfl,_,hm,-⟩:=hv
 unfold maxLen at hl hm
 by_cases hlen:l.length=m.length
 rotate_left
 ·
  have h0:¬(l.length:Int)=m.length:=by omega
  have HR:=mkHid (eqL_len (eqL sameS) l m hlen)
  clear hlen
  go_enter Tryz.func136,Tryz.ntmps136
  go_wp2
  go_ret
  exact ⟨by rw [HR.out];rfl,0,rfl⟩
 rw [<-hlen]at HV ⊢
 have HLEN:=mkHid hlen
 clear hm hlen
 go_enter Tryz.func136,Tryz.ntmps136
 go_wp2
 go_loopw [17] (fun i wr=>∃k:Nat,k<=l.length/\i=.int .i64 k/\Hid (eqL (eqL sameS) l m=eqL (eqL sameS) (l.drop k) (m.drop k))/\∃n,wr=w.drewN n) (fun i _=>l.length - (intOf i).toNat)
 case atStart=>exact ⟨0,Nat.zero_le _,rfl,rfl,0,rfl⟩
 case round=>
  obtain ⟨k,hk,rfl,HQ,n,rfl⟩:=hrel
  by_cases hlt:k<l.length
  ·
   have hlm:k<m.length:=by have:=HLEN.out;omega
   obtain ⟨b,off,a1,k1,rfl,_,c0,su⟩:=HU.out.atSl k hlt
   obtain ⟨b2,off2,a2,k2,rfl,_,d0,sv⟩:=HV.out.atSl k hlm
   have HST:=mkHid (eqL_step (eqL sameS) l m k hlt hlm)
   generalize l[k]=x at*
   generalize m[k]=y at*
   have HC:=mkHid (equalS_any (w.drewN n) M M' _ _ x y (su.kept ⟨Nat.le_refl _,fun _ _ _=>rfl⟩ fun _ _ h=>h) (sv.kept ⟨Nat.le_refl _,fun _ _ _=>rfl⟩ fun _ _ h=>h))
   clear su sv
   cases hs:eqL sameS x y with
   | true=>
     rw [hs]at HC
     have HQ':Hid (eqL (eqL sameS) l m=eqL (eqL sameS) (l.drop (k+1)) (m.drop (k+1))):=HQ.out.trans (by rw [HST.out,hs,Bool.true_and])
     clear hs
     go_wp2_with (first | (go_at_call 137;refine HC.out.mono ?_;rintro r w7 ⟨rfl,n7,rfl⟩))
     go_roundw
     case rel=>exact ⟨k+1,by omega,by go_num,HQ'.out,_,rfl⟩
     case measure=>simp [intOf];omega
   | false=>
     rw [hs]at HC
     have HQ':Hid (eqL (eqL sameS) l m=false):=HQ.out.trans (by rw [HST.out,hs,Bool.false_and])
     clear hs
     go_wp2_with (first | (go_at_call 137;refine HC.out.mono ?_;rintro r w7 ⟨rfl,n7,rfl⟩))
     go_ret
     exact ⟨by rw [HQ'.out];rfl,_,rfl⟩
  have HQ':Hid (eqL (eqL sameS) l m=true):=HQ.out.trans (eqL_end (eqL sameS) l m k hlt HLEN.out)
  go_wp2
  go_ret
  exact ⟨by rw [HQ'.out];rfl,n,rfl⟩
set_option maxHeartbeats 1000000 in
theorem equalTs_any (w:World) (M M':Nat->Prop) (u v:Value) (l m:List (List TargD)) (hu:SL 1 (RSl 2 RT) M w u l) (hv:SL 1 (RSl 2 RT) M' w v m):
 Calls Tryz.prog 138 #[u,v,.func (.func 139) #[] #[]] w fun r w'=>r=.returned (.bool (eqL (eqL sameT) l m))/\∃n,w'=w.drewN n:=by
 have HU:=mkHid hu
 have HV:=mkHid hv
 obtain ⟨au,cu,rfl,_,hl,-⟩:=hu
 obtain ⟨av,cv,rfl,_,hm,-⟩:=hv
 unfold maxLen at hl hm
 by_cases hlen:l.length=m.length
 rotate_left
 ·
  have h0:¬(l.length:Int)=m.length:=by omega
  have HR:=mkHid (eqL_len (eqL sameT) l m hlen)
  clear hlen
  go_enter Tryz.func138,Tryz.ntmps138
  go_wp2
  go_ret
  exact ⟨by rw [HR.out];rfl,0,rfl⟩
 rw [<-hlen]at HV ⊢
 have HLEN:=mkHid hlen
 clear hm hlen
 go_enter Tryz.func138,Tryz.ntmps138
 go_wp2
 go_loopw [17] (fun i wr=>∃k:Nat,k<=l.length/\i=.int .i64 k/\Hid (eqL (eqL sameT) l m=eqL (eqL sameT) (l.drop k) (m.drop k))/\∃n,wr=w.drewN n) (fun i _=>l.length - (intOf i).toNat)
 case atStart=>exact ⟨0,Nat.zero_le _,rfl,rfl,0,rfl⟩
 case round=>
  obtain ⟨k,hk,rfl,HQ,n,rfl⟩:=hrel
  by_cases hlt:k<l.length
  ·
   have hlm:k<m.length:=by have:=HLEN.out;omega
   obtain ⟨b,off,a1,k1,rfl,_,c0,su⟩:=HU.out.atSl k hlt
   obtain ⟨b2,off2,a2,k2,rfl,_,d0,sv⟩:=HV.out.atSl k hlm
   have HST:=mkHid (eqL_step (eqL sameT) l m k hlt hlm)
   generalize l[k]=x at*
   generalize m[k]=y at*
   have HC:=mkHid (equalT_any (w.drewN n) M M' _ _ x y (su.kept ⟨Nat.le_refl _,fun _ _ _=>rfl⟩ fun _ _ h=>h) (sv.kept ⟨Nat.le_refl _,fun _ _ _=>rfl⟩ fun _ _ h=>h))
   clear su sv
   cases hs:eqL sameT x y with
   | true=>
     rw [hs]at HC
     have HQ':Hid (eqL (eqL sameT) l m=eqL (eqL sameT) (l.drop (k+1)) (m.drop (k+1))):=HQ.out.trans (by rw [HST.out,hs,Bool.true_and])
     clear hs
     go_wp2_with (first | (go_at_call 139;refine HC.out.mono ?_;rintro r w7 ⟨rfl,n7,rfl⟩))
     go_roundw
     case rel=>exact ⟨k+1,by omega,by go_num,HQ'.out,_,rfl⟩
     case measure=>simp [intOf];omega
   | false=>
     rw [hs]at HC
     have HQ':Hid (eqL (eqL sameT) l m=false):=HQ.out.trans (by rw [HST.out,hs,Bool.false_and])
     clear hs
     go_wp2_with (first | (go_at_call 139;refine HC.out.mono ?_;rintro r w7 ⟨rfl,n7,rfl⟩))
     go_ret
     exact ⟨by rw [HQ'.out];rfl,_,rfl⟩
  have HQ':Hid (eqL (eqL sameT) l m=true):=HQ.out.trans (eqL_end (eqL sameT) l m k hlt HLEN.out)
  go_wp2
  go_ret
  exact ⟨by rw [HQ'.out];rfl,n,rfl⟩
end Go.Proofs.YtcddpmappmjilaaGreatDoor
