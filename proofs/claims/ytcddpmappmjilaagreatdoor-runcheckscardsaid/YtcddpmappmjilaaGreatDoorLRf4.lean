import Derived.Test.YtcddpmappmjilaaGreatDoorJLErrLEq
namespace Go.Proofs.YtcddpmappmjilaaGreatDoor
open Go.RowKit Go.Maps
set_option maxHeartbeats 1000000 in
theorem SameKinds_any (w:World) (M M':Nat->Prop) (u v:Value) (l m:List KindD) (hu:SL 2 RK M w u l) (hv:SL 2 RK M' w v m):
 Calls Tryz.prog 38 #[u,v] w fun r w'=>r=.returned (.bool (eqL sameK l m))/\∃n,w'=w.drewN n:=by
 have HU:=mkHid hu
 have HV:=mkHid hv
 obtain ⟨au,cu,rfl,_,hl,-⟩:=hu
 obtain ⟨av,cv,rfl,_,hm,-⟩:=hv
 unfold maxLen at hl hm
 by_cases hlen:l.length=m.length
 rotate_left
 ·
  have h0:¬(l.length:Int)=m.length:=by omega
  have HR:=mkHid (eqL_len sameK l m hlen)
  clear hlen
  go_enter Tryz.func38,Tryz.ntmps38
  go_wp2
  go_ret
  exact ⟨by rw [HR.out];rfl,0,rfl⟩
 rw [<-hlen]at HV ⊢
 have HLEN:=mkHid hlen
 clear hm hlen
 go_enter Tryz.func38,Tryz.ntmps38
 go_wp2
 go_loopw [5] (fun i wr=>∃k:Nat,k<=l.length/\i=.int .i64 k/\Hid (eqL sameK l m=eqL sameK (l.drop k) (m.drop k))/\∃n,wr=w.drewN n) (fun i _=>l.length - (intOf i).toNat)
 case atStart=>exact ⟨0,Nat.zero_le _,rfl,rfl,0,rfl⟩
 case round=>
  obtain ⟨k,hk,rfl,HQ,n,rfl⟩:=hrel
  by_cases hlt:k<l.length
  ·
   have hlm:k<m.length:=by have:=HLEN.out;omega
   obtain ⟨b,off,rfl,_,c0,c1,_⟩:=HU.out.atK k hlt
   obtain ⟨b2,off2,rfl,_,d0,d1,_⟩:=HV.out.atK k hlm
   have HST:=mkHid (eqL_step sameK l m k hlt hlm)
   have hne:=kindNeq l[k] m[k]
   have hng:=kindNeqG
   generalize l[k]=x at*
   generalize m[k]=y at*
   cases hs:sameK x y with
   | true=>
     have HQ':Hid (eqL sameK l m=eqL sameK (l.drop (k+1)) (m.drop (k+1))):=HQ.out.trans (by rw [HST.out,hs,Bool.true_and])
     go_wp2
     go_quiet (fail)
     go_wp2
     go_roundw
     case rel=>exact ⟨k+1,by omega,by go_num,HQ'.out,_,rfl⟩
     case measure=>simp [intOf];omega
   | false=>
     have HQ':Hid (eqL sameK l m=false):=HQ.out.trans (by rw [HST.out,hs,Bool.false_and])
     go_wp2
     go_quiet (fail)
     go_wp2
     go_ret
     exact ⟨by rw [HQ'.out];rfl,_,World.drewN_drewN _ _ _⟩
  have HQ':Hid (eqL sameK l m=true):=HQ.out.trans (eqL_end sameK l m k hlt HLEN.out)
  go_wp2
  go_ret
  exact ⟨by rw [HQ'.out];rfl,n,rfl⟩
set_option maxHeartbeats 1000000 in
theorem SameFields_any (w:World) (M M':Nat->Prop) (u v:Value) (l m:List FieldD) (hu:SL 3 RF M w u l) (hv:SL 3 RF M' w v m):
 Calls Tryz.prog 21 #[u,v] w fun r w'=>r=.returned (.bool (eqL sameF l m))/\∃n,w'=w.drewN n:=by
 have HU:=mkHid hu
 have HV:=mkHid hv
 obtain ⟨au,cu,rfl,_,hl,-⟩:=hu
 obtain ⟨av,cv,rfl,_,hm,-⟩:=hv
 unfold maxLen at hl hm
 by_cases hlen:l.length=m.length
 rotate_left
 ·
  have h0:¬(l.length:Int)=m.length:=by omega
  have HR:=mkHid (eqL_len sameF l m hlen)
  clear hlen
  go_enter Tryz.func21,Tryz.ntmps21
  go_wp2
  go_ret
  exact ⟨by rw [HR.out];rfl,0,rfl⟩
 rw [<-hlen]at HV ⊢
 have HLEN:=mkHid hlen
 clear hm hlen
 go_enter Tryz.func21,Tryz.ntmps21
 go_wp2
 go_loopw [5] (fun i wr=>∃k:Nat,k<=l.length/\i=.int .i64 k/\Hid (eqL sameF l m=eqL sameF (l.drop k) (m.drop k))/\∃n,wr=w.drewN n) (fun i _=>l.length - (intOf i).toNat)
 case atStart=>exact ⟨0,Nat.zero_le _,rfl,rfl,0,rfl⟩
 case round=>
  obtain ⟨k,hk,rfl,HQ,n,rfl⟩:=hrel
  by_cases hlt:k<l.length
  ·
   have hlm:k<m.length:=by have:=HLEN.out;omega
   obtain ⟨b,off,rfl,_,c0,c1,c2,_⟩:=HU.out.atF k hlt
   obtain ⟨b2,off2,rfl,_,d0,d1,d2,_⟩:=HV.out.atF k hlm
   have HST:=mkHid (eqL_step sameF l m k hlt hlm)
   have hne:=fieldNeq l[k] m[k]
   have hng:=fieldNeqG
   generalize l[k]=x at*
   generalize m[k]=y at*
   cases hs:sameF x y with
   | true=>
     have HQ':Hid (eqL sameF l m=eqL sameF (l.drop (k+1)) (m.drop (k+1))):=HQ.out.trans (by rw [HST.out,hs,Bool.true_and])
     go_wp2
     go_quiet (fail)
     go_wp2
     go_roundw
     case rel=>exact ⟨k+1,by omega,by go_num,HQ'.out,_,rfl⟩
     case measure=>simp [intOf];omega
   | false=>
     have HQ':Hid (eqL sameF l m=false):=HQ.out.trans (by rw [HST.out,hs,Bool.false_and])
     go_wp2
     go_quiet (fail)
     go_wp2
     go_ret
     exact ⟨by rw [HQ'.out];rfl,_,World.drewN_drewN _ _ _⟩
  have HQ':Hid (eqL sameF l m=true):=HQ.out.trans (eqL_end sameF l m k hlt HLEN.out)
  go_wp2
  go_ret
  exact ⟨by rw [HQ'.out];rfl,n,rfl⟩
end Go.Proofs.YtcddpmappmjilaaGreatDoor
