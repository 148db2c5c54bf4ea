import Derived.Test.YtcddpmappmjilaaGreatDoorCdScan
import Derived.Test.YtcddpmappmjilaaGreatDoorChecked
import Derived.WalkLawsBesides
import Derived.WalkSpells
import Derived.Deep.LoopGhost
namespace Go.Proofs.YtcddpmappmjilaaGreatDoor.Cd
open Go.RowKit
structure Has (w:World) (b off:Nat) (l:List Op4):Prop where
 c0:∀k,k<l.length->w.cell? ⟨b,off+k*4,none⟩=some (.int .i64 (get4 l k).loc)
 c1:∀k,k<l.length->w.cell? ⟨b,off+k*4+1,none⟩=some (.int .i64 (get4 l k).op)
 c2:∀k,k<l.length->w.cell? ⟨b,off+k*4+2,none⟩=some (.int .i64 (get4 l k).a)
 c3:∀k,k<l.length->w.cell? ⟨b,off+k*4+3,none⟩=some (.int .i64 (get4 l k).b)
 lt:b<w.heap.size
def Holds4 (w:World) (v:Value) (l:List Op4):Prop:=(∃ao cap,v=.slice ao 0 cap/\l= [])\/∃b off cap,v=.slice (some ⟨b,off,none⟩) l.length cap/\l.length<=cap/\Has w b off l
theorem Has.below {w w':World} {b off:Nat} {l:List Op4} (h:Has w b off l) {B:Nat} (hb:Below B w w') (hB:b<B):Has w' b off l:=
 ⟨fun k hk=>(hb.cell (p:=⟨b,_,none⟩) hB).trans (h.c0 k hk),fun k hk=>(hb.cell (p:=⟨b,_,none⟩) hB).trans (h.c1 k hk),fun k hk=>(hb.cell (p:=⟨b,_,none⟩) hB).trans (h.c2 k hk),fun k hk=>(hb.cell (p:=⟨b,_,none⟩) hB).trans (h.c3 k hk),Nat.lt_of_lt_of_le h.lt hb.size⟩
set_option maxHeartbeats 400000 in
theorem place_any (w:World) (b off cap:Nat) (l:List Op4) (n:Int) (h:Has w b off l) (hl:l.length<=9223372036854775807) (_hlc:l.length<=cap):
 Calls Tryz.prog 256 #[.slice (some ⟨b,off,none⟩) l.length cap,.int .i64 n] w fun r w'=>r=.returned (.tuple #[.int .i64 (placeN l n),.int .i64 (placeE l n)])/\Below w.heap.size w w':=by
 go_enter Tryz.func256,Tryz.ntmps256
 go_wp2
 go_loopw [10] (fun i wr=>∃k:Nat,k<=l.length/\i=.int .i64 k/\Hid (place (l.drop k) n k=place l n 0)/\Below w.heap.size w wr) (fun i _=>l.length - (intOf i).toNat)
 case atStart=>exact ⟨0,Nat.zero_le _,rfl,rfl,Below.refl _ _⟩
 case round=>
  obtain ⟨k,hk,rfl,HP,hB⟩:=hrel
  have hsz:=hB.size
  by_cases hlt:k<l.length
  ·
   have h':=h.below hB h.lt
   have c0:=h'.c0 k hlt
   have c1:=h'.c1 k hlt
   have c2:=h'.c2 k hlt
   have c3:=h'.c3 k hlt
   by_cases he:(get4 l k).loc=n
   ·
    have HE:Hid ((get4 l k).loc=n):=he
    have hb:((get4 l k).loc==n)=true:=by simp [he]
    clear he
    go_wp2
    go_ret2
    refine ⟨?_,hB.alloc hsz _⟩
    have hp:=HP.out.symm.trans (place_hit l n k hlt HE.out)
    rw [placeN_some hp,placeE_some hp]
    rfl
   have hb:((get4 l k).loc==n)=false:=by simp [he]
   go_wp2
   go_roundw
   case rel=>exact ⟨k+1,by omega,by go_num,(place_miss l n k hlt he).symm.trans HP.out,hB.alloc hsz _⟩
   case measure=>simp [intOf];omega
  go_wp2
  go_ret2
  have hp:=HP.out.symm.trans (place_none l n k hlt)
  refine ⟨?_,hB⟩
  rw [placeN_none hp,placeE_none hp]
  rfl
theorem place_nil (w:World) (ao:Option Addr) (cap:Nat) (n:Int):
 Calls Tryz.prog 256 #[.slice ao 0 cap,.int .i64 n] w fun r w'=>r=.returned (.tuple #[.int .i64 (placeN [] n),.int .i64 (placeE [] n)])/\Below w.heap.size w w':=by
 go_enter Tryz.func256,Tryz.ntmps256
 go_wp2
 go_loop [10] (fun i=>i=.int .i64 0) (fun i=>0)
 case atStart=>rfl
 case round=>
  obtain rfl:=hrel
  go_wp2
  go_ret2
  exact ⟨rfl,Below.refl _ _⟩
theorem place_all (w:World) (v:Value) (l:List Op4) (n:Int) (h:Holds4 w v l) (hl:l.length<=9223372036854775807):
 Calls Tryz.prog 256 #[v,.int .i64 n] w fun r w'=>r=.returned (.tuple #[.int .i64 (placeN l n),.int .i64 (placeE l n)])/\Below w.heap.size w w':=by
 rcases h with ⟨ao,cap,rfl,rfl⟩ | ⟨b,off,cap,rfl,hc,h⟩
 ·
  exact place_nil w ao cap n
 exact place_any w b off cap l n h hl hc
end Go.Proofs.YtcddpmappmjilaaGreatDoor.Cd
