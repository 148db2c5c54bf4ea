import Derived.Test.YtjdnmblggdobgaaGreatLDif
import Derived.Test.YtjdnmblggdobgaaGreatJLSetLQs
import Derived.Sort.WalkB12
import Derived.Lib.SlicesMore
import Derived.BigRegion
import Derived.Deep.AppendLies
set_option maxHeartbeats 4000000
set_option maxRecDepth 1000000
namespace Go.Proofs.YtjdnmblggdobgaaGreat
open Go.RowKit Go.Sort
theorem zfx (w:World) (M:Nat->Prop) (v:Value) (l:List ByteArray) (s:ByteArray) (hv:SL 1 RS M w v l):
 Calls Tryz.prog 234 #[v,.string s] w fun r w'=>r=.returned (.int .i64 (idxS l s))/\w'=w:=by
 have HV:=mk0 hv
 obtain ⟨ao0,cl,rfl,-,hll,-⟩:=hv
 unfold maxLen at hll
 go_enter Tryz.func234,Tryz.ntmps234
 go_wp2_with fail
 go_loop [8] (fun i=>∃k:Nat,k<=l.length/\i=.int .i64 k/\Hid (∀x∈l.take k,decide (x=s)=false)) (fun i=>l.length - (intOf i).toNat)
 case atStart=>exact ⟨0,Nat.zero_le _,rfl,(fun x hx=>by cases hx)⟩
 case round=>
  obtain ⟨k,hk,rfl,HP⟩:=hrel
  by_cases hlt:k<l.length
  ·
   obtain ⟨b,off,rfl,hb,e0,es1⟩:=HV.out.atS k hlt
   by_cases h:l[k]=s
   ·
    have HX:Hid (idxS l s=k):=zch hlt HP.out (by simp [h])
    have t:(s.toList==l[k].toList)=true:=by rw [h];simp
    clear h
    go_wp2_with fail
    go_ret
    exact ⟨by rw [HX.out];rfl,rfl⟩
   have HX:=mk0 (zck hlt HP.out (by simp [h]))
   have t:(s.toList==l[k].toList)=false:=by rw [beq_eq_false_iff_ne];exact fun e=>h (zb9 e).symm
   clear h
   go_wp2_with fail
   go_round
   case rel=>exact ⟨k+1,by omega,by go_num,HX.out⟩
   case measure=>simp [intOf];omega
  have HX:Hid (idxS l s= -1):=zci (by have:=HP.out;rwa [List.take_of_length_le (by omega)]at this)
  go_wp2_with fail
  go_ret
  exact ⟨by rw [HX.out];rfl,rfl⟩
theorem zfy (blk off cap:Nat) (d:Array Int) (w:World) (hH:Holds encI w blk off d) (hsz:d.size<=9223372036854775807):
 Calls Tryz.prog 233 #[.slice (some ⟨blk,off,none⟩) d.size cap] w fun e w'=>e=.returned (.tuple #[])/\∃n,w'=putRow encI (Sort.ahead w n) blk off d.reverse:=by
 go_enter Tryz.func233,Tryz.ntmps233
 go_wp2
 go_loopg [2,3] d.size (fun k s2 s3 wr=>∃(i jn:Nat) (jz:Int) (dk:Array Int) (n:Nat),s2=.int .i64 i/\s3=.int .i64 jz/\((i:Int)<jz->jz=jn/\jn<d.size)/\(¬(i:Int)<jz->¬i<jn)/\jn - i<=k/\
  dk.size=d.size/\Aside (wr=putRow encI (Sort.ahead w n) blk off dk)/\reverseLoop i jn dk=reverseLoop 0 (d.size - 1) d)
 case atStart=>exact ⟨0,d.size - 1,(d.size:Int) - 1,d,0,rfl,rfl,fun h=>⟨by omega,by omega⟩,fun h=>by omega,by omega,rfl,(putRow_self encI w blk off d hH).symm,rfl⟩
 case round=>
  obtain ⟨i,jn,jz,dk,n,rfl,rfl,h1,h2,hk,hds,A,heq⟩:=hrel
  have HQ:=mk0 heq
  clear heq
  by_cases hlt:(i:Int)<jz
  ·
   obtain ⟨rfl,hjn⟩:=h1 hlt
   have hij:i<jn:=by omega
   have hHk:Holds encI wr blk off dk:=by rw [A.out];exact holds_putRow encI _ blk off d dk (holds_ahead encI w n blk off d hH) hds
   obtain ⟨ci,fi⟩:=hHk i (by omega)
   obtain ⟨cj,fj⟩:=hHk jn (by omega)
   have HDS:=mk0 hds
   clear hHk h1 h2 hds
   have hjn0:(0:Int)<=jn:=by omega
   have hjl:(jn:Int)<d.size:=by omega
   have hi0:(0:Int)<=i:=by omega
   have hil:(i:Int)<d.size:=by omega
   go_wp2_with fail
   go_region
   all_goals
    go_wp2
    go_roundg (jn - 1 - (i+1))
    case measure=>omega
    case rel=>
     have heq:=HQ.out
     have hds:=HDS.out
     rw [reverseLoop,if_pos hij]at heq
     exact ⟨i+1,jn - 1,(jn:Int) - 1,swp dk i jn,n+1,by simp,rfl,fun h=>⟨by omega,by omega⟩,fun h=>by omega,Nat.le_refl _,by rw [size_swp];exact hds,
      swap_world encI (by omega) (by omega) A.out (by first | rfl | simp [encI,getElem!_pos,show jn<dk.size by omega]) (by first | rfl | simp [encI,getElem!_pos,show i<dk.size by omega]),heq⟩
  have hnot:=h2 hlt
  go_wp2
  go_end0
  refine ⟨rfl,n,?_⟩
  have heq:=HQ.out
  rw [reverseLoop,if_neg hnot]at heq
  rw [<-Lib.reverseLoop_reverse,<-heq]
  exact A.out
theorem Tryz.infoInt:(Tryz.prog.info? 3).map (fun i=>(i.zero,i.size,i.bytes))=some (some (.int .i64 0),1,8):=by kernel_rfl
theorem zfz {w:World} {B e n len:Nat} {v:Value} {xs:List Value} (h:w.ownsRow B e n v len xs):∃a c,v=.slice a len c:=by
 rcases h.2 with ⟨rfl,rfl⟩ | ⟨g,cap,cur,rfl,_⟩
 ·
  exact ⟨_,_,rfl⟩
 exact ⟨_,_,rfl⟩
def ints (ns:List Nat):List Value:=ns.map fun x:Nat=>Value.int .i64 (x:Int)
theorem zf0 (w:World) (g n:Nat) (d:Array Int) (k:Nat) (hk:k≠g):(putRow encI (Sort.ahead w n) g 0 d).heap[k]? =w.heap[k]? :=by
 show (w.heap.modify g _)[k]? =_
 rw [Array.getElem?_modify,if_neg (fun e=>hk e.symm)]
theorem zf1 (w:World) (g n t:Nat) (d:Array Int) (cur:Array Value) (fr:Nat×Nat) (h:w.heap[g]? =some (.cells cur t fr)):∃cur',(putRow encI (Sort.ahead w n) g 0 d).heap[g]? =some (.cells cur' t fr):=by
 show ∃cur',(w.heap.modify g _)[g]? =_
 rw [Array.getElem?_modify,if_pos rfl,h]
 exact ⟨_,rfl⟩
theorem zf3 (w:World) (B g cap:Nat) (ns:List Nat) (hl:ns.length<=100) (hown:w.ownsRow B 3 1 (.slice (some ⟨g,0,none⟩) ns.length cap) ns.length (ints ns)):
 Calls Tryz.prog 233 #[.slice (some ⟨g,0,none⟩) ns.length cap] w fun e w'=>e=.returned (.tuple #[])/\w.grownBy w' (some g)/\SL 1 RO (MT B [3] w') w' (.slice (some ⟨g,0,none⟩) ns.length cap) ns.reverse:=by
 have hsz:(ns.map fun x:Nat=>(x:Int)).toArray.size=ns.length:=by simp
 obtain ⟨cur,hb,hBg,hcap⟩:∃cur,w.heap[g]? =some (.cells cur 3 (0,0))/\B<=g/\ns.length<=cap:=by
  rcases hown.2 with ⟨e,_⟩ | ⟨g',cap',cur,e,hBg,hb,hc,_⟩
  ·
   cases e
  cases e
  exact ⟨cur,hb,hBg,hc⟩
 have hlt:g<w.heap.size:=(Array.getElem?_eq_some_iff.1 hb).1
 have hH:Holds encI w g 0 (ns.map fun x:Nat=>(x:Int)).toArray:=by
  intro j hj
  rw [hsz]at hj
  refine ⟨?_,by simp [World.frozen?,hb]⟩
  rw [Nat.zero_add,hown.cellAt j (by omega)]
  simp [ints,encI,getElem!_pos,hj]
 have h:=zfy g 0 cap (ns.map fun x:Nat=>(x:Int)).toArray w hH (by rw [hsz];omega)
 rw [hsz]at h
 refine h.mono ?_
 rintro e w' ⟨rfl,n,rfl⟩
 obtain ⟨cur',hb'⟩:=zf1 w g n 3 (ns.map fun x:Nat=>(x:Int)).toArray.reverse cur (0,0) hb
 refine ⟨rfl,⟨rfl,rfl,rfl,by simp [putRow,mapBlock,Sort.ahead],fun k _ hk=>zf0 w g n _ k (fun e=>hk (by rw [e]))⟩,?_⟩
 have hH':=holds_putRow encI (Sort.ahead w n) g 0 _ (ns.map fun x:Nat=>(x:Int)).toArray.reverse (holds_ahead encI w n g 0 _ hH) (by simp)
 refine ⟨some ⟨g,0,none⟩,cap,by simp,by simpa using hcap,by unfold maxLen;simp;omega,fun k hk=>?_⟩
 have hk':k<ns.length:=by simpa using hk
 refine ⟨g,0,[.int .i64 (ns.reverse[k]:Nat)],rfl,⟨hBg,cur',_,_,hb',by simp⟩,(Array.getElem?_eq_some_iff.1 hb').1,rfl,fun j hj=>?_,rfl⟩
 have hj0:j=0:=by omega
 subst hj0
 have:=(hH' k (by simp;omega)).1
 simp only [Nat.zero_add,Nat.mul_one,Nat.add_zero]at this ⊢
 rw [this]
 simp [encI,getElem!_pos,hk']
theorem zf4 (l:List ClassD) (n:Nat): -1<=supAt l n/\supAt l n<l.length:=za2 _ _
theorem zf5 {l:List ClassD} {m:Int} (hm:¬ 0<=m):∀f,climb l f m= []
 | 0=>rfl
 | f+1=>by rw [climb,if_neg hm]
theorem zf6 {l:List ClassD} {m:Int} (f:Nat) (hm:0<=m):climb l (f+1) m=m.toNat::climb l f (supAt l m.toNat):=by rw [climb,if_pos hm]
theorem zf7 (w:World) (B b:Nat) (l:List ClassD) (n:Nat) (hn:n<l.length) (ao:Option Addr) (cl:Nat) (vS:Value) (c0:w.cell? ⟨b,0,none⟩=some (.slice ao l.length cl)) (c1:w.cell? ⟨b,1,none⟩=some vS)
 (sS:SL 1 RI (· <B) w vS ((List.range l.length).map (supAt l))) (hB:B<=w.heap.size) (hN:l.length<=10):
 Calls Tryz.prog 200 #[.pointer (some ⟨b,0,none⟩),.int .i64 n] w fun r w'=>Below w.heap.size w w'/\∃v,r=.returned v/\SL 1 RO (MT w.heap.size [3] w') w' v (lineOf l n):=by
 obtain ⟨iI,hiI,hzI0,hzI1,hzI2⟩:=info_parts Tryz.infoInt
 have hbl:b<w.heap.size:=World.block_lt_of_cell? w _ c0
 have HLS:Hid (∀k,k<l.length->∀(h:k<((List.range l.length).map (supAt l)).length),((List.range l.length).map (supAt l))[k]=supAt l k):=fun k _ h=>by simp
 have hlen:((List.range l.length).map (supAt l)).length=l.length:=by simp
 have HLEN:=mk0 hlen
 clear hlen
 generalize (List.range l.length).map (supAt l)=LS at*
 have HS:=mk0 sS
 obtain ⟨aS,cS,rfl,-⟩:=sS
 rw [HLEN.out]at c1
 have HCL:Hid (lineOf l n=(climb l (l.length+1) n).reverse):=rfl
 go_enter Tryz.func200,Tryz.ntmps200
 go_wp2_with fail
 go_loopg [5,6] (l.length+1) (fun f v i wr=>∃(acc:List Nat) (m:Int),i=.int .i64 m/\ -1<=m/\m<l.length/\acc.length+f=l.length+1/\Hid (climb l (l.length+1) n=acc++climb l f m)/\Hid (acc= []->m=n)/\wr.ownsRow w.heap.size 3 1 v acc.length (ints acc)/\Below w.heap.size w wr)
 case atStart=>exact ⟨[],n,rfl,by omega,by omega,by simp,rfl,fun _=>rfl,World.ownsRow_nil _ _ _ _,Below.refl _ _⟩
 case round=>
  rename Nat=>f
  obtain ⟨acc,m,rfl,hm1,hm2,hf,HP,HE,hown,hBr⟩:=hrel
  obtain ⟨a5,c5,rfl⟩:=zfz hown
  have d0:wr.cell? ⟨b,0,none⟩=some (.slice ao l.length cl):=(hBr.cell (p:=⟨b,0,none⟩) hbl).trans c0
  have hsr:=hBr.size
  by_cases h0:0<=m/\0<f
  ·
   obtain ⟨h0,hf0⟩:=h0
   obtain ⟨f',rfl⟩:∃f',f=f'+1:=⟨f - 1,by omega⟩
   have hal:(acc.length:Int)<=l.length:=by omega
   have HOW:=mk0 hown
   have HBB:Hid (acc.length+1<=maxLen/\(acc.length+1)*8<=140737488355328/\w.heap.size<=(wr.alloc (.cells #[.int .i64 m] 3)).heap.size):=⟨by unfold maxLen;omega,by omega,by simp;omega⟩
   go_wp2_with (at_builtin;refine wpList_append_lies _ rfl _ _ 22 rfl w.heap.size 3 iI (.int .i64 0) 1 8 Tryz.underlying22 hiI hzI0 hzI1 hzI2 rfl (by decide) (.slice a5 acc.length c5) acc.length (ints acc) rfl (HOW.out.alloc _) ⟨wr.heap.size,0,none⟩ 1 1 [.int .i64 m] rfl rfl (World.news_of_block (heap_alloc_new wr _)) (by intro u hu;simp at hu;subst hu;rfl) (by omega) HBB.out.1 HBB.out.2.1 HBB.out.2.2 _ rfl ?_)
   intro g cap w1 hown1 hgr1 hat1 hlt1
   have hrb:∀k,(Value.slice a5 acc.length c5).ownBlock=some k->w.heap.size<=k:=fun k e=>(HOW.out.lt k e).1
   have hB1:Below w.heap.size w w1:=(hBr.alloc hsr _).grown hgr1 (by simp;omega) (fun k e=>hrb k e)
   have f1:w1.cell? ⟨b,1,none⟩=some (.slice aS l.length cS):=(hB1.cell (p:=⟨b,1,none⟩) hbl).trans c1
   obtain ⟨mn,rfl⟩:=Int.eq_ofNat_of_zero_le h0
   have hmn:mn<l.length:=by omega
   have hmL:mn<LS.length:=by rw [HLEN.out];exact hmn
   obtain ⟨bs,os,rfl,hbs,es⟩:=(HS.out.keptI (Kp.below (hB1.mono hB))).atI mn hmL
   rw [HLS.out mn hmn hmL]at es
   have HX:=mk0 (And.intro hown1 hB1)
   have hi0:(0:Int)<=mn:=by omega
   have hi1:(mn:Int)<l.length:=by omega
   clear hown1 hgr1 hat1 hrb hown d0 hBr hB1
   go_wp2_with fail
   go_roundg f'
   case measure=>omega
   case rel=>
    obtain ⟨hown1,hB1⟩:=HX.out
    have hsb:=zf4 l mn
    refine ⟨acc++ [mn],supAt l mn,rfl,hsb.1,hsb.2,by simp;omega,?_,?_,?_,hB1⟩
    ·
     show _=_
     rw [HP.out,zf6 f' (by omega)]
     simp
    ·
     exact fun e=>by simp at e
    rw [List.length_append]
    have:ints (acc++ [mn])=ints acc++ [.int .i64 (mn:Int)]:=by simp [ints]
    rw [this]
    exact hown1
  have hne:acc≠ []:=fun e=>by
   have:=HE.out e
   subst e
   simp at hf
   omega
  have HA:Hid (climb l (l.length+1) n=acc):=by
   show _=_
   rw [HP.out]
   by_cases hm:0<=m
   ·
    have:f=0:=by omega
    subst this
    simp [climb]
   rw [zf5 hm]
   simp
  have hg:a5=none->False:=by
   intro e
   subst e
   rcases hown.2 with ⟨e,h⟩ | ⟨g,_,_,e,_⟩
   ·
    exact hne (List.eq_nil_of_length_eq_zero h)
   cases e
  obtain ⟨g,hg5,hgw⟩:∃g,a5=some ⟨g,0,none⟩/\w.heap.size<=g:=by
   rcases hown.2 with ⟨e,h⟩ | ⟨g,_,_,e,h,_⟩
   ·
    exact (hg (Value.slice.inj e).1).elim
   exact ⟨g,(Value.slice.inj e).1,h⟩
  subst hg5
  have HOW:=mk0 hown
  have HBr:=mk0 hBr
  have hl100:acc.length<=100:=by omega
  clear hown hg hne hBr
  by_cases hm:0<=m
  ·
   have hal:¬(acc.length:Int)<=l.length:=by omega
   clear h0
   go_wp2_with fail
   refine (zf3 _ w.heap.size g c5 acc hl100 HOW.out).mono ?_
   rintro r w2 ⟨rfl,hg2,sv⟩
   have HB2:=mk0 (HBr.out.grown hg2 HBr.out.size (fun k e=>by cases e;exact hgw))
   have SV:=mk0 sv
   clear hg2 sv
   go_wp2_with fail
   go_ret
   exact ⟨HB2.out,_,rfl,by rw [HCL.out,HA.out];exact SV.out⟩
  clear h0
  go_wp2_with fail
  refine (zf3 _ w.heap.size g c5 acc hl100 HOW.out).mono ?_
  rintro r w2 ⟨rfl,hg2,sv⟩
  have HB2:=mk0 (HBr.out.grown hg2 HBr.out.size (fun k e=>by cases e;exact hgw))
  have SV:=mk0 sv
  clear hg2 sv
  go_wp2_with fail
  go_ret
  exact ⟨HB2.out,_,rfl,by rw [HCL.out,HA.out];exact SV.out⟩
end Go.Proofs.YtjdnmblggdobgaaGreat
