import Derived.Test.YtjdnmblggdobgaaGreatLDif
import Derived.Test.YtjdnmblggdobgaaGreatJLSetLQs
import Derived.Sort.WalkB12
import Derived.Lib.SlicesMore
import Derived.Deep.AppendLies
set_option maxHeartbeats 4000000
set_option maxRecDepth 1000000
namespace Go.Proofs.YtjdnmblggdobgaaGreat
open Go.RowKit Go.Sort Tryz List World
variable (w:World) (B b:Nat) (l:List aq) (g n t D off cap:Nat) (d:Array Int)
theorem zfo (M:Nat->Prop) (v:Value) (l:List ByteArray) (s:ByteArray) (G:SL 1 RS M w v l):
 Calls prog 234 #[v,.string s] w fun r w'=>r=.returned (.i (js l s))/\w'=w:=by
 have I:=aj G;obtain ⟨J,cl,rfl,-,F,-⟩:=G;unfold maxLen at F;go_enter func234,ntmps234;go_wp2_with fail
 go_loop [8] (fun i=>∃k:Nat,k<=l.length/\i=.i k/\Hid (∀x∈l.take k,decide (x=s)=false)) (fun i=>l.length - (intOf i).toNat)
 case atStart=>exact ⟨0,n0q _,rfl,(fun x N=>by cases N)⟩
 case round=>
  obtain ⟨k,W,rfl,E⟩:=hrel;by_cases A:k<l.length
  ·obtain ⟨b,off,rfl,V,O,L⟩:=I.out.atS k A;by_cases h:l[k]=s
   ·have D:Hid (js l s=k):=Fo A E.out (by simp [h]);have t:(s.toList==l[k].toList)=true:=by rw [h];simp
    clear h;go_wp2_with fail;go_ret;exact ⟨by rw [D.out];rfl,rfl⟩
   have D:=aj (zck A E.out (by simp [h]));have t:(s.toList==l[k].toList)=false:=by rw [beq_eq_false_iff_ne];exact fun e=>h (Bu e).symm
   clear h;go_wp2_with fail
   go_round
   case rel=>exact ⟨k+1,by omega,by go_num,D.out⟩
   case measure=>simp [intOf];omega
  have D:Hid (js l s= -1):=zci (by have:=E.out;rwa [take_of_length_le (by omega)]at this);go_wp2_with fail;go_ret;exact ⟨by rw [D.out];rfl,rfl⟩
theorem zfp (w:World) (Z:Holds encI w D off d) (ah:d.size<=9223372036854775807):
 Calls prog 233 #[.slice (some ⟨D,off,none⟩) d.size cap] w fun e w'=>e=.returned (.tuple #[])/\∃n,w'=putRow encI (Sort.ahead w n) D off d.reverse:=by
 go_enter func233,ntmps233;go_wp2
 go_loopg [2,3] d.size (fun k s2 s3 wr=>∃(i F:Nat) (L:Int) (I:Array Int) (n:Nat),s2=.i i/\s3=.i L/\((i:Int)<L->L=F/\F<d.size)/\(¬(i:Int)<L->¬i<F)/\F - i<=k/\
  I.size=d.size/\Aside (wr=putRow encI (Sort.ahead w n) D off I)/\reverseLoop i F I=reverseLoop 0 (d.size - 1) d)
 case atStart=>exact ⟨0,d.size - 1,(d.size:Int) - 1,d,0,rfl,rfl,fun h=>⟨by omega,by omega⟩,fun h=>by omega,by omega,rfl,(putRow_self encI w D off d Z).symm,rfl⟩
 case round=>
  obtain ⟨i,F,L,I,n,rfl,rfl,h1,Y,hk,G,A,E⟩:=hrel;have X:=aj E;clear E;by_cases N:(i:Int)<L
  ·obtain ⟨rfl,af⟩:=h1 N;have W:i<F:=by omega
   have J:Holds encI wr D off I:=by rw [A.out];exact holds_putRow encI _ D off d I (holds_ahead encI w n D off d Z) G
   obtain ⟨ci,fi⟩:=J i (by omega);obtain ⟨cj,fj⟩:=J F (by omega);have V:=aj G;clear J h1 Y G;have aa:(0:Int)<=F:=by omega
   have ae:(F:Int)<d.size:=by omega
   have ac:(0:Int)<=i:=by omega
   have ad:(i:Int)<d.size:=by omega
   go_wp2_with fail;go_region
   all_goals
    go_wp2
    go_roundg (F - 1 - (i+1))
    case measure=>omega
    case rel=>
     have E:=X.out;have G:=V.out;rw [reverseLoop,if_pos W]at E;exact ⟨i+1,F - 1,(F:Int) - 1,swp I i F,n+1,by simp,rfl,fun h=>⟨by omega,by omega⟩,fun h=>by omega,nlq _,by rw [size_swp];exact G,
      swap_world encI (by omega) (by omega) A.out (by first | rfl | simp [encI,getElem!_pos,show F<I.size by omega]) (by first | rfl | simp [encI,getElem!_pos,show i<I.size by omega]),E⟩
  have O:=Y N;go_wp2
  go_end0;refine ⟨rfl,n,?_⟩;have E:=X.out;rw [reverseLoop,if_neg O]at E;rw [<-Lib.reverseLoop_reverse,<-E];exact A.out
theorem kh:(prog.info? 3).map (fun i=>(i.zero,i.size,i.bytes))=some (some (.i 0),1,8):=by kernel_rfl
theorem ku {w:World} {B e n len:Nat} {v:Value} {xs:List Value} (h:w.ownsRow B e n v len xs):∃a c,v=.slice a len c:=by
 rcases h.2 with ⟨rfl,rfl⟩ | ⟨g,cap,A,rfl,_⟩
 ·exact ⟨_,_,rfl⟩
 exact ⟨_,_,rfl⟩
def ints (ns:List Nat):List Value:=ns.map fun x:Nat=>Value.int .i64 (x:Int)
theorem zfr (k:Nat) (A:k≠g):(putRow encI (Sort.ahead w n) g 0 d).heap[k]? =w.heap[k]? :=by show (w.heap.modify g _)[k]? =_;rw [Array.getElem?_modify,if_neg (fun e=>A e.symm)]
theorem zfs (A:Array Value) (D:Nat×Nat) (h:w.heap[g]? =some (.cells A t D)):∃cur',(putRow encI (Sort.ahead w n) g 0 d).heap[g]? =some (.cells cur' t D):=by show ∃cur',(w.heap.modify g _)[g]? =_;rw [Array.getElem?_modify,if_pos rfl,h];exact ⟨_,rfl⟩
theorem zft (ns:List Nat) (hl:ns.length<=100) (D:w.ownsRow B 3 1 (.slice (some ⟨g,0,none⟩) ns.length cap) ns.length (ints ns)):
 Calls prog 233 #[.slice (some ⟨g,0,none⟩) ns.length cap] w fun e w'=>e=.returned (.tuple #[])/\w.grownBy w' (some g)/\SL 1 RO (MT B [3] w') w' (.slice (some ⟨g,0,none⟩) ns.length cap) ns.reverse:=by
 have F:(ns.map fun x:Nat=>(x:Int)).toArray.size=ns.length:=by simp
 obtain ⟨A,I,E,L⟩:∃A,w.heap[g]? =some (.cells A 3 (0,0))/\B<=g/\ns.length<=cap:=by
  rcases D.2 with ⟨e,_⟩ | ⟨g',Y,A,e,E,I,hc,_⟩
  ·cases e
  cases e;exact ⟨A,I,E,hc⟩
 have aa:g<w.heap.size:=(Array.getElem?_eq_some_iff.1 I).1;have Z:Holds encI w g 0 (ns.map fun x:Nat=>(x:Int)).toArray:=by intro j O;rw [F]at O;refine ⟨?_,by simp [frozen?,I]⟩;rw [Nat.zero_add,D.cellAt j (by omega)];simp [ints,encI,getElem!_pos,O]
 have h:=zfp g 0 cap (ns.map fun x:Nat=>(x:Int)).toArray w Z (by rw [F];omega);rw [F]at h;refine h.mono ?_;rintro e w' ⟨rfl,n,rfl⟩;obtain ⟨G,J⟩:=zfs w g n 3 (ns.map fun x:Nat=>(x:Int)).toArray.reverse A (0,0) I;refine ⟨rfl,⟨rfl,rfl,rfl,by simp [putRow,mapBlock,Sort.ahead],fun k _ W=>zfr w g n _ k (fun e=>W (by rw [e]))⟩,?_⟩;have N:=holds_putRow encI (Sort.ahead w n) g 0 _ (ns.map fun x:Nat=>(x:Int)).toArray.reverse (holds_ahead encI w n g 0 _ Z) (by simp);refine ⟨some ⟨g,0,none⟩,cap,by simp,by simpa using L,by unfold maxLen;simp;omega,fun k W=>?_⟩;have X:k<ns.length:=by simpa using W
 refine ⟨g,0,[.i (ns.reverse[k]:Nat)],rfl,⟨E,G,_,_,J,by simp⟩,(Array.getElem?_eq_some_iff.1 J).1,rfl,fun j O=>?_,rfl⟩;have V:j=0:=by omega
 subst V;have:=(N k (by simp;omega)).1;simp only [Nat.zero_add,Nat.mul_one,Nat.add_zero]at this ⊢;rw [this];simp [encI,getElem!_pos,X]
theorem zfu: -1<=dv l n/\dv l n<l.length:=Ej _ _
theorem zfv {l:List aq} {m:Int} (A:¬ 0<=m):∀f,gq l f m= []
 | 0=>rfl
 | f+1=>by rw [gq,if_neg A]
theorem zfw {l:List aq} {m:Int} (f:Nat) (A:0<=m):gq l (f+1) m=m.toNat::gq l f (dv l m.toNat):=by rw [gq,if_pos A]
theorem zfx (hn:n<l.length) (ao:Option Addr) (cl:Nat) (vS:Value) (c0:w.cell? ⟨b,0,none⟩=some (.slice ao l.length cl)) (c1:w.cell? ⟨b,1,none⟩=some vS) (sS:SL 1 RI (· <B) w vS ((range l.length).map (dv l))) (hB:B<=w.heap.size) (hN:l.length<=10):
 Calls prog 200 #[.p b,.i n] w fun r w'=>Bl w w'/\∃v,r=.returned v/\SL 1 RO (MT w.heap.size [3] w') w' v (dt l n):=by
 obtain ⟨iI,az,am,an,au⟩:=info_parts kh;have ad:b<w.heap.size:=block_lt_of_cell? w _ c0;have av:Hid (∀k,k<l.length->∀(h:k<((range l.length).map (dv l)).length),((range l.length).map (dv l))[k]=dv l k):=fun k _ h=>by simp
 have X:((range l.length).map (dv l)).length=l.length:=by simp
 have V:=aj X;clear X;generalize (range l.length).map (dv l)=LS at*;have HS:=aj sS;obtain ⟨aS,cS,rfl,-⟩:=sS;rw [V.out]at c1;have aa:Hid (dt l n=(gq l (l.length+1) n).reverse):=rfl;go_enter func200,ntmps200;go_wp2_with fail;go_loopg [5,6] (l.length+1) (fun f v i wr=>∃(A:List Nat) (m:Int),i=.i m/\ -1<=m/\m<l.length/\A.length+f=l.length+1/\Hid (gq l (l.length+1) n=A++gq l f m)/\Hid (A= []->m=n)/\wr.ownsRow w.heap.size 3 1 v A.length (ints A)/\Bl w wr)
 case atStart=>exact ⟨[],n,rfl,by omega,by omega,by simp,rfl,fun _=>rfl,ownsRow_nil _ _ _ _,br _ _⟩
 case round=>
  rename Nat=>f
  obtain ⟨A,m,rfl,a7,a8,hf,HP,HE,D,G⟩:=hrel;obtain ⟨a5,c5,rfl⟩:=ku D;have d0:wr.cell? ⟨b,0,none⟩=some (.slice ao l.length cl):=(G.cell (p:=⟨b,0,none⟩) ad).trans c0;have a0:=G.size;by_cases h0:0<=m/\0<f
  ·obtain ⟨h0,a3⟩:=h0;obtain ⟨f',rfl⟩:∃f',f=f'+1:=⟨f - 1,by omega⟩;have aw:(A.length:Int)<=l.length:=by omega
   have I:=aj D;have Z:Hid (A.length+1<=maxLen/\(A.length+1)*8<=140737488355328/\w.heap.size<=(wr.alloc (.cells #[.i m] 3)).heap.size):=⟨by unfold maxLen;omega,by omega,by simp;omega⟩;go_wp2_with (at_builtin;refine wpList_append_lies _ rfl _ _ 22 rfl w.heap.size 3 iI (.i 0) 1 8 underlying22 az am an au rfl (by decide) (.slice a5 A.length c5) A.length (ints A) rfl (I.out.alloc _) ⟨wr.heap.size,0,none⟩ 1 1 [.i m] rfl rfl (news_of_block (heap_alloc_new wr _)) (by intro u hu;simp at hu;subst hu;rfl) (by omega) Z.out.1 Z.out.2.1 Z.out.2.2 _ rfl ?_);intro g cap w1 E W ac a1;have ak:∀k,(Value.slice a5 A.length c5).ownBlock=some k->w.heap.size<=k:=fun k e=>(I.out.lt k e).1;have F:Bl w w1:=(G.alloc a0 _).grown W (by simp;omega) (fun k e=>ak k e);have f1:w1.cell? ⟨b,1,none⟩=some (.slice aS l.length cS):=(F.cell (p:=⟨b,1,none⟩) ad).trans c1;obtain ⟨N,rfl⟩:=Int.eq_ofNat_of_zero_le h0;have ah:N<l.length:=by omega
   have af:N<LS.length:=by rw [V.out];exact ah
   obtain ⟨bs,os,rfl,a2,es⟩:=(HS.out.keptI (Kp.below (F.mono hB))).atI N af;rw [av.out N ah af]at es;have HX:=aj (And.intro E F);have a4:(0:Int)<=N:=by omega
   have a6:(N:Int)<l.length:=by omega
   clear E W ac ak D d0 G F;go_wp2_with fail
   go_roundg f'
   case measure=>omega
   case rel=>
    obtain ⟨E,F⟩:=HX.out;have al:=zfu l N;refine ⟨A++ [N],dv l N,rfl,al.1,al.2,by simp;omega,?_,?_,?_,F⟩
    ·show _=_;rw [HP.out,zfw f' (by omega)];simp
    ·exact fun e=>by simp at e
    rw [length_append];have:ints (A++ [N])=ints A++ [.i (N:Int)]:=by simp [ints]
    rw [this];exact E
  have ai:A≠ []:=fun e=>by have:=HE.out e;subst e;simp at hf;omega
  have HA:Hid (gq l (l.length+1) n=A):=by
   show _=_;rw [HP.out];by_cases hm:0<=m
   ·have:f=0:=by omega
    subst this;simp [gq]
   rw [zfv hm];simp
  have hg:a5=none->False:=by
   intro e;subst e;rcases D.2 with ⟨e,h⟩ | ⟨g,_,_,e,_⟩
   ·exact ai (eq_nil_of_length_eq_zero h)
   cases e
  obtain ⟨g,ay,ae⟩:∃g,a5=some ⟨g,0,none⟩/\w.heap.size<=g:=by
   rcases D.2 with ⟨e,h⟩ | ⟨g,_,_,e,h,_⟩
   ·exact (hg (Value.slice.inj e).1).elim
   exact ⟨g,(Value.slice.inj e).1,h⟩
  subst ay;have I:=aj D;have O:=aj G;have L:A.length<=100:=by omega
  clear D hg ai G;by_cases hm:0<=m
  ·have aw:¬(A.length:Int)<=l.length:=by omega
   clear h0;go_wp2_with fail;refine (zft _ w.heap.size g c5 A L I.out).mono ?_;rintro r w2 ⟨rfl,J,sv⟩;have Y:=aj (O.out.grown J O.out.size (fun k e=>by cases e;exact ae));have SV:=aj sv;clear J sv;go_wp2_with fail;go_ret;exact ⟨Y.out,_,rfl,by rw [aa.out,HA.out];exact SV.out⟩
  clear h0;go_wp2_with fail;refine (zft _ w.heap.size g c5 A L I.out).mono ?_;rintro r w2 ⟨rfl,J,sv⟩;have Y:=aj (O.out.grown J O.out.size (fun k e=>by cases e;exact ae));have SV:=aj sv;clear J sv;go_wp2_with fail;go_ret;exact ⟨Y.out,_,rfl,by rw [aa.out,HA.out];exact SV.out⟩
end Go.Proofs.YtjdnmblggdobgaaGreat
