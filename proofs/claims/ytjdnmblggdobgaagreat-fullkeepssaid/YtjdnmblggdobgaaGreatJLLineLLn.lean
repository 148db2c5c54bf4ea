import Derived.Test.YtjdnmblggdobgaaGreatLDif
import Derived.Test.YtjdnmblggdobgaaGreatJLSetLQs
import Derived.Sort.WalkB12
import Derived.Lib.SlicesMore
import Derived.BigRegion
import Derived.Deep.AppendLies
set_option maxHeartbeats 4000000
set_option maxRecDepth 1000000
namespace Go.Proofs.YtjdnmblggdobgaaGreat
open Go.RowKit Go.Sort
theorem zfx (w:World) (M:Nat->Prop) (v:Value) (l:List ByteArray) (s:ByteArray) (F:SL 1 RS M w v l):
 Calls Tryz.prog 234 #[v,.string s] w fun r w'=>r=.returned (.int .i64 (iu l s))/\w'=w:=by
 have G:=ag F;obtain ⟨I,N,rfl,-,E,-⟩:=F;unfold maxLen at E;go_enter Tryz.func234,Tryz.ntmps234;go_wp2_with fail
 go_loop [8] (fun i=>∃k:Nat,k<=l.length/\i=.int .i64 k/\Hid (∀x∈l.take k,decide (x=s)=false)) (fun i=>l.length - (intOf i).toNat)
 case atStart=>exact ⟨0,n0q _,rfl,(fun x L=>by cases L)⟩
 case round=>
  obtain ⟨k,W,rfl,D⟩:=hrel;by_cases u:k<l.length
  ·obtain ⟨b,off,rfl,V,O,J⟩:=G.out.atS k u;by_cases h:l[k]=s
   ·have A:Hid (iu l s=k):=zch u D.out (by simp [h]);have t:(s.toList==l[k].toList)=true:=by rw [h];simp
    clear h;go_wp2_with fail;go_ret;exact ⟨by rw [A.out];rfl,rfl⟩
   have A:=ag (zck u D.out (by simp [h]));have t:(s.toList==l[k].toList)=false:=by rw [beq_eq_false_iff_ne];exact fun e=>h (zb9 e).symm
   clear h;go_wp2_with fail
   go_round
   case rel=>exact ⟨k+1,by omega,by go_num,A.out⟩
   case measure=>simp [intOf];omega
  have A:Hid (iu l s= -1):=zci (by have:=D.out;rwa [List.take_of_length_le (by omega)]at this);go_wp2_with fail;go_ret;exact ⟨by rw [A.out];rfl,rfl⟩
theorem zfy (u off cap:Nat) (d:Array Int) (w:World) (Y:Holds encI w u off d) (af:d.size<=9223372036854775807):
 Calls Tryz.prog 233 #[.slice (some ⟨u,off,none⟩) d.size cap] w fun e w'=>e=.returned (.tuple #[])/\∃n,w'=putRow encI (Sort.ahead w n) u off d.reverse:=by
 go_enter Tryz.func233,Tryz.ntmps233;go_wp2
 go_loopg [2,3] d.size (fun k s2 s3 wr=>∃(i E:Nat) (J:Int) (G:Array Int) (n:Nat),s2=.int .i64 i/\s3=.int .i64 J/\((i:Int)<J->J=E/\E<d.size)/\(¬(i:Int)<J->¬i<E)/\E - i<=k/\
  G.size=d.size/\Aside (wr=putRow encI (Sort.ahead w n) u off G)/\reverseLoop i E G=reverseLoop 0 (d.size - 1) d)
 case atStart=>exact ⟨0,d.size - 1,(d.size:Int) - 1,d,0,rfl,rfl,fun h=>⟨by omega,by omega⟩,fun h=>by omega,by omega,rfl,(putRow_self encI w u off d Y).symm,rfl⟩
 case round=>
  obtain ⟨i,E,J,G,n,rfl,rfl,h1,X,hk,F,A,D⟩:=hrel;have W:=ag D;clear D;by_cases L:(i:Int)<J
  ·obtain ⟨rfl,ae⟩:=h1 L;have V:i<E:=by omega
   have I:Holds encI wr u off G:=by rw [A.out];exact holds_putRow encI _ u off d G (holds_ahead encI w n u off d Y) F
   obtain ⟨ci,fi⟩:=I i (by omega);obtain ⟨cj,fj⟩:=I E (by omega);have O:=ag F;clear I h1 X F;have Z:(0:Int)<=E:=by omega
   have ad:(E:Int)<d.size:=by omega
   have aa:(0:Int)<=i:=by omega
   have ac:(i:Int)<d.size:=by omega
   go_wp2_with fail;go_region
   all_goals
    go_wp2
    go_roundg (E - 1 - (i+1))
    case measure=>omega
    case rel=>
     have D:=W.out;have F:=O.out;rw [reverseLoop,if_pos V]at D;exact ⟨i+1,E - 1,(E:Int) - 1,swp G i E,n+1,by simp,rfl,fun h=>⟨by omega,by omega⟩,fun h=>by omega,nlq _,by rw [size_swp];exact F,
      swap_world encI (by omega) (by omega) A.out (by first | rfl | simp [encI,getElem!_pos,show E<G.size by omega]) (by first | rfl | simp [encI,getElem!_pos,show i<G.size by omega]),D⟩
  have N:=X L;go_wp2
  go_end0;refine ⟨rfl,n,?_⟩;have D:=W.out;rw [reverseLoop,if_neg N]at D;rw [<-Lib.reverseLoop_reverse,<-D];exact A.out
theorem Tryz.infoInt:(Tryz.prog.info? 3).map (fun i=>(i.zero,i.size,i.bytes))=some (some (.int .i64 0),1,8):=by kernel_rfl
theorem kh {w:World} {B e n len:Nat} {v:Value} {xs:List Value} (h:w.ownsRow B e n v len xs):∃a c,v=.slice a len c:=by
 rcases h.2 with ⟨rfl,rfl⟩ | ⟨g,cap,u,rfl,_⟩
 ·exact ⟨_,_,rfl⟩
 exact ⟨_,_,rfl⟩
def ints (ns:List Nat):List Value:=ns.map fun x:Nat=>Value.int .i64 (x:Int)
theorem zf0 (w:World) (g n:Nat) (d:Array Int) (k:Nat) (u:k≠g):(putRow encI (Sort.ahead w n) g 0 d).heap[k]? =w.heap[k]? :=by show (w.heap.modify g _)[k]? =_;rw [Array.getElem?_modify,if_neg (fun e=>u e.symm)]
theorem zf1 (w:World) (g n t:Nat) (d:Array Int) (u:Array Value) (A:Nat×Nat) (h:w.heap[g]? =some (.cells u t A)):∃cur',(putRow encI (Sort.ahead w n) g 0 d).heap[g]? =some (.cells cur' t A):=by show ∃cur',(w.heap.modify g _)[g]? =_;rw [Array.getElem?_modify,if_pos rfl,h];exact ⟨_,rfl⟩
theorem zf3 (w:World) (B g cap:Nat) (ns:List Nat) (hl:ns.length<=100) (A:w.ownsRow B 3 1 (.slice (some ⟨g,0,none⟩) ns.length cap) ns.length (ints ns)):
 Calls Tryz.prog 233 #[.slice (some ⟨g,0,none⟩) ns.length cap] w fun e w'=>e=.returned (.tuple #[])/\w.grownBy w' (some g)/\SL 1 RO (MT B [3] w') w' (.slice (some ⟨g,0,none⟩) ns.length cap) ns.reverse:=by
 have E:(ns.map fun x:Nat=>(x:Int)).toArray.size=ns.length:=by simp
 obtain ⟨u,G,D,J⟩:∃u,w.heap[g]? =some (.cells u 3 (0,0))/\B<=g/\ns.length<=cap:=by
  rcases A.2 with ⟨e,_⟩ | ⟨g',X,u,e,D,G,hc,_⟩
  ·cases e
  cases e;exact ⟨u,G,D,hc⟩
 have Z:g<w.heap.size:=(Array.getElem?_eq_some_iff.1 G).1;have Y:Holds encI w g 0 (ns.map fun x:Nat=>(x:Int)).toArray:=by intro j N;rw [E]at N;refine ⟨?_,by simp [World.frozen?,G]⟩;rw [Nat.zero_add,A.cellAt j (by omega)];simp [ints,encI,getElem!_pos,N]
 have h:=zfy g 0 cap (ns.map fun x:Nat=>(x:Int)).toArray w Y (by rw [E];omega);rw [E]at h;refine h.mono ?_;rintro e w' ⟨rfl,n,rfl⟩;obtain ⟨F,I⟩:=zf1 w g n 3 (ns.map fun x:Nat=>(x:Int)).toArray.reverse u (0,0) G;refine ⟨rfl,⟨rfl,rfl,rfl,by simp [putRow,mapBlock,Sort.ahead],fun k _ V=>zf0 w g n _ k (fun e=>V (by rw [e]))⟩,?_⟩;have L:=holds_putRow encI (Sort.ahead w n) g 0 _ (ns.map fun x:Nat=>(x:Int)).toArray.reverse (holds_ahead encI w n g 0 _ Y) (by simp);refine ⟨some ⟨g,0,none⟩,cap,by simp,by simpa using J,by unfold maxLen;simp;omega,fun k V=>?_⟩;have W:k<ns.length:=by simpa using V
 refine ⟨g,0,[.int .i64 (ns.reverse[k]:Nat)],rfl,⟨D,F,_,_,I,by simp⟩,(Array.getElem?_eq_some_iff.1 I).1,rfl,fun j N=>?_,rfl⟩;have O:j=0:=by omega
 subst O;have:=(L k (by simp;omega)).1;simp only [Nat.zero_add,Nat.mul_one,Nat.add_zero]at this ⊢;rw [this];simp [encI,getElem!_pos,W]
theorem zf4 (l:List am) (n:Nat): -1<=dj l n/\dj l n<l.length:=za2 _ _
theorem zf5 {l:List am} {m:Int} (u:¬ 0<=m):∀f,fy l f m= []
 | 0=>rfl
 | f+1=>by rw [fy,if_neg u]
theorem zf6 {l:List am} {m:Int} (f:Nat) (u:0<=m):fy l (f+1) m=m.toNat::fy l f (dj l m.toNat):=by rw [fy,if_pos u]
theorem zf7 (w:World) (B b:Nat) (l:List am) (n:Nat) (hn:n<l.length) (ao:Option Addr) (cl:Nat) (vS:Value) (c0:w.cell? ⟨b,0,none⟩=some (.slice ao l.length cl)) (c1:w.cell? ⟨b,1,none⟩=some vS)
 (sS:SL 1 RI (· <B) w vS ((List.range l.length).map (dj l))) (hB:B<=w.heap.size) (hN:l.length<=10):
 Calls Tryz.prog 200 #[.pointer (some ⟨b,0,none⟩),.int .i64 n] w fun r w'=>Below w.heap.size w w'/\∃v,r=.returned v/\SL 1 RO (MT w.heap.size [3] w') w' v (di l n):=by
 obtain ⟨iI,av,al,an,ap⟩:=info_parts Tryz.infoInt;have ad:b<w.heap.size:=World.block_lt_of_cell? w _ c0;have aq:Hid (∀k,k<l.length->∀(h:k<((List.range l.length).map (dj l)).length),((List.range l.length).map (dj l))[k]=dj l k):=fun k _ h=>by simp
 have X:((List.range l.length).map (dj l)).length=l.length:=by simp
 have V:=ag X;clear X;generalize (List.range l.length).map (dj l)=LS at*;have HS:=ag sS;obtain ⟨aS,cS,rfl,-⟩:=sS;rw [V.out]at c1;have aa:Hid (di l n=(fy l (l.length+1) n).reverse):=rfl;go_enter Tryz.func200,Tryz.ntmps200;go_wp2_with fail;go_loopg [5,6] (l.length+1) (fun f v i wr=>∃(A:List Nat) (m:Int),i=.int .i64 m/\ -1<=m/\m<l.length/\A.length+f=l.length+1/\Hid (fy l (l.length+1) n=A++fy l f m)/\Hid (A= []->m=n)/\wr.ownsRow w.heap.size 3 1 v A.length (ints A)/\Below w.heap.size w wr)
 case atStart=>exact ⟨[],n,rfl,by omega,by omega,by simp,rfl,fun _=>rfl,World.ownsRow_nil _ _ _ _,br _ _⟩
 case round=>
  rename Nat=>f
  obtain ⟨A,m,rfl,a2,a3,hf,HP,HE,D,G⟩:=hrel;obtain ⟨a5,c5,rfl⟩:=kh D;have d0:wr.cell? ⟨b,0,none⟩=some (.slice ao l.length cl):=(G.cell (p:=⟨b,0,none⟩) ad).trans c0;have aw:=G.size;by_cases h0:0<=m/\0<f
  ·obtain ⟨h0,az⟩:=h0;obtain ⟨f',rfl⟩:∃f',f=f'+1:=⟨f - 1,by omega⟩;have ar:(A.length:Int)<=l.length:=by omega
   have I:=ag D;have Z:Hid (A.length+1<=maxLen/\(A.length+1)*8<=140737488355328/\w.heap.size<=(wr.alloc (.cells #[.int .i64 m] 3)).heap.size):=⟨by unfold maxLen;omega,by omega,by simp;omega⟩;go_wp2_with (at_builtin;refine wpList_append_lies _ rfl _ _ 22 rfl w.heap.size 3 iI (.int .i64 0) 1 8 Tryz.underlying22 av al an ap rfl (by decide) (.slice a5 A.length c5) A.length (ints A) rfl (I.out.alloc _) ⟨wr.heap.size,0,none⟩ 1 1 [.int .i64 m] rfl rfl (World.news_of_block (heap_alloc_new wr _)) (by intro u hu;simp at hu;subst hu;rfl) (by omega) Z.out.1 Z.out.2.1 Z.out.2.2 _ rfl ?_);intro g cap w1 E W ac ax;have aj:∀k,(Value.slice a5 A.length c5).ownBlock=some k->w.heap.size<=k:=fun k e=>(I.out.lt k e).1;have F:Below w.heap.size w w1:=(G.alloc aw _).grown W (by simp;omega) (fun k e=>aj k e);have f1:w1.cell? ⟨b,1,none⟩=some (.slice aS l.length cS):=(F.cell (p:=⟨b,1,none⟩) ad).trans c1;obtain ⟨N,rfl⟩:=Int.eq_ofNat_of_zero_le h0;have ah:N<l.length:=by omega
   have af:N<LS.length:=by rw [V.out];exact ah
   obtain ⟨bs,os,rfl,ay,es⟩:=(HS.out.keptI (Kp.below (F.mono hB))).atI N af;rw [aq.out N ah af]at es;have HX:=ag (And.intro E F);have a0:(0:Int)<=N:=by omega
   have a1:(N:Int)<l.length:=by omega
   clear E W ac aj D d0 G F;go_wp2_with fail
   go_roundg f'
   case measure=>omega
   case rel=>
    obtain ⟨E,F⟩:=HX.out;have ak:=zf4 l N;refine ⟨A++ [N],dj l N,rfl,ak.1,ak.2,by simp;omega,?_,?_,?_,F⟩
    ·show _=_;rw [HP.out,zf6 f' (by omega)];simp
    ·exact fun e=>by simp at e
    rw [List.length_append];have:ints (A++ [N])=ints A++ [.int .i64 (N:Int)]:=by simp [ints]
    rw [this];exact E
  have ai:A≠ []:=fun e=>by have:=HE.out e;subst e;simp at hf;omega
  have HA:Hid (fy l (l.length+1) n=A):=by
   show _=_;rw [HP.out];by_cases hm:0<=m
   ·have:f=0:=by omega
    subst this;simp [fy]
   rw [zf5 hm];simp
  have hg:a5=none->False:=by
   intro e;subst e;rcases D.2 with ⟨e,h⟩ | ⟨g,_,_,e,_⟩
   ·exact ai (List.eq_nil_of_length_eq_zero h)
   cases e
  obtain ⟨g,au,ae⟩:∃g,a5=some ⟨g,0,none⟩/\w.heap.size<=g:=by
   rcases D.2 with ⟨e,h⟩ | ⟨g,_,_,e,h,_⟩
   ·exact (hg (Value.slice.inj e).1).elim
   exact ⟨g,(Value.slice.inj e).1,h⟩
  subst au;have I:=ag D;have O:=ag G;have L:A.length<=100:=by omega
  clear D hg ai G;by_cases hm:0<=m
  ·have ar:¬(A.length:Int)<=l.length:=by omega
   clear h0;go_wp2_with fail;refine (zf3 _ w.heap.size g c5 A L I.out).mono ?_;rintro r w2 ⟨rfl,J,sv⟩;have Y:=ag (O.out.grown J O.out.size (fun k e=>by cases e;exact ae));have SV:=ag sv;clear J sv;go_wp2_with fail;go_ret;exact ⟨Y.out,_,rfl,by rw [aa.out,HA.out];exact SV.out⟩
  clear h0;go_wp2_with fail;refine (zf3 _ w.heap.size g c5 A L I.out).mono ?_;rintro r w2 ⟨rfl,J,sv⟩;have Y:=ag (O.out.grown J O.out.size (fun k e=>by cases e;exact ae));have SV:=ag sv;clear J sv;go_wp2_with fail;go_ret;exact ⟨Y.out,_,rfl,by rw [aa.out,HA.out];exact SV.out⟩
end Go.Proofs.YtjdnmblggdobgaaGreat
