import Derived.Test.YtjdnmblggdobgaaGreatJLLineLLn
import Derived.Deep.AppendSrc
import Derived.Test.YtjdnmblggdobgaaGreatJPlainFine
import Derived.Test.YtjdnmblggdobgaaGreatJLErrLRf4
set_option maxHeartbeats 8000000
set_option maxRecDepth 100000
namespace Go.Proofs.YtjdnmblggdobgaaGreat
open Go Go.RowKit
theorem zf8 {P:Program} (w:World) (t G e:TypeId) (i:TypeInfo) (D:P.underlying t=some (.slice e)) (F:P.info? e=some i) (a:Option Addr) (n c:Nat) (J:n<=c) (I:a=none\/∃g,a=some ⟨g,0,none⟩) (x:Option Addr) (A:Nat):
 (Builtin.append_ #[t,t] G #[.slice a n c,.slice x 0 A]).run P w=.ok (.slice a n c) w:=by
 have E:Src P i.size t (.slice x 0 A) 0 [] w:=by
  cases x with
  | none=>exact Src.ofNil w D A
  | some ad=>exact Src.ofSlice w D ad 0 A [] (by simp) (fun j u h=>by simp at h) (fun u h=>by cases h)
 rcases I with rfl | ⟨g,rfl⟩
 ·simp [Builtin.append_,run_underlying D,sizeOf,typeInfo,F,E.len,J,E.cells]
 have:=run_append_room_src w t t G e i D F g 0 n c (.slice x 0 A) 0 [] E (by omega) (fun j h=>by cases h) (fun j h=>by cases h);rw [this];rfl
theorem zf9 {P:Program} (w:World) {ops:Array Oper} {rest:List Oper} {o:Oper} {a:Act} {Q:Exit->Act->World->Prop} (D:o.guard=none) (s x:Operand) (t:TypeId)
 (N:o.op=.call { callee:=.builtin .append,args:=#[s,x],argTypes:=#[t,t] }) (e:TypeId) (i:TypeInfo) (W:P.underlying t=some (.slice e)) (J:P.info? e=some i)
 (A:Option Addr) (n c:Nat) (V:a.eval s=.slice A n c) (L:n<=c) (I:A=none\/∃g,A=some ⟨g,0,none⟩) (F:Option Addr) (E:Nat) (X:a.eval x=.slice F 0 E)
 (h:wpList P ops Q rest (a.put o.dst (.slice A n c)) w):wpList P ops Q (o::rest) a w:=by
 refine wpList_plain D fun K G=>?_;have O:=zf8 (P:=P) w t o.type e i W J A n c L I F E;unfold Oper.wp execOp;simp only [N,resolve,invoke,builtin,Sem.run_bind,Sem.run_pure,Result.andThen_ok,List.map_toArray,List.map_cons,List.map_nil,V,X,O];exact G _ _ h
theorem zga {w:World} {B e n len:Nat} {a:Option Addr} {c:Nat} {xs:List Value} (h:w.ownsRow B e n (.slice a len c) len xs):len<=c/\(a=none\/∃g,a=some ⟨g,0,none⟩):=by
 rcases h.2 with ⟨e,h0⟩ | ⟨g,cap,A,e,_,_,hc,_⟩
 ·exact ⟨by omega,Or.inl (Value.slice.inj e).1⟩
 obtain ⟨D,_,E⟩:=Value.slice.inj e;exact ⟨by omega,Or.inr ⟨g,D⟩⟩
end Go.Proofs.YtjdnmblggdobgaaGreat
namespace Go.Proofs.YtjdnmblggdobgaaGreat
open Go.RowKit Go.Sort
theorem Tryz.infoField:(Tryz.prog.info? 125).map (fun i=>(i.zero,i.size,i.bytes))=some (some (.agg #[.string ⟨#[]⟩,.int .i64 0,.string ⟨#[]⟩]),3,40):=by kernel_rfl
theorem zgw (l:List ap):∀(f:Nat) (m:Int),m<l.length->∀k∈fw l f m,k<l.length
 | 0,_,_,k,A=>by cases A
 | f+1,m,hm,k,A=>by
   unfold fw at A;split at A
   ·rcases List.mem_cons.1 A with rfl | A
    ·omega
    exact zgw l f _ (zf4 l _).2 k A
   cases A
theorem zgx (l:List ap):∀(f:Nat) (m:Int),(fw l f m).length<=f
 | 0,_=>by simp [fw]
 | f+1,m=>by
   unfold fw;split
   ·have:=zgx l f (df l m.toNat);simp;omega
   simp
theorem zgy {l:List ap} {n:Nat} (D:n<l.length):∀k∈de l n,k<l.length:=fun k A=>zgw l _ n (by omega) k (by simpa [de]using A)
theorem zgz (l:List ap) (n:Nat):(de l n).length<=l.length+1:=by rw [de,List.length_reverse];exact zgx l _ _
def gx (f:bg):List Value:=[.string f.name,.int .i64 f.kind.kind,.string f.kind.da]
theorem zg1 (b off j:Nat):(⟨b,off,none⟩:Addr).add j=⟨b,off+j,none⟩:=by unfold Addr.add;split<;>simp_all
theorem zg2 {α:Type} {n:Nat} {R:(Nat->Prop)->World->List Value->α->Prop} {M:Nat->Prop} {w:World} {b off len cap:Nat} {l:List α} (f:α->List Value) (X:0<n) (I:∀x∈l,(f x).length=n) (L:∀F x,R M w F x->F=f x)
 (h:SL n R M w (.slice (some ⟨b,off,none⟩) len cap) l):∀j u,(l.flatMap f)[j]? =some u->w.cell? ((⟨b,off,none⟩:Addr).add j)=some u:=by
 intro j u E;have D:(l.flatMap f).length=l.length*n:=by
  clear h L E;induction l with
  | nil=>simp
  | cons x l ih=>
    rw [List.flatMap_cons,List.length_append,ih (fun y Y=>I y (by simp [Y])),I x (by simp),List.length_cons,Nat.add_mul];omega
 have W:j<l.length*n:=by rw [<-D];exact (List.getElem?_eq_some_iff.1 E).1
 have N:j / n<l.length:=Nat.div_lt_of_lt_mul (by rw [Nat.mul_comm];exact W);have O:j % n<n:=Nat.mod_lt _ X;have A:j / n*n+j % n=j:=by rw [Nat.mul_comm];exact Nat.div_add_mod j n
 obtain ⟨Z,V,F,e,_,_,_,hc,J⟩:=h.at (j / n) N;cases e;have G:=L _ _ J;rw [<-A,ze3 f l (j / n) (j % n) I N O]at E;have:=hc (j % n) O;rw [G,E]at this;rw [zg1,<-A,<-Nat.add_assoc];exact this
theorem zg3 {l:List bg} :(l.flatMap gx).length=l.length*3:=by
 induction l with
 | nil=>rfl
 | cons x l ih=>rw [List.flatMap_cons,List.length_append,ih,List.length_cons];simp [gx];omega
theorem zg4 (l:List bg):∀u∈l.flatMap gx,u.oneCell'=true:=by intro u A;obtain ⟨f,_,A⟩:=List.mem_flatMap.1 A;simp [gx]at A;rcases A with rfl | rfl | rfl<;>rfl
theorem zg5 (w:World) (B b:Nat) (l:List ap) (n:Nat) (hn:n<l.length) (ao:Option Addr) (cl:Nat) (c0:w.cell? ⟨b,0,none⟩=some (.slice ao l.length cl)) (sC:SL 4 RC (· <B) w (.slice ao l.length cl) l)
 (vL:Value) (LL:List (List Nat)) (c6:w.cell? ⟨b,6,none⟩=some vL) (sL:SL 1 (jm 1 RO) (MT B [3,22] w) w vL LL) (a7:n<LL.length) (ac:LL[n]=de l n) (hB:B<=w.heap.size) (hN:l.length<=10) (hF:∀c∈l,c.fields.length<=6):
 Calls Tryz.prog 201 #[.pointer (some ⟨b,0,none⟩),.int .i64 n] w fun r w'=>Below w.heap.size w w'/\∃v,r=.returned v/\SL 3 RF (MT w.heap.size [125] w') w' v (fieldsOf l n):=by
 obtain ⟨iF,ah,ak,al,an⟩:=info_parts Tryz.infoField;have a4:b<w.heap.size:=World.block_lt_of_cell? w _ c0;have ay:=ae ac;have HC:=ae sC;have a8:=sL;obtain ⟨aL,cL,rfl,-⟩:=a8;obtain ⟨bL,oL,aI,cI,rfl,bh,eL,sI⟩:=sL.atSl n a7;rw [ay.o]at eL sI;have ai:=zgy hn;have bo:=zgz l n;have ax:Hid (fieldsOf l n=(de l n).flatMap fun k=>(b9 l k).fields):=rfl;generalize de l n=ln at*;have HI:=ae sI;have HK:=ae ai;have av:=ae hF;have bw:(0:Int)<=n:=by omega
 have bx:(n:Int)<LL.length:=by omega
 clear sC sL sI ac ai hF;go_enter Tryz.func201,Tryz.ntmps201;go_wp2_with fail;go_loopw [5,16] (fun v i wr=>∃(k:Nat) (fs:List bg),k<=ln.length/\i=.int .i64 k/\Hid (fs=(ln.take k).flatMap fun k=>(b9 l k).fields)/\fs.length<=6*k/\Hid (∀f∈fs,f.name.size<=maxLen/\f.kind.da.size<=maxLen)/\wr.ownsRow w.heap.size 125 3 v fs.length (fs.flatMap gx)/\Below w.heap.size w wr) (fun _ i _=>ln.length - (intOf i).toNat)
 case atStart=>exact ⟨0,[],n0q _,rfl,rfl,by simp,(fun f F=>by cases F),World.ownsRow_nil _ _ _ _,br _ _⟩
 case round=>
  obtain ⟨k,fs,hk,rfl,HP,bn,V,A,E⟩:=hrel;obtain ⟨a5,c5,rfl⟩:=kh A;have aj:=E.size;by_cases W:k<ln.length
  ·obtain ⟨bi,oi,rfl,a3,ei⟩:=HI.o.atO k W;have a1:=(E.cell (p:=⟨bi,oi+k,none⟩) a3).trans ei;have G:=HK.o ln[k] (gm W);have d0:wr.cell? ⟨b,0,none⟩=some (.slice ao l.length cl):=(E.cell (p:=⟨b,0,none⟩) a4).trans c0;obtain ⟨bc,oc,vf,vm,rfl,bl,e0,e1,e2,e3,ef,em,ba,be⟩:=(HC.o.keptC (Kp.below (E.mono hB))).atC ln[k] G;have bm:=av.o l[ln[k]] (gm G);have au:Hid (b9 l ln[k]=l[ln[k]]):=zay G;obtain ⟨m,hm⟩:∃m,m=ln[k]:=⟨_,rfl⟩;have HM:=ae hm;generalize hcc:l[ln[k]]=cc at*;clear hcc;rw [<-hm]at a1 e0 e1 e2 e3 G;have bs:(0:Int)<=m:=by omega
   have bu:(m:Int)<l.length:=by omega
   have EF:=ae ef;obtain ⟨fo,cf,rfl,-⟩:=ef;have O:=ae A;have L:∀f∈cc.fields,f.name.size<=maxLen/\f.kind.da.size<=maxLen:=by intro f F;obtain ⟨q,hq,rfl⟩:=List.getElem_of_mem F;obtain ⟨_,_,_,_,_,_,_,h1,h2⟩:=EF.o.atF q hq;exact ⟨h1,h2⟩
   have a0:=ae L;have aa:Hid ((ln.take (k+1)).flatMap (fun k=>(b9 l k).fields)=fs++cc.fields):=by show _=_;rw [List.take_succ_eq_append_getElem W,List.flatMap_append,<-HP.o];simp [au.o]
   clear hm ei L;by_cases h0:cc.fields= []
   ·have az:=ae h0;rw [h0]at e2;clear h0;obtain ⟨ag,ad⟩:=zga A;go_wp2_with (at_builtin;refine zf9 _ rfl _ _ 126 rfl 125 iF Tryz.underlying126 ah a5 fs.length c5 rfl ag ad fo cf rfl ?_);clear ad ag;go_wp2_with fail;go_roundw
    case rel=>exact ⟨k+1,fs,by omega,by go_num,by show _=_;have:=aa.o;rw [az.o,List.append_nil]at this;exact this.symm,by omega,V.o,O.o,E⟩
    case measure=>simp [intOf];omega
   have J:0<cc.fields.length:=List.length_pos_iff.2 h0;obtain ⟨Y,of,a6⟩:∃Y of,fo=some ⟨Y,of,none⟩:=by obtain ⟨Y,of,e,_⟩:=EF.o.atF 0 J;exact ⟨Y,of,e⟩
   subst a6;have N:Hid (∀j u,(cc.fields.flatMap gx)[j]? =some u->wr.cell? ((⟨Y,of,none⟩:Addr).add j)=some u):=zg2 gx (by decide) (fun x _=>rfl) (fun _ _ h=>h.1) EF.o;have Z:Hid (fs.length+cc.fields.length<=maxLen/\(fs.length+cc.fields.length)*40<=140737488355328):=⟨by unfold maxLen;omega,by omega⟩;clear h0;go_wp2_with (at_builtin;refine wpList_append_lies _ rfl _ _ 126 rfl w.heap.size 125 iF (.agg #[.string ⟨#[]⟩,.int .i64 0,.string ⟨#[]⟩]) 3 40 Tryz.underlying126 ah ak al an rfl (by decide) (.slice a5 fs.length c5) fs.length (fs.flatMap gx) rfl O.o ⟨Y,of,none⟩ cc.fields.length cf (cc.fields.flatMap gx) rfl zg3 N.o (zg4 _) J Z.o.1 Z.o.2 aj _ rfl ?_);intro g cap w1 D I af a9;have HX:=ae (And.intro D (E.grown I aj (fun k e=>(O.o.lt k e).1)));clear D I af A E;go_wp2_with fail;go_roundw
   case rel=>
    obtain ⟨D,a2⟩:=HX.o;refine ⟨k+1,fs++cc.fields,by omega,by go_num,aa.o.symm,by simp;omega,?_,?_,a2⟩
    ·show ∀f∈_,_;intro f F;rcases List.mem_append.1 F with F | F
     ·exact V.o f F
     exact a0.o f F
    rw [List.length_append,List.flatMap_append];exact D
   case measure=>simp [intOf];omega
  have HX:Hid (fieldsOf l n=fs):=by show _=_;rw [ax.o,HP.o,List.take_of_length_le (by omega)]
  have X:(fs.map fun f=>(gx f,f)).length=fs.length:=by simp
  have aq:(fs.map fun f=>(gx f,f)).flatMap (·.1)=fs.flatMap gx:=by rw [List.flatMap_map]
  have SV:=ae (ze4 (n:=3) (R:=RF) (T:=[125]) (zs:=fs.map fun f=>(gx f,f)) (by rw [X,aq];exact A) (fun z hz=>by
   obtain ⟨f,F,rfl⟩:=List.mem_map.1 hz;exact ⟨rfl,rfl,V.o f F⟩) (by simp) (by rw [X];unfold maxLen;omega))
  clear X aq A;go_wp2_with fail;go_ret;exact ⟨E,_,rfl,by rw [HX.o];have:=SV.o;rwa [List.map_map,show ((·.2)∘fun f:bg=>(gx f,f))=id from rfl,List.map_id]at this⟩
theorem Tryz.infoStr:(Tryz.prog.info? 9).map (fun i=>(i.zero,i.size,i.bytes))=some (some (.string ⟨#[]⟩),1,16):=by kernel_rfl
theorem Tryz.infoTarg:(Tryz.prog.info? 233).map (fun i=>(i.zero,i.size,i.bytes))=some (some (.agg #[.int .i64 0,.int .i64 0]),2,16):=by kernel_rfl
theorem mu {W:World} {k j t:Nat} {A:Array Value} {D:Nat×Nat} (h:W.heap[k]? =some (.cells A t D)) (v:Value):(W.setCell ⟨k,j,none⟩ v).heap[k]? =some (.cells (A.setIfInBounds j v) t D):=by simp [World.setCell,Array.getElem?_modify,h]
theorem zg7 {w:World} {B e A g cap n:Nat} {xs:List Value} (h:w.ownsRow B e A (.slice (some ⟨g,0,none⟩) n cap) n xs) (j:Nat) (v:Value):(w.setCell ⟨g,j,none⟩ v).ownsRow B e A (.slice (some ⟨g,0,none⟩) n cap) n (xs.set j v):=by
 refine ⟨by rw [List.length_set];exact h.1,?_⟩;rcases h.2 with ⟨e,_⟩ | ⟨N,E,D,e,F,G,hc,I,J,L⟩
 ·cases e
 cases e;refine Or.inr ⟨g,cap,D.setIfInBounds j v,rfl,F,mu G v,hc,I,by simpa using J,?_⟩;rw [<-L];simp [List.take_set]
theorem zg8 {w:World} {B B' e I n V k O:Nat} {v J:Value} {xs E:List Value} (h:w.ownsRow B e n v k xs) (h':w.ownsRow B' I V J O E) (D:e≠I):v.ownBlock=none\/v.ownBlock≠J.ownBlock:=by
 rcases h.2 with ⟨rfl,_⟩ | ⟨g,cap,L,rfl,_,N,_⟩
 ·exact Or.inl rfl
 rcases h'.2 with ⟨rfl,_⟩ | ⟨W,F,G,rfl,_,A,_⟩
 ·exact Or.inr (by simp [Value.ownBlock])
 refine Or.inr fun e=>?_;simp [Value.ownBlock]at e;subst e;rw [N]at A;cases A;exact D rfl
def jx (ns:List ByteArray):List Value:=ns.map Value.string
def gz (t:cg):List Value:=[.int .i64 t.da,.int .i64 t.meth]
theorem tlen (ts:List cg):(ts.flatMap gz).length=ts.length*2:=by
 induction ts with
 | nil=>rfl
 | cons x l ih=>rw [List.flatMap_cons,List.length_append,ih,List.length_cons];simp [gz];omega
theorem zg9 (ns:List ByteArray):ns.flatMap (fun s=>[Value.string s])=jx ns:=by
 induction ns with
 | nil=>rfl
 | cons x l ih=>rw [List.flatMap_cons,ih];rfl
theorem zha {w:World} {B:Nat} {v:Value} {ns:List ByteArray} (h:w.ownsRow B 9 1 v ns.length (jx ns)) (F:∀s∈ns,s.size<=maxLen) (G:ns.length<=1000):SL 1 RS (MT B [9] w) w v ns:=by
 have A:(ns.map fun s=>([Value.string s],s)).length=ns.length:=by simp
 have E:(ns.map fun s=>([Value.string s],s)).flatMap (·.1)=jx ns:=by rw [List.flatMap_map];exact zg9 ns
 have:=ze4 (n:=1) (R:=RS) (T:=[9]) (zs:=ns.map fun s=>([Value.string s],s)) (by rw [A,E];exact h) (fun z A=>by
  obtain ⟨s,D,rfl⟩:=List.mem_map.1 A;exact ⟨rfl,rfl,F s D⟩) (by simp) (by rw [A];unfold maxLen;omega)
 rwa [List.map_map,show ((·.2)∘fun s:ByteArray=>([Value.string s],s))=id from rfl,List.map_id]at this
theorem zhb {w:World} {B:Nat} {v:Value} {ts:List cg} (h:w.ownsRow B 233 2 v ts.length (ts.flatMap gz)) (F:ts.length<=1000):SL 2 RT (MT B [233] w) w v ts:=by
 have A:(ts.map fun s=>(gz s,s)).length=ts.length:=by simp
 have D:(ts.map fun s=>(gz s,s)).flatMap (·.1)=ts.flatMap gz:=by rw [List.flatMap_map]
 have:=ze4 (n:=2) (R:=RT) (T:=[233]) (zs:=ts.map fun s=>(gz s,s)) (by rw [A,D];exact h) (fun z A=>by
  obtain ⟨s,E,rfl⟩:=List.mem_map.1 A;exact ⟨rfl,rfl⟩) (by simp) (by rw [A];unfold maxLen;omega)
 rwa [List.map_map,show ((·.2)∘fun s:cg=>(gz s,s))=id from rfl,List.map_id]at this
theorem zhc (ts:List cg) (k:Nat) (t:cg):((ts.flatMap gz).set (k*2) (.int .i64 t.da)).set (k*2+1) (.int .i64 t.meth)=(ts.set k t).flatMap gz:=by
 induction ts generalizing k with
 | nil=>simp
 | cons x l ih=>
   cases k with
   | zero=>simp [gz]
   | succ k=>
     rw [p3q,List.flatMap_cons,List.flatMap_cons,<-ih k];have A:(k+1)*2=k*2+1+1:=by omega
     rw [A];simp [gz]
theorem zhd (P:List (ByteArray×cg)):∀A:List ByteArray×List cg,A.1.length=A.2.length->(P.foldl ed A).1.length=(P.foldl ed A).2.length:=by
 induction P with
 | nil=>exact fun _ h=>h
 | cons x P ih=>
   intro A h;refine ih _ ?_;unfold ed;split
   ·simpa using h
   simp [h]
theorem zhe (P:List (ByteArray×cg)) (x:ByteArray×cg):(P++ [x]).foldl ed ([],[])=ed (P.foldl ed ([],[])) x:=by rw [List.foldl_append];rfl
theorem zhf (l:List ByteArray) (s:ByteArray):iw l s<l.length:=by
 unfold iw;split
 ·rename_i i h;have:=(List.findIdx?_eq_some_iff_getElem.1 h).1;omega
 omega
theorem zhg (l:List ap) (n:Nat):(jk l n).length=(b9 l n).ba.length:=by simp [jk]
theorem zhh (l:List ap) (n j:Nat) (h:j<(jk l n).length) (h':j<(b9 l n).ba.length):(jk l n)[j]=((b9 l n).ba[j].name,⟨n,j⟩):=by simp [jk]
theorem zhi (w:World) (B b:Nat) (l:List ap) (n:Nat) (hn:n<l.length) (ao:Option Addr) (cl:Nat) (c0:w.cell? ⟨b,0,none⟩=some (.slice ao l.length cl)) (sC:SL 4 RC (· <B) w (.slice ao l.length cl) l)
 (vL:Value) (LL:List (List Nat)) (c6:w.cell? ⟨b,6,none⟩=some vL) (sL:SL 1 (jm 1 RO) (MT B [3,22] w) w vL LL) (d2:n<LL.length) (b3:LL[n]=de l n) (hB:B<=w.heap.size) (hN:l.length<=10) (hF:∀c∈l,c.ba.length<=8):
 Calls Tryz.prog 202 #[.pointer (some ⟨b,0,none⟩),.int .i64 n] w fun r w'=>Below w.heap.size w w'/\∃v u,r=.returned (.tuple #[v,u])/\SL 1 RS (MT w.heap.size [9] w') w' v (d9 l n)/\SL 2 RT (MT w.heap.size [233] w') w' u (d7 l n):=by
 obtain ⟨iS,ds,cf,ci,cj⟩:=info_parts Tryz.infoStr;obtain ⟨iT,du,cn,co,cp⟩:=info_parts Tryz.infoTarg;have dk:b<w.heap.size:=World.block_lt_of_cell? w _ c0;have cu:=ae b3;have HC:=ae sC;have d4:=sL;obtain ⟨aL,cL,rfl,-⟩:=d4;obtain ⟨bL,oL,aI,cI,rfl,ek,eL,sI⟩:=sL.atSl n d2;rw [cu.o]at eL sI;have ce:=zgy hn;have en:=zgz l n;have c3:Hid (jh l n=((de l n).flatMap (jk l)).foldl ed ([],[])):=rfl;generalize de l n=ln at*;have HI:=ae sI;have HK:=ae ce;have cs:=ae hF;have er:(0:Int)<=n:=by omega
 have es:(n:Int)<LL.length:=by omega
 clear sC sL sI b3 ce hF;go_enter Tryz.func202,Tryz.ntmps202;go_wp2_with fail;go_loopw [6,7,22] (fun v u i wr=>∃(k:Nat) (ns:List ByteArray) (ts:List cg),k<=ln.length/\i=.int .i64 k/\Hid ((ns,ts)=((ln.take k).flatMap (jk l)).foldl ed ([],[]))/\ns.length<=8*k/\Hid (ts.length=ns.length)/\Hid (∀s∈ns,s.size<=maxLen)/\
  wr.ownsRow w.heap.size 9 1 v ns.length (jx ns)/\wr.ownsRow w.heap.size 233 2 u ts.length (ts.flatMap gz)/\Below w.heap.size w wr) (fun _ _ i _=>ln.length - (intOf i).toNat)
 case atStart=>exact ⟨0,[],[],n0q _,rfl,rfl,by simp,rfl,(fun f hf=>by cases hf),World.ownsRow_nil _ _ _ _,World.ownsRow_nil _ _ _ _,br _ _⟩
 case round=>
  obtain ⟨k,ns,ts,hk,rfl,HP,b7,G,L,E,A,I⟩:=hrel;obtain ⟨a6,c6,rfl⟩:=kh E;obtain ⟨a7,c7,rfl⟩:=kh A;have an:=I.size;by_cases bl:k<ln.length
  ·obtain ⟨bi,oi,rfl,dg,ei⟩:=HI.o.atO k bl;have c5:=(I.cell (p:=⟨bi,oi+k,none⟩) dg).trans ei;have bn:=HK.o ln[k] (gm bl);have d0:wr.cell? ⟨b,0,none⟩=some (.slice ao l.length cl):=(I.cell (p:=⟨b,0,none⟩) dk).trans c0;obtain ⟨bc,oc,vf,vm,rfl,b5,e0,e1,e2,e3,ef,em,c8,c9⟩:=HC.o.atC ln[k] bn;have b2:=(I.cell (p:=⟨bc,oc+ln[k]*4+3,none⟩) b5).trans e3;have b6:=cs.o l[ln[k]] (gm bn);have b0:Hid ((ln.take (k+1)).flatMap (jk l)=(ln.take k).flatMap (jk l)++jk l ln[k]):=by
    show _=_;rw [List.take_succ_eq_append_getElem bl,List.flatMap_append];simp
   clear e0 e1 e2 e3 ef c8 c9 ei b5;rw [<-zay bn]at em b6;obtain ⟨mo,cm,rfl,-⟩:=id em;have cr:=ae em;have e4:=b2;clear em b2;generalize ln[k]=m at*;have b1:=ae (zhg l m);generalize hms:(b9 l m).ba=ms at*;have bw:=ae hms;clear hms;have eo:(0:Int)<=m:=by omega
   have eq:(m:Int)<l.length:=by omega
   have cy:=ae HP.o;obtain ⟨PK,a9⟩:∃PK,PK=(ln.take k).flatMap (jk l):=⟨_,rfl⟩;rw [<-a9]at HP b0 cy;have eg:=ae a9;clear a9;go_wp2_with fail;go_loopw [6,7,36] (fun v u i J=>∃(j:Nat) (ns:List ByteArray) (ts:List cg),j<=ms.length/\i=.int .i64 j/\Hid ((ns,ts)=(PK++(jk l m).take j).foldl ed ([],[]))/\ns.length<=8*k+j/\Hid (ts.length=ns.length)/\Hid (∀s∈ns,s.size<=maxLen)/\
    J.ownsRow w.heap.size 9 1 v ns.length (jx ns)/\J.ownsRow w.heap.size 233 2 u ts.length (ts.flatMap gz)/\Below w.heap.size w J) (fun _ _ i _=>ms.length - (intOf i).toNat)
   case atStart=>exact ⟨0,ns,ts,n0q _,rfl,by show _=_;rw [List.take_zero,List.append_nil];exact HP.o,by omega,G.o,L.o,E,A,I⟩
   case round=>
    clear E A I HP L b7 G an d0 c5 e4
    rename World=>J
    obtain ⟨j,ns,ts,hj,rfl,HP,b7,G,L,E,A,I⟩:=hrel;obtain ⟨a6,c6,rfl⟩:=kh E;obtain ⟨a7,c7,rfl⟩:=kh A;have an:=I.size;by_cases bh:j<ms.length
    ·obtain ⟨bm,om,va,vh,d1,el,q0,q1,q2,q3,q4,q5,q6,q7,q8,sa,sh,d5,e5,e6⟩:=(cr.o.keptM (Kp.below (I.mono hB))).atM j bh;subst d1;obtain ⟨X,Z,rfl,-⟩:=sa;obtain ⟨Y,ch,rfl,-⟩:=sh;have bz:Hid (PK++(jk l m).take (j+1)=(PK++(jk l m).take j)++ [(ms[j].name,⟨m,j⟩)]):=by
      show _=_;have cc:j<(jk l m).length:=by rw [b1.o];exact bh
      rw [List.take_succ_eq_append_getElem cc,List.append_assoc,zhh l m j cc (by rw [bw.o];exact bh)];congr 3;simp [bw.o]
     have W:=ae E;have F:=ae A;have a8:=(I.alloc an (.cells #[.string ms[j].name,.bool ms[j].static,.slice X ms[j].args.length Z,.int .i64 ms[j].ret.kind,.string ms[j].ret.da,.int .i64 ms[j].stack,.int .i64 ms[j].locals,.string ms[j].code,.slice Y ms[j].hands.length ch] 159));have bo:=ae (a8.alloc a8.size (.cells #[.int .i64 m,.int .i64 j] 233));generalize hmj:ms[j]=mj at*;clear hmj a8;have SN:Hid (SL 1 RS (MT w.heap.size [9] ((J.alloc (.cells #[.string mj.name,.bool mj.static,.slice X mj.args.length Z,.int .i64 mj.ret.kind,.string mj.ret.da,.int .i64 mj.stack,.int .i64 mj.locals,.string mj.code,.slice Y mj.hands.length ch] 159)).alloc (.cells #[.int .i64 m,.int .i64 j] 233))) ((J.alloc (.cells #[.string mj.name,.bool mj.static,.slice X mj.args.length Z,.int .i64 mj.ret.kind,.string mj.ret.da,.int .i64 mj.stack,.int .i64 mj.locals,.string mj.code,.slice Y mj.hands.length ch] 159)).alloc (.cells #[.int .i64 m,.int .i64 j] 233)) (.slice a6 ns.length c6) ns):=zha ((E.alloc _).alloc _) L.o (by omega);clear E A;go_wp2_with fail;refine (zfx _ _ _ ns mj.name SN.o).mono ?_;rintro r w1 ⟨rfl,rfl⟩;have dz:=zhf ns mj.name;by_cases al:0<=iw ns mj.name
     ·obtain ⟨D,ad⟩:=Int.eq_ofNat_of_zero_le al;have a3:Hid (ed (ns,ts) (mj.name,⟨m,j⟩)=(ns,ts.set D ⟨m,j⟩)):=by
       show _=_;rw [ed,if_pos al];show (ns,ts.set (iw ns mj.name).toNat _)=_;rw [ad];rfl
      rw [ad]at dz ⊢;clear al ad;obtain ⟨V,dl,d8⟩:∃V,a7=some ⟨V,0,none⟩/\ts.length<=c7:=by
       obtain ⟨h1,h2⟩:=zga F.o;rcases h2 with rfl | ⟨g,rfl⟩
       ·rcases F.o.2 with ⟨e,h0⟩ | ⟨g,_,_,e,_⟩
        ·have:=G.o;omega
        cases e
       exact ⟨g,rfl,h1⟩
      subst dl;have bf:=F.o.lt V rfl;have k0:J.cell? ⟨V,D*2,none⟩=(ts.flatMap gz)[D*2]? :=F.o.cellAt _ (by have:=G.o;omega);have k1:J.cell? ⟨V,D*2+1,none⟩=(ts.flatMap gz)[D*2+1]? :=F.o.cellAt _ (by have:=G.o;omega);have ax:D<ts.length:=by have:=G.o;omega
      have ey:J.cell? ⟨V,D*2,none⟩=some (.int .i64 (ts[D]).da):=by rw [k0];have:=ze3 (n:=2) gz ts D 0 (fun _ _=>rfl) ax (by decide);simpa [gz]using this
      have ez:J.cell? ⟨V,D*2+1,none⟩=some (.int .i64 (ts[D]).meth):=by rw [k1];have:=ze3 (n:=2) gz ts D 1 (fun _ _=>rfl) ax (by decide);simpa [gz]using this
      obtain ⟨aq,be⟩:∃aq,J.heap[V]? =some (.cells aq 233 (0,0)):=by
       rcases F.o.2 with ⟨e,_⟩ | ⟨g,_,c4,e,_,hb,_⟩
       ·cases e
       cases e;exact ⟨c4,hb⟩
      have z0:∀q,J.frozen? ⟨V,q,none⟩=false:=fun q=>by simp [World.frozen?,be]
      have ee:=ae be;have eu:(0:Int)<=D:=by omega
      have ex:(D:Int)<ts.length:=by have:=G.o;omega
      have d6:V<J.heap.size:=bf.2;clear k0 k1 be;go_wp2_with fail;go_roundw
      case rel=>
       have ac:=((((I.setCell (p:=⟨V,D*2,none⟩) bf.1 (.int .i64 m)).setCell (p:=⟨V,D*2+1,none⟩) bf.1 (.int .i64 j)).alloc (by simpa [World.setCell]using an) (.cells #[.string mj.name,.bool mj.static,.slice X mj.args.length Z,.int .i64 mj.ret.kind,.string mj.ret.da,.int .i64 mj.stack,.int .i64 mj.locals,.string mj.code,.slice Y mj.hands.length ch] 159)).alloc (by simp [World.setCell];omega) (.cells #[.int .i64 m,.int .i64 j] 233));refine ⟨j+1,ns,ts.set D ⟨m,j⟩,by omega,by go_num,?_,by omega,by show _=_;have:=G.o;simpa using this,L.o,?_,?_,ac⟩
       ·show _=_;rw [bz.o,zhe,<-HP.o,a3.o]
       ·refine ((W.o.kept (row:=some V) ?_ ?_).alloc _).alloc _
        ·exact mf (mf (World.grownBy.refl _ _) _ _ (Or.inl rfl)) _ _ (Or.inl rfl)
        rcases zg8 W.o F.o (by decide)with h | h
        ·exact Or.inl h
        exact Or.inr h
       have:=zg7 (zg7 F.o (D*2) (.int .i64 m)) (D*2+1) (.int .i64 j);rw [zhc ts D ⟨m,j⟩]at this;rw [List.length_set];exact (this.alloc _).alloc _
      case measure=>simp [intOf];omega
     have a3:Hid (ed (ns,ts) (mj.name,⟨m,j⟩)=(ns++ [mj.name],ts++ [⟨m,j⟩])):=by show _=_;rw [ed,if_neg al]
     have au:=(W.o.alloc (.cells #[.string mj.name,.bool mj.static,.slice X mj.args.length Z,.int .i64 mj.ret.kind,.string mj.ret.da,.int .i64 mj.stack,.int .i64 mj.locals,.string mj.code,.slice Y mj.hands.length ch] 159)).alloc (.cells #[.int .i64 m,.int .i64 j] 233);have av:=(F.o.alloc (.cells #[.string mj.name,.bool mj.static,.slice X mj.args.length Z,.int .i64 mj.ret.kind,.string mj.ret.da,.int .i64 mj.stack,.int .i64 mj.locals,.string mj.code,.slice Y mj.hands.length ch] 159)).alloc (.cells #[.int .i64 m,.int .i64 j] 233);have k0:((J.alloc (.cells #[.string mj.name,.bool mj.static,.slice X mj.args.length Z,.int .i64 mj.ret.kind,.string mj.ret.da,.int .i64 mj.stack,.int .i64 mj.locals,.string mj.code,.slice Y mj.hands.length ch] 159)).alloc (.cells #[.int .i64 m,.int .i64 j] 233)).cell? ⟨J.heap.size,0,none⟩=some (.string mj.name):=by simp [go_sem]
     have kt:((J.alloc (.cells #[.string mj.name,.bool mj.static,.slice X mj.args.length Z,.int .i64 mj.ret.kind,.string mj.ret.da,.int .i64 mj.stack,.int .i64 mj.locals,.string mj.code,.slice Y mj.hands.length ch] 159)).alloc (.cells #[.int .i64 m,.int .i64 j] 233)).heap[J.heap.size+1]? =some (.cells #[.int .i64 m,.int .i64 j] 233 (0,0)):=by have:=heap_alloc_new (J.alloc (.cells #[.string mj.name,.bool mj.static,.slice X mj.args.length Z,.int .i64 mj.ret.kind,.string mj.ret.da,.int .i64 mj.stack,.int .i64 mj.locals,.string mj.code,.slice Y mj.hands.length ch] 159)) (.cells #[.int .i64 m,.int .i64 j] 233);simpa using this
     have d3:J.heap.size+1<((J.alloc (.cells #[.string mj.name,.bool mj.static,.slice X mj.args.length Z,.int .i64 mj.ret.kind,.string mj.ret.da,.int .i64 mj.stack,.int .i64 mj.locals,.string mj.code,.slice Y mj.hands.length ch] 159)).alloc (.cells #[.int .i64 m,.int .i64 j] 233)).heap.size:=by simp
     have a5:=bo.o;generalize ((J.alloc (.cells #[.string mj.name,.bool mj.static,.slice X mj.args.length Z,.int .i64 mj.ret.kind,.string mj.ret.da,.int .i64 mj.stack,.int .i64 mj.locals,.string mj.code,.slice Y mj.hands.length ch] 159)).alloc (.cells #[.int .i64 m,.int .i64 j] 233))=W2 at*;generalize iw ns mj.name=ix at*;have ay:∀q,(Value.slice a6 ns.length c6).ownBlock=some q->w.heap.size<=q/\q<J.heap.size:=fun q e=>W.o.lt q e;have a0:Hid (ns.length+1<=maxLen/\(ns.length+1)*16<=140737488355328/\w.heap.size<=(W2.alloc (.cells #[.string mj.name] 9)).heap.size):=⟨by unfold maxLen;omega,by omega,by have:=a5.size;simp;omega⟩;have cx:=ae au;have c1:=ae av;have ct:=ae kt;have bu:=ae ay;have a2:=ae a5;clear au av kt ay a5 bo SN q0 q1 q2 q3 q4 q5 q6 q7 q8;go_wp2_with (at_builtin;refine wpList_append_lies _ rfl _ _ 225 rfl w.heap.size 9 iS (.string ⟨#[]⟩) 1 16 Tryz.underlying225 ds cf ci cj rfl (by decide) (.slice a6 ns.length c6) ns.length (jx ns) rfl (cx.o.alloc _) ⟨W2.heap.size,0,none⟩ 1 1 [.string mj.name] rfl rfl (World.news_of_block (heap_alloc_new W2 _)) (by intro u hu;simp at hu;subst hu;rfl) (by omega) a0.o.1 a0.o.2.1 a0.o.2.2 _ rfl ?_);intro g6 eh w3 ag N _ ea;have ec:W2.heap.size+1<=w3.heap.size:=by have:=N.size;simpa using this
     have O:w3.heap[J.heap.size+1]? =some (.cells #[.int .i64 m,.int .i64 j] 233 (0,0)):=by rw [N.block (J.heap.size+1) (by simp;omega) (fun e=>by have:=(bu.o _ e.symm).2;omega),Below.heap_alloc _ _ _ d3];exact ct.o
     have b4:=(c1.o.alloc (.cells #[.string mj.name] 9)).kept N (zg8 F.o W.o (by decide));have ac:Below w.heap.size w w3:=(a2.o.alloc a2.o.size _).grown N (by have:=a2.o.size;simp;omega) (fun q e=>(bu.o q e).1);have k3:=aw O 0 (x:=.int .i64 m) rfl;have k4:=aw O 1 (x:=.int .i64 j) rfl;have a1:Hid (ts.length+1<=maxLen/\(ts.length+1)*16<=140737488355328/\w.heap.size<=(w3.alloc (.cells #[.int .i64 m,.int .i64 j] 233)).heap.size):=⟨by have:=G.o;unfold maxLen;omega,by have:=G.o;omega,by have:=ac.size;simp;omega⟩;have a4:=ae b4;have bx:=ae ag;have az:=ae ac;clear ag N O b4 ac k0;go_wp2_with (at_builtin;refine wpList_append_lies _ rfl _ _ 226 rfl w.heap.size 233 iT (.agg #[.int .i64 0,.int .i64 0]) 2 16 Tryz.underlying226 du cn co cp rfl (by decide) (.slice a7 ts.length c7) ts.length (ts.flatMap gz) rfl (a4.o.alloc _) ⟨w3.heap.size,0,none⟩ 1 1 [.int .i64 m,.int .i64 j] rfl rfl (World.news_of_block (heap_alloc_new w3 _)) (by intro u hu;simp at hu;rcases hu with rfl | rfl<;>rfl) (by omega) a1.o.1 a1.o.2.1 a1.o.2.2 _ rfl ?_);intro V ej w4 ai af _ eb;have ak:=(bx.o.alloc (.cells #[.int .i64 m,.int .i64 j] 233)).kept af (zg8 bx.o a4.o (by decide));have aj:Below w.heap.size w w4:=(az.o.alloc az.o.size _).grown af (by have:=az.o.size;simp;omega) (fun q e=>(a4.o.lt q e).1);have bs:=ae (And.intro ak (And.intro ai aj));clear ai af ak aj k3 k4;go_wp2_with fail;go_roundw
     case rel=>
      obtain ⟨ak,dd,aj⟩:=bs.o;refine ⟨j+1,ns++ [mj.name],ts++ [⟨m,j⟩],by omega,by go_num,?_,by simp;omega,by show _=_;have:=G.o;simp;omega,?_,?_,?_,aj⟩
      ·show _=_;rw [bz.o,zhe,<-HP.o,a3.o]
      ·show ∀s∈_,_;intro s hs;rcases List.mem_append.1 hs with hs | hs
       ·exact L.o s hs
       rw [List.mem_singleton]at hs;rw [hs];exact d5
      ·rw [List.length_append,show jx (ns++ [mj.name])=jx ns++ [.string mj.name] by simp [jx]];exact ak
      rw [List.length_append,List.flatMap_append];exact dd
     case measure=>simp [intOf];omega
    have HX:Hid ((ns,ts)=((ln.take (k+1)).flatMap (jk l)).foldl ed ([],[])):=by show _=_;rw [b0.o,HP.o,List.take_of_length_le (by rw [b1.o];omega)]
    have cv:=ae E;have c2:=ae A;clear E A;go_wp2_with fail;go_roundw
    case rel=>exact ⟨k+1,ns,ts,by omega,by go_num,HX.o,by omega,G.o,L.o,cv.o,c2.o,I⟩
    case measure=>simp [intOf];omega
  have HX:Hid (jh l n=(ns,ts)):=by show _=_;rw [c3.o,HP.o,List.take_of_length_le (by omega)]
  have SN:=ae (zha E L.o (by omega));have ST:=ae (zhb A (by have:=G.o;omega));clear E A;go_wp2_with fail
  go_ret2
  exact ⟨I,_,_,rfl,by rw [d9,HX.o];exact SN.o,by rw [d7,HX.o];exact ST.o⟩
theorem jm.stp {α:Type} {n:Nat} {R:(Nat->Prop)->World->List Value->α->Prop} {B:Nat} {T:List Nat} {w w':World} {A:List Value} {x:List α} (h:jm n R (MT B T w) w A x) (E:Stp B T w w') (D:∀M M' w w' A x,R M w A x->R M' w' A x):jm n R (MT B T w') w' A x:=by obtain ⟨v,e,h⟩:=h;exact ⟨v,e,(h.kept E.kp fun _ _ h=>D _ _ _ _ _ _ h).mono (fun _ F=>F.step E) fun _ _ h=>D _ _ _ _ _ _ h⟩
theorem kv {w w':World} {B:Nat} {e A n:Nat} {v:Value} {xs:List Value} (h:w.ownsRow B e A v n xs) (D:Below w.heap.size w w'):w'.ownsRow B e A v n xs:=
 h.kept (row:=none) ⟨D.os,D.tape,D.output,D.size,fun k E _=>D.block k E⟩ (by cases v.ownBlock<;>simp)
structure Wv (w0 W:World) (l:List ap) (vC vS vF vN vT vL:Value) (zF:List (List Value×List bg)) (zN:List (List Value×List ByteArray)) (zT:List (List Value×List cg)) (zL:List (List Value×List Nat)):Prop where
 below:Below w0.heap.size w0 W
 blk:W.heap[w0.heap.size+1]? =some (.cells #[vC,vS,vF,vN,vT,.map (some w0.heap.size),vL] 155 (0,0))
 sS:SL 1 RI (MT w0.heap.size [3] W) W vS ((List.range l.length).map (df l))
 nm:gu W w0.heap.size l
 oF:W.ownsRow (w0.heap.size+2) 126 1 vF zF.length (zF.flatMap (·.1))
 aF:∀z∈zF,z.1.length=1/\jm 3 RF (MT w0.heap.size [125] W) W z.1 z.2
 oN:W.ownsRow (w0.heap.size+2) 225 1 vN zN.length (zN.flatMap (·.1))
 aN:∀z∈zN,z.1.length=1/\jm 1 RS (MT w0.heap.size [9] W) W z.1 z.2
 oT:W.ownsRow (w0.heap.size+2) 226 1 vT zT.length (zT.flatMap (·.1))
 aT:∀z∈zT,z.1.length=1/\jm 2 RT (MT w0.heap.size [233] W) W z.1 z.2
 oL:W.ownsRow (w0.heap.size+2) 22 1 vL zL.length (zL.flatMap (·.1))
 aL:∀z∈zL,z.1.length=1/\jm 1 RO (MT w0.heap.size [3] W) W z.1 z.2
theorem Wv.lt {A W:World} {l:List ap} {D I E G J F:Value} {L:List (List Value×List bg)} {O:List (List Value×List ByteArray)} {V:List (List Value×List cg)} {N:List (List Value×List Nat)} (h:Wv A W l D I E G J F L O V N):A.heap.size+1<W.heap.size:=bk h.blk
theorem Wv.grow {O W:World} {l:List ap} {F L G J N I:Value} {V:List (List Value×List bg)} {Y:List (List Value×List ByteArray)} {Z:List (List Value×List cg)} {X:List (List Value×List Nat)} {E:World} (h:Wv O W l F L G J N I V Y Z X) (A:Below W.heap.size W E):Wv O E l F L G J N I V Y Z X:=
 ⟨h.below.trans (A.mono h.below.size),(A.block _ h.lt).trans h.blk,(h.sS.keptI (Stp.below A).kp).monoI fun _ hk=>hk.step (Stp.below A),h.nm.below A h.nm.lt,
  kv h.oF A,(fun z D=>⟨(h.aF z D).1,(h.aF z D).2.stp (Stp.below A) fun _ _ _ _ _ _ h=>h⟩),kv h.oN A,(fun z D=>⟨(h.aN z D).1,(h.aN z D).2.stp (Stp.below A) fun _ _ _ _ _ _ h=>h⟩),kv h.oT A,(fun z D=>⟨(h.aT z D).1,(h.aT z D).2.stp (Stp.below A) fun _ _ _ _ _ _ h=>h⟩),kv h.oL A,(fun z D=>⟨(h.aL z D).1,(h.aL z D).2.stp (Stp.below A) fun _ _ _ _ _ _ h=>h⟩)⟩
theorem Wv.cell {A W:World} {l:List ap} {D I E G J F:Value} {N:List (List Value×List bg)} {V:List (List Value×List ByteArray)} {X:List (List Value×List cg)} {O:List (List Value×List Nat)} (h:Wv A W l D I E G J F N V X O) (j:Nat) {x:Value} (L:(#[D,I,E,G,J,.map (some A.heap.size),F]:Array Value)[j]? =some x):W.cell? ⟨A.heap.size+1,j,none⟩=some x:=aw h.blk j L
theorem Wv.addF {D W:World} {l:List ap} {Y vS L vN vT Z:Value} {N:List (List Value×List bg)} {zN:List (List Value×List ByteArray)} {zT:List (List Value×List cg)} {zL:List (List Value×List Nat)} (h:Wv D W l Y vS L vN vT Z N zN zT zL) {u:Value} {x:List bg} (hu:SL 3 RF (MT D.heap.size [125] W) W u x) {I:World} {G:Value}
 (ho:I.ownsRow (D.heap.size+2) 126 1 G (N.length+1) (N.flatMap (·.1)++ [u])) (E:(W.alloc (.cells #[u] 126)).grownBy I L.ownBlock):
 Wv D (I.setCell ⟨D.heap.size+1,2,none⟩ G) l Y vS G vN vT Z (N++ [([u],x)]) zN zT zL:=by
 have V:=h.lt;have F:∀q,L.ownBlock=some q->D.heap.size+2<=q/\q<W.heap.size:=fun q e=>h.oF.lt q e;have J:I.heap[D.heap.size+1]? =some (.cells #[Y,vS,L,vN,vT,.map (some D.heap.size),Z] 155 (0,0)):=by rw [E.block (D.heap.size+1) (by simp;omega) (fun e=>by have:=(F _ e.symm).1;omega),Below.heap_alloc _ _ _ V];exact h.blk
 have hst:∀t,t∉ [126,155]->Stp D.heap.size [t] W (I.setCell ⟨D.heap.size+1,2,none⟩ G):=fun t ht=>
  (((Stp.refl _ _ _).alloc _).trans (Stp.row E (h.oF.alloc _) (fun e=>ht (by simp at e;simp [e])))).trans (Stp.set J (fun e=>ht (by simp at e;simp [<-e])) 2 G)
 have O:Below D.heap.size D I:=(h.below.alloc h.below.size _).grown E (by have:=h.below.size;simp;omega) (fun q e=>by have:=(F q e).1;omega);refine ⟨O.setCell (by simp) _,mu J G,?_,?_,?_,?_,?_,?_,?_,?_,?_,?_⟩
 ·exact (h.sS.keptI (hst _ (by decide)).kp).monoI fun _ hk=>hk.step (hst _ (by decide))
 ·have X:=(h.nm.kept (row:=none) (World.grownBy_alloc W _ _) (by simp)).kept E (fun e=>by have:=(F _ e.symm).1;omega);exact X.kept (row:=some (D.heap.size+1)) (mf (World.grownBy.refl _ _) _ _ (Or.inl rfl)) (by simp)
 ·rw [List.length_append,ze7];exact ownsRow_setCell_below ho (by simp) _
 ·intro z A;rcases List.mem_append.1 A with A | A
  ·exact ⟨(h.aF z A).1,(h.aF z A).2.stp (hst _ (by decide)) fun _ _ _ _ _ _ h=>h⟩
  rw [List.mem_singleton]at A;subst A;exact ⟨rfl,jm.stp ⟨u,rfl,hu⟩ (hst _ (by decide)) fun _ _ _ _ _ _ h=>h⟩
 ·exact ownsRow_setCell_below ((h.oN.alloc _).kept E (zg8 h.oN h.oF (by decide))) (by simp) _
 ·exact fun z A=>⟨(h.aN z A).1,(h.aN z A).2.stp (hst _ (by decide)) fun _ _ _ _ _ _ h=>h⟩
 ·exact ownsRow_setCell_below ((h.oT.alloc _).kept E (zg8 h.oT h.oF (by decide))) (by simp) _
 ·exact fun z A=>⟨(h.aT z A).1,(h.aT z A).2.stp (hst _ (by decide)) fun _ _ _ _ _ _ h=>h⟩
 ·exact ownsRow_setCell_below ((h.oL.alloc _).kept E (zg8 h.oL h.oF (by decide))) (by simp) _
 exact fun z A=>⟨(h.aL z A).1,(h.aL z A).2.stp (hst _ (by decide)) fun _ _ _ _ _ _ h=>h⟩
theorem Wv.addN {D W:World} {l:List ap} {Y vS Z L vT vL:Value} {zF:List (List Value×List bg)} {N:List (List Value×List ByteArray)} {zT:List (List Value×List cg)} {zL:List (List Value×List Nat)} (h:Wv D W l Y vS Z L vT vL zF N zT zL) {u:Value} {x:List ByteArray} (hu:SL 1 RS (MT D.heap.size [9] W) W u x) {I:World} {G:Value}
 (ho:I.ownsRow (D.heap.size+2) 225 1 G (N.length+1) (N.flatMap (·.1)++ [u])) (E:(W.alloc (.cells #[u] 225)).grownBy I L.ownBlock):
 Wv D (I.setCell ⟨D.heap.size+1,3,none⟩ G) l Y vS Z G vT vL zF (N++ [([u],x)]) zT zL:=by
 have V:=h.lt;have F:∀q,L.ownBlock=some q->D.heap.size+2<=q/\q<W.heap.size:=fun q e=>h.oN.lt q e;have J:I.heap[D.heap.size+1]? =some (.cells #[Y,vS,Z,L,vT,.map (some D.heap.size),vL] 155 (0,0)):=by rw [E.block (D.heap.size+1) (by simp;omega) (fun e=>by have:=(F _ e.symm).1;omega),Below.heap_alloc _ _ _ V];exact h.blk
 have hst:∀t,t∉ [225,155]->Stp D.heap.size [t] W (I.setCell ⟨D.heap.size+1,3,none⟩ G):=fun t ht=>
  (((Stp.refl _ _ _).alloc _).trans (Stp.row E (h.oN.alloc _) (fun e=>ht (by simp at e;simp [e])))).trans (Stp.set J (fun e=>ht (by simp at e;simp [<-e])) 3 G)
 have O:Below D.heap.size D I:=(h.below.alloc h.below.size _).grown E (by have:=h.below.size;simp;omega) (fun q e=>by have:=(F q e).1;omega);refine ⟨O.setCell (by simp) _,mu J G,?_,?_,?_,?_,?_,?_,?_,?_,?_,?_⟩
 ·exact (h.sS.keptI (hst _ (by decide)).kp).monoI fun _ hk=>hk.step (hst _ (by decide))
 ·have X:=(h.nm.kept (row:=none) (World.grownBy_alloc W _ _) (by simp)).kept E (fun e=>by have:=(F _ e.symm).1;omega);exact X.kept (row:=some (D.heap.size+1)) (mf (World.grownBy.refl _ _) _ _ (Or.inl rfl)) (by simp)
 ·exact ownsRow_setCell_below ((h.oF.alloc _).kept E (zg8 h.oF h.oN (by decide))) (by simp) _
 ·exact fun z A=>⟨(h.aF z A).1,(h.aF z A).2.stp (hst _ (by decide)) fun _ _ _ _ _ _ h=>h⟩
 ·rw [List.length_append,ze7];exact ownsRow_setCell_below ho (by simp) _
 ·intro z A;rcases List.mem_append.1 A with A | A
  ·exact ⟨(h.aN z A).1,(h.aN z A).2.stp (hst _ (by decide)) fun _ _ _ _ _ _ h=>h⟩
  rw [List.mem_singleton]at A;subst A;exact ⟨rfl,jm.stp ⟨u,rfl,hu⟩ (hst _ (by decide)) fun _ _ _ _ _ _ h=>h⟩
 ·exact ownsRow_setCell_below ((h.oT.alloc _).kept E (zg8 h.oT h.oN (by decide))) (by simp) _
 ·exact fun z A=>⟨(h.aT z A).1,(h.aT z A).2.stp (hst _ (by decide)) fun _ _ _ _ _ _ h=>h⟩
 ·exact ownsRow_setCell_below ((h.oL.alloc _).kept E (zg8 h.oL h.oN (by decide))) (by simp) _
 exact fun z A=>⟨(h.aL z A).1,(h.aL z A).2.stp (hst _ (by decide)) fun _ _ _ _ _ _ h=>h⟩
theorem Wv.addT {D W:World} {l:List ap} {Y vS Z vN L vL:Value} {zF:List (List Value×List bg)} {zN:List (List Value×List ByteArray)} {N:List (List Value×List cg)} {zL:List (List Value×List Nat)} (h:Wv D W l Y vS Z vN L vL zF zN N zL) {u:Value} {x:List cg} (hu:SL 2 RT (MT D.heap.size [233] W) W u x) {I:World} {G:Value}
 (ho:I.ownsRow (D.heap.size+2) 226 1 G (N.length+1) (N.flatMap (·.1)++ [u])) (E:(W.alloc (.cells #[u] 226)).grownBy I L.ownBlock):
 Wv D (I.setCell ⟨D.heap.size+1,4,none⟩ G) l Y vS Z vN G vL zF zN (N++ [([u],x)]) zL:=by
 have V:=h.lt;have F:∀q,L.ownBlock=some q->D.heap.size+2<=q/\q<W.heap.size:=fun q e=>h.oT.lt q e;have J:I.heap[D.heap.size+1]? =some (.cells #[Y,vS,Z,vN,L,.map (some D.heap.size),vL] 155 (0,0)):=by rw [E.block (D.heap.size+1) (by simp;omega) (fun e=>by have:=(F _ e.symm).1;omega),Below.heap_alloc _ _ _ V];exact h.blk
 have hst:∀t,t∉ [226,155]->Stp D.heap.size [t] W (I.setCell ⟨D.heap.size+1,4,none⟩ G):=fun t ht=>
  (((Stp.refl _ _ _).alloc _).trans (Stp.row E (h.oT.alloc _) (fun e=>ht (by simp at e;simp [e])))).trans (Stp.set J (fun e=>ht (by simp at e;simp [<-e])) 4 G)
 have O:Below D.heap.size D I:=(h.below.alloc h.below.size _).grown E (by have:=h.below.size;simp;omega) (fun q e=>by have:=(F q e).1;omega);refine ⟨O.setCell (by simp) _,mu J G,?_,?_,?_,?_,?_,?_,?_,?_,?_,?_⟩
 ·exact (h.sS.keptI (hst _ (by decide)).kp).monoI fun _ hk=>hk.step (hst _ (by decide))
 ·have X:=(h.nm.kept (row:=none) (World.grownBy_alloc W _ _) (by simp)).kept E (fun e=>by have:=(F _ e.symm).1;omega);exact X.kept (row:=some (D.heap.size+1)) (mf (World.grownBy.refl _ _) _ _ (Or.inl rfl)) (by simp)
 ·exact ownsRow_setCell_below ((h.oF.alloc _).kept E (zg8 h.oF h.oT (by decide))) (by simp) _
 ·exact fun z A=>⟨(h.aF z A).1,(h.aF z A).2.stp (hst _ (by decide)) fun _ _ _ _ _ _ h=>h⟩
 ·exact ownsRow_setCell_below ((h.oN.alloc _).kept E (zg8 h.oN h.oT (by decide))) (by simp) _
 ·exact fun z A=>⟨(h.aN z A).1,(h.aN z A).2.stp (hst _ (by decide)) fun _ _ _ _ _ _ h=>h⟩
 ·rw [List.length_append,ze7];exact ownsRow_setCell_below ho (by simp) _
 ·intro z A;rcases List.mem_append.1 A with A | A
  ·exact ⟨(h.aT z A).1,(h.aT z A).2.stp (hst _ (by decide)) fun _ _ _ _ _ _ h=>h⟩
  rw [List.mem_singleton]at A;subst A;exact ⟨rfl,jm.stp ⟨u,rfl,hu⟩ (hst _ (by decide)) fun _ _ _ _ _ _ h=>h⟩
 ·exact ownsRow_setCell_below ((h.oL.alloc _).kept E (zg8 h.oL h.oT (by decide))) (by simp) _
 exact fun z A=>⟨(h.aL z A).1,(h.aL z A).2.stp (hst _ (by decide)) fun _ _ _ _ _ _ h=>h⟩
theorem Wv.addL {D W:World} {l:List ap} {Y vS Z vN vT L:Value} {zF:List (List Value×List bg)} {zN:List (List Value×List ByteArray)} {zT:List (List Value×List cg)} {N:List (List Value×List Nat)} (h:Wv D W l Y vS Z vN vT L zF zN zT N) {u:Value} {x:List Nat} (hu:SL 1 RO (MT D.heap.size [3] W) W u x) {I:World} {G:Value}
 (ho:I.ownsRow (D.heap.size+2) 22 1 G (N.length+1) (N.flatMap (·.1)++ [u])) (E:(W.alloc (.cells #[u] 22)).grownBy I L.ownBlock):
 Wv D (I.setCell ⟨D.heap.size+1,6,none⟩ G) l Y vS Z vN vT G zF zN zT (N++ [([u],x)]):=by
 have V:=h.lt;have F:∀q,L.ownBlock=some q->D.heap.size+2<=q/\q<W.heap.size:=fun q e=>h.oL.lt q e;have J:I.heap[D.heap.size+1]? =some (.cells #[Y,vS,Z,vN,vT,.map (some D.heap.size),L] 155 (0,0)):=by rw [E.block (D.heap.size+1) (by simp;omega) (fun e=>by have:=(F _ e.symm).1;omega),Below.heap_alloc _ _ _ V];exact h.blk
 have hst:∀t,t∉ [22,155]->Stp D.heap.size [t] W (I.setCell ⟨D.heap.size+1,6,none⟩ G):=fun t ht=>
  (((Stp.refl _ _ _).alloc _).trans (Stp.row E (h.oL.alloc _) (fun e=>ht (by simp at e;simp [e])))).trans (Stp.set J (fun e=>ht (by simp at e;simp [<-e])) 6 G)
 have O:Below D.heap.size D I:=(h.below.alloc h.below.size _).grown E (by have:=h.below.size;simp;omega) (fun q e=>by have:=(F q e).1;omega);refine ⟨O.setCell (by simp) _,mu J G,?_,?_,?_,?_,?_,?_,?_,?_,?_,?_⟩
 ·exact (h.sS.keptI (hst _ (by decide)).kp).monoI fun _ hk=>hk.step (hst _ (by decide))
 ·have X:=(h.nm.kept (row:=none) (World.grownBy_alloc W _ _) (by simp)).kept E (fun e=>by have:=(F _ e.symm).1;omega);exact X.kept (row:=some (D.heap.size+1)) (mf (World.grownBy.refl _ _) _ _ (Or.inl rfl)) (by simp)
 ·exact ownsRow_setCell_below ((h.oF.alloc _).kept E (zg8 h.oF h.oL (by decide))) (by simp) _
 ·exact fun z A=>⟨(h.aF z A).1,(h.aF z A).2.stp (hst _ (by decide)) fun _ _ _ _ _ _ h=>h⟩
 ·exact ownsRow_setCell_below ((h.oN.alloc _).kept E (zg8 h.oN h.oL (by decide))) (by simp) _
 ·exact fun z A=>⟨(h.aN z A).1,(h.aN z A).2.stp (hst _ (by decide)) fun _ _ _ _ _ _ h=>h⟩
 ·exact ownsRow_setCell_below ((h.oT.alloc _).kept E (zg8 h.oT h.oL (by decide))) (by simp) _
 ·exact fun z A=>⟨(h.aT z A).1,(h.aT z A).2.stp (hst _ (by decide)) fun _ _ _ _ _ _ h=>h⟩
 ·rw [List.length_append,ze7];exact ownsRow_setCell_below ho (by simp) _
 intro z A;rcases List.mem_append.1 A with A | A
 ·exact ⟨(h.aL z A).1,(h.aL z A).2.stp (hst _ (by decide)) fun _ _ _ _ _ _ h=>h⟩
 rw [List.mem_singleton]at A;subst A;exact ⟨rfl,jm.stp ⟨u,rfl,hu⟩ (hst _ (by decide)) fun _ _ _ _ _ _ h=>h⟩
theorem Wv.rowsF {A W:World} {l:List ap} {L V G O X N:Value} {D:List (List Value×List bg)} {Z:List (List Value×List ByteArray)} {zT:List (List Value×List cg)} {Y:List (List Value×List Nat)} (h:Wv A W l L V G O X N D Z zT Y) (hl:D.length<=1000):SL 1 (jm 3 RF) (MT A.heap.size [125,126] W) W G (D.map (·.2)):=
 ze4 (n:=1) (R:=jm 3 RF) (T:=[125,126]) (zbi h.oF (B':=A.heap.size) (by omega)) (fun z F=>⟨(h.aF z F).1,by
  obtain ⟨v,e,J⟩:=(h.aF z F).2;exact ⟨v,e,J.mono (fun _ I=>I.more (nlq _) (fun _ E=>by simp at E;simp [E])) fun _ _ h=>h⟩⟩) (by simp) (by unfold maxLen;omega)
theorem Wv.rowsN {A W:World} {l:List ap} {L V N G X O:Value} {Y:List (List Value×List bg)} {D:List (List Value×List ByteArray)} {zT:List (List Value×List cg)} {Z:List (List Value×List Nat)} (h:Wv A W l L V N G X O Y D zT Z) (hl:D.length<=1000):SL 1 (jm 1 RS) (MT A.heap.size [9,225] W) W G (D.map (·.2)):=
 ze4 (n:=1) (R:=jm 1 RS) (T:=[9,225]) (zbi h.oN (B':=A.heap.size) (by omega)) (fun z F=>⟨(h.aN z F).1,by
  obtain ⟨v,e,J⟩:=(h.aN z F).2;exact ⟨v,e,J.mono (fun _ I=>I.more (nlq _) (fun _ E=>by simp at E;simp [E])) fun _ _ h=>h⟩⟩) (by simp) (by unfold maxLen;omega)
theorem Wv.rowsT {A W:World} {l:List ap} {L X N V G O:Value} {Y:List (List Value×List bg)} {zN:List (List Value×List ByteArray)} {D:List (List Value×List cg)} {Z:List (List Value×List Nat)} (h:Wv A W l L X N V G O Y zN D Z) (hl:D.length<=1000):SL 1 (jm 2 RT) (MT A.heap.size [233,226] W) W G (D.map (·.2)):=
 ze4 (n:=1) (R:=jm 2 RT) (T:=[233,226]) (zbi h.oT (B':=A.heap.size) (by omega)) (fun z F=>⟨(h.aT z F).1,by
  obtain ⟨v,e,J⟩:=(h.aT z F).2;exact ⟨v,e,J.mono (fun _ I=>I.more (nlq _) (fun _ E=>by simp at E;simp [E])) fun _ _ h=>h⟩⟩) (by simp) (by unfold maxLen;omega)
theorem Wv.rowsL {A W:World} {l:List ap} {L V N O X G:Value} {Y:List (List Value×List bg)} {Z:List (List Value×List ByteArray)} {zT:List (List Value×List cg)} {D:List (List Value×List Nat)} (h:Wv A W l L V N O X G Y Z zT D) (hl:D.length<=1000):SL 1 (jm 1 RO) (MT A.heap.size [3,22] W) W G (D.map (·.2)):=
 ze4 (n:=1) (R:=jm 1 RO) (T:=[3,22]) (zbi h.oL (B':=A.heap.size) (by omega)) (fun z F=>⟨(h.aL z F).1,by
  obtain ⟨v,e,J⟩:=(h.aL z F).2;exact ⟨v,e,J.mono (fun _ I=>I.more (nlq _) (fun _ E=>by simp at E;simp [E])) fun _ _ h=>h⟩⟩) (by simp) (by unfold maxLen;omega)
end Go.Proofs.YtjdnmblggdobgaaGreat
namespace Go.Proofs.YtjdnmblggdobgaaGreat
open Go.RowKit
def meth0:dx:=⟨⟨#[]⟩,false,[],⟨0,⟨#[]⟩⟩,0,0,⟨#[]⟩,[]⟩
def kz (l:List ap) (t:cg):dx:=((b9 l t.da.toNat).ba[t.meth.toNat]?).getD meth0
def okT (l:List ap) (t:cg):Prop:=∃c j:Nat,t=⟨c,j⟩/\c<l.length/\j<(b9 l c).ba.length
def jr (l:List ap) (n:Nat) (m:dx):Bool:=
 if iw (d9 l n) m.name<0 then true else
  match (d7 l n)[(iw (d9 l n) m.name).toNat]? with
  | none=>true
  | some t=>!m.static&& !(kz l t).static&&dv m.ret (kz l t).ret&&cz dv m.args (kz l t).args
def ki (l:List ap):Bool:=(List.range l.length).all fun i=>decide ((b9 l i).bo=(⟨#[]⟩:ByteArray))||(b9 l i).ba.all (jr l (df l i).toNat)
theorem ziz (l:List ap) (P:List (ByteArray×cg)):∀A:List ByteArray×List cg,(∀t∈A.2,okT l t)->(∀x∈P,okT l x.2)->∀t∈(P.foldl ed A).2,okT l t:=by
 induction P with
 | nil=>exact fun A h _=>h
 | cons x P ih=>
   intro A h E;refine ih (ed A x) ?_ fun y G=>E y (List.mem_cons_of_mem _ G);have F:=E x (List.mem_cons_self ..);unfold ed;split
   ·intro t D;rcases List.mem_or_eq_of_mem_set D with h1 | h1
    ·exact h t h1
    rw [h1];exact F
   intro t D;rcases List.mem_append.1 D with h1 | h1
   ·exact h t h1
   rw [List.mem_singleton.1 h1];exact F
theorem zi0 {l:List ap} {n:Nat} (E:n<l.length):∀t∈d7 l n,okT l t:=by refine ziz l _ ([],[]) (fun t h=>by cases h) fun x A=>?_;obtain ⟨k,D,A⟩:=List.mem_flatMap.1 A;obtain ⟨p,F,rfl⟩:=List.mem_map.1 A;refine ⟨k,p.2,rfl,zgy E k D,?_⟩;have:=List.mem_zipIdx F;omega
theorem zi1 (l:List ap) (n:Nat):(d9 l n).length=(d7 l n).length:=zhd _ ([],[]) rfl
theorem zi2 {l:List ap} {c j:Nat} (h:j<(b9 l c).ba.length):kz l ⟨c,j⟩=(b9 l c).ba[j]:=by simp [kz,h]
theorem zi3 {l:List ap} {n:Nat} {m:dx} (h:iw (d9 l n) m.name<0):jr l n m=true:=if_pos h
theorem zi4 {l:List ap} {n k c j:Nat} {m:dx} (h:iw (d9 l n) m.name=k) (D:k<(d7 l n).length) (E:(d7 l n)[k]=⟨c,j⟩) (A:j<(b9 l c).ba.length):
 jr l n m=(!m.static&& !(b9 l c).ba[j].static&&dv m.ret (b9 l c).ba[j].ret&&cz dv m.args (b9 l c).ba[j].args):=by
 rw [jr,h,if_neg (by omega),Int.toNat_natCast,List.getElem?_eq_getElem D,E];show (!m.static&& !(kz l ⟨c,j⟩).static&&dv m.ret (kz l ⟨c,j⟩).ret&&cz dv m.args (kz l ⟨c,j⟩).args)=_;rw [zi2 A]
end Go.Proofs.YtjdnmblggdobgaaGreat
