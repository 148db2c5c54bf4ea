import Derived.Test.YtjdnmblggdobgaaGreatJLLineLLn
import Derived.Deep.AppendSrc
import Derived.Test.YtjdnmblggdobgaaGreatJPlainFine
import Derived.Test.YtjdnmblggdobgaaGreatJLErrLRf4
set_option maxHeartbeats 8000000
set_option maxRecDepth 100000
namespace Go.Proofs.YtjdnmblggdobgaaGreat
open Go Go.RowKit
theorem zf8 {P:Program} (w:World) (t F e:TypeId) (i:TypeInfo) (D:P.underlying t=some (.slice e)) (hi:P.info? e=some i) (a:Option Addr) (n c:Nat) (I:n<=c) (G:a=none\/∃g,a=some ⟨g,0,none⟩) (x:Option Addr) (A:Nat):
 (Builtin.append_ #[t,t] F #[.slice a n c,.slice x 0 A]).run P w=.ok (.slice a n c) w:=by
 have E:Src P i.size t (.slice x 0 A) 0 [] w:=by
  cases x with
  | none=>exact Src.ofNil w D A
  | some ad=>exact Src.ofSlice w D ad 0 A [] (by simp) (fun j u h=>by simp at h) (fun u h=>by cases h)
 rcases G with rfl | ⟨g,rfl⟩
 ·simp [Builtin.append_,run_underlying D,sizeOf,typeInfo,hi,E.len,I,E.cells]
 have:=run_append_room_src w t t F e i D hi g 0 n c (.slice x 0 A) 0 [] E (by omega) (fun j h=>by cases h) (fun j h=>by cases h);rw [this];rfl
theorem zf9 {P:Program} (w:World) {ops:Array Oper} {rest:List Oper} {o:Oper} {a:Act} {Q:Exit->Act->World->Prop} (A:o.guard=none) (s x:Operand) (t:TypeId)
 (J:o.op=.call { callee:=.builtin .append,args:=#[s,x],argTypes:=#[t,t] }) (e:TypeId) (i:TypeInfo) (O:P.underlying t=some (.slice e)) (hi:P.info? e=some i)
 (u:Option Addr) (n c:Nat) (N:a.eval s=.slice u n c) (I:n<=c) (G:u=none\/∃g,u=some ⟨g,0,none⟩) (E:Option Addr) (D:Nat) (V:a.eval x=.slice E 0 D)
 (h:wpList P ops Q rest (a.put o.dst (.slice u n c)) w):wpList P ops Q (o::rest) a w:=by
 refine wpList_plain A fun K F=>?_;have L:=zf8 (P:=P) w t o.type e i O hi u n c I G E D;unfold Oper.wp execOp;simp only [J,resolve,invoke,builtin,Sem.run_bind,Sem.run_pure,Result.andThen_ok,List.map_toArray,List.map_cons,List.map_nil,N,V,L];exact F _ _ h
theorem zga {w:World} {B e n len:Nat} {a:Option Addr} {c:Nat} {xs:List Value} (h:w.ownsRow B e n (.slice a len c) len xs):len<=c/\(a=none\/∃g,a=some ⟨g,0,none⟩):=by
 rcases h.2 with ⟨e,h0⟩ | ⟨g,cap,u,e,_,_,hc,_⟩
 ·exact ⟨by omega,Or.inl (Value.slice.inj e).1⟩
 obtain ⟨A,_,D⟩:=Value.slice.inj e;exact ⟨by omega,Or.inr ⟨g,A⟩⟩
end Go.Proofs.YtjdnmblggdobgaaGreat
namespace Go.Proofs.YtjdnmblggdobgaaGreat
open Go.RowKit Go.Sort
theorem Tryz.infoField:(Tryz.prog.info? 125).map (fun i=>(i.zero,i.size,i.bytes))=some (some (.agg #[.string ⟨#[]⟩,.int .i64 0,.string ⟨#[]⟩]),3,40):=by kernel_rfl
theorem zgw (l:List am):∀(f:Nat) (m:Int),m<l.length->∀k∈fy l f m,k<l.length
 | 0,_,_,k,u=>by cases u
 | f+1,m,hm,k,u=>by
   unfold fy at u;split at u
   ·rcases List.mem_cons.1 u with rfl | u
    ·omega
    exact zgw l f _ (zf4 l _).2 k u
   cases u
theorem zgx (l:List am):∀(f:Nat) (m:Int),(fy l f m).length<=f
 | 0,_=>by simp [fy]
 | f+1,m=>by
   unfold fy;split
   ·have:=zgx l f (dj l m.toNat);simp;omega
   simp
theorem zgy {l:List am} {n:Nat} (A:n<l.length):∀k∈di l n,k<l.length:=fun k u=>zgw l _ n (by omega) k (by simpa [di]using u)
theorem zgz (l:List am) (n:Nat):(di l n).length<=l.length+1:=by rw [di,List.length_reverse];exact zgx l _ _
def ib (f:bo):List Value:=[.string f.name,.int .i64 f.kind.kind,.string f.kind.da]
theorem zg1 (b off j:Nat):(⟨b,off,none⟩:Addr).add j=⟨b,off+j,none⟩:=by unfold Addr.add;split<;>simp_all
theorem zg2 {α:Type} {n:Nat} {R:(Nat->Prop)->World->List Value->α->Prop} {M:Nat->Prop} {w:World} {b off len cap:Nat} {l:List α} (f:α->List Value) (X:0<n) (I:∀x∈l,(f x).length=n) (L:∀F x,R M w F x->F=f x)
 (h:SL n R M w (.slice (some ⟨b,off,none⟩) len cap) l):∀j u,(l.flatMap f)[j]? =some u->w.cell? ((⟨b,off,none⟩:Addr).add j)=some u:=by
 intro j u E;have D:(l.flatMap f).length=l.length*n:=by
  clear h L E;induction l with
  | nil=>simp
  | cons x l ih=>
    rw [List.flatMap_cons,List.length_append,ih (fun y Y=>I y (by simp [Y])),I x (by simp),List.length_cons,Nat.add_mul];omega
 have W:j<l.length*n:=by rw [<-D];exact (List.getElem?_eq_some_iff.1 E).1
 have N:j / n<l.length:=Nat.div_lt_of_lt_mul (by rw [Nat.mul_comm];exact W);have O:j % n<n:=Nat.mod_lt _ X;have A:j / n*n+j % n=j:=by rw [Nat.mul_comm];exact Nat.div_add_mod j n
 obtain ⟨Z,V,F,e,_,_,_,hc,J⟩:=h.at (j / n) N;cases e;have G:=L _ _ J;rw [<-A,ze3 f l (j / n) (j % n) I N O]at E;have:=hc (j % n) O;rw [G,E]at this;rw [zg1,<-A,<-Nat.add_assoc];exact this
theorem zg3 {l:List bo} :(l.flatMap ib).length=l.length*3:=by
 induction l with
 | nil=>rfl
 | cons x l ih=>rw [List.flatMap_cons,List.length_append,ih,List.length_cons];simp [ib];omega
theorem zg4 (l:List bo):∀u∈l.flatMap ib,u.oneCell'=true:=by intro u A;obtain ⟨f,_,A⟩:=List.mem_flatMap.1 A;simp [ib]at A;rcases A with rfl | rfl | rfl<;>rfl
theorem zg5 (w:World) (B b:Nat) (l:List am) (n:Nat) (hn:n<l.length) (ao:Option Addr) (cl:Nat) (c0:w.cell? ⟨b,0,none⟩=some (.slice ao l.length cl)) (sC:SL 4 RC (· <B) w (.slice ao l.length cl) l)
 (vL:Value) (LL:List (List Nat)) (c6:w.cell? ⟨b,6,none⟩=some vL) (sL:SL 1 (jv 1 RO) (MT B [3,22] w) w vL LL) (a3:n<LL.length) (ac:LL[n]=di l n) (hB:B<=w.heap.size) (hN:l.length<=10) (hF:∀c∈l,c.fields.length<=6):
 Calls Tryz.prog 201 #[.pointer (some ⟨b,0,none⟩),.int .i64 n] w fun r w'=>Below w.heap.size w w'/\∃v,r=.returned v/\SL 3 RF (MT w.heap.size [125] w') w' v (fieldsOf l n):=by
 obtain ⟨iF,ah,ak,al,an⟩:=info_parts Tryz.infoField;have a1:b<w.heap.size:=World.block_lt_of_cell? w _ c0;have av:=ag ac;have HC:=ag sC;have a4:=sL;obtain ⟨aL,cL,rfl,-⟩:=a4;obtain ⟨bL,oL,aI,cI,rfl,a9,eL,sI⟩:=sL.atSl n a3;rw [av.o]at eL sI;have ai:=zgy hn;have bk:=zgz l n;have au:Hid (fieldsOf l n=(di l n).flatMap fun k=>(b8 l k).fields):=rfl;generalize di l n=ln at*;have HI:=ag sI;have HK:=ag ai;have ar:=ag hF;have bn:(0:Int)<=n:=by omega
 have bq:(n:Int)<LL.length:=by omega
 clear sC sL sI ac ai hF;go_enter Tryz.func201,Tryz.ntmps201;go_wp2_with fail;go_loopw [5,16] (fun v i wr=>∃(k:Nat) (fs:List bo),k<=ln.length/\i=.int .i64 k/\Hid (fs=(ln.take k).flatMap fun k=>(b8 l k).fields)/\fs.length<=6*k/\Hid (∀f∈fs,f.name.size<=maxLen/\f.kind.da.size<=maxLen)/\wr.ownsRow w.heap.size 125 3 v fs.length (fs.flatMap ib)/\Below w.heap.size w wr) (fun _ i _=>ln.length - (intOf i).toNat)
 case atStart=>exact ⟨0,[],n0q _,rfl,rfl,by simp,(fun f F=>by cases F),World.ownsRow_nil _ _ _ _,br _ _⟩
 case round=>
  obtain ⟨k,fs,hk,rfl,HP,bh,V,A,E⟩:=hrel;obtain ⟨a5,c5,rfl⟩:=kh A;have aj:=E.size;by_cases W:k<ln.length
  ·obtain ⟨bi,oi,rfl,a0,ei⟩:=HI.o.atO k W;have ay:=(E.cell (p:=⟨bi,oi+k,none⟩) a0).trans ei;have G:=HK.o ln[k] (gm W);have d0:wr.cell? ⟨b,0,none⟩=some (.slice ao l.length cl):=(E.cell (p:=⟨b,0,none⟩) a1).trans c0;obtain ⟨bc,oc,vf,vm,rfl,bb,e0,e1,e2,e3,ef,em,a7,a8⟩:=(HC.o.keptC (Kp.below (E.mono hB))).atC ln[k] G;have bg:=ar.o l[ln[k]] (gm G);have aq:Hid (b8 l ln[k]=l[ln[k]]):=zay G;obtain ⟨m,hm⟩:∃m,m=ln[k]:=⟨_,rfl⟩;have HM:=ag hm;generalize hcc:l[ln[k]]=cc at*;clear hcc;rw [<-hm]at ay e0 e1 e2 e3 G;have bl:(0:Int)<=m:=by omega
   have bm:(m:Int)<l.length:=by omega
   have EF:=ag ef;obtain ⟨fo,cf,rfl,-⟩:=ef;have O:=ag A;have L:∀f∈cc.fields,f.name.size<=maxLen/\f.kind.da.size<=maxLen:=by intro f F;obtain ⟨q,hq,rfl⟩:=List.getElem_of_mem F;obtain ⟨_,_,_,_,_,_,_,h1,h2⟩:=EF.o.atF q hq;exact ⟨h1,h2⟩
   have ax:=ag L;have aa:Hid ((ln.take (k+1)).flatMap (fun k=>(b8 l k).fields)=fs++cc.fields):=by show _=_;rw [List.take_succ_eq_append_getElem W,List.flatMap_append,<-HP.o];simp [aq.o]
   clear hm ei L;by_cases h0:cc.fields= []
   ·have aw:=ag h0;rw [h0]at e2;clear h0;obtain ⟨af,ad⟩:=zga A;go_wp2_with (at_builtin;refine zf9 _ rfl _ _ 126 rfl 125 iF Tryz.underlying126 ah a5 fs.length c5 rfl af ad fo cf rfl ?_);clear ad af;go_wp2_with fail;go_roundw
    case rel=>exact ⟨k+1,fs,by omega,by go_num,by show _=_;have:=aa.o;rw [aw.o,List.append_nil]at this;exact this.symm,by omega,V.o,O.o,E⟩
    case measure=>simp [intOf];omega
   have J:0<cc.fields.length:=List.length_pos_iff.2 h0;obtain ⟨Y,of,a2⟩:∃Y of,fo=some ⟨Y,of,none⟩:=by obtain ⟨Y,of,e,_⟩:=EF.o.atF 0 J;exact ⟨Y,of,e⟩
   subst a2;have N:Hid (∀j u,(cc.fields.flatMap ib)[j]? =some u->wr.cell? ((⟨Y,of,none⟩:Addr).add j)=some u):=zg2 ib (by decide) (fun x _=>rfl) (fun _ _ h=>h.1) EF.o;have Z:Hid (fs.length+cc.fields.length<=maxLen/\(fs.length+cc.fields.length)*40<=140737488355328):=⟨by unfold maxLen;omega,by omega⟩;clear h0;go_wp2_with (at_builtin;refine wpList_append_lies _ rfl _ _ 126 rfl w.heap.size 125 iF (.agg #[.string ⟨#[]⟩,.int .i64 0,.string ⟨#[]⟩]) 3 40 Tryz.underlying126 ah ak al an rfl (by decide) (.slice a5 fs.length c5) fs.length (fs.flatMap ib) rfl O.o ⟨Y,of,none⟩ cc.fields.length cf (cc.fields.flatMap ib) rfl zg3 N.o (zg4 _) J Z.o.1 Z.o.2 aj _ rfl ?_);intro g cap w1 D I ae a6;have HX:=ag (And.intro D (E.grown I aj (fun k e=>(O.o.lt k e).1)));clear D I ae A E;go_wp2_with fail;go_roundw
   case rel=>
    obtain ⟨D,az⟩:=HX.o;refine ⟨k+1,fs++cc.fields,by omega,by go_num,aa.o.symm,by simp;omega,?_,?_,az⟩
    ·show ∀f∈_,_;intro f F;rcases List.mem_append.1 F with F | F
     ·exact V.o f F
     exact ax.o f F
    rw [List.length_append,List.flatMap_append];exact D
   case measure=>simp [intOf];omega
  have HX:Hid (fieldsOf l n=fs):=by show _=_;rw [au.o,HP.o,List.take_of_length_le (by omega)]
  have X:(fs.map fun f=>(ib f,f)).length=fs.length:=by simp
  have ap:(fs.map fun f=>(ib f,f)).flatMap (·.1)=fs.flatMap ib:=by rw [List.flatMap_map]
  have SV:=ag (ze4 (n:=3) (R:=RF) (T:=[125]) (zs:=fs.map fun f=>(ib f,f)) (by rw [X,ap];exact A) (fun z hz=>by
   obtain ⟨f,F,rfl⟩:=List.mem_map.1 hz;exact ⟨rfl,rfl,V.o f F⟩) (by simp) (by rw [X];unfold maxLen;omega))
  clear X ap A;go_wp2_with fail;go_ret;exact ⟨E,_,rfl,by rw [HX.o];have:=SV.o;rwa [List.map_map,show ((·.2)∘fun f:bo=>(ib f,f))=id from rfl,List.map_id]at this⟩
theorem Tryz.infoStr:(Tryz.prog.info? 9).map (fun i=>(i.zero,i.size,i.bytes))=some (some (.string ⟨#[]⟩),1,16):=by kernel_rfl
theorem Tryz.infoTarg:(Tryz.prog.info? 233).map (fun i=>(i.zero,i.size,i.bytes))=some (some (.agg #[.int .i64 0,.int .i64 0]),2,16):=by kernel_rfl
theorem zg6 {W:World} {k j t:Nat} {u:Array Value} {A:Nat×Nat} (h:W.heap[k]? =some (.cells u t A)) (v:Value):(W.setCell ⟨k,j,none⟩ v).heap[k]? =some (.cells (u.setIfInBounds j v) t A):=by simp [World.setCell,Array.getElem?_modify,h]
theorem zg7 {w:World} {B e u g cap n:Nat} {xs:List Value} (h:w.ownsRow B e u (.slice (some ⟨g,0,none⟩) n cap) n xs) (j:Nat) (v:Value):(w.setCell ⟨g,j,none⟩ v).ownsRow B e u (.slice (some ⟨g,0,none⟩) n cap) n (xs.set j v):=by
 refine ⟨by rw [List.length_set];exact h.1,?_⟩;rcases h.2 with ⟨e,_⟩ | ⟨L,D,A,e,E,F,hc,G,I,J⟩
 ·cases e
 cases e;refine Or.inr ⟨g,cap,A.setIfInBounds j v,rfl,E,zg6 F v,hc,G,by simpa using I,?_⟩;rw [<-J];simp [List.take_set]
theorem zg8 {w:World} {B B' e G n O k N:Nat} {v I:Value} {xs D:List Value} (h:w.ownsRow B e n v k xs) (h':w.ownsRow B' G O I N D) (A:e≠G):v.ownBlock=none\/v.ownBlock≠I.ownBlock:=by
 rcases h.2 with ⟨rfl,_⟩ | ⟨g,cap,J,rfl,_,L,_⟩
 ·exact Or.inl rfl
 rcases h'.2 with ⟨rfl,_⟩ | ⟨V,E,F,rfl,_,u,_⟩
 ·exact Or.inr (by simp [Value.ownBlock])
 refine Or.inr fun e=>?_;simp [Value.ownBlock]at e;subst e;rw [L]at u;cases u;exact A rfl
def ko (ns:List ByteArray):List Value:=ns.map Value.string
def ie (t:cd):List Value:=[.int .i64 t.da,.int .i64 t.meth]
theorem tlen (ts:List cd):(ts.flatMap ie).length=ts.length*2:=by
 induction ts with
 | nil=>rfl
 | cons x l ih=>rw [List.flatMap_cons,List.length_append,ih,List.length_cons];simp [ie];omega
theorem zg9 (ns:List ByteArray):ns.flatMap (fun s=>[Value.string s])=ko ns:=by
 induction ns with
 | nil=>rfl
 | cons x l ih=>rw [List.flatMap_cons,ih];rfl
theorem zha {w:World} {B:Nat} {v:Value} {ns:List ByteArray} (h:w.ownsRow B 9 1 v ns.length (ko ns)) (E:∀s∈ns,s.size<=maxLen) (F:ns.length<=1000):SL 1 RS (MT B [9] w) w v ns:=by
 have u:(ns.map fun s=>([Value.string s],s)).length=ns.length:=by simp
 have D:(ns.map fun s=>([Value.string s],s)).flatMap (·.1)=ko ns:=by rw [List.flatMap_map];exact zg9 ns
 have:=ze4 (n:=1) (R:=RS) (T:=[9]) (zs:=ns.map fun s=>([Value.string s],s)) (by rw [u,D];exact h) (fun z u=>by
  obtain ⟨s,A,rfl⟩:=List.mem_map.1 u;exact ⟨rfl,rfl,E s A⟩) (by simp) (by rw [u];unfold maxLen;omega)
 rwa [List.map_map,show ((·.2)∘fun s:ByteArray=>([Value.string s],s))=id from rfl,List.map_id]at this
theorem zhb {w:World} {B:Nat} {v:Value} {ts:List cd} (h:w.ownsRow B 233 2 v ts.length (ts.flatMap ie)) (E:ts.length<=1000):SL 2 RT (MT B [233] w) w v ts:=by
 have u:(ts.map fun s=>(ie s,s)).length=ts.length:=by simp
 have A:(ts.map fun s=>(ie s,s)).flatMap (·.1)=ts.flatMap ie:=by rw [List.flatMap_map]
 have:=ze4 (n:=2) (R:=RT) (T:=[233]) (zs:=ts.map fun s=>(ie s,s)) (by rw [u,A];exact h) (fun z u=>by
  obtain ⟨s,D,rfl⟩:=List.mem_map.1 u;exact ⟨rfl,rfl⟩) (by simp) (by rw [u];unfold maxLen;omega)
 rwa [List.map_map,show ((·.2)∘fun s:cd=>(ie s,s))=id from rfl,List.map_id]at this
theorem zhc (ts:List cd) (k:Nat) (t:cd):((ts.flatMap ie).set (k*2) (.int .i64 t.da)).set (k*2+1) (.int .i64 t.meth)=(ts.set k t).flatMap ie:=by
 induction ts generalizing k with
 | nil=>simp
 | cons x l ih=>
   cases k with
   | zero=>simp [ie]
   | succ k=>
     rw [p3q,List.flatMap_cons,List.flatMap_cons,<-ih k];have u:(k+1)*2=k*2+1+1:=by omega
     rw [u];simp [ie]
theorem zhd (P:List (ByteArray×cd)):∀u:List ByteArray×List cd,u.1.length=u.2.length->(P.foldl ed u).1.length=(P.foldl ed u).2.length:=by
 induction P with
 | nil=>exact fun _ h=>h
 | cons x P ih=>
   intro u h;refine ih _ ?_;unfold ed;split
   ·simpa using h
   simp [h]
theorem zhe (P:List (ByteArray×cd)) (x:ByteArray×cd):(P++ [x]).foldl ed ([],[])=ed (P.foldl ed ([],[])) x:=by rw [List.foldl_append];rfl
theorem zhf (l:List ByteArray) (s:ByteArray):iu l s<l.length:=by
 unfold iu;split
 ·rename_i i h;have:=(List.findIdx?_eq_some_iff_getElem.1 h).1;omega
 omega
theorem zhg (l:List am) (n:Nat):(js l n).length=(b8 l n).ar.length:=by simp [js]
theorem zhh (l:List am) (n j:Nat) (h:j<(js l n).length) (h':j<(b8 l n).ar.length):(js l n)[j]=((b8 l n).ar[j].name,⟨n,j⟩):=by simp [js]
theorem zhi (w:World) (B b:Nat) (l:List am) (n:Nat) (hn:n<l.length) (ao:Option Addr) (cl:Nat) (c0:w.cell? ⟨b,0,none⟩=some (.slice ao l.length cl)) (sC:SL 4 RC (· <B) w (.slice ao l.length cl) l)
 (vL:Value) (LL:List (List Nat)) (c6:w.cell? ⟨b,6,none⟩=some vL) (sL:SL 1 (jv 1 RO) (MT B [3,22] w) w vL LL) (du:n<LL.length) (b1:LL[n]=di l n) (hB:B<=w.heap.size) (hN:l.length<=10) (hF:∀c∈l,c.ar.length<=8):
 Calls Tryz.prog 202 #[.pointer (some ⟨b,0,none⟩),.int .i64 n] w fun r w'=>Below w.heap.size w w'/\∃v u,r=.returned (.tuple #[v,u])/\SL 1 RS (MT w.heap.size [9] w') w' v (d9 l n)/\SL 2 RT (MT w.heap.size [233] w') w' u (d7 l n):=by
 obtain ⟨iS,dg,cc,ce,cf⟩:=info_parts Tryz.infoStr;obtain ⟨iT,dk,ci,cj,cn⟩:=info_parts Tryz.infoTarg;have dd:b<w.heap.size:=World.block_lt_of_cell? w _ c0;have cs:=ag b1;have HC:=ag sC;have d1:=sL;obtain ⟨aL,cL,rfl,-⟩:=d1;obtain ⟨bL,oL,aI,cI,rfl,eg,eL,sI⟩:=sL.atSl n du;rw [cs.o]at eL sI;have b7:=zgy hn;have ej:=zgz l n;have c1:Hid (jm l n=((di l n).flatMap (js l)).foldl ed ([],[])):=rfl;generalize di l n=ln at*;have HI:=ag sI;have HK:=ag b7;have cp:=ag hF;have en:(0:Int)<=n:=by omega
 have eq:(n:Int)<LL.length:=by omega
 clear sC sL sI b1 b7 hF;go_enter Tryz.func202,Tryz.ntmps202;go_wp2_with fail;go_loopw [6,7,22] (fun v u i wr=>∃(k:Nat) (ns:List ByteArray) (ts:List cd),k<=ln.length/\i=.int .i64 k/\Hid ((ns,ts)=((ln.take k).flatMap (js l)).foldl ed ([],[]))/\ns.length<=8*k/\Hid (ts.length=ns.length)/\Hid (∀s∈ns,s.size<=maxLen)/\
  wr.ownsRow w.heap.size 9 1 v ns.length (ko ns)/\wr.ownsRow w.heap.size 233 2 u ts.length (ts.flatMap ie)/\Below w.heap.size w wr) (fun _ _ i _=>ln.length - (intOf i).toNat)
 case atStart=>exact ⟨0,[],[],n0q _,rfl,rfl,by simp,rfl,(fun f hf=>by cases hf),World.ownsRow_nil _ _ _ _,World.ownsRow_nil _ _ _ _,br _ _⟩
 case round=>
  obtain ⟨k,ns,ts,hk,rfl,HP,b5,G,L,E,A,I⟩:=hrel;obtain ⟨a6,c6,rfl⟩:=kh E;obtain ⟨a7,c7,rfl⟩:=kh A;have an:=I.size;by_cases bf:k<ln.length
  ·obtain ⟨bi,oi,rfl,c9,ei⟩:=HI.o.atO k bf;have c3:=(I.cell (p:=⟨bi,oi+k,none⟩) c9).trans ei;have bg:=HK.o ln[k] (gm bf);have d0:wr.cell? ⟨b,0,none⟩=some (.slice ao l.length cl):=(I.cell (p:=⟨b,0,none⟩) dd).trans c0;obtain ⟨bc,oc,vf,vm,rfl,b3,e0,e1,e2,e3,ef,em,c4,c5⟩:=HC.o.atC ln[k] bg;have b0:=(I.cell (p:=⟨bc,oc+ln[k]*4+3,none⟩) b3).trans e3;have b4:=cp.o l[ln[k]] (gm bg);have bu:Hid ((ln.take (k+1)).flatMap (js l)=(ln.take k).flatMap (js l)++js l ln[k]):=by
    show _=_;rw [List.take_succ_eq_append_getElem bf,List.flatMap_append];simp
   clear e0 e1 e2 e3 ef c4 c5 ei b3;rw [<-zay bg]at em b4;obtain ⟨mo,cm,rfl,-⟩:=id em;have co:=ag em;have e4:=b0;clear em b0;generalize ln[k]=m at*;have bx:=ag (zhg l m);generalize hms:(b8 l m).ar=ms at*;have bn:=ag hms;clear hms;have ek:(0:Int)<=m:=by omega
   have el:(m:Int)<l.length:=by omega
   have cv:=ag HP.o;obtain ⟨PK,a5⟩:∃PK,PK=(ln.take k).flatMap (js l):=⟨_,rfl⟩;rw [<-a5]at HP bu cv;have eb:=ag a5;clear a5;go_wp2_with fail;go_loopw [6,7,36] (fun v u i J=>∃(j:Nat) (ns:List ByteArray) (ts:List cd),j<=ms.length/\i=.int .i64 j/\Hid ((ns,ts)=(PK++(js l m).take j).foldl ed ([],[]))/\ns.length<=8*k+j/\Hid (ts.length=ns.length)/\Hid (∀s∈ns,s.size<=maxLen)/\
    J.ownsRow w.heap.size 9 1 v ns.length (ko ns)/\J.ownsRow w.heap.size 233 2 u ts.length (ts.flatMap ie)/\Below w.heap.size w J) (fun _ _ i _=>ms.length - (intOf i).toNat)
   case atStart=>exact ⟨0,ns,ts,n0q _,rfl,by show _=_;rw [List.take_zero,List.append_nil];exact HP.o,by omega,G.o,L.o,E,A,I⟩
   case round=>
    clear E A I HP L b5 G an d0 c3 e4
    rename World=>J
    obtain ⟨j,ns,ts,hj,rfl,HP,b5,G,L,E,A,I⟩:=hrel;obtain ⟨a6,c6,rfl⟩:=kh E;obtain ⟨a7,c7,rfl⟩:=kh A;have an:=I.size;by_cases bb:j<ms.length
    ·obtain ⟨bm,om,va,vh,ds,eh,q0,q1,q2,q3,q4,q5,q6,q7,q8,sa,sh,d2,ex,ez⟩:=(co.o.keptM (Kp.below (I.mono hB))).atM j bb;subst ds;obtain ⟨X,Z,rfl,-⟩:=sa;obtain ⟨Y,ch,rfl,-⟩:=sh;have bs:Hid (PK++(js l m).take (j+1)=(PK++(js l m).take j)++ [(ms[j].name,⟨m,j⟩)]):=by
      show _=_;have b6:j<(js l m).length:=by rw [bx.o];exact bb
      rw [List.take_succ_eq_append_getElem b6,List.append_assoc,zhh l m j b6 (by rw [bn.o];exact bb)];congr 3;simp [bn.o]
     have W:=ag E;have F:=ag A;have a4:=(I.alloc an (.cells #[.string ms[j].name,.bool ms[j].static,.slice X ms[j].args.length Z,.int .i64 ms[j].ret.kind,.string ms[j].ret.da,.int .i64 ms[j].stack,.int .i64 ms[j].locals,.string ms[j].code,.slice Y ms[j].hands.length ch] 159));have bh:=ag (a4.alloc a4.size (.cells #[.int .i64 m,.int .i64 j] 233));generalize hmj:ms[j]=mj at*;clear hmj a4;have SN:Hid (SL 1 RS (MT w.heap.size [9] ((J.alloc (.cells #[.string mj.name,.bool mj.static,.slice X mj.args.length Z,.int .i64 mj.ret.kind,.string mj.ret.da,.int .i64 mj.stack,.int .i64 mj.locals,.string mj.code,.slice Y mj.hands.length ch] 159)).alloc (.cells #[.int .i64 m,.int .i64 j] 233))) ((J.alloc (.cells #[.string mj.name,.bool mj.static,.slice X mj.args.length Z,.int .i64 mj.ret.kind,.string mj.ret.da,.int .i64 mj.stack,.int .i64 mj.locals,.string mj.code,.slice Y mj.hands.length ch] 159)).alloc (.cells #[.int .i64 m,.int .i64 j] 233)) (.slice a6 ns.length c6) ns):=zha ((E.alloc _).alloc _) L.o (by omega);clear E A;go_wp2_with fail;refine (zfx _ _ _ ns mj.name SN.o).mono ?_;rintro r w1 ⟨rfl,rfl⟩;have dl:=zhf ns mj.name;by_cases al:0<=iu ns mj.name
     ·obtain ⟨D,ad⟩:=Int.eq_ofNat_of_zero_le al;have a1:Hid (ed (ns,ts) (mj.name,⟨m,j⟩)=(ns,ts.set D ⟨m,j⟩)):=by
       show _=_;rw [ed,if_pos al];show (ns,ts.set (iu ns mj.name).toNat _)=_;rw [ad];rfl
      rw [ad]at dl ⊢;clear al ad;obtain ⟨V,df,d4⟩:∃V,a7=some ⟨V,0,none⟩/\ts.length<=c7:=by
       obtain ⟨h1,h2⟩:=zga F.o;rcases h2 with rfl | ⟨g,rfl⟩
       ·rcases F.o.2 with ⟨e,h0⟩ | ⟨g,_,_,e,_⟩
        ·have:=G.o;omega
        cases e
       exact ⟨g,rfl,h1⟩
      subst df;have a9:=F.o.lt V rfl;have k0:J.cell? ⟨V,D*2,none⟩=(ts.flatMap ie)[D*2]? :=F.o.cellAt _ (by have:=G.o;omega);have k1:J.cell? ⟨V,D*2+1,none⟩=(ts.flatMap ie)[D*2+1]? :=F.o.cellAt _ (by have:=G.o;omega);have av:D<ts.length:=by have:=G.o;omega
      have et:J.cell? ⟨V,D*2,none⟩=some (.int .i64 (ts[D]).da):=by rw [k0];have:=ze3 (n:=2) ie ts D 0 (fun _ _=>rfl) av (by decide);simpa [ie]using this
      have eu:J.cell? ⟨V,D*2+1,none⟩=some (.int .i64 (ts[D]).meth):=by rw [k1];have:=ze3 (n:=2) ie ts D 1 (fun _ _=>rfl) av (by decide);simpa [ie]using this
      obtain ⟨ap,a8⟩:∃ap,J.heap[V]? =some (.cells ap 233 (0,0)):=by
       rcases F.o.2 with ⟨e,_⟩ | ⟨g,_,c2,e,_,hb,_⟩
       ·cases e
       cases e;exact ⟨c2,hb⟩
      have z0:∀q,J.frozen? ⟨V,q,none⟩=false:=fun q=>by simp [World.frozen?,a8]
      have ea:=ag a8;have er:(0:Int)<=D:=by omega
      have es:(D:Int)<ts.length:=by have:=G.o;omega
      have d3:V<J.heap.size:=a9.2;clear k0 k1 a8;go_wp2_with fail;go_roundw
      case rel=>
       have ac:=((((I.setCell (p:=⟨V,D*2,none⟩) a9.1 (.int .i64 m)).setCell (p:=⟨V,D*2+1,none⟩) a9.1 (.int .i64 j)).alloc (by simpa [World.setCell]using an) (.cells #[.string mj.name,.bool mj.static,.slice X mj.args.length Z,.int .i64 mj.ret.kind,.string mj.ret.da,.int .i64 mj.stack,.int .i64 mj.locals,.string mj.code,.slice Y mj.hands.length ch] 159)).alloc (by simp [World.setCell];omega) (.cells #[.int .i64 m,.int .i64 j] 233));refine ⟨j+1,ns,ts.set D ⟨m,j⟩,by omega,by go_num,?_,by omega,by show _=_;have:=G.o;simpa using this,L.o,?_,?_,ac⟩
       ·show _=_;rw [bs.o,zhe,<-HP.o,a1.o]
       ·refine ((W.o.kept (row:=some V) ?_ ?_).alloc _).alloc _
        ·exact nh (nh (World.grownBy.refl _ _) _ _ (Or.inl rfl)) _ _ (Or.inl rfl)
        rcases zg8 W.o F.o (by decide)with h | h
        ·exact Or.inl h
        exact Or.inr h
       have:=zg7 (zg7 F.o (D*2) (.int .i64 m)) (D*2+1) (.int .i64 j);rw [zhc ts D ⟨m,j⟩]at this;rw [List.length_set];exact (this.alloc _).alloc _
      case measure=>simp [intOf];omega
     have a1:Hid (ed (ns,ts) (mj.name,⟨m,j⟩)=(ns++ [mj.name],ts++ [⟨m,j⟩])):=by show _=_;rw [ed,if_neg al]
     have aq:=(W.o.alloc (.cells #[.string mj.name,.bool mj.static,.slice X mj.args.length Z,.int .i64 mj.ret.kind,.string mj.ret.da,.int .i64 mj.stack,.int .i64 mj.locals,.string mj.code,.slice Y mj.hands.length ch] 159)).alloc (.cells #[.int .i64 m,.int .i64 j] 233);have au:=(F.o.alloc (.cells #[.string mj.name,.bool mj.static,.slice X mj.args.length Z,.int .i64 mj.ret.kind,.string mj.ret.da,.int .i64 mj.stack,.int .i64 mj.locals,.string mj.code,.slice Y mj.hands.length ch] 159)).alloc (.cells #[.int .i64 m,.int .i64 j] 233);have k0:((J.alloc (.cells #[.string mj.name,.bool mj.static,.slice X mj.args.length Z,.int .i64 mj.ret.kind,.string mj.ret.da,.int .i64 mj.stack,.int .i64 mj.locals,.string mj.code,.slice Y mj.hands.length ch] 159)).alloc (.cells #[.int .i64 m,.int .i64 j] 233)).cell? ⟨J.heap.size,0,none⟩=some (.string mj.name):=by simp [go_sem]
     have kt:((J.alloc (.cells #[.string mj.name,.bool mj.static,.slice X mj.args.length Z,.int .i64 mj.ret.kind,.string mj.ret.da,.int .i64 mj.stack,.int .i64 mj.locals,.string mj.code,.slice Y mj.hands.length ch] 159)).alloc (.cells #[.int .i64 m,.int .i64 j] 233)).heap[J.heap.size+1]? =some (.cells #[.int .i64 m,.int .i64 j] 233 (0,0)):=by have:=heap_alloc_new (J.alloc (.cells #[.string mj.name,.bool mj.static,.slice X mj.args.length Z,.int .i64 mj.ret.kind,.string mj.ret.da,.int .i64 mj.stack,.int .i64 mj.locals,.string mj.code,.slice Y mj.hands.length ch] 159)) (.cells #[.int .i64 m,.int .i64 j] 233);simpa using this
     have dz:J.heap.size+1<((J.alloc (.cells #[.string mj.name,.bool mj.static,.slice X mj.args.length Z,.int .i64 mj.ret.kind,.string mj.ret.da,.int .i64 mj.stack,.int .i64 mj.locals,.string mj.code,.slice Y mj.hands.length ch] 159)).alloc (.cells #[.int .i64 m,.int .i64 j] 233)).heap.size:=by simp
     have a3:=bh.o;generalize ((J.alloc (.cells #[.string mj.name,.bool mj.static,.slice X mj.args.length Z,.int .i64 mj.ret.kind,.string mj.ret.da,.int .i64 mj.stack,.int .i64 mj.locals,.string mj.code,.slice Y mj.hands.length ch] 159)).alloc (.cells #[.int .i64 m,.int .i64 j] 233))=W2 at*;generalize iu ns mj.name=ix at*;have aw:∀q,(Value.slice a6 ns.length c6).ownBlock=some q->w.heap.size<=q/\q<J.heap.size:=fun q e=>W.o.lt q e;have ay:Hid (ns.length+1<=maxLen/\(ns.length+1)*16<=140737488355328/\w.heap.size<=(W2.alloc (.cells #[.string mj.name] 9)).heap.size):=⟨by unfold maxLen;omega,by omega,by have:=a3.size;simp;omega⟩;have cu:=ag aq;have cx:=ag au;have cr:=ag kt;have bl:=ag aw;have a0:=ag a3;clear aq au kt aw a3 bh SN q0 q1 q2 q3 q4 q5 q6 q7 q8;go_wp2_with (at_builtin;refine wpList_append_lies _ rfl _ _ 225 rfl w.heap.size 9 iS (.string ⟨#[]⟩) 1 16 Tryz.underlying225 dg cc ce cf rfl (by decide) (.slice a6 ns.length c6) ns.length (ko ns) rfl (cu.o.alloc _) ⟨W2.heap.size,0,none⟩ 1 1 [.string mj.name] rfl rfl (World.news_of_block (heap_alloc_new W2 _)) (by intro u hu;simp at hu;subst hu;rfl) (by omega) ay.o.1 ay.o.2.1 ay.o.2.2 _ rfl ?_);intro g6 ec w3 af N _ d5;have d8:W2.heap.size+1<=w3.heap.size:=by have:=N.size;simpa using this
     have O:w3.heap[J.heap.size+1]? =some (.cells #[.int .i64 m,.int .i64 j] 233 (0,0)):=by rw [N.block (J.heap.size+1) (by simp;omega) (fun e=>by have:=(bl.o _ e.symm).2;omega),Below.heap_alloc _ _ _ dz];exact cr.o
     have b2:=(cx.o.alloc (.cells #[.string mj.name] 9)).kept N (zg8 F.o W.o (by decide));have ac:Below w.heap.size w w3:=(a0.o.alloc a0.o.size _).grown N (by have:=a0.o.size;simp;omega) (fun q e=>(bl.o q e).1);have k3:=ba O 0 (x:=.int .i64 m) rfl;have k4:=ba O 1 (x:=.int .i64 j) rfl;have az:Hid (ts.length+1<=maxLen/\(ts.length+1)*16<=140737488355328/\w.heap.size<=(w3.alloc (.cells #[.int .i64 m,.int .i64 j] 233)).heap.size):=⟨by have:=G.o;unfold maxLen;omega,by have:=G.o;omega,by have:=ac.size;simp;omega⟩;have a2:=ag b2;have bq:=ag af;have ax:=ag ac;clear af N O b2 ac k0;go_wp2_with (at_builtin;refine wpList_append_lies _ rfl _ _ 226 rfl w.heap.size 233 iT (.agg #[.int .i64 0,.int .i64 0]) 2 16 Tryz.underlying226 dk ci cj cn rfl (by decide) (.slice a7 ts.length c7) ts.length (ts.flatMap ie) rfl (a2.o.alloc _) ⟨w3.heap.size,0,none⟩ 1 1 [.int .i64 m,.int .i64 j] rfl rfl (World.news_of_block (heap_alloc_new w3 _)) (by intro u hu;simp at hu;rcases hu with rfl | rfl<;>rfl) (by omega) az.o.1 az.o.2.1 az.o.2.2 _ rfl ?_);intro V ee w4 ai ae _ d6;have ak:=(bq.o.alloc (.cells #[.int .i64 m,.int .i64 j] 233)).kept ae (zg8 bq.o a2.o (by decide));have aj:Below w.heap.size w w4:=(ax.o.alloc ax.o.size _).grown ae (by have:=ax.o.size;simp;omega) (fun q e=>(a2.o.lt q e).1);have bk:=ag (And.intro ak (And.intro ai aj));clear ai ae ak aj k3 k4;go_wp2_with fail;go_roundw
     case rel=>
      obtain ⟨ak,c8,aj⟩:=bk.o;refine ⟨j+1,ns++ [mj.name],ts++ [⟨m,j⟩],by omega,by go_num,?_,by simp;omega,by show _=_;have:=G.o;simp;omega,?_,?_,?_,aj⟩
      ·show _=_;rw [bs.o,zhe,<-HP.o,a1.o]
      ·show ∀s∈_,_;intro s hs;rcases List.mem_append.1 hs with hs | hs
       ·exact L.o s hs
       rw [List.mem_singleton]at hs;rw [hs];exact d2
      ·rw [List.length_append,show ko (ns++ [mj.name])=ko ns++ [.string mj.name] by simp [ko]];exact ak
      rw [List.length_append,List.flatMap_append];exact c8
     case measure=>simp [intOf];omega
    have HX:Hid ((ns,ts)=((ln.take (k+1)).flatMap (js l)).foldl ed ([],[])):=by show _=_;rw [bu.o,HP.o,List.take_of_length_le (by rw [bx.o];omega)]
    have ct:=ag E;have cy:=ag A;clear E A;go_wp2_with fail;go_roundw
    case rel=>exact ⟨k+1,ns,ts,by omega,by go_num,HX.o,by omega,G.o,L.o,ct.o,cy.o,I⟩
    case measure=>simp [intOf];omega
  have HX:Hid (jm l n=(ns,ts)):=by show _=_;rw [c1.o,HP.o,List.take_of_length_le (by omega)]
  have SN:=ag (zha E L.o (by omega));have ST:=ag (zhb A (by have:=G.o;omega));clear E A;go_wp2_with fail
  go_ret2
  exact ⟨I,_,_,rfl,by rw [d9,HX.o];exact SN.o,by rw [d7,HX.o];exact ST.o⟩
theorem jv.stp {α:Type} {n:Nat} {R:(Nat->Prop)->World->List Value->α->Prop} {B:Nat} {T:List Nat} {w w':World} {u:List Value} {x:List α} (h:jv n R (MT B T w) w u x) (D:Stp B T w w') (A:∀M M' w w' u x,R M w u x->R M' w' u x):jv n R (MT B T w') w' u x:=by obtain ⟨v,e,h⟩:=h;exact ⟨v,e,(h.kept D.kp fun _ _ h=>A _ _ _ _ _ _ h).mono (fun _ E=>E.step D) fun _ _ h=>A _ _ _ _ _ _ h⟩
theorem kg {w w':World} {B:Nat} {e u n:Nat} {v:Value} {xs:List Value} (h:w.ownsRow B e u v n xs) (A:Below w.heap.size w w'):w'.ownsRow B e u v n xs:=
 h.kept (row:=none) ⟨A.os,A.tape,A.output,A.size,fun k D _=>A.block k D⟩ (by cases v.ownBlock<;>simp)
structure Wv (w0 W:World) (l:List am) (vC vS vF vN vT vL:Value) (zF:List (List Value×List bo)) (zN:List (List Value×List ByteArray)) (zT:List (List Value×List cd)) (zL:List (List Value×List Nat)):Prop where
 below:Below w0.heap.size w0 W
 blk:W.heap[w0.heap.size+1]? =some (.cells #[vC,vS,vF,vN,vT,.map (some w0.heap.size),vL] 155 (0,0))
 sS:SL 1 RI (MT w0.heap.size [3] W) W vS ((List.range l.length).map (dj l))
 nm:ia W w0.heap.size l
 oF:W.ownsRow (w0.heap.size+2) 126 1 vF zF.length (zF.flatMap (·.1))
 aF:∀z∈zF,z.1.length=1/\jv 3 RF (MT w0.heap.size [125] W) W z.1 z.2
 oN:W.ownsRow (w0.heap.size+2) 225 1 vN zN.length (zN.flatMap (·.1))
 aN:∀z∈zN,z.1.length=1/\jv 1 RS (MT w0.heap.size [9] W) W z.1 z.2
 oT:W.ownsRow (w0.heap.size+2) 226 1 vT zT.length (zT.flatMap (·.1))
 aT:∀z∈zT,z.1.length=1/\jv 2 RT (MT w0.heap.size [233] W) W z.1 z.2
 oL:W.ownsRow (w0.heap.size+2) 22 1 vL zL.length (zL.flatMap (·.1))
 aL:∀z∈zL,z.1.length=1/\jv 1 RO (MT w0.heap.size [3] W) W z.1 z.2
theorem Wv.lt {u W:World} {l:List am} {A G D F I E:Value} {J:List (List Value×List bo)} {N:List (List Value×List ByteArray)} {O:List (List Value×List cd)} {L:List (List Value×List Nat)} (h:Wv u W l A G D F I E J N O L):u.heap.size+1<W.heap.size:=bz h.blk
theorem Wv.grow {N W:World} {l:List am} {E J F I L G:Value} {O:List (List Value×List bo)} {X:List (List Value×List ByteArray)} {Y:List (List Value×List cd)} {V:List (List Value×List Nat)} {D:World} (h:Wv N W l E J F I L G O X Y V) (u:Below W.heap.size W D):Wv N D l E J F I L G O X Y V:=
 ⟨h.below.trans (u.mono h.below.size),(u.block _ h.lt).trans h.blk,(h.sS.keptI (Stp.below u).kp).monoI fun _ Z=>Z.step (Stp.below u),h.nm.below u h.nm.lt,
  kg h.oF u,(fun z A=>⟨(h.aF z A).1,(h.aF z A).2.stp (Stp.below u) fun _ _ _ _ _ _ h=>h⟩),kg h.oN u,(fun z A=>⟨(h.aN z A).1,(h.aN z A).2.stp (Stp.below u) fun _ _ _ _ _ _ h=>h⟩),kg h.oT u,(fun z A=>⟨(h.aT z A).1,(h.aT z A).2.stp (Stp.below u) fun _ _ _ _ _ _ h=>h⟩),kg h.oL u,(fun z A=>⟨(h.aL z A).1,(h.aL z A).2.stp (Stp.below u) fun _ _ _ _ _ _ h=>h⟩)⟩
theorem Wv.cell {u W:World} {l:List am} {A G D F I E:Value} {L:List (List Value×List bo)} {O:List (List Value×List ByteArray)} {V:List (List Value×List cd)} {N:List (List Value×List Nat)} (h:Wv u W l A G D F I E L O V N) (j:Nat) {x:Value} (J:(#[A,G,D,F,I,.map (some u.heap.size),E]:Array Value)[j]? =some x):W.cell? ⟨u.heap.size+1,j,none⟩=some x:=ba h.blk j J
theorem Wv.addF {D W:World} {l:List am} {Y vS L vN vT Z:Value} {N:List (List Value×List bo)} {zN:List (List Value×List ByteArray)} {zT:List (List Value×List cd)} {zL:List (List Value×List Nat)} (h:Wv D W l Y vS L vN vT Z N zN zT zL) {u:Value} {x:List bo} (hu:SL 3 RF (MT D.heap.size [125] W) W u x) {I:World} {G:Value}
 (ho:I.ownsRow (D.heap.size+2) 126 1 G (N.length+1) (N.flatMap (·.1)++ [u])) (E:(W.alloc (.cells #[u] 126)).grownBy I L.ownBlock):
 Wv D (I.setCell ⟨D.heap.size+1,2,none⟩ G) l Y vS G vN vT Z (N++ [([u],x)]) zN zT zL:=by
 have V:=h.lt;have F:∀q,L.ownBlock=some q->D.heap.size+2<=q/\q<W.heap.size:=fun q e=>h.oF.lt q e;have J:I.heap[D.heap.size+1]? =some (.cells #[Y,vS,L,vN,vT,.map (some D.heap.size),Z] 155 (0,0)):=by rw [E.block (D.heap.size+1) (by simp;omega) (fun e=>by have:=(F _ e.symm).1;omega),Below.heap_alloc _ _ _ V];exact h.blk
 have hst:∀t,t∉ [126,155]->Stp D.heap.size [t] W (I.setCell ⟨D.heap.size+1,2,none⟩ G):=fun t ht=>
  (((Stp.refl _ _ _).alloc _).trans (Stp.row E (h.oF.alloc _) (fun e=>ht (by simp at e;simp [e])))).trans (Stp.set J (fun e=>ht (by simp at e;simp [<-e])) 2 G)
 have O:Below D.heap.size D I:=(h.below.alloc h.below.size _).grown E (by have:=h.below.size;simp;omega) (fun q e=>by have:=(F q e).1;omega);refine ⟨O.setCell (by simp) _,zg6 J G,?_,?_,?_,?_,?_,?_,?_,?_,?_,?_⟩
 ·exact (h.sS.keptI (hst _ (by decide)).kp).monoI fun _ hk=>hk.step (hst _ (by decide))
 ·have X:=(h.nm.kept (row:=none) (World.grownBy_alloc W _ _) (by simp)).kept E (fun e=>by have:=(F _ e.symm).1;omega);exact X.kept (row:=some (D.heap.size+1)) (nh (World.grownBy.refl _ _) _ _ (Or.inl rfl)) (by simp)
 ·rw [List.length_append,ze7];exact ownsRow_setCell_below ho (by simp) _
 ·intro z A;rcases List.mem_append.1 A with A | A
  ·exact ⟨(h.aF z A).1,(h.aF z A).2.stp (hst _ (by decide)) fun _ _ _ _ _ _ h=>h⟩
  rw [List.mem_singleton]at A;subst A;exact ⟨rfl,jv.stp ⟨u,rfl,hu⟩ (hst _ (by decide)) fun _ _ _ _ _ _ h=>h⟩
 ·exact ownsRow_setCell_below ((h.oN.alloc _).kept E (zg8 h.oN h.oF (by decide))) (by simp) _
 ·exact fun z A=>⟨(h.aN z A).1,(h.aN z A).2.stp (hst _ (by decide)) fun _ _ _ _ _ _ h=>h⟩
 ·exact ownsRow_setCell_below ((h.oT.alloc _).kept E (zg8 h.oT h.oF (by decide))) (by simp) _
 ·exact fun z A=>⟨(h.aT z A).1,(h.aT z A).2.stp (hst _ (by decide)) fun _ _ _ _ _ _ h=>h⟩
 ·exact ownsRow_setCell_below ((h.oL.alloc _).kept E (zg8 h.oL h.oF (by decide))) (by simp) _
 exact fun z A=>⟨(h.aL z A).1,(h.aL z A).2.stp (hst _ (by decide)) fun _ _ _ _ _ _ h=>h⟩
theorem Wv.addN {D W:World} {l:List am} {Y vS Z L vT vL:Value} {zF:List (List Value×List bo)} {N:List (List Value×List ByteArray)} {zT:List (List Value×List cd)} {zL:List (List Value×List Nat)} (h:Wv D W l Y vS Z L vT vL zF N zT zL) {u:Value} {x:List ByteArray} (hu:SL 1 RS (MT D.heap.size [9] W) W u x) {I:World} {G:Value}
 (ho:I.ownsRow (D.heap.size+2) 225 1 G (N.length+1) (N.flatMap (·.1)++ [u])) (E:(W.alloc (.cells #[u] 225)).grownBy I L.ownBlock):
 Wv D (I.setCell ⟨D.heap.size+1,3,none⟩ G) l Y vS Z G vT vL zF (N++ [([u],x)]) zT zL:=by
 have V:=h.lt;have F:∀q,L.ownBlock=some q->D.heap.size+2<=q/\q<W.heap.size:=fun q e=>h.oN.lt q e;have J:I.heap[D.heap.size+1]? =some (.cells #[Y,vS,Z,L,vT,.map (some D.heap.size),vL] 155 (0,0)):=by rw [E.block (D.heap.size+1) (by simp;omega) (fun e=>by have:=(F _ e.symm).1;omega),Below.heap_alloc _ _ _ V];exact h.blk
 have hst:∀t,t∉ [225,155]->Stp D.heap.size [t] W (I.setCell ⟨D.heap.size+1,3,none⟩ G):=fun t ht=>
  (((Stp.refl _ _ _).alloc _).trans (Stp.row E (h.oN.alloc _) (fun e=>ht (by simp at e;simp [e])))).trans (Stp.set J (fun e=>ht (by simp at e;simp [<-e])) 3 G)
 have O:Below D.heap.size D I:=(h.below.alloc h.below.size _).grown E (by have:=h.below.size;simp;omega) (fun q e=>by have:=(F q e).1;omega);refine ⟨O.setCell (by simp) _,zg6 J G,?_,?_,?_,?_,?_,?_,?_,?_,?_,?_⟩
 ·exact (h.sS.keptI (hst _ (by decide)).kp).monoI fun _ hk=>hk.step (hst _ (by decide))
 ·have X:=(h.nm.kept (row:=none) (World.grownBy_alloc W _ _) (by simp)).kept E (fun e=>by have:=(F _ e.symm).1;omega);exact X.kept (row:=some (D.heap.size+1)) (nh (World.grownBy.refl _ _) _ _ (Or.inl rfl)) (by simp)
 ·exact ownsRow_setCell_below ((h.oF.alloc _).kept E (zg8 h.oF h.oN (by decide))) (by simp) _
 ·exact fun z A=>⟨(h.aF z A).1,(h.aF z A).2.stp (hst _ (by decide)) fun _ _ _ _ _ _ h=>h⟩
 ·rw [List.length_append,ze7];exact ownsRow_setCell_below ho (by simp) _
 ·intro z A;rcases List.mem_append.1 A with A | A
  ·exact ⟨(h.aN z A).1,(h.aN z A).2.stp (hst _ (by decide)) fun _ _ _ _ _ _ h=>h⟩
  rw [List.mem_singleton]at A;subst A;exact ⟨rfl,jv.stp ⟨u,rfl,hu⟩ (hst _ (by decide)) fun _ _ _ _ _ _ h=>h⟩
 ·exact ownsRow_setCell_below ((h.oT.alloc _).kept E (zg8 h.oT h.oN (by decide))) (by simp) _
 ·exact fun z A=>⟨(h.aT z A).1,(h.aT z A).2.stp (hst _ (by decide)) fun _ _ _ _ _ _ h=>h⟩
 ·exact ownsRow_setCell_below ((h.oL.alloc _).kept E (zg8 h.oL h.oN (by decide))) (by simp) _
 exact fun z A=>⟨(h.aL z A).1,(h.aL z A).2.stp (hst _ (by decide)) fun _ _ _ _ _ _ h=>h⟩
theorem Wv.addT {D W:World} {l:List am} {Y vS Z vN L vL:Value} {zF:List (List Value×List bo)} {zN:List (List Value×List ByteArray)} {N:List (List Value×List cd)} {zL:List (List Value×List Nat)} (h:Wv D W l Y vS Z vN L vL zF zN N zL) {u:Value} {x:List cd} (hu:SL 2 RT (MT D.heap.size [233] W) W u x) {I:World} {G:Value}
 (ho:I.ownsRow (D.heap.size+2) 226 1 G (N.length+1) (N.flatMap (·.1)++ [u])) (E:(W.alloc (.cells #[u] 226)).grownBy I L.ownBlock):
 Wv D (I.setCell ⟨D.heap.size+1,4,none⟩ G) l Y vS Z vN G vL zF zN (N++ [([u],x)]) zL:=by
 have V:=h.lt;have F:∀q,L.ownBlock=some q->D.heap.size+2<=q/\q<W.heap.size:=fun q e=>h.oT.lt q e;have J:I.heap[D.heap.size+1]? =some (.cells #[Y,vS,Z,vN,L,.map (some D.heap.size),vL] 155 (0,0)):=by rw [E.block (D.heap.size+1) (by simp;omega) (fun e=>by have:=(F _ e.symm).1;omega),Below.heap_alloc _ _ _ V];exact h.blk
 have hst:∀t,t∉ [226,155]->Stp D.heap.size [t] W (I.setCell ⟨D.heap.size+1,4,none⟩ G):=fun t ht=>
  (((Stp.refl _ _ _).alloc _).trans (Stp.row E (h.oT.alloc _) (fun e=>ht (by simp at e;simp [e])))).trans (Stp.set J (fun e=>ht (by simp at e;simp [<-e])) 4 G)
 have O:Below D.heap.size D I:=(h.below.alloc h.below.size _).grown E (by have:=h.below.size;simp;omega) (fun q e=>by have:=(F q e).1;omega);refine ⟨O.setCell (by simp) _,zg6 J G,?_,?_,?_,?_,?_,?_,?_,?_,?_,?_⟩
 ·exact (h.sS.keptI (hst _ (by decide)).kp).monoI fun _ hk=>hk.step (hst _ (by decide))
 ·have X:=(h.nm.kept (row:=none) (World.grownBy_alloc W _ _) (by simp)).kept E (fun e=>by have:=(F _ e.symm).1;omega);exact X.kept (row:=some (D.heap.size+1)) (nh (World.grownBy.refl _ _) _ _ (Or.inl rfl)) (by simp)
 ·exact ownsRow_setCell_below ((h.oF.alloc _).kept E (zg8 h.oF h.oT (by decide))) (by simp) _
 ·exact fun z A=>⟨(h.aF z A).1,(h.aF z A).2.stp (hst _ (by decide)) fun _ _ _ _ _ _ h=>h⟩
 ·exact ownsRow_setCell_below ((h.oN.alloc _).kept E (zg8 h.oN h.oT (by decide))) (by simp) _
 ·exact fun z A=>⟨(h.aN z A).1,(h.aN z A).2.stp (hst _ (by decide)) fun _ _ _ _ _ _ h=>h⟩
 ·rw [List.length_append,ze7];exact ownsRow_setCell_below ho (by simp) _
 ·intro z A;rcases List.mem_append.1 A with A | A
  ·exact ⟨(h.aT z A).1,(h.aT z A).2.stp (hst _ (by decide)) fun _ _ _ _ _ _ h=>h⟩
  rw [List.mem_singleton]at A;subst A;exact ⟨rfl,jv.stp ⟨u,rfl,hu⟩ (hst _ (by decide)) fun _ _ _ _ _ _ h=>h⟩
 ·exact ownsRow_setCell_below ((h.oL.alloc _).kept E (zg8 h.oL h.oT (by decide))) (by simp) _
 exact fun z A=>⟨(h.aL z A).1,(h.aL z A).2.stp (hst _ (by decide)) fun _ _ _ _ _ _ h=>h⟩
theorem Wv.addL {D W:World} {l:List am} {Y vS Z vN vT L:Value} {zF:List (List Value×List bo)} {zN:List (List Value×List ByteArray)} {zT:List (List Value×List cd)} {N:List (List Value×List Nat)} (h:Wv D W l Y vS Z vN vT L zF zN zT N) {u:Value} {x:List Nat} (hu:SL 1 RO (MT D.heap.size [3] W) W u x) {I:World} {G:Value}
 (ho:I.ownsRow (D.heap.size+2) 22 1 G (N.length+1) (N.flatMap (·.1)++ [u])) (E:(W.alloc (.cells #[u] 22)).grownBy I L.ownBlock):
 Wv D (I.setCell ⟨D.heap.size+1,6,none⟩ G) l Y vS Z vN vT G zF zN zT (N++ [([u],x)]):=by
 have V:=h.lt;have F:∀q,L.ownBlock=some q->D.heap.size+2<=q/\q<W.heap.size:=fun q e=>h.oL.lt q e;have J:I.heap[D.heap.size+1]? =some (.cells #[Y,vS,Z,vN,vT,.map (some D.heap.size),L] 155 (0,0)):=by rw [E.block (D.heap.size+1) (by simp;omega) (fun e=>by have:=(F _ e.symm).1;omega),Below.heap_alloc _ _ _ V];exact h.blk
 have hst:∀t,t∉ [22,155]->Stp D.heap.size [t] W (I.setCell ⟨D.heap.size+1,6,none⟩ G):=fun t ht=>
  (((Stp.refl _ _ _).alloc _).trans (Stp.row E (h.oL.alloc _) (fun e=>ht (by simp at e;simp [e])))).trans (Stp.set J (fun e=>ht (by simp at e;simp [<-e])) 6 G)
 have O:Below D.heap.size D I:=(h.below.alloc h.below.size _).grown E (by have:=h.below.size;simp;omega) (fun q e=>by have:=(F q e).1;omega);refine ⟨O.setCell (by simp) _,zg6 J G,?_,?_,?_,?_,?_,?_,?_,?_,?_,?_⟩
 ·exact (h.sS.keptI (hst _ (by decide)).kp).monoI fun _ hk=>hk.step (hst _ (by decide))
 ·have X:=(h.nm.kept (row:=none) (World.grownBy_alloc W _ _) (by simp)).kept E (fun e=>by have:=(F _ e.symm).1;omega);exact X.kept (row:=some (D.heap.size+1)) (nh (World.grownBy.refl _ _) _ _ (Or.inl rfl)) (by simp)
 ·exact ownsRow_setCell_below ((h.oF.alloc _).kept E (zg8 h.oF h.oL (by decide))) (by simp) _
 ·exact fun z A=>⟨(h.aF z A).1,(h.aF z A).2.stp (hst _ (by decide)) fun _ _ _ _ _ _ h=>h⟩
 ·exact ownsRow_setCell_below ((h.oN.alloc _).kept E (zg8 h.oN h.oL (by decide))) (by simp) _
 ·exact fun z A=>⟨(h.aN z A).1,(h.aN z A).2.stp (hst _ (by decide)) fun _ _ _ _ _ _ h=>h⟩
 ·exact ownsRow_setCell_below ((h.oT.alloc _).kept E (zg8 h.oT h.oL (by decide))) (by simp) _
 ·exact fun z A=>⟨(h.aT z A).1,(h.aT z A).2.stp (hst _ (by decide)) fun _ _ _ _ _ _ h=>h⟩
 ·rw [List.length_append,ze7];exact ownsRow_setCell_below ho (by simp) _
 intro z A;rcases List.mem_append.1 A with A | A
 ·exact ⟨(h.aL z A).1,(h.aL z A).2.stp (hst _ (by decide)) fun _ _ _ _ _ _ h=>h⟩
 rw [List.mem_singleton]at A;subst A;exact ⟨rfl,jv.stp ⟨u,rfl,hu⟩ (hst _ (by decide)) fun _ _ _ _ _ _ h=>h⟩
theorem Wv.rowsF {u W:World} {l:List am} {J O F N V L:Value} {A:List (List Value×List bo)} {Y:List (List Value×List ByteArray)} {Z:List (List Value×List cd)} {X:List (List Value×List Nat)} (h:Wv u W l J O F N V L A Y Z X) (hl:A.length<=1000):SL 1 (jv 3 RF) (MT u.heap.size [125,126] W) W F (A.map (·.2)):=
 ze4 (n:=1) (R:=jv 3 RF) (T:=[125,126]) (zbi h.oF (B':=u.heap.size) (by omega)) (fun z E=>⟨(h.aF z E).1,by
  obtain ⟨v,e,I⟩:=(h.aF z E).2;exact ⟨v,e,I.mono (fun _ G=>G.more (nlq _) (fun _ D=>by simp at D;simp [D])) fun _ _ h=>h⟩⟩) (by simp) (by unfold maxLen;omega)
theorem Wv.rowsN {u W:World} {l:List am} {J O L F V N:Value} {X:List (List Value×List bo)} {A:List (List Value×List ByteArray)} {Z:List (List Value×List cd)} {Y:List (List Value×List Nat)} (h:Wv u W l J O L F V N X A Z Y) (hl:A.length<=1000):SL 1 (jv 1 RS) (MT u.heap.size [9,225] W) W F (A.map (·.2)):=
 ze4 (n:=1) (R:=jv 1 RS) (T:=[9,225]) (zbi h.oN (B':=u.heap.size) (by omega)) (fun z E=>⟨(h.aN z E).1,by
  obtain ⟨v,e,I⟩:=(h.aN z E).2;exact ⟨v,e,I.mono (fun _ G=>G.more (nlq _) (fun _ D=>by simp at D;simp [D])) fun _ _ h=>h⟩⟩) (by simp) (by unfold maxLen;omega)
theorem Wv.rowsT {u W:World} {l:List am} {J V L O F N:Value} {X:List (List Value×List bo)} {Z:List (List Value×List ByteArray)} {A:List (List Value×List cd)} {Y:List (List Value×List Nat)} (h:Wv u W l J V L O F N X Z A Y) (hl:A.length<=1000):SL 1 (jv 2 RT) (MT u.heap.size [233,226] W) W F (A.map (·.2)):=
 ze4 (n:=1) (R:=jv 2 RT) (T:=[233,226]) (zbi h.oT (B':=u.heap.size) (by omega)) (fun z E=>⟨(h.aT z E).1,by
  obtain ⟨v,e,I⟩:=(h.aT z E).2;exact ⟨v,e,I.mono (fun _ G=>G.more (nlq _) (fun _ D=>by simp at D;simp [D])) fun _ _ h=>h⟩⟩) (by simp) (by unfold maxLen;omega)
theorem Wv.rowsL {u W:World} {l:List am} {J O L N V F:Value} {X:List (List Value×List bo)} {Y:List (List Value×List ByteArray)} {Z:List (List Value×List cd)} {A:List (List Value×List Nat)} (h:Wv u W l J O L N V F X Y Z A) (hl:A.length<=1000):SL 1 (jv 1 RO) (MT u.heap.size [3,22] W) W F (A.map (·.2)):=
 ze4 (n:=1) (R:=jv 1 RO) (T:=[3,22]) (zbi h.oL (B':=u.heap.size) (by omega)) (fun z E=>⟨(h.aL z E).1,by
  obtain ⟨v,e,I⟩:=(h.aL z E).2;exact ⟨v,e,I.mono (fun _ G=>G.more (nlq _) (fun _ D=>by simp at D;simp [D])) fun _ _ h=>h⟩⟩) (by simp) (by unfold maxLen;omega)
end Go.Proofs.YtjdnmblggdobgaaGreat
namespace Go.Proofs.YtjdnmblggdobgaaGreat
open Go.RowKit
def meth0:dx:=⟨⟨#[]⟩,false,[],⟨0,⟨#[]⟩⟩,0,0,⟨#[]⟩,[]⟩
def mc (l:List am) (t:cd):dx:=((b8 l t.da.toNat).ar[t.meth.toNat]?).getD meth0
def okT (l:List am) (t:cd):Prop:=∃c j:Nat,t=⟨c,j⟩/\c<l.length/\j<(b8 l c).ar.length
def j7 (l:List am) (n:Nat) (m:dx):Bool:=
 if iu (d9 l n) m.name<0 then true else
  match (d7 l n)[(iu (d9 l n) m.name).toNat]? with
  | none=>true
  | some t=>!m.static&& !(mc l t).static&&dw m.ret (mc l t).ret&&cz dw m.args (mc l t).args
def ll (l:List am):Bool:=(List.range l.length).all fun i=>decide ((b8 l i).bq=(⟨#[]⟩:ByteArray))||(b8 l i).ar.all (j7 l (dj l i).toNat)
theorem ziz (l:List am) (P:List (ByteArray×cd)):∀u:List ByteArray×List cd,(∀t∈u.2,okT l t)->(∀x∈P,okT l x.2)->∀t∈(P.foldl ed u).2,okT l t:=by
 induction P with
 | nil=>exact fun u h _=>h
 | cons x P ih=>
   intro u h D;refine ih (ed u x) ?_ fun y F=>D y (List.mem_cons_of_mem _ F);have E:=D x (List.mem_cons_self ..);unfold ed;split
   ·intro t A;rcases List.mem_or_eq_of_mem_set A with h1 | h1
    ·exact h t h1
    rw [h1];exact E
   intro t A;rcases List.mem_append.1 A with h1 | h1
   ·exact h t h1
   rw [List.mem_singleton.1 h1];exact E
theorem zi0 {l:List am} {n:Nat} (D:n<l.length):∀t∈d7 l n,okT l t:=by refine ziz l _ ([],[]) (fun t h=>by cases h) fun x u=>?_;obtain ⟨k,A,u⟩:=List.mem_flatMap.1 u;obtain ⟨p,E,rfl⟩:=List.mem_map.1 u;refine ⟨k,p.2,rfl,zgy D k A,?_⟩;have:=List.mem_zipIdx E;omega
theorem zi1 (l:List am) (n:Nat):(d9 l n).length=(d7 l n).length:=zhd _ ([],[]) rfl
theorem zi2 {l:List am} {c j:Nat} (h:j<(b8 l c).ar.length):mc l ⟨c,j⟩=(b8 l c).ar[j]:=by simp [mc,h]
theorem zi3 {l:List am} {n:Nat} {m:dx} (h:iu (d9 l n) m.name<0):j7 l n m=true:=if_pos h
theorem zi4 {l:List am} {n k c j:Nat} {m:dx} (h:iu (d9 l n) m.name=k) (A:k<(d7 l n).length) (D:(d7 l n)[k]=⟨c,j⟩) (u:j<(b8 l c).ar.length):
 j7 l n m=(!m.static&& !(b8 l c).ar[j].static&&dw m.ret (b8 l c).ar[j].ret&&cz dw m.args (b8 l c).ar[j].args):=by
 rw [j7,h,if_neg (by omega),Int.toNat_natCast,List.getElem?_eq_getElem A,D];show (!m.static&& !(mc l ⟨c,j⟩).static&&dw m.ret (mc l ⟨c,j⟩).ret&&cz dw m.args (mc l ⟨c,j⟩).args)=_;rw [zi2 u]
end Go.Proofs.YtjdnmblggdobgaaGreat
