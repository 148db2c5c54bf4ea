import Derived.Test.YtjdnmblggdobgaaGreatJLLineLLn
import Derived.Deep.AppendSrc
set_option maxHeartbeats 8000000
set_option maxRecDepth 100000
namespace Go.Proofs.YtjdnmblggdobgaaGreat
open Go.RowKit Tryz List Or World
section
open Go
variable {P:Program} (w:World)
theorem zfy (t F e:TypeId) (i:TypeInfo) (D:P.underlying t=some (.slice e)) (hi:P.info? e=some i) (a:Option Addr) (n c:Nat) (I:n<=c) (G:a=none\/∃g,a=some ⟨g,0,none⟩) (x:Option Addr) (A:Nat):
 (Builtin.append_ #[t,t] F #[.slice a n c,.slice x 0 A]).run P w=.ok (.slice a n c) w:=by
 have E:Src P i.size t (.slice x 0 A) 0 [] w:=by
  cases x with
  | none=>exact Src.ofNil w D A
  | some ad=>exact Src.ofSlice w D ad 0 A [] (by simp) (fun j u h=>by simp at h) (fun u h=>by cases h)
 rcases G with rfl | ⟨g,rfl⟩
 ·simp [Builtin.append_,run_underlying D,sizeOf,typeInfo,hi,E.len,I,E.cells]
 have:=run_append_room_src w t t F e i D hi g 0 n c (.slice x 0 A) 0 [] E (by omega) (fun j h=>by cases h) (fun j h=>by cases h);rw [this];rfl
theorem zfz {ops:Array Oper} {rest:List Oper} {o:Oper} {a:Act} {Q:Exit->Act->World->Prop} (D:o.guard=none) (s x:Operand) (t:TypeId) (L:o.op=.call { callee:=.builtin .append,args:=#[s,x],argTypes:=#[t,t] }) (e:TypeId) (i:TypeInfo) (V:P.underlying t=some (.slice e)) (hi:P.info? e=some i) (A:Option Addr) (n c:Nat) (O:a.eval s=.slice A n c) (J:n<=c) (I:A=none\/∃g,A=some ⟨g,0,none⟩) (F:Option Addr) (E:Nat) (W:a.eval x=.slice F 0 E) (h:wpList P ops Q rest (a.put o.dst (.slice A n c)) w):wpList P ops Q (o::rest) a w:=by
 refine wpList_plain D fun K G=>?_;have N:=zfy (P:=P) w t o.type e i V hi A n c J I F E;unfold Oper.wp execOp;simp only [L,resolve,invoke,builtin,Sem.run_bind,Sem.run_pure,Result.andThen_ok,map_toArray,map_cons,map_nil,O,W,N];exact G _ _ h
theorem zf0 {w:World} {B e n len:Nat} {a:Option Addr} {c:Nat} {xs:List Value} (h:w.ownsRow B e n (.slice a len c) len xs):len<=c/\(a=none\/∃g,a=some ⟨g,0,none⟩):=by
 rcases h.2 with ⟨e,h0⟩ | ⟨g,cap,A,e,_,_,hc,_⟩
 ·exact ⟨by omega,inl (Value.slice.inj e).1⟩
 obtain ⟨D,_,E⟩:=Value.slice.inj e;exact ⟨by omega,inr ⟨g,D⟩⟩
end
section
open Go.Sort
variable (ts:List dc) (P:List (ByteArray×dc)) {α:Type} {n:Nat} {R:(Nat->Prop)->World->List Value->α->Prop} {M:Nat->Prop} {B:Nat} {T:List Nat} {w w' D A W:World} {l:List aq} {Y vS Z vN vT L V N G X O vL:Value} {zF:List (List Value×List bv)} {zN:List (List Value×List ByteArray)}
theorem xw:(prog.info? 125).map (fun i=>(i.zero,i.size,i.bytes))=some (some (.agg #[.string ⟨#[]⟩,.i 0,.string ⟨#[]⟩]),3,40):=by kernel_rfl
theorem zgn (l:List aq):∀(f:Nat) (m:Int),m<l.length->∀k∈gq l f m,k<l.length
 | 0,_,_,k,A=>by cases A
 | f+1,m,hm,k,A=>by
   unfold gq at A;split at A
   ·rcases mem_cons.1 A with rfl | A
    ·omega
    exact zgn l f _ (zfu l _).2 k A
   cases A
theorem zgo (l:List aq):∀(f:Nat) (m:Int),(gq l f m).length<=f
 | 0,_=>by simp [gq]
 | f+1,m=>by
   unfold gq;split
   ·have:=zgo l f (dv l m.toNat);simp;omega
   simp
theorem zgp {n:Nat} (D:n<l.length):∀k∈dt l n,k<l.length:=fun k A=>zgn l _ n (by omega) k (by simpa [dt]using A)
theorem zgq (l:List aq) (n:Nat):(dt l n).length<=l.length+1:=by rw [dt,length_reverse];exact zgo l _ _
def iz (f:bv):List Value:=[.string f.name,.i f.kind.kind,.string f.kind.dj]
theorem zd (b off j:Nat):(⟨b,off,none⟩:Addr).add j=⟨b,off+j,none⟩:=by unfold Addr.add;split<;>simp_all
theorem zgt {b off len cap:Nat} {l:List α} (f:α->List Value) (X:0<n) (I:∀x∈l,(f x).length=n) (L:∀F x,R M w F x->F=f x) (h:SL n R M w (.slice (some ⟨b,off,none⟩) len cap) l):∀j u,(l.flatMap f)[j]? =some u->w.cell? ((⟨b,off,none⟩:Addr).add j)=some u:=by
 intro j u E;have D:(l.flatMap f).length=l.length*n:=by
  clear h L E;induction l with
  | nil=>simp
  | cons x l ih=>
    rw [flatMap_cons,length_append,ih (fun y Y=>I y (by simp [Y])),I x (by simp),length_cons,Nat.add_mul];omega
 have W:j<l.length*n:=by rw [<-D];exact (List.getElem?_eq_some_iff.1 E).1
 have N:j / n<l.length:=Nat.div_lt_of_lt_mul (by rw [Nat.mul_comm];exact W);have O:j % n<n:=Nat.mod_lt _ X;have A:j / n*n+j % n=j:=by rw [Nat.mul_comm];exact Nat.div_add_mod j n
 obtain ⟨Z,V,F,e,_,_,_,hc,J⟩:=h.at (j / n) N;cases e;have G:=L _ _ J;rw [<-A,B3 f l (j / n) (j % n) I N O]at E;have:=hc (j % n) O;rw [G,E]at this;rw [zd,<-A,<-Nat.add_assoc];exact this
theorem zgu {l:List bv} :(l.flatMap iz).length=l.length*3:=by
 induction l with
 | nil=>rfl
 | cons x l ih=>rw [flatMap_cons,length_append,ih,length_cons];simp [iz];omega
theorem zgv (l:List bv):∀u∈l.flatMap iz,u.oneCell'=true:=by intro u A;obtain ⟨f,_,A⟩:=mem_flatMap.1 A;simp [iz]at A;rcases A with rfl | rfl | rfl<;>rfl
theorem zgw (w:World) (B b:Nat) (l:List aq) (n:Nat) (hn:n<l.length) (ao:Option Addr) (cl:Nat) (c0:w.cell? ⟨b,0,none⟩=some (.slice ao l.length cl)) (sC:SL 4 RC (· <B) w (.slice ao l.length cl) l)
 (vL:Value) (LL:List (List Nat)) (c6:w.cell? ⟨b,6,none⟩=some vL) (sL:SL 1 (la 1 RO) (MT B [3,22] w) w vL LL) (a8:n<LL.length) (ac:LL[n]=dt l n) (hB:B<=w.heap.size) (hN:l.length<=10) (hF:∀c∈l,c.fields.length<=6):
 Calls prog 201 #[.p b,.i n] w fun r w'=>Bl w w'/\∃v,r=.returned v/\SL 3 RF (MT w.heap.size [125] w') w' v (fieldsOf l n):=by
 obtain ⟨iF,ah,al,am,an⟩:=info_parts xw;have a6:b<w.heap.size:=block_lt_of_cell? w _ c0;have az:=aj ac;have HC:=aj sC;have a9:=sL;obtain ⟨aL,cL,rfl,-⟩:=a9;obtain ⟨bL,oL,aI,cI,rfl,bh,eL,sI⟩:=sL.atSl n a8;rw [az.o]at eL sI;have ai:=zgp hn;have bm:=zgq l n;have ay:Hid (fieldsOf l n=(dt l n).flatMap fun k=>(cz l k).fields):=rfl;generalize dt l n=ln at*;have HI:=aj sI;have HK:=aj ai;have aw:=aj hF;have bs:(0:Int)<=n:=by omega
 have bu:(n:Int)<LL.length:=by omega
 clear sC sL sI ac ai hF;go_enter func201,ntmps201
 go_wp21
 go_loopw [5,16] (fun v i wr=>∃(k:Nat) (fs:List bv),k<=ln.length/\i=.i k/\Hid (fs=(ln.take k).flatMap fun k=>(cz l k).fields)/\fs.length<=6*k/\Hid (∀f∈fs,f.name.size<=maxLen/\f.kind.dj.size<=maxLen)/\wr.ownsRow w.heap.size 125 3 v fs.length (fs.flatMap iz)/\Bl w wr) (fun _ i _=>ln.length - (intOf i).toNat)
 case atStart=>exact ⟨0,[],n0q _,rfl,rfl,by simp,(fun f F=>by cases F),ownsRow_nil _ _ _ _,br _ _⟩
 case round=>
  obtain ⟨k,fs,hk,rfl,HP,bl,V,A,E⟩:=hrel;obtain ⟨a5,c5,rfl⟩:=ku A;have ak:=E.size;by_cases W:k<ln.length;rotate_left
  ·have HX:Hid (fieldsOf l n=fs):=by
    show _=_;rw [ay.o,HP.o,take_of_length_le (by omega)]
   have X:(fs.map fun f=>(iz f,f)).length=fs.length:=by simp
   have au:(fs.map fun f=>(iz f,f)).flatMap (·.1)=fs.flatMap iz:=by rw [flatMap_map]
   have SV:=aj (xr (n:=3) (R:=RF) (T:=[125]) (zs:=fs.map fun f=>(iz f,f)) (by rw [X,au];exact A) (fun z hz=>by
    obtain ⟨f,F,rfl⟩:=mem_map.1 hz;exact ⟨rfl,rfl,V.o f F⟩) (by simp) (by rw [X];unfold maxLen;omega))
   clear X au A
   go_wp21
   go_ret;exact ⟨E,_,rfl,by rw [HX.o];have:=SV.o;rwa [map_map,show ((·.2)∘fun f:bv=>(iz f,f))=id from rfl,map_id]at this⟩
  obtain ⟨bi,oi,rfl,a4,ei⟩:=HI.o.atO k W;have a2:=(E.cell (p:=⟨bi,oi+k,none⟩) a4).trans ei;have G:=HK.o ln[k] (gm W);have d0:wr.cell? ⟨b,0,none⟩=some (.slice ao l.length cl):=(E.cell (p:=⟨b,0,none⟩) a6).trans c0;obtain ⟨bc,oc,vf,vm,rfl,bj,e0,e1,e2,e3,ef,em,bb,bd⟩:=(HC.o.keptC (Kp.below (E.mono hB))).atC ln[k] G;have bk:=aw.o l[ln[k]] (gm G);have av:Hid (cz l ln[k]=l[ln[k]]):=tu G;obtain ⟨m,hm⟩:∃m,m=ln[k]:=⟨_,rfl⟩;have HM:=aj hm;generalize hcc:l[ln[k]]=cc at*;clear hcc;rw [<-hm]at a2 e0 e1 e2 e3 G;have bn:(0:Int)<=m:=by omega
  have bo:(m:Int)<l.length:=by omega
  have EF:=aj ef;obtain ⟨fo,cf,rfl,-⟩:=ef;have O:=aj A;have L:∀f∈cc.fields,f.name.size<=maxLen/\f.kind.dj.size<=maxLen:=by intro f F;obtain ⟨q,hq,rfl⟩:=getElem_of_mem F;obtain ⟨_,_,_,_,_,_,_,h1,h2⟩:=EF.o.atF q hq;exact ⟨h1,h2⟩
  have a1:=aj L;have aa:Hid ((ln.take (k+1)).flatMap (fun k=>(cz l k).fields)=fs++cc.fields):=by show _=_;rw [take_succ_eq_append_getElem W,flatMap_append,<-HP.o];simp [av.o]
  clear hm ei L;by_cases h0:cc.fields= []
  ·have a0:=aj h0;rw [h0]at e2;clear h0;obtain ⟨af,ad⟩:=zf0 A;go_wp2_with (at_builtin;refine zfz _ rfl _ _ 126 rfl 125 iF underlying126 ah a5 fs.length c5 rfl af ad fo cf rfl ?_);clear ad af
   go_wp21
   go_roundw
   case rel=>exact ⟨k+1,fs,by omega,by go_num,by show _=_;have:=aa.o;rw [a0.o,append_nil]at this;exact this.symm,by omega,V.o,O.o,E⟩
   case measure=>simp [intOf];omega
  have J:0<cc.fields.length:=length_pos_iff.2 h0;obtain ⟨Y,of,a7⟩:∃Y of,fo=some ⟨Y,of,none⟩:=by obtain ⟨Y,of,e,_⟩:=EF.o.atF 0 J;exact ⟨Y,of,e⟩
  subst a7;have N:Hid (∀j u,(cc.fields.flatMap iz)[j]? =some u->wr.cell? ((⟨Y,of,none⟩:Addr).add j)=some u):=zgt iz (by decide) (fun x _=>rfl) (fun _ _ h=>h.1) EF.o;have Z:Hid (fs.length+cc.fields.length<=maxLen/\(fs.length+cc.fields.length)*40<=140737488355328):=⟨by unfold maxLen;omega,by omega⟩;clear h0;go_wp2_with (at_builtin;refine wpList_append_lies _ rfl _ _ 126 rfl w.heap.size 125 iF (.agg #[.string ⟨#[]⟩,.i 0,.string ⟨#[]⟩]) 3 40 underlying126 ah al am an rfl (by decide) (.slice a5 fs.length c5) fs.length (fs.flatMap iz) rfl O.o ⟨Y,of,none⟩ cc.fields.length cf (cc.fields.flatMap iz) rfl zgu N.o (zgv _) J Z.o.1 Z.o.2 ak _ rfl ?_);intro g cap w1 D I ae ba;have HX:=aj (And.intro D (E.grown I ak (fun k e=>(O.o.lt k e).1)));clear D I ae A E
  go_wp21
  go_roundw
  case rel=>
   obtain ⟨D,a3⟩:=HX.o;refine ⟨k+1,fs++cc.fields,by omega,by go_num,aa.o.symm,by simp;omega,?_,?_,a3⟩
   ·show ∀f∈_,_;intro f F;rcases mem_append.1 F with F | F
    ·exact V.o f F
    exact a1.o f F
   rw [length_append,flatMap_append];exact D
  case measure=>simp [intOf];omega
theorem A3:(prog.info? 9).map (fun i=>(i.zero,i.size,i.bytes))=some (some (.string ⟨#[]⟩),1,16):=by kernel_rfl
theorem zq:(prog.info? 233).map (fun i=>(i.zero,i.size,i.bytes))=some (some (.agg #[.i 0,.i 0]),2,16):=by kernel_rfl
theorem s9 {k j t:Nat} {A:Array Value} {D:Nat×Nat} (h:W.heap[k]? =some (.cells A t D)) (v:Value):(W.setCell ⟨k,j,none⟩ v).heap[k]? =some (.cells (A.setIfInBounds j v) t D):=by simp [setCell,Array.getElem?_modify,h]
theorem B4 {B e A g cap n:Nat} {xs:List Value} (h:w.ownsRow B e A (.slice (some ⟨g,0,none⟩) n cap) n xs) (j:Nat) (v:Value):(w.setCell ⟨g,j,none⟩ v).ownsRow B e A (.slice (some ⟨g,0,none⟩) n cap) n (xs.set j v):=by
 refine ⟨by rw [length_set];exact h.1,?_⟩;rcases h.2 with ⟨e,_⟩ | ⟨N,E,D,e,F,G,hc,I,J,L⟩
 ·cases e
 cases e;refine inr ⟨g,cap,D.setIfInBounds j v,rfl,F,s9 G v,hc,I,by simpa using J,?_⟩;rw [<-L];simp [take_set]
theorem tw {B B' e I n V k O:Nat} {v J:Value} {xs E:List Value} (h:w.ownsRow B e n v k xs) (h':w.ownsRow B' I V J O E) (D:e≠I):v.ownBlock=none\/v.ownBlock≠J.ownBlock:=by
 rcases h.2 with ⟨rfl,_⟩ | ⟨g,cap,L,rfl,_,N,_⟩
 ·exact inl rfl
 rcases h'.2 with ⟨rfl,_⟩ | ⟨W,F,G,rfl,_,A,_⟩
 ·exact inr (by simp [Value.ownBlock])
 refine inr fun e=>?_;simp [Value.ownBlock]at e;subst e;rw [N]at A;cases A;exact D rfl
def my (ns:List ByteArray):List Value:=ns.map Value.string
def ja (t:dc):List Value:=[.i t.dj,.i t.uf]
theorem Dv:(ts.flatMap ja).length=ts.length*2:=by
 induction ts with
 | nil=>rfl
 | cons x l ih=>rw [flatMap_cons,length_append,ih,length_cons];simp [ja];omega
theorem zg0 (ns:List ByteArray):ns.flatMap (fun s=>[Value.string s])=my ns:=by
 induction ns with
 | nil=>rfl
 | cons x l ih=>rw [flatMap_cons,ih];rfl
theorem zg1 {B:Nat} {v:Value} {ns:List ByteArray} (h:w.ownsRow B 9 1 v ns.length (my ns)) (F:∀s∈ns,s.size<=maxLen) (G:ns.length<=1000):SL 1 RS (MT B [9] w) w v ns:=by
 have A:(ns.map fun s=>([Value.string s],s)).length=ns.length:=by simp
 have E:(ns.map fun s=>([Value.string s],s)).flatMap (·.1)=my ns:=by rw [flatMap_map];exact zg0 ns
 have:=xr (n:=1) (R:=RS) (T:=[9]) (zs:=ns.map fun s=>([Value.string s],s)) (by rw [A,E];exact h) (fun z A=>by
  obtain ⟨s,D,rfl⟩:=mem_map.1 A;exact ⟨rfl,rfl,F s D⟩) (by simp) (by rw [A];unfold maxLen;omega)
 rwa [map_map,show ((·.2)∘fun s:ByteArray=>([Value.string s],s))=id from rfl,map_id]at this
theorem zg2 {B:Nat} {v:Value} {ts:List dc} (h:w.ownsRow B 233 2 v ts.length (ts.flatMap ja)) (F:ts.length<=1000):SL 2 RT (MT B [233] w) w v ts:=by
 have A:(ts.map fun s=>(ja s,s)).length=ts.length:=by simp
 have D:(ts.map fun s=>(ja s,s)).flatMap (·.1)=ts.flatMap ja:=by rw [flatMap_map]
 have:=xr (n:=2) (R:=RT) (T:=[233]) (zs:=ts.map fun s=>(ja s,s)) (by rw [A,D];exact h) (fun z A=>by
  obtain ⟨s,E,rfl⟩:=mem_map.1 A;exact ⟨rfl,rfl⟩) (by simp) (by rw [A];unfold maxLen;omega)
 rwa [map_map,show ((·.2)∘fun s:dc=>(ja s,s))=id from rfl,map_id]at this
theorem zg3 (k:Nat) (t:dc):((ts.flatMap ja).set (k*2) (.i t.dj)).set (k*2+1) (.i t.uf)=(ts.set k t).flatMap ja:=by
 induction ts generalizing k with
 | nil=>simp
 | cons x l ih=>
   cases k with
   | zero=>simp [ja]
   | succ k=>
     rw [p3q,flatMap_cons,flatMap_cons,<-ih k];have A:(k+1)*2=k*2+1+1:=by omega
     rw [A];simp [ja]
theorem zg4:∀A:List ByteArray×List dc,A.1.length=A.2.length->(P.foldl fh A).1.length=(P.foldl fh A).2.length:=by
 induction P with
 | nil=>exact fun _ h=>h
 | cons x P ih=>
   intro A h;refine ih _ ?_;unfold fh;split
   ·simpa using h
   simp [h]
theorem zg5 (x:ByteArray×dc):(P++ [x]).foldl fh ([],[])=fh (P.foldl fh ([],[])) x:=by rw [foldl_append];rfl
theorem zg6 (l:List ByteArray) (s:ByteArray):js l s<l.length:=by
 unfold js;split
 ·rename_i i h;have:=(findIdx?_eq_some_iff_getElem.1 h).1;omega
 omega
theorem zg7 (l:List aq) (n:Nat):(li l n).length=(cz l n).bd.length:=by simp [li]
theorem zg8 (l:List aq) (n j:Nat) (h:j<(li l n).length) (h':j<(cz l n).bd.length):(li l n)[j]=((cz l n).bd[j].name,⟨n,j⟩):=by simp [li]
theorem zg9 (w:World) (B b:Nat) (l:List aq) (n:Nat) (hn:n<l.length) (ao:Option Addr) (cl:Nat) (c0:w.cell? ⟨b,0,none⟩=some (.slice ao l.length cl)) (sC:SL 4 RC (· <B) w (.slice ao l.length cl) l)
 (vL:Value) (LL:List (List Nat)) (c6:w.cell? ⟨b,6,none⟩=some vL) (sL:SL 1 (la 1 RO) (MT B [3,22] w) w vL LL) (du:n<LL.length) (b3:LL[n]=dt l n) (hB:B<=w.heap.size) (hN:l.length<=10) (hF:∀c∈l,c.bd.length<=8):
 Calls prog 202 #[.p b,.i n] w fun r w'=>Bl w w'/\∃v u,r=.returned (.tuple #[v,u])/\SL 1 RS (MT w.heap.size [9] w') w' v (fg l n)/\SL 2 RT (MT w.heap.size [233] w') w' u (fd l n):=by
 obtain ⟨iS,dg,ce,cf,ci⟩:=info_parts A3;obtain ⟨iT,dk,cj,ck,cn⟩:=info_parts zq;have dd:b<w.heap.size:=block_lt_of_cell? w _ c0;have cs:=aj b3;have HC:=aj sC;have d1:=sL;obtain ⟨aL,cL,rfl,-⟩:=d1;obtain ⟨bL,oL,aI,cI,rfl,eg,eL,sI⟩:=sL.atSl n du;rw [cs.o]at eL sI;have cc:=zgp hn;have ej:=zgq l n;have c1:Hid (kr l n=((dt l n).flatMap (li l)).foldl fh ([],[])):=rfl;generalize dt l n=ln at*;have HI:=aj sI;have HK:=aj cc;have cp:=aj hF;have en:(0:Int)<=n:=by omega
 have eo:(n:Int)<LL.length:=by omega
 clear sC sL sI b3 cc hF;go_enter func202,ntmps202
 go_wp21
 go_loopw [6,7,22] (fun v u i wr=>∃(k:Nat) (ns:List ByteArray) (ts:List dc),k<=ln.length/\i=.i k/\Hid ((ns,ts)=((ln.take k).flatMap (li l)).foldl fh ([],[]))/\ns.length<=8*k/\Hid (ts.length=ns.length)/\Hid (∀s∈ns,s.size<=maxLen)/\
  wr.ownsRow w.heap.size 9 1 v ns.length (my ns)/\wr.ownsRow w.heap.size 233 2 u ts.length (ts.flatMap ja)/\Bl w wr) (fun _ _ i _=>ln.length - (intOf i).toNat)
 case atStart=>exact ⟨0,[],[],n0q _,rfl,rfl,by simp,rfl,(fun f hf=>by cases hf),ownsRow_nil _ _ _ _,ownsRow_nil _ _ _ _,br _ _⟩
 case round=>
  obtain ⟨k,ns,ts,hk,rfl,HP,b7,G,L,E,A,I⟩:=hrel;obtain ⟨a6,c6,rfl⟩:=ku E;obtain ⟨a7,c7,rfl⟩:=ku A;have an:=I.size;by_cases bj:k<ln.length;rotate_left
  ·have HX:Hid (kr l n=(ns,ts)):=by
    show _=_;rw [c1.o,HP.o,take_of_length_le (by omega)]
   have SN:=aj (zg1 E L.o (by omega));have ST:=aj (zg2 A (by have:=G.o;omega));clear E A
   go_wp21
   go_ret2
   exact ⟨I,_,_,rfl,by rw [fg,HX.o];exact SN.o,by rw [fd,HX.o];exact ST.o⟩
  obtain ⟨bi,oi,rfl,c9,ei⟩:=HI.o.atO k bj;have c3:=(I.cell (p:=⟨bi,oi+k,none⟩) c9).trans ei;have bk:=HK.o ln[k] (gm bj);have d0:wr.cell? ⟨b,0,none⟩=some (.slice ao l.length cl):=(I.cell (p:=⟨b,0,none⟩) dd).trans c0;obtain ⟨bc,oc,vf,vm,rfl,b5,e0,e1,e2,e3,ef,em,c4,c5⟩:=HC.o.atC ln[k] bk;have b2:=(I.cell (p:=⟨bc,oc+ln[k]*4+3,none⟩) b5).trans e3;have b6:=cp.o l[ln[k]] (gm bk);have b0:Hid ((ln.take (k+1)).flatMap (li l)=(ln.take k).flatMap (li l)++li l ln[k]):=by show _=_;rw [take_succ_eq_append_getElem bj,flatMap_append];simp
  clear e0 e1 e2 e3 ef c4 c5 ei b5;rw [<-tu bk]at em b6;obtain ⟨mo,cm,rfl,-⟩:=id em;have co:=aj em;have e4:=b2;clear em b2;generalize ln[k]=m at*;have b1:=aj (zg7 l m);generalize hms:(cz l m).bd=ms at*;have bs:=aj hms;clear hms;have ek:(0:Int)<=m:=by omega
  have el:(m:Int)<l.length:=by omega
  have cv:=aj HP.o;obtain ⟨PK,ba⟩:∃PK,PK=(ln.take k).flatMap (li l):=⟨_,rfl⟩;rw [<-ba]at HP b0 cv;have eb:=aj ba;clear ba
  go_wp21
  go_loopw [6,7,36] (fun v u i J=>∃(j:Nat) (ns:List ByteArray) (ts:List dc),j<=ms.length/\i=.i j/\Hid ((ns,ts)=(PK++(li l m).take j).foldl fh ([],[]))/\ns.length<=8*k+j/\Hid (ts.length=ns.length)/\Hid (∀s∈ns,s.size<=maxLen)/\
   J.ownsRow w.heap.size 9 1 v ns.length (my ns)/\J.ownsRow w.heap.size 233 2 u ts.length (ts.flatMap ja)/\Bl w J) (fun _ _ i _=>ms.length - (intOf i).toNat)
  case atStart=>exact ⟨0,ns,ts,n0q _,rfl,by show _=_;rw [take_zero,append_nil];exact HP.o,by omega,G.o,L.o,E,A,I⟩
  case round=>
   clear E A I HP L b7 G an d0 c3 e4
   rename World=>J
   obtain ⟨j,ns,ts,hj,rfl,HP,b7,G,L,E,A,I⟩:=hrel;obtain ⟨a6,c6,rfl⟩:=ku E;obtain ⟨a7,c7,rfl⟩:=ku A;have an:=I.size;by_cases bh:j<ms.length
   ·obtain ⟨bm,om,va,vh,ds,eh,q0,q1,q2,q3,q4,q5,q6,q7,q8,sa,sh,d2,eu,ex⟩:=(co.o.keptM (Kp.below (I.mono hB))).atM j bh;subst ds;obtain ⟨X,Z,rfl,-⟩:=sa;obtain ⟨Y,ch,rfl,-⟩:=sh;have bx:Hid (PK++(li l m).take (j+1)=(PK++(li l m).take j)++ [(ms[j].name,⟨m,j⟩)]):=by
     show _=_;have b9:j<(li l m).length:=by rw [b1.o];exact bh
     rw [take_succ_eq_append_getElem b9,append_assoc,zg8 l m j b9 (by rw [bs.o];exact bh)];congr 3;simp [bs.o]
    have W:=aj E;have F:=aj A;have a9:=(I.alloc an (.cells #[.string ms[j].name,.bool ms[j].static,.slice X ms[j].args.length Z,.i ms[j].ret.kind,.string ms[j].ret.dj,.i ms[j].stack,.i ms[j].locals,.string ms[j].code,.slice Y ms[j].hands.length ch] 159));have bl:=aj (a9.alloc a9.size (.cells #[.i m,.i j] 233));generalize hmj:ms[j]=mj at*;clear hmj a9;have SN:Hid (SL 1 RS (MT w.heap.size [9] ((J.alloc (.cells #[.string mj.name,.bool mj.static,.slice X mj.args.length Z,.i mj.ret.kind,.string mj.ret.dj,.i mj.stack,.i mj.locals,.string mj.code,.slice Y mj.hands.length ch] 159)).alloc (.cells #[.i m,.i j] 233))) ((J.alloc (.cells #[.string mj.name,.bool mj.static,.slice X mj.args.length Z,.i mj.ret.kind,.string mj.ret.dj,.i mj.stack,.i mj.locals,.string mj.code,.slice Y mj.hands.length ch] 159)).alloc (.cells #[.i m,.i j] 233)) (.slice a6 ns.length c6) ns):=zg1 ((E.alloc _).alloc _) L.o (by omega);clear E A
    go_wp21
    refine (zfo _ _ _ ns mj.name SN.o).mono ?_;rintro r w1 ⟨rfl,rfl⟩;have dl:=zg6 ns mj.name;by_cases am:0<=js ns mj.name
    ·obtain ⟨D,ad⟩:=Int.eq_ofNat_of_zero_le am;have a4:Hid (fh (ns,ts) (mj.name,⟨m,j⟩)=(ns,ts.set D ⟨m,j⟩)):=by
      show _=_;rw [fh,if_pos am];show (ns,ts.set (js ns mj.name).toNat _)=_;rw [ad];rfl
     rw [ad]at dl ⊢;clear am ad;obtain ⟨V,df,d4⟩:∃V,a7=some ⟨V,0,none⟩/\ts.length<=c7:=by
      obtain ⟨h1,h2⟩:=zf0 F.o;rcases h2 with rfl | ⟨g,rfl⟩
      ·rcases F.o.2 with ⟨e,h0⟩ | ⟨g,_,_,e,_⟩
       ·have:=G.o;omega
       cases e
      exact ⟨g,rfl,h1⟩
     subst df;have bf:=F.o.lt V rfl;have k0:J.cell? ⟨V,D*2,none⟩=(ts.flatMap ja)[D*2]? :=F.o.cellAt _ (by have:=G.o;omega);have k1:J.cell? ⟨V,D*2+1,none⟩=(ts.flatMap ja)[D*2+1]? :=F.o.cellAt _ (by have:=G.o;omega);have ay:D<ts.length:=by have:=G.o;omega
     have es:J.cell? ⟨V,D*2,none⟩=some (.i (ts[D]).dj):=by rw [k0];have:=B3 (n:=2) ja ts D 0 (fun _ _=>rfl) ay (by decide);simpa [ja]using this
     have et:J.cell? ⟨V,D*2+1,none⟩=some (.i (ts[D]).uf):=by rw [k1];have:=B3 (n:=2) ja ts D 1 (fun _ _=>rfl) ay (by decide);simpa [ja]using this
     obtain ⟨au,bb⟩:∃au,J.heap[V]? =some (.cells au 233 (0,0)):=by
      rcases F.o.2 with ⟨e,_⟩ | ⟨g,_,c2,e,_,hb,_⟩
      ·cases e
      cases e;exact ⟨c2,hb⟩
     have z0:∀q,J.frozen? ⟨V,q,none⟩=false:=fun q=>by simp [frozen?,bb]
     have ea:=aj bb;have eq:(0:Int)<=D:=by omega
     have er:(D:Int)<ts.length:=by have:=G.o;omega
     have d3:V<J.heap.size:=bf.2;clear k0 k1 bb
     go_wp21
     go_roundw
     case rel=>
      have ac:=((((I.setCell (p:=⟨V,D*2,none⟩) bf.1 (.i m)).setCell (p:=⟨V,D*2+1,none⟩) bf.1 (.i j)).alloc (by simpa [setCell]using an) (.cells #[.string mj.name,.bool mj.static,.slice X mj.args.length Z,.i mj.ret.kind,.string mj.ret.dj,.i mj.stack,.i mj.locals,.string mj.code,.slice Y mj.hands.length ch] 159)).alloc (by simp [setCell];omega) (.cells #[.i m,.i j] 233));refine ⟨j+1,ns,ts.set D ⟨m,j⟩,by omega,by go_num,?_,by omega,by show _=_;have:=G.o;simpa using this,L.o,?_,?_,ac⟩
      ·show _=_;rw [bx.o,zg5,<-HP.o,a4.o]
      ·refine ((W.o.kept (row:=some V) ?_ ?_).alloc _).alloc _
       ·exact pi (pi (grownBy.refl _ _) _ _ (inl rfl)) _ _ (inl rfl)
       rcases tw W.o F.o (by decide)with h | h
       ·exact inl h
       exact inr h
      have:=B4 (B4 F.o (D*2) (.i m)) (D*2+1) (.i j);rw [zg3 ts D ⟨m,j⟩]at this;rw [length_set];exact (this.alloc _).alloc _
     case measure=>simp [intOf];omega
    have a4:Hid (fh (ns,ts) (mj.name,⟨m,j⟩)=(ns++ [mj.name],ts++ [⟨m,j⟩])):=by show _=_;rw [fh,if_neg am]
    have av:=(W.o.alloc (.cells #[.string mj.name,.bool mj.static,.slice X mj.args.length Z,.i mj.ret.kind,.string mj.ret.dj,.i mj.stack,.i mj.locals,.string mj.code,.slice Y mj.hands.length ch] 159)).alloc (.cells #[.i m,.i j] 233);have aw:=(F.o.alloc (.cells #[.string mj.name,.bool mj.static,.slice X mj.args.length Z,.i mj.ret.kind,.string mj.ret.dj,.i mj.stack,.i mj.locals,.string mj.code,.slice Y mj.hands.length ch] 159)).alloc (.cells #[.i m,.i j] 233);have k0:((J.alloc (.cells #[.string mj.name,.bool mj.static,.slice X mj.args.length Z,.i mj.ret.kind,.string mj.ret.dj,.i mj.stack,.i mj.locals,.string mj.code,.slice Y mj.hands.length ch] 159)).alloc (.cells #[.i m,.i j] 233)).cell? ⟨J.heap.size,0,none⟩=some (.string mj.name):=by simp [go_sem]
    have kt:((J.alloc (.cells #[.string mj.name,.bool mj.static,.slice X mj.args.length Z,.i mj.ret.kind,.string mj.ret.dj,.i mj.stack,.i mj.locals,.string mj.code,.slice Y mj.hands.length ch] 159)).alloc (.cells #[.i m,.i j] 233)).heap[J.heap.size+1]? =some (.cells #[.i m,.i j] 233 (0,0)):=by have:=heap_alloc_new (J.alloc (.cells #[.string mj.name,.bool mj.static,.slice X mj.args.length Z,.i mj.ret.kind,.string mj.ret.dj,.i mj.stack,.i mj.locals,.string mj.code,.slice Y mj.hands.length ch] 159)) (.cells #[.i m,.i j] 233);simpa using this
    have dz:J.heap.size+1<((J.alloc (.cells #[.string mj.name,.bool mj.static,.slice X mj.args.length Z,.i mj.ret.kind,.string mj.ret.dj,.i mj.stack,.i mj.locals,.string mj.code,.slice Y mj.hands.length ch] 159)).alloc (.cells #[.i m,.i j] 233)).heap.size:=by simp
    have a8:=bl.o;generalize ((J.alloc (.cells #[.string mj.name,.bool mj.static,.slice X mj.args.length Z,.i mj.ret.kind,.string mj.ret.dj,.i mj.stack,.i mj.locals,.string mj.code,.slice Y mj.hands.length ch] 159)).alloc (.cells #[.i m,.i j] 233))=W2 at*;generalize js ns mj.name=ix at*;have az:∀q,(Value.slice a6 ns.length c6).ownBlock=some q->w.heap.size<=q/\q<J.heap.size:=fun q e=>W.o.lt q e;have a1:Hid (ns.length+1<=maxLen/\(ns.length+1)*16<=140737488355328/\w.heap.size<=(W2.alloc (.cells #[.string mj.name] 9)).heap.size):=⟨by unfold maxLen;omega,by omega,by have:=a8.size;simp;omega⟩;have cu:=aj av;have cx:=aj aw;have cr:=aj kt;have bo:=aj az;have a3:=aj a8;clear av aw kt az a8 bl SN q0 q1 q2 q3 q4 q5 q6 q7 q8;go_wp2_with (at_builtin;refine wpList_append_lies _ rfl _ _ 225 rfl w.heap.size 9 iS (.string ⟨#[]⟩) 1 16 underlying225 dg ce cf ci rfl (by decide) (.slice a6 ns.length c6) ns.length (my ns) rfl (cu.o.alloc _) ⟨W2.heap.size,0,none⟩ 1 1 [.string mj.name] rfl rfl (news_of_block (heap_alloc_new W2 _)) (by intro u hu;simp at hu;subst hu;rfl) (by omega) a1.o.1 a1.o.2.1 a1.o.2.2 _ rfl ?_);intro g6 ec w3 af N _ d5;have d8:W2.heap.size+1<=w3.heap.size:=by have:=N.size;simpa using this
    have O:w3.heap[J.heap.size+1]? =some (.cells #[.i m,.i j] 233 (0,0)):=by rw [N.block (J.heap.size+1) (by simp;omega) (fun e=>by have:=(bo.o _ e.symm).2;omega),Below.heap_alloc _ _ _ dz];exact cr.o
    have b4:=(cx.o.alloc (.cells #[.string mj.name] 9)).kept N (tw F.o W.o (by decide));have ac:Bl w w3:=(a3.o.alloc a3.o.size _).grown N (by have:=a3.o.size;simp;omega) (fun q e=>(bo.o q e).1);have k3:=bg O 0 (x:=.i m) rfl;have k4:=bg O 1 (x:=.i j) rfl;have a2:Hid (ts.length+1<=maxLen/\(ts.length+1)*16<=140737488355328/\w.heap.size<=(w3.alloc (.cells #[.i m,.i j] 233)).heap.size):=⟨by have:=G.o;unfold maxLen;omega,by have:=G.o;omega,by have:=ac.size;simp;omega⟩;have a5:=aj b4;have bu:=aj af;have a0:=aj ac;clear af N O b4 ac k0;go_wp2_with (at_builtin;refine wpList_append_lies _ rfl _ _ 226 rfl w.heap.size 233 iT (.agg #[.i 0,.i 0]) 2 16 underlying226 dk cj ck cn rfl (by decide) (.slice a7 ts.length c7) ts.length (ts.flatMap ja) rfl (a5.o.alloc _) ⟨w3.heap.size,0,none⟩ 1 1 [.i m,.i j] rfl rfl (news_of_block (heap_alloc_new w3 _)) (by intro u hu;simp at hu;rcases hu with rfl | rfl<;>rfl) (by omega) a2.o.1 a2.o.2.1 a2.o.2.2 _ rfl ?_);intro V ee w4 ai ae _ d6;have al:=(bu.o.alloc (.cells #[.i m,.i j] 233)).kept ae (tw bu.o a5.o (by decide));have ak:Bl w w4:=(a0.o.alloc a0.o.size _).grown ae (by have:=a0.o.size;simp;omega) (fun q e=>(a5.o.lt q e).1);have bn:=aj (And.intro al (And.intro ai ak));clear ai ae al ak k3 k4
    go_wp21
    go_roundw
    case rel=>
     obtain ⟨al,c8,ak⟩:=bn.o;refine ⟨j+1,ns++ [mj.name],ts++ [⟨m,j⟩],by omega,by go_num,?_,by simp;omega,by show _=_;have:=G.o;simp;omega,?_,?_,?_,ak⟩
     ·show _=_;rw [bx.o,zg5,<-HP.o,a4.o]
     ·show ∀s∈_,_;intro s hs;rcases mem_append.1 hs with hs | hs
      ·exact L.o s hs
      rw [mem_singleton]at hs;rw [hs];exact d2
     ·rw [length_append,show my (ns++ [mj.name])=my ns++ [.string mj.name] by simp [my]];exact al
     rw [length_append,flatMap_append];exact c8
    case measure=>simp [intOf];omega
   have HX:Hid ((ns,ts)=((ln.take (k+1)).flatMap (li l)).foldl fh ([],[])):=by show _=_;rw [b0.o,HP.o,take_of_length_le (by rw [b1.o];omega)]
   have ct:=aj E;have cy:=aj A;clear E A
   go_wp21
   go_roundw
   case rel=>exact ⟨k+1,ns,ts,by omega,by go_num,HX.o,by omega,G.o,L.o,ct.o,cy.o,I⟩
   case measure=>simp [intOf];omega
theorem la.stp {A:List Value} {x:List α} (h:la n R (MT B T w) w A x) (E:Stp B T w w') (D:∀M M' w w' A x,R M w A x->R M' w' A x):la n R (MT B T w') w' A x:=by obtain ⟨v,e,h⟩:=h;exact ⟨v,e,(h.kept E.kp fun _ _ h=>D _ _ _ _ _ _ h).mono (fun _ F=>F.step E) fun _ _ h=>D _ _ _ _ _ _ h⟩
theorem km {B:Nat} {e A n:Nat} {v:Value} {xs:List Value} (h:w.ownsRow B e A v n xs) (D:Bl w w'):w'.ownsRow B e A v n xs:=
 h.kept (row:=none) ⟨D.os,D.tape,D.output,D.size,fun k E _=>D.block k E⟩ (by cases v.ownBlock<;>simp)
structure Wv (w0 W:World) (l:List aq) (vC vS vF vN vT vL:Value) (zF:List (List Value×List bv)) (zN:List (List Value×List ByteArray)) (zT:List (List Value×List dc)) (zL:List (List Value×List Nat)):Prop where
 below:Bl w0 W
 blk:W.heap[w0.heap.size+1]? =some (.cells #[vC,vS,vF,vN,vT,.map (some w0.heap.size),vL] 155 (0,0))
 sS:SL 1 RI (MT w0.heap.size [3] W) W vS ((range l.length).map (dv l))
 nm:iy W w0.heap.size l
 oF:W.ownsRow (w0.heap.size+2) 126 1 vF zF.length (zF.flatMap (·.1))
 aF:∀z∈zF,z.1.length=1/\la 3 RF (MT w0.heap.size [125] W) W z.1 z.2
 oN:W.ownsRow (w0.heap.size+2) 225 1 vN zN.length (zN.flatMap (·.1))
 aN:∀z∈zN,z.1.length=1/\la 1 RS (MT w0.heap.size [9] W) W z.1 z.2
 oT:W.ownsRow (w0.heap.size+2) 226 1 vT zT.length (zT.flatMap (·.1))
 aT:∀z∈zT,z.1.length=1/\la 2 RT (MT w0.heap.size [233] W) W z.1 z.2
 oL:W.ownsRow (w0.heap.size+2) 22 1 vL zL.length (zL.flatMap (·.1))
 aL:∀z∈zL,z.1.length=1/\la 1 RO (MT w0.heap.size [3] W) W z.1 z.2
theorem Wv.lt {D I E G J F:Value} {L:List (List Value×List bv)} {O:List (List Value×List ByteArray)} {V:List (List Value×List dc)} {N:List (List Value×List Nat)} (h:Wv A W l D I E G J F L O V N):A.heap.size+1<W.heap.size:=bz h.blk
theorem Wv.grow {O W:World} {l:List aq} {F L G J N I:Value} {V:List (List Value×List bv)} {Y:List (List Value×List ByteArray)} {Z:List (List Value×List dc)} {X:List (List Value×List Nat)} {E:World} (h:Wv O W l F L G J N I V Y Z X) (A:Bl W E):Wv O E l F L G J N I V Y Z X:=
 ⟨h.below.trans (A.mono h.below.size),(A.block _ h.lt).trans h.blk,(h.sS.keptI (Stp.below A).kp).monoI fun _ hk=>hk.step (Stp.below A),h.nm.below A h.nm.lt,
  km h.oF A,(fun z D=>⟨(h.aF z D).1,(h.aF z D).2.stp (Stp.below A) fun _ _ _ _ _ _ h=>h⟩),km h.oN A,(fun z D=>⟨(h.aN z D).1,(h.aN z D).2.stp (Stp.below A) fun _ _ _ _ _ _ h=>h⟩),km h.oT A,(fun z D=>⟨(h.aT z D).1,(h.aT z D).2.stp (Stp.below A) fun _ _ _ _ _ _ h=>h⟩),km h.oL A,(fun z D=>⟨(h.aL z D).1,(h.aL z D).2.stp (Stp.below A) fun _ _ _ _ _ _ h=>h⟩)⟩
theorem Wv.cell {D I E G J F:Value} {N:List (List Value×List bv)} {V:List (List Value×List ByteArray)} {X:List (List Value×List dc)} {O:List (List Value×List Nat)} (h:Wv A W l D I E G J F N V X O) (j:Nat) {x:Value} (L:(#[D,I,E,G,J,.map (some A.heap.size),F]:Array Value)[j]? =some x):W.cell? ⟨A.heap.size+1,j,none⟩=some x:=bg h.blk j L
theorem Wv.addF {vN vT Z:Value} {N:List (List Value×List bv)} {zN:List (List Value×List ByteArray)} {zT:List (List Value×List dc)} {zL:List (List Value×List Nat)} (h:Wv D W l Y vS L vN vT Z N zN zT zL) {u:Value} {x:List bv} (hu:SL 3 RF (MT D.heap.size [125] W) W u x) {I:World} {G:Value} (ho:I.ownsRow (D.heap.size+2) 126 1 G (N.length+1) (N.flatMap (·.1)++ [u])) (E:(W.alloc (.cells #[u] 126)).grownBy I L.ownBlock):
 Wv D (I.setCell ⟨D.heap.size+1,2,none⟩ G) l Y vS G vN vT Z (N++ [([u],x)]) zN zT zL:=by
 have V:=h.lt;have F:∀q,L.ownBlock=some q->D.heap.size+2<=q/\q<W.heap.size:=fun q e=>h.oF.lt q e;have J:I.heap[D.heap.size+1]? =some (.cells #[Y,vS,L,vN,vT,.map (some D.heap.size),Z] 155 (0,0)):=by rw [E.block (D.heap.size+1) (by simp;omega) (fun e=>by have:=(F _ e.symm).1;omega),Below.heap_alloc _ _ _ V];exact h.blk
 have hst:∀t,t∉ [126,155]->Stp D.heap.size [t] W (I.setCell ⟨D.heap.size+1,2,none⟩ G):=fun t ht=>
  (((Stp.refl _ _ _).alloc _).trans (Stp.row E (h.oF.alloc _) (fun e=>ht (by simp at e;simp [e])))).trans (Stp.set J (fun e=>ht (by simp at e;simp [<-e])) 2 G)
 have O:Bl D I:=(h.below.alloc h.below.size _).grown E (by have:=h.below.size;simp;omega) (fun q e=>by have:=(F q e).1;omega);refine ⟨O.setCell (by simp) _,s9 J G,?_,?_,?_,?_,?_,?_,?_,?_,?_,?_⟩
 ·exact (h.sS.keptI (hst _ (by decide)).kp).monoI fun _ hk=>hk.step (hst _ (by decide))
 ·have X:=(h.nm.kept (row:=none) (grownBy_alloc W _ _) (by simp)).kept E (fun e=>by have:=(F _ e.symm).1;omega);exact X.kept (row:=some (D.heap.size+1)) (pi (grownBy.refl _ _) _ _ (inl rfl)) (by simp)
 ·rw [length_append,Es];exact ownsRow_setCell_below ho (by simp) _
 ·intro z A;rcases mem_append.1 A with A | A
  ·exact ⟨(h.aF z A).1,(h.aF z A).2.stp (hst _ (by decide)) fun _ _ _ _ _ _ h=>h⟩
  rw [mem_singleton]at A;subst A;exact ⟨rfl,la.stp ⟨u,rfl,hu⟩ (hst _ (by decide)) fun _ _ _ _ _ _ h=>h⟩
 ·exact ownsRow_setCell_below ((h.oN.alloc _).kept E (tw h.oN h.oF (by decide))) (by simp) _
 ·exact fun z A=>⟨(h.aN z A).1,(h.aN z A).2.stp (hst _ (by decide)) fun _ _ _ _ _ _ h=>h⟩
 ·exact ownsRow_setCell_below ((h.oT.alloc _).kept E (tw h.oT h.oF (by decide))) (by simp) _
 ·exact fun z A=>⟨(h.aT z A).1,(h.aT z A).2.stp (hst _ (by decide)) fun _ _ _ _ _ _ h=>h⟩
 ·exact ownsRow_setCell_below ((h.oL.alloc _).kept E (tw h.oL h.oF (by decide))) (by simp) _
 exact fun z A=>⟨(h.aL z A).1,(h.aL z A).2.stp (hst _ (by decide)) fun _ _ _ _ _ _ h=>h⟩
theorem Wv.addN {vT vL:Value} {zF:List (List Value×List bv)} {N:List (List Value×List ByteArray)} {zT:List (List Value×List dc)} {zL:List (List Value×List Nat)} (h:Wv D W l Y vS Z L vT vL zF N zT zL) {u:Value} {x:List ByteArray} (hu:SL 1 RS (MT D.heap.size [9] W) W u x) {I:World} {G:Value} (ho:I.ownsRow (D.heap.size+2) 225 1 G (N.length+1) (N.flatMap (·.1)++ [u])) (E:(W.alloc (.cells #[u] 225)).grownBy I L.ownBlock):
 Wv D (I.setCell ⟨D.heap.size+1,3,none⟩ G) l Y vS Z G vT vL zF (N++ [([u],x)]) zT zL:=by
 have V:=h.lt;have F:∀q,L.ownBlock=some q->D.heap.size+2<=q/\q<W.heap.size:=fun q e=>h.oN.lt q e;have J:I.heap[D.heap.size+1]? =some (.cells #[Y,vS,Z,L,vT,.map (some D.heap.size),vL] 155 (0,0)):=by rw [E.block (D.heap.size+1) (by simp;omega) (fun e=>by have:=(F _ e.symm).1;omega),Below.heap_alloc _ _ _ V];exact h.blk
 have hst:∀t,t∉ [225,155]->Stp D.heap.size [t] W (I.setCell ⟨D.heap.size+1,3,none⟩ G):=fun t ht=>
  (((Stp.refl _ _ _).alloc _).trans (Stp.row E (h.oN.alloc _) (fun e=>ht (by simp at e;simp [e])))).trans (Stp.set J (fun e=>ht (by simp at e;simp [<-e])) 3 G)
 have O:Bl D I:=(h.below.alloc h.below.size _).grown E (by have:=h.below.size;simp;omega) (fun q e=>by have:=(F q e).1;omega);refine ⟨O.setCell (by simp) _,s9 J G,?_,?_,?_,?_,?_,?_,?_,?_,?_,?_⟩
 ·exact (h.sS.keptI (hst _ (by decide)).kp).monoI fun _ hk=>hk.step (hst _ (by decide))
 ·have X:=(h.nm.kept (row:=none) (grownBy_alloc W _ _) (by simp)).kept E (fun e=>by have:=(F _ e.symm).1;omega);exact X.kept (row:=some (D.heap.size+1)) (pi (grownBy.refl _ _) _ _ (inl rfl)) (by simp)
 ·exact ownsRow_setCell_below ((h.oF.alloc _).kept E (tw h.oF h.oN (by decide))) (by simp) _
 ·exact fun z A=>⟨(h.aF z A).1,(h.aF z A).2.stp (hst _ (by decide)) fun _ _ _ _ _ _ h=>h⟩
 ·rw [length_append,Es];exact ownsRow_setCell_below ho (by simp) _
 ·intro z A;rcases mem_append.1 A with A | A
  ·exact ⟨(h.aN z A).1,(h.aN z A).2.stp (hst _ (by decide)) fun _ _ _ _ _ _ h=>h⟩
  rw [mem_singleton]at A;subst A;exact ⟨rfl,la.stp ⟨u,rfl,hu⟩ (hst _ (by decide)) fun _ _ _ _ _ _ h=>h⟩
 ·exact ownsRow_setCell_below ((h.oT.alloc _).kept E (tw h.oT h.oN (by decide))) (by simp) _
 ·exact fun z A=>⟨(h.aT z A).1,(h.aT z A).2.stp (hst _ (by decide)) fun _ _ _ _ _ _ h=>h⟩
 ·exact ownsRow_setCell_below ((h.oL.alloc _).kept E (tw h.oL h.oN (by decide))) (by simp) _
 exact fun z A=>⟨(h.aL z A).1,(h.aL z A).2.stp (hst _ (by decide)) fun _ _ _ _ _ _ h=>h⟩
theorem Wv.addT {N:List (List Value×List dc)} {zL:List (List Value×List Nat)} (h:Wv D W l Y vS Z vN L vL zF zN N zL) {u:Value} {x:List dc} (hu:SL 2 RT (MT D.heap.size [233] W) W u x) {I:World} {G:Value} (ho:I.ownsRow (D.heap.size+2) 226 1 G (N.length+1) (N.flatMap (·.1)++ [u])) (E:(W.alloc (.cells #[u] 226)).grownBy I L.ownBlock):
 Wv D (I.setCell ⟨D.heap.size+1,4,none⟩ G) l Y vS Z vN G vL zF zN (N++ [([u],x)]) zL:=by
 have V:=h.lt;have F:∀q,L.ownBlock=some q->D.heap.size+2<=q/\q<W.heap.size:=fun q e=>h.oT.lt q e;have J:I.heap[D.heap.size+1]? =some (.cells #[Y,vS,Z,vN,L,.map (some D.heap.size),vL] 155 (0,0)):=by rw [E.block (D.heap.size+1) (by simp;omega) (fun e=>by have:=(F _ e.symm).1;omega),Below.heap_alloc _ _ _ V];exact h.blk
 have hst:∀t,t∉ [226,155]->Stp D.heap.size [t] W (I.setCell ⟨D.heap.size+1,4,none⟩ G):=fun t ht=>
  (((Stp.refl _ _ _).alloc _).trans (Stp.row E (h.oT.alloc _) (fun e=>ht (by simp at e;simp [e])))).trans (Stp.set J (fun e=>ht (by simp at e;simp [<-e])) 4 G)
 have O:Bl D I:=(h.below.alloc h.below.size _).grown E (by have:=h.below.size;simp;omega) (fun q e=>by have:=(F q e).1;omega);refine ⟨O.setCell (by simp) _,s9 J G,?_,?_,?_,?_,?_,?_,?_,?_,?_,?_⟩
 ·exact (h.sS.keptI (hst _ (by decide)).kp).monoI fun _ hk=>hk.step (hst _ (by decide))
 ·have X:=(h.nm.kept (row:=none) (grownBy_alloc W _ _) (by simp)).kept E (fun e=>by have:=(F _ e.symm).1;omega);exact X.kept (row:=some (D.heap.size+1)) (pi (grownBy.refl _ _) _ _ (inl rfl)) (by simp)
 ·exact ownsRow_setCell_below ((h.oF.alloc _).kept E (tw h.oF h.oT (by decide))) (by simp) _
 ·exact fun z A=>⟨(h.aF z A).1,(h.aF z A).2.stp (hst _ (by decide)) fun _ _ _ _ _ _ h=>h⟩
 ·exact ownsRow_setCell_below ((h.oN.alloc _).kept E (tw h.oN h.oT (by decide))) (by simp) _
 ·exact fun z A=>⟨(h.aN z A).1,(h.aN z A).2.stp (hst _ (by decide)) fun _ _ _ _ _ _ h=>h⟩
 ·rw [length_append,Es];exact ownsRow_setCell_below ho (by simp) _
 ·intro z A;rcases mem_append.1 A with A | A
  ·exact ⟨(h.aT z A).1,(h.aT z A).2.stp (hst _ (by decide)) fun _ _ _ _ _ _ h=>h⟩
  rw [mem_singleton]at A;subst A;exact ⟨rfl,la.stp ⟨u,rfl,hu⟩ (hst _ (by decide)) fun _ _ _ _ _ _ h=>h⟩
 ·exact ownsRow_setCell_below ((h.oL.alloc _).kept E (tw h.oL h.oT (by decide))) (by simp) _
 exact fun z A=>⟨(h.aL z A).1,(h.aL z A).2.stp (hst _ (by decide)) fun _ _ _ _ _ _ h=>h⟩
theorem Wv.addL {zT:List (List Value×List dc)} {N:List (List Value×List Nat)} (h:Wv D W l Y vS Z vN vT L zF zN zT N) {u:Value} {x:List Nat} (hu:SL 1 RO (MT D.heap.size [3] W) W u x) {I:World} {G:Value} (ho:I.ownsRow (D.heap.size+2) 22 1 G (N.length+1) (N.flatMap (·.1)++ [u])) (E:(W.alloc (.cells #[u] 22)).grownBy I L.ownBlock):
 Wv D (I.setCell ⟨D.heap.size+1,6,none⟩ G) l Y vS Z vN vT G zF zN zT (N++ [([u],x)]):=by
 have V:=h.lt;have F:∀q,L.ownBlock=some q->D.heap.size+2<=q/\q<W.heap.size:=fun q e=>h.oL.lt q e;have J:I.heap[D.heap.size+1]? =some (.cells #[Y,vS,Z,vN,vT,.map (some D.heap.size),L] 155 (0,0)):=by rw [E.block (D.heap.size+1) (by simp;omega) (fun e=>by have:=(F _ e.symm).1;omega),Below.heap_alloc _ _ _ V];exact h.blk
 have hst:∀t,t∉ [22,155]->Stp D.heap.size [t] W (I.setCell ⟨D.heap.size+1,6,none⟩ G):=fun t ht=>
  (((Stp.refl _ _ _).alloc _).trans (Stp.row E (h.oL.alloc _) (fun e=>ht (by simp at e;simp [e])))).trans (Stp.set J (fun e=>ht (by simp at e;simp [<-e])) 6 G)
 have O:Bl D I:=(h.below.alloc h.below.size _).grown E (by have:=h.below.size;simp;omega) (fun q e=>by have:=(F q e).1;omega);refine ⟨O.setCell (by simp) _,s9 J G,?_,?_,?_,?_,?_,?_,?_,?_,?_,?_⟩
 ·exact (h.sS.keptI (hst _ (by decide)).kp).monoI fun _ hk=>hk.step (hst _ (by decide))
 ·have X:=(h.nm.kept (row:=none) (grownBy_alloc W _ _) (by simp)).kept E (fun e=>by have:=(F _ e.symm).1;omega);exact X.kept (row:=some (D.heap.size+1)) (pi (grownBy.refl _ _) _ _ (inl rfl)) (by simp)
 ·exact ownsRow_setCell_below ((h.oF.alloc _).kept E (tw h.oF h.oL (by decide))) (by simp) _
 ·exact fun z A=>⟨(h.aF z A).1,(h.aF z A).2.stp (hst _ (by decide)) fun _ _ _ _ _ _ h=>h⟩
 ·exact ownsRow_setCell_below ((h.oN.alloc _).kept E (tw h.oN h.oL (by decide))) (by simp) _
 ·exact fun z A=>⟨(h.aN z A).1,(h.aN z A).2.stp (hst _ (by decide)) fun _ _ _ _ _ _ h=>h⟩
 ·exact ownsRow_setCell_below ((h.oT.alloc _).kept E (tw h.oT h.oL (by decide))) (by simp) _
 ·exact fun z A=>⟨(h.aT z A).1,(h.aT z A).2.stp (hst _ (by decide)) fun _ _ _ _ _ _ h=>h⟩
 ·rw [length_append,Es];exact ownsRow_setCell_below ho (by simp) _
 intro z A;rcases mem_append.1 A with A | A
 ·exact ⟨(h.aL z A).1,(h.aL z A).2.stp (hst _ (by decide)) fun _ _ _ _ _ _ h=>h⟩
 rw [mem_singleton]at A;subst A;exact ⟨rfl,la.stp ⟨u,rfl,hu⟩ (hst _ (by decide)) fun _ _ _ _ _ _ h=>h⟩
theorem Wv.rowsF {X N:Value} {D:List (List Value×List bv)} {Z:List (List Value×List ByteArray)} {zT:List (List Value×List dc)} {Y:List (List Value×List Nat)} (h:Wv A W l L V G O X N D Z zT Y) (hl:D.length<=1000):SL 1 (la 3 RF) (MT A.heap.size [125,126] W) W G (D.map (·.2)):=
 xr (n:=1) (R:=la 3 RF) (T:=[125,126]) (Cv h.oF (B':=A.heap.size) (by omega)) (fun z F=>⟨(h.aF z F).1,by
  obtain ⟨v,e,J⟩:=(h.aF z F).2;exact ⟨v,e,J.mono (fun _ I=>I.more (nlq _) (fun _ E=>by simp at E;simp [E])) fun _ _ h=>h⟩⟩) (by simp) (by unfold maxLen;omega)
theorem Wv.rowsN {Y:List (List Value×List bv)} {D:List (List Value×List ByteArray)} {zT:List (List Value×List dc)} {Z:List (List Value×List Nat)} (h:Wv A W l L V N G X O Y D zT Z) (hl:D.length<=1000):SL 1 (la 1 RS) (MT A.heap.size [9,225] W) W G (D.map (·.2)):=
 xr (n:=1) (R:=la 1 RS) (T:=[9,225]) (Cv h.oN (B':=A.heap.size) (by omega)) (fun z F=>⟨(h.aN z F).1,by
  obtain ⟨v,e,J⟩:=(h.aN z F).2;exact ⟨v,e,J.mono (fun _ I=>I.more (nlq _) (fun _ E=>by simp at E;simp [E])) fun _ _ h=>h⟩⟩) (by simp) (by unfold maxLen;omega)
theorem Wv.rowsT {N V G O:Value} {Y:List (List Value×List bv)} {zN:List (List Value×List ByteArray)} {D:List (List Value×List dc)} {Z:List (List Value×List Nat)} (h:Wv A W l L X N V G O Y zN D Z) (hl:D.length<=1000):SL 1 (la 2 RT) (MT A.heap.size [233,226] W) W G (D.map (·.2)):=
 xr (n:=1) (R:=la 2 RT) (T:=[233,226]) (Cv h.oT (B':=A.heap.size) (by omega)) (fun z F=>⟨(h.aT z F).1,by
  obtain ⟨v,e,J⟩:=(h.aT z F).2;exact ⟨v,e,J.mono (fun _ I=>I.more (nlq _) (fun _ E=>by simp at E;simp [E])) fun _ _ h=>h⟩⟩) (by simp) (by unfold maxLen;omega)
theorem Wv.rowsL {X G:Value} {Y:List (List Value×List bv)} {Z:List (List Value×List ByteArray)} {zT:List (List Value×List dc)} {D:List (List Value×List Nat)} (h:Wv A W l L V N O X G Y Z zT D) (hl:D.length<=1000):SL 1 (la 1 RO) (MT A.heap.size [3,22] W) W G (D.map (·.2)):=
 xr (n:=1) (R:=la 1 RO) (T:=[3,22]) (Cv h.oL (B':=A.heap.size) (by omega)) (fun z F=>⟨(h.aL z F).1,by
  obtain ⟨v,e,J⟩:=(h.aL z F).2;exact ⟨v,e,J.mono (fun _ I=>I.more (nlq _) (fun _ E=>by simp at E;simp [E])) fun _ _ h=>h⟩⟩) (by simp) (by unfold maxLen;omega)
end
variable {l:List aq} {n k c j:Nat} {m:ew}
def meth0:ew:=⟨⟨#[]⟩,false,[],⟨0,⟨#[]⟩⟩,0,0,⟨#[]⟩,[]⟩
def pb (l:List aq) (t:dc):ew:=((cz l t.dj.toNat).bd[t.uf.toNat]?).getD meth0
def okT (l:List aq) (t:dc):Prop:=∃c j:Nat,t=⟨c,j⟩/\c<l.length/\j<(cz l c).bd.length
def mm (l:List aq) (n:Nat) (m:ew):Bool:=
 if js (fg l n) m.name<0 then true else
  match (fd l n)[(js (fg l n) m.name).toNat]? with
  | none=>true
  | some t=>!m.static&& !(pb l t).static&&ep m.ret (pb l t).ret&&di ep m.args (pb l t).args
def ny (l:List aq):Bool:=(range l.length).all fun i=>decide ((cz l i).b9=(⟨#[]⟩:ByteArray))||(cz l i).bd.all (mm l (dv l i).toNat)
theorem ziq (l:List aq) (P:List (ByteArray×dc)):∀A:List ByteArray×List dc,(∀t∈A.2,okT l t)->(∀x∈P,okT l x.2)->∀t∈(P.foldl fh A).2,okT l t:=by
 induction P with
 | nil=>exact fun A h _=>h
 | cons x P ih=>
   intro A h E;refine ih (fh A x) ?_ fun y G=>E y (mem_cons_of_mem _ G);have F:=E x (mem_cons_self ..);unfold fh;split
   ·intro t D;rcases mem_or_eq_of_mem_set D with h1 | h1
    ·exact h t h1
    rw [h1];exact F
   intro t D;rcases mem_append.1 D with h1 | h1
   ·exact h t h1
   rw [mem_singleton.1 h1];exact F
theorem zir (E:n<l.length):∀t∈fd l n,okT l t:=by refine ziq l _ ([],[]) (fun t h=>by cases h) fun x A=>?_;obtain ⟨k,D,A⟩:=mem_flatMap.1 A;obtain ⟨p,F,rfl⟩:=mem_map.1 A;refine ⟨k,p.2,rfl,zgp E k D,?_⟩;have:=mem_zipIdx F;omega
theorem zis (l:List aq) (n:Nat):(fg l n).length=(fd l n).length:=zg4 _ ([],[]) rfl
theorem zit (h:j<(cz l c).bd.length):pb l ⟨c,j⟩=(cz l c).bd[j]:=by simp [pb,h]
theorem ziu (h:js (fg l n) m.name<0):mm l n m=true:=if_pos h
theorem ziv (h:js (fg l n) m.name=k) (D:k<(fd l n).length) (E:(fd l n)[k]=⟨c,j⟩) (A:j<(cz l c).bd.length):
 mm l n m=(!m.static&& !(cz l c).bd[j].static&&ep m.ret (cz l c).bd[j].ret&&di ep m.args (cz l c).bd[j].args):=by
 rw [mm,h,if_neg (by omega),Int.toNat_natCast,getElem?_eq_getElem D,E];show (!m.static&& !(pb l ⟨c,j⟩).static&&ep m.ret (pb l ⟨c,j⟩).ret&&di ep m.args (pb l ⟨c,j⟩).args)=_;rw [zit A]
end Go.Proofs.YtjdnmblggdobgaaGreat
