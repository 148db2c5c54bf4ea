import Derived.Test.YtjdnmblggdobgaaGreatJLLineLLn
import Derived.Deep.AppendSrc
set_option maxHeartbeats 8000000
set_option maxRecDepth 100000
namespace Go.Proofs.YtjdnmblggdobgaaGreat
open Go Go.RowKit Tryz
theorem zf8 {P:Program} (w:World) (t F e:TypeId) (i:TypeInfo) (D:P.underlying t=some (.slice e)) (hi:P.info? e=some i) (a:Option Addr) (n c:Nat) (I:n<=c) (G:a=none\/∃g,a=some ⟨g,0,none⟩) (x:Option Addr) (A:Nat):
 (Builtin.append_ #[t,t] F #[.slice a n c,.slice x 0 A]).run P w=.ok (.slice a n c) w:=by
 have E:Src P i.size t (.slice x 0 A) 0 [] w:=by
  cases x with
  | none=>exact Src.ofNil w D A
  | some ad=>exact Src.ofSlice w D ad 0 A [] (by simp) (fun j u h=>by simp at h) (fun u h=>by cases h)
 rcases G with rfl | ⟨g,rfl⟩
 ·simp [Builtin.append_,run_underlying D,sizeOf,typeInfo,hi,E.len,I,E.cells]
 have:=run_append_room_src w t t F e i D hi g 0 n c (.slice x 0 A) 0 [] E (by omega) (fun j h=>by cases h) (fun j h=>by cases h);rw [this];rfl
theorem Dp {P:Program} (w:World) {ops:Array Oper} {rest:List Oper} {o:Oper} {a:Act} {Q:Exit->Act->World->Prop} (D:o.guard=none) (s x:Operand) (t:TypeId)
 (L:o.op=.call { callee:=.builtin .append,args:=#[s,x],argTypes:=#[t,t] }) (e:TypeId) (i:TypeInfo) (V:P.underlying t=some (.slice e)) (hi:P.info? e=some i)
 (A:Option Addr) (n c:Nat) (O:a.eval s=.slice A n c) (J:n<=c) (I:A=none\/∃g,A=some ⟨g,0,none⟩) (F:Option Addr) (E:Nat) (W:a.eval x=.slice F 0 E)
 (h:wpList P ops Q rest (a.put o.dst (.slice A n c)) w):wpList P ops Q (o::rest) a w:=by
 refine wpList_plain D fun K G=>?_;have N:=zf8 (P:=P) w t o.type e i V hi A n c J I F E;unfold Oper.wp execOp;simp only [L,resolve,invoke,builtin,Sem.run_bind,Sem.run_pure,Result.andThen_ok,List.map_toArray,List.map_cons,List.map_nil,O,W,N];exact G _ _ h
theorem zga {w:World} {B e n len:Nat} {a:Option Addr} {c:Nat} {xs:List Value} (h:w.ownsRow B e n (.slice a len c) len xs):len<=c/\(a=none\/∃g,a=some ⟨g,0,none⟩):=by
 rcases h.2 with ⟨e,h0⟩ | ⟨g,cap,A,e,_,_,hc,_⟩
 ·exact ⟨by omega,Or.inl (Value.slice.inj e).1⟩
 obtain ⟨D,_,E⟩:=Value.slice.inj e;exact ⟨by omega,Or.inr ⟨g,D⟩⟩
end Go.Proofs.YtjdnmblggdobgaaGreat
namespace Go.Proofs.YtjdnmblggdobgaaGreat
open Go.RowKit Go.Sort Tryz
theorem wg:(prog.info? 125).map (fun i=>(i.zero,i.size,i.bytes))=some (some (.agg #[.string ⟨#[]⟩,.i 0,.string ⟨#[]⟩]),3,40):=by kernel_rfl
theorem zgw (l:List aq):∀(f:Nat) (m:Int),m<l.length->∀k∈gj l f m,k<l.length
 | 0,_,_,k,A=>by cases A
 | f+1,m,hm,k,A=>by
   unfold gj at A;split at A
   ·rcases List.mem_cons.1 A with rfl | A
    ·omega
    exact zgw l f _ (zf4 l _).2 k A
   cases A
theorem zgx (l:List aq):∀(f:Nat) (m:Int),(gj l f m).length<=f
 | 0,_=>by simp [gj]
 | f+1,m=>by
   unfold gj;split
   ·have:=zgx l f (dj l m.toNat);simp;omega
   simp
theorem zgy {l:List aq} {n:Nat} (D:n<l.length):∀k∈di l n,k<l.length:=fun k A=>zgw l _ n (by omega) k (by simpa [di]using A)
theorem zgz (l:List aq) (n:Nat):(di l n).length<=l.length+1:=by rw [di,List.length_reverse];exact zgx l _ _
def iv (f:bq):List Value:=[.string f.name,.i f.kind.kind,.string f.kind.de]
theorem ua (b off j:Nat):(⟨b,off,none⟩:Addr).add j=⟨b,off+j,none⟩:=by unfold Addr.add;split<;>simp_all
theorem zg2 {α:Type} {n:Nat} {R:(Nat->Prop)->World->List Value->α->Prop} {M:Nat->Prop} {w:World} {b off len cap:Nat} {l:List α} (f:α->List Value) (X:0<n) (I:∀x∈l,(f x).length=n) (L:∀F x,R M w F x->F=f x)
 (h:SL n R M w (.slice (some ⟨b,off,none⟩) len cap) l):∀j u,(l.flatMap f)[j]? =some u->w.cell? ((⟨b,off,none⟩:Addr).add j)=some u:=by
 intro j u E;have D:(l.flatMap f).length=l.length*n:=by
  clear h L E;induction l with
  | nil=>simp
  | cons x l ih=>
    rw [List.flatMap_cons,List.length_append,ih (fun y Y=>I y (by simp [Y])),I x (by simp),List.length_cons,Nat.add_mul];omega
 have W:j<l.length*n:=by rw [<-D];exact (List.getElem?_eq_some_iff.1 E).1
 have N:j / n<l.length:=Nat.div_lt_of_lt_mul (by rw [Nat.mul_comm];exact W);have O:j % n<n:=Nat.mod_lt _ X;have A:j / n*n+j % n=j:=by rw [Nat.mul_comm];exact Nat.div_add_mod j n
 obtain ⟨Z,V,F,e,_,_,_,hc,J⟩:=h.at (j / n) N;cases e;have G:=L _ _ J;rw [<-A,A5 f l (j / n) (j % n) I N O]at E;have:=hc (j % n) O;rw [G,E]at this;rw [ua,<-A,<-Nat.add_assoc];exact this
theorem zg3 {l:List bq} :(l.flatMap iv).length=l.length*3:=by
 induction l with
 | nil=>rfl
 | cons x l ih=>rw [List.flatMap_cons,List.length_append,ih,List.length_cons];simp [iv];omega
theorem zg4 (l:List bq):∀u∈l.flatMap iv,u.oneCell'=true:=by intro u A;obtain ⟨f,_,A⟩:=List.mem_flatMap.1 A;simp [iv]at A;rcases A with rfl | rfl | rfl<;>rfl
theorem zg5 (w:World) (B b:Nat) (l:List aq) (n:Nat) (hn:n<l.length) (ao:Option Addr) (cl:Nat) (c0:w.cell? ⟨b,0,none⟩=some (.slice ao l.length cl)) (sC:SL 4 RC (· <B) w (.slice ao l.length cl) l)
 (vL:Value) (LL:List (List Nat)) (c6:w.cell? ⟨b,6,none⟩=some vL) (sL:SL 1 (kr 1 RO) (MT B [3,22] w) w vL LL) (a7:n<LL.length) (ac:LL[n]=di l n) (hB:B<=w.heap.size) (hN:l.length<=10) (hF:∀c∈l,c.fields.length<=6):
 Calls prog 201 #[.p b,.i n] w fun r w'=>Bl w w'/\∃v,r=.returned v/\SL 3 RF (MT w.heap.size [125] w') w' v (fieldsOf l n):=by
 obtain ⟨iF,ai,al,an,ap⟩:=info_parts wg;have a4:b<w.heap.size:=World.block_lt_of_cell? w _ c0;have ay:=ag ac;have HC:=ag sC;have a8:=sL;obtain ⟨aL,cL,rfl,-⟩:=a8;obtain ⟨bL,oL,aI,cI,rfl,bg,eL,sI⟩:=sL.atSl n a7;rw [ay.o]at eL sI;have aj:=zgy hn;have bn:=zgz l n;have ax:Hid (fieldsOf l n=(di l n).flatMap fun k=>(cd l k).fields):=rfl;generalize di l n=ln at*;have HI:=ag sI;have HK:=ag aj;have aw:=ag hF;have bu:(0:Int)<=n:=by omega
 have bv:(n:Int)<LL.length:=by omega
 clear sC sL sI ac aj hF;go_enter func201,ntmps201;go_wp2_with fail;go_loopw [5,16] (fun v i wr=>∃(k:Nat) (fs:List bq),k<=ln.length/\i=.i k/\Hid (fs=(ln.take k).flatMap fun k=>(cd l k).fields)/\fs.length<=6*k/\Hid (∀f∈fs,f.name.size<=maxLen/\f.kind.de.size<=maxLen)/\wr.ownsRow w.heap.size 125 3 v fs.length (fs.flatMap iv)/\Bl w wr) (fun _ i _=>ln.length - (intOf i).toNat)
 case atStart=>exact ⟨0,[],n0q _,rfl,rfl,by simp,(fun f F=>by cases F),World.ownsRow_nil _ _ _ _,br _ _⟩
 case round=>
  obtain ⟨k,fs,hk,rfl,HP,bm,V,A,E⟩:=hrel;obtain ⟨a5,c5,rfl⟩:=kq A;have ak:=E.size;by_cases W:k<ln.length
  ·obtain ⟨bi,oi,rfl,a3,ei⟩:=HI.o.atO k W;have a1:=(E.cell (p:=⟨bi,oi+k,none⟩) a3).trans ei;have G:=HK.o ln[k] (gm W);have d0:wr.cell? ⟨b,0,none⟩=some (.slice ao l.length cl):=(E.cell (p:=⟨b,0,none⟩) a4).trans c0;obtain ⟨bc,oc,vf,vm,rfl,bh,e0,e1,e2,e3,ef,em,bb,be⟩:=(HC.o.keptC (Kp.below (E.mono hB))).atC ln[k] G;have bl:=aw.o l[ln[k]] (gm G);have av:Hid (cd l ln[k]=l[ln[k]]):=sm G;obtain ⟨m,hm⟩:∃m,m=ln[k]:=⟨_,rfl⟩;have HM:=ag hm;generalize hcc:l[ln[k]]=cc at*;clear hcc;rw [<-hm]at a1 e0 e1 e2 e3 G;have bo:(0:Int)<=m:=by omega
   have bs:(m:Int)<l.length:=by omega
   have EF:=ag ef;obtain ⟨fo,cf,rfl,-⟩:=ef;have O:=ag A;have L:∀f∈cc.fields,f.name.size<=maxLen/\f.kind.de.size<=maxLen:=by intro f F;obtain ⟨q,hq,rfl⟩:=List.getElem_of_mem F;obtain ⟨_,_,_,_,_,_,_,h1,h2⟩:=EF.o.atF q hq;exact ⟨h1,h2⟩
   have a0:=ag L;have aa:Hid ((ln.take (k+1)).flatMap (fun k=>(cd l k).fields)=fs++cc.fields):=by show _=_;rw [List.take_succ_eq_append_getElem W,List.flatMap_append,<-HP.o];simp [av.o]
   clear hm ei L;by_cases h0:cc.fields= []
   ·have az:=ag h0;rw [h0]at e2;clear h0;obtain ⟨ah,ad⟩:=zga A;go_wp2_with (at_builtin;refine Dp _ rfl _ _ 126 rfl 125 iF underlying126 ai a5 fs.length c5 rfl ah ad fo cf rfl ?_);clear ad ah;go_wp2_with fail;go_roundw
    case rel=>exact ⟨k+1,fs,by omega,by go_num,by show _=_;have:=aa.o;rw [az.o,List.append_nil]at this;exact this.symm,by omega,V.o,O.o,E⟩
    case measure=>simp [intOf];omega
   have J:0<cc.fields.length:=List.length_pos_iff.2 h0;obtain ⟨Y,of,a6⟩:∃Y of,fo=some ⟨Y,of,none⟩:=by obtain ⟨Y,of,e,_⟩:=EF.o.atF 0 J;exact ⟨Y,of,e⟩
   subst a6;have N:Hid (∀j u,(cc.fields.flatMap iv)[j]? =some u->wr.cell? ((⟨Y,of,none⟩:Addr).add j)=some u):=zg2 iv (by decide) (fun x _=>rfl) (fun _ _ h=>h.1) EF.o;have Z:Hid (fs.length+cc.fields.length<=maxLen/\(fs.length+cc.fields.length)*40<=140737488355328):=⟨by unfold maxLen;omega,by omega⟩;clear h0;go_wp2_with (at_builtin;refine wpList_append_lies _ rfl _ _ 126 rfl w.heap.size 125 iF (.agg #[.string ⟨#[]⟩,.i 0,.string ⟨#[]⟩]) 3 40 underlying126 ai al an ap rfl (by decide) (.slice a5 fs.length c5) fs.length (fs.flatMap iv) rfl O.o ⟨Y,of,none⟩ cc.fields.length cf (cc.fields.flatMap iv) rfl zg3 N.o (zg4 _) J Z.o.1 Z.o.2 ak _ rfl ?_);intro g cap w1 D I af a9;have HX:=ag (And.intro D (E.grown I ak (fun k e=>(O.o.lt k e).1)));clear D I af A E;go_wp2_with fail;go_roundw
   case rel=>
    obtain ⟨D,a2⟩:=HX.o;refine ⟨k+1,fs++cc.fields,by omega,by go_num,aa.o.symm,by simp;omega,?_,?_,a2⟩
    ·show ∀f∈_,_;intro f F;rcases List.mem_append.1 F with F | F
     ·exact V.o f F
     exact a0.o f F
    rw [List.length_append,List.flatMap_append];exact D
   case measure=>simp [intOf];omega
  have HX:Hid (fieldsOf l n=fs):=by show _=_;rw [ax.o,HP.o,List.take_of_length_le (by omega)]
  have X:(fs.map fun f=>(iv f,f)).length=fs.length:=by simp
  have au:(fs.map fun f=>(iv f,f)).flatMap (·.1)=fs.flatMap iv:=by rw [List.flatMap_map]
  have SV:=ag (vz (n:=3) (R:=RF) (T:=[125]) (zs:=fs.map fun f=>(iv f,f)) (by rw [X,au];exact A) (fun z hz=>by
   obtain ⟨f,F,rfl⟩:=List.mem_map.1 hz;exact ⟨rfl,rfl,V.o f F⟩) (by simp) (by rw [X];unfold maxLen;omega))
  clear X au A;go_wp2_with fail;go_ret;exact ⟨E,_,rfl,by rw [HX.o];have:=SV.o;rwa [List.map_map,show ((·.2)∘fun f:bq=>(iv f,f))=id from rfl,List.map_id]at this⟩
theorem Aa:(prog.info? 9).map (fun i=>(i.zero,i.size,i.bytes))=some (some (.string ⟨#[]⟩),1,16):=by kernel_rfl
theorem ym:(prog.info? 233).map (fun i=>(i.zero,i.size,i.bytes))=some (some (.agg #[.i 0,.i 0]),2,16):=by kernel_rfl
theorem rr {W:World} {k j t:Nat} {A:Array Value} {D:Nat×Nat} (h:W.heap[k]? =some (.cells A t D)) (v:Value):(W.setCell ⟨k,j,none⟩ v).heap[k]? =some (.cells (A.setIfInBounds j v) t D):=by simp [World.setCell,Array.getElem?_modify,h]
theorem A7 {w:World} {B e A g cap n:Nat} {xs:List Value} (h:w.ownsRow B e A (.slice (some ⟨g,0,none⟩) n cap) n xs) (j:Nat) (v:Value):(w.setCell ⟨g,j,none⟩ v).ownsRow B e A (.slice (some ⟨g,0,none⟩) n cap) n (xs.set j v):=by
 refine ⟨by rw [List.length_set];exact h.1,?_⟩;rcases h.2 with ⟨e,_⟩ | ⟨N,E,D,e,F,G,hc,I,J,L⟩
 ·cases e
 cases e;refine Or.inr ⟨g,cap,D.setIfInBounds j v,rfl,F,rr G v,hc,I,by simpa using J,?_⟩;rw [<-L];simp [List.take_set]
theorem sn {w:World} {B B' e I n V k O:Nat} {v J:Value} {xs E:List Value} (h:w.ownsRow B e n v k xs) (h':w.ownsRow B' I V J O E) (D:e≠I):v.ownBlock=none\/v.ownBlock≠J.ownBlock:=by
 rcases h.2 with ⟨rfl,_⟩ | ⟨g,cap,L,rfl,_,N,_⟩
 ·exact Or.inl rfl
 rcases h'.2 with ⟨rfl,_⟩ | ⟨W,F,G,rfl,_,A,_⟩
 ·exact Or.inr (by simp [Value.ownBlock])
 refine Or.inr fun e=>?_;simp [Value.ownBlock]at e;subst e;rw [N]at A;cases A;exact D rfl
def mc (ns:List ByteArray):List Value:=ns.map Value.string
def iw (t:cw):List Value:=[.i t.de,.i t.s9]
theorem Dn (ts:List cw):(ts.flatMap iw).length=ts.length*2:=by
 induction ts with
 | nil=>rfl
 | cons x l ih=>rw [List.flatMap_cons,List.length_append,ih,List.length_cons];simp [iw];omega
theorem zg9 (ns:List ByteArray):ns.flatMap (fun s=>[Value.string s])=mc ns:=by
 induction ns with
 | nil=>rfl
 | cons x l ih=>rw [List.flatMap_cons,ih];rfl
theorem zha {w:World} {B:Nat} {v:Value} {ns:List ByteArray} (h:w.ownsRow B 9 1 v ns.length (mc ns)) (F:∀s∈ns,s.size<=maxLen) (G:ns.length<=1000):SL 1 RS (MT B [9] w) w v ns:=by
 have A:(ns.map fun s=>([Value.string s],s)).length=ns.length:=by simp
 have E:(ns.map fun s=>([Value.string s],s)).flatMap (·.1)=mc ns:=by rw [List.flatMap_map];exact zg9 ns
 have:=vz (n:=1) (R:=RS) (T:=[9]) (zs:=ns.map fun s=>([Value.string s],s)) (by rw [A,E];exact h) (fun z A=>by
  obtain ⟨s,D,rfl⟩:=List.mem_map.1 A;exact ⟨rfl,rfl,F s D⟩) (by simp) (by rw [A];unfold maxLen;omega)
 rwa [List.map_map,show ((·.2)∘fun s:ByteArray=>([Value.string s],s))=id from rfl,List.map_id]at this
theorem zhb {w:World} {B:Nat} {v:Value} {ts:List cw} (h:w.ownsRow B 233 2 v ts.length (ts.flatMap iw)) (F:ts.length<=1000):SL 2 RT (MT B [233] w) w v ts:=by
 have A:(ts.map fun s=>(iw s,s)).length=ts.length:=by simp
 have D:(ts.map fun s=>(iw s,s)).flatMap (·.1)=ts.flatMap iw:=by rw [List.flatMap_map]
 have:=vz (n:=2) (R:=RT) (T:=[233]) (zs:=ts.map fun s=>(iw s,s)) (by rw [A,D];exact h) (fun z A=>by
  obtain ⟨s,E,rfl⟩:=List.mem_map.1 A;exact ⟨rfl,rfl⟩) (by simp) (by rw [A];unfold maxLen;omega)
 rwa [List.map_map,show ((·.2)∘fun s:cw=>(iw s,s))=id from rfl,List.map_id]at this
theorem zhc (ts:List cw) (k:Nat) (t:cw):((ts.flatMap iw).set (k*2) (.i t.de)).set (k*2+1) (.i t.s9)=(ts.set k t).flatMap iw:=by
 induction ts generalizing k with
 | nil=>simp
 | cons x l ih=>
   cases k with
   | zero=>simp [iw]
   | succ k=>
     rw [p3q,List.flatMap_cons,List.flatMap_cons,<-ih k];have A:(k+1)*2=k*2+1+1:=by omega
     rw [A];simp [iw]
theorem zhd (P:List (ByteArray×cw)):∀A:List ByteArray×List cw,A.1.length=A.2.length->(P.foldl fc A).1.length=(P.foldl fc A).2.length:=by
 induction P with
 | nil=>exact fun _ h=>h
 | cons x P ih=>
   intro A h;refine ih _ ?_;unfold fc;split
   ·simpa using h
   simp [h]
theorem zhe (P:List (ByteArray×cw)) (x:ByteArray×cw):(P++ [x]).foldl fc ([],[])=fc (P.foldl fc ([],[])) x:=by rw [List.foldl_append];rfl
theorem zhf (l:List ByteArray) (s:ByteArray):jl l s<l.length:=by
 unfold jl;split
 ·rename_i i h;have:=(List.findIdx?_eq_some_iff_getElem.1 h).1;omega
 omega
theorem zhg (l:List aq) (n:Nat):(kj l n).length=(cd l n).be.length:=by simp [kj]
theorem zhh (l:List aq) (n j:Nat) (h:j<(kj l n).length) (h':j<(cd l n).be.length):(kj l n)[j]=((cd l n).be[j].name,⟨n,j⟩):=by simp [kj]
theorem zhi (w:World) (B b:Nat) (l:List aq) (n:Nat) (hn:n<l.length) (ao:Option Addr) (cl:Nat) (c0:w.cell? ⟨b,0,none⟩=some (.slice ao l.length cl)) (sC:SL 4 RC (· <B) w (.slice ao l.length cl) l)
 (vL:Value) (LL:List (List Nat)) (c6:w.cell? ⟨b,6,none⟩=some vL) (sL:SL 1 (kr 1 RO) (MT B [3,22] w) w vL LL) (dz:n<LL.length) (b3:LL[n]=di l n) (hB:B<=w.heap.size) (hN:l.length<=10) (hF:∀c∈l,c.be.length<=8):
 Calls prog 202 #[.p b,.i n] w fun r w'=>Bl w w'/\∃v u,r=.returned (.tuple #[v,u])/\SL 1 RS (MT w.heap.size [9] w') w' v (fb l n)/\SL 2 RT (MT w.heap.size [233] w') w' u (ew l n):=by
 obtain ⟨iS,dk,cf,ci,cj⟩:=info_parts Aa;obtain ⟨iT,dl,ck,cn,co⟩:=info_parts ym;have df:b<w.heap.size:=World.block_lt_of_cell? w _ c0;have ct:=ag b3;have HC:=ag sC;have d2:=sL;obtain ⟨aL,cL,rfl,-⟩:=d2;obtain ⟨bL,oL,aI,cI,rfl,eh,eL,sI⟩:=sL.atSl n dz;rw [ct.o]at eL sI;have ce:=zgy hn;have ek:=zgz l n;have c2:Hid (ke l n=((di l n).flatMap (kj l)).foldl fc ([],[])):=rfl;generalize di l n=ln at*;have HI:=ag sI;have HK:=ag ce;have cr:=ag hF;have eo:(0:Int)<=n:=by omega
 have eq:(n:Int)<LL.length:=by omega
 clear sC sL sI b3 ce hF;go_enter func202,ntmps202;go_wp2_with fail;go_loopw [6,7,22] (fun v u i wr=>∃(k:Nat) (ns:List ByteArray) (ts:List cw),k<=ln.length/\i=.i k/\Hid ((ns,ts)=((ln.take k).flatMap (kj l)).foldl fc ([],[]))/\ns.length<=8*k/\Hid (ts.length=ns.length)/\Hid (∀s∈ns,s.size<=maxLen)/\
  wr.ownsRow w.heap.size 9 1 v ns.length (mc ns)/\wr.ownsRow w.heap.size 233 2 u ts.length (ts.flatMap iw)/\Bl w wr) (fun _ _ i _=>ln.length - (intOf i).toNat)
 case atStart=>exact ⟨0,[],[],n0q _,rfl,rfl,by simp,rfl,(fun f hf=>by cases hf),World.ownsRow_nil _ _ _ _,World.ownsRow_nil _ _ _ _,br _ _⟩
 case round=>
  obtain ⟨k,ns,ts,hk,rfl,HP,b7,G,L,E,A,I⟩:=hrel;obtain ⟨a6,c6,rfl⟩:=kq E;obtain ⟨a7,c7,rfl⟩:=kq A;have ap:=I.size;by_cases bh:k<ln.length
  ·obtain ⟨bi,oi,rfl,dd,ei⟩:=HI.o.atO k bh;have c4:=(I.cell (p:=⟨bi,oi+k,none⟩) dd).trans ei;have bl:=HK.o ln[k] (gm bh);have d0:wr.cell? ⟨b,0,none⟩=some (.slice ao l.length cl):=(I.cell (p:=⟨b,0,none⟩) df).trans c0;obtain ⟨bc,oc,vf,vm,rfl,b5,e0,e1,e2,e3,ef,em,c5,c8⟩:=HC.o.atC ln[k] bl;have b2:=(I.cell (p:=⟨bc,oc+ln[k]*4+3,none⟩) b5).trans e3;have b6:=cr.o l[ln[k]] (gm bl);have b0:Hid ((ln.take (k+1)).flatMap (kj l)=(ln.take k).flatMap (kj l)++kj l ln[k]):=by
    show _=_;rw [List.take_succ_eq_append_getElem bh,List.flatMap_append];simp
   clear e0 e1 e2 e3 ef c5 c8 ei b5;rw [<-sm bl]at em b6;obtain ⟨mo,cm,rfl,-⟩:=id em;have cp:=ag em;have e4:=b2;clear em b2;generalize ln[k]=m at*;have b1:=ag (zhg l m);generalize hms:(cd l m).be=ms at*;have bu:=ag hms;clear hms;have el:(0:Int)<=m:=by omega
   have en:(m:Int)<l.length:=by omega
   have cx:=ag HP.o;obtain ⟨PK,a9⟩:∃PK,PK=(ln.take k).flatMap (kj l):=⟨_,rfl⟩;rw [<-a9]at HP b0 cx;have ec:=ag a9;clear a9;go_wp2_with fail;go_loopw [6,7,36] (fun v u i J=>∃(j:Nat) (ns:List ByteArray) (ts:List cw),j<=ms.length/\i=.i j/\Hid ((ns,ts)=(PK++(kj l m).take j).foldl fc ([],[]))/\ns.length<=8*k+j/\Hid (ts.length=ns.length)/\Hid (∀s∈ns,s.size<=maxLen)/\
    J.ownsRow w.heap.size 9 1 v ns.length (mc ns)/\J.ownsRow w.heap.size 233 2 u ts.length (ts.flatMap iw)/\Bl w J) (fun _ _ i _=>ms.length - (intOf i).toNat)
   case atStart=>exact ⟨0,ns,ts,n0q _,rfl,by show _=_;rw [List.take_zero,List.append_nil];exact HP.o,by omega,G.o,L.o,E,A,I⟩
   case round=>
    clear E A I HP L b7 G ap d0 c4 e4
    rename World=>J
    obtain ⟨j,ns,ts,hj,rfl,HP,b7,G,L,E,A,I⟩:=hrel;obtain ⟨a6,c6,rfl⟩:=kq E;obtain ⟨a7,c7,rfl⟩:=kq A;have ap:=I.size;by_cases bg:j<ms.length
    ·obtain ⟨bm,om,va,vh,du,ej,q0,q1,q2,q3,q4,q5,q6,q7,q8,sa,sh,d3,ex,ey⟩:=(cp.o.keptM (Kp.below (I.mono hB))).atM j bg;subst du;obtain ⟨X,Z,rfl,-⟩:=sa;obtain ⟨Y,ch,rfl,-⟩:=sh;have bx:Hid (PK++(kj l m).take (j+1)=(PK++(kj l m).take j)++ [(ms[j].name,⟨m,j⟩)]):=by
      show _=_;have cc:j<(kj l m).length:=by rw [b1.o];exact bg
      rw [List.take_succ_eq_append_getElem cc,List.append_assoc,zhh l m j cc (by rw [bu.o];exact bg)];congr 3;simp [bu.o]
     have W:=ag E;have F:=ag A;have a8:=(I.alloc ap (.cells #[.string ms[j].name,.bool ms[j].static,.slice X ms[j].args.length Z,.i ms[j].ret.kind,.string ms[j].ret.de,.i ms[j].stack,.i ms[j].locals,.string ms[j].code,.slice Y ms[j].hands.length ch] 159));have bn:=ag (a8.alloc a8.size (.cells #[.i m,.i j] 233));generalize hmj:ms[j]=mj at*;clear hmj a8;have SN:Hid (SL 1 RS (MT w.heap.size [9] ((J.alloc (.cells #[.string mj.name,.bool mj.static,.slice X mj.args.length Z,.i mj.ret.kind,.string mj.ret.de,.i mj.stack,.i mj.locals,.string mj.code,.slice Y mj.hands.length ch] 159)).alloc (.cells #[.i m,.i j] 233))) ((J.alloc (.cells #[.string mj.name,.bool mj.static,.slice X mj.args.length Z,.i mj.ret.kind,.string mj.ret.de,.i mj.stack,.i mj.locals,.string mj.code,.slice Y mj.hands.length ch] 159)).alloc (.cells #[.i m,.i j] 233)) (.slice a6 ns.length c6) ns):=zha ((E.alloc _).alloc _) L.o (by omega);clear E A;go_wp2_with fail;refine (zfx _ _ _ ns mj.name SN.o).mono ?_;rintro r w1 ⟨rfl,rfl⟩;have ds:=zhf ns mj.name;by_cases an:0<=jl ns mj.name
     ·obtain ⟨D,ad⟩:=Int.eq_ofNat_of_zero_le an;have a3:Hid (fc (ns,ts) (mj.name,⟨m,j⟩)=(ns,ts.set D ⟨m,j⟩)):=by
       show _=_;rw [fc,if_pos an];show (ns,ts.set (jl ns mj.name).toNat _)=_;rw [ad];rfl
      rw [ad]at ds ⊢;clear an ad;obtain ⟨V,dg,d5⟩:∃V,a7=some ⟨V,0,none⟩/\ts.length<=c7:=by
       obtain ⟨h1,h2⟩:=zga F.o;rcases h2 with rfl | ⟨g,rfl⟩
       ·rcases F.o.2 with ⟨e,h0⟩ | ⟨g,_,_,e,_⟩
        ·have:=G.o;omega
        cases e
       exact ⟨g,rfl,h1⟩
      subst dg;have bf:=F.o.lt V rfl;have k0:J.cell? ⟨V,D*2,none⟩=(ts.flatMap iw)[D*2]? :=F.o.cellAt _ (by have:=G.o;omega);have k1:J.cell? ⟨V,D*2+1,none⟩=(ts.flatMap iw)[D*2+1]? :=F.o.cellAt _ (by have:=G.o;omega);have ax:D<ts.length:=by have:=G.o;omega
      have et:J.cell? ⟨V,D*2,none⟩=some (.i (ts[D]).de):=by rw [k0];have:=A5 (n:=2) iw ts D 0 (fun _ _=>rfl) ax (by decide);simpa [iw]using this
      have eu:J.cell? ⟨V,D*2+1,none⟩=some (.i (ts[D]).s9):=by rw [k1];have:=A5 (n:=2) iw ts D 1 (fun _ _=>rfl) ax (by decide);simpa [iw]using this
      obtain ⟨au,bb⟩:∃au,J.heap[V]? =some (.cells au 233 (0,0)):=by
       rcases F.o.2 with ⟨e,_⟩ | ⟨g,_,c3,e,_,hb,_⟩
       ·cases e
       cases e;exact ⟨c3,hb⟩
      have z0:∀q,J.frozen? ⟨V,q,none⟩=false:=fun q=>by simp [World.frozen?,bb]
      have eb:=ag bb;have er:(0:Int)<=D:=by omega
      have es:(D:Int)<ts.length:=by have:=G.o;omega
      have d4:V<J.heap.size:=bf.2;clear k0 k1 bb;go_wp2_with fail;go_roundw
      case rel=>
       have ac:=((((I.setCell (p:=⟨V,D*2,none⟩) bf.1 (.i m)).setCell (p:=⟨V,D*2+1,none⟩) bf.1 (.i j)).alloc (by simpa [World.setCell]using ap) (.cells #[.string mj.name,.bool mj.static,.slice X mj.args.length Z,.i mj.ret.kind,.string mj.ret.de,.i mj.stack,.i mj.locals,.string mj.code,.slice Y mj.hands.length ch] 159)).alloc (by simp [World.setCell];omega) (.cells #[.i m,.i j] 233));refine ⟨j+1,ns,ts.set D ⟨m,j⟩,by omega,by go_num,?_,by omega,by show _=_;have:=G.o;simpa using this,L.o,?_,?_,ac⟩
       ·show _=_;rw [bx.o,zhe,<-HP.o,a3.o]
       ·refine ((W.o.kept (row:=some V) ?_ ?_).alloc _).alloc _
        ·exact ow (ow (World.grownBy.refl _ _) _ _ (Or.inl rfl)) _ _ (Or.inl rfl)
        rcases sn W.o F.o (by decide)with h | h
        ·exact Or.inl h
        exact Or.inr h
       have:=A7 (A7 F.o (D*2) (.i m)) (D*2+1) (.i j);rw [zhc ts D ⟨m,j⟩]at this;rw [List.length_set];exact (this.alloc _).alloc _
      case measure=>simp [intOf];omega
     have a3:Hid (fc (ns,ts) (mj.name,⟨m,j⟩)=(ns++ [mj.name],ts++ [⟨m,j⟩])):=by show _=_;rw [fc,if_neg an]
     have av:=(W.o.alloc (.cells #[.string mj.name,.bool mj.static,.slice X mj.args.length Z,.i mj.ret.kind,.string mj.ret.de,.i mj.stack,.i mj.locals,.string mj.code,.slice Y mj.hands.length ch] 159)).alloc (.cells #[.i m,.i j] 233);have aw:=(F.o.alloc (.cells #[.string mj.name,.bool mj.static,.slice X mj.args.length Z,.i mj.ret.kind,.string mj.ret.de,.i mj.stack,.i mj.locals,.string mj.code,.slice Y mj.hands.length ch] 159)).alloc (.cells #[.i m,.i j] 233);have k0:((J.alloc (.cells #[.string mj.name,.bool mj.static,.slice X mj.args.length Z,.i mj.ret.kind,.string mj.ret.de,.i mj.stack,.i mj.locals,.string mj.code,.slice Y mj.hands.length ch] 159)).alloc (.cells #[.i m,.i j] 233)).cell? ⟨J.heap.size,0,none⟩=some (.string mj.name):=by simp [go_sem]
     have kt:((J.alloc (.cells #[.string mj.name,.bool mj.static,.slice X mj.args.length Z,.i mj.ret.kind,.string mj.ret.de,.i mj.stack,.i mj.locals,.string mj.code,.slice Y mj.hands.length ch] 159)).alloc (.cells #[.i m,.i j] 233)).heap[J.heap.size+1]? =some (.cells #[.i m,.i j] 233 (0,0)):=by have:=heap_alloc_new (J.alloc (.cells #[.string mj.name,.bool mj.static,.slice X mj.args.length Z,.i mj.ret.kind,.string mj.ret.de,.i mj.stack,.i mj.locals,.string mj.code,.slice Y mj.hands.length ch] 159)) (.cells #[.i m,.i j] 233);simpa using this
     have d1:J.heap.size+1<((J.alloc (.cells #[.string mj.name,.bool mj.static,.slice X mj.args.length Z,.i mj.ret.kind,.string mj.ret.de,.i mj.stack,.i mj.locals,.string mj.code,.slice Y mj.hands.length ch] 159)).alloc (.cells #[.i m,.i j] 233)).heap.size:=by simp
     have a5:=bn.o;generalize ((J.alloc (.cells #[.string mj.name,.bool mj.static,.slice X mj.args.length Z,.i mj.ret.kind,.string mj.ret.de,.i mj.stack,.i mj.locals,.string mj.code,.slice Y mj.hands.length ch] 159)).alloc (.cells #[.i m,.i j] 233))=W2 at*;generalize jl ns mj.name=ix at*;have ay:∀q,(Value.slice a6 ns.length c6).ownBlock=some q->w.heap.size<=q/\q<J.heap.size:=fun q e=>W.o.lt q e;have a0:Hid (ns.length+1<=maxLen/\(ns.length+1)*16<=140737488355328/\w.heap.size<=(W2.alloc (.cells #[.string mj.name] 9)).heap.size):=⟨by unfold maxLen;omega,by omega,by have:=a5.size;simp;omega⟩;have cv:=ag av;have cy:=ag aw;have cs:=ag kt;have bs:=ag ay;have a2:=ag a5;clear av aw kt ay a5 bn SN q0 q1 q2 q3 q4 q5 q6 q7 q8;go_wp2_with (at_builtin;refine wpList_append_lies _ rfl _ _ 225 rfl w.heap.size 9 iS (.string ⟨#[]⟩) 1 16 underlying225 dk cf ci cj rfl (by decide) (.slice a6 ns.length c6) ns.length (mc ns) rfl (cv.o.alloc _) ⟨W2.heap.size,0,none⟩ 1 1 [.string mj.name] rfl rfl (World.news_of_block (heap_alloc_new W2 _)) (by intro u hu;simp at hu;subst hu;rfl) (by omega) a0.o.1 a0.o.2.1 a0.o.2.2 _ rfl ?_);intro g6 ee w3 ai N _ d6;have ea:W2.heap.size+1<=w3.heap.size:=by have:=N.size;simpa using this
     have O:w3.heap[J.heap.size+1]? =some (.cells #[.i m,.i j] 233 (0,0)):=by rw [N.block (J.heap.size+1) (by simp;omega) (fun e=>by have:=(bs.o _ e.symm).2;omega),Below.heap_alloc _ _ _ d1];exact cs.o
     have b4:=(cy.o.alloc (.cells #[.string mj.name] 9)).kept N (sn F.o W.o (by decide));have ac:Bl w w3:=(a2.o.alloc a2.o.size _).grown N (by have:=a2.o.size;simp;omega) (fun q e=>(bs.o q e).1);have k3:=bp O 0 (x:=.i m) rfl;have k4:=bp O 1 (x:=.i j) rfl;have a1:Hid (ts.length+1<=maxLen/\(ts.length+1)*16<=140737488355328/\w.heap.size<=(w3.alloc (.cells #[.i m,.i j] 233)).heap.size):=⟨by have:=G.o;unfold maxLen;omega,by have:=G.o;omega,by have:=ac.size;simp;omega⟩;have a4:=ag b4;have bv:=ag ai;have az:=ag ac;clear ai N O b4 ac k0;go_wp2_with (at_builtin;refine wpList_append_lies _ rfl _ _ 226 rfl w.heap.size 233 iT (.agg #[.i 0,.i 0]) 2 16 underlying226 dl ck cn co rfl (by decide) (.slice a7 ts.length c7) ts.length (ts.flatMap iw) rfl (a4.o.alloc _) ⟨w3.heap.size,0,none⟩ 1 1 [.i m,.i j] rfl rfl (World.news_of_block (heap_alloc_new w3 _)) (by intro u hu;simp at hu;rcases hu with rfl | rfl<;>rfl) (by omega) a1.o.1 a1.o.2.1 a1.o.2.2 _ rfl ?_);intro V eg w4 aj af _ d8;have al:=(bv.o.alloc (.cells #[.i m,.i j] 233)).kept af (sn bv.o a4.o (by decide));have ak:Bl w w4:=(az.o.alloc az.o.size _).grown af (by have:=az.o.size;simp;omega) (fun q e=>(a4.o.lt q e).1);have bo:=ag (And.intro al (And.intro aj ak));clear aj af al ak k3 k4;go_wp2_with fail;go_roundw
     case rel=>
      obtain ⟨al,c9,ak⟩:=bo.o;refine ⟨j+1,ns++ [mj.name],ts++ [⟨m,j⟩],by omega,by go_num,?_,by simp;omega,by show _=_;have:=G.o;simp;omega,?_,?_,?_,ak⟩
      ·show _=_;rw [bx.o,zhe,<-HP.o,a3.o]
      ·show ∀s∈_,_;intro s hs;rcases List.mem_append.1 hs with hs | hs
       ·exact L.o s hs
       rw [List.mem_singleton]at hs;rw [hs];exact d3
      ·rw [List.length_append,show mc (ns++ [mj.name])=mc ns++ [.string mj.name] by simp [mc]];exact al
      rw [List.length_append,List.flatMap_append];exact c9
     case measure=>simp [intOf];omega
    have HX:Hid ((ns,ts)=((ln.take (k+1)).flatMap (kj l)).foldl fc ([],[])):=by show _=_;rw [b0.o,HP.o,List.take_of_length_le (by rw [b1.o];omega)]
    have cu:=ag E;have c1:=ag A;clear E A;go_wp2_with fail;go_roundw
    case rel=>exact ⟨k+1,ns,ts,by omega,by go_num,HX.o,by omega,G.o,L.o,cu.o,c1.o,I⟩
    case measure=>simp [intOf];omega
  have HX:Hid (ke l n=(ns,ts)):=by show _=_;rw [c2.o,HP.o,List.take_of_length_le (by omega)]
  have SN:=ag (zha E L.o (by omega));have ST:=ag (zhb A (by have:=G.o;omega));clear E A;go_wp2_with fail
  go_ret2
  exact ⟨I,_,_,rfl,by rw [fb,HX.o];exact SN.o,by rw [ew,HX.o];exact ST.o⟩
theorem kr.stp {α:Type} {n:Nat} {R:(Nat->Prop)->World->List Value->α->Prop} {B:Nat} {T:List Nat} {w w':World} {A:List Value} {x:List α} (h:kr n R (MT B T w) w A x) (E:Stp B T w w') (D:∀M M' w w' A x,R M w A x->R M' w' A x):kr n R (MT B T w') w' A x:=by obtain ⟨v,e,h⟩:=h;exact ⟨v,e,(h.kept E.kp fun _ _ h=>D _ _ _ _ _ _ h).mono (fun _ F=>F.step E) fun _ _ h=>D _ _ _ _ _ _ h⟩
theorem mf {w w':World} {B:Nat} {e A n:Nat} {v:Value} {xs:List Value} (h:w.ownsRow B e A v n xs) (D:Bl w w'):w'.ownsRow B e A v n xs:=
 h.kept (row:=none) ⟨D.os,D.tape,D.output,D.size,fun k E _=>D.block k E⟩ (by cases v.ownBlock<;>simp)
structure Wv (w0 W:World) (l:List aq) (vC vS vF vN vT vL:Value) (zF:List (List Value×List bq)) (zN:List (List Value×List ByteArray)) (zT:List (List Value×List cw)) (zL:List (List Value×List Nat)):Prop where
 below:Bl w0 W
 blk:W.heap[w0.heap.size+1]? =some (.cells #[vC,vS,vF,vN,vT,.map (some w0.heap.size),vL] 155 (0,0))
 sS:SL 1 RI (MT w0.heap.size [3] W) W vS ((List.range l.length).map (dj l))
 nm:iu W w0.heap.size l
 oF:W.ownsRow (w0.heap.size+2) 126 1 vF zF.length (zF.flatMap (·.1))
 aF:∀z∈zF,z.1.length=1/\kr 3 RF (MT w0.heap.size [125] W) W z.1 z.2
 oN:W.ownsRow (w0.heap.size+2) 225 1 vN zN.length (zN.flatMap (·.1))
 aN:∀z∈zN,z.1.length=1/\kr 1 RS (MT w0.heap.size [9] W) W z.1 z.2
 oT:W.ownsRow (w0.heap.size+2) 226 1 vT zT.length (zT.flatMap (·.1))
 aT:∀z∈zT,z.1.length=1/\kr 2 RT (MT w0.heap.size [233] W) W z.1 z.2
 oL:W.ownsRow (w0.heap.size+2) 22 1 vL zL.length (zL.flatMap (·.1))
 aL:∀z∈zL,z.1.length=1/\kr 1 RO (MT w0.heap.size [3] W) W z.1 z.2
theorem Wv.lt {A W:World} {l:List aq} {D I E G J F:Value} {L:List (List Value×List bq)} {O:List (List Value×List ByteArray)} {V:List (List Value×List cw)} {N:List (List Value×List Nat)} (h:Wv A W l D I E G J F L O V N):A.heap.size+1<W.heap.size:=bz h.blk
theorem Wv.grow {O W:World} {l:List aq} {F L G J N I:Value} {V:List (List Value×List bq)} {Y:List (List Value×List ByteArray)} {Z:List (List Value×List cw)} {X:List (List Value×List Nat)} {E:World} (h:Wv O W l F L G J N I V Y Z X) (A:Bl W E):Wv O E l F L G J N I V Y Z X:=
 ⟨h.below.trans (A.mono h.below.size),(A.block _ h.lt).trans h.blk,(h.sS.keptI (Stp.below A).kp).monoI fun _ hk=>hk.step (Stp.below A),h.nm.below A h.nm.lt,
  mf h.oF A,(fun z D=>⟨(h.aF z D).1,(h.aF z D).2.stp (Stp.below A) fun _ _ _ _ _ _ h=>h⟩),mf h.oN A,(fun z D=>⟨(h.aN z D).1,(h.aN z D).2.stp (Stp.below A) fun _ _ _ _ _ _ h=>h⟩),mf h.oT A,(fun z D=>⟨(h.aT z D).1,(h.aT z D).2.stp (Stp.below A) fun _ _ _ _ _ _ h=>h⟩),mf h.oL A,(fun z D=>⟨(h.aL z D).1,(h.aL z D).2.stp (Stp.below A) fun _ _ _ _ _ _ h=>h⟩)⟩
theorem Wv.cell {A W:World} {l:List aq} {D I E G J F:Value} {N:List (List Value×List bq)} {V:List (List Value×List ByteArray)} {X:List (List Value×List cw)} {O:List (List Value×List Nat)} (h:Wv A W l D I E G J F N V X O) (j:Nat) {x:Value} (L:(#[D,I,E,G,J,.map (some A.heap.size),F]:Array Value)[j]? =some x):W.cell? ⟨A.heap.size+1,j,none⟩=some x:=bp h.blk j L
theorem Wv.addF {D W:World} {l:List aq} {Y vS L vN vT Z:Value} {N:List (List Value×List bq)} {zN:List (List Value×List ByteArray)} {zT:List (List Value×List cw)} {zL:List (List Value×List Nat)} (h:Wv D W l Y vS L vN vT Z N zN zT zL) {u:Value} {x:List bq} (hu:SL 3 RF (MT D.heap.size [125] W) W u x) {I:World} {G:Value}
 (ho:I.ownsRow (D.heap.size+2) 126 1 G (N.length+1) (N.flatMap (·.1)++ [u])) (E:(W.alloc (.cells #[u] 126)).grownBy I L.ownBlock):
 Wv D (I.setCell ⟨D.heap.size+1,2,none⟩ G) l Y vS G vN vT Z (N++ [([u],x)]) zN zT zL:=by
 have V:=h.lt;have F:∀q,L.ownBlock=some q->D.heap.size+2<=q/\q<W.heap.size:=fun q e=>h.oF.lt q e;have J:I.heap[D.heap.size+1]? =some (.cells #[Y,vS,L,vN,vT,.map (some D.heap.size),Z] 155 (0,0)):=by rw [E.block (D.heap.size+1) (by simp;omega) (fun e=>by have:=(F _ e.symm).1;omega),Below.heap_alloc _ _ _ V];exact h.blk
 have hst:∀t,t∉ [126,155]->Stp D.heap.size [t] W (I.setCell ⟨D.heap.size+1,2,none⟩ G):=fun t ht=>
  (((Stp.refl _ _ _).alloc _).trans (Stp.row E (h.oF.alloc _) (fun e=>ht (by simp at e;simp [e])))).trans (Stp.set J (fun e=>ht (by simp at e;simp [<-e])) 2 G)
 have O:Bl D I:=(h.below.alloc h.below.size _).grown E (by have:=h.below.size;simp;omega) (fun q e=>by have:=(F q e).1;omega);refine ⟨O.setCell (by simp) _,rr J G,?_,?_,?_,?_,?_,?_,?_,?_,?_,?_⟩
 ·exact (h.sS.keptI (hst _ (by decide)).kp).monoI fun _ hk=>hk.step (hst _ (by decide))
 ·have X:=(h.nm.kept (row:=none) (World.grownBy_alloc W _ _) (by simp)).kept E (fun e=>by have:=(F _ e.symm).1;omega);exact X.kept (row:=some (D.heap.size+1)) (ow (World.grownBy.refl _ _) _ _ (Or.inl rfl)) (by simp)
 ·rw [List.length_append,Ej];exact ownsRow_setCell_below ho (by simp) _
 ·intro z A;rcases List.mem_append.1 A with A | A
  ·exact ⟨(h.aF z A).1,(h.aF z A).2.stp (hst _ (by decide)) fun _ _ _ _ _ _ h=>h⟩
  rw [List.mem_singleton]at A;subst A;exact ⟨rfl,kr.stp ⟨u,rfl,hu⟩ (hst _ (by decide)) fun _ _ _ _ _ _ h=>h⟩
 ·exact ownsRow_setCell_below ((h.oN.alloc _).kept E (sn h.oN h.oF (by decide))) (by simp) _
 ·exact fun z A=>⟨(h.aN z A).1,(h.aN z A).2.stp (hst _ (by decide)) fun _ _ _ _ _ _ h=>h⟩
 ·exact ownsRow_setCell_below ((h.oT.alloc _).kept E (sn h.oT h.oF (by decide))) (by simp) _
 ·exact fun z A=>⟨(h.aT z A).1,(h.aT z A).2.stp (hst _ (by decide)) fun _ _ _ _ _ _ h=>h⟩
 ·exact ownsRow_setCell_below ((h.oL.alloc _).kept E (sn h.oL h.oF (by decide))) (by simp) _
 exact fun z A=>⟨(h.aL z A).1,(h.aL z A).2.stp (hst _ (by decide)) fun _ _ _ _ _ _ h=>h⟩
theorem Wv.addN {D W:World} {l:List aq} {Y vS Z L vT vL:Value} {zF:List (List Value×List bq)} {N:List (List Value×List ByteArray)} {zT:List (List Value×List cw)} {zL:List (List Value×List Nat)} (h:Wv D W l Y vS Z L vT vL zF N zT zL) {u:Value} {x:List ByteArray} (hu:SL 1 RS (MT D.heap.size [9] W) W u x) {I:World} {G:Value}
 (ho:I.ownsRow (D.heap.size+2) 225 1 G (N.length+1) (N.flatMap (·.1)++ [u])) (E:(W.alloc (.cells #[u] 225)).grownBy I L.ownBlock):
 Wv D (I.setCell ⟨D.heap.size+1,3,none⟩ G) l Y vS Z G vT vL zF (N++ [([u],x)]) zT zL:=by
 have V:=h.lt;have F:∀q,L.ownBlock=some q->D.heap.size+2<=q/\q<W.heap.size:=fun q e=>h.oN.lt q e;have J:I.heap[D.heap.size+1]? =some (.cells #[Y,vS,Z,L,vT,.map (some D.heap.size),vL] 155 (0,0)):=by rw [E.block (D.heap.size+1) (by simp;omega) (fun e=>by have:=(F _ e.symm).1;omega),Below.heap_alloc _ _ _ V];exact h.blk
 have hst:∀t,t∉ [225,155]->Stp D.heap.size [t] W (I.setCell ⟨D.heap.size+1,3,none⟩ G):=fun t ht=>
  (((Stp.refl _ _ _).alloc _).trans (Stp.row E (h.oN.alloc _) (fun e=>ht (by simp at e;simp [e])))).trans (Stp.set J (fun e=>ht (by simp at e;simp [<-e])) 3 G)
 have O:Bl D I:=(h.below.alloc h.below.size _).grown E (by have:=h.below.size;simp;omega) (fun q e=>by have:=(F q e).1;omega);refine ⟨O.setCell (by simp) _,rr J G,?_,?_,?_,?_,?_,?_,?_,?_,?_,?_⟩
 ·exact (h.sS.keptI (hst _ (by decide)).kp).monoI fun _ hk=>hk.step (hst _ (by decide))
 ·have X:=(h.nm.kept (row:=none) (World.grownBy_alloc W _ _) (by simp)).kept E (fun e=>by have:=(F _ e.symm).1;omega);exact X.kept (row:=some (D.heap.size+1)) (ow (World.grownBy.refl _ _) _ _ (Or.inl rfl)) (by simp)
 ·exact ownsRow_setCell_below ((h.oF.alloc _).kept E (sn h.oF h.oN (by decide))) (by simp) _
 ·exact fun z A=>⟨(h.aF z A).1,(h.aF z A).2.stp (hst _ (by decide)) fun _ _ _ _ _ _ h=>h⟩
 ·rw [List.length_append,Ej];exact ownsRow_setCell_below ho (by simp) _
 ·intro z A;rcases List.mem_append.1 A with A | A
  ·exact ⟨(h.aN z A).1,(h.aN z A).2.stp (hst _ (by decide)) fun _ _ _ _ _ _ h=>h⟩
  rw [List.mem_singleton]at A;subst A;exact ⟨rfl,kr.stp ⟨u,rfl,hu⟩ (hst _ (by decide)) fun _ _ _ _ _ _ h=>h⟩
 ·exact ownsRow_setCell_below ((h.oT.alloc _).kept E (sn h.oT h.oN (by decide))) (by simp) _
 ·exact fun z A=>⟨(h.aT z A).1,(h.aT z A).2.stp (hst _ (by decide)) fun _ _ _ _ _ _ h=>h⟩
 ·exact ownsRow_setCell_below ((h.oL.alloc _).kept E (sn h.oL h.oN (by decide))) (by simp) _
 exact fun z A=>⟨(h.aL z A).1,(h.aL z A).2.stp (hst _ (by decide)) fun _ _ _ _ _ _ h=>h⟩
theorem Wv.addT {D W:World} {l:List aq} {Y vS Z vN L vL:Value} {zF:List (List Value×List bq)} {zN:List (List Value×List ByteArray)} {N:List (List Value×List cw)} {zL:List (List Value×List Nat)} (h:Wv D W l Y vS Z vN L vL zF zN N zL) {u:Value} {x:List cw} (hu:SL 2 RT (MT D.heap.size [233] W) W u x) {I:World} {G:Value}
 (ho:I.ownsRow (D.heap.size+2) 226 1 G (N.length+1) (N.flatMap (·.1)++ [u])) (E:(W.alloc (.cells #[u] 226)).grownBy I L.ownBlock):
 Wv D (I.setCell ⟨D.heap.size+1,4,none⟩ G) l Y vS Z vN G vL zF zN (N++ [([u],x)]) zL:=by
 have V:=h.lt;have F:∀q,L.ownBlock=some q->D.heap.size+2<=q/\q<W.heap.size:=fun q e=>h.oT.lt q e;have J:I.heap[D.heap.size+1]? =some (.cells #[Y,vS,Z,vN,L,.map (some D.heap.size),vL] 155 (0,0)):=by rw [E.block (D.heap.size+1) (by simp;omega) (fun e=>by have:=(F _ e.symm).1;omega),Below.heap_alloc _ _ _ V];exact h.blk
 have hst:∀t,t∉ [226,155]->Stp D.heap.size [t] W (I.setCell ⟨D.heap.size+1,4,none⟩ G):=fun t ht=>
  (((Stp.refl _ _ _).alloc _).trans (Stp.row E (h.oT.alloc _) (fun e=>ht (by simp at e;simp [e])))).trans (Stp.set J (fun e=>ht (by simp at e;simp [<-e])) 4 G)
 have O:Bl D I:=(h.below.alloc h.below.size _).grown E (by have:=h.below.size;simp;omega) (fun q e=>by have:=(F q e).1;omega);refine ⟨O.setCell (by simp) _,rr J G,?_,?_,?_,?_,?_,?_,?_,?_,?_,?_⟩
 ·exact (h.sS.keptI (hst _ (by decide)).kp).monoI fun _ hk=>hk.step (hst _ (by decide))
 ·have X:=(h.nm.kept (row:=none) (World.grownBy_alloc W _ _) (by simp)).kept E (fun e=>by have:=(F _ e.symm).1;omega);exact X.kept (row:=some (D.heap.size+1)) (ow (World.grownBy.refl _ _) _ _ (Or.inl rfl)) (by simp)
 ·exact ownsRow_setCell_below ((h.oF.alloc _).kept E (sn h.oF h.oT (by decide))) (by simp) _
 ·exact fun z A=>⟨(h.aF z A).1,(h.aF z A).2.stp (hst _ (by decide)) fun _ _ _ _ _ _ h=>h⟩
 ·exact ownsRow_setCell_below ((h.oN.alloc _).kept E (sn h.oN h.oT (by decide))) (by simp) _
 ·exact fun z A=>⟨(h.aN z A).1,(h.aN z A).2.stp (hst _ (by decide)) fun _ _ _ _ _ _ h=>h⟩
 ·rw [List.length_append,Ej];exact ownsRow_setCell_below ho (by simp) _
 ·intro z A;rcases List.mem_append.1 A with A | A
  ·exact ⟨(h.aT z A).1,(h.aT z A).2.stp (hst _ (by decide)) fun _ _ _ _ _ _ h=>h⟩
  rw [List.mem_singleton]at A;subst A;exact ⟨rfl,kr.stp ⟨u,rfl,hu⟩ (hst _ (by decide)) fun _ _ _ _ _ _ h=>h⟩
 ·exact ownsRow_setCell_below ((h.oL.alloc _).kept E (sn h.oL h.oT (by decide))) (by simp) _
 exact fun z A=>⟨(h.aL z A).1,(h.aL z A).2.stp (hst _ (by decide)) fun _ _ _ _ _ _ h=>h⟩
theorem Wv.addL {D W:World} {l:List aq} {Y vS Z vN vT L:Value} {zF:List (List Value×List bq)} {zN:List (List Value×List ByteArray)} {zT:List (List Value×List cw)} {N:List (List Value×List Nat)} (h:Wv D W l Y vS Z vN vT L zF zN zT N) {u:Value} {x:List Nat} (hu:SL 1 RO (MT D.heap.size [3] W) W u x) {I:World} {G:Value}
 (ho:I.ownsRow (D.heap.size+2) 22 1 G (N.length+1) (N.flatMap (·.1)++ [u])) (E:(W.alloc (.cells #[u] 22)).grownBy I L.ownBlock):
 Wv D (I.setCell ⟨D.heap.size+1,6,none⟩ G) l Y vS Z vN vT G zF zN zT (N++ [([u],x)]):=by
 have V:=h.lt;have F:∀q,L.ownBlock=some q->D.heap.size+2<=q/\q<W.heap.size:=fun q e=>h.oL.lt q e;have J:I.heap[D.heap.size+1]? =some (.cells #[Y,vS,Z,vN,vT,.map (some D.heap.size),L] 155 (0,0)):=by rw [E.block (D.heap.size+1) (by simp;omega) (fun e=>by have:=(F _ e.symm).1;omega),Below.heap_alloc _ _ _ V];exact h.blk
 have hst:∀t,t∉ [22,155]->Stp D.heap.size [t] W (I.setCell ⟨D.heap.size+1,6,none⟩ G):=fun t ht=>
  (((Stp.refl _ _ _).alloc _).trans (Stp.row E (h.oL.alloc _) (fun e=>ht (by simp at e;simp [e])))).trans (Stp.set J (fun e=>ht (by simp at e;simp [<-e])) 6 G)
 have O:Bl D I:=(h.below.alloc h.below.size _).grown E (by have:=h.below.size;simp;omega) (fun q e=>by have:=(F q e).1;omega);refine ⟨O.setCell (by simp) _,rr J G,?_,?_,?_,?_,?_,?_,?_,?_,?_,?_⟩
 ·exact (h.sS.keptI (hst _ (by decide)).kp).monoI fun _ hk=>hk.step (hst _ (by decide))
 ·have X:=(h.nm.kept (row:=none) (World.grownBy_alloc W _ _) (by simp)).kept E (fun e=>by have:=(F _ e.symm).1;omega);exact X.kept (row:=some (D.heap.size+1)) (ow (World.grownBy.refl _ _) _ _ (Or.inl rfl)) (by simp)
 ·exact ownsRow_setCell_below ((h.oF.alloc _).kept E (sn h.oF h.oL (by decide))) (by simp) _
 ·exact fun z A=>⟨(h.aF z A).1,(h.aF z A).2.stp (hst _ (by decide)) fun _ _ _ _ _ _ h=>h⟩
 ·exact ownsRow_setCell_below ((h.oN.alloc _).kept E (sn h.oN h.oL (by decide))) (by simp) _
 ·exact fun z A=>⟨(h.aN z A).1,(h.aN z A).2.stp (hst _ (by decide)) fun _ _ _ _ _ _ h=>h⟩
 ·exact ownsRow_setCell_below ((h.oT.alloc _).kept E (sn h.oT h.oL (by decide))) (by simp) _
 ·exact fun z A=>⟨(h.aT z A).1,(h.aT z A).2.stp (hst _ (by decide)) fun _ _ _ _ _ _ h=>h⟩
 ·rw [List.length_append,Ej];exact ownsRow_setCell_below ho (by simp) _
 intro z A;rcases List.mem_append.1 A with A | A
 ·exact ⟨(h.aL z A).1,(h.aL z A).2.stp (hst _ (by decide)) fun _ _ _ _ _ _ h=>h⟩
 rw [List.mem_singleton]at A;subst A;exact ⟨rfl,kr.stp ⟨u,rfl,hu⟩ (hst _ (by decide)) fun _ _ _ _ _ _ h=>h⟩
theorem Wv.rowsF {A W:World} {l:List aq} {L V G O X N:Value} {D:List (List Value×List bq)} {Z:List (List Value×List ByteArray)} {zT:List (List Value×List cw)} {Y:List (List Value×List Nat)} (h:Wv A W l L V G O X N D Z zT Y) (hl:D.length<=1000):SL 1 (kr 3 RF) (MT A.heap.size [125,126] W) W G (D.map (·.2)):=
 vz (n:=1) (R:=kr 3 RF) (T:=[125,126]) (Ah h.oF (B':=A.heap.size) (by omega)) (fun z F=>⟨(h.aF z F).1,by
  obtain ⟨v,e,J⟩:=(h.aF z F).2;exact ⟨v,e,J.mono (fun _ I=>I.more (nlq _) (fun _ E=>by simp at E;simp [E])) fun _ _ h=>h⟩⟩) (by simp) (by unfold maxLen;omega)
theorem Wv.rowsN {A W:World} {l:List aq} {L V N G X O:Value} {Y:List (List Value×List bq)} {D:List (List Value×List ByteArray)} {zT:List (List Value×List cw)} {Z:List (List Value×List Nat)} (h:Wv A W l L V N G X O Y D zT Z) (hl:D.length<=1000):SL 1 (kr 1 RS) (MT A.heap.size [9,225] W) W G (D.map (·.2)):=
 vz (n:=1) (R:=kr 1 RS) (T:=[9,225]) (Ah h.oN (B':=A.heap.size) (by omega)) (fun z F=>⟨(h.aN z F).1,by
  obtain ⟨v,e,J⟩:=(h.aN z F).2;exact ⟨v,e,J.mono (fun _ I=>I.more (nlq _) (fun _ E=>by simp at E;simp [E])) fun _ _ h=>h⟩⟩) (by simp) (by unfold maxLen;omega)
theorem Wv.rowsT {A W:World} {l:List aq} {L X N V G O:Value} {Y:List (List Value×List bq)} {zN:List (List Value×List ByteArray)} {D:List (List Value×List cw)} {Z:List (List Value×List Nat)} (h:Wv A W l L X N V G O Y zN D Z) (hl:D.length<=1000):SL 1 (kr 2 RT) (MT A.heap.size [233,226] W) W G (D.map (·.2)):=
 vz (n:=1) (R:=kr 2 RT) (T:=[233,226]) (Ah h.oT (B':=A.heap.size) (by omega)) (fun z F=>⟨(h.aT z F).1,by
  obtain ⟨v,e,J⟩:=(h.aT z F).2;exact ⟨v,e,J.mono (fun _ I=>I.more (nlq _) (fun _ E=>by simp at E;simp [E])) fun _ _ h=>h⟩⟩) (by simp) (by unfold maxLen;omega)
theorem Wv.rowsL {A W:World} {l:List aq} {L V N O X G:Value} {Y:List (List Value×List bq)} {Z:List (List Value×List ByteArray)} {zT:List (List Value×List cw)} {D:List (List Value×List Nat)} (h:Wv A W l L V N O X G Y Z zT D) (hl:D.length<=1000):SL 1 (kr 1 RO) (MT A.heap.size [3,22] W) W G (D.map (·.2)):=
 vz (n:=1) (R:=kr 1 RO) (T:=[3,22]) (Ah h.oL (B':=A.heap.size) (by omega)) (fun z F=>⟨(h.aL z F).1,by
  obtain ⟨v,e,J⟩:=(h.aL z F).2;exact ⟨v,e,J.mono (fun _ I=>I.more (nlq _) (fun _ E=>by simp at E;simp [E])) fun _ _ h=>h⟩⟩) (by simp) (by unfold maxLen;omega)
end Go.Proofs.YtjdnmblggdobgaaGreat
namespace Go.Proofs.YtjdnmblggdobgaaGreat
open Go.RowKit Tryz
def meth0:d9:=⟨⟨#[]⟩,false,[],⟨0,⟨#[]⟩⟩,0,0,⟨#[]⟩,[]⟩
def nw (l:List aq) (t:cw):d9:=((cd l t.de.toNat).be[t.s9.toNat]?).getD meth0
def okT (l:List aq) (t:cw):Prop:=∃c j:Nat,t=⟨c,j⟩/\c<l.length/\j<(cd l c).be.length
def ll (l:List aq) (n:Nat) (m:d9):Bool:=
 if jl (fb l n) m.name<0 then true else
  match (ew l n)[(jl (fb l n) m.name).toNat]? with
  | none=>true
  | some t=>!m.static&& !(nw l t).static&&d7 m.ret (nw l t).ret&&db d7 m.args (nw l t).args
def nf (l:List aq):Bool:=(List.range l.length).all fun i=>decide ((cd l i).bv=(⟨#[]⟩:ByteArray))||(cd l i).be.all (ll l (dj l i).toNat)
theorem ziz (l:List aq) (P:List (ByteArray×cw)):∀A:List ByteArray×List cw,(∀t∈A.2,okT l t)->(∀x∈P,okT l x.2)->∀t∈(P.foldl fc A).2,okT l t:=by
 induction P with
 | nil=>exact fun A h _=>h
 | cons x P ih=>
   intro A h E;refine ih (fc A x) ?_ fun y G=>E y (List.mem_cons_of_mem _ G);have F:=E x (List.mem_cons_self ..);unfold fc;split
   ·intro t D;rcases List.mem_or_eq_of_mem_set D with h1 | h1
    ·exact h t h1
    rw [h1];exact F
   intro t D;rcases List.mem_append.1 D with h1 | h1
   ·exact h t h1
   rw [List.mem_singleton.1 h1];exact F
theorem zi0 {l:List aq} {n:Nat} (E:n<l.length):∀t∈ew l n,okT l t:=by refine ziz l _ ([],[]) (fun t h=>by cases h) fun x A=>?_;obtain ⟨k,D,A⟩:=List.mem_flatMap.1 A;obtain ⟨p,F,rfl⟩:=List.mem_map.1 A;refine ⟨k,p.2,rfl,zgy E k D,?_⟩;have:=List.mem_zipIdx F;omega
theorem zi1 (l:List aq) (n:Nat):(fb l n).length=(ew l n).length:=zhd _ ([],[]) rfl
theorem zi2 {l:List aq} {c j:Nat} (h:j<(cd l c).be.length):nw l ⟨c,j⟩=(cd l c).be[j]:=by simp [nw,h]
theorem zi3 {l:List aq} {n:Nat} {m:d9} (h:jl (fb l n) m.name<0):ll l n m=true:=if_pos h
theorem zi4 {l:List aq} {n k c j:Nat} {m:d9} (h:jl (fb l n) m.name=k) (D:k<(ew l n).length) (E:(ew l n)[k]=⟨c,j⟩) (A:j<(cd l c).be.length):
 ll l n m=(!m.static&& !(cd l c).be[j].static&&d7 m.ret (cd l c).be[j].ret&&db d7 m.args (cd l c).be[j].args):=by
 rw [ll,h,if_neg (by omega),Int.toNat_natCast,List.getElem?_eq_getElem D,E];show (!m.static&& !(nw l ⟨c,j⟩).static&&d7 m.ret (nw l ⟨c,j⟩).ret&&db d7 m.args (nw l ⟨c,j⟩).args)=_;rw [zi2 A]
end Go.Proofs.YtjdnmblggdobgaaGreat
