import Derived.Test.YtjdnmblggdobgaaGreatJLLineLLn
import Derived.Deep.AppendSrc
import Derived.Test.YtjdnmblggdobgaaGreatJPlainFine
import Derived.Test.YtjdnmblggdobgaaGreatJLErrLRf4
set_option maxHeartbeats 8000000
set_option maxRecDepth 100000
namespace Go.Proofs.YtjdnmblggdobgaaGreat
open Go Go.RowKit
theorem zf8 {P:Program} (w:World) (t ty e:TypeId) (i:TypeInfo) (ht:P.underlying t=some (.slice e)) (hi:P.info? e=some i) (a:Option Addr) (n c:Nat) (hn:n<=c) (ha:a=none\/∃g,a=some ⟨g,0,none⟩) (x:Option Addr) (cx:Nat):
 (Builtin.append_ #[t,t] ty #[.slice a n c,.slice x 0 cx]).run P w=.ok (.slice a n c) w:=by
 have hs:Src P i.size t (.slice x 0 cx) 0 [] w:=by
  cases x with
  | none=>exact Src.ofNil w ht cx
  | some ad=>exact Src.ofSlice w ht ad 0 cx [] (by simp) (fun j u h=>by simp at h) (fun u h=>by cases h)
 rcases ha with rfl | ⟨g,rfl⟩
 ·
  simp [Builtin.append_,run_underlying ht,sizeOf,typeInfo,hi,hs.len,hn,hs.cells]
 have:=run_append_room_src w t t ty e i ht hi g 0 n c (.slice x 0 cx) 0 [] hs (by omega) (fun j h=>by cases h) (fun j h=>by cases h)
 rw [this]
 rfl
theorem zf9 {P:Program} (w:World) {ops:Array Oper} {rest:List Oper} {o:Oper} {a:Act} {Q:Exit->Act->World->Prop} (hgd:o.guard=none) (s x:Operand) (t:TypeId)
 (ho:o.op=.call { callee:=.builtin .append,args:=#[s,x],argTypes:=#[t,t] }) (e:TypeId) (i:TypeInfo) (ht:P.underlying t=some (.slice e)) (hi:P.info? e=some i)
 (ad:Option Addr) (n c:Nat) (hs:a.eval s=.slice ad n c) (hn:n<=c) (ha:ad=none\/∃g,ad=some ⟨g,0,none⟩) (xa:Option Addr) (cx:Nat) (hx:a.eval x=.slice xa 0 cx)
 (h:wpList P ops Q rest (a.put o.dst (.slice ad n c)) w):wpList P ops Q (o::rest) a w:=by
 refine wpList_plain hgd fun K hK=>?_
 have hr:=zf8 (P:=P) w t o.type e i ht hi ad n c hn ha xa cx
 unfold Oper.wp execOp
 simp only [ho,resolve,invoke,builtin,Sem.run_bind,Sem.run_pure,Result.andThen_ok,List.map_toArray,List.map_cons,List.map_nil,hs,hx,hr]
 exact hK _ _ h
theorem zga {w:World} {B e n len:Nat} {a:Option Addr} {c:Nat} {xs:List Value} (h:w.ownsRow B e n (.slice a len c) len xs):len<=c/\(a=none\/∃g,a=some ⟨g,0,none⟩):=by
 rcases h.2 with ⟨e,h0⟩ | ⟨g,cap,cur,e,_,_,hc,_⟩
 ·
  exact ⟨by omega,Or.inl (Value.slice.inj e).1⟩
 obtain ⟨e1,_,e3⟩:=Value.slice.inj e
 exact ⟨by omega,Or.inr ⟨g,e1⟩⟩
end Go.Proofs.YtjdnmblggdobgaaGreat
namespace Go.Proofs.YtjdnmblggdobgaaGreat
open Go.RowKit Go.Sort
theorem Tryz.infoField:(Tryz.prog.info? 125).map (fun i=>(i.zero,i.size,i.bytes))=some (some (.agg #[.string ⟨#[]⟩,.int .i64 0,.string ⟨#[]⟩]),3,40):=by kernel_rfl
theorem zgw (l:List ClassD):∀(f:Nat) (m:Int),m<l.length->∀k∈climb l f m,k<l.length
 | 0,_,_,k,hk=>by cases hk
 | f+1,m,hm,k,hk=>by
   unfold climb at hk
   split at hk
   ·
    rcases List.mem_cons.1 hk with rfl | hk
    ·
     omega
    exact zgw l f _ (zf4 l _).2 k hk
   cases hk
theorem zgx (l:List ClassD):∀(f:Nat) (m:Int),(climb l f m).length<=f
 | 0,_=>by simp [climb]
 | f+1,m=>by
   unfold climb
   split
   ·
    have:=zgx l f (supAt l m.toNat)
    simp
    omega
   simp
theorem zgy {l:List ClassD} {n:Nat} (hn:n<l.length):∀k∈lineOf l n,k<l.length:=fun k hk=>zgw l _ n (by omega) k (by simpa [lineOf]using hk)
theorem zgz (l:List ClassD) (n:Nat):(lineOf l n).length<=l.length+1:=by
 rw [lineOf,List.length_reverse]
 exact zgx l _ _
def fcells (f:FieldD):List Value:=[.string f.name,.int .i64 f.kind.kind,.string f.kind.cls]
theorem zg1 (b off j:Nat):(⟨b,off,none⟩:Addr).add j=⟨b,off+j,none⟩:=by unfold Addr.add;split<;>simp_all
theorem zg2 {α:Type} {n:Nat} {R:(Nat->Prop)->World->List Value->α->Prop} {M:Nat->Prop} {w:World} {b off len cap:Nat} {l:List α} (f:α->List Value) (hn:0<n) (hf:∀x∈l,(f x).length=n) (hR:∀cs x,R M w cs x->cs=f x)
 (h:SL n R M w (.slice (some ⟨b,off,none⟩) len cap) l):∀j u,(l.flatMap f)[j]? =some u->w.cell? ((⟨b,off,none⟩:Addr).add j)=some u:=by
 intro j u hu
 have hlen:(l.flatMap f).length=l.length*n:=by
  clear h hR hu
  induction l with
  | nil=>simp
  | cons x l ih=>
    rw [List.flatMap_cons,List.length_append,ih (fun y hy=>hf y (by simp [hy])),hf x (by simp),List.length_cons,Nat.add_mul]
    omega
 have hj:j<l.length*n:=by rw [<-hlen];exact (List.getElem?_eq_some_iff.1 hu).1
 have hq:j / n<l.length:=Nat.div_lt_of_lt_mul (by rw [Nat.mul_comm];exact hj)
 have hr:j % n<n:=Nat.mod_lt _ hn
 have hjd:j / n*n+j % n=j:=by rw [Nat.mul_comm];exact Nat.div_add_mod j n
 obtain ⟨b',off',cs,e,_,_,_,hc,hr'⟩:=h.at (j / n) hq
 cases e
 have hcs:=hR _ _ hr'
 rw [<-hjd,ze3 f l (j / n) (j % n) hf hq hr]at hu
 have:=hc (j % n) hr
 rw [hcs,hu]at this
 rw [zg1,<-hjd,<-Nat.add_assoc]
 exact this
theorem zg3 {l:List FieldD} :(l.flatMap fcells).length=l.length*3:=by
 induction l with
 | nil=>rfl
 | cons x l ih=>rw [List.flatMap_cons,List.length_append,ih,List.length_cons];simp [fcells];omega
theorem zg4 (l:List FieldD):∀u∈l.flatMap fcells,u.oneCell'=true:=by
 intro u hu
 obtain ⟨f,_,hu⟩:=List.mem_flatMap.1 hu
 simp [fcells]at hu
 rcases hu with rfl | rfl | rfl<;>rfl
theorem zg5 (w:World) (B b:Nat) (l:List ClassD) (n:Nat) (hn:n<l.length) (ao:Option Addr) (cl:Nat) (c0:w.cell? ⟨b,0,none⟩=some (.slice ao l.length cl)) (sC:SL 4 RC (· <B) w (.slice ao l.length cl) l)
 (vL:Value) (LL:List (List Nat)) (c6:w.cell? ⟨b,6,none⟩=some vL) (sL:SL 1 (RSl 1 RO) (MT B [3,22] w) w vL LL) (hnL:n<LL.length) (hLL:LL[n]=lineOf l n) (hB:B<=w.heap.size) (hN:l.length<=10) (hF:∀c∈l,c.fields.length<=6):
 Calls Tryz.prog 201 #[.pointer (some ⟨b,0,none⟩),.int .i64 n] w fun r w'=>Below w.heap.size w w'/\∃v,r=.returned v/\SL 3 RF (MT w.heap.size [125] w') w' v (fieldsOf l n):=by
 obtain ⟨iF,hiF,hzF0,hzF1,hzF2⟩:=info_parts Tryz.infoField
 have hbl:b<w.heap.size:=World.block_lt_of_cell? w _ c0
 have HLL:=mk0 hLL
 have HC:=mk0 sC
 have sL':=sL
 obtain ⟨aL,cL,rfl,-⟩:=sL'
 obtain ⟨bL,oL,aI,cI,rfl,hbL,eL,sI⟩:=sL.atSl n hnL
 rw [HLL.out]at eL sI
 have hkL:=zgy hn
 have hlL:=zgz l n
 have HFO:Hid (fieldsOf l n=(lineOf l n).flatMap fun k=>(clsAt l k).fields):=rfl
 generalize lineOf l n=ln at*
 have HI:=mk0 sI
 have HK:=mk0 hkL
 have HFF:=mk0 hF
 have hn0:(0:Int)<=n:=by omega
 have hn1:(n:Int)<LL.length:=by omega
 clear sC sL sI hLL hkL hF
 go_enter Tryz.func201,Tryz.ntmps201
 go_wp2_with fail
 go_loopw [5,16] (fun v i wr=>∃(k:Nat) (fs:List FieldD),k<=ln.length/\i=.int .i64 k/\Hid (fs=(ln.take k).flatMap fun k=>(clsAt l k).fields)/\fs.length<=6*k/\Hid (∀f∈fs,f.name.size<=maxLen/\f.kind.cls.size<=maxLen)/\wr.ownsRow w.heap.size 125 3 v fs.length (fs.flatMap fcells)/\Below w.heap.size w wr) (fun _ i _=>ln.length - (intOf i).toNat)
 case atStart=>exact ⟨0,[],Nat.zero_le _,rfl,rfl,by simp,(fun f hf=>by cases hf),World.ownsRow_nil _ _ _ _,Below.refl _ _⟩
 case round=>
  obtain ⟨k,fs,hk,rfl,HP,hfl,HSZ,hown,hBr⟩:=hrel
  obtain ⟨a5,c5,rfl⟩:=zfz hown
  have hsr:=hBr.size
  by_cases hlt:k<ln.length
  ·
   obtain ⟨bi,oi,rfl,hbi,ei⟩:=HI.out.atO k hlt
   have ei':=(hBr.cell (p:=⟨bi,oi+k,none⟩) hbi).trans ei
   have hmk:=HK.out ln[k] (List.getElem_mem hlt)
   have d0:wr.cell? ⟨b,0,none⟩=some (.slice ao l.length cl):=(hBr.cell (p:=⟨b,0,none⟩) hbl).trans c0
   obtain ⟨bc,oc,vf,vm,rfl,hbc,e0,e1,e2,e3,ef,em,es1,es2⟩:=(HC.out.keptC (Kp.below (hBr.mono hB))).atC ln[k] hmk
   have hcf:=HFF.out l[ln[k]] (List.getElem_mem hmk)
   have HCA:Hid (clsAt l ln[k]=l[ln[k]]):=zay hmk
   obtain ⟨m,hm⟩:∃m,m=ln[k]:=⟨_,rfl⟩
   have HM:=mk0 hm
   generalize hcc:l[ln[k]]=cc at*
   clear hcc
   rw [<-hm]at ei' e0 e1 e2 e3 hmk
   have hm0:(0:Int)<=m:=by omega
   have hm1:(m:Int)<l.length:=by omega
   have EF:=mk0 ef
   obtain ⟨fo,cf,rfl,-⟩:=ef
   have HOW:=mk0 hown
   have hszF:∀f∈cc.fields,f.name.size<=maxLen/\f.kind.cls.size<=maxLen:=by
    intro f hf
    obtain ⟨q,hq,rfl⟩:=List.getElem_of_mem hf
    obtain ⟨_,_,_,_,_,_,_,h1,h2⟩:=EF.out.atF q hq
    exact ⟨h1,h2⟩
   have HSF:=mk0 hszF
   have HNX:Hid ((ln.take (k+1)).flatMap (fun k=>(clsAt l k).fields)=fs++cc.fields):=by
    show _=_
    rw [List.take_succ_eq_append_getElem hlt,List.flatMap_append,<-HP.out]
    simp [HCA.out]
   clear hm ei hszF
   by_cases h0:cc.fields= []
   ·
    have HNE:=mk0 h0
    rw [h0]at e2
    clear h0
    obtain ⟨hc5,ha5⟩:=zga hown
    go_wp2_with (at_builtin;refine zf9 _ rfl _ _ 126 rfl 125 iF Tryz.underlying126 hiF a5 fs.length c5 rfl hc5 ha5 fo cf rfl ?_)
    clear ha5 hc5
    go_wp2_with fail
    go_roundw
    case rel=>exact ⟨k+1,fs,by omega,by go_num,by show _=_;have:=HNX.out;rw [HNE.out,List.append_nil]at this;exact this.symm,by omega,HSZ.out,HOW.out,hBr⟩
    case measure=>simp [intOf];omega
   have hpos:0<cc.fields.length:=List.length_pos_iff.2 h0
   obtain ⟨bf,of,hfo⟩:∃bf of,fo=some ⟨bf,of,none⟩:=by
    obtain ⟨bf,of,e,_⟩:=EF.out.atF 0 hpos
    exact ⟨bf,of,e⟩
   subst hfo
   have HNEWS:Hid (∀j u,(cc.fields.flatMap fcells)[j]? =some u->wr.cell? ((⟨bf,of,none⟩:Addr).add j)=some u):=zg2 fcells (by decide) (fun x _=>rfl) (fun _ _ h=>h.1) EF.out
   have HBB:Hid (fs.length+cc.fields.length<=maxLen/\(fs.length+cc.fields.length)*40<=140737488355328):=⟨by unfold maxLen;omega,by omega⟩
   clear h0
   go_wp2_with (at_builtin;refine wpList_append_lies _ rfl _ _ 126 rfl w.heap.size 125 iF (.agg #[.string ⟨#[]⟩,.int .i64 0,.string ⟨#[]⟩]) 3 40 Tryz.underlying126 hiF hzF0 hzF1 hzF2 rfl (by decide) (.slice a5 fs.length c5) fs.length (fs.flatMap fcells) rfl HOW.out ⟨bf,of,none⟩ cc.fields.length cf (cc.fields.flatMap fcells) rfl zg3 HNEWS.out (zg4 _) hpos HBB.out.1 HBB.out.2 hsr _ rfl ?_)
   intro g cap w1 hown1 hgr1 hat1 hlt1
   have HX:=mk0 (And.intro hown1 (hBr.grown hgr1 hsr (fun k e=>(HOW.out.lt k e).1)))
   clear hown1 hgr1 hat1 hown hBr
   go_wp2_with fail
   go_roundw
   case rel=>
    obtain ⟨hown1,hB1⟩:=HX.out
    refine ⟨k+1,fs++cc.fields,by omega,by go_num,HNX.out.symm,by simp;omega,?_,?_,hB1⟩
    ·
     show ∀f∈_,_
     intro f hf
     rcases List.mem_append.1 hf with hf | hf
     ·
      exact HSZ.out f hf
     exact HSF.out f hf
    rw [List.length_append,List.flatMap_append]
    exact hown1
   case measure=>simp [intOf];omega
  have HX:Hid (fieldsOf l n=fs):=by
   show _=_
   rw [HFO.out,HP.out,List.take_of_length_le (by omega)]
  have hzs:(fs.map fun f=>(fcells f,f)).length=fs.length:=by simp
  have hzf:(fs.map fun f=>(fcells f,f)).flatMap (·.1)=fs.flatMap fcells:=by rw [List.flatMap_map]
  have SV:=mk0 (ze4 (n:=3) (R:=RF) (T:=[125]) (zs:=fs.map fun f=>(fcells f,f)) (by rw [hzs,hzf];exact hown) (fun z hz=>by
   obtain ⟨f,hf,rfl⟩:=List.mem_map.1 hz
   exact ⟨rfl,rfl,HSZ.out f hf⟩) (by simp) (by rw [hzs];unfold maxLen;omega))
  clear hzs hzf hown
  go_wp2_with fail
  go_ret
  exact ⟨hBr,_,rfl,by rw [HX.out];have:=SV.out;rwa [List.map_map,show ((·.2)∘fun f:FieldD=>(fcells f,f))=id from rfl,List.map_id]at this⟩
theorem Tryz.infoStr:(Tryz.prog.info? 9).map (fun i=>(i.zero,i.size,i.bytes))=some (some (.string ⟨#[]⟩),1,16):=by kernel_rfl
theorem Tryz.infoTarg:(Tryz.prog.info? 233).map (fun i=>(i.zero,i.size,i.bytes))=some (some (.agg #[.int .i64 0,.int .i64 0]),2,16):=by kernel_rfl
theorem zg6 {W:World} {k j t:Nat} {cs:Array Value} {fr:Nat×Nat} (h:W.heap[k]? =some (.cells cs t fr)) (v:Value):(W.setCell ⟨k,j,none⟩ v).heap[k]? =some (.cells (cs.setIfInBounds j v) t fr):=by
 simp [World.setCell,Array.getElem?_modify,h]
theorem zg7 {w:World} {B e size g cap n:Nat} {xs:List Value} (h:w.ownsRow B e size (.slice (some ⟨g,0,none⟩) n cap) n xs) (j:Nat) (v:Value):(w.setCell ⟨g,j,none⟩ v).ownsRow B e size (.slice (some ⟨g,0,none⟩) n cap) n (xs.set j v):=by
 refine ⟨by rw [List.length_set];exact h.1,?_⟩
 rcases h.2 with ⟨e,_⟩ | ⟨g',cap',cur,e,hB,hb,hc,hm,hs,ht⟩
 ·
  cases e
 cases e
 refine Or.inr ⟨g,cap,cur.setIfInBounds j v,rfl,hB,zg6 hb v,hc,hm,by simpa using hs,?_⟩
 rw [<-ht]
 simp [List.take_set]
theorem zg8 {w:World} {B B' e e' n n' k k':Nat} {v v':Value} {xs xs':List Value} (h:w.ownsRow B e n v k xs) (h':w.ownsRow B' e' n' v' k' xs') (hne:e≠e'):v.ownBlock=none\/v.ownBlock≠v'.ownBlock:=by
 rcases h.2 with ⟨rfl,_⟩ | ⟨g,cap,cur,rfl,_,hb,_⟩
 ·
  exact Or.inl rfl
 rcases h'.2 with ⟨rfl,_⟩ | ⟨g',cap',cur',rfl,_,hb',_⟩
 ·
  exact Or.inr (by simp [Value.ownBlock])
 refine Or.inr fun e=>?_
 simp [Value.ownBlock]at e
 subst e
 rw [hb]at hb'
 cases hb'
 exact hne rfl
def scells (ns:List ByteArray):List Value:=ns.map Value.string
def tcell (t:TargD):List Value:=[.int .i64 t.cls,.int .i64 t.meth]
theorem tlen (ts:List TargD):(ts.flatMap tcell).length=ts.length*2:=by
 induction ts with
 | nil=>rfl
 | cons x l ih=>rw [List.flatMap_cons,List.length_append,ih,List.length_cons];simp [tcell];omega
theorem zg9 (ns:List ByteArray):ns.flatMap (fun s=>[Value.string s])=scells ns:=by
 induction ns with
 | nil=>rfl
 | cons x l ih=>rw [List.flatMap_cons,ih];rfl
theorem zha {w:World} {B:Nat} {v:Value} {ns:List ByteArray} (h:w.ownsRow B 9 1 v ns.length (scells ns)) (hs:∀s∈ns,s.size<=maxLen) (hl:ns.length<=1000):SL 1 RS (MT B [9] w) w v ns:=by
 have hz:(ns.map fun s=>([Value.string s],s)).length=ns.length:=by simp
 have hf:(ns.map fun s=>([Value.string s],s)).flatMap (·.1)=scells ns:=by rw [List.flatMap_map];exact zg9 ns
 have:=ze4 (n:=1) (R:=RS) (T:=[9]) (zs:=ns.map fun s=>([Value.string s],s)) (by rw [hz,hf];exact h) (fun z hz=>by
  obtain ⟨s,hs',rfl⟩:=List.mem_map.1 hz
  exact ⟨rfl,rfl,hs s hs'⟩) (by simp) (by rw [hz];unfold maxLen;omega)
 rwa [List.map_map,show ((·.2)∘fun s:ByteArray=>([Value.string s],s))=id from rfl,List.map_id]at this
theorem zhb {w:World} {B:Nat} {v:Value} {ts:List TargD} (h:w.ownsRow B 233 2 v ts.length (ts.flatMap tcell)) (hl:ts.length<=1000):SL 2 RT (MT B [233] w) w v ts:=by
 have hz:(ts.map fun s=>(tcell s,s)).length=ts.length:=by simp
 have hf:(ts.map fun s=>(tcell s,s)).flatMap (·.1)=ts.flatMap tcell:=by rw [List.flatMap_map]
 have:=ze4 (n:=2) (R:=RT) (T:=[233]) (zs:=ts.map fun s=>(tcell s,s)) (by rw [hz,hf];exact h) (fun z hz=>by
  obtain ⟨s,hs',rfl⟩:=List.mem_map.1 hz
  exact ⟨rfl,rfl⟩) (by simp) (by rw [hz];unfold maxLen;omega)
 rwa [List.map_map,show ((·.2)∘fun s:TargD=>(tcell s,s))=id from rfl,List.map_id]at this
theorem zhc (ts:List TargD) (k:Nat) (t:TargD):((ts.flatMap tcell).set (k*2) (.int .i64 t.cls)).set (k*2+1) (.int .i64 t.meth)=(ts.set k t).flatMap tcell:=by
 induction ts generalizing k with
 | nil=>simp
 | cons x l ih=>
   cases k with
   | zero=>simp [tcell]
   | succ k=>
     rw [List.set_cons_succ,List.flatMap_cons,List.flatMap_cons,<-ih k]
     have e1:(k+1)*2=k*2+1+1:=by omega
     rw [e1]
     simp [tcell]
theorem zhd (P:List (ByteArray×TargD)):∀acc:List ByteArray×List TargD,acc.1.length=acc.2.length->(P.foldl tabStep acc).1.length=(P.foldl tabStep acc).2.length:=by
 induction P with
 | nil=>exact fun _ h=>h
 | cons x P ih=>
   intro acc h
   refine ih _ ?_
   unfold tabStep
   split
   ·
    simpa using h
   simp [h]
theorem zhe (P:List (ByteArray×TargD)) (x:ByteArray×TargD):(P++ [x]).foldl tabStep ([],[])=tabStep (P.foldl tabStep ([],[])) x:=by rw [List.foldl_append];rfl
theorem zhf (l:List ByteArray) (s:ByteArray):idxS l s<l.length:=by
 unfold idxS
 split
 ·
  rename_i i h
  have:=(List.findIdx?_eq_some_iff_getElem.1 h).1
  omega
 omega
theorem zhg (l:List ClassD) (n:Nat):(ownT l n).length=(clsAt l n).meths.length:=by simp [ownT]
theorem zhh (l:List ClassD) (n j:Nat) (h:j<(ownT l n).length) (h':j<(clsAt l n).meths.length):(ownT l n)[j]=((clsAt l n).meths[j].name,⟨n,j⟩):=by simp [ownT]
theorem zhi (w:World) (B b:Nat) (l:List ClassD) (n:Nat) (hn:n<l.length) (ao:Option Addr) (cl:Nat) (c0:w.cell? ⟨b,0,none⟩=some (.slice ao l.length cl)) (sC:SL 4 RC (· <B) w (.slice ao l.length cl) l)
 (vL:Value) (LL:List (List Nat)) (c6:w.cell? ⟨b,6,none⟩=some vL) (sL:SL 1 (RSl 1 RO) (MT B [3,22] w) w vL LL) (hnL:n<LL.length) (hLL:LL[n]=lineOf l n) (hB:B<=w.heap.size) (hN:l.length<=10) (hF:∀c∈l,c.meths.length<=8):
 Calls Tryz.prog 202 #[.pointer (some ⟨b,0,none⟩),.int .i64 n] w fun r w'=>Below w.heap.size w w'/\∃v u,r=.returned (.tuple #[v,u])/\SL 1 RS (MT w.heap.size [9] w') w' v (namesOf l n)/\SL 2 RT (MT w.heap.size [233] w') w' u (targetsOf l n):=by
 obtain ⟨iS,hiS,hzS0,hzS1,hzS2⟩:=info_parts Tryz.infoStr
 obtain ⟨iT,hiT,hzT0,hzT1,hzT2⟩:=info_parts Tryz.infoTarg
 have hbl:b<w.heap.size:=World.block_lt_of_cell? w _ c0
 have HLL:=mk0 hLL
 have HC:=mk0 sC
 have sL':=sL
 obtain ⟨aL,cL,rfl,-⟩:=sL'
 obtain ⟨bL,oL,aI,cI,rfl,hbL,eL,sI⟩:=sL.atSl n hnL
 rw [HLL.out]at eL sI
 have hkL:=zgy hn
 have hlL:=zgz l n
 have HTO:Hid (tableOf l n=((lineOf l n).flatMap (ownT l)).foldl tabStep ([],[])):=rfl
 generalize lineOf l n=ln at*
 have HI:=mk0 sI
 have HK:=mk0 hkL
 have HFF:=mk0 hF
 have hn0:(0:Int)<=n:=by omega
 have hn1:(n:Int)<LL.length:=by omega
 clear sC sL sI hLL hkL hF
 go_enter Tryz.func202,Tryz.ntmps202
 go_wp2_with fail
 go_loopw [6,7,22] (fun v u i wr=>∃(k:Nat) (ns:List ByteArray) (ts:List TargD),k<=ln.length/\i=.int .i64 k/\Hid ((ns,ts)=((ln.take k).flatMap (ownT l)).foldl tabStep ([],[]))/\ns.length<=8*k/\Hid (ts.length=ns.length)/\Hid (∀s∈ns,s.size<=maxLen)/\
  wr.ownsRow w.heap.size 9 1 v ns.length (scells ns)/\wr.ownsRow w.heap.size 233 2 u ts.length (ts.flatMap tcell)/\Below w.heap.size w wr) (fun _ _ i _=>ln.length - (intOf i).toNat)
 case atStart=>exact ⟨0,[],[],Nat.zero_le _,rfl,rfl,by simp,rfl,(fun f hf=>by cases hf),World.ownsRow_nil _ _ _ _,World.ownsRow_nil _ _ _ _,Below.refl _ _⟩
 case round=>
  obtain ⟨k,ns,ts,hk,rfl,HP,hfl,HTS,HSZ,hown,hownT,hBr⟩:=hrel
  obtain ⟨a6,c6,rfl⟩:=zfz hown
  obtain ⟨a7,c7,rfl⟩:=zfz hownT
  have hsr:=hBr.size
  by_cases hlt:k<ln.length
  ·
   obtain ⟨bi,oi,rfl,hbi,ei⟩:=HI.out.atO k hlt
   have ei':=(hBr.cell (p:=⟨bi,oi+k,none⟩) hbi).trans ei
   have hmk:=HK.out ln[k] (List.getElem_mem hlt)
   have d0:wr.cell? ⟨b,0,none⟩=some (.slice ao l.length cl):=(hBr.cell (p:=⟨b,0,none⟩) hbl).trans c0
   obtain ⟨bc,oc,vf,vm,rfl,hbc,e0,e1,e2,e3,ef,em,es1,es2⟩:=HC.out.atC ln[k] hmk
   have e3':=(hBr.cell (p:=⟨bc,oc+ln[k]*4+3,none⟩) hbc).trans e3
   have hcf':=HFF.out l[ln[k]] (List.getElem_mem hmk)
   have HNX:Hid ((ln.take (k+1)).flatMap (ownT l)=(ln.take k).flatMap (ownT l)++ownT l ln[k]):=by
    show _=_
    rw [List.take_succ_eq_append_getElem hlt,List.flatMap_append]
    simp
   clear e0 e1 e2 e3 ef es1 es2 ei hbc
   rw [<-zay hmk]at em hcf'
   obtain ⟨mo,cm,rfl,-⟩:=id em
   have EM':=mk0 em
   have e4:=e3'
   clear em e3'
   generalize ln[k]=m at*
   have HOT:=mk0 (zhg l m)
   generalize hms:(clsAt l m).meths=ms at*
   have HMS:=mk0 hms
   clear hms
   have hm0:(0:Int)<=m:=by omega
   have hm1:(m:Int)<l.length:=by omega
   have HPK:=mk0 HP.out
   obtain ⟨PK,hPK⟩:∃PK,PK=(ln.take k).flatMap (ownT l):=⟨_,rfl⟩
   rw [<-hPK]at HP HNX HPK
   have HPP:=mk0 hPK
   clear hPK
   go_wp2_with fail
   go_loopw [6,7,36] (fun v u i wq=>∃(j:Nat) (ns:List ByteArray) (ts:List TargD),j<=ms.length/\i=.int .i64 j/\Hid ((ns,ts)=(PK++(ownT l m).take j).foldl tabStep ([],[]))/\ns.length<=8*k+j/\Hid (ts.length=ns.length)/\Hid (∀s∈ns,s.size<=maxLen)/\
    wq.ownsRow w.heap.size 9 1 v ns.length (scells ns)/\wq.ownsRow w.heap.size 233 2 u ts.length (ts.flatMap tcell)/\Below w.heap.size w wq) (fun _ _ i _=>ms.length - (intOf i).toNat)
   case atStart=>exact ⟨0,ns,ts,Nat.zero_le _,rfl,by show _=_;rw [List.take_zero,List.append_nil];exact HP.out,by omega,HTS.out,HSZ.out,hown,hownT,hBr⟩
   case round=>
    clear hown hownT hBr HP HSZ hfl HTS hsr d0 ei' e4
    rename World=>wq
    obtain ⟨j,ns,ts,hj,rfl,HP,hfl,HTS,HSZ,hown,hownT,hBr⟩:=hrel
    obtain ⟨a6,c6,rfl⟩:=zfz hown
    obtain ⟨a7,c7,rfl⟩:=zfz hownT
    have hsr:=hBr.size
    by_cases hjt:j<ms.length
    ·
     obtain ⟨bm,om,va,vh,hmo,hbm,q0,q1,q2,q3,q4,q5,q6,q7,q8,sa,sh,sz1,sz2,sz3⟩:=(EM'.out.keptM (Kp.below (hBr.mono hB))).atM j hjt
     subst hmo
     obtain ⟨aa,ca,rfl,-⟩:=sa
     obtain ⟨ah,ch,rfl,-⟩:=sh
     have HNJ:Hid (PK++(ownT l m).take (j+1)=(PK++(ownT l m).take j)++ [(ms[j].name,⟨m,j⟩)]):=by
      show _=_
      have hjo:j<(ownT l m).length:=by rw [HOT.out];exact hjt
      rw [List.take_succ_eq_append_getElem hjo,List.append_assoc,zhh l m j hjo (by rw [HMS.out];exact hjt)]
      congr 3
      simp [HMS.out]
     have HON:=mk0 hown
     have HOTT:=mk0 hownT
     have hBa:=(hBr.alloc hsr (.cells #[.string ms[j].name,.bool ms[j].static,.slice aa ms[j].args.length ca,.int .i64 ms[j].ret.kind,.string ms[j].ret.cls,.int .i64 ms[j].stack,.int .i64 ms[j].locals,.string ms[j].code,.slice ah ms[j].hands.length ch] 159))
     have HB2:=mk0 (hBa.alloc hBa.size (.cells #[.int .i64 m,.int .i64 j] 233))
     generalize hmj:ms[j]=mj at*
     clear hmj hBa
     have SN:Hid (SL 1 RS (MT w.heap.size [9] ((wq.alloc (.cells #[.string mj.name,.bool mj.static,.slice aa mj.args.length ca,.int .i64 mj.ret.kind,.string mj.ret.cls,.int .i64 mj.stack,.int .i64 mj.locals,.string mj.code,.slice ah mj.hands.length ch] 159)).alloc (.cells #[.int .i64 m,.int .i64 j] 233))) ((wq.alloc (.cells #[.string mj.name,.bool mj.static,.slice aa mj.args.length ca,.int .i64 mj.ret.kind,.string mj.ret.cls,.int .i64 mj.stack,.int .i64 mj.locals,.string mj.code,.slice ah mj.hands.length ch] 159)).alloc (.cells #[.int .i64 m,.int .i64 j] 233)) (.slice a6 ns.length c6) ns):=zha ((hown.alloc _).alloc _) HSZ.out (by omega)
     clear hown hownT
     go_wp2_with fail
     refine (zfx _ _ _ ns mj.name SN.out).mono ?_
     rintro r w1 ⟨rfl,rfl⟩
     have hix:=zhf ns mj.name
     by_cases hat:0<=idxS ns mj.name
     ·
      obtain ⟨at_,hat2⟩:=Int.eq_ofNat_of_zero_le hat
      have HST:Hid (tabStep (ns,ts) (mj.name,⟨m,j⟩)=(ns,ts.set at_ ⟨m,j⟩)):=by
       show _=_
       rw [tabStep,if_pos hat]
       show (ns,ts.set (idxS ns mj.name).toNat _)=_
       rw [hat2]
       rfl
      rw [hat2]at hix ⊢
      clear hat hat2
      obtain ⟨g7,hg7,hgc7⟩:∃g7,a7=some ⟨g7,0,none⟩/\ts.length<=c7:=by
       obtain ⟨h1,h2⟩:=zga HOTT.out
       rcases h2 with rfl | ⟨g,rfl⟩
       ·
        rcases HOTT.out.2 with ⟨e,h0⟩ | ⟨g,_,_,e,_⟩
        ·
         have:=HTS.out
         omega
        cases e
       exact ⟨g,rfl,h1⟩
      subst hg7
      have hgl:=HOTT.out.lt g7 rfl
      have k0:wq.cell? ⟨g7,at_*2,none⟩=(ts.flatMap tcell)[at_*2]? :=HOTT.out.cellAt _ (by have:=HTS.out;omega)
      have k1:wq.cell? ⟨g7,at_*2+1,none⟩=(ts.flatMap tcell)[at_*2+1]? :=HOTT.out.cellAt _ (by have:=HTS.out;omega)
      have hat3:at_<ts.length:=by have:=HTS.out;omega
      have k0':wq.cell? ⟨g7,at_*2,none⟩=some (.int .i64 (ts[at_]).cls):=by rw [k0];have:=ze3 (n:=2) tcell ts at_ 0 (fun _ _=>rfl) hat3 (by decide);simpa [tcell]using this
      have k1':wq.cell? ⟨g7,at_*2+1,none⟩=some (.int .i64 (ts[at_]).meth):=by rw [k1];have:=ze3 (n:=2) tcell ts at_ 1 (fun _ _=>rfl) hat3 (by decide);simpa [tcell]using this
      obtain ⟨cur7,hb7⟩:∃cur7,wq.heap[g7]? =some (.cells cur7 233 (0,0)):=by
       rcases HOTT.out.2 with ⟨e,_⟩ | ⟨g,_,cur,e,_,hb,_⟩
       ·
        cases e
       cases e;exact ⟨cur,hb⟩
      have z0:∀q,wq.frozen? ⟨g7,q,none⟩=false:=fun q=>by simp [World.frozen?,hb7]
      have HF7:=mk0 hb7
      have ht0:(0:Int)<=at_:=by omega
      have ht1:(at_:Int)<ts.length:=by have:=HTS.out;omega
      have hg7s:g7<wq.heap.size:=hgl.2
      clear k0 k1 hb7
      go_wp2_with fail
      go_roundw
      case rel=>
       have hB3:=((((hBr.setCell (p:=⟨g7,at_*2,none⟩) hgl.1 (.int .i64 m)).setCell (p:=⟨g7,at_*2+1,none⟩) hgl.1 (.int .i64 j)).alloc (by simpa [World.setCell]using hsr) (.cells #[.string mj.name,.bool mj.static,.slice aa mj.args.length ca,.int .i64 mj.ret.kind,.string mj.ret.cls,.int .i64 mj.stack,.int .i64 mj.locals,.string mj.code,.slice ah mj.hands.length ch] 159)).alloc (by simp [World.setCell];omega) (.cells #[.int .i64 m,.int .i64 j] 233))
       refine ⟨j+1,ns,ts.set at_ ⟨m,j⟩,by omega,by go_num,?_,by omega,by show _=_;have:=HTS.out;simpa using this,HSZ.out,?_,?_,hB3⟩
       ·
        show _=_
        rw [HNJ.out,zhe,<-HP.out,HST.out]
       ·
        refine ((HON.out.kept (row:=some g7) ?_ ?_).alloc _).alloc _
        ·
         exact za8 (za8 (World.grownBy.refl _ _) _ _ (Or.inl rfl)) _ _ (Or.inl rfl)
        rcases zg8 HON.out HOTT.out (by decide)with h | h
        ·
         exact Or.inl h
        exact Or.inr h
       have:=zg7 (zg7 HOTT.out (at_*2) (.int .i64 m)) (at_*2+1) (.int .i64 j)
       rw [zhc ts at_ ⟨m,j⟩]at this
       rw [List.length_set]
       exact (this.alloc _).alloc _
      case measure=>simp [intOf];omega
     have HST:Hid (tabStep (ns,ts) (mj.name,⟨m,j⟩)=(ns++ [mj.name],ts++ [⟨m,j⟩])):=by
      show _=_
      rw [tabStep,if_neg hat]
     have hON2:=(HON.out.alloc (.cells #[.string mj.name,.bool mj.static,.slice aa mj.args.length ca,.int .i64 mj.ret.kind,.string mj.ret.cls,.int .i64 mj.stack,.int .i64 mj.locals,.string mj.code,.slice ah mj.hands.length ch] 159)).alloc (.cells #[.int .i64 m,.int .i64 j] 233)
     have hOT2:=(HOTT.out.alloc (.cells #[.string mj.name,.bool mj.static,.slice aa mj.args.length ca,.int .i64 mj.ret.kind,.string mj.ret.cls,.int .i64 mj.stack,.int .i64 mj.locals,.string mj.code,.slice ah mj.hands.length ch] 159)).alloc (.cells #[.int .i64 m,.int .i64 j] 233)
     have k0:((wq.alloc (.cells #[.string mj.name,.bool mj.static,.slice aa mj.args.length ca,.int .i64 mj.ret.kind,.string mj.ret.cls,.int .i64 mj.stack,.int .i64 mj.locals,.string mj.code,.slice ah mj.hands.length ch] 159)).alloc (.cells #[.int .i64 m,.int .i64 j] 233)).cell? ⟨wq.heap.size,0,none⟩=some (.string mj.name):=by simp [go_sem]
     have kt:((wq.alloc (.cells #[.string mj.name,.bool mj.static,.slice aa mj.args.length ca,.int .i64 mj.ret.kind,.string mj.ret.cls,.int .i64 mj.stack,.int .i64 mj.locals,.string mj.code,.slice ah mj.hands.length ch] 159)).alloc (.cells #[.int .i64 m,.int .i64 j] 233)).heap[wq.heap.size+1]? =some (.cells #[.int .i64 m,.int .i64 j] 233 (0,0)):=by
      have:=heap_alloc_new (wq.alloc (.cells #[.string mj.name,.bool mj.static,.slice aa mj.args.length ca,.int .i64 mj.ret.kind,.string mj.ret.cls,.int .i64 mj.stack,.int .i64 mj.locals,.string mj.code,.slice ah mj.hands.length ch] 159)) (.cells #[.int .i64 m,.int .i64 j] 233)
      simpa using this
     have hzz:wq.heap.size+1<((wq.alloc (.cells #[.string mj.name,.bool mj.static,.slice aa mj.args.length ca,.int .i64 mj.ret.kind,.string mj.ret.cls,.int .i64 mj.stack,.int .i64 mj.locals,.string mj.code,.slice ah mj.hands.length ch] 159)).alloc (.cells #[.int .i64 m,.int .i64 j] 233)).heap.size:=by simp
     have hB2:=HB2.out
     generalize ((wq.alloc (.cells #[.string mj.name,.bool mj.static,.slice aa mj.args.length ca,.int .i64 mj.ret.kind,.string mj.ret.cls,.int .i64 mj.stack,.int .i64 mj.locals,.string mj.code,.slice ah mj.hands.length ch] 159)).alloc (.cells #[.int .i64 m,.int .i64 j] 233))=W2 at*
     generalize idxS ns mj.name=ix at*
     have hlq6:∀q,(Value.slice a6 ns.length c6).ownBlock=some q->w.heap.size<=q/\q<wq.heap.size:=fun q e=>HON.out.lt q e
     have HBB:Hid (ns.length+1<=maxLen/\(ns.length+1)*16<=140737488355328/\w.heap.size<=(W2.alloc (.cells #[.string mj.name] 9)).heap.size):=⟨by unfold maxLen;omega,by omega,by have:=hB2.size;simp;omega⟩
     have HO2:=mk0 hON2
     have HT2:=mk0 hOT2
     have HKT:=mk0 kt
     have HLQ:=mk0 hlq6
     have HBW:=mk0 hB2
     clear hON2 hOT2 kt hlq6 hB2 HB2 SN q0 q1 q2 q3 q4 q5 q6 q7 q8
     go_wp2_with (at_builtin;refine wpList_append_lies _ rfl _ _ 225 rfl w.heap.size 9 iS (.string ⟨#[]⟩) 1 16 Tryz.underlying225 hiS hzS0 hzS1 hzS2 rfl (by decide) (.slice a6 ns.length c6) ns.length (scells ns) rfl (HO2.out.alloc _) ⟨W2.heap.size,0,none⟩ 1 1 [.string mj.name] rfl rfl (World.news_of_block (heap_alloc_new W2 _)) (by intro u hu;simp at hu;subst hu;rfl) (by omega) HBB.out.1 HBB.out.2.1 HBB.out.2.2 _ rfl ?_)
     intro g6 cp6 w3 hown3 hgr3 _ hlt3
     have hsz3:W2.heap.size+1<=w3.heap.size:=by have:=hgr3.size;simpa using this
     have hblk3:w3.heap[wq.heap.size+1]? =some (.cells #[.int .i64 m,.int .i64 j] 233 (0,0)):=by
      rw [hgr3.block (wq.heap.size+1) (by simp;omega) (fun e=>by have:=(HLQ.out _ e.symm).2;omega),Below.heap_alloc _ _ _ hzz]
      exact HKT.out
     have hT3:=(HT2.out.alloc (.cells #[.string mj.name] 9)).kept hgr3 (zg8 HOTT.out HON.out (by decide))
     have hB3:Below w.heap.size w w3:=(HBW.out.alloc HBW.out.size _).grown hgr3 (by have:=HBW.out.size;simp;omega) (fun q e=>(HLQ.out q e).1)
     have k3:=cl0 hblk3 0 (x:=.int .i64 m) rfl
     have k4:=cl0 hblk3 1 (x:=.int .i64 j) rfl
     have HBC:Hid (ts.length+1<=maxLen/\(ts.length+1)*16<=140737488355328/\w.heap.size<=(w3.alloc (.cells #[.int .i64 m,.int .i64 j] 233)).heap.size):=⟨by have:=HTS.out;unfold maxLen;omega,by have:=HTS.out;omega,by have:=hB3.size;simp;omega⟩
     have HT3:=mk0 hT3
     have HN3:=mk0 hown3
     have HB3:=mk0 hB3
     clear hown3 hgr3 hblk3 hT3 hB3 k0
     go_wp2_with (at_builtin;refine wpList_append_lies _ rfl _ _ 226 rfl w.heap.size 233 iT (.agg #[.int .i64 0,.int .i64 0]) 2 16 Tryz.underlying226 hiT hzT0 hzT1 hzT2 rfl (by decide) (.slice a7 ts.length c7) ts.length (ts.flatMap tcell) rfl (HT3.out.alloc _) ⟨w3.heap.size,0,none⟩ 1 1 [.int .i64 m,.int .i64 j] rfl rfl (World.news_of_block (heap_alloc_new w3 _)) (by intro u hu;simp at hu;rcases hu with rfl | rfl<;>rfl) (by omega) HBC.out.1 HBC.out.2.1 HBC.out.2.2 _ rfl ?_)
     intro g7 cp7 w4 hown4 hgr4 _ hlt4
     have hN4:=(HN3.out.alloc (.cells #[.int .i64 m,.int .i64 j] 233)).kept hgr4 (zg8 HN3.out HT3.out (by decide))
     have hB4:Below w.heap.size w w4:=(HB3.out.alloc HB3.out.size _).grown hgr4 (by have:=HB3.out.size;simp;omega) (fun q e=>(HT3.out.lt q e).1)
     have HFIN:=mk0 (And.intro hN4 (And.intro hown4 hB4))
     clear hown4 hgr4 hN4 hB4 k3 k4
     go_wp2_with fail
     go_roundw
     case rel=>
      obtain ⟨hN4,hT4,hB4⟩:=HFIN.out
      refine ⟨j+1,ns++ [mj.name],ts++ [⟨m,j⟩],by omega,by go_num,?_,by simp;omega,by show _=_;have:=HTS.out;simp;omega,?_,?_,?_,hB4⟩
      ·
       show _=_
       rw [HNJ.out,zhe,<-HP.out,HST.out]
      ·
       show ∀s∈_,_
       intro s hs
       rcases List.mem_append.1 hs with hs | hs
       ·
        exact HSZ.out s hs
       rw [List.mem_singleton]at hs
       rw [hs]
       exact sz1
      ·
       rw [List.length_append,show scells (ns++ [mj.name])=scells ns++ [.string mj.name] by simp [scells]]
       exact hN4
      rw [List.length_append,List.flatMap_append]
      exact hT4
     case measure=>simp [intOf];omega
    have HX:Hid ((ns,ts)=((ln.take (k+1)).flatMap (ownT l)).foldl tabStep ([],[])):=by
     show _=_
     rw [HNX.out,HP.out,List.take_of_length_le (by rw [HOT.out];omega)]
    have HN5:=mk0 hown
    have HT5:=mk0 hownT
    clear hown hownT
    go_wp2_with fail
    go_roundw
    case rel=>exact ⟨k+1,ns,ts,by omega,by go_num,HX.out,by omega,HTS.out,HSZ.out,HN5.out,HT5.out,hBr⟩
    case measure=>simp [intOf];omega
  have HX:Hid (tableOf l n=(ns,ts)):=by
   show _=_
   rw [HTO.out,HP.out,List.take_of_length_le (by omega)]
  have SN:=mk0 (zha hown HSZ.out (by omega))
  have ST:=mk0 (zhb hownT (by have:=HTS.out;omega))
  clear hown hownT
  go_wp2_with fail
  go_ret2
  exact ⟨hBr,_,_,rfl,by rw [namesOf,HX.out];exact SN.out,by rw [targetsOf,HX.out];exact ST.out⟩
theorem RSl.stp {α:Type} {n:Nat} {R:(Nat->Prop)->World->List Value->α->Prop} {B:Nat} {T:List Nat} {w w':World} {cs:List Value} {x:List α} (h:RSl n R (MT B T w) w cs x) (hs:Stp B T w w') (hR:∀M M' w w' cs x,R M w cs x->R M' w' cs x):RSl n R (MT B T w') w' cs x:=by
 obtain ⟨v,e,h⟩:=h
 exact ⟨v,e,(h.kept hs.kp fun _ _ h=>hR _ _ _ _ _ _ h).mono (fun _ hk=>hk.step hs) fun _ _ h=>hR _ _ _ _ _ _ h⟩
theorem zhj {w w':World} {B:Nat} {e size n:Nat} {v:Value} {xs:List Value} (h:w.ownsRow B e size v n xs) (hb:Below w.heap.size w w'):w'.ownsRow B e size v n xs:=
 h.kept (row:=none) ⟨hb.os,hb.tape,hb.output,hb.size,fun k hk _=>hb.block k hk⟩ (by cases v.ownBlock<;>simp)
structure Wv (w0 W:World) (l:List ClassD) (vC vS vF vN vT vL:Value) (zF:List (List Value×List FieldD)) (zN:List (List Value×List ByteArray)) (zT:List (List Value×List TargD)) (zL:List (List Value×List Nat)):Prop where
 below:Below w0.heap.size w0 W
 blk:W.heap[w0.heap.size+1]? =some (.cells #[vC,vS,vF,vN,vT,.map (some w0.heap.size),vL] 155 (0,0))
 sS:SL 1 RI (MT w0.heap.size [3] W) W vS ((List.range l.length).map (supAt l))
 nm:NumMap W w0.heap.size l
 oF:W.ownsRow (w0.heap.size+2) 126 1 vF zF.length (zF.flatMap (·.1))
 aF:∀z∈zF,z.1.length=1/\RSl 3 RF (MT w0.heap.size [125] W) W z.1 z.2
 oN:W.ownsRow (w0.heap.size+2) 225 1 vN zN.length (zN.flatMap (·.1))
 aN:∀z∈zN,z.1.length=1/\RSl 1 RS (MT w0.heap.size [9] W) W z.1 z.2
 oT:W.ownsRow (w0.heap.size+2) 226 1 vT zT.length (zT.flatMap (·.1))
 aT:∀z∈zT,z.1.length=1/\RSl 2 RT (MT w0.heap.size [233] W) W z.1 z.2
 oL:W.ownsRow (w0.heap.size+2) 22 1 vL zL.length (zL.flatMap (·.1))
 aL:∀z∈zL,z.1.length=1/\RSl 1 RO (MT w0.heap.size [3] W) W z.1 z.2
theorem Wv.lt {w0 W:World} {l:List ClassD} {vC vS vF vN vT vL:Value} {zF:List (List Value×List FieldD)} {zN:List (List Value×List ByteArray)} {zT:List (List Value×List TargD)} {zL:List (List Value×List Nat)} (h:Wv w0 W l vC vS vF vN vT vL zF zN zT zL):w0.heap.size+1<W.heap.size:=lt0 h.blk
theorem Wv.grow {w0 W:World} {l:List ClassD} {vC vS vF vN vT vL:Value} {zF:List (List Value×List FieldD)} {zN:List (List Value×List ByteArray)} {zT:List (List Value×List TargD)} {zL:List (List Value×List Nat)} {W':World} (h:Wv w0 W l vC vS vF vN vT vL zF zN zT zL) (hb:Below W.heap.size W W'):Wv w0 W' l vC vS vF vN vT vL zF zN zT zL:=
 ⟨h.below.trans (hb.mono h.below.size),(hb.block _ h.lt).trans h.blk,(h.sS.keptI (Stp.below hb).kp).monoI fun _ hk=>hk.step (Stp.below hb),h.nm.below hb h.nm.lt,
  zhj h.oF hb,(fun z hz=>⟨(h.aF z hz).1,(h.aF z hz).2.stp (Stp.below hb) fun _ _ _ _ _ _ h=>h⟩),zhj h.oN hb,(fun z hz=>⟨(h.aN z hz).1,(h.aN z hz).2.stp (Stp.below hb) fun _ _ _ _ _ _ h=>h⟩),zhj h.oT hb,(fun z hz=>⟨(h.aT z hz).1,(h.aT z hz).2.stp (Stp.below hb) fun _ _ _ _ _ _ h=>h⟩),zhj h.oL hb,(fun z hz=>⟨(h.aL z hz).1,(h.aL z hz).2.stp (Stp.below hb) fun _ _ _ _ _ _ h=>h⟩)⟩
theorem Wv.cell {w0 W:World} {l:List ClassD} {vC vS vF vN vT vL:Value} {zF:List (List Value×List FieldD)} {zN:List (List Value×List ByteArray)} {zT:List (List Value×List TargD)} {zL:List (List Value×List Nat)} (h:Wv w0 W l vC vS vF vN vT vL zF zN zT zL) (j:Nat) {x:Value} (hx:(#[vC,vS,vF,vN,vT,.map (some w0.heap.size),vL]:Array Value)[j]? =some x):W.cell? ⟨w0.heap.size+1,j,none⟩=some x:=cl0 h.blk j hx
theorem Wv.addF {w0 W:World} {l:List ClassD} {vC vS vF vN vT vL:Value} {zF:List (List Value×List FieldD)} {zN:List (List Value×List ByteArray)} {zT:List (List Value×List TargD)} {zL:List (List Value×List Nat)} (h:Wv w0 W l vC vS vF vN vT vL zF zN zT zL) {u:Value} {x:List FieldD} (hu:SL 3 RF (MT w0.heap.size [125] W) W u x) {w1:World} {v':Value}
 (ho:w1.ownsRow (w0.heap.size+2) 126 1 v' (zF.length+1) (zF.flatMap (·.1)++ [u])) (hg:(W.alloc (.cells #[u] 126)).grownBy w1 vF.ownBlock):
 Wv w0 (w1.setCell ⟨w0.heap.size+1,2,none⟩ v') l vC vS v' vN vT vL (zF++ [([u],x)]) zN zT zL:=by
 have hlt:=h.lt
 have hrb:∀q,vF.ownBlock=some q->w0.heap.size+2<=q/\q<W.heap.size:=fun q e=>h.oF.lt q e
 have hb1:w1.heap[w0.heap.size+1]? =some (.cells #[vC,vS,vF,vN,vT,.map (some w0.heap.size),vL] 155 (0,0)):=by
  rw [hg.block (w0.heap.size+1) (by simp;omega) (fun e=>by have:=(hrb _ e.symm).1;omega),Below.heap_alloc _ _ _ hlt]
  exact h.blk
 have hst:∀t,t∉ [126,155]->Stp w0.heap.size [t] W (w1.setCell ⟨w0.heap.size+1,2,none⟩ v'):=fun t ht=>
  (((Stp.refl _ _ _).alloc _).trans (Stp.row hg (h.oF.alloc _) (fun e=>ht (by simp at e;simp [e])))).trans (Stp.set hb1 (fun e=>ht (by simp at e;simp [<-e])) 2 v')
 have hB1:Below w0.heap.size w0 w1:=(h.below.alloc h.below.size _).grown hg (by have:=h.below.size;simp;omega) (fun q e=>by have:=(hrb q e).1;omega)
 refine ⟨hB1.setCell (by simp) _,zg6 hb1 v',?_,?_,?_,?_,?_,?_,?_,?_,?_,?_⟩
 ·
  exact (h.sS.keptI (hst _ (by decide)).kp).monoI fun _ hk=>hk.step (hst _ (by decide))
 ·
  have hn1:=(h.nm.kept (row:=none) (World.grownBy_alloc W _ _) (by simp)).kept hg (fun e=>by have:=(hrb _ e.symm).1;omega)
  exact hn1.kept (row:=some (w0.heap.size+1)) (za8 (World.grownBy.refl _ _) _ _ (Or.inl rfl)) (by simp)
 ·
  rw [List.length_append,ze7]
  exact ownsRow_setCell_below ho (by simp) _
 ·
  intro z hz
  rcases List.mem_append.1 hz with hz | hz
  ·
   exact ⟨(h.aF z hz).1,(h.aF z hz).2.stp (hst _ (by decide)) fun _ _ _ _ _ _ h=>h⟩
  rw [List.mem_singleton]at hz
  subst hz
  exact ⟨rfl,RSl.stp ⟨u,rfl,hu⟩ (hst _ (by decide)) fun _ _ _ _ _ _ h=>h⟩
 ·
  exact ownsRow_setCell_below ((h.oN.alloc _).kept hg (zg8 h.oN h.oF (by decide))) (by simp) _
 ·
  exact fun z hz=>⟨(h.aN z hz).1,(h.aN z hz).2.stp (hst _ (by decide)) fun _ _ _ _ _ _ h=>h⟩
 ·
  exact ownsRow_setCell_below ((h.oT.alloc _).kept hg (zg8 h.oT h.oF (by decide))) (by simp) _
 ·
  exact fun z hz=>⟨(h.aT z hz).1,(h.aT z hz).2.stp (hst _ (by decide)) fun _ _ _ _ _ _ h=>h⟩
 ·
  exact ownsRow_setCell_below ((h.oL.alloc _).kept hg (zg8 h.oL h.oF (by decide))) (by simp) _
 exact fun z hz=>⟨(h.aL z hz).1,(h.aL z hz).2.stp (hst _ (by decide)) fun _ _ _ _ _ _ h=>h⟩
theorem Wv.addN {w0 W:World} {l:List ClassD} {vC vS vF vN vT vL:Value} {zF:List (List Value×List FieldD)} {zN:List (List Value×List ByteArray)} {zT:List (List Value×List TargD)} {zL:List (List Value×List Nat)} (h:Wv w0 W l vC vS vF vN vT vL zF zN zT zL) {u:Value} {x:List ByteArray} (hu:SL 1 RS (MT w0.heap.size [9] W) W u x) {w1:World} {v':Value}
 (ho:w1.ownsRow (w0.heap.size+2) 225 1 v' (zN.length+1) (zN.flatMap (·.1)++ [u])) (hg:(W.alloc (.cells #[u] 225)).grownBy w1 vN.ownBlock):
 Wv w0 (w1.setCell ⟨w0.heap.size+1,3,none⟩ v') l vC vS vF v' vT vL zF (zN++ [([u],x)]) zT zL:=by
 have hlt:=h.lt
 have hrb:∀q,vN.ownBlock=some q->w0.heap.size+2<=q/\q<W.heap.size:=fun q e=>h.oN.lt q e
 have hb1:w1.heap[w0.heap.size+1]? =some (.cells #[vC,vS,vF,vN,vT,.map (some w0.heap.size),vL] 155 (0,0)):=by
  rw [hg.block (w0.heap.size+1) (by simp;omega) (fun e=>by have:=(hrb _ e.symm).1;omega),Below.heap_alloc _ _ _ hlt]
  exact h.blk
 have hst:∀t,t∉ [225,155]->Stp w0.heap.size [t] W (w1.setCell ⟨w0.heap.size+1,3,none⟩ v'):=fun t ht=>
  (((Stp.refl _ _ _).alloc _).trans (Stp.row hg (h.oN.alloc _) (fun e=>ht (by simp at e;simp [e])))).trans (Stp.set hb1 (fun e=>ht (by simp at e;simp [<-e])) 3 v')
 have hB1:Below w0.heap.size w0 w1:=(h.below.alloc h.below.size _).grown hg (by have:=h.below.size;simp;omega) (fun q e=>by have:=(hrb q e).1;omega)
 refine ⟨hB1.setCell (by simp) _,zg6 hb1 v',?_,?_,?_,?_,?_,?_,?_,?_,?_,?_⟩
 ·
  exact (h.sS.keptI (hst _ (by decide)).kp).monoI fun _ hk=>hk.step (hst _ (by decide))
 ·
  have hn1:=(h.nm.kept (row:=none) (World.grownBy_alloc W _ _) (by simp)).kept hg (fun e=>by have:=(hrb _ e.symm).1;omega)
  exact hn1.kept (row:=some (w0.heap.size+1)) (za8 (World.grownBy.refl _ _) _ _ (Or.inl rfl)) (by simp)
 ·
  exact ownsRow_setCell_below ((h.oF.alloc _).kept hg (zg8 h.oF h.oN (by decide))) (by simp) _
 ·
  exact fun z hz=>⟨(h.aF z hz).1,(h.aF z hz).2.stp (hst _ (by decide)) fun _ _ _ _ _ _ h=>h⟩
 ·
  rw [List.length_append,ze7]
  exact ownsRow_setCell_below ho (by simp) _
 ·
  intro z hz
  rcases List.mem_append.1 hz with hz | hz
  ·
   exact ⟨(h.aN z hz).1,(h.aN z hz).2.stp (hst _ (by decide)) fun _ _ _ _ _ _ h=>h⟩
  rw [List.mem_singleton]at hz
  subst hz
  exact ⟨rfl,RSl.stp ⟨u,rfl,hu⟩ (hst _ (by decide)) fun _ _ _ _ _ _ h=>h⟩
 ·
  exact ownsRow_setCell_below ((h.oT.alloc _).kept hg (zg8 h.oT h.oN (by decide))) (by simp) _
 ·
  exact fun z hz=>⟨(h.aT z hz).1,(h.aT z hz).2.stp (hst _ (by decide)) fun _ _ _ _ _ _ h=>h⟩
 ·
  exact ownsRow_setCell_below ((h.oL.alloc _).kept hg (zg8 h.oL h.oN (by decide))) (by simp) _
 exact fun z hz=>⟨(h.aL z hz).1,(h.aL z hz).2.stp (hst _ (by decide)) fun _ _ _ _ _ _ h=>h⟩
theorem Wv.addT {w0 W:World} {l:List ClassD} {vC vS vF vN vT vL:Value} {zF:List (List Value×List FieldD)} {zN:List (List Value×List ByteArray)} {zT:List (List Value×List TargD)} {zL:List (List Value×List Nat)} (h:Wv w0 W l vC vS vF vN vT vL zF zN zT zL) {u:Value} {x:List TargD} (hu:SL 2 RT (MT w0.heap.size [233] W) W u x) {w1:World} {v':Value}
 (ho:w1.ownsRow (w0.heap.size+2) 226 1 v' (zT.length+1) (zT.flatMap (·.1)++ [u])) (hg:(W.alloc (.cells #[u] 226)).grownBy w1 vT.ownBlock):
 Wv w0 (w1.setCell ⟨w0.heap.size+1,4,none⟩ v') l vC vS vF vN v' vL zF zN (zT++ [([u],x)]) zL:=by
 have hlt:=h.lt
 have hrb:∀q,vT.ownBlock=some q->w0.heap.size+2<=q/\q<W.heap.size:=fun q e=>h.oT.lt q e
 have hb1:w1.heap[w0.heap.size+1]? =some (.cells #[vC,vS,vF,vN,vT,.map (some w0.heap.size),vL] 155 (0,0)):=by
  rw [hg.block (w0.heap.size+1) (by simp;omega) (fun e=>by have:=(hrb _ e.symm).1;omega),Below.heap_alloc _ _ _ hlt]
  exact h.blk
 have hst:∀t,t∉ [226,155]->Stp w0.heap.size [t] W (w1.setCell ⟨w0.heap.size+1,4,none⟩ v'):=fun t ht=>
  (((Stp.refl _ _ _).alloc _).trans (Stp.row hg (h.oT.alloc _) (fun e=>ht (by simp at e;simp [e])))).trans (Stp.set hb1 (fun e=>ht (by simp at e;simp [<-e])) 4 v')
 have hB1:Below w0.heap.size w0 w1:=(h.below.alloc h.below.size _).grown hg (by have:=h.below.size;simp;omega) (fun q e=>by have:=(hrb q e).1;omega)
 refine ⟨hB1.setCell (by simp) _,zg6 hb1 v',?_,?_,?_,?_,?_,?_,?_,?_,?_,?_⟩
 ·
  exact (h.sS.keptI (hst _ (by decide)).kp).monoI fun _ hk=>hk.step (hst _ (by decide))
 ·
  have hn1:=(h.nm.kept (row:=none) (World.grownBy_alloc W _ _) (by simp)).kept hg (fun e=>by have:=(hrb _ e.symm).1;omega)
  exact hn1.kept (row:=some (w0.heap.size+1)) (za8 (World.grownBy.refl _ _) _ _ (Or.inl rfl)) (by simp)
 ·
  exact ownsRow_setCell_below ((h.oF.alloc _).kept hg (zg8 h.oF h.oT (by decide))) (by simp) _
 ·
  exact fun z hz=>⟨(h.aF z hz).1,(h.aF z hz).2.stp (hst _ (by decide)) fun _ _ _ _ _ _ h=>h⟩
 ·
  exact ownsRow_setCell_below ((h.oN.alloc _).kept hg (zg8 h.oN h.oT (by decide))) (by simp) _
 ·
  exact fun z hz=>⟨(h.aN z hz).1,(h.aN z hz).2.stp (hst _ (by decide)) fun _ _ _ _ _ _ h=>h⟩
 ·
  rw [List.length_append,ze7]
  exact ownsRow_setCell_below ho (by simp) _
 ·
  intro z hz
  rcases List.mem_append.1 hz with hz | hz
  ·
   exact ⟨(h.aT z hz).1,(h.aT z hz).2.stp (hst _ (by decide)) fun _ _ _ _ _ _ h=>h⟩
  rw [List.mem_singleton]at hz
  subst hz
  exact ⟨rfl,RSl.stp ⟨u,rfl,hu⟩ (hst _ (by decide)) fun _ _ _ _ _ _ h=>h⟩
 ·
  exact ownsRow_setCell_below ((h.oL.alloc _).kept hg (zg8 h.oL h.oT (by decide))) (by simp) _
 exact fun z hz=>⟨(h.aL z hz).1,(h.aL z hz).2.stp (hst _ (by decide)) fun _ _ _ _ _ _ h=>h⟩
theorem Wv.addL {w0 W:World} {l:List ClassD} {vC vS vF vN vT vL:Value} {zF:List (List Value×List FieldD)} {zN:List (List Value×List ByteArray)} {zT:List (List Value×List TargD)} {zL:List (List Value×List Nat)} (h:Wv w0 W l vC vS vF vN vT vL zF zN zT zL) {u:Value} {x:List Nat} (hu:SL 1 RO (MT w0.heap.size [3] W) W u x) {w1:World} {v':Value}
 (ho:w1.ownsRow (w0.heap.size+2) 22 1 v' (zL.length+1) (zL.flatMap (·.1)++ [u])) (hg:(W.alloc (.cells #[u] 22)).grownBy w1 vL.ownBlock):
 Wv w0 (w1.setCell ⟨w0.heap.size+1,6,none⟩ v') l vC vS vF vN vT v' zF zN zT (zL++ [([u],x)]):=by
 have hlt:=h.lt
 have hrb:∀q,vL.ownBlock=some q->w0.heap.size+2<=q/\q<W.heap.size:=fun q e=>h.oL.lt q e
 have hb1:w1.heap[w0.heap.size+1]? =some (.cells #[vC,vS,vF,vN,vT,.map (some w0.heap.size),vL] 155 (0,0)):=by
  rw [hg.block (w0.heap.size+1) (by simp;omega) (fun e=>by have:=(hrb _ e.symm).1;omega),Below.heap_alloc _ _ _ hlt]
  exact h.blk
 have hst:∀t,t∉ [22,155]->Stp w0.heap.size [t] W (w1.setCell ⟨w0.heap.size+1,6,none⟩ v'):=fun t ht=>
  (((Stp.refl _ _ _).alloc _).trans (Stp.row hg (h.oL.alloc _) (fun e=>ht (by simp at e;simp [e])))).trans (Stp.set hb1 (fun e=>ht (by simp at e;simp [<-e])) 6 v')
 have hB1:Below w0.heap.size w0 w1:=(h.below.alloc h.below.size _).grown hg (by have:=h.below.size;simp;omega) (fun q e=>by have:=(hrb q e).1;omega)
 refine ⟨hB1.setCell (by simp) _,zg6 hb1 v',?_,?_,?_,?_,?_,?_,?_,?_,?_,?_⟩
 ·
  exact (h.sS.keptI (hst _ (by decide)).kp).monoI fun _ hk=>hk.step (hst _ (by decide))
 ·
  have hn1:=(h.nm.kept (row:=none) (World.grownBy_alloc W _ _) (by simp)).kept hg (fun e=>by have:=(hrb _ e.symm).1;omega)
  exact hn1.kept (row:=some (w0.heap.size+1)) (za8 (World.grownBy.refl _ _) _ _ (Or.inl rfl)) (by simp)
 ·
  exact ownsRow_setCell_below ((h.oF.alloc _).kept hg (zg8 h.oF h.oL (by decide))) (by simp) _
 ·
  exact fun z hz=>⟨(h.aF z hz).1,(h.aF z hz).2.stp (hst _ (by decide)) fun _ _ _ _ _ _ h=>h⟩
 ·
  exact ownsRow_setCell_below ((h.oN.alloc _).kept hg (zg8 h.oN h.oL (by decide))) (by simp) _
 ·
  exact fun z hz=>⟨(h.aN z hz).1,(h.aN z hz).2.stp (hst _ (by decide)) fun _ _ _ _ _ _ h=>h⟩
 ·
  exact ownsRow_setCell_below ((h.oT.alloc _).kept hg (zg8 h.oT h.oL (by decide))) (by simp) _
 ·
  exact fun z hz=>⟨(h.aT z hz).1,(h.aT z hz).2.stp (hst _ (by decide)) fun _ _ _ _ _ _ h=>h⟩
 ·
  rw [List.length_append,ze7]
  exact ownsRow_setCell_below ho (by simp) _
 intro z hz
 rcases List.mem_append.1 hz with hz | hz
 ·
  exact ⟨(h.aL z hz).1,(h.aL z hz).2.stp (hst _ (by decide)) fun _ _ _ _ _ _ h=>h⟩
 rw [List.mem_singleton]at hz
 subst hz
 exact ⟨rfl,RSl.stp ⟨u,rfl,hu⟩ (hst _ (by decide)) fun _ _ _ _ _ _ h=>h⟩
theorem Wv.rowsF {w0 W:World} {l:List ClassD} {vC vS vF vN vT vL:Value} {zF:List (List Value×List FieldD)} {zN:List (List Value×List ByteArray)} {zT:List (List Value×List TargD)} {zL:List (List Value×List Nat)} (h:Wv w0 W l vC vS vF vN vT vL zF zN zT zL) (hl:zF.length<=1000):SL 1 (RSl 3 RF) (MT w0.heap.size [125,126] W) W vF (zF.map (·.2)):=
 ze4 (n:=1) (R:=RSl 3 RF) (T:=[125,126]) (zbi h.oF (B':=w0.heap.size) (by omega)) (fun z hz=>⟨(h.aF z hz).1,by
  obtain ⟨v,e,hs⟩:=(h.aF z hz).2
  exact ⟨v,e,hs.mono (fun _ hk=>hk.more (Nat.le_refl _) (fun _ ht=>by simp at ht;simp [ht])) fun _ _ h=>h⟩⟩) (by simp) (by unfold maxLen;omega)
theorem Wv.rowsN {w0 W:World} {l:List ClassD} {vC vS vF vN vT vL:Value} {zF:List (List Value×List FieldD)} {zN:List (List Value×List ByteArray)} {zT:List (List Value×List TargD)} {zL:List (List Value×List Nat)} (h:Wv w0 W l vC vS vF vN vT vL zF zN zT zL) (hl:zN.length<=1000):SL 1 (RSl 1 RS) (MT w0.heap.size [9,225] W) W vN (zN.map (·.2)):=
 ze4 (n:=1) (R:=RSl 1 RS) (T:=[9,225]) (zbi h.oN (B':=w0.heap.size) (by omega)) (fun z hz=>⟨(h.aN z hz).1,by
  obtain ⟨v,e,hs⟩:=(h.aN z hz).2
  exact ⟨v,e,hs.mono (fun _ hk=>hk.more (Nat.le_refl _) (fun _ ht=>by simp at ht;simp [ht])) fun _ _ h=>h⟩⟩) (by simp) (by unfold maxLen;omega)
theorem Wv.rowsT {w0 W:World} {l:List ClassD} {vC vS vF vN vT vL:Value} {zF:List (List Value×List FieldD)} {zN:List (List Value×List ByteArray)} {zT:List (List Value×List TargD)} {zL:List (List Value×List Nat)} (h:Wv w0 W l vC vS vF vN vT vL zF zN zT zL) (hl:zT.length<=1000):SL 1 (RSl 2 RT) (MT w0.heap.size [233,226] W) W vT (zT.map (·.2)):=
 ze4 (n:=1) (R:=RSl 2 RT) (T:=[233,226]) (zbi h.oT (B':=w0.heap.size) (by omega)) (fun z hz=>⟨(h.aT z hz).1,by
  obtain ⟨v,e,hs⟩:=(h.aT z hz).2
  exact ⟨v,e,hs.mono (fun _ hk=>hk.more (Nat.le_refl _) (fun _ ht=>by simp at ht;simp [ht])) fun _ _ h=>h⟩⟩) (by simp) (by unfold maxLen;omega)
theorem Wv.rowsL {w0 W:World} {l:List ClassD} {vC vS vF vN vT vL:Value} {zF:List (List Value×List FieldD)} {zN:List (List Value×List ByteArray)} {zT:List (List Value×List TargD)} {zL:List (List Value×List Nat)} (h:Wv w0 W l vC vS vF vN vT vL zF zN zT zL) (hl:zL.length<=1000):SL 1 (RSl 1 RO) (MT w0.heap.size [3,22] W) W vL (zL.map (·.2)):=
 ze4 (n:=1) (R:=RSl 1 RO) (T:=[3,22]) (zbi h.oL (B':=w0.heap.size) (by omega)) (fun z hz=>⟨(h.aL z hz).1,by
  obtain ⟨v,e,hs⟩:=(h.aL z hz).2
  exact ⟨v,e,hs.mono (fun _ hk=>hk.more (Nat.le_refl _) (fun _ ht=>by simp at ht;simp [ht])) fun _ _ h=>h⟩⟩) (by simp) (by unfold maxLen;omega)
end Go.Proofs.YtjdnmblggdobgaaGreat
namespace Go.Proofs.YtjdnmblggdobgaaGreat
open Go.RowKit
def meth0:MethD:=⟨⟨#[]⟩,false,[],⟨0,⟨#[]⟩⟩,0,0,⟨#[]⟩,[]⟩
def methAt (l:List ClassD) (t:TargD):MethD:=((clsAt l t.cls.toNat).meths[t.meth.toNat]?).getD meth0
def okT (l:List ClassD) (t:TargD):Prop:=∃c j:Nat,t=⟨c,j⟩/\c<l.length/\j<(clsAt l c).meths.length
def standB (l:List ClassD) (n:Nat) (m:MethD):Bool:=
 if idxS (namesOf l n) m.name<0 then true else
  match (targetsOf l n)[(idxS (namesOf l n) m.name).toNat]? with
  | none=>true
  | some t=>!m.static&& !(methAt l t).static&&sameK m.ret (methAt l t).ret&&eqL sameK m.args (methAt l t).args
def askSame (l:List ClassD):Bool:=(List.range l.length).all fun i=>decide ((clsAt l i).super=(⟨#[]⟩:ByteArray))||(clsAt l i).meths.all (standB l (supAt l i).toNat)
theorem ziy (l:List ClassD) (P:List (ByteArray×TargD)):∀acc:List ByteArray×List TargD,(∀t∈acc.2,okT l t)->(∀x∈P,okT l x.2)->∀t∈(P.foldl tabStep acc).2,okT l t:=by
 induction P with
 | nil=>exact fun acc h _=>h
 | cons x P ih=>
   intro acc h hP
   refine ih (tabStep acc x) ?_ fun y hy=>hP y (List.mem_cons_of_mem _ hy)
   have hx:=hP x (List.mem_cons_self ..)
   unfold tabStep
   split
   ·
    intro t ht
    rcases List.mem_or_eq_of_mem_set ht with h1 | h1
    ·
     exact h t h1
    rw [h1];exact hx
   intro t ht
   rcases List.mem_append.1 ht with h1 | h1
   ·
    exact h t h1
   rw [List.mem_singleton.1 h1];exact hx
theorem ziz {l:List ClassD} {n:Nat} (hn:n<l.length):∀t∈targetsOf l n,okT l t:=by
 refine ziy l _ ([],[]) (fun t h=>by cases h) fun x hx=>?_
 obtain ⟨k,hk,hx⟩:=List.mem_flatMap.1 hx
 obtain ⟨p,hp,rfl⟩:=List.mem_map.1 hx
 refine ⟨k,p.2,rfl,zgy hn k hk,?_⟩
 have:=List.mem_zipIdx hp
 omega
theorem zi0 (l:List ClassD) (n:Nat):(namesOf l n).length=(targetsOf l n).length:=zhd _ ([],[]) rfl
theorem zi1 {l:List ClassD} {c j:Nat} (h:j<(clsAt l c).meths.length):methAt l ⟨c,j⟩=(clsAt l c).meths[j]:=by simp [methAt,h]
theorem zi2 {l:List ClassD} {n:Nat} {m:MethD} (h:idxS (namesOf l n) m.name<0):standB l n m=true:=if_pos h
theorem zi3 {l:List ClassD} {n k c j:Nat} {m:MethD} (h:idxS (namesOf l n) m.name=k) (hk:k<(targetsOf l n).length) (ht:(targetsOf l n)[k]=⟨c,j⟩) (hj:j<(clsAt l c).meths.length):
 standB l n m=(!m.static&& !(clsAt l c).meths[j].static&&sameK m.ret (clsAt l c).meths[j].ret&&eqL sameK m.args (clsAt l c).meths[j].args):=by
 rw [standB,h,if_neg (by omega),Int.toNat_natCast,List.getElem?_eq_getElem hk,ht]
 show (!m.static&& !(methAt l ⟨c,j⟩).static&&sameK m.ret (methAt l ⟨c,j⟩).ret&&eqL sameK m.args (methAt l ⟨c,j⟩).args)=_
 rw [zi1 hj]
end Go.Proofs.YtjdnmblggdobgaaGreat
