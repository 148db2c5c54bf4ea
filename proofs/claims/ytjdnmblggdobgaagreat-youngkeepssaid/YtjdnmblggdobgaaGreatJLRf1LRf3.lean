import Derived.Test.YtjdnmblggdobgaaGreatJLNoneLSaD
import Derived.Deep.DeepCutAuto
set_option maxHeartbeats 8000000
set_option maxRecDepth 100000
namespace Go.Proofs.YtjdnmblggdobgaaGreat
open Go.RowKit Go.Sort
def bv (l:List ap) (s:ByteArray):Int:=match l.findIdx? (fun c=>decide (c.name=s))with | some i=>i | none=>-1
theorem zob {l:List ap} {s:ByteArray} {k:Nat} (E:k<l.length) (h:l[k].name=s) (D:∀(j:Nat) (A:j<l.length),j<k->l[j].name≠s):bv l s=k:=by
 have:l.findIdx? (fun c=>decide (c.name=s))=some k:=by rw [List.findIdx?_eq_some_iff_getElem];exact ⟨E,by simp [h],fun j A=>by simp [D j (by omega) A]⟩
 rw [bv,this]
theorem zoc {l:List ap} {s:ByteArray} (D:∀(j:Nat) (A:j<l.length),l[j].name≠s):bv l s= -1:=by
 have:l.findIdx? (fun c=>decide (c.name=s))=none:=by rw [List.findIdx?_eq_none_iff];intro c hc;obtain ⟨j,A,rfl⟩:=List.getElem_of_mem hc;simp [D j A]
 rw [bv,this]
theorem zod (l:List ap) (s:ByteArray): -1<=bv l s/\bv l s<l.length:=by
 unfold bv;split
 ·rename_i i h;have:=(List.findIdx?_eq_some_iff_getElem.1 h).1;omega
 omega
theorem zoe (w:World) (M:Nat->Prop) (v:Value) (l:List ap) (s:ByteArray) (V:SL 4 RC M w v l):
 Calls Tryz.prog 184 #[v,.string s] w fun r w'=>r=.returned (.int .i64 (bv l s))/\w'=w:=by
 have W:=ae V;obtain ⟨ao,cl,rfl,-,hl,-⟩:=V;unfold maxLen at hl;go_enter Tryz.func184,Tryz.ntmps184;go_wp2
 go_loopw [5] (fun i wr=>∃k:Nat,k<=l.length/\i=.int .i64 k/\Hid (∀(j:Nat) (D:j<l.length),j<k->l[j].name≠s)/\wr=w) (fun i _=>l.length - (intOf i).toNat)
 case atStart=>exact ⟨0,n0q _,rfl,(fun j _ h=>by omega),rfl⟩
 case round=>
  obtain ⟨k,hk,rfl,F,rfl⟩:=hrel;by_cases E:k<l.length
  ·obtain ⟨b,off,vf,vm,rfl,hb,e0,X,Y,Z,ef,em,J,L⟩:=W.o.atC k E;clear ef em X Y Z J L;by_cases A:l[k].name=s
   ·have I:=ae (zob E A F.o);have O:(l[k].name.toList==s.toList)=true:=by rw [A];simp
    clear A;go_wp2
    go_ret;exact ⟨by rw [I.o];rfl,rfl⟩
   have G:Hid (∀(j:Nat) (D:j<l.length),j<k+1->l[j].name≠s):=fun j D h=>by
    by_cases N:j<k
    ·exact F.o j D N
    have:j=k:=by omega
    subst this;exact A
   have O:(l[k].name.toList==s.toList)=false:=by rw [beq_eq_false_iff_ne];exact fun e=>A (zb9 e)
   clear A;go_wp2
   go_roundw
   case rel=>exact ⟨k+1,by omega,by go_num,G.o,trivial⟩
   case measure=>simp [intOf];omega
  have I:=ae (zoc (l:=l) (s:=s) fun j D=>F.o j D (by omega));go_wp2
  go_ret;exact ⟨by rw [I.o];rfl,rfl⟩
def gi (l:List ap) (k:ew):Bool:=decide (k.da=(⟨#[]⟩:ByteArray))||decide (0<=bv l k.da)
theorem zof (w:World) (M M':Nat->Prop) (v u:Value) (l:List ap) (A:List ew) (X:SL 4 RC M w v l) (W:SL 2 RK M' w u A):
 Calls Tryz.prog 226 #[v,u] w fun r w'=>r=.returned (.bool (A.all (gi l)))/\w'=w:=by
 have Z:=ae X;have Y:=ae W;obtain ⟨ao,cl,rfl,-,hl,-⟩:=X;obtain ⟨au,cu,rfl,-,O,-⟩:=W;unfold maxLen at hl O;go_enter Tryz.func226,Tryz.ntmps226;go_wp2
 go_loopw [5] (fun i wr=>∃k:Nat,k<=A.length/\i=.int .i64 k/\Hid (A.all (gi l)=(A.drop k).all (gi l))/\wr=w) (fun i _=>A.length - (intOf i).toNat)
 case atStart=>exact ⟨0,n0q _,rfl,rfl,rfl⟩
 case round=>
  obtain ⟨k,hk,rfl,N,rfl⟩:=hrel;by_cases L:k<A.length
  ·obtain ⟨b,off,rfl,hb,e0,e1,es⟩:=Y.o.atK k L;have F:Hid ((A.drop k).all (gi l)=(gi l A[k]&&(A.drop (k+1)).all (gi l))):=by
    show _=_;rw [List.drop_eq_getElem_cons L,List.all_cons]
   have E:=ae (zoe wr M _ l A[k].da Z.o);have I:=zod l A[k].da;have G:Hid (gi l A[k]=(decide (A[k].da=(⟨#[]⟩:ByteArray))||decide (0<=bv l A[k].da))):=rfl;generalize A[k]=x at*;generalize bv l x.da=fa at*;have aa:=I.1;have ac:=I.2;clear I e0 es;by_cases J:x.da=⟨#[]⟩
   ·have V:=zcb J;have D:Hid (A.all (gi l)=(A.drop (k+1)).all (gi l)):=N.o.trans (by rw [F.o,G.o];simp [J]);clear J E;go_wp2
    go_roundw
    case rel=>exact ⟨k+1,by omega,by go_num,D.o,trivial⟩
    case measure=>simp [intOf];omega
   have V:x.da.toList.isEmpty=false:=by
    cases hq:x.da.toList with
    | nil=>exact absurd (zca hq) J
    | cons _ _=>rfl
   by_cases hf:fa<0
   ·have D:Hid (A.all (gi l)=false):=N.o.trans (by rw [F.o,G.o];simp [J];omega);clear J;go_wp2_with (first | (go_at_call 184;refine E.o.mono ?_;rintro r w7 ⟨rfl,rfl⟩));go_ret;exact ⟨by rw [D.o];rfl,rfl⟩
   have D:Hid (A.all (gi l)=(A.drop (k+1)).all (gi l)):=N.o.trans (by
    rw [F.o,G.o];have:(0:Int)<=fa:=by omega
    simp [this])
   clear J;go_wp2_with (first | (go_at_call 184;refine E.o.mono ?_;rintro r w7 ⟨rfl,rfl⟩));go_roundw
   case rel=>exact ⟨k+1,by omega,by go_num,D.o,trivial⟩
   case measure=>simp [intOf];omega
  have D:Hid (A.all (gi l)=true):=N.o.trans (by rw [List.drop_of_length_le (by omega)];rfl);go_wp2
  go_ret;exact ⟨by rw [D.o];rfl,rfl⟩
def supF (l:List ap) (n:Nat):Int:=bv l (b9 l n).bo
def upF (l:List ap):Nat->Int->List Nat->List Nat
 | 0,_,_=>[]
 | f+1,n,out=>if 0<=n then (if l.length<out.length then [] else upF l f (supF l n.toNat) (n.toNat::out)) else out
def mb (l:List ap) (n:Nat):List Nat:=upF l (l.length+3) n []
theorem zog (l:List ap):∀(f:Nat) (n:Int) (out:List Nat),n<l.length->(∀k∈out,k<l.length)->out.length<=l.length+1->(∀k∈upF l f n out,k<l.length)/\(upF l f n out).length<=l.length+1
 | 0,_,_,_,_,_=>⟨(fun k A=>by cases A),by simp [upF]⟩
 | f+1,n,out,hn,ho,hl=>by
   rw [upF];split
   ·split
    ·exact ⟨(fun k A=>by cases A),by simp⟩
    exact zog l f _ _ (zod l _).2 (fun k A=>by
     rcases List.mem_cons.1 A with rfl | A
     ·omega
     exact ho k A) (by simp;omega)
   exact ⟨ho,hl⟩
theorem zoh {l:List ap} {n:Nat} (D:n<l.length):(∀k∈mb l n,k<l.length)/\(mb l n).length<=l.length+1:=
 zog l _ n [] (by omega) (fun k A=>by cases A) (by simp)
theorem zoi (ns:List Nat):(ints ns).length=ns.length:=by simp [ints]
theorem zoj (ns:List Nat):∀u∈ints ns,u.oneCell'=true:=by intro u A;obtain ⟨x,_,rfl⟩:=List.mem_map.1 A;rfl
theorem zok {w:World} {B:Nat} {v:Value} {ns:List Nat} (h:w.ownsRow B 3 1 v ns.length (ints ns)) (E:ns.length<=1000):SL 1 RO (MT B [3] w) w v ns:=by
 have A:(ns.map fun x:Nat=>([Value.int .i64 (x:Int)],x)).length=ns.length:=by simp
 have D:(ns.map fun x:Nat=>([Value.int .i64 (x:Int)],x)).flatMap (·.1)=ints ns:=by
  rw [List.flatMap_map,ints];clear h E A;induction ns with
  | nil=>rfl
  | cons x r ih=>rw [List.flatMap_cons,ih];rfl
 have:=ze4 (n:=1) (R:=RO) (T:=[3]) (zs:=ns.map fun x:Nat=>([Value.int .i64 (x:Int)],x)) (by rw [A,D];exact h) (fun z A=>by
  obtain ⟨s,F,rfl⟩:=List.mem_map.1 A;exact ⟨rfl,rfl⟩) (by simp) (by rw [A];unfold maxLen;omega)
 rwa [List.map_map,show ((·.2)∘fun x:Nat=>([Value.int .i64 (x:Int)],x))=id from rfl,List.map_id]at this
theorem zol {w:World} {B g cap:Nat} {ns:List Nat} (h:w.ownsRow B 3 1 (.slice (some ⟨g,0,none⟩) ns.length cap) ns.length (ints ns)):∀j u,(ints ns)[j]? =some u->w.cell? ((⟨g,0,none⟩:Addr).add j)=some u:=by
 intro j u A;rcases h.2 with ⟨e,_⟩ | ⟨G,D,E,e,_,I,_,_,_,J⟩
 ·cases (Value.slice.inj e).1
 obtain ⟨F,_,_⟩:=Value.slice.inj e;obtain rfl:g=G:=by simpa using F
 rw [zg1];simp only [World.cell?,I,Nat.zero_add];rw [<-J]at A;rw [List.getElem?_take]at A;split at A
 ·simpa using A
 cases A
theorem zom (w:World) (B:Nat) (v:Value) (l:List ap) (n:Nat) (hn:n<l.length) (hv:SL 4 RC (· <B) w v l) (hB:B<=w.heap.size) (hN:l.length<=10):
 Calls Tryz.prog 225 #[v,.int .i64 n] w fun r w'=>Below w.heap.size w w'/\∃u,r=.returned u/\SL 1 RO (MT w.heap.size [3] w') w' u (mb l n):=by
 obtain ⟨iI,ag,ai,aj,ak⟩:=info_parts Tryz.infoInt;have HV:=ae hv;obtain ⟨ao,cl,rfl,-⟩:=hv;go_enter Tryz.func225,Tryz.ntmps225;go_wp2_with fail;go_loopg [1,5] (l.length+3) (fun f i v wr=>∃(A:List Nat) (m:Int),i=.int .i64 m/\ -1<=m/\m<l.length/\A.length+f=l.length+3/\A.length<=l.length+1/\Hid (mb l n=upF l f m A)/\wr.ownsRow w.heap.size 3 1 v A.length (ints A)/\Below w.heap.size w wr)
 case atStart=>exact ⟨[],n,rfl,by omega,by omega,by simp,by simp,rfl,World.ownsRow_nil _ _ _ _,br _ _⟩
 case round=>
  rename Nat=>f
  obtain ⟨A,m,rfl,a2,a3,hf,a4,HP,D,G⟩:=hrel;obtain ⟨a5,c5,rfl⟩:=kh D;have O:=G.size;obtain ⟨f',rfl⟩:∃f',f=f'+1:=⟨f - 1,by omega⟩;by_cases h0:0<=m
  ·by_cases hx:l.length<A.length
   ·have HR:Hid (mb l n= []):=HP.o.trans (by rw [upF,if_pos h0,if_pos hx]);have aq:(l.length:Int)<A.length:=by omega
    clear D;go_wp2_with fail;go_ret;exact ⟨G,_,rfl,by rw [HR.o];exact ⟨none,0,rfl,nlq _,by unfold maxLen;simp,fun k hk=>by cases hk⟩⟩
   have aq:¬(l.length:Int)<A.length:=by omega
   have ac:Hid (mb l n=upF l f' (supF l m.toNat) (m.toNat::A)):=HP.o.trans (by rw [upF,if_pos h0,if_neg hx]);obtain ⟨E,rfl⟩:=Int.eq_ofNat_of_zero_le h0;have N:E<l.length:=by omega
   have ay:=ae D;have aa:Hid ((wr.alloc (.cells #[.int .i64 (E:Int)] 3)).ownsRow w.heap.size 3 1 (.slice (some ⟨wr.heap.size,0,none⟩) 1 1) 1 [.int .i64 (E:Int)]):=
    ⟨rfl,Or.inr ⟨wr.heap.size,1,#[.int .i64 (E:Int)],rfl,O,heap_alloc_new wr _,nlq _,by unfold maxLen;omega,rfl,rfl⟩⟩
   have L:=ae (zod l (b9 l E).bo);have a0:(0:Int)<=E:=by omega
   have a1:(E:Int)<l.length:=by omega
   by_cases h5:A.length=0
   ·have ad:A= []:=List.eq_nil_of_length_eq_zero h5;have HO:=ae ad;have F:Below w.heap.size w (wr.alloc (.cells #[.int .i64 (E:Int)] 3)):=G.alloc O _;obtain ⟨b,off,vf,vm,rfl,hb,e0,e1,e2,e3,ef,em,Y,Z⟩:=(HV.o.keptC (Kp.below (F.mono hB))).atC E N;clear ef em e0 e2 e3 Y;have W:=ae (zoe (wr.alloc (.cells #[.int .i64 (E:Int)] 3)) (· <B) _ l l[E].bo (HV.o.keptC (Kp.below (F.mono hB))));have al:=ae F;rw [h5];clear D h5 ad F Z;go_wp2_with (first | (at_builtin;refine zf9 _ rfl _ _ 22 rfl 3 iI Tryz.underlying22 ag (some ⟨wr.heap.size,0,none⟩) 1 1 rfl (by decide) (Or.inr ⟨_,rfl⟩) a5 c5 rfl ?_) | (go_at_call 184;refine W.o.mono ?_;rintro r w7 ⟨rfl,rfl⟩))
    go_roundg f'
    case measure=>omega
    case rel=>exact ⟨[E],supF l E,(by rw [supF,zay N]),L.o.1,L.o.2,by have:=HO.o;subst this;simp at hf ⊢;omega,by simp,by have:=HO.o;subst this;exact ac.o,aa.o,al.o⟩
   obtain ⟨g,cap,ah,az,av⟩:=D.form (by omega);obtain ⟨rfl,-,rfl⟩:=Value.slice.inj ah;have X:Hid (∀j u,(ints A)[j]? =some u->(wr.alloc (.cells #[.int .i64 (E:Int)] 3)).cell? ((⟨g,0,none⟩:Addr).add j)=some u):=zol (D.alloc _);have I:Hid (1+A.length<=maxLen/\(1+A.length)*8<=140737488355328/\w.heap.size<=(wr.alloc (.cells #[.int .i64 (E:Int)] 3)).heap.size/\(ints A).length=A.length*1/\0<A.length):=⟨by unfold maxLen;omega,by omega,by simp;omega,by rw [zoi];omega,by omega⟩;have an:=ae G;clear D h5 ah G
   go_upto_region 6 with (at_builtin;refine wpList_append_lies _ rfl _ _ 22 rfl w.heap.size 3 iI (.int .i64 0) 1 8 Tryz.underlying22 ag ai aj ak rfl (by decide) (.slice (some ⟨wr.heap.size,0,none⟩) 1 1) 1 [.int .i64 (E:Int)] rfl aa.o ⟨g,0,none⟩ A.length c5 (ints A) rfl I.o.2.2.2.1 X.o (zoj _) I.o.2.2.2.2 I.o.1 I.o.2.1 I.o.2.2.1 _ rfl ?_;intro g1 au w1 J V af ax;have F:Below w.heap.size w w1:=(an.o.alloc O _).grown V (by simp;omega) (fun k e=>by cases e;exact O);have HX:=ae (And.intro J F);clear J V af F)
   obtain ⟨b,off,vf,vm,rfl,hb,e0,e1,e2,e3,ef,em,Y,Z⟩:=(HV.o.keptC (Kp.below (HX.o.2.mono hB))).atC E N;clear ef em e0 e2 e3 Y;have W:=ae (zoe w1 (· <B) _ l l[E].bo (HV.o.keptC (Kp.below (HX.o.2.mono hB))));clear Z;go_wp2_with (first | (go_at_call 184;refine W.o.mono ?_;rintro r w7 ⟨rfl,rfl⟩))
   go_roundg f'
   case measure=>omega
   case rel=>exact ⟨E::A,supF l E,(by rw [supF,zay N]),L.o.1,L.o.2,by simp;omega,by simp;omega,ac.o,by have:=HX.o.1;rw [List.length_cons,Nat.add_comm A.length 1];exact this,HX.o.2⟩
  have HR:Hid (mb l n=A):=HP.o.trans (by rw [upF,if_neg h0]);have SV:=ae (zok D (by omega));clear D;go_wp2_with fail;go_ret;exact ⟨G,_,rfl,by rw [HR.o];exact SV.o⟩
def jv (l:List ap) (n:Nat):List bg:=(mb l n).flatMap fun k=>(b9 l k).fields
theorem zon (w:World) (B:Nat) (v:Value) (l:List ap) (n:Nat) (hn:n<l.length) (hv:SL 4 RC (· <B) w v l) (hB:B<=w.heap.size) (hN:l.length<=10) (hF:∀c∈l,c.fields.length<=6):
 Calls Tryz.prog 182 #[v,.int .i64 n] w fun r w'=>Below w.heap.size w w'/\∃u,r=.returned u/\SL 3 RF (MT w.heap.size [125] w') w' u (jv l n):=by
 obtain ⟨iF,aj,an,aq,au⟩:=info_parts Tryz.infoField;have HC:=ae hv;obtain ⟨ao,cl,rfl,-⟩:=hv;obtain ⟨ak,bn⟩:=zoh hn;have HU:=ae (zom w B _ l n hn HC.o hB hN);have a1:Hid (jv l n=(mb l n).flatMap fun k=>(b9 l k).fields):=rfl;generalize mb l n=ln at*;have HK:=ae ak;have a0:=ae hF;clear ak hF;go_enter Tryz.func182,Tryz.ntmps182;go_wp2_with (first | (go_at_call 225;refine HU.o.mono ?_;rintro r w0 ⟨ah,u0,rfl,ax⟩;have HI:=ae ax;have O:=ae ah;obtain ⟨aI,cI,rfl,-⟩:=ax;clear ah));go_loopw [5,7] (fun v i wr=>∃(k:Nat) (fs:List bg),k<=ln.length/\i=.int .i64 k/\Hid (fs=(ln.take k).flatMap fun k=>(b9 l k).fields)/\fs.length<=6*k/\Hid (∀f∈fs,f.name.size<=maxLen/\f.kind.da.size<=maxLen)/\wr.ownsRow w0.heap.size 125 3 v fs.length (fs.flatMap gx)/\Below w0.heap.size w0 wr) (fun _ i _=>ln.length - (intOf i).toNat)
 case atStart=>exact ⟨0,[],n0q _,rfl,rfl,by simp,(fun f F=>by cases F),World.ownsRow_nil _ _ _ _,br _ _⟩
 case round=>
  obtain ⟨k,fs,hk,rfl,HP,bm,X,A,E⟩:=hrel;obtain ⟨a5,c5,rfl⟩:=kh A;have al:=E.size;have G:Below w.heap.size w wr:=O.o.trans (E.mono O.o.size);by_cases Y:k<ln.length
  ·obtain ⟨bi,oi,rfl,a9,ei⟩:=HI.o.atO k Y;have a4:=(E.cell (p:=⟨bi,oi+k,none⟩) a9).trans ei;have I:=HK.o ln[k] (gm Y);obtain ⟨bc,oc,vf,vm,rfl,bh,e0,e1,e2,e3,ef,em,a6,a7⟩:=(HC.o.keptC (Kp.below (G.mono hB))).atC ln[k] I;have bl:=a0.o l[ln[k]] (gm I);have az:Hid (b9 l ln[k]=l[ln[k]]):=zay I;obtain ⟨m,hm⟩:∃m,m=ln[k]:=⟨_,rfl⟩;generalize hcc:l[ln[k]]=cc at*;clear hcc;rw [<-hm]at a4 e0 e1 e2 e3 I;have bo:(0:Int)<=m:=by omega
   have bs:(m:Int)<l.length:=by omega
   have EF:=ae ef;obtain ⟨fo,cf,rfl,-⟩:=ef;have W:=ae A;have N:∀f∈cc.fields,f.name.size<=maxLen/\f.kind.da.size<=maxLen:=by intro f F;obtain ⟨q,hq,rfl⟩:=List.getElem_of_mem F;obtain ⟨_,_,_,_,_,_,_,h1,h2⟩:=EF.o.atF q hq;exact ⟨h1,h2⟩
   have a3:=ae N;have ad:Hid ((ln.take (k+1)).flatMap (fun k=>(b9 l k).fields)=fs++cc.fields):=by show _=_;rw [List.take_succ_eq_append_getElem Y,List.flatMap_append,<-HP.o];simp [az.o]
   clear hm ei N em a6 a7 e0 e1 e3;have ac:=ae E;clear G E;by_cases h0:cc.fields= []
   ·have a2:=ae h0;rw [h0]at e2;clear h0;obtain ⟨ai,af⟩:=zga A;go_wp2_with (at_builtin;refine zf9 _ rfl _ _ 126 rfl 125 iF Tryz.underlying126 aj a5 fs.length c5 rfl ai af fo cf rfl ?_);clear af ai;go_wp2_with fail;go_roundw
    case rel=>exact ⟨k+1,fs,by omega,by go_num,by show _=_;have:=ad.o;rw [a2.o,List.append_nil]at this;exact this.symm,by omega,X.o,W.o,ac.o⟩
    case measure=>simp [intOf];omega
   have L:0<cc.fields.length:=List.length_pos_iff.2 h0;obtain ⟨bf,of,ba⟩:∃bf of,fo=some ⟨bf,of,none⟩:=by obtain ⟨bf,of,e,_⟩:=EF.o.atF 0 L;exact ⟨bf,of,e⟩
   subst ba;have V:Hid (∀j u,(cc.fields.flatMap gx)[j]? =some u->wr.cell? ((⟨bf,of,none⟩:Addr).add j)=some u):=zg2 gx (by decide) (fun x _=>rfl) (fun _ _ h=>h.1) EF.o;have aa:Hid (fs.length+cc.fields.length<=maxLen/\(fs.length+cc.fields.length)*40<=140737488355328):=⟨by unfold maxLen;omega,by omega⟩;clear h0;go_wp2_with (at_builtin;refine wpList_append_lies _ rfl _ _ 126 rfl w0.heap.size 125 iF (.agg #[.string ⟨#[]⟩,.int .i64 0,.string ⟨#[]⟩]) 3 40 Tryz.underlying126 aj an aq au rfl (by decide) (.slice a5 fs.length c5) fs.length (fs.flatMap gx) rfl W.o ⟨bf,of,none⟩ cc.fields.length cf (cc.fields.flatMap gx) rfl zg3 V.o (zg4 _) L aa.o.1 aa.o.2 al _ rfl ?_);intro g cap w1 D J ag be;have HX:=ae (And.intro D (ac.o.grown J al (fun k e=>(W.o.lt k e).1)));clear D J ag A;go_wp2_with fail;go_roundw
   case rel=>
    obtain ⟨D,a8⟩:=HX.o;refine ⟨k+1,fs++cc.fields,by omega,by go_num,ad.o.symm,by simp;omega,?_,?_,a8⟩
    ·show ∀f∈_,_;intro f F;rcases List.mem_append.1 F with F | F
     ·exact X.o f F
     exact a3.o f F
    rw [List.length_append,List.flatMap_append];exact D
   case measure=>simp [intOf];omega
  have HX:Hid (jv l n=fs):=by show _=_;rw [a1.o,HP.o,List.take_of_length_le (by omega)]
  have Z:(fs.map fun f=>(gx f,f)).length=fs.length:=by simp
  have av:(fs.map fun f=>(gx f,f)).flatMap (·.1)=fs.flatMap gx:=by rw [List.flatMap_map]
  have sv:=ze4 (n:=3) (R:=RF) (T:=[125]) (zs:=fs.map fun f=>(gx f,f)) (by rw [Z,av];exact A) (fun z hz=>by
   obtain ⟨f,F,rfl⟩:=List.mem_map.1 hz;exact ⟨rfl,rfl,X.o f F⟩) (by simp) (by rw [Z];unfold maxLen;omega)
  have SV:=ae (sv.monoF (M':=MT w.heap.size [125] wr) fun _ hk=>hk.more O.o.size (fun _ ht=>ht));have ay:=ae G;clear Z av A sv G E;go_wp2_with fail;go_ret;exact ⟨ay.o,_,rfl,by rw [HX.o];have:=SV.o;rwa [List.map_map,show ((·.2)∘fun f:bg=>(gx f,f))=id from rfl,List.map_id]at this⟩
def ja (l:List ap) (n:Nat):List ByteArray×List cg:=((mb l n).flatMap (jk l)).foldl ed ([],[])
theorem zoo {l:List ByteArray} {s:ByteArray} {k:Nat} (E:k<l.length) (h:l[k]=s) (D:∀(j:Nat) (A:j<l.length),j<k->l[j]≠s):iw l s=k:=by
 have:l.findIdx? (fun x=>decide (x=s))=some k:=by rw [List.findIdx?_eq_some_iff_getElem];exact ⟨E,by simp [h],fun j A=>by simp [D j (by omega) A]⟩
 rw [iw,this]
theorem zop {l:List ByteArray} {s:ByteArray} (D:∀(j:Nat) (A:j<l.length),l[j]≠s):iw l s= -1:=by
 have:l.findIdx? (fun x=>decide (x=s))=none:=by rw [List.findIdx?_eq_none_iff];intro c hc;obtain ⟨j,A,rfl⟩:=List.getElem_of_mem hc;simp [D j A]
 rw [iw,this]
theorem zoq (ts:List cg) (t A:cg):(ts++ [t]).set ts.length A=ts++ [A]:=by simp
theorem zor (w:World) (B:Nat) (v:Value) (l:List ap) (n:Nat) (hn:n<l.length) (hv:SL 4 RC (· <B) w v l) (hB:B<=w.heap.size) (hN:l.length<=10) (hF:∀c∈l,c.ba.length<=8):
 Calls Tryz.prog 183 #[v,.int .i64 n] w fun r w'=>Below w.heap.size w w'/\∃v u,r=.returned (.tuple #[v,u])/\SL 1 RS (MT w.heap.size [9] w') w' v (ja l n).1/\SL 2 RT (MT w.heap.size [233] w') w' u (ja l n).2:=by
 obtain ⟨iS,c5,ce,cf,ch⟩:=info_parts Tryz.infoStr;obtain ⟨iT,c8,ci,cj,cn⟩:=info_parts Tryz.infoTarg;have HC:=ae hv;obtain ⟨ao,cl,rfl,-⟩:=hv;obtain ⟨ca,eb⟩:=zoh hn;have HU:=ae (zom w B _ l n hn HC.o hB hN);have c0:Hid (ja l n=((mb l n).flatMap (jk l)).foldl ed ([],[])):=rfl;generalize mb l n=ln at*;have HK:=ae ca;have ct:=ae hF;clear ca hF;go_enter Tryz.func183,Tryz.ntmps183;go_wp2_with (first | (go_at_call 225;refine HU.o.mono ?_;rintro r O ⟨bz,u0,rfl,co⟩;have HI:=ae co;have Z:=ae bz;obtain ⟨aI,cI,rfl,-⟩:=co;clear bz));go_loopw [6,7,9] (fun v u i wr=>∃(k:Nat) (ns:List ByteArray) (ts:List cg),k<=ln.length/\i=.int .i64 k/\Hid ((ns,ts)=((ln.take k).flatMap (jk l)).foldl ed ([],[]))/\ns.length<=8*k/\Hid (ts.length=ns.length)/\Hid (∀s∈ns,s.size<=maxLen)/\
  wr.ownsRow O.heap.size 9 1 v ns.length (jx ns)/\wr.ownsRow O.heap.size 233 2 u ts.length (ts.flatMap gz)/\Below O.heap.size O wr) (fun _ _ i _=>ln.length - (intOf i).toNat)
 case atStart=>exact ⟨0,[],[],n0q _,rfl,rfl,by simp,rfl,(fun f hf=>by cases hf),World.ownsRow_nil _ _ _ _,World.ownsRow_nil _ _ _ _,br _ _⟩
 case round=>
  obtain ⟨k,ns,ts,hk,rfl,HP,b4,D,V,F,A,I⟩:=hrel;obtain ⟨a6,c6,rfl⟩:=kh F;obtain ⟨a7,c7,rfl⟩:=kh A;have a4:=I.size;by_cases a2:k<ln.length
  ·obtain ⟨bi,oi,rfl,b1,ei⟩:=HI.o.atO k a2;have a3:=HK.o ln[k] (gm a2);have bu:=Z.o;obtain ⟨bc,oc,vf,vm,rfl,b0,e0,e1,e2,e3,ef,em,c1,c2⟩:=(HC.o.keptC (Kp.below (bu.mono hB))).atC ln[k] a3;have b2:=ct.o l[ln[k]] (gm a3);have bo:Hid ((ln.take (k+1)).flatMap (jk l)=(ln.take k).flatMap (jk l)++jk l ln[k]):=by
    show _=_;rw [List.take_succ_eq_append_getElem a2,List.flatMap_append];simp
   clear e0 e1 e2 ef c1 c2 bu;rw [<-zay a3]at em b2;obtain ⟨mo,cm,rfl,-⟩:=id em;have cp:=ae em;have aj:=ae (And.intro b1 ei);have a8:=ae (And.intro b0 e3);clear em b1 ei b0 e3;generalize ln[k]=m at*;have bs:=ae (zhg l m);generalize hms:(b9 l m).ba=ms at*;have bh:=ae hms;clear hms;have ec:(0:Int)<=m:=by omega
   have ee:(m:Int)<l.length:=by omega
   obtain ⟨PK,a0⟩:∃PK,PK=(ln.take k).flatMap (jk l):=⟨_,rfl⟩;rw [<-a0]at HP bo;have d1:=ae a0;clear a0;go_wp2_with fail;go_loopw [6,7,10] (fun v u i N=>∃(j:Nat) (ns:List ByteArray) (ts:List cg),j<=ms.length/\i=.int .i64 j/\Hid ((ns,ts)=(PK++(jk l m).take j).foldl ed ([],[]))/\ns.length<=8*k+j/\Hid (ts.length=ns.length)/\Hid (∀s∈ns,s.size<=maxLen)/\
    N.ownsRow O.heap.size 9 1 v ns.length (jx ns)/\N.ownsRow O.heap.size 233 2 u ts.length (ts.flatMap gz)/\Below O.heap.size O N) (fun _ _ i _=>ms.length - (intOf i).toNat)
   case atStart=>exact ⟨0,ns,ts,n0q _,rfl,by show _=_;rw [List.take_zero,List.append_nil];exact HP.o,by omega,D.o,V.o,F,A,I⟩
   case round=>
    clear F A I HP V b4 D a4
    rename World=>N
    obtain ⟨j,ns,ts,hj,rfl,HP,b4,D,V,F,A,I⟩:=hrel;obtain ⟨a6,c6,rfl⟩:=kh F;obtain ⟨a7,c7,rfl⟩:=kh A;have a4:=I.size;have ei:=(I.cell (p:=⟨bi,oi+k,none⟩) aj.o.1).trans aj.o.2;have e3:=(I.cell (p:=⟨bc,oc+m*4+3,none⟩) a8.o.1).trans a8.o.2;by_cases a1:j<ms.length
    ·obtain ⟨bm,om,va,vh,dd,d5,q0,q1,q2,q3,q4,q5,q6,q7,q8,sa,sh,du,ek,el⟩:=(cp.o.keptM (Kp.below (B:=B) (I.mono (lt3 hB Z.o.size)))).atM j a1;subst dd;have bn:Hid (PK++(jk l m).take (j+1)=(PK++(jk l m).take j)++ [(ms[j].name,⟨m,j⟩)]):=by
      show _=_;have b7:j<(jk l m).length:=by rw [bs.o];exact a1
      rw [List.take_succ_eq_append_getElem b7,List.append_assoc,zhh l m j b7 (by rw [bh.o];exact a1)];congr 3;simp [bh.o]
     have aa:=ae F;have G:=ae A;have a5:=ae I;generalize hmj:ms[j].name=nm at*;have SN:Hid (SL 1 RS (MT O.heap.size [9] N) N (.slice a6 ns.length c6) ns):=zha F V.o (by omega);clear F A hmj sa sh q1 q2 q3 q4 q5 q6 q7 q8 I;go_wp2_with fail;go_loopw [12] (fun i wx=>∃q:Nat,q<=ns.length/\i=.int .i64 q/\Hid (∀(j:Nat) (hj:j<ns.length),j<q->ns[j]≠nm)/\wx=N) (fun i _=>ns.length - (intOf i).toNat)
     case atStart=>exact ⟨0,n0q _,rfl,(fun j _ h=>by omega),rfl⟩
     case round=>
      obtain ⟨q,hq,rfl,HQ,rfl⟩:=hrel
      rename World=>N
      by_cases Y:q<ns.length
      ·obtain ⟨b6,o6,rfl,d4,d6,_⟩:=SN.o.atS q Y;by_cases hs:ns[q]=nm
       ·have dk:(ns[q].toList==nm.toList)=true:=by rw [hs];simp
        have ak:=zoo Y hs HQ.o;have ax:Hid (ed (ns,ts) (nm,⟨m,j⟩)=(ns,ts.set q ⟨m,j⟩)):=by
         show _=_;have h0:0<=iw ns nm:=by omega
         rw [ed,if_pos h0];show (ns,ts.set (iw ns nm).toNat _)=_;rw [ak];rfl
        clear hs ak HQ;obtain ⟨J,c4,dz⟩:∃J,a7=some ⟨J,0,none⟩/\ts.length<=c7:=by
         obtain ⟨h1,h2⟩:=zga G.o;rcases h2 with rfl | ⟨g,rfl⟩
         ·rcases G.o.2 with ⟨e,h0⟩ | ⟨g,_,_,e,_⟩
          ·have:=D.o;omega
          cases e
         exact ⟨g,rfl,h1⟩
        subst c4;have X:=G.o.lt J rfl;have k0:N.cell? ⟨J,q*2,none⟩=(ts.flatMap gz)[q*2]? :=G.o.cellAt _ (by have:=D.o;omega);have k1:N.cell? ⟨J,q*2+1,none⟩=(ts.flatMap gz)[q*2+1]? :=G.o.cellAt _ (by have:=D.o;omega);have al:q<ts.length:=by have:=D.o;omega
        have eh:N.cell? ⟨J,q*2,none⟩=some (.int .i64 (ts[q]).da):=by rw [k0];have:=ze3 (n:=2) gz ts q 0 (fun _ _=>rfl) al (by decide);simpa [gz]using this
        have ej:N.cell? ⟨J,q*2+1,none⟩=some (.int .i64 (ts[q]).meth):=by rw [k1];have:=ze3 (n:=2) gz ts q 1 (fun _ _=>rfl) al (by decide);simpa [gz]using this
        obtain ⟨W,ag⟩:∃W,N.heap[J]? =some (.cells W 233 (0,0)):=by
         rcases G.o.2 with ⟨e,_⟩ | ⟨g,_,az,e,_,hb,_⟩
         ·cases e
         cases e;exact ⟨az,hb⟩
        have z0:∀q,N.frozen? ⟨J,q,none⟩=false:=fun q=>by simp [World.frozen?,ag]
        have dl:(0:Int)<=q:=by omega
        have ds:(q:Int)<ts.length:=by have:=D.o;omega
        have cc:(q:Int)<ns.length:=by omega
        have eg:¬(q:Int)=ns.length:=by omega
        have b5:J<N.heap.size:=X.2;clear k0 k1 ag;go_wp2_with fail;go_roundw
        case rel=>
         have ac:=(a5.o.setCell (p:=⟨J,q*2,none⟩) X.1 (.int .i64 m)).setCell (p:=⟨J,q*2+1,none⟩) X.1 (.int .i64 j);refine ⟨j+1,ns,ts.set q ⟨m,j⟩,by omega,by go_num,?_,by omega,by show _=_;have:=D.o;simpa using this,V.o,?_,?_,ac⟩
         ·show _=_;rw [bn.o,zhe,<-HP.o,ax.o]
         ·refine aa.o.kept (row:=some J) ?_ ?_
          ·exact mf (mf (World.grownBy.refl _ _) _ _ (Or.inl rfl)) _ _ (Or.inl rfl)
          rcases zg8 aa.o G.o (by decide)with h | h
          ·exact Or.inl h
          exact Or.inr h
         have:=zg7 (zg7 G.o (q*2) (.int .i64 m)) (q*2+1) (.int .i64 j);rw [zhc ts q ⟨m,j⟩]at this;rw [List.length_set];exact this
        case measure=>simp [intOf];omega
       have cx:Hid (∀(j:Nat) (hj:j<ns.length),j<q+1->ns[j]≠nm):=fun j hj h=>by
        by_cases c9:j<q
        ·exact HQ.o j hj c9
        have:j=q:=by omega
        subst this;exact hs
       have dk:(ns[q].toList==nm.toList)=false:=by rw [beq_eq_false_iff_ne];exact fun e=>hs (zb9 e)
       have cc:(q:Int)<ns.length:=by omega
       clear hs;go_wp2_with fail;go_roundw
       case rel=>exact ⟨q+1,by omega,by go_num,cx.o,trivial⟩
       case measure=>simp [intOf];omega
      have dg:q=ns.length:=by omega
      subst dg;have c3:=zop (l:=ns) (s:=nm) fun j hj=>HQ.o j hj hj;have ax:Hid (ed (ns,ts) (nm,⟨m,j⟩)=(ns++ [nm],ts++ [⟨m,j⟩])):=by show _=_;rw [ed,if_neg (by show ¬ 0<=iw ns nm;omega)]
      have au:Hid (ns.length+1<=maxLen/\(ns.length+1)*16<=140737488355328/\O.heap.size<=(N.alloc (.cells #[.string nm] 9)).heap.size):=⟨by unfold maxLen;omega,by omega,by simp;omega⟩;have an:∀q,(Value.slice a6 ns.length c6).ownBlock=some q->O.heap.size<=q/\q<N.heap.size:=fun q e=>aa.o.lt q e;have cu:=ae an;clear c3 HQ Y hq SN q0 an;go_wp2_with (at_builtin;refine wpList_append_lies _ rfl _ _ 225 rfl O.heap.size 9 iS (.string ⟨#[]⟩) 1 16 Tryz.underlying225 c5 ce cf ch rfl (by decide) (.slice a6 ns.length c6) ns.length (jx ns) rfl (aa.o.alloc _) ⟨N.heap.size,0,none⟩ 1 1 [.string nm] rfl rfl (World.news_of_block (heap_alloc_new N _)) (by intro u hu;simp at hu;subst hu;rfl) (by omega) au.o.1 au.o.2.1 au.o.2.2 _ rfl ?_);intro g6 d2 w3 ai ah _ Y;have bw:=(G.o.alloc (.cells #[.string nm] 9)).kept ah (zg8 G.o aa.o (by decide));have ac:Below O.heap.size O w3:=(a5.o.alloc a4 _).grown ah (by simp;omega) (fun q e=>(cu.o q e).1);have av:Hid (ts.length+1<=maxLen/\(ts.length+1)*16<=140737488355328/\O.heap.size<=(w3.alloc (.cells #[.int .i64 0,.int .i64 0] 233)).heap.size):=⟨by have:=D.o;unfold maxLen;omega,by have:=D.o;omega,by have:=ac.size;simp;omega⟩;have ay:=ae bw;have bl:=ae ai;have aq:=ae ac;clear ai ah bw ac ei e3
      go_upto_region 16 with (at_builtin;refine wpList_append_lies _ rfl _ _ 226 rfl O.heap.size 233 iT (.agg #[.int .i64 0,.int .i64 0]) 2 16 Tryz.underlying226 c8 ci cj cn rfl (by decide) (.slice a7 ts.length c7) ts.length (ts.flatMap gz) rfl (ay.o.alloc _) ⟨w3.heap.size,0,none⟩ 1 1 [.int .i64 0,.int .i64 0] rfl rfl (World.news_of_block (heap_alloc_new w3 _)) (by intro u hu;simp at hu;subst hu;rfl) (by omega) av.o.1 av.o.2.1 av.o.2.2 _ rfl ?_;intro J d3 w4 E L _ d0;have be:=ae (And.intro E L);clear E L)
      obtain ⟨E,L⟩:=be.o;have af:=(bl.o.alloc (.cells #[.int .i64 0,.int .i64 0] 233)).kept L (zg8 bl.o ay.o (by decide));have ad:Below O.heap.size O w4:=(aq.o.alloc aq.o.size _).grown L (by have:=aq.o.size;simp;omega) (fun q e=>(ay.o.lt q e).1);have ei:=(ad.cell (p:=⟨bi,oi+k,none⟩) aj.o.1).trans aj.o.2;have X:=E.lt J rfl;have b3:((ts++ [(⟨0,0⟩:cg)]).flatMap gz)=ts.flatMap gz++ [.int .i64 0,.int .i64 0]:=by rw [List.flatMap_append];rfl
      have d8:w4.cell? ⟨J,ns.length*2,none⟩=some (.int .i64 0):=by have:=E.cellAt (ns.length*2) (by have:=D.o;omega);rw [this,<-D.o,List.getElem?_append_right (by rw [tlen];omega),tlen];simp
      have ea:w4.cell? ⟨J,ns.length*2+1,none⟩=some (.int .i64 0):=by have:=E.cellAt (ns.length*2+1) (by have:=D.o;omega);rw [this,<-D.o,List.getElem?_append_right (by rw [tlen];omega),tlen,show ts.length*2+1 - ts.length*2=1 by omega];rfl
      obtain ⟨W,ag⟩:∃W,w4.heap[J]? =some (.cells W 233 (0,0)):=by
       rcases E.2 with ⟨e,_⟩ | ⟨g,_,az,e,_,hb,_⟩
       ·cases e
       cases e;exact ⟨az,hb⟩
      have z0:∀q,w4.frozen? ⟨J,q,none⟩=false:=fun q=>by simp [World.frozen?,ag]
      have b5:J<w4.heap.size:=X.2;have dl:(0:Int)<=ns.length:=by omega
      have ds:(ns.length:Int)<(ts.length:Int)+1:=by have:=D.o;omega
      have cc:(ns.length:Int)<((ts.length+1:Nat):Int):=by have:=D.o;omega
      have a9:=ae (And.intro af (And.intro E ad));have bf:=ae X;have cs:=ae b3;clear af E L ad X ag be b3;go_wp2_with fail;go_roundw
      case rel=>
       obtain ⟨af,bx,ad⟩:=a9.o;refine ⟨j+1,ns++ [nm],ts++ [⟨m,j⟩],by omega,by go_num,?_,by simp;omega,by show _=_;have:=D.o;simp;omega,?_,?_,?_,(ad.setCell (p:=⟨J,ns.length*2,none⟩) bf.o.1 (.int .i64 m)).setCell (p:=⟨J,ns.length*2+1,none⟩) bf.o.1 (.int .i64 j)⟩
       ·show _=_;rw [bn.o,zhe,<-HP.o,ax.o]
       ·show ∀s∈_,_;intro s hs;rcases List.mem_append.1 hs with hs | hs
        ·exact V.o s hs
        rw [List.mem_singleton]at hs;rw [hs];exact du
       ·rw [List.length_append,show jx (ns++ [nm])=jx ns++ [.string nm] by simp [jx]];refine af.kept (row:=some J) ?_ ?_
        ·exact mf (mf (World.grownBy.refl _ _) _ _ (Or.inl rfl)) _ _ (Or.inl rfl)
        rcases zg8 af bx (by decide)with h | h
        ·exact Or.inl h
        exact Or.inr h
       have:=zg7 (zg7 bx (ns.length*2) (.int .i64 m)) (ns.length*2+1) (.int .i64 j);rw [<-cs.o,zhc (ts++ [(⟨0,0⟩:cg)]) ns.length ⟨m,j⟩,show (ts++ [(⟨0,0⟩:cg)]).set ns.length ⟨m,j⟩=ts++ [⟨m,j⟩] from by rw [<-D.o];exact zoq ts ⟨0,0⟩ ⟨m,j⟩]at this;rw [List.length_append];exact this
      case measure=>simp [intOf];omega
    have HX:Hid ((ns,ts)=((ln.take (k+1)).flatMap (jk l)).foldl ed ([],[])):=by show _=_;rw [bo.o,HP.o,List.take_of_length_le (by rw [bs.o];omega)]
    have cv:=ae F;have cy:=ae A;clear F A;go_wp2_with fail;go_roundw
    case rel=>exact ⟨k+1,ns,ts,by omega,by go_num,HX.o,by omega,D.o,V.o,cv.o,cy.o,I⟩
    case measure=>simp [intOf];omega
  have HX:Hid (ja l n=(ns,ts)):=by show _=_;rw [c0.o,HP.o,List.take_of_length_le (by omega)]
  have SN:=ae ((zha F V.o (by omega)).monoS (M':=MT w.heap.size [9] wr) fun _ hk=>hk.more Z.o.size (fun _ ht=>ht));have ST:=ae ((zhb A (by have:=D.o;omega)).monoT (M':=MT w.heap.size [233] wr) fun _ hk=>hk.more Z.o.size (fun _ ht=>ht));have cr:=ae (Z.o.trans (I.mono Z.o.size));clear F A;go_wp2_with fail
  go_ret2
  exact ⟨cr.o,_,_,rfl,by rw [HX.o];exact SN.o,by rw [HX.o];exact ST.o⟩
end Go.Proofs.YtjdnmblggdobgaaGreat
