import Derived.Test.YtjdnmblggdobgaaGreatJLNoneLSaD
import Derived.Deep.DeepCutAuto
set_option maxHeartbeats 8000000
set_option maxRecDepth 100000
namespace Go.Proofs.YtjdnmblggdobgaaGreat
open Go.RowKit Go.Sort
def bw (l:List am) (s:ByteArray):Int:=match l.findIdx? (fun c=>decide (c.name=s))with | some i=>i | none=>-1
theorem zob {l:List am} {s:ByteArray} {k:Nat} (D:k<l.length) (h:l[k].name=s) (A:∀(j:Nat) (u:j<l.length),j<k->l[j].name≠s):bw l s=k:=by
 have:l.findIdx? (fun c=>decide (c.name=s))=some k:=by rw [List.findIdx?_eq_some_iff_getElem];exact ⟨D,by simp [h],fun j u=>by simp [A j (by omega) u]⟩
 rw [bw,this]
theorem zoc {l:List am} {s:ByteArray} (A:∀(j:Nat) (u:j<l.length),l[j].name≠s):bw l s= -1:=by
 have:l.findIdx? (fun c=>decide (c.name=s))=none:=by rw [List.findIdx?_eq_none_iff];intro c hc;obtain ⟨j,u,rfl⟩:=List.getElem_of_mem hc;simp [A j u]
 rw [bw,this]
theorem zod (l:List am) (s:ByteArray): -1<=bw l s/\bw l s<l.length:=by
 unfold bw;split
 ·rename_i i h;have:=(List.findIdx?_eq_some_iff_getElem.1 h).1;omega
 omega
theorem zoe (w:World) (M:Nat->Prop) (v:Value) (l:List am) (s:ByteArray) (O:SL 4 RC M w v l):
 Calls Tryz.prog 184 #[v,.string s] w fun r w'=>r=.returned (.int .i64 (bw l s))/\w'=w:=by
 have V:=ag O;obtain ⟨ao,cl,rfl,-,hl,-⟩:=O;unfold maxLen at hl;go_enter Tryz.func184,Tryz.ntmps184;go_wp2
 go_loopw [5] (fun i wr=>∃k:Nat,k<=l.length/\i=.int .i64 k/\Hid (∀(j:Nat) (A:j<l.length),j<k->l[j].name≠s)/\wr=w) (fun i _=>l.length - (intOf i).toNat)
 case atStart=>exact ⟨0,n0q _,rfl,(fun j _ h=>by omega),rfl⟩
 case round=>
  obtain ⟨k,hk,rfl,E,rfl⟩:=hrel;by_cases D:k<l.length
  ·obtain ⟨b,off,vf,vm,rfl,hb,e0,W,X,Y,Z,em,I,J⟩:=V.o.atC k D;clear Z em W X Y I J;by_cases u:l[k].name=s
   ·have G:=ag (zob D u E.o);have N:(l[k].name.toList==s.toList)=true:=by rw [u];simp
    clear u;go_wp2
    go_ret;exact ⟨by rw [G.o];rfl,rfl⟩
   have F:Hid (∀(j:Nat) (A:j<l.length),j<k+1->l[j].name≠s):=fun j A h=>by
    by_cases L:j<k
    ·exact E.o j A L
    have:j=k:=by omega
    subst this;exact u
   have N:(l[k].name.toList==s.toList)=false:=by rw [beq_eq_false_iff_ne];exact fun e=>u (zb9 e)
   clear u;go_wp2
   go_roundw
   case rel=>exact ⟨k+1,by omega,by go_num,F.o,trivial⟩
   case measure=>simp [intOf];omega
  have G:=ag (zoc (l:=l) (s:=s) fun j A=>E.o j A (by omega));go_wp2
  go_ret;exact ⟨by rw [G.o];rfl,rfl⟩
def gn (l:List am) (k:ew):Bool:=decide (k.da=(⟨#[]⟩:ByteArray))||decide (0<=bw l k.da)
theorem zof (w:World) (M M':Nat->Prop) (v u:Value) (l:List am) (A:List ew) (X:SL 4 RC M w v l) (W:SL 2 RK M' w u A):
 Calls Tryz.prog 226 #[v,u] w fun r w'=>r=.returned (.bool (A.all (gn l)))/\w'=w:=by
 have Z:=ag X;have Y:=ag W;obtain ⟨ao,cl,rfl,-,hl,-⟩:=X;obtain ⟨au,cu,rfl,-,O,-⟩:=W;unfold maxLen at hl O;go_enter Tryz.func226,Tryz.ntmps226;go_wp2
 go_loopw [5] (fun i wr=>∃k:Nat,k<=A.length/\i=.int .i64 k/\Hid (A.all (gn l)=(A.drop k).all (gn l))/\wr=w) (fun i _=>A.length - (intOf i).toNat)
 case atStart=>exact ⟨0,n0q _,rfl,rfl,rfl⟩
 case round=>
  obtain ⟨k,hk,rfl,N,rfl⟩:=hrel;by_cases L:k<A.length
  ·obtain ⟨b,off,rfl,hb,e0,e1,es⟩:=Y.o.atK k L;have F:Hid ((A.drop k).all (gn l)=(gn l A[k]&&(A.drop (k+1)).all (gn l))):=by
    show _=_;rw [List.drop_eq_getElem_cons L,List.all_cons]
   have E:=ag (zoe wr M _ l A[k].da Z.o);have I:=zod l A[k].da;have G:Hid (gn l A[k]=(decide (A[k].da=(⟨#[]⟩:ByteArray))||decide (0<=bw l A[k].da))):=rfl;generalize A[k]=x at*;generalize bw l x.da=fa at*;have aa:=I.1;have ac:=I.2;clear I e0 es;by_cases J:x.da=⟨#[]⟩
   ·have V:=zcb J;have D:Hid (A.all (gn l)=(A.drop (k+1)).all (gn l)):=N.o.trans (by rw [F.o,G.o];simp [J]);clear J E;go_wp2
    go_roundw
    case rel=>exact ⟨k+1,by omega,by go_num,D.o,trivial⟩
    case measure=>simp [intOf];omega
   have V:x.da.toList.isEmpty=false:=by
    cases hq:x.da.toList with
    | nil=>exact absurd (zca hq) J
    | cons _ _=>rfl
   by_cases hf:fa<0
   ·have D:Hid (A.all (gn l)=false):=N.o.trans (by rw [F.o,G.o];simp [J];omega);clear J;go_wp2_with (first | (go_at_call 184;refine E.o.mono ?_;rintro r w7 ⟨rfl,rfl⟩));go_ret;exact ⟨by rw [D.o];rfl,rfl⟩
   have D:Hid (A.all (gn l)=(A.drop (k+1)).all (gn l)):=N.o.trans (by
    rw [F.o,G.o];have:(0:Int)<=fa:=by omega
    simp [this])
   clear J;go_wp2_with (first | (go_at_call 184;refine E.o.mono ?_;rintro r w7 ⟨rfl,rfl⟩));go_roundw
   case rel=>exact ⟨k+1,by omega,by go_num,D.o,trivial⟩
   case measure=>simp [intOf];omega
  have D:Hid (A.all (gn l)=true):=N.o.trans (by rw [List.drop_of_length_le (by omega)];rfl);go_wp2
  go_ret;exact ⟨by rw [D.o];rfl,rfl⟩
def supF (l:List am) (n:Nat):Int:=bw l (b8 l n).bq
def upF (l:List am):Nat->Int->List Nat->List Nat
 | 0,_,_=>[]
 | f+1,n,out=>if 0<=n then (if l.length<out.length then [] else upF l f (supF l n.toNat) (n.toNat::out)) else out
def nc (l:List am) (n:Nat):List Nat:=upF l (l.length+3) n []
theorem zog (l:List am):∀(f:Nat) (n:Int) (out:List Nat),n<l.length->(∀k∈out,k<l.length)->out.length<=l.length+1->(∀k∈upF l f n out,k<l.length)/\(upF l f n out).length<=l.length+1
 | 0,_,_,_,_,_=>⟨(fun k u=>by cases u),by simp [upF]⟩
 | f+1,n,out,hn,ho,hl=>by
   rw [upF];split
   ·split
    ·exact ⟨(fun k u=>by cases u),by simp⟩
    exact zog l f _ _ (zod l _).2 (fun k u=>by
     rcases List.mem_cons.1 u with rfl | u
     ·omega
     exact ho k u) (by simp;omega)
   exact ⟨ho,hl⟩
theorem zoh {l:List am} {n:Nat} (A:n<l.length):(∀k∈nc l n,k<l.length)/\(nc l n).length<=l.length+1:=
 zog l _ n [] (by omega) (fun k u=>by cases u) (by simp)
theorem zoi (ns:List Nat):(ints ns).length=ns.length:=by simp [ints]
theorem zoj (ns:List Nat):∀u∈ints ns,u.oneCell'=true:=by intro u A;obtain ⟨x,_,rfl⟩:=List.mem_map.1 A;rfl
theorem zok {w:World} {B:Nat} {v:Value} {ns:List Nat} (h:w.ownsRow B 3 1 v ns.length (ints ns)) (D:ns.length<=1000):SL 1 RO (MT B [3] w) w v ns:=by
 have u:(ns.map fun x:Nat=>([Value.int .i64 (x:Int)],x)).length=ns.length:=by simp
 have A:(ns.map fun x:Nat=>([Value.int .i64 (x:Int)],x)).flatMap (·.1)=ints ns:=by
  rw [List.flatMap_map,ints];clear h D u;induction ns with
  | nil=>rfl
  | cons x r ih=>rw [List.flatMap_cons,ih];rfl
 have:=ze4 (n:=1) (R:=RO) (T:=[3]) (zs:=ns.map fun x:Nat=>([Value.int .i64 (x:Int)],x)) (by rw [u,A];exact h) (fun z u=>by
  obtain ⟨s,E,rfl⟩:=List.mem_map.1 u;exact ⟨rfl,rfl⟩) (by simp) (by rw [u];unfold maxLen;omega)
 rwa [List.map_map,show ((·.2)∘fun x:Nat=>([Value.int .i64 (x:Int)],x))=id from rfl,List.map_id]at this
theorem zol {w:World} {B g cap:Nat} {ns:List Nat} (h:w.ownsRow B 3 1 (.slice (some ⟨g,0,none⟩) ns.length cap) ns.length (ints ns)):∀j u,(ints ns)[j]? =some u->w.cell? ((⟨g,0,none⟩:Addr).add j)=some u:=by
 intro j u A;rcases h.2 with ⟨e,_⟩ | ⟨G,D,E,e,_,I,_,_,_,J⟩
 ·cases (Value.slice.inj e).1
 obtain ⟨F,_,_⟩:=Value.slice.inj e;obtain rfl:g=G:=by simpa using F
 rw [zg1];simp only [World.cell?,I,Nat.zero_add];rw [<-J]at A;rw [List.getElem?_take]at A;split at A
 ·simpa using A
 cases A
theorem zom (w:World) (B:Nat) (v:Value) (l:List am) (n:Nat) (hn:n<l.length) (hv:SL 4 RC (· <B) w v l) (hB:B<=w.heap.size) (hN:l.length<=10):
 Calls Tryz.prog 225 #[v,.int .i64 n] w fun r w'=>Below w.heap.size w w'/\∃u,r=.returned u/\SL 1 RO (MT w.heap.size [3] w') w' u (nc l n):=by
 obtain ⟨iI,af,ai,aj,ak⟩:=info_parts Tryz.infoInt;have HV:=ag hv;obtain ⟨ao,cl,rfl,-⟩:=hv;go_enter Tryz.func225,Tryz.ntmps225;go_wp2_with fail;go_loopg [1,5] (l.length+3) (fun f i v wr=>∃(A:List Nat) (m:Int),i=.int .i64 m/\ -1<=m/\m<l.length/\A.length+f=l.length+3/\A.length<=l.length+1/\Hid (nc l n=upF l f m A)/\wr.ownsRow w.heap.size 3 1 v A.length (ints A)/\Below w.heap.size w wr)
 case atStart=>exact ⟨[],n,rfl,by omega,by omega,by simp,by simp,rfl,World.ownsRow_nil _ _ _ _,br _ _⟩
 case round=>
  rename Nat=>f
  obtain ⟨A,m,rfl,az,a0,hf,a1,HP,D,G⟩:=hrel;obtain ⟨a5,c5,rfl⟩:=kh D;have O:=G.size;obtain ⟨f',rfl⟩:∃f',f=f'+1:=⟨f - 1,by omega⟩;by_cases h0:0<=m
  ·by_cases hx:l.length<A.length
   ·have HR:Hid (nc l n= []):=HP.o.trans (by rw [upF,if_pos h0,if_pos hx]);have ap:(l.length:Int)<A.length:=by omega
    clear D;go_wp2_with fail;go_ret;exact ⟨G,_,rfl,by rw [HR.o];exact ⟨none,0,rfl,nlq _,by unfold maxLen;simp,fun k hk=>by cases hk⟩⟩
   have ap:¬(l.length:Int)<A.length:=by omega
   have ac:Hid (nc l n=upF l f' (supF l m.toNat) (m.toNat::A)):=HP.o.trans (by rw [upF,if_pos h0,if_neg hx]);obtain ⟨E,rfl⟩:=Int.eq_ofNat_of_zero_le h0;have N:E<l.length:=by omega
   have av:=ag D;have aa:Hid ((wr.alloc (.cells #[.int .i64 (E:Int)] 3)).ownsRow w.heap.size 3 1 (.slice (some ⟨wr.heap.size,0,none⟩) 1 1) 1 [.int .i64 (E:Int)]):=
    ⟨rfl,Or.inr ⟨wr.heap.size,1,#[.int .i64 (E:Int)],rfl,O,heap_alloc_new wr _,nlq _,by unfold maxLen;omega,rfl,rfl⟩⟩
   have L:=ag (zod l (b8 l E).bq);have ax:(0:Int)<=E:=by omega
   have ay:(E:Int)<l.length:=by omega
   by_cases h5:A.length=0
   ·have ad:A= []:=List.eq_nil_of_length_eq_zero h5;have HO:=ag ad;have F:Below w.heap.size w (wr.alloc (.cells #[.int .i64 (E:Int)] 3)):=G.alloc O _;obtain ⟨b,off,vf,vm,rfl,hb,e0,e1,e2,e3,ef,em,Y,Z⟩:=(HV.o.keptC (Kp.below (F.mono hB))).atC E N;clear ef em e0 e2 e3 Y;have W:=ag (zoe (wr.alloc (.cells #[.int .i64 (E:Int)] 3)) (· <B) _ l l[E].bq (HV.o.keptC (Kp.below (F.mono hB))));have al:=ag F;rw [h5];clear D h5 ad F Z;go_wp2_with (first | (at_builtin;refine zf9 _ rfl _ _ 22 rfl 3 iI Tryz.underlying22 af (some ⟨wr.heap.size,0,none⟩) 1 1 rfl (by decide) (Or.inr ⟨_,rfl⟩) a5 c5 rfl ?_) | (go_at_call 184;refine W.o.mono ?_;rintro r w7 ⟨rfl,rfl⟩))
    go_roundg f'
    case measure=>omega
    case rel=>exact ⟨[E],supF l E,(by rw [supF,zay N]),L.o.1,L.o.2,by have:=HO.o;subst this;simp at hf ⊢;omega,by simp,by have:=HO.o;subst this;exact ac.o,aa.o,al.o⟩
   obtain ⟨g,cap,ah,aw,ar⟩:=D.form (by omega);obtain ⟨rfl,-,rfl⟩:=Value.slice.inj ah;have X:Hid (∀j u,(ints A)[j]? =some u->(wr.alloc (.cells #[.int .i64 (E:Int)] 3)).cell? ((⟨g,0,none⟩:Addr).add j)=some u):=zol (D.alloc _);have I:Hid (1+A.length<=maxLen/\(1+A.length)*8<=140737488355328/\w.heap.size<=(wr.alloc (.cells #[.int .i64 (E:Int)] 3)).heap.size/\(ints A).length=A.length*1/\0<A.length):=⟨by unfold maxLen;omega,by omega,by simp;omega,by rw [zoi];omega,by omega⟩;have an:=ag G;clear D h5 ah G
   go_upto_region 6 with (at_builtin;refine wpList_append_lies _ rfl _ _ 22 rfl w.heap.size 3 iI (.int .i64 0) 1 8 Tryz.underlying22 af ai aj ak rfl (by decide) (.slice (some ⟨wr.heap.size,0,none⟩) 1 1) 1 [.int .i64 (E:Int)] rfl aa.o ⟨g,0,none⟩ A.length c5 (ints A) rfl I.o.2.2.2.1 X.o (zoj _) I.o.2.2.2.2 I.o.1 I.o.2.1 I.o.2.2.1 _ rfl ?_;intro g1 aq w1 J V ae au;have F:Below w.heap.size w w1:=(an.o.alloc O _).grown V (by simp;omega) (fun k e=>by cases e;exact O);have HX:=ag (And.intro J F);clear J V ae F)
   obtain ⟨b,off,vf,vm,rfl,hb,e0,e1,e2,e3,ef,em,Y,Z⟩:=(HV.o.keptC (Kp.below (HX.o.2.mono hB))).atC E N;clear ef em e0 e2 e3 Y;have W:=ag (zoe w1 (· <B) _ l l[E].bq (HV.o.keptC (Kp.below (HX.o.2.mono hB))));clear Z;go_wp2_with (first | (go_at_call 184;refine W.o.mono ?_;rintro r w7 ⟨rfl,rfl⟩))
   go_roundg f'
   case measure=>omega
   case rel=>exact ⟨E::A,supF l E,(by rw [supF,zay N]),L.o.1,L.o.2,by simp;omega,by simp;omega,ac.o,by have:=HX.o.1;rw [List.length_cons,Nat.add_comm A.length 1];exact this,HX.o.2⟩
  have HR:Hid (nc l n=A):=HP.o.trans (by rw [upF,if_neg h0]);have SV:=ag (zok D (by omega));clear D;go_wp2_with fail;go_ret;exact ⟨G,_,rfl,by rw [HR.o];exact SV.o⟩
def ki (l:List am) (n:Nat):List bo:=(nc l n).flatMap fun k=>(b8 l k).fields
theorem zon (w:World) (B:Nat) (v:Value) (l:List am) (n:Nat) (hn:n<l.length) (hv:SL 4 RC (· <B) w v l) (hB:B<=w.heap.size) (hN:l.length<=10) (hF:∀c∈l,c.fields.length<=6):
 Calls Tryz.prog 182 #[v,.int .i64 n] w fun r w'=>Below w.heap.size w w'/\∃u,r=.returned u/\SL 3 RF (MT w.heap.size [125] w') w' u (ki l n):=by
 obtain ⟨iF,aj,an,ap,aq⟩:=info_parts Tryz.infoField;have HC:=ag hv;obtain ⟨ao,cl,rfl,-⟩:=hv;obtain ⟨ak,bh⟩:=zoh hn;have HU:=ag (zom w B _ l n hn HC.o hB hN);have ay:Hid (ki l n=(nc l n).flatMap fun k=>(b8 l k).fields):=rfl;generalize nc l n=ln at*;have HK:=ag ak;have ax:=ag hF;clear ak hF;go_enter Tryz.func182,Tryz.ntmps182;go_wp2_with (first | (go_at_call 225;refine HU.o.mono ?_;rintro r w0 ⟨ah,u0,rfl,au⟩;have HI:=ag au;have O:=ag ah;obtain ⟨aI,cI,rfl,-⟩:=au;clear ah));go_loopw [5,7] (fun v i wr=>∃(k:Nat) (fs:List bo),k<=ln.length/\i=.int .i64 k/\Hid (fs=(ln.take k).flatMap fun k=>(b8 l k).fields)/\fs.length<=6*k/\Hid (∀f∈fs,f.name.size<=maxLen/\f.kind.da.size<=maxLen)/\wr.ownsRow w0.heap.size 125 3 v fs.length (fs.flatMap ib)/\Below w0.heap.size w0 wr) (fun _ i _=>ln.length - (intOf i).toNat)
 case atStart=>exact ⟨0,[],n0q _,rfl,rfl,by simp,(fun f F=>by cases F),World.ownsRow_nil _ _ _ _,br _ _⟩
 case round=>
  obtain ⟨k,fs,hk,rfl,HP,bg,X,A,E⟩:=hrel;obtain ⟨a5,c5,rfl⟩:=kh A;have al:=E.size;have G:Below w.heap.size w wr:=O.o.trans (E.mono O.o.size);by_cases Y:k<ln.length
  ·obtain ⟨bi,oi,rfl,a6,ei⟩:=HI.o.atO k Y;have a1:=(E.cell (p:=⟨bi,oi+k,none⟩) a6).trans ei;have I:=HK.o ln[k] (gm Y);obtain ⟨bc,oc,vf,vm,rfl,a9,e0,e1,e2,e3,ef,em,a2,a3⟩:=(HC.o.keptC (Kp.below (G.mono hB))).atC ln[k] I;have bb:=ax.o l[ln[k]] (gm I);have aw:Hid (b8 l ln[k]=l[ln[k]]):=zay I;obtain ⟨m,hm⟩:∃m,m=ln[k]:=⟨_,rfl⟩;generalize hcc:l[ln[k]]=cc at*;clear hcc;rw [<-hm]at a1 e0 e1 e2 e3 I;have bk:(0:Int)<=m:=by omega
   have bl:(m:Int)<l.length:=by omega
   have EF:=ag ef;obtain ⟨fo,cf,rfl,-⟩:=ef;have W:=ag A;have N:∀f∈cc.fields,f.name.size<=maxLen/\f.kind.da.size<=maxLen:=by intro f F;obtain ⟨q,hq,rfl⟩:=List.getElem_of_mem F;obtain ⟨_,_,_,_,_,_,_,h1,h2⟩:=EF.o.atF q hq;exact ⟨h1,h2⟩
   have a0:=ag N;have ad:Hid ((ln.take (k+1)).flatMap (fun k=>(b8 l k).fields)=fs++cc.fields):=by show _=_;rw [List.take_succ_eq_append_getElem Y,List.flatMap_append,<-HP.o];simp [aw.o]
   clear hm ei N em a2 a3 e0 e1 e3;have ac:=ag E;clear G E;by_cases h0:cc.fields= []
   ·have az:=ag h0;rw [h0]at e2;clear h0;obtain ⟨ai,ae⟩:=zga A;go_wp2_with (at_builtin;refine zf9 _ rfl _ _ 126 rfl 125 iF Tryz.underlying126 aj a5 fs.length c5 rfl ai ae fo cf rfl ?_);clear ae ai;go_wp2_with fail;go_roundw
    case rel=>exact ⟨k+1,fs,by omega,by go_num,by show _=_;have:=ad.o;rw [az.o,List.append_nil]at this;exact this.symm,by omega,X.o,W.o,ac.o⟩
    case measure=>simp [intOf];omega
   have L:0<cc.fields.length:=List.length_pos_iff.2 h0;obtain ⟨bf,of,a7⟩:∃bf of,fo=some ⟨bf,of,none⟩:=by obtain ⟨bf,of,e,_⟩:=EF.o.atF 0 L;exact ⟨bf,of,e⟩
   subst a7;have V:Hid (∀j u,(cc.fields.flatMap ib)[j]? =some u->wr.cell? ((⟨bf,of,none⟩:Addr).add j)=some u):=zg2 ib (by decide) (fun x _=>rfl) (fun _ _ h=>h.1) EF.o;have aa:Hid (fs.length+cc.fields.length<=maxLen/\(fs.length+cc.fields.length)*40<=140737488355328):=⟨by unfold maxLen;omega,by omega⟩;clear h0;go_wp2_with (at_builtin;refine wpList_append_lies _ rfl _ _ 126 rfl w0.heap.size 125 iF (.agg #[.string ⟨#[]⟩,.int .i64 0,.string ⟨#[]⟩]) 3 40 Tryz.underlying126 aj an ap aq rfl (by decide) (.slice a5 fs.length c5) fs.length (fs.flatMap ib) rfl W.o ⟨bf,of,none⟩ cc.fields.length cf (cc.fields.flatMap ib) rfl zg3 V.o (zg4 _) L aa.o.1 aa.o.2 al _ rfl ?_);intro g cap w1 D J af a8;have HX:=ag (And.intro D (ac.o.grown J al (fun k e=>(W.o.lt k e).1)));clear D J af A;go_wp2_with fail;go_roundw
   case rel=>
    obtain ⟨D,a4⟩:=HX.o;refine ⟨k+1,fs++cc.fields,by omega,by go_num,ad.o.symm,by simp;omega,?_,?_,a4⟩
    ·show ∀f∈_,_;intro f F;rcases List.mem_append.1 F with F | F
     ·exact X.o f F
     exact a0.o f F
    rw [List.length_append,List.flatMap_append];exact D
   case measure=>simp [intOf];omega
  have HX:Hid (ki l n=fs):=by show _=_;rw [ay.o,HP.o,List.take_of_length_le (by omega)]
  have Z:(fs.map fun f=>(ib f,f)).length=fs.length:=by simp
  have ar:(fs.map fun f=>(ib f,f)).flatMap (·.1)=fs.flatMap ib:=by rw [List.flatMap_map]
  have sv:=ze4 (n:=3) (R:=RF) (T:=[125]) (zs:=fs.map fun f=>(ib f,f)) (by rw [Z,ar];exact A) (fun z hz=>by
   obtain ⟨f,F,rfl⟩:=List.mem_map.1 hz;exact ⟨rfl,rfl,X.o f F⟩) (by simp) (by rw [Z];unfold maxLen;omega)
  have SV:=ag (sv.monoF (M':=MT w.heap.size [125] wr) fun _ hk=>hk.more O.o.size (fun _ ht=>ht));have av:=ag G;clear Z ar A sv G E;go_wp2_with fail;go_ret;exact ⟨av.o,_,rfl,by rw [HX.o];have:=SV.o;rwa [List.map_map,show ((·.2)∘fun f:bo=>(ib f,f))=id from rfl,List.map_id]at this⟩
def ji (l:List am) (n:Nat):List ByteArray×List cd:=((nc l n).flatMap (js l)).foldl ed ([],[])
theorem zoo {l:List ByteArray} {s:ByteArray} {k:Nat} (D:k<l.length) (h:l[k]=s) (A:∀(j:Nat) (u:j<l.length),j<k->l[j]≠s):iu l s=k:=by
 have:l.findIdx? (fun x=>decide (x=s))=some k:=by rw [List.findIdx?_eq_some_iff_getElem];exact ⟨D,by simp [h],fun j u=>by simp [A j (by omega) u]⟩
 rw [iu,this]
theorem zop {l:List ByteArray} {s:ByteArray} (A:∀(j:Nat) (u:j<l.length),l[j]≠s):iu l s= -1:=by
 have:l.findIdx? (fun x=>decide (x=s))=none:=by rw [List.findIdx?_eq_none_iff];intro c hc;obtain ⟨j,u,rfl⟩:=List.getElem_of_mem hc;simp [A j u]
 rw [iu,this]
theorem zoq (ts:List cd) (t u:cd):(ts++ [t]).set ts.length u=ts++ [u]:=by simp
theorem zor (w:World) (B:Nat) (v:Value) (l:List am) (n:Nat) (hn:n<l.length) (hv:SL 4 RC (· <B) w v l) (hB:B<=w.heap.size) (hN:l.length<=10) (hF:∀c∈l,c.ar.length<=8):
 Calls Tryz.prog 183 #[v,.int .i64 n] w fun r w'=>Below w.heap.size w w'/\∃v u,r=.returned (.tuple #[v,u])/\SL 1 RS (MT w.heap.size [9] w') w' v (ji l n).1/\SL 2 RT (MT w.heap.size [233] w') w' u (ji l n).2:=by
 obtain ⟨iS,c3,ca,cc,ce⟩:=info_parts Tryz.infoStr;obtain ⟨iT,c4,cf,ch,ci⟩:=info_parts Tryz.infoTarg;have HC:=ag hv;obtain ⟨ao,cl,rfl,-⟩:=hv;obtain ⟨b5,d5⟩:=zoh hn;have HU:=ag (zom w B _ l n hn HC.o hB hN);have cx:Hid (ji l n=((nc l n).flatMap (js l)).foldl ed ([],[])):=rfl;generalize nc l n=ln at*;have HK:=ag b5;have cr:=ag hF;clear b5 hF;go_enter Tryz.func183,Tryz.ntmps183;go_wp2_with (first | (go_at_call 225;refine HU.o.mono ?_;rintro r O ⟨bs,u0,rfl,cj⟩;have HI:=ag cj;have Z:=ag bs;obtain ⟨aI,cI,rfl,-⟩:=cj;clear bs));go_loopw [6,7,9] (fun v u i wr=>∃(k:Nat) (ns:List ByteArray) (ts:List cd),k<=ln.length/\i=.int .i64 k/\Hid ((ns,ts)=((ln.take k).flatMap (js l)).foldl ed ([],[]))/\ns.length<=8*k/\Hid (ts.length=ns.length)/\Hid (∀s∈ns,s.size<=maxLen)/\
  wr.ownsRow O.heap.size 9 1 v ns.length (ko ns)/\wr.ownsRow O.heap.size 233 2 u ts.length (ts.flatMap ie)/\Below O.heap.size O wr) (fun _ _ i _=>ln.length - (intOf i).toNat)
 case atStart=>exact ⟨0,[],[],n0q _,rfl,rfl,by simp,rfl,(fun f hf=>by cases hf),World.ownsRow_nil _ _ _ _,World.ownsRow_nil _ _ _ _,br _ _⟩
 case round=>
  obtain ⟨k,ns,ts,hk,rfl,HP,b2,D,V,F,A,I⟩:=hrel;obtain ⟨a6,c6,rfl⟩:=kh F;obtain ⟨a7,c7,rfl⟩:=kh A;have a2:=I.size;by_cases a0:k<ln.length
  ·obtain ⟨bi,oi,rfl,bx,ei⟩:=HI.o.atO k a0;have a1:=HK.o ln[k] (gm a0);have bl:=Z.o;obtain ⟨bc,oc,vf,vm,rfl,bu,e0,e1,e2,e3,ef,em,cy,c0⟩:=(HC.o.keptC (Kp.below (bl.mono hB))).atC ln[k] a1;have b0:=cr.o l[ln[k]] (gm a1);have bh:Hid ((ln.take (k+1)).flatMap (js l)=(ln.take k).flatMap (js l)++js l ln[k]):=by
    show _=_;rw [List.take_succ_eq_append_getElem a0,List.flatMap_append];simp
   clear e0 e1 e2 ef cy c0 bl;rw [<-zay a1]at em b0;obtain ⟨mo,cm,rfl,-⟩:=id em;have cn:=ag em;have aj:=ag (And.intro bx ei);have a4:=ag (And.intro bu e3);clear em bx ei bu e3;generalize ln[k]=m at*;have bk:=ag (zhg l m);generalize hms:(b8 l m).ar=ms at*;have bb:=ag hms;clear hms;have d8:(0:Int)<=m:=by omega
   have ea:(m:Int)<l.length:=by omega
   obtain ⟨PK,ay⟩:∃PK,PK=(ln.take k).flatMap (js l):=⟨_,rfl⟩;rw [<-ay]at HP bh;have du:=ag ay;clear ay;go_wp2_with fail;go_loopw [6,7,10] (fun v u i N=>∃(j:Nat) (ns:List ByteArray) (ts:List cd),j<=ms.length/\i=.int .i64 j/\Hid ((ns,ts)=(PK++(js l m).take j).foldl ed ([],[]))/\ns.length<=8*k+j/\Hid (ts.length=ns.length)/\Hid (∀s∈ns,s.size<=maxLen)/\
    N.ownsRow O.heap.size 9 1 v ns.length (ko ns)/\N.ownsRow O.heap.size 233 2 u ts.length (ts.flatMap ie)/\Below O.heap.size O N) (fun _ _ i _=>ms.length - (intOf i).toNat)
   case atStart=>exact ⟨0,ns,ts,n0q _,rfl,by show _=_;rw [List.take_zero,List.append_nil];exact HP.o,by omega,D.o,V.o,F,A,I⟩
   case round=>
    clear F A I HP V b2 D a2
    rename World=>N
    obtain ⟨j,ns,ts,hj,rfl,HP,b2,D,V,F,A,I⟩:=hrel;obtain ⟨a6,c6,rfl⟩:=kh F;obtain ⟨a7,c7,rfl⟩:=kh A;have a2:=I.size;have ei:=(I.cell (p:=⟨bi,oi+k,none⟩) aj.o.1).trans aj.o.2;have e3:=(I.cell (p:=⟨bc,oc+m*4+3,none⟩) a4.o.1).trans a4.o.2;by_cases az:j<ms.length
    ·obtain ⟨bm,om,va,vh,c8,d2,q0,q1,q2,q3,q4,q5,q6,q7,q8,sa,sh,dk,eg,eh⟩:=(cn.o.keptM (Kp.below (B:=B) (I.mono (lt3 hB Z.o.size)))).atM j az;subst c8;have bg:Hid (PK++(js l m).take (j+1)=(PK++(js l m).take j)++ [(ms[j].name,⟨m,j⟩)]):=by
      show _=_;have b4:j<(js l m).length:=by rw [bk.o];exact az
      rw [List.take_succ_eq_append_getElem b4,List.append_assoc,zhh l m j b4 (by rw [bb.o];exact az)];congr 3;simp [bb.o]
     have aa:=ag F;have G:=ag A;have a3:=ag I;generalize hmj:ms[j].name=nm at*;have SN:Hid (SL 1 RS (MT O.heap.size [9] N) N (.slice a6 ns.length c6) ns):=zha F V.o (by omega);clear F A hmj sa sh q1 q2 q3 q4 q5 q6 q7 q8 I;go_wp2_with fail;go_loopw [12] (fun i wx=>∃q:Nat,q<=ns.length/\i=.int .i64 q/\Hid (∀(j:Nat) (hj:j<ns.length),j<q->ns[j]≠nm)/\wx=N) (fun i _=>ns.length - (intOf i).toNat)
     case atStart=>exact ⟨0,n0q _,rfl,(fun j _ h=>by omega),rfl⟩
     case round=>
      obtain ⟨q,hq,rfl,HQ,rfl⟩:=hrel
      rename World=>N
      by_cases Y:q<ns.length
      ·obtain ⟨b6,o6,rfl,d1,d6,_⟩:=SN.o.atS q Y;by_cases hs:ns[q]=nm
       ·have dd:(ns[q].toList==nm.toList)=true:=by rw [hs];simp
        have ak:=zoo Y hs HQ.o;have av:Hid (ed (ns,ts) (nm,⟨m,j⟩)=(ns,ts.set q ⟨m,j⟩)):=by
         show _=_;have h0:0<=iu ns nm:=by omega
         rw [ed,if_pos h0];show (ns,ts.set (iu ns nm).toNat _)=_;rw [ak];rfl
        clear hs ak HQ;obtain ⟨J,c2,dl⟩:∃J,a7=some ⟨J,0,none⟩/\ts.length<=c7:=by
         obtain ⟨h1,h2⟩:=zga G.o;rcases h2 with rfl | ⟨g,rfl⟩
         ·rcases G.o.2 with ⟨e,h0⟩ | ⟨g,_,_,e,_⟩
          ·have:=D.o;omega
          cases e
         exact ⟨g,rfl,h1⟩
        subst c2;have X:=G.o.lt J rfl;have k0:N.cell? ⟨J,q*2,none⟩=(ts.flatMap ie)[q*2]? :=G.o.cellAt _ (by have:=D.o;omega);have k1:N.cell? ⟨J,q*2+1,none⟩=(ts.flatMap ie)[q*2+1]? :=G.o.cellAt _ (by have:=D.o;omega);have al:q<ts.length:=by have:=D.o;omega
        have ec:N.cell? ⟨J,q*2,none⟩=some (.int .i64 (ts[q]).da):=by rw [k0];have:=ze3 (n:=2) ie ts q 0 (fun _ _=>rfl) al (by decide);simpa [ie]using this
        have ee:N.cell? ⟨J,q*2+1,none⟩=some (.int .i64 (ts[q]).meth):=by rw [k1];have:=ze3 (n:=2) ie ts q 1 (fun _ _=>rfl) al (by decide);simpa [ie]using this
        obtain ⟨W,af⟩:∃W,N.heap[J]? =some (.cells W 233 (0,0)):=by
         rcases G.o.2 with ⟨e,_⟩ | ⟨g,_,ax,e,_,hb,_⟩
         ·cases e
         cases e;exact ⟨ax,hb⟩
        have z0:∀q,N.frozen? ⟨J,q,none⟩=false:=fun q=>by simp [World.frozen?,af]
        have df:(0:Int)<=q:=by omega
        have dg:(q:Int)<ts.length:=by have:=D.o;omega
        have b7:(q:Int)<ns.length:=by omega
        have eb:¬(q:Int)=ns.length:=by omega
        have b3:J<N.heap.size:=X.2;clear k0 k1 af;go_wp2_with fail;go_roundw
        case rel=>
         have ac:=(a3.o.setCell (p:=⟨J,q*2,none⟩) X.1 (.int .i64 m)).setCell (p:=⟨J,q*2+1,none⟩) X.1 (.int .i64 j);refine ⟨j+1,ns,ts.set q ⟨m,j⟩,by omega,by go_num,?_,by omega,by show _=_;have:=D.o;simpa using this,V.o,?_,?_,ac⟩
         ·show _=_;rw [bg.o,zhe,<-HP.o,av.o]
         ·refine aa.o.kept (row:=some J) ?_ ?_
          ·exact nh (nh (World.grownBy.refl _ _) _ _ (Or.inl rfl)) _ _ (Or.inl rfl)
          rcases zg8 aa.o G.o (by decide)with h | h
          ·exact Or.inl h
          exact Or.inr h
         have:=zg7 (zg7 G.o (q*2) (.int .i64 m)) (q*2+1) (.int .i64 j);rw [zhc ts q ⟨m,j⟩]at this;rw [List.length_set];exact this
        case measure=>simp [intOf];omega
       have cu:Hid (∀(j:Nat) (hj:j<ns.length),j<q+1->ns[j]≠nm):=fun j hj h=>by
        by_cases c5:j<q
        ·exact HQ.o j hj c5
        have:j=q:=by omega
        subst this;exact hs
       have dd:(ns[q].toList==nm.toList)=false:=by rw [beq_eq_false_iff_ne];exact fun e=>hs (zb9 e)
       have b7:(q:Int)<ns.length:=by omega
       clear hs;go_wp2_with fail;go_roundw
       case rel=>exact ⟨q+1,by omega,by go_num,cu.o,trivial⟩
       case measure=>simp [intOf];omega
      have c9:q=ns.length:=by omega
      subst c9;have c1:=zop (l:=ns) (s:=nm) fun j hj=>HQ.o j hj hj;have av:Hid (ed (ns,ts) (nm,⟨m,j⟩)=(ns++ [nm],ts++ [⟨m,j⟩])):=by show _=_;rw [ed,if_neg (by show ¬ 0<=iu ns nm;omega)]
      have aq:Hid (ns.length+1<=maxLen/\(ns.length+1)*16<=140737488355328/\O.heap.size<=(N.alloc (.cells #[.string nm] 9)).heap.size):=⟨by unfold maxLen;omega,by omega,by simp;omega⟩;have an:∀q,(Value.slice a6 ns.length c6).ownBlock=some q->O.heap.size<=q/\q<N.heap.size:=fun q e=>aa.o.lt q e;have cs:=ag an;clear c1 HQ Y hq SN q0 an;go_wp2_with (at_builtin;refine wpList_append_lies _ rfl _ _ 225 rfl O.heap.size 9 iS (.string ⟨#[]⟩) 1 16 Tryz.underlying225 c3 ca cc ce rfl (by decide) (.slice a6 ns.length c6) ns.length (ko ns) rfl (aa.o.alloc _) ⟨N.heap.size,0,none⟩ 1 1 [.string nm] rfl rfl (World.news_of_block (heap_alloc_new N _)) (by intro u hu;simp at hu;subst hu;rfl) (by omega) aq.o.1 aq.o.2.1 aq.o.2.2 _ rfl ?_);intro g6 dz w3 ai ah _ Y;have bn:=(G.o.alloc (.cells #[.string nm] 9)).kept ah (zg8 G.o aa.o (by decide));have ac:Below O.heap.size O w3:=(a3.o.alloc a2 _).grown ah (by simp;omega) (fun q e=>(cs.o q e).1);have au:Hid (ts.length+1<=maxLen/\(ts.length+1)*16<=140737488355328/\O.heap.size<=(w3.alloc (.cells #[.int .i64 0,.int .i64 0] 233)).heap.size):=⟨by have:=D.o;unfold maxLen;omega,by have:=D.o;omega,by have:=ac.size;simp;omega⟩;have aw:=ag bn;have bf:=ag ai;have ap:=ag ac;clear ai ah bn ac ei e3
      go_upto_region 16 with (at_builtin;refine wpList_append_lies _ rfl _ _ 226 rfl O.heap.size 233 iT (.agg #[.int .i64 0,.int .i64 0]) 2 16 Tryz.underlying226 c4 cf ch ci rfl (by decide) (.slice a7 ts.length c7) ts.length (ts.flatMap ie) rfl (aw.o.alloc _) ⟨w3.heap.size,0,none⟩ 1 1 [.int .i64 0,.int .i64 0] rfl rfl (World.news_of_block (heap_alloc_new w3 _)) (by intro u hu;simp at hu;subst hu;rfl) (by omega) au.o.1 au.o.2.1 au.o.2.2 _ rfl ?_;intro J d0 w4 E L _ ds;have a8:=ag (And.intro E L);clear E L)
      obtain ⟨E,L⟩:=a8.o;have ae:=(bf.o.alloc (.cells #[.int .i64 0,.int .i64 0] 233)).kept L (zg8 bf.o aw.o (by decide));have ad:Below O.heap.size O w4:=(ap.o.alloc ap.o.size _).grown L (by have:=ap.o.size;simp;omega) (fun q e=>(aw.o.lt q e).1);have ei:=(ad.cell (p:=⟨bi,oi+k,none⟩) aj.o.1).trans aj.o.2;have X:=E.lt J rfl;have b1:((ts++ [(⟨0,0⟩:cd)]).flatMap ie)=ts.flatMap ie++ [.int .i64 0,.int .i64 0]:=by rw [List.flatMap_append];rfl
      have d3:w4.cell? ⟨J,ns.length*2,none⟩=some (.int .i64 0):=by have:=E.cellAt (ns.length*2) (by have:=D.o;omega);rw [this,<-D.o,List.getElem?_append_right (by rw [tlen];omega),tlen];simp
      have d4:w4.cell? ⟨J,ns.length*2+1,none⟩=some (.int .i64 0):=by have:=E.cellAt (ns.length*2+1) (by have:=D.o;omega);rw [this,<-D.o,List.getElem?_append_right (by rw [tlen];omega),tlen,show ts.length*2+1 - ts.length*2=1 by omega];rfl
      obtain ⟨W,af⟩:∃W,w4.heap[J]? =some (.cells W 233 (0,0)):=by
       rcases E.2 with ⟨e,_⟩ | ⟨g,_,ax,e,_,hb,_⟩
       ·cases e
       cases e;exact ⟨ax,hb⟩
      have z0:∀q,w4.frozen? ⟨J,q,none⟩=false:=fun q=>by simp [World.frozen?,af]
      have b3:J<w4.heap.size:=X.2;have df:(0:Int)<=ns.length:=by omega
      have dg:(ns.length:Int)<(ts.length:Int)+1:=by have:=D.o;omega
      have b7:(ns.length:Int)<((ts.length+1:Nat):Int):=by have:=D.o;omega
      have a5:=ag (And.intro ae (And.intro E ad));have a9:=ag X;have cp:=ag b1;clear ae E L ad X af a8 b1;go_wp2_with fail;go_roundw
      case rel=>
       obtain ⟨ae,bq,ad⟩:=a5.o;refine ⟨j+1,ns++ [nm],ts++ [⟨m,j⟩],by omega,by go_num,?_,by simp;omega,by show _=_;have:=D.o;simp;omega,?_,?_,?_,(ad.setCell (p:=⟨J,ns.length*2,none⟩) a9.o.1 (.int .i64 m)).setCell (p:=⟨J,ns.length*2+1,none⟩) a9.o.1 (.int .i64 j)⟩
       ·show _=_;rw [bg.o,zhe,<-HP.o,av.o]
       ·show ∀s∈_,_;intro s hs;rcases List.mem_append.1 hs with hs | hs
        ·exact V.o s hs
        rw [List.mem_singleton]at hs;rw [hs];exact dk
       ·rw [List.length_append,show ko (ns++ [nm])=ko ns++ [.string nm] by simp [ko]];refine ae.kept (row:=some J) ?_ ?_
        ·exact nh (nh (World.grownBy.refl _ _) _ _ (Or.inl rfl)) _ _ (Or.inl rfl)
        rcases zg8 ae bq (by decide)with h | h
        ·exact Or.inl h
        exact Or.inr h
       have:=zg7 (zg7 bq (ns.length*2) (.int .i64 m)) (ns.length*2+1) (.int .i64 j);rw [<-cp.o,zhc (ts++ [(⟨0,0⟩:cd)]) ns.length ⟨m,j⟩,show (ts++ [(⟨0,0⟩:cd)]).set ns.length ⟨m,j⟩=ts++ [⟨m,j⟩] from by rw [<-D.o];exact zoq ts ⟨0,0⟩ ⟨m,j⟩]at this;rw [List.length_append];exact this
      case measure=>simp [intOf];omega
    have HX:Hid ((ns,ts)=((ln.take (k+1)).flatMap (js l)).foldl ed ([],[])):=by show _=_;rw [bh.o,HP.o,List.take_of_length_le (by rw [bk.o];omega)]
    have ct:=ag F;have cv:=ag A;clear F A;go_wp2_with fail;go_roundw
    case rel=>exact ⟨k+1,ns,ts,by omega,by go_num,HX.o,by omega,D.o,V.o,ct.o,cv.o,I⟩
    case measure=>simp [intOf];omega
  have HX:Hid (ji l n=(ns,ts)):=by show _=_;rw [cx.o,HP.o,List.take_of_length_le (by omega)]
  have SN:=ag ((zha F V.o (by omega)).monoS (M':=MT w.heap.size [9] wr) fun _ hk=>hk.more Z.o.size (fun _ ht=>ht));have ST:=ag ((zhb A (by have:=D.o;omega)).monoT (M':=MT w.heap.size [233] wr) fun _ hk=>hk.more Z.o.size (fun _ ht=>ht));have co:=ag (Z.o.trans (I.mono Z.o.size));clear F A;go_wp2_with fail
  go_ret2
  exact ⟨co.o,_,_,rfl,by rw [HX.o];exact SN.o,by rw [HX.o];exact ST.o⟩
end Go.Proofs.YtjdnmblggdobgaaGreat
