import Derived.Test.YtjdnmblggdobgaaGreatJLNoneLSaD
import Derived.Deep.DeepCutAuto
set_option maxHeartbeats 8000000
set_option maxRecDepth 100000
namespace Go.Proofs.YtjdnmblggdobgaaGreat
open Go.RowKit Go.Sort Tryz
def cb (l:List aq) (s:ByteArray):Int:=match l.findIdx? (fun c=>decide (c.name=s))with | some i=>i | none=>-1
theorem zob {l:List aq} {s:ByteArray} {k:Nat} (E:k<l.length) (h:l[k].name=s) (D:∀(j:Nat) (A:j<l.length),j<k->l[j].name≠s):cb l s=k:=by
 have:l.findIdx? (fun c=>decide (c.name=s))=some k:=by rw [List.findIdx?_eq_some_iff_getElem];exact ⟨E,by simp [h],fun j A=>by simp [D j (by omega) A]⟩
 rw [cb,this]
theorem zoc {l:List aq} {s:ByteArray} (D:∀(j:Nat) (A:j<l.length),l[j].name≠s):cb l s= -1:=by
 have:l.findIdx? (fun c=>decide (c.name=s))=none:=by rw [List.findIdx?_eq_none_iff];intro c hc;obtain ⟨j,A,rfl⟩:=List.getElem_of_mem hc;simp [D j A]
 rw [cb,this]
theorem Az (l:List aq) (s:ByteArray): -1<=cb l s/\cb l s<l.length:=by
 unfold cb;split
 ·rename_i i h;have:=(List.findIdx?_eq_some_iff_getElem.1 h).1;omega
 omega
theorem Ck (w:World) (M:Nat->Prop) (v:Value) (l:List aq) (s:ByteArray) (V:SL 4 RC M w v l):
 Calls prog 184 #[v,.string s] w fun r w'=>r=.returned (.i (cb l s))/\w'=w:=by
 have W:=ag V;obtain ⟨ao,cl,rfl,-,hl,-⟩:=V;unfold maxLen at hl;go_enter func184,ntmps184;go_wp2
 go_loopw [5] (fun i wr=>∃k:Nat,k<=l.length/\i=.i k/\Hid (∀(j:Nat) (D:j<l.length),j<k->l[j].name≠s)/\wr=w) (fun i _=>l.length - (intOf i).toNat)
 case atStart=>exact ⟨0,n0q _,rfl,(fun j _ h=>by omega),rfl⟩
 case round=>
  obtain ⟨k,hk,rfl,F,rfl⟩:=hrel;by_cases E:k<l.length
  ·obtain ⟨b,off,vf,vm,rfl,hb,e0,X,Y,Z,ef,em,J,L⟩:=W.o.atC k E;clear ef em X Y Z J L;by_cases A:l[k].name=s
   ·have I:=ag (zob E A F.o);have O:(l[k].name.toList==s.toList)=true:=by rw [A];simp
    clear A;go_wp2
    go_ret;exact ⟨by rw [I.o];rfl,rfl⟩
   have G:Hid (∀(j:Nat) (D:j<l.length),j<k+1->l[j].name≠s):=fun j D h=>by
    by_cases N:j<k
    ·exact F.o j D N
    have:j=k:=by omega
    subst this;exact A
   have O:(l[k].name.toList==s.toList)=false:=by rw [beq_eq_false_iff_ne];exact fun e=>A (Av e)
   clear A;go_wp2
   go_roundw
   case rel=>exact ⟨k+1,by omega,by go_num,G.o,trivial⟩
   case measure=>simp [intOf];omega
  have I:=ag (zoc (l:=l) (s:=s) fun j D=>F.o j D (by omega));go_wp2
  go_ret;exact ⟨by rw [I.o];rfl,rfl⟩
def ib (l:List aq) (k:fm):Bool:=decide (k.de=(⟨#[]⟩:ByteArray))||decide (0<=cb l k.de)
theorem zof (w:World) (M M':Nat->Prop) (v u:Value) (l:List aq) (A:List fm) (X:SL 4 RC M w v l) (W:SL 2 RK M' w u A):
 Calls prog 226 #[v,u] w fun r w'=>r=.returned (.bool (A.all (ib l)))/\w'=w:=by
 have Z:=ag X;have Y:=ag W;obtain ⟨ao,cl,rfl,-,hl,-⟩:=X;obtain ⟨au,cu,rfl,-,O,-⟩:=W;unfold maxLen at hl O;go_enter func226,ntmps226;go_wp2
 go_loopw [5] (fun i wr=>∃k:Nat,k<=A.length/\i=.i k/\Hid (A.all (ib l)=(A.drop k).all (ib l))/\wr=w) (fun i _=>A.length - (intOf i).toNat)
 case atStart=>exact ⟨0,n0q _,rfl,rfl,rfl⟩
 case round=>
  obtain ⟨k,hk,rfl,N,rfl⟩:=hrel;by_cases L:k<A.length
  ·obtain ⟨b,off,rfl,hb,e0,e1,es⟩:=Y.o.atK k L;have F:Hid ((A.drop k).all (ib l)=(ib l A[k]&&(A.drop (k+1)).all (ib l))):=by
    show _=_;rw [List.drop_eq_getElem_cons L,List.all_cons]
   have E:=ag (Ck wr M _ l A[k].de Z.o);have I:=Az l A[k].de;have G:Hid (ib l A[k]=(decide (A[k].de=(⟨#[]⟩:ByteArray))||decide (0<=cb l A[k].de))):=rfl;generalize A[k]=x at*;generalize cb l x.de=fa at*;have aa:=I.1;have ac:=I.2;clear I e0 es;by_cases J:x.de=⟨#[]⟩
   ·have V:=Cg J;have D:Hid (A.all (ib l)=(A.drop (k+1)).all (ib l)):=N.o.trans (by rw [F.o,G.o];simp [J]);clear J E;go_wp2
    go_roundw
    case rel=>exact ⟨k+1,by omega,by go_num,D.o,trivial⟩
    case measure=>simp [intOf];omega
   have V:x.de.toList.isEmpty=false:=by
    cases hq:x.de.toList with
    | nil=>exact absurd (Eh hq) J
    | cons _ _=>rfl
   by_cases hf:fa<0
   ·have D:Hid (A.all (ib l)=false):=N.o.trans (by rw [F.o,G.o];simp [J];omega);clear J;go_wp2_with (first | (go_at_call 184;refine E.o.mono ?_;rintro r w7 ⟨rfl,rfl⟩));go_ret;exact ⟨by rw [D.o];rfl,rfl⟩
   have D:Hid (A.all (ib l)=(A.drop (k+1)).all (ib l)):=N.o.trans (by
    rw [F.o,G.o];have:(0:Int)<=fa:=by omega
    simp [this])
   clear J;go_wp2_with (first | (go_at_call 184;refine E.o.mono ?_;rintro r w7 ⟨rfl,rfl⟩));go_roundw
   case rel=>exact ⟨k+1,by omega,by go_num,D.o,trivial⟩
   case measure=>simp [intOf];omega
  have D:Hid (A.all (ib l)=true):=N.o.trans (by rw [List.drop_of_length_le (by omega)];rfl);go_wp2
  go_ret;exact ⟨by rw [D.o];rfl,rfl⟩
def zo (l:List aq) (n:Nat):Int:=cb l (cd l n).bv
def wu (l:List aq):Nat->Int->List Nat->List Nat
 | 0,_,_=>[]
 | f+1,n,out=>if 0<=n then (if l.length<out.length then [] else wu l f (zo l n.toNat) (n.toNat::out)) else out
def ph (l:List aq) (n:Nat):List Nat:=wu l (l.length+3) n []
theorem zog (l:List aq):∀(f:Nat) (n:Int) (out:List Nat),n<l.length->(∀k∈out,k<l.length)->out.length<=l.length+1->(∀k∈wu l f n out,k<l.length)/\(wu l f n out).length<=l.length+1
 | 0,_,_,_,_,_=>⟨(fun k A=>by cases A),by simp [wu]⟩
 | f+1,n,out,hn,ho,hl=>by
   rw [wu];split
   ·split
    ·exact ⟨(fun k A=>by cases A),by simp⟩
    exact zog l f _ _ (Az l _).2 (fun k A=>by
     rcases List.mem_cons.1 A with rfl | A
     ·omega
     exact ho k A) (by simp;omega)
   exact ⟨ho,hl⟩
theorem zoh {l:List aq} {n:Nat} (D:n<l.length):(∀k∈ph l n,k<l.length)/\(ph l n).length<=l.length+1:=
 zog l _ n [] (by omega) (fun k A=>by cases A) (by simp)
theorem zoi (ns:List Nat):(ints ns).length=ns.length:=by simp [ints]
theorem zoj (ns:List Nat):∀u∈ints ns,u.oneCell'=true:=by intro u A;obtain ⟨x,_,rfl⟩:=List.mem_map.1 A;rfl
theorem zok {w:World} {B:Nat} {v:Value} {ns:List Nat} (h:w.ownsRow B 3 1 v ns.length (ints ns)) (E:ns.length<=1000):SL 1 RO (MT B [3] w) w v ns:=by
 have A:(ns.map fun x:Nat=>([Value.int .i64 (x:Int)],x)).length=ns.length:=by simp
 have D:(ns.map fun x:Nat=>([Value.int .i64 (x:Int)],x)).flatMap (·.1)=ints ns:=by
  rw [List.flatMap_map,ints];clear h E A;induction ns with
  | nil=>rfl
  | cons x r ih=>rw [List.flatMap_cons,ih];rfl
 have:=vz (n:=1) (R:=RO) (T:=[3]) (zs:=ns.map fun x:Nat=>([Value.int .i64 (x:Int)],x)) (by rw [A,D];exact h) (fun z A=>by
  obtain ⟨s,F,rfl⟩:=List.mem_map.1 A;exact ⟨rfl,rfl⟩) (by simp) (by rw [A];unfold maxLen;omega)
 rwa [List.map_map,show ((·.2)∘fun x:Nat=>([Value.int .i64 (x:Int)],x))=id from rfl,List.map_id]at this
theorem zol {w:World} {B g cap:Nat} {ns:List Nat} (h:w.ownsRow B 3 1 (.slice (some ⟨g,0,none⟩) ns.length cap) ns.length (ints ns)):∀j u,(ints ns)[j]? =some u->w.cell? ((⟨g,0,none⟩:Addr).add j)=some u:=by
 intro j u A;rcases h.2 with ⟨e,_⟩ | ⟨G,D,E,e,_,I,_,_,_,J⟩
 ·cases (Value.slice.inj e).1
 obtain ⟨F,_,_⟩:=Value.slice.inj e;obtain rfl:g=G:=by simpa using F
 rw [ua];simp only [World.cell?,I,Nat.zero_add];rw [<-J]at A;rw [List.getElem?_take]at A;split at A
 ·simpa using A
 cases A
theorem zom (w:World) (B:Nat) (v:Value) (l:List aq) (n:Nat) (hn:n<l.length) (hv:SL 4 RC (· <B) w v l) (hB:B<=w.heap.size) (hN:l.length<=10):
 Calls prog 225 #[v,.i n] w fun r w'=>Bl w w'/\∃u,r=.returned u/\SL 1 RO (MT w.heap.size [3] w') w' u (ph l n):=by
 obtain ⟨iI,ah,aj,ak,al⟩:=info_parts jy;have HV:=ag hv;obtain ⟨ao,cl,rfl,-⟩:=hv;go_enter func225,ntmps225;go_wp2_with fail;go_loopg [1,5] (l.length+3) (fun f i v wr=>∃(A:List Nat) (m:Int),i=.i m/\ -1<=m/\m<l.length/\A.length+f=l.length+3/\A.length<=l.length+1/\Hid (ph l n=wu l f m A)/\wr.ownsRow w.heap.size 3 1 v A.length (ints A)/\Bl w wr)
 case atStart=>exact ⟨[],n,rfl,by omega,by omega,by simp,by simp,rfl,World.ownsRow_nil _ _ _ _,br _ _⟩
 case round=>
  rename Nat=>f
  obtain ⟨A,m,rfl,a2,a3,hf,a4,HP,D,G⟩:=hrel;obtain ⟨a5,c5,rfl⟩:=kq D;have O:=G.size;obtain ⟨f',rfl⟩:∃f',f=f'+1:=⟨f - 1,by omega⟩;by_cases h0:0<=m
  ·by_cases hx:l.length<A.length
   ·have HR:Hid (ph l n= []):=HP.o.trans (by rw [wu,if_pos h0,if_pos hx]);have au:(l.length:Int)<A.length:=by omega
    clear D;go_wp2_with fail;go_ret;exact ⟨G,_,rfl,by rw [HR.o];exact ⟨none,0,rfl,nlq _,by unfold maxLen;simp,fun k hk=>by cases hk⟩⟩
   have au:¬(l.length:Int)<A.length:=by omega
   have ac:Hid (ph l n=wu l f' (zo l m.toNat) (m.toNat::A)):=HP.o.trans (by rw [wu,if_pos h0,if_neg hx]);obtain ⟨E,rfl⟩:=Int.eq_ofNat_of_zero_le h0;have N:E<l.length:=by omega
   have ay:=ag D;have aa:Hid ((wr.alloc (.cells #[.i (E:Int)] 3)).ownsRow w.heap.size 3 1 (.slice (some ⟨wr.heap.size,0,none⟩) 1 1) 1 [.i (E:Int)]):=
    ⟨rfl,Or.inr ⟨wr.heap.size,1,#[.i (E:Int)],rfl,O,heap_alloc_new wr _,nlq _,by unfold maxLen;omega,rfl,rfl⟩⟩
   have L:=ag (Az l (cd l E).bv);have a0:(0:Int)<=E:=by omega
   have a1:(E:Int)<l.length:=by omega
   by_cases h5:A.length=0
   ·have ad:A= []:=List.eq_nil_of_length_eq_zero h5;have HO:=ag ad;have F:Bl w (wr.alloc (.cells #[.i (E:Int)] 3)):=G.alloc O _;obtain ⟨b,off,vf,vm,rfl,hb,e0,e1,e2,e3,ef,em,Y,Z⟩:=(HV.o.keptC (Kp.below (F.mono hB))).atC E N;clear ef em e0 e2 e3 Y;have W:=ag (Ck (wr.alloc (.cells #[.i (E:Int)] 3)) (· <B) _ l l[E].bv (HV.o.keptC (Kp.below (F.mono hB))));have an:=ag F;rw [h5];clear D h5 ad F Z;go_wp2_with (first | (at_builtin;refine Dp _ rfl _ _ 22 rfl 3 iI underlying22 ah (some ⟨wr.heap.size,0,none⟩) 1 1 rfl (by decide) (Or.inr ⟨_,rfl⟩) a5 c5 rfl ?_) | (go_at_call 184;refine W.o.mono ?_;rintro r w7 ⟨rfl,rfl⟩))
    go_roundg f'
    case measure=>omega
    case rel=>exact ⟨[E],zo l E,(by rw [zo,sm N]),L.o.1,L.o.2,by have:=HO.o;subst this;simp at hf ⊢;omega,by simp,by have:=HO.o;subst this;exact ac.o,aa.o,an.o⟩
   obtain ⟨g,cap,ai,az,aw⟩:=D.form (by omega);obtain ⟨rfl,-,rfl⟩:=Value.slice.inj ai;have X:Hid (∀j u,(ints A)[j]? =some u->(wr.alloc (.cells #[.i (E:Int)] 3)).cell? ((⟨g,0,none⟩:Addr).add j)=some u):=zol (D.alloc _);have I:Hid (1+A.length<=maxLen/\(1+A.length)*8<=140737488355328/\w.heap.size<=(wr.alloc (.cells #[.i (E:Int)] 3)).heap.size/\(ints A).length=A.length*1/\0<A.length):=⟨by unfold maxLen;omega,by omega,by simp;omega,by rw [zoi];omega,by omega⟩;have ap:=ag G;clear D h5 ai G
   go_upto_region 6 with (at_builtin;refine wpList_append_lies _ rfl _ _ 22 rfl w.heap.size 3 iI (.i 0) 1 8 underlying22 ah aj ak al rfl (by decide) (.slice (some ⟨wr.heap.size,0,none⟩) 1 1) 1 [.i (E:Int)] rfl aa.o ⟨g,0,none⟩ A.length c5 (ints A) rfl I.o.2.2.2.1 X.o (zoj _) I.o.2.2.2.2 I.o.1 I.o.2.1 I.o.2.2.1 _ rfl ?_;intro g1 av w1 J V af ax;have F:Bl w w1:=(ap.o.alloc O _).grown V (by simp;omega) (fun k e=>by cases e;exact O);have HX:=ag (And.intro J F);clear J V af F)
   obtain ⟨b,off,vf,vm,rfl,hb,e0,e1,e2,e3,ef,em,Y,Z⟩:=(HV.o.keptC (Kp.below (HX.o.2.mono hB))).atC E N;clear ef em e0 e2 e3 Y;have W:=ag (Ck w1 (· <B) _ l l[E].bv (HV.o.keptC (Kp.below (HX.o.2.mono hB))));clear Z;go_wp2_with (first | (go_at_call 184;refine W.o.mono ?_;rintro r w7 ⟨rfl,rfl⟩))
   go_roundg f'
   case measure=>omega
   case rel=>exact ⟨E::A,zo l E,(by rw [zo,sm N]),L.o.1,L.o.2,by simp;omega,by simp;omega,ac.o,by have:=HX.o.1;rw [List.length_cons,Nat.add_comm A.length 1];exact this,HX.o.2⟩
  have HR:Hid (ph l n=A):=HP.o.trans (by rw [wu,if_neg h0]);have SV:=ag (zok D (by omega));clear D;go_wp2_with fail;go_ret;exact ⟨G,_,rfl,by rw [HR.o];exact SV.o⟩
def mq (l:List aq) (n:Nat):List bq:=(ph l n).flatMap fun k=>(cd l k).fields
theorem zon (w:World) (B:Nat) (v:Value) (l:List aq) (n:Nat) (hn:n<l.length) (hv:SL 4 RC (· <B) w v l) (hB:B<=w.heap.size) (hN:l.length<=10) (hF:∀c∈l,c.fields.length<=6):
 Calls prog 182 #[v,.i n] w fun r w'=>Bl w w'/\∃u,r=.returned u/\SL 3 RF (MT w.heap.size [125] w') w' u (mq l n):=by
 obtain ⟨iF,ak,ap,au,av⟩:=info_parts wg;have HC:=ag hv;obtain ⟨ao,cl,rfl,-⟩:=hv;obtain ⟨al,bm⟩:=zoh hn;have HU:=ag (zom w B _ l n hn HC.o hB hN);have a1:Hid (mq l n=(ph l n).flatMap fun k=>(cd l k).fields):=rfl;generalize ph l n=ln at*;have HK:=ag al;have a0:=ag hF;clear al hF;go_enter func182,ntmps182;go_wp2_with (first | (go_at_call 225;refine HU.o.mono ?_;rintro r w0 ⟨ai,u0,rfl,ax⟩;have HI:=ag ax;have O:=ag ai;obtain ⟨aI,cI,rfl,-⟩:=ax;clear ai));go_loopw [5,7] (fun v i wr=>∃(k:Nat) (fs:List bq),k<=ln.length/\i=.i k/\Hid (fs=(ln.take k).flatMap fun k=>(cd l k).fields)/\fs.length<=6*k/\Hid (∀f∈fs,f.name.size<=maxLen/\f.kind.de.size<=maxLen)/\wr.ownsRow w0.heap.size 125 3 v fs.length (fs.flatMap iv)/\Bl w0 wr) (fun _ i _=>ln.length - (intOf i).toNat)
 case atStart=>exact ⟨0,[],n0q _,rfl,rfl,by simp,(fun f F=>by cases F),World.ownsRow_nil _ _ _ _,br _ _⟩
 case round=>
  obtain ⟨k,fs,hk,rfl,HP,bl,X,A,E⟩:=hrel;obtain ⟨a5,c5,rfl⟩:=kq A;have an:=E.size;have G:Bl w wr:=O.o.trans (E.mono O.o.size);by_cases Y:k<ln.length
  ·obtain ⟨bi,oi,rfl,a9,ei⟩:=HI.o.atO k Y;have a4:=(E.cell (p:=⟨bi,oi+k,none⟩) a9).trans ei;have I:=HK.o ln[k] (gm Y);obtain ⟨bc,oc,vf,vm,rfl,bg,e0,e1,e2,e3,ef,em,a6,a7⟩:=(HC.o.keptC (Kp.below (G.mono hB))).atC ln[k] I;have bh:=a0.o l[ln[k]] (gm I);have az:Hid (cd l ln[k]=l[ln[k]]):=sm I;obtain ⟨m,hm⟩:∃m,m=ln[k]:=⟨_,rfl⟩;generalize hcc:l[ln[k]]=cc at*;clear hcc;rw [<-hm]at a4 e0 e1 e2 e3 I;have bn:(0:Int)<=m:=by omega
   have bo:(m:Int)<l.length:=by omega
   have EF:=ag ef;obtain ⟨fo,cf,rfl,-⟩:=ef;have W:=ag A;have N:∀f∈cc.fields,f.name.size<=maxLen/\f.kind.de.size<=maxLen:=by intro f F;obtain ⟨q,hq,rfl⟩:=List.getElem_of_mem F;obtain ⟨_,_,_,_,_,_,_,h1,h2⟩:=EF.o.atF q hq;exact ⟨h1,h2⟩
   have a3:=ag N;have ad:Hid ((ln.take (k+1)).flatMap (fun k=>(cd l k).fields)=fs++cc.fields):=by show _=_;rw [List.take_succ_eq_append_getElem Y,List.flatMap_append,<-HP.o];simp [az.o]
   clear hm ei N em a6 a7 e0 e1 e3;have ac:=ag E;clear G E;by_cases h0:cc.fields= []
   ·have a2:=ag h0;rw [h0]at e2;clear h0;obtain ⟨aj,af⟩:=zga A;go_wp2_with (at_builtin;refine Dp _ rfl _ _ 126 rfl 125 iF underlying126 ak a5 fs.length c5 rfl aj af fo cf rfl ?_);clear af aj;go_wp2_with fail;go_roundw
    case rel=>exact ⟨k+1,fs,by omega,by go_num,by show _=_;have:=ad.o;rw [a2.o,List.append_nil]at this;exact this.symm,by omega,X.o,W.o,ac.o⟩
    case measure=>simp [intOf];omega
   have L:0<cc.fields.length:=List.length_pos_iff.2 h0;obtain ⟨bf,of,bb⟩:∃bf of,fo=some ⟨bf,of,none⟩:=by obtain ⟨bf,of,e,_⟩:=EF.o.atF 0 L;exact ⟨bf,of,e⟩
   subst bb;have V:Hid (∀j u,(cc.fields.flatMap iv)[j]? =some u->wr.cell? ((⟨bf,of,none⟩:Addr).add j)=some u):=zg2 iv (by decide) (fun x _=>rfl) (fun _ _ h=>h.1) EF.o;have aa:Hid (fs.length+cc.fields.length<=maxLen/\(fs.length+cc.fields.length)*40<=140737488355328):=⟨by unfold maxLen;omega,by omega⟩;clear h0;go_wp2_with (at_builtin;refine wpList_append_lies _ rfl _ _ 126 rfl w0.heap.size 125 iF (.agg #[.string ⟨#[]⟩,.i 0,.string ⟨#[]⟩]) 3 40 underlying126 ak ap au av rfl (by decide) (.slice a5 fs.length c5) fs.length (fs.flatMap iv) rfl W.o ⟨bf,of,none⟩ cc.fields.length cf (cc.fields.flatMap iv) rfl zg3 V.o (zg4 _) L aa.o.1 aa.o.2 an _ rfl ?_);intro g cap w1 D J ah be;have HX:=ag (And.intro D (ac.o.grown J an (fun k e=>(W.o.lt k e).1)));clear D J ah A;go_wp2_with fail;go_roundw
   case rel=>
    obtain ⟨D,a8⟩:=HX.o;refine ⟨k+1,fs++cc.fields,by omega,by go_num,ad.o.symm,by simp;omega,?_,?_,a8⟩
    ·show ∀f∈_,_;intro f F;rcases List.mem_append.1 F with F | F
     ·exact X.o f F
     exact a3.o f F
    rw [List.length_append,List.flatMap_append];exact D
   case measure=>simp [intOf];omega
  have HX:Hid (mq l n=fs):=by show _=_;rw [a1.o,HP.o,List.take_of_length_le (by omega)]
  have Z:(fs.map fun f=>(iv f,f)).length=fs.length:=by simp
  have aw:(fs.map fun f=>(iv f,f)).flatMap (·.1)=fs.flatMap iv:=by rw [List.flatMap_map]
  have sv:=vz (n:=3) (R:=RF) (T:=[125]) (zs:=fs.map fun f=>(iv f,f)) (by rw [Z,aw];exact A) (fun z hz=>by
   obtain ⟨f,F,rfl⟩:=List.mem_map.1 hz;exact ⟨rfl,rfl,X.o f F⟩) (by simp) (by rw [Z];unfold maxLen;omega)
  have SV:=ag (sv.monoF (M':=MT w.heap.size [125] wr) fun _ hk=>hk.more O.o.size (fun _ ht=>ht));have ay:=ag G;clear Z aw A sv G E;go_wp2_with fail;go_ret;exact ⟨ay.o,_,rfl,by rw [HX.o];have:=SV.o;rwa [List.map_map,show ((·.2)∘fun f:bq=>(iv f,f))=id from rfl,List.map_id]at this⟩
def kg (l:List aq) (n:Nat):List ByteArray×List cw:=((ph l n).flatMap (kj l)).foldl fc ([],[])
theorem zoo {l:List ByteArray} {s:ByteArray} {k:Nat} (E:k<l.length) (h:l[k]=s) (D:∀(j:Nat) (A:j<l.length),j<k->l[j]≠s):jl l s=k:=by
 have:l.findIdx? (fun x=>decide (x=s))=some k:=by rw [List.findIdx?_eq_some_iff_getElem];exact ⟨E,by simp [h],fun j A=>by simp [D j (by omega) A]⟩
 rw [jl,this]
theorem zop {l:List ByteArray} {s:ByteArray} (D:∀(j:Nat) (A:j<l.length),l[j]≠s):jl l s= -1:=by
 have:l.findIdx? (fun x=>decide (x=s))=none:=by rw [List.findIdx?_eq_none_iff];intro c hc;obtain ⟨j,A,rfl⟩:=List.getElem_of_mem hc;simp [D j A]
 rw [jl,this]
theorem zoq (ts:List cw) (t A:cw):(ts++ [t]).set ts.length A=ts++ [A]:=by simp
theorem zor (w:World) (B:Nat) (v:Value) (l:List aq) (n:Nat) (hn:n<l.length) (hv:SL 4 RC (· <B) w v l) (hB:B<=w.heap.size) (hN:l.length<=10) (hF:∀c∈l,c.be.length<=8):
 Calls prog 183 #[v,.i n] w fun r w'=>Bl w w'/\∃v u,r=.returned (.tuple #[v,u])/\SL 1 RS (MT w.heap.size [9] w') w' v (kg l n).1/\SL 2 RT (MT w.heap.size [233] w') w' u (kg l n).2:=by
 obtain ⟨iS,c4,ce,cf,ch⟩:=info_parts Aa;obtain ⟨iT,c5,ci,cj,ck⟩:=info_parts ym;have HC:=ag hv;obtain ⟨ao,cl,rfl,-⟩:=hv;obtain ⟨ca,d8⟩:=zoh hn;have HU:=ag (zom w B _ l n hn HC.o hB hN);have cy:Hid (kg l n=((ph l n).flatMap (kj l)).foldl fc ([],[])):=rfl;generalize ph l n=ln at*;have HK:=ag ca;have cs:=ag hF;clear ca hF;go_enter func183,ntmps183;go_wp2_with (first | (go_at_call 225;refine HU.o.mono ?_;rintro r Y ⟨bx,u0,rfl,cn⟩;have HI:=ag cn;have Z:=ag bx;obtain ⟨aI,cI,rfl,-⟩:=cn;clear bx));go_loopw [6,7,9] (fun v u i wr=>∃(k:Nat) (ns:List ByteArray) (ts:List cw),k<=ln.length/\i=.i k/\Hid ((ns,ts)=((ln.take k).flatMap (kj l)).foldl fc ([],[]))/\ns.length<=8*k/\Hid (ts.length=ns.length)/\Hid (∀s∈ns,s.size<=maxLen)/\
  wr.ownsRow Y.heap.size 9 1 v ns.length (mc ns)/\wr.ownsRow Y.heap.size 233 2 u ts.length (ts.flatMap iw)/\Bl Y wr) (fun _ _ i _=>ln.length - (intOf i).toNat)
 case atStart=>exact ⟨0,[],[],n0q _,rfl,rfl,by simp,rfl,(fun f hf=>by cases hf),World.ownsRow_nil _ _ _ _,World.ownsRow_nil _ _ _ _,br _ _⟩
 case round=>
  obtain ⟨k,ns,ts,hk,rfl,HP,b4,D,O,F,A,I⟩:=hrel;obtain ⟨a6,c6,rfl⟩:=kq F;obtain ⟨a7,c7,rfl⟩:=kq A;have a4:=I.size;by_cases a2:k<ln.length
  ·obtain ⟨bi,oi,rfl,b1,ei⟩:=HI.o.atO k a2;have a3:=HK.o ln[k] (gm a2);have bs:=Z.o;obtain ⟨bc,oc,vf,vm,rfl,b0,e0,e1,e2,e3,ef,em,c0,c1⟩:=(HC.o.keptC (Kp.below (bs.mono hB))).atC ln[k] a3;have b2:=cs.o l[ln[k]] (gm a3);have bn:Hid ((ln.take (k+1)).flatMap (kj l)=(ln.take k).flatMap (kj l)++kj l ln[k]):=by
    show _=_;rw [List.take_succ_eq_append_getElem a2,List.flatMap_append];simp
   clear e0 e1 e2 ef c0 c1 bs;rw [<-sm a3]at em b2;obtain ⟨mo,cm,rfl,-⟩:=id em;have co:=ag em;have ak:=ag (And.intro b1 ei);have a8:=ag (And.intro b0 e3);clear em b1 ei b0 e3;generalize ln[k]=m at*;have bo:=ag (zhg l m);generalize hms:(cd l m).be=ms at*;have bg:=ag hms;clear hms;have ea:(0:Int)<=m:=by omega
   have eb:(m:Int)<l.length:=by omega
   obtain ⟨PK,a0⟩:∃PK,PK=(ln.take k).flatMap (kj l):=⟨_,rfl⟩;rw [<-a0]at HP bn;have dz:=ag a0;clear a0;go_wp2_with fail;go_loopw [6,7,10] (fun v u i N=>∃(j:Nat) (ns:List ByteArray) (ts:List cw),j<=ms.length/\i=.i j/\Hid ((ns,ts)=(PK++(kj l m).take j).foldl fc ([],[]))/\ns.length<=8*k+j/\Hid (ts.length=ns.length)/\Hid (∀s∈ns,s.size<=maxLen)/\
    N.ownsRow Y.heap.size 9 1 v ns.length (mc ns)/\N.ownsRow Y.heap.size 233 2 u ts.length (ts.flatMap iw)/\Bl Y N) (fun _ _ i _=>ms.length - (intOf i).toNat)
   case atStart=>exact ⟨0,ns,ts,n0q _,rfl,by show _=_;rw [List.take_zero,List.append_nil];exact HP.o,by omega,D.o,O.o,F,A,I⟩
   case round=>
    clear F A I HP O b4 D a4
    rename World=>N
    obtain ⟨j,ns,ts,hj,rfl,HP,b4,D,O,F,A,I⟩:=hrel;obtain ⟨a6,c6,rfl⟩:=kq F;obtain ⟨a7,c7,rfl⟩:=kq A;have a4:=I.size;have ei:=(I.cell (p:=⟨bi,oi+k,none⟩) ak.o.1).trans ak.o.2;have e3:=(I.cell (p:=⟨bc,oc+m*4+3,none⟩) a8.o.1).trans a8.o.2;by_cases a1:j<ms.length
    ·obtain ⟨bm,om,va,vh,c9,d3,q0,q1,q2,q3,q4,q5,q6,q7,q8,sa,sh,dl,eh,ej⟩:=(co.o.keptM (Kp.below (B:=B) (I.mono (lt3 hB Z.o.size)))).atM j a1;subst c9;have bl:Hid (PK++(kj l m).take (j+1)=(PK++(kj l m).take j)++ [(ms[j].name,⟨m,j⟩)]):=by
      show _=_;have b7:j<(kj l m).length:=by rw [bo.o];exact a1
      rw [List.take_succ_eq_append_getElem b7,List.append_assoc,zhh l m j b7 (by rw [bg.o];exact a1)];congr 3;simp [bg.o]
     have aa:=ag F;have G:=ag A;have a5:=ag I;generalize hmj:ms[j].name=nm at*;have SN:Hid (SL 1 RS (MT Y.heap.size [9] N) N (.slice a6 ns.length c6) ns):=zha F O.o (by omega);clear F A hmj sa sh q1 q2 q3 q4 q5 q6 q7 q8 I;go_wp2_with fail;go_loopw [12] (fun i wx=>∃q:Nat,q<=ns.length/\i=.i q/\Hid (∀(j:Nat) (hj:j<ns.length),j<q->ns[j]≠nm)/\wx=N) (fun i _=>ns.length - (intOf i).toNat)
     case atStart=>exact ⟨0,n0q _,rfl,(fun j _ h=>by omega),rfl⟩
     case round=>
      obtain ⟨q,hq,rfl,HQ,rfl⟩:=hrel
      rename World=>N
      by_cases X:q<ns.length
      ·obtain ⟨b6,o6,rfl,d2,d6,_⟩:=SN.o.atS q X;by_cases hs:ns[q]=nm
       ·have df:(ns[q].toList==nm.toList)=true:=by rw [hs];simp
        have al:=zoo X hs HQ.o;have ax:Hid (fc (ns,ts) (nm,⟨m,j⟩)=(ns,ts.set q ⟨m,j⟩)):=by
         show _=_;have h0:0<=jl ns nm:=by omega
         rw [fc,if_pos h0];show (ns,ts.set (jl ns nm).toNat _)=_;rw [al];rfl
        clear hs al HQ;obtain ⟨J,c3,ds⟩:∃J,a7=some ⟨J,0,none⟩/\ts.length<=c7:=by
         obtain ⟨h1,h2⟩:=zga G.o;rcases h2 with rfl | ⟨g,rfl⟩
         ·rcases G.o.2 with ⟨e,h0⟩ | ⟨g,_,_,e,_⟩
          ·have:=D.o;omega
          cases e
         exact ⟨g,rfl,h1⟩
        subst c3;have W:=G.o.lt J rfl;have k0:N.cell? ⟨J,q*2,none⟩=(ts.flatMap iw)[q*2]? :=G.o.cellAt _ (by have:=D.o;omega);have k1:N.cell? ⟨J,q*2+1,none⟩=(ts.flatMap iw)[q*2+1]? :=G.o.cellAt _ (by have:=D.o;omega);have an:q<ts.length:=by have:=D.o;omega
        have ee:N.cell? ⟨J,q*2,none⟩=some (.i (ts[q]).de):=by rw [k0];have:=A5 (n:=2) iw ts q 0 (fun _ _=>rfl) an (by decide);simpa [iw]using this
        have eg:N.cell? ⟨J,q*2+1,none⟩=some (.i (ts[q]).s9):=by rw [k1];have:=A5 (n:=2) iw ts q 1 (fun _ _=>rfl) an (by decide);simpa [iw]using this
        obtain ⟨V,ah⟩:∃V,N.heap[J]? =some (.cells V 233 (0,0)):=by
         rcases G.o.2 with ⟨e,_⟩ | ⟨g,_,az,e,_,hb,_⟩
         ·cases e
         cases e;exact ⟨az,hb⟩
        have z0:∀q,N.frozen? ⟨J,q,none⟩=false:=fun q=>by simp [World.frozen?,ah]
        have dg:(0:Int)<=q:=by omega
        have dk:(q:Int)<ts.length:=by have:=D.o;omega
        have cc:(q:Int)<ns.length:=by omega
        have ec:¬(q:Int)=ns.length:=by omega
        have b5:J<N.heap.size:=W.2;clear k0 k1 ah;go_wp2_with fail;go_roundw
        case rel=>
         have ac:=(a5.o.setCell (p:=⟨J,q*2,none⟩) W.1 (.i m)).setCell (p:=⟨J,q*2+1,none⟩) W.1 (.i j);refine ⟨j+1,ns,ts.set q ⟨m,j⟩,by omega,by go_num,?_,by omega,by show _=_;have:=D.o;simpa using this,O.o,?_,?_,ac⟩
         ·show _=_;rw [bl.o,zhe,<-HP.o,ax.o]
         ·refine aa.o.kept (row:=some J) ?_ ?_
          ·exact ow (ow (World.grownBy.refl _ _) _ _ (Or.inl rfl)) _ _ (Or.inl rfl)
          rcases sn aa.o G.o (by decide)with h | h
          ·exact Or.inl h
          exact Or.inr h
         have:=A7 (A7 G.o (q*2) (.i m)) (q*2+1) (.i j);rw [zhc ts q ⟨m,j⟩]at this;rw [List.length_set];exact this
        case measure=>simp [intOf];omega
       have cv:Hid (∀(j:Nat) (hj:j<ns.length),j<q+1->ns[j]≠nm):=fun j hj h=>by
        by_cases c8:j<q
        ·exact HQ.o j hj c8
        have:j=q:=by omega
        subst this;exact hs
       have df:(ns[q].toList==nm.toList)=false:=by rw [beq_eq_false_iff_ne];exact fun e=>hs (Av e)
       have cc:(q:Int)<ns.length:=by omega
       clear hs;go_wp2_with fail;go_roundw
       case rel=>exact ⟨q+1,by omega,by go_num,cv.o,trivial⟩
       case measure=>simp [intOf];omega
      have dd:q=ns.length:=by omega
      subst dd;have c2:=zop (l:=ns) (s:=nm) fun j hj=>HQ.o j hj hj;have ax:Hid (fc (ns,ts) (nm,⟨m,j⟩)=(ns++ [nm],ts++ [⟨m,j⟩])):=by show _=_;rw [fc,if_neg (by show ¬ 0<=jl ns nm;omega)]
      have av:Hid (ns.length+1<=maxLen/\(ns.length+1)*16<=140737488355328/\Y.heap.size<=(N.alloc (.cells #[.string nm] 9)).heap.size):=⟨by unfold maxLen;omega,by omega,by simp;omega⟩;have ap:∀q,(Value.slice a6 ns.length c6).ownBlock=some q->Y.heap.size<=q/\q<N.heap.size:=fun q e=>aa.o.lt q e;have ct:=ag ap;clear c2 HQ X hq SN q0 ap;go_wp2_with (at_builtin;refine wpList_append_lies _ rfl _ _ 225 rfl Y.heap.size 9 iS (.string ⟨#[]⟩) 1 16 underlying225 c4 ce cf ch rfl (by decide) (.slice a6 ns.length c6) ns.length (mc ns) rfl (aa.o.alloc _) ⟨N.heap.size,0,none⟩ 1 1 [.string nm] rfl rfl (World.news_of_block (heap_alloc_new N _)) (by intro u hu;simp at hu;subst hu;rfl) (by omega) av.o.1 av.o.2.1 av.o.2.2 _ rfl ?_);intro g6 d0 w3 aj ai _ X;have bu:=(G.o.alloc (.cells #[.string nm] 9)).kept ai (sn G.o aa.o (by decide));have ac:Bl Y w3:=(a5.o.alloc a4 _).grown ai (by simp;omega) (fun q e=>(ct.o q e).1);have aw:Hid (ts.length+1<=maxLen/\(ts.length+1)*16<=140737488355328/\Y.heap.size<=(w3.alloc (.cells #[.i 0,.i 0] 233)).heap.size):=⟨by have:=D.o;unfold maxLen;omega,by have:=D.o;omega,by have:=ac.size;simp;omega⟩;have ay:=ag bu;have bh:=ag aj;have au:=ag ac;clear aj ai bu ac ei e3
      go_upto_region 16 with (at_builtin;refine wpList_append_lies _ rfl _ _ 226 rfl Y.heap.size 233 iT (.agg #[.i 0,.i 0]) 2 16 underlying226 c5 ci cj ck rfl (by decide) (.slice a7 ts.length c7) ts.length (ts.flatMap iw) rfl (ay.o.alloc _) ⟨w3.heap.size,0,none⟩ 1 1 [.i 0,.i 0] rfl rfl (World.news_of_block (heap_alloc_new w3 _)) (by intro u hu;simp at hu;subst hu;rfl) (by omega) aw.o.1 aw.o.2.1 aw.o.2.2 _ rfl ?_;intro J d1 w4 E L _ du;have bb:=ag (And.intro E L);clear E L)
      obtain ⟨E,L⟩:=bb.o;have af:=(bh.o.alloc (.cells #[.i 0,.i 0] 233)).kept L (sn bh.o ay.o (by decide));have ad:Bl Y w4:=(au.o.alloc au.o.size _).grown L (by have:=au.o.size;simp;omega) (fun q e=>(ay.o.lt q e).1);have ei:=(ad.cell (p:=⟨bi,oi+k,none⟩) ak.o.1).trans ak.o.2;have W:=E.lt J rfl;have b3:((ts++ [(⟨0,0⟩:cw)]).flatMap iw)=ts.flatMap iw++ [.i 0,.i 0]:=by rw [List.flatMap_append];rfl
      have d4:w4.cell? ⟨J,ns.length*2,none⟩=some (.i 0):=by have:=E.cellAt (ns.length*2) (by have:=D.o;omega);rw [this,<-D.o,List.getElem?_append_right (by rw [Dn];omega),Dn];simp
      have d5:w4.cell? ⟨J,ns.length*2+1,none⟩=some (.i 0):=by have:=E.cellAt (ns.length*2+1) (by have:=D.o;omega);rw [this,<-D.o,List.getElem?_append_right (by rw [Dn];omega),Dn,show ts.length*2+1 - ts.length*2=1 by omega];rfl
      obtain ⟨V,ah⟩:∃V,w4.heap[J]? =some (.cells V 233 (0,0)):=by
       rcases E.2 with ⟨e,_⟩ | ⟨g,_,az,e,_,hb,_⟩
       ·cases e
       cases e;exact ⟨az,hb⟩
      have z0:∀q,w4.frozen? ⟨J,q,none⟩=false:=fun q=>by simp [World.frozen?,ah]
      have b5:J<w4.heap.size:=W.2;have dg:(0:Int)<=ns.length:=by omega
      have dk:(ns.length:Int)<(ts.length:Int)+1:=by have:=D.o;omega
      have cc:(ns.length:Int)<((ts.length+1:Nat):Int):=by have:=D.o;omega
      have a9:=ag (And.intro af (And.intro E ad));have bf:=ag W;have cr:=ag b3;clear af E L ad W ah bb b3;go_wp2_with fail;go_roundw
      case rel=>
       obtain ⟨af,bv,ad⟩:=a9.o;refine ⟨j+1,ns++ [nm],ts++ [⟨m,j⟩],by omega,by go_num,?_,by simp;omega,by show _=_;have:=D.o;simp;omega,?_,?_,?_,(ad.setCell (p:=⟨J,ns.length*2,none⟩) bf.o.1 (.i m)).setCell (p:=⟨J,ns.length*2+1,none⟩) bf.o.1 (.i j)⟩
       ·show _=_;rw [bl.o,zhe,<-HP.o,ax.o]
       ·show ∀s∈_,_;intro s hs;rcases List.mem_append.1 hs with hs | hs
        ·exact O.o s hs
        rw [List.mem_singleton]at hs;rw [hs];exact dl
       ·rw [List.length_append,show mc (ns++ [nm])=mc ns++ [.string nm] by simp [mc]];refine af.kept (row:=some J) ?_ ?_
        ·exact ow (ow (World.grownBy.refl _ _) _ _ (Or.inl rfl)) _ _ (Or.inl rfl)
        rcases sn af bv (by decide)with h | h
        ·exact Or.inl h
        exact Or.inr h
       have:=A7 (A7 bv (ns.length*2) (.i m)) (ns.length*2+1) (.i j);rw [<-cr.o,zhc (ts++ [(⟨0,0⟩:cw)]) ns.length ⟨m,j⟩,show (ts++ [(⟨0,0⟩:cw)]).set ns.length ⟨m,j⟩=ts++ [⟨m,j⟩] from by rw [<-D.o];exact zoq ts ⟨0,0⟩ ⟨m,j⟩]at this;rw [List.length_append];exact this
      case measure=>simp [intOf];omega
    have HX:Hid ((ns,ts)=((ln.take (k+1)).flatMap (kj l)).foldl fc ([],[])):=by show _=_;rw [bn.o,HP.o,List.take_of_length_le (by rw [bo.o];omega)]
    have cu:=ag F;have cx:=ag A;clear F A;go_wp2_with fail;go_roundw
    case rel=>exact ⟨k+1,ns,ts,by omega,by go_num,HX.o,by omega,D.o,O.o,cu.o,cx.o,I⟩
    case measure=>simp [intOf];omega
  have HX:Hid (kg l n=(ns,ts)):=by show _=_;rw [cy.o,HP.o,List.take_of_length_le (by omega)]
  have SN:=ag ((zha F O.o (by omega)).monoS (M':=MT w.heap.size [9] wr) fun _ hk=>hk.more Z.o.size (fun _ ht=>ht));have ST:=ag ((zhb A (by have:=D.o;omega)).monoT (M':=MT w.heap.size [233] wr) fun _ hk=>hk.more Z.o.size (fun _ ht=>ht));have cp:=ag (Z.o.trans (I.mono Z.o.size));clear F A;go_wp2_with fail
  go_ret2
  exact ⟨cp.o,_,_,rfl,by rw [HX.o];exact SN.o,by rw [HX.o];exact ST.o⟩
end Go.Proofs.YtjdnmblggdobgaaGreat
