import Derived.Test.YtjdnmblggdobgaaGreatJLNoneLSaD
import Derived.Deep.DeepCutAuto
set_option maxHeartbeats 8000000
set_option maxRecDepth 100000
namespace Go.Proofs.YtjdnmblggdobgaaGreat
open Go.RowKit Go.Sort Tryz List Or World
variable (ns:List Nat) (w:World) (M M':Nat->Prop) (B:Nat) (v u:Value) (l:List aq) (s:ByteArray) (n:Nat)
def cd (l:List aq) (s:ByteArray):Int:=match l.findIdx? (fun c=>decide (c.name=s))with | some i=>i | none=>-1
theorem zn1 {l:List aq} {s:ByteArray} {k:Nat} (E:k<l.length) (h:l[k].name=s) (D:∀(j:Nat) (A:j<l.length),j<k->l[j].name≠s):cd l s=k:=by
 have:l.findIdx? (fun c=>decide (c.name=s))=some k:=by rw [findIdx?_eq_some_iff_getElem];exact ⟨E,by simp [h],fun j A=>by simp [D j (by omega) A]⟩
 rw [cd,this]
theorem zn2 {l:List aq} {s:ByteArray} (D:∀(j:Nat) (A:j<l.length),l[j].name≠s):cd l s= -1:=by
 have:l.findIdx? (fun c=>decide (c.name=s))=none:=by rw [findIdx?_eq_none_iff];intro c hc;obtain ⟨j,A,rfl⟩:=getElem_of_mem hc;simp [D j A]
 rw [cd,this]
theorem Bv: -1<=cd l s/\cd l s<l.length:=by
 unfold cd;split
 ·rename_i i h;have:=(findIdx?_eq_some_iff_getElem.1 h).1;omega
 omega
theorem C1 (V:SL 4 RC M w v l):
 Calls prog 184 #[v,.string s] w fun r w'=>r=.returned (.i (cd l s))/\w'=w:=by
 have W:=aj V;obtain ⟨ao,cl,rfl,-,hl,-⟩:=V;unfold maxLen at hl;go_enter func184,ntmps184;go_wp2
 go_loopw [5] (fun i wr=>∃k:Nat,k<=l.length/\i=.i k/\Hid (∀(j:Nat) (D:j<l.length),j<k->l[j].name≠s)/\wr=w) (fun i _=>l.length - (intOf i).toNat)
 case atStart=>exact ⟨0,n0q _,rfl,(fun j _ h=>by omega),rfl⟩
 case round=>
  obtain ⟨k,hk,rfl,F,rfl⟩:=hrel;by_cases E:k<l.length
  ·obtain ⟨b,off,vf,vm,rfl,hb,e0,X,Y,Z,ef,em,J,L⟩:=W.o.atC k E;clear ef em X Y Z J L;by_cases A:l[k].name=s
   ·have I:=aj (zn1 E A F.o);have O:(l[k].name.toList==s.toList)=true:=by rw [A];simp
    clear A;go_wp2
    go_ret;exact ⟨by rw [I.o];rfl,rfl⟩
   have G:Hid (∀(j:Nat) (D:j<l.length),j<k+1->l[j].name≠s):=fun j D h=>by
    by_cases N:j<k
    ·exact F.o j D N
    have:j=k:=by omega
    subst this;exact A
   have O:(l[k].name.toList==s.toList)=false:=by rw [beq_eq_false_iff_ne];exact fun e=>A (Bu e)
   clear A;go_wp2
   go_roundw
   case rel=>exact ⟨k+1,by omega,by go_num,G.o,trivial⟩
   case measure=>simp [intOf];omega
  have I:=aj (zn2 (l:=l) (s:=s) fun j D=>F.o j D (by omega));go_wp2
  go_ret;exact ⟨by rw [I.o];rfl,rfl⟩
def ig (l:List aq) (k:fw):Bool:=decide (k.dj=(⟨#[]⟩:ByteArray))||decide (0<=cd l k.dj)
theorem zn5 (A:List fw) (X:SL 4 RC M w v l) (W:SL 2 RK M' w u A):
 Calls prog 226 #[v,u] w fun r w'=>r=.returned (.bool (A.all (ig l)))/\w'=w:=by
 have Z:=aj X;have Y:=aj W;obtain ⟨ao,cl,rfl,-,hl,-⟩:=X;obtain ⟨au,cu,rfl,-,O,-⟩:=W;unfold maxLen at hl O;go_enter func226,ntmps226;go_wp2
 go_loopw [5] (fun i wr=>∃k:Nat,k<=A.length/\i=.i k/\Hid (A.all (ig l)=(A.drop k).all (ig l))/\wr=w) (fun i _=>A.length - (intOf i).toNat)
 case atStart=>exact ⟨0,n0q _,rfl,rfl,rfl⟩
 case round=>
  obtain ⟨k,hk,rfl,N,rfl⟩:=hrel;by_cases L:k<A.length;rotate_left
  ·have D:Hid (A.all (ig l)=true):=N.o.trans (by rw [drop_of_length_le (by omega)];rfl);go_wp2
   go_ret;exact ⟨by rw [D.o];rfl,rfl⟩
  obtain ⟨b,off,rfl,hb,e0,e1,es⟩:=Y.o.atK k L;have F:Hid ((A.drop k).all (ig l)=(ig l A[k]&&(A.drop (k+1)).all (ig l))):=by show _=_;rw [drop_eq_getElem_cons L,all_cons]
  have E:=aj (C1 wr M _ l A[k].dj Z.o);have I:=Bv l A[k].dj;have G:Hid (ig l A[k]=(decide (A[k].dj=(⟨#[]⟩:ByteArray))||decide (0<=cd l A[k].dj))):=rfl;generalize A[k]=x at*;generalize cd l x.dj=fa at*;have aa:=I.1;have ac:=I.2;clear I e0 es;by_cases J:x.dj=⟨#[]⟩
  ·have V:=Cx J;have D:Hid (A.all (ig l)=(A.drop (k+1)).all (ig l)):=N.o.trans (by rw [F.o,G.o];simp [J]);clear J E;go_wp2
   go_roundw
   case rel=>exact ⟨k+1,by omega,by go_num,D.o,trivial⟩
   case measure=>simp [intOf];omega
  have V:x.dj.toList.isEmpty=false:=by
   cases hq:x.dj.toList with
   | nil=>exact absurd (Eo hq) J
   | cons _ _=>rfl
  by_cases hf:fa<0
  ·have D:Hid (A.all (ig l)=false):=N.o.trans (by rw [F.o,G.o];simp [J];omega);clear J;go_wp2_with (first | (go_at_call 184;refine E.o.mono ?_;rintro r w7 ⟨rfl,rfl⟩));go_ret;exact ⟨by rw [D.o];rfl,rfl⟩
  have D:Hid (A.all (ig l)=(A.drop (k+1)).all (ig l)):=N.o.trans (by
   rw [F.o,G.o];have:(0:Int)<=fa:=by omega
   simp [this])
  clear J;go_wp2_with (first | (go_at_call 184;refine E.o.mono ?_;rintro r w7 ⟨rfl,rfl⟩));go_roundw
  case rel=>exact ⟨k+1,by omega,by go_num,D.o,trivial⟩
  case measure=>simp [intOf];omega
def As (l:List aq) (n:Nat):Int:=cd l (cz l n).b9
def ya (l:List aq):Nat->Int->List Nat->List Nat
 | 0,_,_=>[]
 | f+1,n,out=>if 0<=n then (if l.length<out.length then [] else ya l f (As l n.toNat) (n.toNat::out)) else out
def qb (l:List aq) (n:Nat):List Nat:=ya l (l.length+3) n []
theorem zn6 (l:List aq):∀(f:Nat) (n:Int) (out:List Nat),n<l.length->(∀k∈out,k<l.length)->out.length<=l.length+1->(∀k∈ya l f n out,k<l.length)/\(ya l f n out).length<=l.length+1
 | 0,_,_,_,_,_=>⟨(fun k A=>by cases A),by simp [ya]⟩
 | f+1,n,out,hn,ho,hl=>by
   rw [ya];split
   ·split
    ·exact ⟨(fun k A=>by cases A),by simp⟩
    exact zn6 l f _ _ (Bv l _).2 (fun k A=>by
     rcases mem_cons.1 A with rfl | A
     ·omega
     exact ho k A) (by simp;omega)
   exact ⟨ho,hl⟩
theorem zn7 {l:List aq} {n:Nat} (D:n<l.length):(∀k∈qb l n,k<l.length)/\(qb l n).length<=l.length+1:=
 zn6 l _ n [] (by omega) (fun k A=>by cases A) (by simp)
theorem zn8:(ints ns).length=ns.length:=by simp [ints]
theorem zn9:∀u∈ints ns,u.oneCell'=true:=by intro u A;obtain ⟨x,_,rfl⟩:=mem_map.1 A;rfl
theorem zoa {w:World} {B:Nat} {v:Value} {ns:List Nat} (h:w.ownsRow B 3 1 v ns.length (ints ns)) (E:ns.length<=1000):SL 1 RO (MT B [3] w) w v ns:=by
 have A:(ns.map fun x:Nat=>([Value.int .i64 (x:Int)],x)).length=ns.length:=by simp
 have D:(ns.map fun x:Nat=>([Value.int .i64 (x:Int)],x)).flatMap (·.1)=ints ns:=by
  rw [flatMap_map,ints];clear h E A;induction ns with
  | nil=>rfl
  | cons x r ih=>rw [flatMap_cons,ih];rfl
 have:=xr (n:=1) (R:=RO) (T:=[3]) (zs:=ns.map fun x:Nat=>([Value.int .i64 (x:Int)],x)) (by rw [A,D];exact h) (fun z A=>by
  obtain ⟨s,F,rfl⟩:=mem_map.1 A;exact ⟨rfl,rfl⟩) (by simp) (by rw [A];unfold maxLen;omega)
 rwa [map_map,show ((·.2)∘fun x:Nat=>([Value.int .i64 (x:Int)],x))=id from rfl,map_id]at this
theorem zob {w:World} {B g cap:Nat} {ns:List Nat} (h:w.ownsRow B 3 1 (.slice (some ⟨g,0,none⟩) ns.length cap) ns.length (ints ns)):∀j u,(ints ns)[j]? =some u->w.cell? ((⟨g,0,none⟩:Addr).add j)=some u:=by
 intro j u A;rcases h.2 with ⟨e,_⟩ | ⟨G,D,E,e,_,I,_,_,_,J⟩
 ·cases (Value.slice.inj e).1
 obtain ⟨F,_,_⟩:=Value.slice.inj e;obtain rfl:g=G:=by simpa using F
 rw [zd];simp only [cell?,I,Nat.zero_add];rw [<-J]at A;rw [getElem?_take]at A;split at A
 ·simpa using A
 cases A
theorem zoc (hn:n<l.length) (hv:SL 4 RC (· <B) w v l) (hB:B<=w.heap.size) (hN:l.length<=10):
 Calls prog 225 #[v,.i n] w fun r w'=>Bl w w'/\∃u,r=.returned u/\SL 1 RO (MT w.heap.size [3] w') w' u (qb l n):=by
 obtain ⟨iI,af,ai,ak,al⟩:=info_parts kh;have HV:=aj hv;obtain ⟨ao,cl,rfl,-⟩:=hv;go_enter func225,ntmps225
 go_wp21
 go_loopg [1,5] (l.length+3) (fun f i v wr=>∃(A:List Nat) (m:Int),i=.i m/\ -1<=m/\m<l.length/\A.length+f=l.length+3/\A.length<=l.length+1/\Hid (qb l n=ya l f m A)/\wr.ownsRow w.heap.size 3 1 v A.length (ints A)/\Bl w wr)
 case atStart=>exact ⟨[],n,rfl,by omega,by omega,by simp,by simp,rfl,ownsRow_nil _ _ _ _,br _ _⟩
 case round=>
  rename Nat=>f
  obtain ⟨A,m,rfl,a3,a4,hf,a6,HP,D,G⟩:=hrel;obtain ⟨a5,c5,rfl⟩:=ku D;have O:=G.size;obtain ⟨f',rfl⟩:∃f',f=f'+1:=⟨f - 1,by omega⟩;by_cases h0:0<=m;rotate_left
  ·have HR:Hid (qb l n=A):=HP.o.trans (by rw [ya,if_neg h0]);have SV:=aj (zoa D (by omega));clear D
   go_wp21
   go_ret;exact ⟨G,_,rfl,by rw [HR.o];exact SV.o⟩
  by_cases hx:l.length<A.length
  ·have HR:Hid (qb l n= []):=HP.o.trans (by rw [ya,if_pos h0,if_pos hx]);have au:(l.length:Int)<A.length:=by omega
   clear D
   go_wp21
   go_ret;exact ⟨G,_,rfl,by rw [HR.o];exact ⟨none,0,rfl,nlq _,by unfold maxLen;simp,fun k hk=>by cases hk⟩⟩
  have au:¬(l.length:Int)<A.length:=by omega
  have ac:Hid (qb l n=ya l f' (As l m.toNat) (m.toNat::A)):=HP.o.trans (by rw [ya,if_pos h0,if_neg hx]);obtain ⟨E,rfl⟩:=Int.eq_ofNat_of_zero_le h0;have N:E<l.length:=by omega
  have az:=aj D;have aa:Hid ((wr.alloc (.cells #[.i (E:Int)] 3)).ownsRow w.heap.size 3 1 (.slice (some ⟨wr.heap.size,0,none⟩) 1 1) 1 [.i (E:Int)]):=
   ⟨rfl,inr ⟨wr.heap.size,1,#[.i (E:Int)],rfl,O,heap_alloc_new wr _,nlq _,by unfold maxLen;omega,rfl,rfl⟩⟩
  have L:=aj (Bv l (cz l E).b9);have a1:(0:Int)<=E:=by omega
  have a2:(E:Int)<l.length:=by omega
  by_cases h5:A.length=0
  ·have ad:A= []:=eq_nil_of_length_eq_zero h5;have HO:=aj ad;have F:Bl w (wr.alloc (.cells #[.i (E:Int)] 3)):=G.alloc O _;obtain ⟨b,off,vf,vm,rfl,hb,e0,e1,e2,e3,ef,em,Y,Z⟩:=(HV.o.keptC (Kp.below (F.mono hB))).atC E N;clear ef em e0 e2 e3 Y;have W:=aj (C1 (wr.alloc (.cells #[.i (E:Int)] 3)) (· <B) _ l l[E].b9 (HV.o.keptC (Kp.below (F.mono hB))));have am:=aj F;rw [h5];clear D h5 ad F Z;go_wp2_with (first | (at_builtin;refine zfz _ rfl _ _ 22 rfl 3 iI underlying22 af (some ⟨wr.heap.size,0,none⟩) 1 1 rfl (by decide) (inr ⟨_,rfl⟩) a5 c5 rfl ?_) | (go_at_call 184;refine W.o.mono ?_;rintro r w7 ⟨rfl,rfl⟩))
   go_roundg f'
   case measure=>omega
   case rel=>exact ⟨[E],As l E,(by rw [As,tu N]),L.o.1,L.o.2,by have:=HO.o;subst this;simp at hf ⊢;omega,by simp,by have:=HO.o;subst this;exact ac.o,aa.o,am.o⟩
  obtain ⟨g,cap,ah,a0,aw⟩:=D.form (by omega);obtain ⟨rfl,-,rfl⟩:=Value.slice.inj ah;have X:Hid (∀j u,(ints A)[j]? =some u->(wr.alloc (.cells #[.i (E:Int)] 3)).cell? ((⟨g,0,none⟩:Addr).add j)=some u):=zob (D.alloc _);have I:Hid (1+A.length<=maxLen/\(1+A.length)*8<=140737488355328/\w.heap.size<=(wr.alloc (.cells #[.i (E:Int)] 3)).heap.size/\(ints A).length=A.length*1/\0<A.length):=⟨by unfold maxLen;omega,by omega,by simp;omega,by rw [zn8];omega,by omega⟩;have an:=aj G;clear D h5 ah G
  go_upto_region 6 with (at_builtin;refine wpList_append_lies _ rfl _ _ 22 rfl w.heap.size 3 iI (.i 0) 1 8 underlying22 af ai ak al rfl (by decide) (.slice (some ⟨wr.heap.size,0,none⟩) 1 1) 1 [.i (E:Int)] rfl aa.o ⟨g,0,none⟩ A.length c5 (ints A) rfl I.o.2.2.2.1 X.o (zn9 _) I.o.2.2.2.2 I.o.1 I.o.2.1 I.o.2.2.1 _ rfl ?_;intro g1 av w1 J V ae ay;have F:Bl w w1:=(an.o.alloc O _).grown V (by simp;omega) (fun k e=>by cases e;exact O);have HX:=aj (And.intro J F);clear J V ae F)
  obtain ⟨b,off,vf,vm,rfl,hb,e0,e1,e2,e3,ef,em,Y,Z⟩:=(HV.o.keptC (Kp.below (HX.o.2.mono hB))).atC E N;clear ef em e0 e2 e3 Y;have W:=aj (C1 w1 (· <B) _ l l[E].b9 (HV.o.keptC (Kp.below (HX.o.2.mono hB))));clear Z;go_wp2_with (first | (go_at_call 184;refine W.o.mono ?_;rintro r w7 ⟨rfl,rfl⟩))
  go_roundg f'
  case measure=>omega
  case rel=>exact ⟨E::A,As l E,(by rw [As,tu N]),L.o.1,L.o.2,by simp;omega,by simp;omega,ac.o,by have:=HX.o.1;rw [length_cons,Nat.add_comm A.length 1];exact this,HX.o.2⟩
def ni (l:List aq) (n:Nat):List bv:=(qb l n).flatMap fun k=>(cz l k).fields
theorem zod (hn:n<l.length) (hv:SL 4 RC (· <B) w v l) (hB:B<=w.heap.size) (hN:l.length<=10) (hF:∀c∈l,c.fields.length<=6):
 Calls prog 182 #[v,.i n] w fun r w'=>Bl w w'/\∃u,r=.returned u/\SL 3 RF (MT w.heap.size [125] w') w' u (ni l n):=by
 obtain ⟨iF,ak,an,au,av⟩:=info_parts xw;have HC:=aj hv;obtain ⟨ao,cl,rfl,-⟩:=hv;obtain ⟨al,bl⟩:=zn7 hn;have HU:=aj (zoc w B _ l n hn HC.o hB hN);have a2:Hid (ni l n=(qb l n).flatMap fun k=>(cz l k).fields):=rfl;generalize qb l n=ln at*;have HK:=aj al;have a1:=aj hF;clear al hF;go_enter func182,ntmps182;go_wp2_with (first | (go_at_call 225;refine HU.o.mono ?_;rintro r w0 ⟨ah,u0,rfl,ay⟩;have HI:=aj ay;have O:=aj ah;obtain ⟨aI,cI,rfl,-⟩:=ay;clear ah));go_loopw [5,7] (fun v i wr=>∃(k:Nat) (fs:List bv),k<=ln.length/\i=.i k/\Hid (fs=(ln.take k).flatMap fun k=>(cz l k).fields)/\fs.length<=6*k/\Hid (∀f∈fs,f.name.size<=maxLen/\f.kind.dj.size<=maxLen)/\wr.ownsRow w0.heap.size 125 3 v fs.length (fs.flatMap iz)/\Bl w0 wr) (fun _ i _=>ln.length - (intOf i).toNat)
 case atStart=>exact ⟨0,[],n0q _,rfl,rfl,by simp,(fun f F=>by cases F),ownsRow_nil _ _ _ _,br _ _⟩
 case round=>
  obtain ⟨k,fs,hk,rfl,HP,bk,X,A,E⟩:=hrel;obtain ⟨a5,c5,rfl⟩:=ku A;have am:=E.size;have G:Bl w wr:=O.o.trans (E.mono O.o.size);by_cases Y:k<ln.length;rotate_left
  ·have HX:Hid (ni l n=fs):=by
    show _=_;rw [a2.o,HP.o,take_of_length_le (by omega)]
   have Z:(fs.map fun f=>(iz f,f)).length=fs.length:=by simp
   have aw:(fs.map fun f=>(iz f,f)).flatMap (·.1)=fs.flatMap iz:=by rw [flatMap_map]
   have sv:=xr (n:=3) (R:=RF) (T:=[125]) (zs:=fs.map fun f=>(iz f,f)) (by rw [Z,aw];exact A) (fun z hz=>by
    obtain ⟨f,F,rfl⟩:=mem_map.1 hz;exact ⟨rfl,rfl,X.o f F⟩) (by simp) (by rw [Z];unfold maxLen;omega)
   have SV:=aj (sv.monoF (M':=MT w.heap.size [125] wr) fun _ hk=>hk.more O.o.size (fun _ ht=>ht));have az:=aj G;clear Z aw A sv G E
   go_wp21
   go_ret;exact ⟨az.o,_,rfl,by rw [HX.o];have:=SV.o;rwa [map_map,show ((·.2)∘fun f:bv=>(iz f,f))=id from rfl,map_id]at this⟩
  obtain ⟨bi,oi,rfl,ba,ei⟩:=HI.o.atO k Y;have a6:=(E.cell (p:=⟨bi,oi+k,none⟩) ba).trans ei;have I:=HK.o ln[k] (gm Y);obtain ⟨bc,oc,vf,vm,rfl,bh,e0,e1,e2,e3,ef,em,a7,a8⟩:=(HC.o.keptC (Kp.below (G.mono hB))).atC ln[k] I;have bj:=a1.o l[ln[k]] (gm I);have a0:Hid (cz l ln[k]=l[ln[k]]):=tu I;obtain ⟨m,hm⟩:∃m,m=ln[k]:=⟨_,rfl⟩;generalize hcc:l[ln[k]]=cc at*;clear hcc;rw [<-hm]at a6 e0 e1 e2 e3 I;have bm:(0:Int)<=m:=by omega
  have bn:(m:Int)<l.length:=by omega
  have EF:=aj ef;obtain ⟨fo,cf,rfl,-⟩:=ef;have W:=aj A;have N:∀f∈cc.fields,f.name.size<=maxLen/\f.kind.dj.size<=maxLen:=by intro f F;obtain ⟨q,hq,rfl⟩:=getElem_of_mem F;obtain ⟨_,_,_,_,_,_,_,h1,h2⟩:=EF.o.atF q hq;exact ⟨h1,h2⟩
  have a4:=aj N;have ad:Hid ((ln.take (k+1)).flatMap (fun k=>(cz l k).fields)=fs++cc.fields):=by show _=_;rw [take_succ_eq_append_getElem Y,flatMap_append,<-HP.o];simp [a0.o]
  clear hm ei N em a7 a8 e0 e1 e3;have ac:=aj E;clear G E;by_cases h0:cc.fields= []
  ·have a3:=aj h0;rw [h0]at e2;clear h0;obtain ⟨ai,ae⟩:=zf0 A;go_wp2_with (at_builtin;refine zfz _ rfl _ _ 126 rfl 125 iF underlying126 ak a5 fs.length c5 rfl ai ae fo cf rfl ?_);clear ae ai
   go_wp21
   go_roundw
   case rel=>exact ⟨k+1,fs,by omega,by go_num,by show _=_;have:=ad.o;rw [a3.o,append_nil]at this;exact this.symm,by omega,X.o,W.o,ac.o⟩
   case measure=>simp [intOf];omega
  have L:0<cc.fields.length:=length_pos_iff.2 h0;obtain ⟨bf,of,bb⟩:∃bf of,fo=some ⟨bf,of,none⟩:=by obtain ⟨bf,of,e,_⟩:=EF.o.atF 0 L;exact ⟨bf,of,e⟩
  subst bb;have V:Hid (∀j u,(cc.fields.flatMap iz)[j]? =some u->wr.cell? ((⟨bf,of,none⟩:Addr).add j)=some u):=zgt iz (by decide) (fun x _=>rfl) (fun _ _ h=>h.1) EF.o;have aa:Hid (fs.length+cc.fields.length<=maxLen/\(fs.length+cc.fields.length)*40<=140737488355328):=⟨by unfold maxLen;omega,by omega⟩;clear h0;go_wp2_with (at_builtin;refine wpList_append_lies _ rfl _ _ 126 rfl w0.heap.size 125 iF (.agg #[.string ⟨#[]⟩,.i 0,.string ⟨#[]⟩]) 3 40 underlying126 ak an au av rfl (by decide) (.slice a5 fs.length c5) fs.length (fs.flatMap iz) rfl W.o ⟨bf,of,none⟩ cc.fields.length cf (cc.fields.flatMap iz) rfl zgu V.o (zgv _) L aa.o.1 aa.o.2 am _ rfl ?_);intro g cap w1 D J af bd;have HX:=aj (And.intro D (ac.o.grown J am (fun k e=>(W.o.lt k e).1)));clear D J af A
  go_wp21
  go_roundw
  case rel=>
   obtain ⟨D,a9⟩:=HX.o;refine ⟨k+1,fs++cc.fields,by omega,by go_num,ad.o.symm,by simp;omega,?_,?_,a9⟩
   ·show ∀f∈_,_;intro f F;rcases mem_append.1 F with F | F
    ·exact X.o f F
    exact a4.o f F
   rw [length_append,flatMap_append];exact D
  case measure=>simp [intOf];omega
def kw (l:List aq) (n:Nat):List ByteArray×List dc:=((qb l n).flatMap (li l)).foldl fh ([],[])
theorem zoe {l:List ByteArray} {s:ByteArray} {k:Nat} (E:k<l.length) (h:l[k]=s) (D:∀(j:Nat) (A:j<l.length),j<k->l[j]≠s):js l s=k:=by
 have:l.findIdx? (fun x=>decide (x=s))=some k:=by rw [findIdx?_eq_some_iff_getElem];exact ⟨E,by simp [h],fun j A=>by simp [D j (by omega) A]⟩
 rw [js,this]
theorem zof {l:List ByteArray} {s:ByteArray} (D:∀(j:Nat) (A:j<l.length),l[j]≠s):js l s= -1:=by
 have:l.findIdx? (fun x=>decide (x=s))=none:=by rw [findIdx?_eq_none_iff];intro c hc;obtain ⟨j,A,rfl⟩:=getElem_of_mem hc;simp [D j A]
 rw [js,this]
theorem zog (ts:List dc) (t A:dc):(ts++ [t]).set ts.length A=ts++ [A]:=by simp
theorem zoh (hn:n<l.length) (hv:SL 4 RC (· <B) w v l) (hB:B<=w.heap.size) (hN:l.length<=10) (hF:∀c∈l,c.bd.length<=8):
 Calls prog 183 #[v,.i n] w fun r w'=>Bl w w'/\∃v u,r=.returned (.tuple #[v,u])/\SL 1 RS (MT w.heap.size [9] w') w' v (kw l n).1/\SL 2 RT (MT w.heap.size [233] w') w' u (kw l n).2:=by
 obtain ⟨iS,c3,cc,ce,cf⟩:=info_parts A3;obtain ⟨iT,c4,ch,ci,cj⟩:=info_parts zq;have HC:=aj hv;obtain ⟨ao,cl,rfl,-⟩:=hv;obtain ⟨b9,d5⟩:=zn7 hn;have HU:=aj (zoc w B _ l n hn HC.o hB hN);have cx:Hid (kw l n=((qb l n).flatMap (li l)).foldl fh ([],[])):=rfl;generalize qb l n=ln at*;have HK:=aj b9;have cr:=aj hF;clear b9 hF;go_enter func183,ntmps183;go_wp2_with (first | (go_at_call 225;refine HU.o.mono ?_;rintro r Y ⟨bx,u0,rfl,ck⟩;have HI:=aj ck;have Z:=aj bx;obtain ⟨aI,cI,rfl,-⟩:=ck;clear bx));go_loopw [6,7,9] (fun v u i wr=>∃(k:Nat) (ns:List ByteArray) (ts:List dc),k<=ln.length/\i=.i k/\Hid ((ns,ts)=((ln.take k).flatMap (li l)).foldl fh ([],[]))/\ns.length<=8*k/\Hid (ts.length=ns.length)/\Hid (∀s∈ns,s.size<=maxLen)/\
  wr.ownsRow Y.heap.size 9 1 v ns.length (my ns)/\wr.ownsRow Y.heap.size 233 2 u ts.length (ts.flatMap ja)/\Bl Y wr) (fun _ _ i _=>ln.length - (intOf i).toNat)
 case atStart=>exact ⟨0,[],[],n0q _,rfl,rfl,by simp,rfl,(fun f hf=>by cases hf),ownsRow_nil _ _ _ _,ownsRow_nil _ _ _ _,br _ _⟩
 case round=>
  obtain ⟨k,ns,ts,hk,rfl,HP,b4,D,O,F,A,I⟩:=hrel;obtain ⟨a6,c6,rfl⟩:=ku F;obtain ⟨a7,c7,rfl⟩:=ku A;have a5:=I.size;by_cases a3:k<ln.length;rotate_left
  ·have HX:Hid (kw l n=(ns,ts)):=by
    show _=_;rw [cx.o,HP.o,take_of_length_le (by omega)]
   have SN:=aj ((zg1 F O.o (by omega)).monoS (M':=MT w.heap.size [9] wr) fun _ hk=>hk.more Z.o.size (fun _ ht=>ht));have ST:=aj ((zg2 A (by have:=D.o;omega)).monoT (M':=MT w.heap.size [233] wr) fun _ hk=>hk.more Z.o.size (fun _ ht=>ht));have co:=aj (Z.o.trans (I.mono Z.o.size));clear F A
   go_wp21
   go_ret2
   exact ⟨co.o,_,_,rfl,by rw [HX.o];exact SN.o,by rw [HX.o];exact ST.o⟩
  obtain ⟨bi,oi,rfl,b1,ei⟩:=HI.o.atO k a3;have a4:=HK.o ln[k] (gm a3);have bo:=Z.o;obtain ⟨bc,oc,vf,vm,rfl,b0,e0,e1,e2,e3,ef,em,cy,c0⟩:=(HC.o.keptC (Kp.below (bo.mono hB))).atC ln[k] a4;have b2:=cr.o l[ln[k]] (gm a4);have bl:Hid ((ln.take (k+1)).flatMap (li l)=(ln.take k).flatMap (li l)++li l ln[k]):=by show _=_;rw [take_succ_eq_append_getElem a3,flatMap_append];simp
  clear e0 e1 e2 ef cy c0 bo;rw [<-tu a4]at em b2;obtain ⟨mo,cm,rfl,-⟩:=id em;have cn:=aj em;have ak:=aj (And.intro b1 ei);have a9:=aj (And.intro b0 e3);clear em b1 ei b0 e3;generalize ln[k]=m at*;have bn:=aj (zg7 l m);generalize hms:(cz l m).bd=ms at*;have bh:=aj hms;clear hms;have d8:(0:Int)<=m:=by omega
  have ea:(m:Int)<l.length:=by omega
  obtain ⟨PK,a1⟩:∃PK,PK=(ln.take k).flatMap (li l):=⟨_,rfl⟩;rw [<-a1]at HP bl;have du:=aj a1;clear a1
  go_wp21
  go_loopw [6,7,10] (fun v u i N=>∃(j:Nat) (ns:List ByteArray) (ts:List dc),j<=ms.length/\i=.i j/\Hid ((ns,ts)=(PK++(li l m).take j).foldl fh ([],[]))/\ns.length<=8*k+j/\Hid (ts.length=ns.length)/\Hid (∀s∈ns,s.size<=maxLen)/\
   N.ownsRow Y.heap.size 9 1 v ns.length (my ns)/\N.ownsRow Y.heap.size 233 2 u ts.length (ts.flatMap ja)/\Bl Y N) (fun _ _ i _=>ms.length - (intOf i).toNat)
  case atStart=>exact ⟨0,ns,ts,n0q _,rfl,by show _=_;rw [take_zero,append_nil];exact HP.o,by omega,D.o,O.o,F,A,I⟩
  case round=>
   clear F A I HP O b4 D a5
   rename World=>N
   obtain ⟨j,ns,ts,hj,rfl,HP,b4,D,O,F,A,I⟩:=hrel;obtain ⟨a6,c6,rfl⟩:=ku F;obtain ⟨a7,c7,rfl⟩:=ku A;have a5:=I.size;have ei:=(I.cell (p:=⟨bi,oi+k,none⟩) ak.o.1).trans ak.o.2;have e3:=(I.cell (p:=⟨bc,oc+m*4+3,none⟩) a9.o.1).trans a9.o.2;by_cases a2:j<ms.length
   ·obtain ⟨bm,om,va,vh,c8,d2,q0,q1,q2,q3,q4,q5,q6,q7,q8,sa,sh,dk,eg,eh⟩:=(cn.o.keptM (Kp.below (B:=B) (I.mono (lt3 hB Z.o.size)))).atM j a2;subst c8;have bk:Hid (PK++(li l m).take (j+1)=(PK++(li l m).take j)++ [(ms[j].name,⟨m,j⟩)]):=by
     show _=_;have b7:j<(li l m).length:=by rw [bn.o];exact a2
     rw [take_succ_eq_append_getElem b7,append_assoc,zg8 l m j b7 (by rw [bh.o];exact a2)];congr 3;simp [bh.o]
    have aa:=aj F;have G:=aj A;have a8:=aj I;generalize hmj:ms[j].name=nm at*;have SN:Hid (SL 1 RS (MT Y.heap.size [9] N) N (.slice a6 ns.length c6) ns):=zg1 F O.o (by omega);clear F A hmj sa sh q1 q2 q3 q4 q5 q6 q7 q8 I
    go_wp21
    go_loopw [12] (fun i wx=>∃q:Nat,q<=ns.length/\i=.i q/\Hid (∀(j:Nat) (hj:j<ns.length),j<q->ns[j]≠nm)/\wx=N) (fun i _=>ns.length - (intOf i).toNat)
    case atStart=>exact ⟨0,n0q _,rfl,(fun j _ h=>by omega),rfl⟩
    case round=>
     obtain ⟨q,hq,rfl,HQ,rfl⟩:=hrel
     rename World=>N
     by_cases X:q<ns.length
     ·obtain ⟨b6,o6,rfl,d1,d6,_⟩:=SN.o.atS q X;by_cases hs:ns[q]=nm
      ·have dd:(ns[q].toList==nm.toList)=true:=by rw [hs];simp
       have al:=zoe X hs HQ.o;have ay:Hid (fh (ns,ts) (nm,⟨m,j⟩)=(ns,ts.set q ⟨m,j⟩)):=by
        show _=_;have h0:0<=js ns nm:=by omega
        rw [fh,if_pos h0];show (ns,ts.set (js ns nm).toNat _)=_;rw [al];rfl
       clear hs al HQ;obtain ⟨J,c2,dl⟩:∃J,a7=some ⟨J,0,none⟩/\ts.length<=c7:=by
        obtain ⟨h1,h2⟩:=zf0 G.o;rcases h2 with rfl | ⟨g,rfl⟩
        ·rcases G.o.2 with ⟨e,h0⟩ | ⟨g,_,_,e,_⟩
         ·have:=D.o;omega
         cases e
        exact ⟨g,rfl,h1⟩
       subst c2;have W:=G.o.lt J rfl;have k0:N.cell? ⟨J,q*2,none⟩=(ts.flatMap ja)[q*2]? :=G.o.cellAt _ (by have:=D.o;omega);have k1:N.cell? ⟨J,q*2+1,none⟩=(ts.flatMap ja)[q*2+1]? :=G.o.cellAt _ (by have:=D.o;omega);have am:q<ts.length:=by have:=D.o;omega
       have ec:N.cell? ⟨J,q*2,none⟩=some (.i (ts[q]).dj):=by rw [k0];have:=B3 (n:=2) ja ts q 0 (fun _ _=>rfl) am (by decide);simpa [ja]using this
       have ee:N.cell? ⟨J,q*2+1,none⟩=some (.i (ts[q]).uf):=by rw [k1];have:=B3 (n:=2) ja ts q 1 (fun _ _=>rfl) am (by decide);simpa [ja]using this
       obtain ⟨V,af⟩:∃V,N.heap[J]? =some (.cells V 233 (0,0)):=by
        rcases G.o.2 with ⟨e,_⟩ | ⟨g,_,a0,e,_,hb,_⟩
        ·cases e
        cases e;exact ⟨a0,hb⟩
       have z0:∀q,N.frozen? ⟨J,q,none⟩=false:=fun q=>by simp [frozen?,af]
       have df:(0:Int)<=q:=by omega
       have dg:(q:Int)<ts.length:=by have:=D.o;omega
       have ca:(q:Int)<ns.length:=by omega
       have eb:¬(q:Int)=ns.length:=by omega
       have b5:J<N.heap.size:=W.2;clear k0 k1 af
       go_wp21
       go_roundw
       case rel=>
        have ac:=(a8.o.setCell (p:=⟨J,q*2,none⟩) W.1 (.i m)).setCell (p:=⟨J,q*2+1,none⟩) W.1 (.i j);refine ⟨j+1,ns,ts.set q ⟨m,j⟩,by omega,by go_num,?_,by omega,by show _=_;have:=D.o;simpa using this,O.o,?_,?_,ac⟩
        ·show _=_;rw [bk.o,zg5,<-HP.o,ay.o]
        ·refine aa.o.kept (row:=some J) ?_ ?_
         ·exact pi (pi (grownBy.refl _ _) _ _ (inl rfl)) _ _ (inl rfl)
         rcases tw aa.o G.o (by decide)with h | h
         ·exact inl h
         exact inr h
        have:=B4 (B4 G.o (q*2) (.i m)) (q*2+1) (.i j);rw [zg3 ts q ⟨m,j⟩]at this;rw [length_set];exact this
       case measure=>simp [intOf];omega
      have cu:Hid (∀(j:Nat) (hj:j<ns.length),j<q+1->ns[j]≠nm):=fun j hj h=>by
       by_cases c5:j<q
       ·exact HQ.o j hj c5
       have:j=q:=by omega
       subst this;exact hs
      have dd:(ns[q].toList==nm.toList)=false:=by rw [beq_eq_false_iff_ne];exact fun e=>hs (Bu e)
      have ca:(q:Int)<ns.length:=by omega
      clear hs
      go_wp21
      go_roundw
      case rel=>exact ⟨q+1,by omega,by go_num,cu.o,trivial⟩
      case measure=>simp [intOf];omega
     have c9:q=ns.length:=by omega
     subst c9;have c1:=zof (l:=ns) (s:=nm) fun j hj=>HQ.o j hj hj;have ay:Hid (fh (ns,ts) (nm,⟨m,j⟩)=(ns++ [nm],ts++ [⟨m,j⟩])):=by show _=_;rw [fh,if_neg (by show ¬ 0<=js ns nm;omega)]
     have av:Hid (ns.length+1<=maxLen/\(ns.length+1)*16<=140737488355328/\Y.heap.size<=(N.alloc (.cells #[.string nm] 9)).heap.size):=⟨by unfold maxLen;omega,by omega,by simp;omega⟩;have an:∀q,(Value.slice a6 ns.length c6).ownBlock=some q->Y.heap.size<=q/\q<N.heap.size:=fun q e=>aa.o.lt q e;have cs:=aj an;clear c1 HQ X hq SN q0 an;go_wp2_with (at_builtin;refine wpList_append_lies _ rfl _ _ 225 rfl Y.heap.size 9 iS (.string ⟨#[]⟩) 1 16 underlying225 c3 cc ce cf rfl (by decide) (.slice a6 ns.length c6) ns.length (my ns) rfl (aa.o.alloc _) ⟨N.heap.size,0,none⟩ 1 1 [.string nm] rfl rfl (news_of_block (heap_alloc_new N _)) (by intro u hu;simp at hu;subst hu;rfl) (by omega) av.o.1 av.o.2.1 av.o.2.2 _ rfl ?_);intro g6 dz w3 ai ah _ X;have bs:=(G.o.alloc (.cells #[.string nm] 9)).kept ah (tw G.o aa.o (by decide));have ac:Bl Y w3:=(a8.o.alloc a5 _).grown ah (by simp;omega) (fun q e=>(cs.o q e).1);have aw:Hid (ts.length+1<=maxLen/\(ts.length+1)*16<=140737488355328/\Y.heap.size<=(w3.alloc (.cells #[.i 0,.i 0] 233)).heap.size):=⟨by have:=D.o;unfold maxLen;omega,by have:=D.o;omega,by have:=ac.size;simp;omega⟩;have az:=aj bs;have bj:=aj ai;have au:=aj ac;clear ai ah bs ac ei e3
     go_upto_region 16 with (at_builtin;refine wpList_append_lies _ rfl _ _ 226 rfl Y.heap.size 233 iT (.agg #[.i 0,.i 0]) 2 16 underlying226 c4 ch ci cj rfl (by decide) (.slice a7 ts.length c7) ts.length (ts.flatMap ja) rfl (az.o.alloc _) ⟨w3.heap.size,0,none⟩ 1 1 [.i 0,.i 0] rfl rfl (news_of_block (heap_alloc_new w3 _)) (by intro u hu;simp at hu;subst hu;rfl) (by omega) aw.o.1 aw.o.2.1 aw.o.2.2 _ rfl ?_;intro J d0 w4 E L _ ds;have bb:=aj (And.intro E L);clear E L)
     obtain ⟨E,L⟩:=bb.o;have ae:=(bj.o.alloc (.cells #[.i 0,.i 0] 233)).kept L (tw bj.o az.o (by decide));have ad:Bl Y w4:=(au.o.alloc au.o.size _).grown L (by have:=au.o.size;simp;omega) (fun q e=>(az.o.lt q e).1);have ei:=(ad.cell (p:=⟨bi,oi+k,none⟩) ak.o.1).trans ak.o.2;have W:=E.lt J rfl;have b3:((ts++ [(⟨0,0⟩:dc)]).flatMap ja)=ts.flatMap ja++ [.i 0,.i 0]:=by rw [flatMap_append];rfl
     have d3:w4.cell? ⟨J,ns.length*2,none⟩=some (.i 0):=by have:=E.cellAt (ns.length*2) (by have:=D.o;omega);rw [this,<-D.o,getElem?_append_right (by rw [Dv];omega),Dv];simp
     have d4:w4.cell? ⟨J,ns.length*2+1,none⟩=some (.i 0):=by have:=E.cellAt (ns.length*2+1) (by have:=D.o;omega);rw [this,<-D.o,getElem?_append_right (by rw [Dv];omega),Dv,show ts.length*2+1 - ts.length*2=1 by omega];rfl
     obtain ⟨V,af⟩:∃V,w4.heap[J]? =some (.cells V 233 (0,0)):=by
      rcases E.2 with ⟨e,_⟩ | ⟨g,_,a0,e,_,hb,_⟩
      ·cases e
      cases e;exact ⟨a0,hb⟩
     have z0:∀q,w4.frozen? ⟨J,q,none⟩=false:=fun q=>by simp [frozen?,af]
     have b5:J<w4.heap.size:=W.2;have df:(0:Int)<=ns.length:=by omega
     have dg:(ns.length:Int)<(ts.length:Int)+1:=by have:=D.o;omega
     have ca:(ns.length:Int)<((ts.length+1:Nat):Int):=by have:=D.o;omega
     have ba:=aj (And.intro ae (And.intro E ad));have bf:=aj W;have cp:=aj b3;clear ae E L ad W af bb b3
     go_wp21
     go_roundw
     case rel=>
      obtain ⟨ae,bu,ad⟩:=ba.o;refine ⟨j+1,ns++ [nm],ts++ [⟨m,j⟩],by omega,by go_num,?_,by simp;omega,by show _=_;have:=D.o;simp;omega,?_,?_,?_,(ad.setCell (p:=⟨J,ns.length*2,none⟩) bf.o.1 (.i m)).setCell (p:=⟨J,ns.length*2+1,none⟩) bf.o.1 (.i j)⟩
      ·show _=_;rw [bk.o,zg5,<-HP.o,ay.o]
      ·show ∀s∈_,_;intro s hs;rcases mem_append.1 hs with hs | hs
       ·exact O.o s hs
       rw [mem_singleton]at hs;rw [hs];exact dk
      ·rw [length_append,show my (ns++ [nm])=my ns++ [.string nm] by simp [my]];refine ae.kept (row:=some J) ?_ ?_
       ·exact pi (pi (grownBy.refl _ _) _ _ (inl rfl)) _ _ (inl rfl)
       rcases tw ae bu (by decide)with h | h
       ·exact inl h
       exact inr h
      have:=B4 (B4 bu (ns.length*2) (.i m)) (ns.length*2+1) (.i j);rw [<-cp.o,zg3 (ts++ [(⟨0,0⟩:dc)]) ns.length ⟨m,j⟩,show (ts++ [(⟨0,0⟩:dc)]).set ns.length ⟨m,j⟩=ts++ [⟨m,j⟩] from by rw [<-D.o];exact zog ts ⟨0,0⟩ ⟨m,j⟩]at this;rw [length_append];exact this
     case measure=>simp [intOf];omega
   have HX:Hid ((ns,ts)=((ln.take (k+1)).flatMap (li l)).foldl fh ([],[])):=by show _=_;rw [bl.o,HP.o,take_of_length_le (by rw [bn.o];omega)]
   have ct:=aj F;have cv:=aj A;clear F A
   go_wp21
   go_roundw
   case rel=>exact ⟨k+1,ns,ts,by omega,by go_num,HX.o,by omega,D.o,O.o,ct.o,cv.o,I⟩
   case measure=>simp [intOf];omega
end Go.Proofs.YtjdnmblggdobgaaGreat
