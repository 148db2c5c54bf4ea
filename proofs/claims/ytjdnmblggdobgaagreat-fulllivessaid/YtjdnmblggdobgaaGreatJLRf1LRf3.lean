import Derived.Test.YtjdnmblggdobgaaGreatJLNoneLSaD
import Derived.Deep.DeepCutAuto
set_option maxHeartbeats 8000000
set_option maxRecDepth 100000
namespace Go.Proofs.YtjdnmblggdobgaaGreat
open Go.RowKit Go.Sort
def firstAt (l:List ClassD) (s:ByteArray):Int:=match l.findIdx? (fun c=>decide (c.name=s))with | some i=>i | none=>-1
theorem zok {l:List ClassD} {s:ByteArray} {k:Nat} (hk:k<l.length) (h:l[k].name=s) (hb:∀(j:Nat) (hj:j<l.length),j<k->l[j].name≠s):firstAt l s=k:=by
 have:l.findIdx? (fun c=>decide (c.name=s))=some k:=by
  rw [List.findIdx?_eq_some_iff_getElem]
  exact ⟨hk,by simp [h],fun j hj=>by simp [hb j (by omega) hj]⟩
 rw [firstAt,this]
theorem zol {l:List ClassD} {s:ByteArray} (hb:∀(j:Nat) (hj:j<l.length),l[j].name≠s):firstAt l s= -1:=by
 have:l.findIdx? (fun c=>decide (c.name=s))=none:=by
  rw [List.findIdx?_eq_none_iff]
  intro c hc
  obtain ⟨j,hj,rfl⟩:=List.getElem_of_mem hc
  simp [hb j hj]
 rw [firstAt,this]
theorem zom (l:List ClassD) (s:ByteArray): -1<=firstAt l s/\firstAt l s<l.length:=by
 unfold firstAt
 split
 ·
  rename_i i h
  have:=(List.findIdx?_eq_some_iff_getElem.1 h).1
  omega
 omega
theorem zon (w:World) (M:Nat->Prop) (v:Value) (l:List ClassD) (s:ByteArray) (hv:SL 4 RC M w v l):
 Calls Tryz.prog 184 #[v,.string s] w fun r w'=>r=.returned (.int .i64 (firstAt l s))/\w'=w:=by
 have HV:=mk0 hv
 obtain ⟨ao,cl,rfl,-,hl,-⟩:=hv
 unfold maxLen at hl
 go_enter Tryz.func184,Tryz.ntmps184
 go_wp2
 go_loopw [5] (fun i wr=>∃k:Nat,k<=l.length/\i=.int .i64 k/\Hid (∀(j:Nat) (hj:j<l.length),j<k->l[j].name≠s)/\wr=w) (fun i _=>l.length - (intOf i).toNat)
 case atStart=>exact ⟨0,Nat.zero_le _,rfl,(fun j _ h=>by omega),rfl⟩
 case round=>
  obtain ⟨k,hk,rfl,HQ,rfl⟩:=hrel
  by_cases hlt:k<l.length
  ·
   obtain ⟨b,off,vf,vm,rfl,hb,e0,e1,e2,e3,ef,em,es1,es2⟩:=HV.out.atC k hlt
   clear ef em e1 e2 e3 es1 es2
   by_cases hs:l[k].name=s
   ·
    have HR:=mk0 (zok hlt hs HQ.out)
    have hs':(l[k].name.toList==s.toList)=true:=by rw [hs];simp
    clear hs
    go_wp2
    go_ret
    exact ⟨by rw [HR.out];rfl,rfl⟩
   have HQ':Hid (∀(j:Nat) (hj:j<l.length),j<k+1->l[j].name≠s):=fun j hj h=>by
    by_cases hjk:j<k
    ·
     exact HQ.out j hj hjk
    have:j=k:=by omega
    subst this
    exact hs
   have hs':(l[k].name.toList==s.toList)=false:=by
    rw [beq_eq_false_iff_ne]
    exact fun e=>hs (zb9 e)
   clear hs
   go_wp2
   go_roundw
   case rel=>exact ⟨k+1,by omega,by go_num,HQ'.out,trivial⟩
   case measure=>simp [intOf];omega
  have HR:=mk0 (zol (l:=l) (s:=s) fun j hj=>HQ.out j hj (by omega))
  go_wp2
  go_ret
  exact ⟨by rw [HR.out];rfl,rfl⟩
def toldK (l:List ClassD) (k:KindD):Bool:=decide (k.cls=(⟨#[]⟩:ByteArray))||decide (0<=firstAt l k.cls)
theorem zoo (w:World) (M M':Nat->Prop) (v u:Value) (l:List ClassD) (ks:List KindD) (hv:SL 4 RC M w v l) (hu:SL 2 RK M' w u ks):
 Calls Tryz.prog 226 #[v,u] w fun r w'=>r=.returned (.bool (ks.all (toldK l)))/\w'=w:=by
 have HV:=mk0 hv
 have HU:=mk0 hu
 obtain ⟨ao,cl,rfl,-,hl,-⟩:=hv
 obtain ⟨au,cu,rfl,-,hlu,-⟩:=hu
 unfold maxLen at hl hlu
 go_enter Tryz.func226,Tryz.ntmps226
 go_wp2
 go_loopw [5] (fun i wr=>∃k:Nat,k<=ks.length/\i=.int .i64 k/\Hid (ks.all (toldK l)=(ks.drop k).all (toldK l))/\wr=w) (fun i _=>ks.length - (intOf i).toNat)
 case atStart=>exact ⟨0,Nat.zero_le _,rfl,rfl,rfl⟩
 case round=>
  obtain ⟨k,hk,rfl,HQ,rfl⟩:=hrel
  by_cases hlt:k<ks.length
  ·
   obtain ⟨b,off,rfl,hb,e0,e1,es⟩:=HU.out.atK k hlt
   have HST:Hid ((ks.drop k).all (toldK l)=(toldK l ks[k]&&(ks.drop (k+1)).all (toldK l))):=by
    show _=_
    rw [List.drop_eq_getElem_cons hlt,List.all_cons]
   have HCA:=mk0 (zon wr M _ l ks[k].cls HV.out)
   have hbd:=zom l ks[k].cls
   have HTK:Hid (toldK l ks[k]=(decide (ks[k].cls=(⟨#[]⟩:ByteArray))||decide (0<=firstAt l ks[k].cls))):=rfl
   generalize ks[k]=x at*
   generalize firstAt l x.cls=fa at*
   have hb1:=hbd.1
   have hb2:=hbd.2
   clear hbd e0 es
   by_cases hn:x.cls=⟨#[]⟩
   ·
    have hn':=zcb hn
    have HQ':Hid (ks.all (toldK l)=(ks.drop (k+1)).all (toldK l)):=HQ.out.trans (by rw [HST.out,HTK.out];simp [hn])
    clear hn HCA
    go_wp2
    go_roundw
    case rel=>exact ⟨k+1,by omega,by go_num,HQ'.out,trivial⟩
    case measure=>simp [intOf];omega
   have hn':x.cls.toList.isEmpty=false:=by
    cases hq:x.cls.toList with
    | nil=>exact absurd (zca hq) hn
    | cons _ _=>rfl
   by_cases hf:fa<0
   ·
    have HQ':Hid (ks.all (toldK l)=false):=HQ.out.trans (by rw [HST.out,HTK.out];simp [hn];omega)
    clear hn
    go_wp2_with (first | (go_at_call 184;refine HCA.out.mono ?_;rintro r w7 ⟨rfl,rfl⟩))
    go_ret
    exact ⟨by rw [HQ'.out];rfl,rfl⟩
   have HQ':Hid (ks.all (toldK l)=(ks.drop (k+1)).all (toldK l)):=HQ.out.trans (by
    rw [HST.out,HTK.out]
    have:(0:Int)<=fa:=by omega
    simp [this])
   clear hn
   go_wp2_with (first | (go_at_call 184;refine HCA.out.mono ?_;rintro r w7 ⟨rfl,rfl⟩))
   go_roundw
   case rel=>exact ⟨k+1,by omega,by go_num,HQ'.out,trivial⟩
   case measure=>simp [intOf];omega
  have HQ':Hid (ks.all (toldK l)=true):=HQ.out.trans (by rw [List.drop_of_length_le (by omega)];rfl)
  go_wp2
  go_ret
  exact ⟨by rw [HQ'.out];rfl,rfl⟩
def supF (l:List ClassD) (n:Nat):Int:=firstAt l (clsAt l n).super
def upF (l:List ClassD):Nat->Int->List Nat->List Nat
 | 0,_,_=>[]
 | f+1,n,out=>if 0<=n then (if l.length<out.length then [] else upF l f (supF l n.toNat) (n.toNat::out)) else out
def upOf (l:List ClassD) (n:Nat):List Nat:=upF l (l.length+3) n []
theorem zop (l:List ClassD):∀(f:Nat) (n:Int) (out:List Nat),n<l.length->(∀k∈out,k<l.length)->out.length<=l.length+1->(∀k∈upF l f n out,k<l.length)/\(upF l f n out).length<=l.length+1
 | 0,_,_,_,_,_=>⟨(fun k hk=>by cases hk),by simp [upF]⟩
 | f+1,n,out,hn,ho,hl=>by
   rw [upF]
   split
   ·
    split
    ·
     exact ⟨(fun k hk=>by cases hk),by simp⟩
    exact zop l f _ _ (zom l _).2 (fun k hk=>by
     rcases List.mem_cons.1 hk with rfl | hk
     ·
      omega
     exact ho k hk) (by simp;omega)
   exact ⟨ho,hl⟩
theorem zoq {l:List ClassD} {n:Nat} (hn:n<l.length):(∀k∈upOf l n,k<l.length)/\(upOf l n).length<=l.length+1:=
 zop l _ n [] (by omega) (fun k hk=>by cases hk) (by simp)
theorem zor (ns:List Nat):(ints ns).length=ns.length:=by simp [ints]
theorem zos (ns:List Nat):∀u∈ints ns,u.oneCell'=true:=by
 intro u hu
 obtain ⟨x,_,rfl⟩:=List.mem_map.1 hu
 rfl
theorem zot {w:World} {B:Nat} {v:Value} {ns:List Nat} (h:w.ownsRow B 3 1 v ns.length (ints ns)) (hl:ns.length<=1000):SL 1 RO (MT B [3] w) w v ns:=by
 have hz:(ns.map fun x:Nat=>([Value.int .i64 (x:Int)],x)).length=ns.length:=by simp
 have hf:(ns.map fun x:Nat=>([Value.int .i64 (x:Int)],x)).flatMap (·.1)=ints ns:=by
  rw [List.flatMap_map,ints]
  clear h hl hz
  induction ns with
  | nil=>rfl
  | cons x r ih=>rw [List.flatMap_cons,ih];rfl
 have:=ze4 (n:=1) (R:=RO) (T:=[3]) (zs:=ns.map fun x:Nat=>([Value.int .i64 (x:Int)],x)) (by rw [hz,hf];exact h) (fun z hz=>by
  obtain ⟨s,hs',rfl⟩:=List.mem_map.1 hz
  exact ⟨rfl,rfl⟩) (by simp) (by rw [hz];unfold maxLen;omega)
 rwa [List.map_map,show ((·.2)∘fun x:Nat=>([Value.int .i64 (x:Int)],x))=id from rfl,List.map_id]at this
theorem zou {w:World} {B g cap:Nat} {ns:List Nat} (h:w.ownsRow B 3 1 (.slice (some ⟨g,0,none⟩) ns.length cap) ns.length (ints ns)):∀j u,(ints ns)[j]? =some u->w.cell? ((⟨g,0,none⟩:Addr).add j)=some u:=by
 intro j u hu
 rcases h.2 with ⟨e,_⟩ | ⟨g',cap',cur,e,_,hg,_,_,_,ht⟩
 ·
  cases (Value.slice.inj e).1
 obtain ⟨e1,_,_⟩:=Value.slice.inj e
 obtain rfl:g=g':=by simpa using e1
 rw [zg1]
 simp only [World.cell?,hg,Nat.zero_add]
 rw [<-ht]at hu
 rw [List.getElem?_take]at hu
 split at hu
 ·
  simpa using hu
 cases hu
theorem zov (w:World) (B:Nat) (v:Value) (l:List ClassD) (n:Nat) (hn:n<l.length) (hv:SL 4 RC (· <B) w v l) (hB:B<=w.heap.size) (hN:l.length<=10):
 Calls Tryz.prog 225 #[v,.int .i64 n] w fun r w'=>Below w.heap.size w w'/\∃u,r=.returned u/\SL 1 RO (MT w.heap.size [3] w') w' u (upOf l n):=by
 obtain ⟨iI,hiI,hzI0,hzI1,hzI2⟩:=info_parts Tryz.infoInt
 have HV:=mk0 hv
 obtain ⟨ao,cl,rfl,-⟩:=hv
 go_enter Tryz.func225,Tryz.ntmps225
 go_wp2_with fail
 go_loopg [1,5] (l.length+3) (fun f i v wr=>∃(out:List Nat) (m:Int),i=.int .i64 m/\ -1<=m/\m<l.length/\out.length+f=l.length+3/\out.length<=l.length+1/\Hid (upOf l n=upF l f m out)/\wr.ownsRow w.heap.size 3 1 v out.length (ints out)/\Below w.heap.size w wr)
 case atStart=>exact ⟨[],n,rfl,by omega,by omega,by simp,by simp,rfl,World.ownsRow_nil _ _ _ _,Below.refl _ _⟩
 case round=>
  rename Nat=>f
  obtain ⟨out,m,rfl,hm1,hm2,hf,hol,HP,hown,hBr⟩:=hrel
  obtain ⟨a5,c5,rfl⟩:=zfz hown
  have hsr:=hBr.size
  obtain ⟨f',rfl⟩:∃f',f=f'+1:=⟨f - 1,by omega⟩
  by_cases h0:0<=m
  ·
   by_cases hx:l.length<out.length
   ·
    have HR:Hid (upOf l n= []):=HP.out.trans (by rw [upF,if_pos h0,if_pos hx])
    have hx':(l.length:Int)<out.length:=by omega
    clear hown
    go_wp2_with fail
    go_ret
    exact ⟨hBr,_,rfl,by rw [HR.out];exact ⟨none,0,rfl,Nat.le_refl _,by unfold maxLen;simp,fun k hk=>by cases hk⟩⟩
   have hx':¬(l.length:Int)<out.length:=by omega
   have HP':Hid (upOf l n=upF l f' (supF l m.toNat) (m.toNat::out)):=HP.out.trans (by rw [upF,if_pos h0,if_neg hx])
   obtain ⟨mn,rfl⟩:=Int.eq_ofNat_of_zero_le h0
   have hmn:mn<l.length:=by omega
   have HOW:=mk0 hown
   have HN0:Hid ((wr.alloc (.cells #[.int .i64 (mn:Int)] 3)).ownsRow w.heap.size 3 1 (.slice (some ⟨wr.heap.size,0,none⟩) 1 1) 1 [.int .i64 (mn:Int)]):=
    ⟨rfl,Or.inr ⟨wr.heap.size,1,#[.int .i64 (mn:Int)],rfl,hsr,heap_alloc_new wr _,Nat.le_refl _,by unfold maxLen;omega,rfl,rfl⟩⟩
   have HSB:=mk0 (zom l (clsAt l mn).super)
   have hi0:(0:Int)<=mn:=by omega
   have hi1:(mn:Int)<l.length:=by omega
   by_cases h5:out.length=0
   ·
    have h50:out= []:=List.eq_nil_of_length_eq_zero h5
    have HO:=mk0 h50
    have hB1:Below w.heap.size w (wr.alloc (.cells #[.int .i64 (mn:Int)] 3)):=hBr.alloc hsr _
    obtain ⟨b,off,vf,vm,rfl,hb,e0,e1,e2,e3,ef,em,es1,es2⟩:=(HV.out.keptC (Kp.below (hB1.mono hB))).atC mn hmn
    clear ef em e0 e2 e3 es1
    have HCA:=mk0 (zon (wr.alloc (.cells #[.int .i64 (mn:Int)] 3)) (· <B) _ l l[mn].super (HV.out.keptC (Kp.below (hB1.mono hB))))
    have HBX:=mk0 hB1
    rw [h5]
    clear hown h5 h50 hB1 es2
    go_wp2_with (first | (at_builtin;refine zf9 _ rfl _ _ 22 rfl 3 iI Tryz.underlying22 hiI (some ⟨wr.heap.size,0,none⟩) 1 1 rfl (by decide) (Or.inr ⟨_,rfl⟩) a5 c5 rfl ?_) | (go_at_call 184;refine HCA.out.mono ?_;rintro r w7 ⟨rfl,rfl⟩))
    go_roundg f'
    case measure=>omega
    case rel=>exact ⟨[mn],supF l mn,(by rw [supF,zay hmn]),HSB.out.1,HSB.out.2,by have:=HO.out;subst this;simp at hf ⊢;omega,by simp,by have:=HO.out;subst this;exact HP'.out,HN0.out,HBX.out⟩
   obtain ⟨g,cap,hvg,hgw,hglt⟩:=hown.form (by omega)
   obtain ⟨rfl,-,rfl⟩:=Value.slice.inj hvg
   have HNEWS:Hid (∀j u,(ints out)[j]? =some u->(wr.alloc (.cells #[.int .i64 (mn:Int)] 3)).cell? ((⟨g,0,none⟩:Addr).add j)=some u):=zou (hown.alloc _)
   have HBB:Hid (1+out.length<=maxLen/\(1+out.length)*8<=140737488355328/\w.heap.size<=(wr.alloc (.cells #[.int .i64 (mn:Int)] 3)).heap.size/\(ints out).length=out.length*1/\0<out.length):=⟨by unfold maxLen;omega,by omega,by simp;omega,by rw [zor];omega,by omega⟩
   have HBr:=mk0 hBr
   clear hown h5 hvg hBr
   go_upto_region 6 with (at_builtin;refine wpList_append_lies _ rfl _ _ 22 rfl w.heap.size 3 iI (.int .i64 0) 1 8 Tryz.underlying22 hiI hzI0 hzI1 hzI2 rfl (by decide) (.slice (some ⟨wr.heap.size,0,none⟩) 1 1) 1 [.int .i64 (mn:Int)] rfl HN0.out ⟨g,0,none⟩ out.length c5 (ints out) rfl HBB.out.2.2.2.1 HNEWS.out (zos _) HBB.out.2.2.2.2 HBB.out.1 HBB.out.2.1 HBB.out.2.2.1 _ rfl ?_;intro g1 cap1 w1 hown1 hgr1 hat1 hlt1;have hB1:Below w.heap.size w w1:=(HBr.out.alloc hsr _).grown hgr1 (by simp;omega) (fun k e=>by cases e;exact hsr);have HX:=mk0 (And.intro hown1 hB1);clear hown1 hgr1 hat1 hB1)
   obtain ⟨b,off,vf,vm,rfl,hb,e0,e1,e2,e3,ef,em,es1,es2⟩:=(HV.out.keptC (Kp.below (HX.out.2.mono hB))).atC mn hmn
   clear ef em e0 e2 e3 es1
   have HCA:=mk0 (zon w1 (· <B) _ l l[mn].super (HV.out.keptC (Kp.below (HX.out.2.mono hB))))
   clear es2
   go_wp2_with (first | (go_at_call 184;refine HCA.out.mono ?_;rintro r w7 ⟨rfl,rfl⟩))
   go_roundg f'
   case measure=>omega
   case rel=>exact ⟨mn::out,supF l mn,(by rw [supF,zay hmn]),HSB.out.1,HSB.out.2,by simp;omega,by simp;omega,HP'.out,by have:=HX.out.1;rw [List.length_cons,Nat.add_comm out.length 1];exact this,HX.out.2⟩
  have HR:Hid (upOf l n=out):=HP.out.trans (by rw [upF,if_neg h0])
  have SV:=mk0 (zot hown (by omega))
  clear hown
  go_wp2_with fail
  go_ret
  exact ⟨hBr,_,rfl,by rw [HR.out];exact SV.out⟩
def allF (l:List ClassD) (n:Nat):List FieldD:=(upOf l n).flatMap fun k=>(clsAt l k).fields
theorem zow (w:World) (B:Nat) (v:Value) (l:List ClassD) (n:Nat) (hn:n<l.length) (hv:SL 4 RC (· <B) w v l) (hB:B<=w.heap.size) (hN:l.length<=10) (hF:∀c∈l,c.fields.length<=6):
 Calls Tryz.prog 182 #[v,.int .i64 n] w fun r w'=>Below w.heap.size w w'/\∃u,r=.returned u/\SL 3 RF (MT w.heap.size [125] w') w' u (allF l n):=by
 obtain ⟨iF,hiF,hzF0,hzF1,hzF2⟩:=info_parts Tryz.infoField
 have HC:=mk0 hv
 obtain ⟨ao,cl,rfl,-⟩:=hv
 obtain ⟨hkL,hlL⟩:=zoq hn
 have HU:=mk0 (zov w B _ l n hn HC.out hB hN)
 have HFO:Hid (allF l n=(upOf l n).flatMap fun k=>(clsAt l k).fields):=rfl
 generalize upOf l n=ln at*
 have HK:=mk0 hkL
 have HFF:=mk0 hF
 clear hkL hF
 go_enter Tryz.func182,Tryz.ntmps182
 go_wp2_with (first | (go_at_call 225;refine HU.out.mono ?_;rintro r w0 ⟨hb0,u0,rfl,su0⟩;have HI:=mk0 su0;have HB0:=mk0 hb0;obtain ⟨aI,cI,rfl,-⟩:=su0;clear hb0))
 go_loopw [5,7] (fun v i wr=>∃(k:Nat) (fs:List FieldD),k<=ln.length/\i=.int .i64 k/\Hid (fs=(ln.take k).flatMap fun k=>(clsAt l k).fields)/\fs.length<=6*k/\Hid (∀f∈fs,f.name.size<=maxLen/\f.kind.cls.size<=maxLen)/\wr.ownsRow w0.heap.size 125 3 v fs.length (fs.flatMap fcells)/\Below w0.heap.size w0 wr) (fun _ i _=>ln.length - (intOf i).toNat)
 case atStart=>exact ⟨0,[],Nat.zero_le _,rfl,rfl,by simp,(fun f hf=>by cases hf),World.ownsRow_nil _ _ _ _,Below.refl _ _⟩
 case round=>
  obtain ⟨k,fs,hk,rfl,HP,hfl,HSZ,hown,hBr⟩:=hrel
  obtain ⟨a5,c5,rfl⟩:=zfz hown
  have hsr:=hBr.size
  have hBw:Below w.heap.size w wr:=HB0.out.trans (hBr.mono HB0.out.size)
  by_cases hlt:k<ln.length
  ·
   obtain ⟨bi,oi,rfl,hbi,ei⟩:=HI.out.atO k hlt
   have ei':=(hBr.cell (p:=⟨bi,oi+k,none⟩) hbi).trans ei
   have hmk:=HK.out ln[k] (List.getElem_mem hlt)
   obtain ⟨bc,oc,vf,vm,rfl,hbc,e0,e1,e2,e3,ef,em,es1,es2⟩:=(HC.out.keptC (Kp.below (hBw.mono hB))).atC ln[k] hmk
   have hcf:=HFF.out l[ln[k]] (List.getElem_mem hmk)
   have HCA:Hid (clsAt l ln[k]=l[ln[k]]):=zay hmk
   obtain ⟨m,hm⟩:∃m,m=ln[k]:=⟨_,rfl⟩
   generalize hcc:l[ln[k]]=cc at*
   clear hcc
   rw [<-hm]at ei' e0 e1 e2 e3 hmk
   have hm0:(0:Int)<=m:=by omega
   have hm1:(m:Int)<l.length:=by omega
   have EF:=mk0 ef
   obtain ⟨fo,cf,rfl,-⟩:=ef
   have HOW:=mk0 hown
   have hszF:∀f∈cc.fields,f.name.size<=maxLen/\f.kind.cls.size<=maxLen:=by
    intro f hf
    obtain ⟨q,hq,rfl⟩:=List.getElem_of_mem hf
    obtain ⟨_,_,_,_,_,_,_,h1,h2⟩:=EF.out.atF q hq
    exact ⟨h1,h2⟩
   have HSF:=mk0 hszF
   have HNX:Hid ((ln.take (k+1)).flatMap (fun k=>(clsAt l k).fields)=fs++cc.fields):=by
    show _=_
    rw [List.take_succ_eq_append_getElem hlt,List.flatMap_append,<-HP.out]
    simp [HCA.out]
   clear hm ei hszF em es1 es2 e0 e1 e3
   have HBr:=mk0 hBr
   clear hBw hBr
   by_cases h0:cc.fields= []
   ·
    have HNE:=mk0 h0
    rw [h0]at e2
    clear h0
    obtain ⟨hc5,ha5⟩:=zga hown
    go_wp2_with (at_builtin;refine zf9 _ rfl _ _ 126 rfl 125 iF Tryz.underlying126 hiF a5 fs.length c5 rfl hc5 ha5 fo cf rfl ?_)
    clear ha5 hc5
    go_wp2_with fail
    go_roundw
    case rel=>exact ⟨k+1,fs,by omega,by go_num,by show _=_;have:=HNX.out;rw [HNE.out,List.append_nil]at this;exact this.symm,by omega,HSZ.out,HOW.out,HBr.out⟩
    case measure=>simp [intOf];omega
   have hpos:0<cc.fields.length:=List.length_pos_iff.2 h0
   obtain ⟨bf,of,hfo⟩:∃bf of,fo=some ⟨bf,of,none⟩:=by
    obtain ⟨bf,of,e,_⟩:=EF.out.atF 0 hpos
    exact ⟨bf,of,e⟩
   subst hfo
   have HNEWS:Hid (∀j u,(cc.fields.flatMap fcells)[j]? =some u->wr.cell? ((⟨bf,of,none⟩:Addr).add j)=some u):=zg2 fcells (by decide) (fun x _=>rfl) (fun _ _ h=>h.1) EF.out
   have HBB:Hid (fs.length+cc.fields.length<=maxLen/\(fs.length+cc.fields.length)*40<=140737488355328):=⟨by unfold maxLen;omega,by omega⟩
   clear h0
   go_wp2_with (at_builtin;refine wpList_append_lies _ rfl _ _ 126 rfl w0.heap.size 125 iF (.agg #[.string ⟨#[]⟩,.int .i64 0,.string ⟨#[]⟩]) 3 40 Tryz.underlying126 hiF hzF0 hzF1 hzF2 rfl (by decide) (.slice a5 fs.length c5) fs.length (fs.flatMap fcells) rfl HOW.out ⟨bf,of,none⟩ cc.fields.length cf (cc.fields.flatMap fcells) rfl zg3 HNEWS.out (zg4 _) hpos HBB.out.1 HBB.out.2 hsr _ rfl ?_)
   intro g cap w1 hown1 hgr1 hat1 hlt1
   have HX:=mk0 (And.intro hown1 (HBr.out.grown hgr1 hsr (fun k e=>(HOW.out.lt k e).1)))
   clear hown1 hgr1 hat1 hown
   go_wp2_with fail
   go_roundw
   case rel=>
    obtain ⟨hown1,hB1⟩:=HX.out
    refine ⟨k+1,fs++cc.fields,by omega,by go_num,HNX.out.symm,by simp;omega,?_,?_,hB1⟩
    ·
     show ∀f∈_,_
     intro f hf
     rcases List.mem_append.1 hf with hf | hf
     ·
      exact HSZ.out f hf
     exact HSF.out f hf
    rw [List.length_append,List.flatMap_append]
    exact hown1
   case measure=>simp [intOf];omega
  have HX:Hid (allF l n=fs):=by
   show _=_
   rw [HFO.out,HP.out,List.take_of_length_le (by omega)]
  have hzs:(fs.map fun f=>(fcells f,f)).length=fs.length:=by simp
  have hzf:(fs.map fun f=>(fcells f,f)).flatMap (·.1)=fs.flatMap fcells:=by rw [List.flatMap_map]
  have sv:=ze4 (n:=3) (R:=RF) (T:=[125]) (zs:=fs.map fun f=>(fcells f,f)) (by rw [hzs,hzf];exact hown) (fun z hz=>by
   obtain ⟨f,hf,rfl⟩:=List.mem_map.1 hz
   exact ⟨rfl,rfl,HSZ.out f hf⟩) (by simp) (by rw [hzs];unfold maxLen;omega)
  have SV:=mk0 (sv.monoF (M':=MT w.heap.size [125] wr) fun _ hk=>hk.more HB0.out.size (fun _ ht=>ht))
  have HBW:=mk0 hBw
  clear hzs hzf hown sv hBw hBr
  go_wp2_with fail
  go_ret
  exact ⟨HBW.out,_,rfl,by rw [HX.out];have:=SV.out;rwa [List.map_map,show ((·.2)∘fun f:FieldD=>(fcells f,f))=id from rfl,List.map_id]at this⟩
def tabF (l:List ClassD) (n:Nat):List ByteArray×List TargD:=((upOf l n).flatMap (ownT l)).foldl tabStep ([],[])
theorem zox {l:List ByteArray} {s:ByteArray} {k:Nat} (hk:k<l.length) (h:l[k]=s) (hb:∀(j:Nat) (hj:j<l.length),j<k->l[j]≠s):idxS l s=k:=by
 have:l.findIdx? (fun x=>decide (x=s))=some k:=by
  rw [List.findIdx?_eq_some_iff_getElem]
  exact ⟨hk,by simp [h],fun j hj=>by simp [hb j (by omega) hj]⟩
 rw [idxS,this]
theorem zoy {l:List ByteArray} {s:ByteArray} (hb:∀(j:Nat) (hj:j<l.length),l[j]≠s):idxS l s= -1:=by
 have:l.findIdx? (fun x=>decide (x=s))=none:=by
  rw [List.findIdx?_eq_none_iff]
  intro c hc
  obtain ⟨j,hj,rfl⟩:=List.getElem_of_mem hc
  simp [hb j hj]
 rw [idxS,this]
theorem zoz (ts:List TargD) (t t':TargD):(ts++ [t]).set ts.length t'=ts++ [t']:=by simp
theorem zo0 (w:World) (B:Nat) (v:Value) (l:List ClassD) (n:Nat) (hn:n<l.length) (hv:SL 4 RC (· <B) w v l) (hB:B<=w.heap.size) (hN:l.length<=10) (hF:∀c∈l,c.meths.length<=8):
 Calls Tryz.prog 183 #[v,.int .i64 n] w fun r w'=>Below w.heap.size w w'/\∃v u,r=.returned (.tuple #[v,u])/\SL 1 RS (MT w.heap.size [9] w') w' v (tabF l n).1/\SL 2 RT (MT w.heap.size [233] w') w' u (tabF l n).2:=by
 obtain ⟨iS,hiS,hzS0,hzS1,hzS2⟩:=info_parts Tryz.infoStr
 obtain ⟨iT,hiT,hzT0,hzT1,hzT2⟩:=info_parts Tryz.infoTarg
 have HC:=mk0 hv
 obtain ⟨ao,cl,rfl,-⟩:=hv
 obtain ⟨hkL,hlL⟩:=zoq hn
 have HU:=mk0 (zov w B _ l n hn HC.out hB hN)
 have HTO:Hid (tabF l n=((upOf l n).flatMap (ownT l)).foldl tabStep ([],[])):=rfl
 generalize upOf l n=ln at*
 have HK:=mk0 hkL
 have HFF:=mk0 hF
 clear hkL hF
 go_enter Tryz.func183,Tryz.ntmps183
 go_wp2_with (first | (go_at_call 225;refine HU.out.mono ?_;rintro r w0 ⟨hb0,u0,rfl,su0⟩;have HI:=mk0 su0;have HB0:=mk0 hb0;obtain ⟨aI,cI,rfl,-⟩:=su0;clear hb0))
 go_loopw [6,7,9] (fun v u i wr=>∃(k:Nat) (ns:List ByteArray) (ts:List TargD),k<=ln.length/\i=.int .i64 k/\Hid ((ns,ts)=((ln.take k).flatMap (ownT l)).foldl tabStep ([],[]))/\ns.length<=8*k/\Hid (ts.length=ns.length)/\Hid (∀s∈ns,s.size<=maxLen)/\
  wr.ownsRow w0.heap.size 9 1 v ns.length (scells ns)/\wr.ownsRow w0.heap.size 233 2 u ts.length (ts.flatMap tcell)/\Below w0.heap.size w0 wr) (fun _ _ i _=>ln.length - (intOf i).toNat)
 case atStart=>exact ⟨0,[],[],Nat.zero_le _,rfl,rfl,by simp,rfl,(fun f hf=>by cases hf),World.ownsRow_nil _ _ _ _,World.ownsRow_nil _ _ _ _,Below.refl _ _⟩
 case round=>
  obtain ⟨k,ns,ts,hk,rfl,HP,hfl,HTS,HSZ,hown,hownT,hBr⟩:=hrel
  obtain ⟨a6,c6,rfl⟩:=zfz hown
  obtain ⟨a7,c7,rfl⟩:=zfz hownT
  have hsr:=hBr.size
  by_cases hlt:k<ln.length
  ·
   obtain ⟨bi,oi,rfl,hbi,ei⟩:=HI.out.atO k hlt
   have hmk:=HK.out ln[k] (List.getElem_mem hlt)
   have hB0:=HB0.out
   obtain ⟨bc,oc,vf,vm,rfl,hbc,e0,e1,e2,e3,ef,em,es1,es2⟩:=(HC.out.keptC (Kp.below (hB0.mono hB))).atC ln[k] hmk
   have hcf':=HFF.out l[ln[k]] (List.getElem_mem hmk)
   have HNX:Hid ((ln.take (k+1)).flatMap (ownT l)=(ln.take k).flatMap (ownT l)++ownT l ln[k]):=by
    show _=_
    rw [List.take_succ_eq_append_getElem hlt,List.flatMap_append]
    simp
   clear e0 e1 e2 ef es1 es2 hB0
   rw [<-zay hmk]at em hcf'
   obtain ⟨mo,cm,rfl,-⟩:=id em
   have EM':=mk0 em
   have HEI:=mk0 (And.intro hbi ei)
   have HE3:=mk0 (And.intro hbc e3)
   clear em hbi ei hbc e3
   generalize ln[k]=m at*
   have HOT:=mk0 (zhg l m)
   generalize hms:(clsAt l m).meths=ms at*
   have HMS:=mk0 hms
   clear hms
   have hm0:(0:Int)<=m:=by omega
   have hm1:(m:Int)<l.length:=by omega
   obtain ⟨PK,hPK⟩:∃PK,PK=(ln.take k).flatMap (ownT l):=⟨_,rfl⟩
   rw [<-hPK]at HP HNX
   have HPP:=mk0 hPK
   clear hPK
   go_wp2_with fail
   go_loopw [6,7,10] (fun v u i wq=>∃(j:Nat) (ns:List ByteArray) (ts:List TargD),j<=ms.length/\i=.int .i64 j/\Hid ((ns,ts)=(PK++(ownT l m).take j).foldl tabStep ([],[]))/\ns.length<=8*k+j/\Hid (ts.length=ns.length)/\Hid (∀s∈ns,s.size<=maxLen)/\
    wq.ownsRow w0.heap.size 9 1 v ns.length (scells ns)/\wq.ownsRow w0.heap.size 233 2 u ts.length (ts.flatMap tcell)/\Below w0.heap.size w0 wq) (fun _ _ i _=>ms.length - (intOf i).toNat)
   case atStart=>exact ⟨0,ns,ts,Nat.zero_le _,rfl,by show _=_;rw [List.take_zero,List.append_nil];exact HP.out,by omega,HTS.out,HSZ.out,hown,hownT,hBr⟩
   case round=>
    clear hown hownT hBr HP HSZ hfl HTS hsr
    rename World=>wq
    obtain ⟨j,ns,ts,hj,rfl,HP,hfl,HTS,HSZ,hown,hownT,hBr⟩:=hrel
    obtain ⟨a6,c6,rfl⟩:=zfz hown
    obtain ⟨a7,c7,rfl⟩:=zfz hownT
    have hsr:=hBr.size
    have ei:=(hBr.cell (p:=⟨bi,oi+k,none⟩) HEI.out.1).trans HEI.out.2
    have e3:=(hBr.cell (p:=⟨bc,oc+m*4+3,none⟩) HE3.out.1).trans HE3.out.2
    by_cases hjt:j<ms.length
    ·
     obtain ⟨bm,om,va,vh,hmo,hbm,q0,q1,q2,q3,q4,q5,q6,q7,q8,sa,sh,sz1,sz2,sz3⟩:=(EM'.out.keptM (Kp.below (B:=B) (hBr.mono (Nat.le_trans hB HB0.out.size)))).atM j hjt
     subst hmo
     have HNJ:Hid (PK++(ownT l m).take (j+1)=(PK++(ownT l m).take j)++ [(ms[j].name,⟨m,j⟩)]):=by
      show _=_
      have hjo:j<(ownT l m).length:=by rw [HOT.out];exact hjt
      rw [List.take_succ_eq_append_getElem hjo,List.append_assoc,zhh l m j hjo (by rw [HMS.out];exact hjt)]
      congr 3
      simp [HMS.out]
     have HON:=mk0 hown
     have HOTT:=mk0 hownT
     have HBr:=mk0 hBr
     generalize hmj:ms[j].name=nm at*
     have SN:Hid (SL 1 RS (MT w0.heap.size [9] wq) wq (.slice a6 ns.length c6) ns):=zha hown HSZ.out (by omega)
     clear hown hownT hmj sa sh q1 q2 q3 q4 q5 q6 q7 q8 hBr
     go_wp2_with fail
     go_loopw [12] (fun i wx=>∃q:Nat,q<=ns.length/\i=.int .i64 q/\Hid (∀(j:Nat) (hj:j<ns.length),j<q->ns[j]≠nm)/\wx=wq) (fun i _=>ns.length - (intOf i).toNat)
     case atStart=>exact ⟨0,Nat.zero_le _,rfl,(fun j _ h=>by omega),rfl⟩
     case round=>
      obtain ⟨q,hq,rfl,HQ,rfl⟩:=hrel
      rename World=>wq
      by_cases hlt3:q<ns.length
      ·
       obtain ⟨b6,o6,rfl,hb6,d6,_⟩:=SN.out.atS q hlt3
       by_cases hs:ns[q]=nm
       ·
        have hs':(ns[q].toList==nm.toList)=true:=by rw [hs];simp
        have hat2:=zox hlt3 hs HQ.out
        have HST:Hid (tabStep (ns,ts) (nm,⟨m,j⟩)=(ns,ts.set q ⟨m,j⟩)):=by
         show _=_
         have h0:0<=idxS ns nm:=by omega
         rw [tabStep,if_pos h0]
         show (ns,ts.set (idxS ns nm).toNat _)=_
         rw [hat2]
         rfl
        clear hs hat2 HQ
        obtain ⟨g7,hg7,hgc7⟩:∃g7,a7=some ⟨g7,0,none⟩/\ts.length<=c7:=by
         obtain ⟨h1,h2⟩:=zga HOTT.out
         rcases h2 with rfl | ⟨g,rfl⟩
         ·
          rcases HOTT.out.2 with ⟨e,h0⟩ | ⟨g,_,_,e,_⟩
          ·
           have:=HTS.out
           omega
          cases e
         exact ⟨g,rfl,h1⟩
        subst hg7
        have hgl:=HOTT.out.lt g7 rfl
        have k0:wq.cell? ⟨g7,q*2,none⟩=(ts.flatMap tcell)[q*2]? :=HOTT.out.cellAt _ (by have:=HTS.out;omega)
        have k1:wq.cell? ⟨g7,q*2+1,none⟩=(ts.flatMap tcell)[q*2+1]? :=HOTT.out.cellAt _ (by have:=HTS.out;omega)
        have hat3:q<ts.length:=by have:=HTS.out;omega
        have k0':wq.cell? ⟨g7,q*2,none⟩=some (.int .i64 (ts[q]).cls):=by rw [k0];have:=ze3 (n:=2) tcell ts q 0 (fun _ _=>rfl) hat3 (by decide);simpa [tcell]using this
        have k1':wq.cell? ⟨g7,q*2+1,none⟩=some (.int .i64 (ts[q]).meth):=by rw [k1];have:=ze3 (n:=2) tcell ts q 1 (fun _ _=>rfl) hat3 (by decide);simpa [tcell]using this
        obtain ⟨cur7,hb7⟩:∃cur7,wq.heap[g7]? =some (.cells cur7 233 (0,0)):=by
         rcases HOTT.out.2 with ⟨e,_⟩ | ⟨g,_,cur,e,_,hb,_⟩
         ·
          cases e
         cases e;exact ⟨cur,hb⟩
        have z0:∀q,wq.frozen? ⟨g7,q,none⟩=false:=fun q=>by simp [World.frozen?,hb7]
        have ht0:(0:Int)<=q:=by omega
        have ht1:(q:Int)<ts.length:=by have:=HTS.out;omega
        have ht2:(q:Int)<ns.length:=by omega
        have ht3:¬(q:Int)=ns.length:=by omega
        have hg7s:g7<wq.heap.size:=hgl.2
        clear k0 k1 hb7
        go_wp2_with fail
        go_roundw
        case rel=>
         have hB3:=(HBr.out.setCell (p:=⟨g7,q*2,none⟩) hgl.1 (.int .i64 m)).setCell (p:=⟨g7,q*2+1,none⟩) hgl.1 (.int .i64 j)
         refine ⟨j+1,ns,ts.set q ⟨m,j⟩,by omega,by go_num,?_,by omega,by show _=_;have:=HTS.out;simpa using this,HSZ.out,?_,?_,hB3⟩
         ·
          show _=_
          rw [HNJ.out,zhe,<-HP.out,HST.out]
         ·
          refine HON.out.kept (row:=some g7) ?_ ?_
          ·
           exact za8 (za8 (World.grownBy.refl _ _) _ _ (Or.inl rfl)) _ _ (Or.inl rfl)
          rcases zg8 HON.out HOTT.out (by decide)with h | h
          ·
           exact Or.inl h
          exact Or.inr h
         have:=zg7 (zg7 HOTT.out (q*2) (.int .i64 m)) (q*2+1) (.int .i64 j)
         rw [zhc ts q ⟨m,j⟩]at this
         rw [List.length_set]
         exact this
        case measure=>simp [intOf];omega
       have HQ':Hid (∀(j:Nat) (hj:j<ns.length),j<q+1->ns[j]≠nm):=fun j hj h=>by
        by_cases hjk:j<q
        ·
         exact HQ.out j hj hjk
        have:j=q:=by omega
        subst this
        exact hs
       have hs':(ns[q].toList==nm.toList)=false:=by
        rw [beq_eq_false_iff_ne]
        exact fun e=>hs (zb9 e)
       have ht2:(q:Int)<ns.length:=by omega
       clear hs
       go_wp2_with fail
       go_roundw
       case rel=>exact ⟨q+1,by omega,by go_num,HQ'.out,trivial⟩
       case measure=>simp [intOf];omega
      have hqn:q=ns.length:=by omega
      subst hqn
      have hat:=zoy (l:=ns) (s:=nm) fun j hj=>HQ.out j hj hj
      have HST:Hid (tabStep (ns,ts) (nm,⟨m,j⟩)=(ns++ [nm],ts++ [⟨m,j⟩])):=by
       show _=_
       rw [tabStep,if_neg (by show ¬ 0<=idxS ns nm;omega)]
      have HBB:Hid (ns.length+1<=maxLen/\(ns.length+1)*16<=140737488355328/\w0.heap.size<=(wq.alloc (.cells #[.string nm] 9)).heap.size):=⟨by unfold maxLen;omega,by omega,by simp;omega⟩
      have hlq6:∀q,(Value.slice a6 ns.length c6).ownBlock=some q->w0.heap.size<=q/\q<wq.heap.size:=fun q e=>HON.out.lt q e
      have HLQ:=mk0 hlq6
      clear hat HQ hlt3 hq SN q0 hlq6
      go_wp2_with (at_builtin;refine wpList_append_lies _ rfl _ _ 225 rfl w0.heap.size 9 iS (.string ⟨#[]⟩) 1 16 Tryz.underlying225 hiS hzS0 hzS1 hzS2 rfl (by decide) (.slice a6 ns.length c6) ns.length (scells ns) rfl (HON.out.alloc _) ⟨wq.heap.size,0,none⟩ 1 1 [.string nm] rfl rfl (World.news_of_block (heap_alloc_new wq _)) (by intro u hu;simp at hu;subst hu;rfl) (by omega) HBB.out.1 HBB.out.2.1 HBB.out.2.2 _ rfl ?_)
      intro g6 cp6 w3 hown3 hgr3 _ hlt3
      have hT3:=(HOTT.out.alloc (.cells #[.string nm] 9)).kept hgr3 (zg8 HOTT.out HON.out (by decide))
      have hB3:Below w0.heap.size w0 w3:=(HBr.out.alloc hsr _).grown hgr3 (by simp;omega) (fun q e=>(HLQ.out q e).1)
      have HBC:Hid (ts.length+1<=maxLen/\(ts.length+1)*16<=140737488355328/\w0.heap.size<=(w3.alloc (.cells #[.int .i64 0,.int .i64 0] 233)).heap.size):=⟨by have:=HTS.out;unfold maxLen;omega,by have:=HTS.out;omega,by have:=hB3.size;simp;omega⟩
      have HT3:=mk0 hT3
      have HN3:=mk0 hown3
      have HB3:=mk0 hB3
      clear hown3 hgr3 hT3 hB3 ei e3
      go_upto_region 16 with (at_builtin;refine wpList_append_lies _ rfl _ _ 226 rfl w0.heap.size 233 iT (.agg #[.int .i64 0,.int .i64 0]) 2 16 Tryz.underlying226 hiT hzT0 hzT1 hzT2 rfl (by decide) (.slice a7 ts.length c7) ts.length (ts.flatMap tcell) rfl (HT3.out.alloc _) ⟨w3.heap.size,0,none⟩ 1 1 [.int .i64 0,.int .i64 0] rfl rfl (World.news_of_block (heap_alloc_new w3 _)) (by intro u hu;simp at hu;subst hu;rfl) (by omega) HBC.out.1 HBC.out.2.1 HBC.out.2.2 _ rfl ?_;intro g7 cp7 w4 hown4 hgr4 _ hlt4;have HG4:=mk0 (And.intro hown4 hgr4);clear hown4 hgr4)
      obtain ⟨hown4,hgr4⟩:=HG4.out
      have hN4:=(HN3.out.alloc (.cells #[.int .i64 0,.int .i64 0] 233)).kept hgr4 (zg8 HN3.out HT3.out (by decide))
      have hB4:Below w0.heap.size w0 w4:=(HB3.out.alloc HB3.out.size _).grown hgr4 (by have:=HB3.out.size;simp;omega) (fun q e=>(HT3.out.lt q e).1)
      have ei:=(hB4.cell (p:=⟨bi,oi+k,none⟩) HEI.out.1).trans HEI.out.2
      have hgl:=hown4.lt g7 rfl
      have hct:((ts++ [(⟨0,0⟩:TargD)]).flatMap tcell)=ts.flatMap tcell++ [.int .i64 0,.int .i64 0]:=by rw [List.flatMap_append];rfl
      have hk0:w4.cell? ⟨g7,ns.length*2,none⟩=some (.int .i64 0):=by
       have:=hown4.cellAt (ns.length*2) (by have:=HTS.out;omega)
       rw [this,<-HTS.out,List.getElem?_append_right (by rw [tlen];omega),tlen]
       simp
      have hk1:w4.cell? ⟨g7,ns.length*2+1,none⟩=some (.int .i64 0):=by
       have:=hown4.cellAt (ns.length*2+1) (by have:=HTS.out;omega)
       rw [this,<-HTS.out,List.getElem?_append_right (by rw [tlen];omega),tlen,show ts.length*2+1 - ts.length*2=1 by omega]
       rfl
      obtain ⟨cur7,hb7⟩:∃cur7,w4.heap[g7]? =some (.cells cur7 233 (0,0)):=by
       rcases hown4.2 with ⟨e,_⟩ | ⟨g,_,cur,e,_,hb,_⟩
       ·
        cases e
       cases e;exact ⟨cur,hb⟩
      have z0:∀q,w4.frozen? ⟨g7,q,none⟩=false:=fun q=>by simp [World.frozen?,hb7]
      have hg7s:g7<w4.heap.size:=hgl.2
      have ht0:(0:Int)<=ns.length:=by omega
      have ht1:(ns.length:Int)<(ts.length:Int)+1:=by have:=HTS.out;omega
      have ht2:(ns.length:Int)<((ts.length+1:Nat):Int):=by have:=HTS.out;omega
      have HFIN:=mk0 (And.intro hN4 (And.intro hown4 hB4))
      have HGL:=mk0 hgl
      have HCT:=mk0 hct
      clear hN4 hown4 hgr4 hB4 hgl hb7 HG4 hct
      go_wp2_with fail
      go_roundw
      case rel=>
       obtain ⟨hN4,hT4,hB4⟩:=HFIN.out
       refine ⟨j+1,ns++ [nm],ts++ [⟨m,j⟩],by omega,by go_num,?_,by simp;omega,by show _=_;have:=HTS.out;simp;omega,?_,?_,?_,(hB4.setCell (p:=⟨g7,ns.length*2,none⟩) HGL.out.1 (.int .i64 m)).setCell (p:=⟨g7,ns.length*2+1,none⟩) HGL.out.1 (.int .i64 j)⟩
       ·
        show _=_
        rw [HNJ.out,zhe,<-HP.out,HST.out]
       ·
        show ∀s∈_,_
        intro s hs
        rcases List.mem_append.1 hs with hs | hs
        ·
         exact HSZ.out s hs
        rw [List.mem_singleton]at hs
        rw [hs]
        exact sz1
       ·
        rw [List.length_append,show scells (ns++ [nm])=scells ns++ [.string nm] by simp [scells]]
        refine hN4.kept (row:=some g7) ?_ ?_
        ·
         exact za8 (za8 (World.grownBy.refl _ _) _ _ (Or.inl rfl)) _ _ (Or.inl rfl)
        rcases zg8 hN4 hT4 (by decide)with h | h
        ·
         exact Or.inl h
        exact Or.inr h
       have:=zg7 (zg7 hT4 (ns.length*2) (.int .i64 m)) (ns.length*2+1) (.int .i64 j)
       rw [<-HCT.out,zhc (ts++ [(⟨0,0⟩:TargD)]) ns.length ⟨m,j⟩,show (ts++ [(⟨0,0⟩:TargD)]).set ns.length ⟨m,j⟩=ts++ [⟨m,j⟩] from by rw [<-HTS.out];exact zoz ts ⟨0,0⟩ ⟨m,j⟩]at this
       rw [List.length_append]
       exact this
      case measure=>simp [intOf];omega
    have HX:Hid ((ns,ts)=((ln.take (k+1)).flatMap (ownT l)).foldl tabStep ([],[])):=by
     show _=_
     rw [HNX.out,HP.out,List.take_of_length_le (by rw [HOT.out];omega)]
    have HN5:=mk0 hown
    have HT5:=mk0 hownT
    clear hown hownT
    go_wp2_with fail
    go_roundw
    case rel=>exact ⟨k+1,ns,ts,by omega,by go_num,HX.out,by omega,HTS.out,HSZ.out,HN5.out,HT5.out,hBr⟩
    case measure=>simp [intOf];omega
  have HX:Hid (tabF l n=(ns,ts)):=by
   show _=_
   rw [HTO.out,HP.out,List.take_of_length_le (by omega)]
  have SN:=mk0 ((zha hown HSZ.out (by omega)).monoS (M':=MT w.heap.size [9] wr) fun _ hk=>hk.more HB0.out.size (fun _ ht=>ht))
  have ST:=mk0 ((zhb hownT (by have:=HTS.out;omega)).monoT (M':=MT w.heap.size [233] wr) fun _ hk=>hk.more HB0.out.size (fun _ ht=>ht))
  have HBW:=mk0 (HB0.out.trans (hBr.mono HB0.out.size))
  clear hown hownT
  go_wp2_with fail
  go_ret2
  exact ⟨HBW.out,_,_,rfl,by rw [HX.out];exact SN.out,by rw [HX.out];exact ST.out⟩
end Go.Proofs.YtjdnmblggdobgaaGreat
