import Derived.Test.YtcddpmappmjilaaGreatDoorJLDifLFld
import Derived.Deep.DeepCutAuto
namespace Go.Proofs.YtcddpmappmjilaaGreatDoor
open Go.RowKit Go.Sort
def firstAt (l:List ClassD) (s:ByteArray):Int:=match l.findIdx? (fun c=>decide (c.name=s))with | some i=>i | none=>-1
theorem firstAt_hit {l:List ClassD} {s:ByteArray} {k:Nat} (hk:k<l.length) (h:l[k].name=s) (hb:∀(j:Nat) (hj:j<l.length),j<k->l[j].name≠s):firstAt l s=k:=by
 have:l.findIdx? (fun c=>decide (c.name=s))=some k:=by
  rw [List.findIdx?_eq_some_iff_getElem]
  exact ⟨hk,by simp [h],fun j hj=>by simp [hb j (by omega) hj]⟩
 rw [firstAt,this]
theorem firstAt_none {l:List ClassD} {s:ByteArray} (hb:∀(j:Nat) (hj:j<l.length),l[j].name≠s):firstAt l s= -1:=by
 have:l.findIdx? (fun c=>decide (c.name=s))=none:=by
  rw [List.findIdx?_eq_none_iff]
  intro c hc
  obtain ⟨j,hj,rfl⟩:=List.getElem_of_mem hc
  simp [hb j hj]
 rw [firstAt,this]
theorem firstAt_bd (l:List ClassD) (s:ByteArray): -1<=firstAt l s/\firstAt l s<l.length:=by
 unfold firstAt
 split
 ·
  rename_i i h
  have:=(List.findIdx?_eq_some_iff_getElem.1 h).1
  omega
 omega
set_option maxHeartbeats 1000000 in
theorem ClassAt_any (w:World) (M:Nat->Prop) (v:Value) (l:List ClassD) (s:ByteArray) (hv:SL 4 RC M w v l):
 Calls Tryz.prog 19 #[v,.string s] w fun r w'=>r=.returned (.int .i64 (firstAt l s))/\w'=w:=by
 have HV:=mkHid hv
 obtain ⟨ao,cl,rfl,-,hl,-⟩:=hv
 unfold maxLen at hl
 go_enter Tryz.func19,Tryz.ntmps19
 go_wp2
 go_loopw [5] (fun i wr=>∃k:Nat,k<=l.length/\i=.int .i64 k/\Hid (∀(j:Nat) (hj:j<l.length),j<k->l[j].name≠s)/\wr=w) (fun i _=>l.length - (intOf i).toNat)
 case atStart=>exact ⟨0,Nat.zero_le _,rfl,(fun j _ h=>by omega),rfl⟩
 case round=>
  obtain ⟨k,hk,rfl,HQ,rfl⟩:=hrel
  by_cases hlt:k<l.length
  ·
   obtain ⟨b,off,vf,vm,rfl,hb,e0,e1,e2,e3,ef,em,es1,es2⟩:=HV.out.atC k hlt
   clear ef em e1 e2 e3 es1 es2
   by_cases hs:l[k].name=s
   ·
    have HR:=mkHid (firstAt_hit hlt hs HQ.out)
    have hs':(l[k].name.toList==s.toList)=true:=by rw [hs];simp
    clear hs
    go_wp2
    go_ret
    exact ⟨by rw [HR.out];rfl,rfl⟩
   have HQ':Hid (∀(j:Nat) (hj:j<l.length),j<k+1->l[j].name≠s):=fun j hj h=>by
    by_cases hjk:j<k
    ·
     exact HQ.out j hj hjk
    have:j=k:=by omega
    subst this
    exact hs
   have hs':(l[k].name.toList==s.toList)=false:=by
    rw [beq_eq_false_iff_ne]
    exact fun e=>hs (tl_inj e)
   clear hs
   go_wp2
   go_roundw
   case rel=>exact ⟨k+1,by omega,by go_num,HQ'.out,trivial⟩
   case measure=>simp [intOf];omega
  have HR:=mkHid (firstAt_none (l:=l) (s:=s) fun j hj=>HQ.out j hj (by omega))
  go_wp2
  go_ret
  exact ⟨by rw [HR.out];rfl,rfl⟩
def toldK (l:List ClassD) (k:KindD):Bool:=decide (k.cls=(⟨#[]⟩:ByteArray))||decide (0<=firstAt l k.cls)
set_option maxHeartbeats 1000000 in
theorem Told_any (w:World) (M M':Nat->Prop) (v u:Value) (l:List ClassD) (ks:List KindD) (hv:SL 4 RC M w v l) (hu:SL 2 RK M' w u ks):
 Calls Tryz.prog 37 #[v,u] w fun r w'=>r=.returned (.bool (ks.all (toldK l)))/\w'=w:=by
 have HV:=mkHid hv
 have HU:=mkHid hu
 obtain ⟨ao,cl,rfl,-,hl,-⟩:=hv
 obtain ⟨au,cu,rfl,-,hlu,-⟩:=hu
 unfold maxLen at hl hlu
 go_enter Tryz.func37,Tryz.ntmps37
 go_wp2
 go_loopw [5] (fun i wr=>∃k:Nat,k<=ks.length/\i=.int .i64 k/\Hid (ks.all (toldK l)=(ks.drop k).all (toldK l))/\wr=w) (fun i _=>ks.length - (intOf i).toNat)
 case atStart=>exact ⟨0,Nat.zero_le _,rfl,rfl,rfl⟩
 case round=>
  obtain ⟨k,hk,rfl,HQ,rfl⟩:=hrel
  by_cases hlt:k<ks.length
  ·
   obtain ⟨b,off,rfl,hb,e0,e1,es⟩:=HU.out.atK k hlt
   have HST:Hid ((ks.drop k).all (toldK l)=(toldK l ks[k]&&(ks.drop (k+1)).all (toldK l))):=by
    show _=_
    rw [List.drop_eq_getElem_cons hlt,List.all_cons]
   have HCA:=mkHid (ClassAt_any wr M _ l ks[k].cls HV.out)
   have hbd:=firstAt_bd l ks[k].cls
   have HTK:Hid (toldK l ks[k]=(decide (ks[k].cls=(⟨#[]⟩:ByteArray))||decide (0<=firstAt l ks[k].cls))):=rfl
   generalize ks[k]=x at*
   generalize firstAt l x.cls=fa at*
   have hb1:=hbd.1
   have hb2:=hbd.2
   clear hbd e0 es
   by_cases hn:x.cls=⟨#[]⟩
   ·
    have hn':=nil_tl hn
    have HQ':Hid (ks.all (toldK l)=(ks.drop (k+1)).all (toldK l)):=HQ.out.trans (by rw [HST.out,HTK.out];simp [hn])
    clear hn HCA
    go_wp2
    go_roundw
    case rel=>exact ⟨k+1,by omega,by go_num,HQ'.out,trivial⟩
    case measure=>simp [intOf];omega
   have hn':x.cls.toList.isEmpty=false:=by
    cases hq:x.cls.toList with
    | nil=>exact absurd (tl_nil hq) hn
    | cons _ _=>rfl
   by_cases hf:fa<0
   ·
    have HQ':Hid (ks.all (toldK l)=false):=HQ.out.trans (by rw [HST.out,HTK.out];simp [hn];omega)
    clear hn
    go_wp2_with (first | (go_at_call 19;refine HCA.out.mono ?_;rintro r w7 ⟨rfl,rfl⟩))
    go_ret
    exact ⟨by rw [HQ'.out];rfl,rfl⟩
   have HQ':Hid (ks.all (toldK l)=(ks.drop (k+1)).all (toldK l)):=HQ.out.trans (by
    rw [HST.out,HTK.out]
    have:(0:Int)<=fa:=by omega
    simp [this])
   clear hn
   go_wp2_with (first | (go_at_call 19;refine HCA.out.mono ?_;rintro r w7 ⟨rfl,rfl⟩))
   go_roundw
   case rel=>exact ⟨k+1,by omega,by go_num,HQ'.out,trivial⟩
   case measure=>simp [intOf];omega
  have HQ':Hid (ks.all (toldK l)=true):=HQ.out.trans (by rw [List.drop_of_length_le (by omega)];rfl)
  go_wp2
  go_ret
  exact ⟨by rw [HQ'.out];rfl,rfl⟩
end Go.Proofs.YtcddpmappmjilaaGreatDoor
namespace Go.Proofs.YtcddpmappmjilaaGreatDoor
open Go.RowKit Go.Sort
def supF (l:List ClassD) (n:Nat):Int:=firstAt l (clsAt l n).super
def upF (l:List ClassD):Nat->Int->List Nat->List Nat
 | 0,_,_=>[]
 | f+1,n,out=>if 0<=n then (if l.length<out.length then [] else upF l f (supF l n.toNat) (n.toNat::out)) else out
def upOf (l:List ClassD) (n:Nat):List Nat:=upF l (l.length+3) n []
theorem upF_ok (l:List ClassD):∀(f:Nat) (n:Int) (out:List Nat),n<l.length->(∀k∈out,k<l.length)->out.length<=l.length+1->(∀k∈upF l f n out,k<l.length)/\(upF l f n out).length<=l.length+1
 | 0,_,_,_,_,_=>⟨(fun k hk=>by cases hk),by simp [upF]⟩
 | f+1,n,out,hn,ho,hl=>by
   rw [upF]
   split
   ·
    split
    ·
     exact ⟨(fun k hk=>by cases hk),by simp⟩
    exact upF_ok l f _ _ (firstAt_bd l _).2 (fun k hk=>by
     rcases List.mem_cons.1 hk with rfl | hk
     ·
      omega
     exact ho k hk) (by simp;omega)
   exact ⟨ho,hl⟩
theorem upOf_ok {l:List ClassD} {n:Nat} (hn:n<l.length):(∀k∈upOf l n,k<l.length)/\(upOf l n).length<=l.length+1:=
 upF_ok l _ n [] (by omega) (fun k hk=>by cases hk) (by simp)
theorem ints_len (ns:List Nat):(ints ns).length=ns.length:=by simp [ints]
theorem ints_one (ns:List Nat):∀u∈ints ns,u.oneCell'=true:=by
 intro u hu
 obtain ⟨x,_,rfl⟩:=List.mem_map.1 hu
 rfl
theorem own_ints {w:World} {B:Nat} {v:Value} {ns:List Nat} (h:w.ownsRow B 3 1 v ns.length (ints ns)) (hl:ns.length<=1000):SL 1 RO (MT B [3] w) w v ns:=by
 have hz:(ns.map fun x:Nat=>([Value.int .i64 (x:Int)],x)).length=ns.length:=by simp
 have hf:(ns.map fun x:Nat=>([Value.int .i64 (x:Int)],x)).flatMap (·.1)=ints ns:=by
  rw [List.flatMap_map,ints]
  clear h hl hz
  induction ns with
  | nil=>rfl
  | cons x r ih=>rw [List.flatMap_cons,ih];rfl
 have:=own_SL (n:=1) (R:=RO) (T:=[3]) (zs:=ns.map fun x:Nat=>([Value.int .i64 (x:Int)],x)) (by rw [hz,hf];exact h) (fun z hz=>by
  obtain ⟨s,hs',rfl⟩:=List.mem_map.1 hz
  exact ⟨rfl,rfl⟩) (by simp) (by rw [hz];unfold maxLen;omega)
 rwa [List.map_map,show ((·.2)∘fun x:Nat=>([Value.int .i64 (x:Int)],x))=id from rfl,List.map_id]at this
theorem own_news {w:World} {B g cap:Nat} {ns:List Nat} (h:w.ownsRow B 3 1 (.slice (some ⟨g,0,none⟩) ns.length cap) ns.length (ints ns)):∀j u,(ints ns)[j]? =some u->w.cell? ((⟨g,0,none⟩:Addr).add j)=some u:=by
 intro j u hu
 rcases h.2 with ⟨e,_⟩ | ⟨g',cap',cur,e,_,hg,_,_,_,ht⟩
 ·
  cases (Value.slice.inj e).1
 obtain ⟨e1,_,_⟩:=Value.slice.inj e
 obtain rfl:g=g':=by simpa using e1
 rw [addr_add]
 simp only [World.cell?,hg,Nat.zero_add]
 rw [<-ht]at hu
 rw [List.getElem?_take]at hu
 split at hu
 ·
  simpa using hu
 cases hu
set_option maxRecDepth 100000 in
set_option maxHeartbeats 4000000 in
theorem UpFrom_any (w:World) (B:Nat) (v:Value) (l:List ClassD) (n:Nat) (hn:n<l.length) (hv:SL 4 RC (· <B) w v l) (hB:B<=w.heap.size) (hN:l.length<=10):
 Calls Tryz.prog 36 #[v,.int .i64 n] w fun r w'=>Below w.heap.size w w'/\∃u,r=.returned u/\SL 1 RO (MT w.heap.size [3] w') w' u (upOf l n):=by
 obtain ⟨iI,hiI,hzI0,hzI1,hzI2⟩:=info_parts Tryz.infoInt
 have HV:=mkHid hv
 obtain ⟨ao,cl,rfl,-⟩:=hv
 go_enter Tryz.func36,Tryz.ntmps36
 go_wp2_with fail
 go_loopg [1,5] (l.length+3) (fun f i v wr=>∃(out:List Nat) (m:Int),i=.int .i64 m/\ -1<=m/\m<l.length/\out.length+f=l.length+3/\out.length<=l.length+1/\Hid (upOf l n=upF l f m out)/\wr.ownsRow w.heap.size 3 1 v out.length (ints out)/\Below w.heap.size w wr)
 case atStart=>exact ⟨[],n,rfl,by omega,by omega,by simp,by simp,rfl,World.ownsRow_nil _ _ _ _,Below.refl _ _⟩
 case round=>
  rename Nat=>f
  obtain ⟨out,m,rfl,hm1,hm2,hf,hol,HP,hown,hBr⟩:=hrel
  obtain ⟨a5,c5,rfl⟩:=own_shape hown
  have hsr:=hBr.size
  obtain ⟨f',rfl⟩:∃f',f=f'+1:=⟨f - 1,by omega⟩
  by_cases h0:0<=m
  ·
   by_cases hx:l.length<out.length
   ·
    have HR:Hid (upOf l n= []):=HP.out.trans (by rw [upF,if_pos h0,if_pos hx])
    have hx':(l.length:Int)<out.length:=by omega
    clear hown
    go_wp2_with fail
    go_ret
    exact ⟨hBr,_,rfl,by rw [HR.out];exact ⟨none,0,rfl,Nat.le_refl _,by unfold maxLen;simp,fun k hk=>by cases hk⟩⟩
   have hx':¬(l.length:Int)<out.length:=by omega
   have HP':Hid (upOf l n=upF l f' (supF l m.toNat) (m.toNat::out)):=HP.out.trans (by rw [upF,if_pos h0,if_neg hx])
   obtain ⟨mn,rfl⟩:=Int.eq_ofNat_of_zero_le h0
   have hmn:mn<l.length:=by omega
   have HOW:=mkHid hown
   have HN0:Hid ((wr.alloc (.cells #[.int .i64 (mn:Int)] 3)).ownsRow w.heap.size 3 1 (.slice (some ⟨wr.heap.size,0,none⟩) 1 1) 1 [.int .i64 (mn:Int)]):=
    ⟨rfl,Or.inr ⟨wr.heap.size,1,#[.int .i64 (mn:Int)],rfl,hsr,heap_alloc_new wr _,Nat.le_refl _,by unfold maxLen;omega,rfl,rfl⟩⟩
   have HSB:=mkHid (firstAt_bd l (clsAt l mn).super)
   have hi0:(0:Int)<=mn:=by omega
   have hi1:(mn:Int)<l.length:=by omega
   by_cases h5:out.length=0
   ·
    have h50:out= []:=List.eq_nil_of_length_eq_zero h5
    have HO:=mkHid h50
    have hB1:Below w.heap.size w (wr.alloc (.cells #[.int .i64 (mn:Int)] 3)):=hBr.alloc hsr _
    obtain ⟨b,off,vf,vm,rfl,hb,e0,e1,e2,e3,ef,em,es1,es2⟩:=(HV.out.keptC (Kp.below (hB1.mono hB))).atC mn hmn
    clear ef em e0 e2 e3 es1
    have HCA:=mkHid (ClassAt_any (wr.alloc (.cells #[.int .i64 (mn:Int)] 3)) (· <B) _ l l[mn].super (HV.out.keptC (Kp.below (hB1.mono hB))))
    have HBX:=mkHid hB1
    rw [h5]
    clear hown h5 h50 hB1 es2
    go_wp2_with (first | (at_builtin;refine wpList_append_none _ rfl _ _ 23 rfl 3 iI Tryz.underlying23 hiI (some ⟨wr.heap.size,0,none⟩) 1 1 rfl (by decide) (Or.inr ⟨_,rfl⟩) a5 c5 rfl ?_) | (go_at_call 19;refine HCA.out.mono ?_;rintro r w7 ⟨rfl,rfl⟩))
    go_roundg f'
    case measure=>omega
    case rel=>exact ⟨[mn],supF l mn,(by rw [supF,clsAt_eq hmn]),HSB.out.1,HSB.out.2,by have:=HO.out;subst this;simp at hf ⊢;omega,by simp,by have:=HO.out;subst this;exact HP'.out,HN0.out,HBX.out⟩
   obtain ⟨g,cap,hvg,hgw,hglt⟩:=hown.form (by omega)
   obtain ⟨rfl,-,rfl⟩:=Value.slice.inj hvg
   have HNEWS:Hid (∀j u,(ints out)[j]? =some u->(wr.alloc (.cells #[.int .i64 (mn:Int)] 3)).cell? ((⟨g,0,none⟩:Addr).add j)=some u):=own_news (hown.alloc _)
   have HBB:Hid (1+out.length<=maxLen/\(1+out.length)*8<=140737488355328/\w.heap.size<=(wr.alloc (.cells #[.int .i64 (mn:Int)] 3)).heap.size/\(ints out).length=out.length*1/\0<out.length):=⟨by unfold maxLen;omega,by omega,by simp;omega,by rw [ints_len];omega,by omega⟩
   have HBr:=mkHid hBr
   clear hown h5 hvg hBr
   go_upto_region 6 with (at_builtin;refine wpList_append_lies _ rfl _ _ 23 rfl w.heap.size 3 iI (.int .i64 0) 1 8 Tryz.underlying23 hiI hzI0 hzI1 hzI2 rfl (by decide) (.slice (some ⟨wr.heap.size,0,none⟩) 1 1) 1 [.int .i64 (mn:Int)] rfl HN0.out ⟨g,0,none⟩ out.length c5 (ints out) rfl HBB.out.2.2.2.1 HNEWS.out (ints_one _) HBB.out.2.2.2.2 HBB.out.1 HBB.out.2.1 HBB.out.2.2.1 _ rfl ?_;intro g1 cap1 w1 hown1 hgr1 hat1 hlt1;have hB1:Below w.heap.size w w1:=(HBr.out.alloc hsr _).grown hgr1 (by simp;omega) (fun k e=>by cases e;exact hsr);have HX:=mkHid (And.intro hown1 hB1);clear hown1 hgr1 hat1 hB1)
   obtain ⟨b,off,vf,vm,rfl,hb,e0,e1,e2,e3,ef,em,es1,es2⟩:=(HV.out.keptC (Kp.below (HX.out.2.mono hB))).atC mn hmn
   clear ef em e0 e2 e3 es1
   have HCA:=mkHid (ClassAt_any w1 (· <B) _ l l[mn].super (HV.out.keptC (Kp.below (HX.out.2.mono hB))))
   clear es2
   go_wp2_with (first | (go_at_call 19;refine HCA.out.mono ?_;rintro r w7 ⟨rfl,rfl⟩))
   go_roundg f'
   case measure=>omega
   case rel=>exact ⟨mn::out,supF l mn,(by rw [supF,clsAt_eq hmn]),HSB.out.1,HSB.out.2,by simp;omega,by simp;omega,HP'.out,by have:=HX.out.1;rw [List.length_cons,Nat.add_comm out.length 1];exact this,HX.out.2⟩
  have HR:Hid (upOf l n=out):=HP.out.trans (by rw [upF,if_neg h0])
  have SV:=mkHid (own_ints hown (by omega))
  clear hown
  go_wp2_with fail
  go_ret
  exact ⟨hBr,_,rfl,by rw [HR.out];exact SV.out⟩
def allF (l:List ClassD) (n:Nat):List FieldD:=(upOf l n).flatMap fun k=>(clsAt l k).fields
set_option maxHeartbeats 4000000 in
theorem AllFields_any (w:World) (B:Nat) (v:Value) (l:List ClassD) (n:Nat) (hn:n<l.length) (hv:SL 4 RC (· <B) w v l) (hB:B<=w.heap.size) (hN:l.length<=10) (hF:∀c∈l,c.fields.length<=6):
 Calls Tryz.prog 17 #[v,.int .i64 n] w fun r w'=>Below w.heap.size w w'/\∃u,r=.returned u/\SL 3 RF (MT w.heap.size [85] w') w' u (allF l n):=by
 obtain ⟨iF,hiF,hzF0,hzF1,hzF2⟩:=info_parts Tryz.infoFieldL
 have HC:=mkHid hv
 obtain ⟨ao,cl,rfl,-⟩:=hv
 obtain ⟨hkL,hlL⟩:=upOf_ok hn
 have HU:=mkHid (UpFrom_any w B _ l n hn HC.out hB hN)
 have HFO:Hid (allF l n=(upOf l n).flatMap fun k=>(clsAt l k).fields):=rfl
 generalize upOf l n=ln at*
 have HK:=mkHid hkL
 have HFF:=mkHid hF
 clear hkL hF
 go_enter Tryz.func17,Tryz.ntmps17
 go_wp2_with (first | (go_at_call 36;refine HU.out.mono ?_;rintro r w0 ⟨hb0,u0,rfl,su0⟩;have HI:=mkHid su0;have HB0:=mkHid hb0;obtain ⟨aI,cI,rfl,-⟩:=su0;clear hb0))
 go_loopw [5,7] (fun v i wr=>∃(k:Nat) (fs:List FieldD),k<=ln.length/\i=.int .i64 k/\Hid (fs=(ln.take k).flatMap fun k=>(clsAt l k).fields)/\fs.length<=6*k/\Hid (∀f∈fs,f.name.size<=maxLen/\f.kind.cls.size<=maxLen)/\wr.ownsRow w0.heap.size 85 3 v fs.length (fs.flatMap fcells)/\Below w0.heap.size w0 wr) (fun _ i _=>ln.length - (intOf i).toNat)
 case atStart=>exact ⟨0,[],Nat.zero_le _,rfl,rfl,by simp,(fun f hf=>by cases hf),World.ownsRow_nil _ _ _ _,Below.refl _ _⟩
 case round=>
  obtain ⟨k,fs,hk,rfl,HP,hfl,HSZ,hown,hBr⟩:=hrel
  obtain ⟨a5,c5,rfl⟩:=own_shape hown
  have hsr:=hBr.size
  have hBw:Below w.heap.size w wr:=HB0.out.trans (hBr.mono HB0.out.size)
  by_cases hlt:k<ln.length
  ·
   obtain ⟨bi,oi,rfl,hbi,ei⟩:=HI.out.atO k hlt
   have ei':=(hBr.cell (p:=⟨bi,oi+k,none⟩) hbi).trans ei
   have hmk:=HK.out ln[k] (List.getElem_mem hlt)
   obtain ⟨bc,oc,vf,vm,rfl,hbc,e0,e1,e2,e3,ef,em,es1,es2⟩:=(HC.out.keptC (Kp.below (hBw.mono hB))).atC ln[k] hmk
   have hcf:=HFF.out l[ln[k]] (List.getElem_mem hmk)
   have HCA:Hid (clsAt l ln[k]=l[ln[k]]):=clsAt_eq hmk
   obtain ⟨m,hm⟩:∃m,m=ln[k]:=⟨_,rfl⟩
   generalize hcc:l[ln[k]]=cc at*
   clear hcc
   rw [<-hm]at ei' e0 e1 e2 e3 hmk
   have hm0:(0:Int)<=m:=by omega
   have hm1:(m:Int)<l.length:=by omega
   have EF:=mkHid ef
   obtain ⟨fo,cf,rfl,-⟩:=ef
   have HOW:=mkHid hown
   have hszF:∀f∈cc.fields,f.name.size<=maxLen/\f.kind.cls.size<=maxLen:=by
    intro f hf
    obtain ⟨q,hq,rfl⟩:=List.getElem_of_mem hf
    obtain ⟨_,_,_,_,_,_,_,h1,h2⟩:=EF.out.atF q hq
    exact ⟨h1,h2⟩
   have HSF:=mkHid hszF
   have HNX:Hid ((ln.take (k+1)).flatMap (fun k=>(clsAt l k).fields)=fs++cc.fields):=by
    show _=_
    rw [List.take_succ_eq_append_getElem hlt,List.flatMap_append,<-HP.out]
    simp [HCA.out]
   clear hm ei hszF em es1 es2 e0 e1 e3
   have HBr:=mkHid hBr
   clear hBw hBr
   by_cases h0:cc.fields= []
   ·
    have HNE:=mkHid h0
    rw [h0]at e2
    clear h0
    obtain ⟨hc5,ha5⟩:=own_app hown
    go_wp2_with (at_builtin;refine wpList_append_none _ rfl _ _ 54 rfl 85 iF Tryz.underlying54 hiF a5 fs.length c5 rfl hc5 ha5 fo cf rfl ?_)
    clear ha5 hc5
    go_wp2_with fail
    go_roundw
    case rel=>exact ⟨k+1,fs,by omega,by go_num,by show _=_;have:=HNX.out;rw [HNE.out,List.append_nil]at this;exact this.symm,by omega,HSZ.out,HOW.out,HBr.out⟩
    case measure=>simp [intOf];omega
   have hpos:0<cc.fields.length:=List.length_pos_iff.2 h0
   obtain ⟨bf,of,hfo⟩:∃bf of,fo=some ⟨bf,of,none⟩:=by
    obtain ⟨bf,of,e,_⟩:=EF.out.atF 0 hpos
    exact ⟨bf,of,e⟩
   subst hfo
   have HNEWS:Hid (∀j u,(cc.fields.flatMap fcells)[j]? =some u->wr.cell? ((⟨bf,of,none⟩:Addr).add j)=some u):=news_of fcells (by decide) (fun x _=>rfl) (fun _ _ h=>h.1) EF.out
   have HBB:Hid (fs.length+cc.fields.length<=maxLen/\(fs.length+cc.fields.length)*40<=140737488355328):=⟨by unfold maxLen;omega,by omega⟩
   clear h0
   go_wp2_with (at_builtin;refine wpList_append_lies _ rfl _ _ 54 rfl w0.heap.size 85 iF (.agg #[.string ⟨#[]⟩,.int .i64 0,.string ⟨#[]⟩]) 3 40 Tryz.underlying54 hiF hzF0 hzF1 hzF2 rfl (by decide) (.slice a5 fs.length c5) fs.length (fs.flatMap fcells) rfl HOW.out ⟨bf,of,none⟩ cc.fields.length cf (cc.fields.flatMap fcells) rfl flat_lenL HNEWS.out (one_fcells _) hpos HBB.out.1 HBB.out.2 hsr _ rfl ?_)
   intro g cap w1 hown1 hgr1 hat1 hlt1
   have HX:=mkHid (And.intro hown1 (HBr.out.grown hgr1 hsr (fun k e=>(HOW.out.lt k e).1)))
   clear hown1 hgr1 hat1 hown
   go_wp2_with fail
   go_roundw
   case rel=>
    obtain ⟨hown1,hB1⟩:=HX.out
    refine ⟨k+1,fs++cc.fields,by omega,by go_num,HNX.out.symm,by simp;omega,?_,?_,hB1⟩
    ·
     show ∀f∈_,_
     intro f hf
     rcases List.mem_append.1 hf with hf | hf
     ·
      exact HSZ.out f hf
     exact HSF.out f hf
    rw [List.length_append,List.flatMap_append]
    exact hown1
   case measure=>simp [intOf];omega
  have HX:Hid (allF l n=fs):=by
   show _=_
   rw [HFO.out,HP.out,List.take_of_length_le (by omega)]
  have hzs:(fs.map fun f=>(fcells f,f)).length=fs.length:=by simp
  have hzf:(fs.map fun f=>(fcells f,f)).flatMap (·.1)=fs.flatMap fcells:=by rw [List.flatMap_map]
  have sv:=own_SL (n:=3) (R:=RF) (T:=[85]) (zs:=fs.map fun f=>(fcells f,f)) (by rw [hzs,hzf];exact hown) (fun z hz=>by
   obtain ⟨f,hf,rfl⟩:=List.mem_map.1 hz
   exact ⟨rfl,rfl,HSZ.out f hf⟩) (by simp) (by rw [hzs];unfold maxLen;omega)
  have SV:=mkHid (sv.monoF (M':=MT w.heap.size [85] wr) fun _ hk=>hk.more HB0.out.size (fun _ ht=>ht))
  have HBW:=mkHid hBw
  clear hzs hzf hown sv hBw hBr
  go_wp2_with fail
  go_ret
  exact ⟨HBW.out,_,rfl,by rw [HX.out];have:=SV.out;rwa [List.map_map,show ((·.2)∘fun f:FieldD=>(fcells f,f))=id from rfl,List.map_id]at this⟩
end Go.Proofs.YtcddpmappmjilaaGreatDoor
