import Derived.Test.YtgnakaplmhmdcaaGreatDoorW21
import Derived.ChangeKeysEq
import Derived.Shelf.Strconv.ErrVarParseInt
import Derived.Lib.AtoiErrMem
set_option maxRecDepth 100000
set_option maxHeartbeats 8000000
set_option linter.unusedSimpArgs false
open Go.Proofs Go.RowKit Go.W
namespace Go.W
theorem Zcy.vals {B D b o:Nat}{w:World}{x:Bk}(h:Zcy B w (D+1) b o x):b < B/\ ∃ p c p' c' p2 c2,w.cell? ⟨b,o,none⟩=some (.slice p x.facts.length c)/\w.cell? ⟨b,o+1,none⟩=some (.slice p' x.rules.length c')/\w.cell? ⟨b,o+2,none⟩=some (.slice p2 x.checks.length c2)/\Zbk B w D [.slice p x.facts.length c,.slice p' x.rules.length c',.slice p2 x.checks.length c2] x:=by
 obtain⟨hb,⟨v,h2,p,c,rfl,h3,h4⟩,⟨u,h5,p',c',rfl,h6,h7⟩,q,h8,p2,c2,rfl,h9,h10⟩:=h;exact⟨hb,p,c,p',c',p2,c2,h2,h5,h8,p,c,p',c',p2,c2,rfl,h3,h4,h6,h7,h9,h10⟩
end Go.W
namespace Go.P
variable {tag:List UInt8}{xs:List Bk}
def Zmp (tag:List UInt8) (xs:List Bk):List UInt8:=xs.foldl (fun t x=>Za1 ⟨t.toArray⟩ [Zeh x]) tag
theorem Z0b {k:Nat}{x:Bk}(h:xs[k]?=some x):Zmp tag (xs.take (k+1))=Za1 ⟨(Zmp tag (xs.take k)).toArray⟩ [Zeh x]:=by
 have e1:xs.take (k+1)=xs.take k++[x]:=by rw[Yea,h];rfl
 rw[e1];unfold Zmp;rw[List.foldl_append];rfl
theorem Zf0 (h:tag.length=32)(xs:List Bk):(Zmp tag xs).length=32:=by
 unfold Zmp;induction xs generalizing tag with
 | nil=>exact h
 | cons x xs ih=>exact ih (Zbs _)
def Z7h (w:World) (C:Nat) (ts:List ByteArray) (tag:List UInt8) (xs:List Bk) (iv:Value) (wr:World):Prop:= ∃ (k:Nat) (v:Value) (F:List Nat),k<=xs.length/\iv= .int .i64 (k:Int)/\Blk wr C (Zau false v (Lib.byteCells (Zmp tag (xs.take k)))) 120/\Zag 114 4 Zhk wr v (ts++(xs.take k).map Zeh) F/\Za9 w.heap.size wr F/\C∉F/\Below w.heap.size w wr
theorem Zua (V:Zbe)(CL:Zb5){a:Nat->Addr}{B D:Nat}{w:World}{l:By}{ch:Ch}{p:Option Addr}{c:Nat}(Z:Zap a w)(hl:l.length < 1000000000)(hch:Zc7 Zd1 l= .ok ch)(hs:ch.sealed=false)(hB:B<=w.heap.size)(hrow:Zao 3 (Zcy B w (D+1)) p xs)(hx: ∀ x,x∈xs->Zh8 x=0)(hn:ch.links.length+xs.length<=8)(hts: ∀ y,y∈ch.links->y.1.size<=4000):
  Calls Tryz.prog 24 #[.string (ba l),.slice p xs.length c] w fun e w'=>e= .returned (.tuple #[.string (Zf2 false (ch.links.map (·.1)++xs.map Zeh) (Zmp ch.tag xs)),.nilIface])/\Below w.heap.size w w':=by
 obtain⟨WB,hWB⟩: ∃ WB,Box (Zf2 false (ch.links.map (·.1)++xs.map Zeh) (Zmp ch.tag xs)=WB):=⟨_,⟨rfl⟩⟩;rw[hWB.out];have C:=Zaa (Zvl V CL Z hl hch hs);have ZZ:=Zaa Z;have HR:=Zaa hrow;have HV:=Zaa V;have HSd:=Zaa hs;clear Z V CL hrow hch hs;go_enter Tryz.func24,Tryz.ntmps24
 go_wp2_with fail
 refine C.out.mono ?_;rintro e w1 ⟨hb1,⟨m,hy,hm,rfl⟩ | ⟨y,vs,F,hy,rfl,hQ,hN⟩⟩
 ·cases hy
 obtain rfl:y=ch:=(Except.ok.inj hy).symm;obtain⟨v,rfl,htl,hrow⟩:=hQ;obtain⟨hT,hTF⟩:=Zag.texts hrow;have hvf:=Zag.form hrow;obtain⟨p1,c1,hv1⟩:=hvf;have hlen:(Lib.byteCells y.tag).length=32:=by rw[Lib.byteCells_length,htl]
 have ECV:Box ((Value.bool y.sealed::v::Lib.byteCells y.tag).toArray=Zau false v (Lib.byteCells y.tag)):=⟨by rw[HSd.out];rfl⟩;rw[ECV.out];have S1:=Blk.new w1 Zay 120;have hin:=Zcn false v hlen;have hone:(Zau false v (Lib.byteCells y.tag)).all (·.oneCell')=true:=by rw[hv1];exact Zfj _ _ _ _ _
 have hsz:=Zcm false v hlen;have NT:Box (Za9 w.heap.size w1 v.ownBlock.toList):=⟨⟨by cases v.ownBlock <;> simp,fun k hk=>hN.ge k (hTF k hk),fun k hk=>hN.lt k (hTF k hk)⟩⟩;have HT:=Zaa hT;have B1:=Zaa hb1;clear hb1 hy hrow hT hTF hN C;obtain⟨CV,hCV⟩: ∃ CV,Box (Zau false v (Lib.byteCells y.tag)=CV):=⟨_,⟨rfl⟩⟩;rw[hCV.out]at hin hone hsz⊢;obtain⟨n,hnx⟩: ∃ n,Box (xs.length=n):=⟨_,⟨rfl⟩⟩;rw[hnx.out]at hn⊢;go_wp2_with (refine wpList_store_row rfl 120 (.tmp 6) (.tmp 14) rfl w1.heap.size CV rfl rfl 120 Zay S1 hin (by rw[hsz];rfl) hone ?_)
 obtain⟨W2,hW2⟩: ∃ W,(w1.alloc (.cells Zay 120)).setRow w1.heap.size CV=W:=⟨_,rfl⟩;change Code.wp _ _ _ _ ((w1.alloc (.cells Zay 120)).setRow w1.heap.size CV);have I0:Box (Z7h w w1.heap.size (y.links.map (·.1)) y.tag xs (.int .i64 ((0:Nat):Int)) W2):=⟨0,v,v.ownBlock.toList,Yd1 _,rfl,by rw[<- hW2,<- hCV.out];exact setRow_heap _ _ _ _ _ _ S1,by
   rw[<- hW2]
   have:=Zag.stable Zhk.stable _ ((w1.alloc (.cells Zay 120)).setRow w1.heap.size CV) _ _ _ HT.out (fun j hj=>by
    have:=NT.out.lt j hj
    rw[setRow_other _ _ j _ (by omega)];exact Ycx _ _ _ this)
   simpa using this,by rw[<- hW2];exact NT.out.later lr (by rw[setRow_size];simp),fun h=>by have:=NT.out.lt _ h;omega,by rw[<- hW2];exact(B1.out.alloc B1.out.size _).setRowAt _ B1.out.size⟩
 rw[hW2];have hCw:w.heap.size<=w1.heap.size:=B1.out.size;clear hW2 S1 hin hone hsz HT NT;generalize w1.heap.size=C at*;generalize Value.agg CV=vCV at*;go_loopw [21] (fun iv wr=>Z7h w C (y.links.map (·.1)) y.tag xs iv wr) (fun iv _=>xs.length - (intOf iv).toNat)
 case atStart=>exact I0.out
 case round=>
  clear I0;obtain⟨k,v',F',hk,rfl,hCb,hRw,hNw,hCF,hbw⟩:=hrel;by_cases hlt:k < n
  ·have g:(k:Int) < (n:Int):=by omega
   have hk':k < xs.length:=by have:=hnx.out;omega
   obtain⟨b1,o1,rfl,hxa⟩:=HR.out.get k hk';have hm:xs[k]∈xs:=Yd3 hk';have hxk:xs[k]?=some xs[k]:=Yc0 hk';obtain⟨hb1,q1,k1,q2,k2,q3,k3,z0,z1,z2,hS⟩:=(Zcy.carry (Go.W.Below.carry (hbw.mono hB) lr) lr hxa).vals;have hZ:=ZZ.out.belowN hbw ZZ.out.size;have htk:=Zf0 htl (xs.take k);have E0:Box (Z9w (y.links.map (·.1)++(xs.take k).map Zeh).length xs[k]=0):=⟨by
    unfold Z9w;rw[if_neg (by simp;have:=hnx.out;omega)];exact hx _ hm⟩
   have hl8:(y.links.map (·.1)++(xs.take k).map Zeh).length<=8:=by simp;have:=hnx.out;omega
   have CA:=Zaa (fun o=>Z9a HV.out (D:=D) (w:=wr.alloc o) (hZ.below ((Yct _ wr).alloc lr o)) hB ZZ.out.size hCw (hCb.alloc o) htk (Zag.stable Zhk.stable _ _ _ _ _ hRw fun j hj=>Ycx _ _ _ (hNw.lt j hj)) (hNw.later lr (by simp)) hCF (Zbk.carry hS (Zfd o (Ycu hB hbw.size))) hl8);have HB:=Zaa hbw;have ETG:=Zaa (Z0b (tag:=y.tag) hxk);have EXS:Box ((xs.take (k+1)).map Zeh=(xs.take k).map Zeh++[Zeh xs[k]]):=⟨by rw[Yea,hxk,List.map_append];rfl⟩;clear hCb hRw hNw hCF hbw hxa hS hZ hm hxk hl8;generalize xs[k]=x at*;go_wp2_with fail
   refine(CA.out _).mono ?_;rintro e w5 ⟨rfl,hb5,h5⟩;obtain⟨v5,F5,hC5,hR5,hN5,hCF5⟩:=h5 E0.out;rw[E0.out,Zbb];have HB5:=Zaa ((HB.out.alloc HB.out.size _).trans hb5);have H5:=Zaa (Ycs hC5 (Ycs hR5 (Ycs hN5 hCF5)));clear hb5 h5 hC5 hR5 hN5 hCF5 CA;go_wp2_with fail
   refine⟨⟨k+1,v5,F5,by have:=hnx.out;omega,by simp,?_,?_,H5.out.2.2.1,H5.out.2.2.2,HB5.out⟩,by simp[intOf];have:=hnx.out;omega⟩
   ·rw[ETG.out];exact H5.out.1
   ·rw[EXS.out,<- Yc8];exact H5.out.2.1
  ·obtain rfl:k=n:=by have:=hnx.out;omega
   rw[<- hnx.out,Yd2]at hCb hRw;have hTl:=Zf0 htl xs;have hlT:(Lib.byteCells (Zmp y.tag xs)).length=32:=by rw[Lib.byteCells_length,hTl]
   obtain⟨p5,c5,hv5,hrw5⟩:=Zag.links hRw (fun j hj=>hNw.lt j hj);have CW:=Zaa (Ztz (S:=false) (c:=c5) lr hrw5 hTl (Zi0 false (by simp;have:=hnx.out;omega) (fun t ht=>by
    rcases Yc2.1 ht with ht | ht
    ·obtain⟨z,hz,rfl⟩:=List.mem_map.1 ht;exact hts z hz
    ·obtain⟨z,hz,rfl⟩:=List.mem_map.1 ht;exact Zfn z) hTl))
   rw[<- hv5]at CW;rw[hWB.out]at CW;have hin5:=Zcn false v' hlT;obtain⟨CV5,hCV5⟩: ∃ CV5,Box (Zau false v' (Lib.byteCells (Zmp y.tag xs))=CV5):=⟨_,⟨rfl⟩⟩;rw[hCV5.out]at hin5 hCb CW;have HB:=Zaa hbw;clear hRw hNw hCF hbw hrw5;go_wp2_with (refine wpList_load_row rfl 120 (.tmp 6) rfl C rfl 120 CV5 (0,0) _ hCb Tryz.underlying120 rfl hin5 ?_)
   refine CW.out.mono ?_;rintro e w9 ⟨rfl,hb9⟩;have R9:=Zaa (HB.out.trans (hb9.mono HB.out.size));clear CW hb9 hCb;go_wp2_with fail
   go_ret2
   exact⟨rfl,R9.out⟩
end Go.P
namespace Go.W
def Zyi:Zgk (List UInt8):=fun _ vs x F=>F=[]/\x.length=32/\vs=Lib.byteCells x
theorem Zyi.stable:Zcx Zyi:=fun _ _ _ _ _ h _=>h
theorem Zyi.one {w:World}{vs:List Value}{x:List UInt8}{F:List Nat}(h:Zyi w vs x F): ∀ u,u∈vs->u.oneCell'=true:=by
 obtain⟨_,_,rfl⟩:=h;exact Lib.byteCells_one x
theorem Ze3 {P:Program}(w:World){ops:Array Oper}{rest:List Oper}{o:Oper}{a:Act}{Q:Exit->Act->World->Prop}(hgd:o.guard=none)(ty:TypeId)(n:Nat)(ps:Array (Nat×Operand))(ho:o.op= .buildSlice ty n ps)(pv:Array (Nat×Value))(hp:ps.map (fun p=>(p.1,a.eval p.2))=pv){v':Value}{w':World}
  (hr:(Instr.buildSlice ty n pv).run P w= .ok v' w') (h:wpList P ops Q rest (a.put o.dst v') w'):wpList P ops Q (o::rest) a w:=by
 refine wpList_plain hgd fun _ hK=>?_;unfold Oper.wp execOp;rw[ho];simp only[hp,Yek,Sem.run_pure,Yd9,hr];exact hK _ _ h
end Go.W
namespace Go.P
variable {tag:List UInt8}{ts:List ByteArray}{k:Nat}{w:World}
theorem Zjg {T:List UInt8}(h:T.length=32)(w:World):(Instr.buildSlice 194 1 #[(0,.agg (Lib.byteCells T).toArray)]).run Tryz.prog w= .ok (.slice (some ⟨w.heap.size,0,none⟩) 1 1) (w.alloc (.cells (Lib.byteCells T).toArray 117)):=by
 obtain⟨a0,a1,a2,a3,a4,a5,a6,a7,a8,a9,b0,b1,b2,b3,b4,b5,b6,b7,b8,b9,c0,c1,c2,c3,c4,c5,c6,c7,c8,c9,d0,d1,rfl⟩:=Z7j h;kernel_rfl
theorem Z53:(Tryz.prog.info? 117).map (fun i=>(i.zero,i.size,i.bytes))=some (some (.agg Zaj),32,32):=by kernel_rfl
theorem Z55:Zdp Tryz.prog 194 117 32 32:=by
 obtain⟨i0,hi,hz0,hz1,hz2⟩:=info_parts Z53;exact⟨i0,_,Tryz.underlying194,hi,hz0,hz1,hz2,rfl,by decide,by decide⟩
def Ziv (tag:List UInt8):List ByteArray->List (List UInt8)
 | []=>[]
 | t::ts=>Za1 ⟨tag.toArray⟩ [t]::Ziv (Za1 ⟨tag.toArray⟩ [t]) ts
def Zsx (tag:List UInt8) (ts:List ByteArray):List UInt8:=ts.foldl (fun t x=>Za1 ⟨t.toArray⟩ [x]) tag
theorem Zob (h:tag.length=32)(ts:List ByteArray):(Zsx tag ts).length=32:=by
 unfold Zsx;induction ts generalizing tag with
 | nil=>exact h
 | cons x xs ih=>exact ih (Zbs _)
theorem Zhz (tag:List UInt8)(ts:List ByteArray):(Ziv tag ts).length=ts.length:=by
 induction ts generalizing tag with
 | nil=>rfl
 | cons x xs ih=>simp[Ziv,ih]
theorem Zow: ∀ (ts:List ByteArray) (tag:List UInt8) (k:Nat),k < ts.length->(Ziv tag ts)[k]?=some (Zsx tag (ts.take (k+1)))
 | [],_,_,h=>by simp at h
 | t::ts,tag,0,_=>rfl
 | t::ts,tag,k+1,h=>by
  show(Ziv _ ts)[k]?=_;rw[Zow ts _ k (by simpa using h)];rfl
theorem Zzi (h:k < ts.length):(Ziv tag ts).take (k+1)=(Ziv tag ts).take k++[Zsx tag (ts.take (k+1))]:=by rw[Yea,Zow ts tag k h];rfl
theorem Z3t {t:ByteArray}(h:ts[k]?=some t):Zsx tag (ts.take (k+1))=Za1 ⟨(Zsx tag (ts.take k)).toArray⟩ [t]:=by
 rw[Yea,h];unfold Zsx;simp
def Z7t (w:World) (T:Nat) (T0:List UInt8) (ts:List ByteArray) (iv tv:Value) (wr:World):Prop:= ∃ (k:Nat) (F:List Nat),k<=ts.length/\iv= .int .i64 (k:Int)/\Zag 117 32 Zyi wr tv (T0::(Ziv T0 ts).take k) F/\Za9 w.heap.size wr F/\T∉F/\Blk wr T (Lib.byteCells (Zsx T0 (ts.take k))).toArray 117/\Below w.heap.size w wr
theorem Z84 {x:List UInt8}(hx:x.length=32):Zag 117 32 Zyi (w.alloc (.cells (Lib.byteCells x).toArray 117)) (.slice (some ⟨w.heap.size,0,none⟩) 1 1) [x] [w.heap.size]:=by
 have hl:(Lib.byteCells x).length=32:=by rw[Lib.byteCells_length,hx]
 refine⟨[(Lib.byteCells x,x,[])],⟨by simp[hl],Or.inr ⟨w.heap.size,1,(Lib.byteCells x).toArray,rfl,Yd1 _,Blk.new w _ _,Ydu _,by unfold maxLen;omega,by simp[hl],by simp;exact Ydr (by omega)⟩⟩,?_,rfl,rfl,by simp⟩
 ·intro z hz;obtain rfl:z=(Lib.byteCells x,x,[]):=by simpa using hz
  exact⟨hl,rfl,hx,rfl⟩
theorem Z6i {a:Nat->Addr}{B:Nat}{key:ByteArray}{S:Bool}{t0:ByteArray}{p:Option Addr}{c:Nat}(Z:Zap a w)(hk:key.size < 1000000000)(hB:B<=w.heap.size)(hrow:Zao 4 (Zg7 B w) p (t0::ts))(hn:ts.length < 100)(hc:ts.length+1<=c):
  Calls Tryz.prog 97 #[.agg (Zau S (.slice p (ts.length+1) c) (Lib.byteCells tag)),.string key] w fun e w'=> ∃ v F,e= .returned v/\Zag 117 32 Zyi w' v (Za1 key [t0]::Ziv (Za1 key [t0]) ts) F/\Za9 w.heap.size w' F/\Below w.heap.size w w':=by
 obtain⟨CV,hCV⟩: ∃ CV,Box (Zau S (.slice p (ts.length+1) c) (Lib.byteCells tag)=CV):=⟨_,⟨rfl⟩⟩;have v1:CV[1]?=some (.slice p (ts.length+1) c):=by rw[<- hCV.out];rfl
 rw[hCV.out];obtain⟨b,o,rfl,h0⟩:=hrow.get 0 (by simp);obtain⟨hb0,ht0,_,_,_,_,_,_,_,_,_,k0,_⟩:=h0;rw[Yef,Yeg]at k0;have k0:w.cell? ⟨b,o,none⟩=some (.string t0):=k0;have ht0:t0.size < 1000000000:=ht0;have hbw:b < w.heap.size:=Ycz hb0 hB;have ZZ:=Zaa Z;have HR:=Zaa hrow;clear Z hrow;obtain⟨n,hnn⟩: ∃ n,Box (ts.length=n):=⟨_,⟨rfl⟩⟩;rw[hnn.out]at v1 hn hc;go_enter Tryz.func97,Tryz.ntmps97
 go_wp2_with fail
 have hb1:=((Yct w.heap.size w).alloc lr (.cells CV 120)).alloc (by simp) (.cells #[.string t0] 9);have hT1:Blk ((w.alloc (.cells CV 120)).alloc (.cells #[.string t0] 9)) (w.heap.size+1) #[.string t0] 9:=by
  have:=Blk.new (w.alloc (.cells CV 120)) #[.string t0] 9
  simpa using this
 refine(Zn3 (c:=1) (ZZ.out.below hb1) hk (Zgu hT1 ht0) (by simp)).mono ?_;rintro e w2 ⟨rfl,hb2⟩;have hT0:(Za1 key [t0]).length=32:=Zbs _;have B2:=Zaa (hb1.trans (hb2.mono hb1.size));have C2:=Zaa (((Blk.new w CV 120).alloc (.cells #[.string t0] 9)).of (hb2.block _ (by simp;omega)));have hs2:w.heap.size+2<=w2.heap.size:=by have:=hb2.size;simpa using this
 clear hb1 hb2 hT1;unfold Zlk;have EK:Box (Za1 key [t0]=Za1 key [t0]):=⟨rfl⟩;obtain⟨T0,hT⟩: ∃ T0,Box (Za1 key [t0]=T0):=⟨_,⟨rfl⟩⟩;rw[hT.out]at hT0⊢;clear EK;have S2:=Blk.new w2 Zaj 117;have S3:=setRow_heap _ _ _ (Lib.byteCells T0).toArray _ _ S2;have hi0:=Zi4 hT0;have hs0:(Lib.byteCells T0).toArray.size=32:=by rw[Yc5,Lib.byteCells_length,hT0]
 obtain⟨TV,hTV⟩: ∃ TV,Box ((Lib.byteCells T0).toArray=TV):=⟨_,⟨rfl⟩⟩;have hbs:=Zaa (fun u=>Zjg hT0 u);have hone:=Zf3 T0;rw[hTV.out]at S3 hi0 hs0 hbs hone⊢;have x1: ∀ o1 o2,(((w2.alloc o1).setRow w2.heap.size TV).alloc o2).cell? ⟨w.heap.size,1,none⟩=some (.slice (some ⟨b,o,none⟩) (n+1) c):=fun o1 o2=>((((C2.out.alloc o1).of (setRow_other _ _ _ _ (by omega))).alloc o2).cell 1).trans v1;have hc1:((1:Int)<=(n:Int)+1):=by omega
 have hc2:((n:Int)+1<=(c:Int)):=by omega
 go_wp2_with (first
  | (refine wpList_store_row rfl 117 (.tmp 5) (.tmp 16) rfl w2.heap.size TV rfl rfl 117 Zaj S2 hi0 (by rw[hs0];rfl) hone ?_)
  | (refine wpList_load_row rfl 117 (.tmp 5) rfl w2.heap.size rfl 117 TV (0,0) _ S3 Tryz.underlying117 rfl hi0 ?_)
  | (refine Ze3 _ rfl 194 1 #[(0,.tmp 17)] rfl #[(0,.agg TV)] (by simp[Act.eval,Act.put]) (hbs.out _) ?_))
 case' inl=>
  have HA:Box (∃ ad cx,(Value.slice (some ⟨b,o,none⟩) n 0)= .slice (some ad) n cx/\(0 < n->ad=⟨b,o+4,none⟩)):=⟨⟨⟨b,o,none⟩,0,rfl,fun h=>by omega⟩⟩;generalize Value.slice (some ⟨b,o,none⟩) n 0=sl at*
 case' inr=>
  have HA:Box (∃ ad cx,(Value.slice (some ⟨b,o+4,none⟩) n (c - 1))= .slice (some ad) n cx/\(0 < n->ad=⟨b,o+4,none⟩)):=⟨⟨⟨b,o+4,none⟩,c - 1,rfl,fun _=>rfl⟩⟩;generalize Value.slice (some ⟨b,o+4,none⟩) n (c - 1)=sl at*
 all_goals
  change Code.wp _ _ _ _ (((w2.alloc (.cells Zaj 117)).setRow w2.heap.size TV).alloc (.cells TV 117));have hRow:Zag 117 32 Zyi (((w2.alloc (.cells Zaj 117)).setRow w2.heap.size TV).alloc (.cells TV 117)) (.slice (some ⟨w2.heap.size+1,0,none⟩) 1 1) [T0] [w2.heap.size+1]:=by
   have:=Z84 (w:=(w2.alloc (.cells Zaj 117)).setRow w2.heap.size TV) hT0
   rw[hTV.out,setRow_size,Yc4]at this;exact this
  have I0:Box (Z7t w w2.heap.size T0 ts (.int .i64 ((0:Nat):Int)) (.slice (some ⟨w2.heap.size+1,0,none⟩) 1 1) (((w2.alloc (.cells Zaj 117)).setRow w2.heap.size TV).alloc (.cells TV 117))):=⟨⟨0,[w2.heap.size+1],Yd1 _,rfl,hRow,⟨by simp,fun k hk=>by simp at hk;omega,fun k hk=>by simp at hk;rw[Yc4,setRow_size,Yc4];omega⟩,by simp,by rw[List.take_zero,show Zsx T0 []=T0 from rfl,hTV.out];exact Blk.alloc S3 _,(((B2.out.alloc B2.out.size _).setRowAt _ B2.out.size).alloc (by rw[setRow_size,Yc4];omega) _)⟩⟩;have hTw:w.heap.size<=w2.heap.size:=by omega
  clear x1 S2 S3 hbs hone hs0 hi0 hRow;generalize ((w2.alloc (.cells Zaj 117)).setRow w2.heap.size TV).alloc (.cells TV 117)=W3 at*;generalize (Value.slice (some ⟨w2.heap.size+1,0,none⟩) 1 1)=sl0 at*;generalize w2.heap.size=T at*;go_loopw [23,6] (fun iv tv wr=>Z7t w T T0 ts iv tv wr) (fun iv _ _=>ts.length - (intOf iv).toNat)
  case atStart=>exact I0.out
  case round=>
   clear I0;obtain⟨k,F,hk,rfl,hRk,hNk,hTF,hTb,hbk⟩:=hrel;by_cases hlt:k < n
   ·first
    | (exfalso;omega)
    | (have g:(k:Int) < (n:Int):=by omega
       obtain⟨ad,cx,rfl,hadr⟩:=HA.out;obtain rfl:=hadr (by omega);have hk':k < ts.length:=by have:=hnn.out;omega
       obtain⟨b',o',hbo,hx⟩:=HR.out.get (k+1) (by simpa using hk');obtain⟨rfl,rfl⟩:b=b'/\o=o':=by injection hbo with h;injection h with h1 h2;exact⟨h1,h2⟩
       have hxk:ts[k]?=some ts[k]:=Yc0 hk';obtain⟨hb1,hxs,p1,n1,c1,p2,n2,c2,p3,n3,c3,z0,z1,z2,z3⟩:=Zg7.carry (Go.W.Below.carry (hbk.mono hB) lr) hx;rw[show o+(k+1)*4=o+4+k*4 by omega]at z0 z1 z2 z3;replace z0:wr.cell? ⟨b,o+4+k*4,none⟩=some (.string ts[k]):=z0
       replace hxs:ts[k].size < 1000000000:=hxs
       have hKl:=Zob hT0 (ts.take k);have hKl1:=Zob hT0 (ts.take (k+1));have EK:=Z3t (tag:=T0) hxk;have ETL:=Zaa (Zzi (tag:=T0) hk');have hUb: ∀ o,Below w.heap.size w (wr.alloc o):=fun o=>hbk.alloc hbk.size o;have CB:=Zaa (fun o=>Zuk (t:=ts[k]) ((ZZ.out.belowN hbk ZZ.out.size).below ((Yct _ wr).alloc lr o)) hKl hxs);rw[<- EK]at CB;unfold Zlk at CB;have hik:=Zi4 hKl;have hik1:=Zi4 hKl1;have hbs1:=Zaa (fun u=>Zjg hKl1 u);have hone1:=Zf3 (Zsx T0 (ts.take (k+1)));have hsk1:(Lib.byteCells (Zsx T0 (ts.take (k+1)))).toArray.size=32:=by rw[Yc5,Lib.byteCells_length,hKl1]
       have hsk:(Lib.byteCells (Zsx T0 (ts.take k))).toArray.size=32:=by rw[Yc5,Lib.byteCells_length,hKl]
       obtain⟨TK,hTK⟩: ∃ TK,Box ((Lib.byteCells (Zsx T0 (ts.take k))).toArray=TK):=⟨_,⟨rfl⟩⟩;obtain⟨TK1,hTK1⟩: ∃ TK1,Box ((Lib.byteCells (Zsx T0 (ts.take (k+1)))).toArray=TK1):=⟨_,⟨rfl⟩⟩;rw[hTK.out,hTK1.out]at CB;rw[hTK.out]at hTb hik hsk;rw[hTK1.out]at hik1 hbs1 hone1 hsk1;have TU:=fun o=>hTb.alloc o;have HH:=Zaa (Ycs hRk (Ycs hNk (Ycs hTF hbk)));have hTl:T < wr.heap.size:=hTb.lt;clear hx EK hRk hNk hTF hTb hbk;obtain⟨xk,hxk'⟩: ∃ xk,Box (ts[k]=xk):=⟨_,⟨rfl⟩⟩;rw[hxk'.out]at CB z0 hxs;go_wp2_with (refine wpList_load_row rfl 117 (.tmp 5) rfl T rfl 117 TK (0,0) _ (TU _) Tryz.underlying117 rfl hik ?_)
       refine(CB.out _).mono ?_;rintro e w5 ⟨rfl,hb5⟩;have T5:=(TU (.cells #[.string xk,.slice p1 n1 c1,.slice p2 n2 c2,.slice p3 n3 c3] 114)).of (hb5.block _ (by simp;omega));have T6:=setRow_heap _ _ _ TK1 _ _ T5;have hs5:wr.heap.size+1<=w5.heap.size:=by have:=hb5.size;simpa using this
       have hbs6:=hbs1.out (w5.setRow T TK1);rw[setRow_size]at hbs6;have same6:Box (∀ j,j < wr.heap.size->j≠T->(w5.setRow T TK1).heap[j]?=wr.heap[j]?):=⟨fun j hj hne=>(setRow_other _ _ j _ hne).trans ((hb5.block j (by simp;omega)).trans (Ycx _ _ _ hj))⟩;have B6:Box (Below w.heap.size w (w5.setRow T TK1)):=⟨((hUb _).trans (hb5.mono (by have:=HH.out.2.2.2.size;simp;omega))).setRowAt _ hTw⟩;have R7:Box (Zag 117 32 Zyi ((w5.setRow T TK1).alloc (.cells TK1 117)) u6 (T0::(Ziv T0 ts).take k) F):=⟨Zag.stable Zyi.stable _ _ _ _ _ HH.out.1 fun j hj=>(Ycx _ _ _ (by rw[setRow_size];have:=HH.out.2.1.lt j hj;omega)).trans (same6.out j (HH.out.2.1.lt j hj) (fun e=>HH.out.2.2.1 (e▸hj)))⟩;have N7:Box (Za9 w.heap.size ((w5.setRow T TK1).alloc (.cells TK1 117)) F):=⟨HH.out.2.1.later lr (by rw[Yc4,setRow_size];omega)⟩;have hq7:Box (Zyi ((w5.setRow T TK1).alloc (.cells TK1 117)) TK1.toList (Zsx T0 (ts.take (k+1))) []):=⟨rfl,hKl1,by rw[<- hTK1.out]⟩;have hnew:=Blk.new (w5.setRow T TK1) TK1 117;rw[setRow_size]at hnew;have hxl:(T0::(Ziv T0 ts).take k).length < 100000000:=by simp[Zhz];have:=hnn.out;omega
       clear CB hb5 TU hbs1 hUb;go_wp2_with (first
        | (refine wpList_store_row rfl 117 (.tmp 5) (.tmp 30) rfl T TK1 rfl rfl 117 TK T5 hik1 (by rw[hsk,hsk1]) hone1 ?_)
        | (refine wpList_load_row rfl 117 (.tmp 5) rfl T rfl 117 TK1 (0,0) _ T6 Tryz.underlying117 rfl hik1 ?_)
        | (refine Ze3 _ rfl 194 1 #[(0,.tmp 32)] rfl #[(0,.agg TK1)] (by simp[Act.eval,Act.put]) hbs6 ?_)
        | (at_builtin;go_must (refine Za7 Z55 rfl (.tmp 31) (.tmp 33) rfl Zyi.stable (fun _ _ _ _ h=>Zyi.one h) w.heap.size u6 (T0::(Ziv T0 ts).take k) F rfl R7.out w5.heap.size TK1 117 (0,0) (Zsx T0 (ts.take (k+1))) [] rfl hnew hsk1 hq7.out hxl (by have:=HH.out.2.2.2.size;rw[Yc4,setRow_size];omega) N7.out (Za9.nil _ _) (fun _ _ h=>by cases h) ?_);intro g8 cap8 w8 F8 happ))
       have hs8:=happ.size;rw[Yc4,setRow_size]at hs8;have st8: ∀ j,j < wr.heap.size->j∉F->j≠T->w8.heap[j]?=wr.heap[j]?:=fun j hj hjF hjT=>(happ.same j (by rw[Yc4,setRow_size];omega) hjF).trans ((Ycx _ _ _ (by rw[setRow_size];omega)).trans (same6.out j hj hjT));go_roundw
       case rel=>
        refine⟨k+1,F8,by omega,by go_num,?_,happ.new,?_,?_,?_⟩
        ·rw[ETL.out]
         have:=happ.row
         simpa using this
        ·intro h;rcases happ.sub T h with h | h | h
         ·exact HH.out.2.2.1 h
         ·cases h
         ·rw[Yc4,setRow_size]at h;omega
        ·rw[hTK1.out];exact Blk.of (Blk.alloc T6 (.cells TK1 117)) (happ.same T (by rw[Yc4,setRow_size];omega) HH.out.2.2.1)
        ·have hb:=HH.out.2.2.2;exact⟨happ.os.trans B6.out.os,happ.tape.trans B6.out.tape,happ.output.trans B6.out.output,by have:=hb.size;omega,fun j hj=>(st8 j (by have:=hb.size;omega) (fun h=>by have:=HH.out.2.1.ge j h;omega) (by omega)).trans (hb.block j hj)⟩
       case measure=>simp[intOf];omega)
   ·obtain rfl:k=n:=by have:=hnn.out;omega
    have e1:(Ziv T0 ts).take k=Ziv T0 ts:=Ydr (by rw[Zhz];have:=hnn.out;omega);rw[e1]at hRk;have HH:=Zaa (Ycs hRk (Ycs hNk hbk));clear hRk hNk hbk hTF hTb;go_wp2_with fail
    go_ret
    rw[hT.out];exact⟨u6,F,rfl,HH.out.1,HH.out.2.1,HH.out.2.2⟩
end Go.P
namespace Go.P
theorem Z3c {T:List UInt8}{i:Nat}(h:i < T.length)(w:World):(part 5 (Lib.byteCells T).toArray (i*1)).run Tryz.prog w= .ok (.int .u8 ((T.getD i 0).toNat:Int)) w:=by
 have:=Zn5 T i h
 rw[Nat.mul_one];simp[part,go_sem,this]
theorem Zlu {T:List UInt8}(d:Nat)(w:World): ∀ (is:List Nat),(∀ i,i∈is->i < T.length)->(Op.eqItems (d+1) 5 1 (Lib.byteCells T).toArray (Lib.byteCells T).toArray is).run Tryz.prog w= .ok true w
 | [],_=>by simp[Op.eqItems]
 | i::is,h=>by
  have h1:=Z3c (h i List.mem_cons_self) w;have h2:=Zlu d w is fun j hj=>h j (List.mem_cons_of_mem _ hj);have h3:=run_equalIn_int (P:=Tryz.prog) w d 5 .u8 .u8 ((T.getD i 0).toNat:Int) ((T.getD i 0).toNat:Int) Tryz.underlying5;simp only[Op.eqItems,Yek,h1,Yd9,h3];simp[h2]
theorem Z89 {T:List UInt8}(h:T.length=32)(w:World):(binOp .eql 117 (.agg (Lib.byteCells T).toArray) (.agg (Lib.byteCells T).toArray)).run Tryz.prog w= .ok (.bool true) w:=by
 obtain⟨i,hi,_,hs,_⟩:=info_parts Zkr;rw[run_eql_struct,run_equalIn_array w 9999 _ _ Tryz.underlying117 hi,Zoz,Zlu 9998 w _ (fun j hj=>by rw[h];simpa using hj)];rfl
theorem Z2n {w:World}{v:Value}{tag:List UInt8}(ht:tag.length=32):
  Calls Tryz.prog 98 #[.agg (Zau false v (Lib.byteCells tag)),Zlk tag] w fun e w'=>e= .returned (.bool true)/\Below w.heap.size w w':=by
 obtain⟨CV,hCV⟩: ∃ CV,Box (Zau false v (Lib.byteCells tag)=CV):=⟨_,⟨rfl⟩⟩;have v0:CV[0]?=some (.bool false):=by rw[<- hCV.out];rfl
 have hlen:(Lib.byteCells tag).length=32:=by rw[Lib.byteCells_length,ht]
 unfold Zlk;have hC:=fun o=>(Blk.new w CV 120).alloc o;have c0:=fun o=>((hC o).cell 0).trans v0;rw[hCV.out];go_enter Tryz.func98,Tryz.ntmps98
 have hrg: ∀ o,((w.alloc (.cells CV 120)).alloc o).rangeAt w.heap.size 2 (Lib.byteCells tag):=fun o j u hj=>by
  rw[Blk.cell (hC o),<- hCV.out,Zau,Ydq,Nat.add_comm 2 j];exact hj
 have hL:Blk ((w.alloc (.cells CV 120)).alloc (.cells (Lib.byteCells tag).toArray 117)) (w.heap.size+1) (Lib.byteCells tag).toArray 117:=by
  have:=Blk.new (w.alloc (.cells CV 120)) (Lib.byteCells tag).toArray 117
  simpa using this
 have heq:=fun u=>Z89 ht u;go_wp2_with (first
  | (refine wpList_load_mid rfl 117 (.tmp 9) rfl w.heap.size 2 rfl (Lib.byteCells tag) _ (hrg _) Tryz.underlying117 rfl (by rw[hlen];kernel_rfl) ?_)
  | (refine wpList_load_row rfl 117 (.tmp 3) rfl (w.heap.size+1) rfl 117 (Lib.byteCells tag).toArray (0,0) _ hL Tryz.underlying117 rfl (Zi4 ht) ?_))
 go_ret
 exact⟨rfl,((Yct w.heap.size w).alloc lr _).alloc (by simp) _⟩
end Go.P
namespace Go.W
variable {w:World}{vs:List Value}{F:List Nat}
def Zxs (W0:World) (D:Nat):Zgk Bk:=fun _ vs x F=>F=[]/\Zbk W0.heap.size W0 D vs x
theorem Zxs.stable (W0:World)(D:Nat):Zcx (Zxs W0 D):=fun _ _ _ _ _ h _=>h
theorem Zxs.one {W0:World}{D:Nat}{x:Bk}(h:Zxs W0 D w vs x F): ∀ u,u∈vs->u.oneCell'=true:=by
 obtain⟨_,p,c,p',c',p2,c2,rfl,_⟩:=h;intro u hu;simp at hu;rcases hu with rfl | rfl | rfl <;> rfl
def Ybc (W0:World) (b o:Nat) (y:ByteArray×Bk):Prop:=b < W0.heap.size/\y.1.size < 1000000000/\ ∃ p c p' c' p2 c2,W0.cell? ⟨b,o,none⟩=some (.string y.1)/\W0.cell? ⟨b,o+1,none⟩=some (.slice p y.2.facts.length c)/\W0.cell? ⟨b,o+2,none⟩=some (.slice p' y.2.rules.length c')/\W0.cell? ⟨b,o+3,none⟩=some (.slice p2 y.2.checks.length c2)/\Zbk W0.heap.size W0 3 [.slice p y.2.facts.length c,.slice p' y.2.rules.length c',.slice p2 y.2.checks.length c2] y.2
def Zjx:Zgk ByteArray:=fun _ vs x F=>F=[]/\vs=[.string x]
theorem Zjx.stable:Zcx Zjx:=fun _ _ _ _ _ h _=>h
theorem Zjx.one {x:ByteArray}(h:Zjx w vs x F): ∀ u,u∈vs->u.oneCell'=true:=by
 obtain⟨_,rfl⟩:=h;intro u hu;simp at hu;subst hu;rfl
end Go.W
namespace Go.P
variable {e:TypeId}{w:World}{v:Value}{xs:List (ByteArray×Bk)}{F:List Nat}
theorem Z6w (h:Zag e 4 (Zeo Zad 4) w v xs F)(hF: ∀ k,k∈F->k < w.heap.size):Zlr 4 (Ybc w) v xs:=h.rowOf hF fun b o vs x G hc hb hG hq=>by
 obtain⟨vb,rfl,hx,hbo⟩:=hq;have hS:=Zba.toS hbo hG;obtain⟨p,c,p',c',p2,c2,rfl⟩:=Zba.vals hbo;exact⟨hb,hx,p,c,p',c',p2,c2,hc 0 (by omega),hc 1 (by omega),hc 2 (by omega),hc 3 (by omega),hS⟩
theorem Z0g {u:World}{p:Option Addr}(h:Zao 4 (Ybc w) p xs)(hb:Below w.heap.size w u):Zao 4 (Zg7 w.heap.size u) p (xs.map (·.1)):=⟨by simpa using h.len,fun i x hx=>by
 rw[Ydn]at hx;obtain⟨y,hy,rfl⟩:=Ydi.1 hx;obtain⟨b,o,hp,hl,hs,p1,c1,p2,c2,p3,c3,k0,k1,k2,k3,_⟩:=h.at_ i y hy;have cc:=fun o=>hb.cell (p:=⟨b,o,none⟩) hl;exact⟨b,o,hp,hl,hs,p1,_,c1,p2,_,c2,p3,_,c3,(cc _).trans k0,(cc _).trans k1,(cc _).trans k2,(cc _).trans k3⟩⟩
theorem Zze (T0:List UInt8)(ts:List ByteArray):(T0::Ziv T0 ts)[ts.length]?=some (Zsx T0 ts):=by
 cases ts with
 | nil=>rfl
 | cons z zs=>
  rw[Yc7,List.getElem?_cons_succ,Zow _ _ _ (by simp)];rw[Ydr (by simp)]
theorem Z8i {xs:List (List UInt8)}(h:Zag e 32 Zyi w v xs F)(hF: ∀ k,k∈F->k < w.heap.size):Zlr 32 (fun b o x=>b < w.heap.size/\x.length=32/\w.rangeAt b o (Lib.byteCells x)) v xs:=h.rowOf hF fun b o vs x G hc hb hG hq=>by
 obtain⟨_,hx,rfl⟩:=hq;refine⟨hb,hx,fun j u hj=>?_⟩;have hl:j < 32:=by have:=(Yc3.1 hj).1;rw[Lib.byteCells_length,hx]at this;exact this
 exact(hc j hl).trans hj
theorem Z5c:(Tryz.prog.info? 38).map (fun i=>(i.zero,i.size,i.bytes))=some (some (.agg #[.slice none 0 0,.slice none 0 0,.slice none 0 0]),3,72):=by kernel_rfl
theorem Zxq:Zdp Tryz.prog 27 38 3 72:=by
 obtain⟨i0,hi,hz0,hz1,hz2⟩:=info_parts Z5c;exact⟨i0,_,Tryz.underlying27,hi,hz0,hz1,hz2,rfl,by decide,by decide⟩
theorem Zr3:Zdp Tryz.prog 29 9 1 16:=by
 obtain⟨i0,hi,hz0,hz1,hz2⟩:=info_parts Zsn;exact⟨i0,_,Tryz.underlying29,hi,hz0,hz1,hz2,rfl,by decide,by decide⟩
theorem Zh1 {L off:Nat}{xs:List UInt8}(h:w.rangeAt L off (Lib.byteCells xs))(n:Nat)(hn:n=xs.length){cap:Nat}:
  (convert 76 9 (.slice (some ⟨L,off,none⟩) n cap)).run Tryz.prog w= .ok (.string ⟨xs.toArray⟩) w:=by
 subst hn;refine run_convert_bytes_back (P:=Tryz.prog) w 76 9 5 ⟨L,off,none⟩ cap xs Tryz.underlying76 Tryz.underlying5 Tryz.underlying9 (fun j hj=>?_);have e1:(⟨L,off,none⟩:Addr).add j=⟨L,off+j,none⟩:=Addr.add_lit _ _ _;rw[e1];exact h j _ (by simp[Lib.byteCells,Yc0 hj])
def Yan (w2 w5:World) (xs:List Bk) (ids:List ByteArray) (iv bv dv:Value) (wr:World):Prop:= ∃ (k:Nat) (F1 F2:List Nat),k<=xs.length/\iv= .int .i64 (k:Int)/\Zag 38 3 (Zxs w2 3) wr bv (xs.take k) F1/\Zag 9 1 Zjx wr dv (ids.take k) F2/\Za9 w5.heap.size wr F1/\Za9 w5.heap.size wr F2/\(∀ j,j∈F1->j∉F2)/\Below w5.heap.size w5 wr
theorem Z38 (V:Zbe)(CL:Zb5){a:Nat->Addr}{key:ByteArray}{l:By}{ch:Ch}{y0:ByteArray×Bk}{ys:List (ByteArray×Bk)}(Z:Zap a w)(hk:Zrs key=true)(hl:l.length < 1000000000)(hch:Zc7 Zd1 l= .ok ch)(hs:ch.sealed=false)(hls:ch.links=y0::ys)(hn:ys.length < 8)(htag:ch.tag=Zsx (Za1 key [y0.1]) (ys.map (·.1))):
  Calls Tryz.prog 45 #[.string key,.string (ba l)] w fun e w'=> ∃ v1 v2 F1 F2 W0,e= .returned (.tuple #[v1,v2,.nilIface])/\Below w.heap.size w W0/\Below W0.heap.size W0 w'/\Zag 38 3 (Zxs W0 3) w' v1 ((y0::ys).map (·.2)) F1/\Zag 9 1 Zjx w' v2 ((Za1 key [y0.1]::Ziv (Za1 key [y0.1]) (ys.map (·.1))).map fun t=>⟨(ofB [⟨t.toArray⟩]).toArray⟩) F2/\Za9 W0.heap.size w' F1/\Za9 W0.heap.size w' F2:=by
 obtain⟨T0,hT0⟩: ∃ T0,Box (Za1 key [y0.1]=T0):=⟨_,⟨rfl⟩⟩;rw[hT0.out]at htag⊢;have hks:key.size < 1000000000:=by unfold Zrs at hk;simp at hk;omega
 have CK:=Zaa (fun u=>Zs5 key hks u);have C:=Zaa (Zqq V CL Z hl);have HE:=Zaa (Ycs hch (Ycs hs (Ycs hls htag)));clear hch hs hls htag;have ZZ:=Zaa Z;clear Z V CL;go_enter Tryz.func45,Tryz.ntmps45
 go_wp2_with fail
 refine(CK.out _).mono ?_;rintro e w1 ⟨rfl,rfl⟩;rw[hk];go_wp2_with fail
 refine C.out.mono ?_;rintro e w2 ⟨hb2,⟨m,hy,hm,rfl⟩ | ⟨y,vs,F,hy,rfl,hQ,hN⟩⟩
 ·rw[HE.out.1]at hy;cases hy
 obtain rfl:y=ch:=by rw[HE.out.1]at hy;exact(Except.ok.inj hy).symm
 obtain⟨v,rfl,htl,hrow⟩:=hQ;obtain⟨p1,c1,rfl,hcap,hLB⟩:=Z6w hrow (fun k hk=>hN.lt k hk);have hlen:(Lib.byteCells y.tag).length=32:=by rw[Lib.byteCells_length,htl]
 have hll:y.links.length=ys.length+1:=by rw[HE.out.2.2.1];rfl
 rw[hll]at hcap⊢;have ECV:Box ((Value.bool y.sealed::Value.slice p1 (ys.length+1) c1::Lib.byteCells y.tag).toArray=Zau false (.slice p1 (ys.length+1) c1) (Lib.byteCells y.tag)):=⟨by rw[HE.out.2.1];rfl⟩;rw[ECV.out];have S1:=Blk.new w2 Zay 120;have hin:=Zcn false (.slice p1 (ys.length+1) c1) hlen;have hone:=Zfj false p1 (ys.length+1) c1 y.tag;have hsz:=Zcm false (.slice p1 (ys.length+1) c1) hlen;obtain⟨CV,hCV⟩: ∃ CV,Box (Zau false (.slice p1 (ys.length+1) c1) (Lib.byteCells y.tag)=CV):=⟨_,⟨rfl⟩⟩;rw[hCV.out]at hin hone hsz⊢;have S2:=setRow_heap _ _ _ CV _ _ S1;have B3:Below w2.heap.size w2 ((w2.alloc (.cells Zay 120)).setRow w2.heap.size CV):=((Yct _ w2).alloc lr _).setRowAt _ lr;rw[HE.out.2.2.1]at hLB;have CT:=Zaa (Z6i (S:=false) (tag:=y.tag) (c:=c1) (key:=key) (t0:=y0.1) (ts:=ys.map (·.1)) ((ZZ.out.below hb2).below B3) hks B3.size (Z0g hLB B3) (by simp;omega) (by simpa using hcap));rw[Yd6,hCV.out,hT0.out]at CT;have HTL:=Zaa htl;clear C CK hy hrow hN hlen hsz hll ECV htl;go_wp2_with (first
  | (refine wpList_store_row rfl 120 (.tmp 7) (.tmp 21) rfl w2.heap.size CV rfl rfl 120 Zay S1 hin (by rw[<- hCV.out,Zcm _ _ (by rw[Lib.byteCells_length,HTL.out])];rfl) hone ?_)
  | (refine wpList_load_row rfl 120 (.tmp 7) rfl w2.heap.size rfl 120 CV (0,0) _ S2 Tryz.underlying120 rfl hin ?_))
 refine CT.out.mono ?_;rintro e w4 ⟨v4,F4,rfl,hR4,hN4,hb4⟩;obtain⟨TL,hTL⟩: ∃ TL,Box (T0::Ziv T0 (ys.map (·.1))=TL):=⟨_,⟨rfl⟩⟩;have hTLl:TL.length=ys.length+1:=by rw[<- hTL.out,Yc7,Zhz,Yd6]
 have hlast:TL[ys.length]?=some y.tag:=by
  have:=Zze T0 (ys.map (·.1))
  rw[hTL.out,Yd6,<- HE.out.2.2.2]at this;exact this
 rw[hTL.out]at hR4;obtain⟨p4,c4,rfl,hcap4,hSR⟩:=Z8i hR4 (fun k hk=>hN4.lt k hk);obtain⟨R,o4,rfl,hRl,_,hrg⟩:=hSR.at_ ys.length _ hlast;rw[hTLl]at hcap4⊢;have B4:=Zaa (B3.trans (hb4.mono B3.size));have C4:=Blk.of S2 (hb4.block _ (Blk.lt S2));have CE:=Zaa (Z2n (w:=w4) (v:= .slice p1 (ys.length+1) c1) HTL.out);rw[hCV.out]at CE;unfold Zlk at CE;obtain⟨n,hnn⟩: ∃ n,Box (ys.length=n):=⟨_,⟨rfl⟩⟩;rw[hnn.out]at hcap4 hrg⊢;obtain⟨YT,hYT⟩: ∃ YT,Box (Lib.byteCells y.tag=YT):=⟨_,⟨rfl⟩⟩;have hYl:YT.length=32:=by rw[<- hYT.out,Lib.byteCells_length,HTL.out]
 rw[hYT.out]at hrg CE;have HSR:=Zaa hSR;have HLB:=Zaa hLB;have HL2:=Zaa (Ycs hTLl hlast);clear hLB hTLl hlast hcap;clear S1 S2 B3 hb4 CT hSR hR4;go_wp2_with fail
 have hn8:n < 8:=by have:=hnn.out;omega
 have hw4:IntKind.i64.wrap (n:Int)=(n:Int):=by rw[IntKind.wrap_i64];omega
 have hw1:wrap64 ((n:Int)+1 - 1)=(n:Int):=by unfold wrap64;omega
 have hw2:wrap64 (n:Int)=(n:Int):=by unfold wrap64;omega
 have hw3:(n:Int) < (n:Int)+1:=by omega
 refine wp_region_held (S:=fun u=>Blk u w2.heap.size CV 120/\u.rangeAt R (o4+n*32) (YT)) (by kernel_rfl) ?_;change wpAnyH _ _ _ _ _ _ _ _ (World.drew _);have hS0:Blk w4.drew w2.heap.size CV 120/\w4.drew.rangeAt R (o4+n*32) (YT):=⟨C4,hrg⟩;refine wpAnyH_take (i:=0) (oi:={dst:=some 29,op:= .load 120 (.tmp 7),type:=120,pos:= "warrant.go:226",after:=#[],guard:=none}) (v:= .agg CV) rfl (by kernel_rfl) (by kernel_rfl) (by kernel_rfl) (fun _ _ _ h=>h) (Zhb rfl 120 (.tmp 7) rfl ⟨w2.heap.size,0,none⟩ rfl fun u hS=>run_loadVar_row u w2.heap.size 120 120 _ _ _ hS.1 Tryz.underlying120 rfl hin) hS0 ?_;simp only[zz];refine tk 1 (.slice (some ⟨R,o4,none⟩) (n+1) c4) hS0 (hy:=fun u hS=>by go_simp) (h:=?_);simp only[zz];refine tk 2 (.slice (some ⟨R,o4,none⟩) (n+1) c4) hS0 (hy:=fun u hS=>by go_simp) (h:=?_);simp only[zz];refine tk 3 (.int .i64 ((n:Int)+1)) hS0 (hy:=fun u hS=>by go_simp) (h:=?_);simp only[zz];refine tk 4 (.int .i64 (n:Int)) hS0 (hy:=fun u hS=>by go_simp) (h:=?_);simp only[zz];refine tk 5 (.pointer (some ⟨R,o4+n*32,none⟩)) hS0 (hy:=fun u hS=>by go_simp) (h:=?_);simp only[zz];refine wpAnyH_take (i:=6) (oi:={dst:=some 35,op:= .load 117 (.tmp 34),type:=117,pos:= "warrant.go:226",after:=#[{on:=5,ground:=Ground.data}],guard:=none}) (v:= .agg (YT).toArray) rfl (by kernel_rfl) (by kernel_rfl) (by kernel_rfl) (fun _ _ _ h=>h) (yieldsIf_load_mid (by simp[Region.wanted]) 117 (.tmp 34) rfl R (o4+n*32) rfl (YT) _ (fun u hS=>hS.2) Tryz.underlying117 rfl (by rw[hYl];kernel_rfl)) hS0 ?_;simp only[zz];refine wpAnyH_ready (rs:=[7]) (by kernel_rfl) (by simp) (Yc9 rfl (fun K' hK'=>?_) Ydc);go_simp;have CE':=Z2n (w:=w4.drew) (v:= .slice p1 (ys.length+1) c1) HTL.out;rw[hCV.out]at CE';unfold Zlk at CE';rw[hYT.out]at CE';refine CE'.mono ?_;rintro e w5 ⟨rfl,hb5⟩;have B5:=Zaa (B4.out.trans (Below.mono (B:=w4.drew.heap.size) ⟨hb5.os,hb5.tape,hb5.output,hb5.size,hb5.block⟩ B4.out.size));have B45:Box (Below w4.heap.size w4 w5):=⟨⟨hb5.os,hb5.tape,hb5.output,hb5.size,hb5.block⟩⟩;refine hK'.out _ _ ⟨C4.of (hb5.block _ (Blk.lt C4)),fun j u hj=>(hb5.cell (p:=⟨R,o4+n*32+j,none⟩) hRl).trans (hrg j u hj)⟩ fun hS5=>?_;clear hK' K' CE' CE hS0;refine tk 8 (.bool false) hS5 (hy:=fun u hS=>by go_simp) (h:=?_);simp only[zz];refine wpAnyH_done (by kernel_rfl) ?_ _;have v1:CV[1]?=some (.slice p1 (n+1) c1):=by rw[<- hCV.out,hnn.out];rfl
 have cl:w5.cell? ⟨w2.heap.size,1,none⟩=some (.slice p1 (n+1) c1):=(hS5.1.cell 1).trans v1;clear hS5 C4;go_wp2_with fail
 obtain⟨xs,hxs⟩: ∃ xs,Box ((y0::ys).map (·.2)=xs):=⟨_,⟨rfl⟩⟩;obtain⟨ids,hids⟩: ∃ ids,Box (TL.map (fun t=>(⟨(ofB [⟨t.toArray⟩]).toArray⟩:ByteArray))=ids):=⟨_,⟨rfl⟩⟩;have hxl:Box (xs.length=n+1):=⟨by rw[<- hxs.out];simp[hnn.out]⟩;clear cl;clear hw1 hw2 hw3 hw4 hin hone hrg hYl hYT hCV hn hcap4;go_loopw [42,10,11] (fun iv bv dv wr=>Yan w2 w5 xs ids iv bv dv wr) (fun iv _ _ _=>xs.length - (intOf iv).toNat)
 case atStart=>exact⟨0,[],[],Yd1 _,rfl,Zag.nil,Zag.nil,Za9.nil _ _,Za9.nil _ _,(fun _ h=>by cases h),Yct _ _⟩
 case round=>
  obtain⟨k,F1,F2,hk,rfl,hR1,hR2,hN1,hN2,hD,hbk⟩:=hrel;by_cases hlt:k < n+1
  ·have g:(k:Int) < (n:Int)+1:=by omega
   obtain⟨yk,hyk⟩: ∃ yk,(y0::ys)[k]?=some yk:=⟨(y0::ys)[k]'(by have:=hnn.out;simp;omega),Yc0 _⟩;obtain⟨b0,o0,rfl,hx⟩:=HLB.out.at_ k yk hyk;have hxk:xs[k]?=some yk.2:=by rw[<- hxs.out,Ydn,hyk];rfl
   obtain⟨hbl,hys,q1,k1,q2,k2,q3,k3,z0,z1,z2,z3,hSk⟩:=hx;have ccw: ∀ o,wr.cell? ⟨b0,o,none⟩=w2.cell? ⟨b0,o,none⟩:=fun o=>(hbk.cell (p:=⟨b0,o,none⟩) (Ycz hbl B5.out.size)).trans (B5.out.cell (p:=⟨b0,o,none⟩) hbl);rw[<- ccw]at z0 z1 z2 z3;have hbwr:b0 < wr.heap.size:=Ycz hbl (Ycu B5.out.size hbk.size);obtain⟨tk,htk⟩: ∃ tk,TL[k]?=some tk:=⟨TL[k]'(by have:=hnn.out;have:=HL2.out.1;omega),Yc0 _⟩;obtain⟨R',o',hRo,hRl',htkl,hrgk⟩:=HSR.out.at_ k tk htk;obtain⟨rfl,rfl⟩:R=R'/\o4=o':=by injection hRo with h;injection h with h1 h2;exact⟨h1,h2⟩
   have HK:=Zaa (Ycs hyk (Ycs hxk (Ycs htk (Ycs htkl (Ycs hrgk hSk)))));clear hyk hxk htk htkl hrgk hSk ccw;have hbk0:=Zaa hbk.size;have HH:=Zaa (Ycs hR1 (Ycs hR2 (Ycs hN1 (Ycs hN2 (Ycs hD hbk)))));clear hR1 hR2 hN1 hN2 hD hbk;have hk32:wr.heap.size < wr.heap.size+1:=by omega
   have hN5:=Zaa (Ycu hbk0.out (Ydu wr.heap.size));have LB:Box (Blk ((wr.alloc (.cells #[.string yk.1,.slice q1 yk.2.facts.length k1,.slice q2 yk.2.rules.length k2,.slice q3 yk.2.checks.length k3] 114)).alloc (.cells #[.slice q1 yk.2.facts.length k1,.slice q2 yk.2.rules.length k2,.slice q3 yk.2.checks.length k3] 38)) (wr.heap.size+1) #[.slice q1 yk.2.facts.length k1,.slice q2 yk.2.rules.length k2,.slice q3 yk.2.checks.length k3] 38):=⟨by
    have:=Blk.new (wr.alloc (.cells #[.string yk.1,.slice q1 yk.2.facts.length k1,.slice q2 yk.2.rules.length k2,.slice q3 yk.2.checks.length k3] 114)) #[.slice q1 yk.2.facts.length k1,.slice q2 yk.2.rules.length k2,.slice q3 yk.2.checks.length k3] 38
    simpa using this⟩
   have ha2:Box (∀ j,j < wr.heap.size-> ∀ o1 o2,((wr.alloc o1).alloc o2).heap[j]?=wr.heap[j]?):=⟨fun j hj o1 o2=>(Ycx _ _ _ (by simp;omega)).trans (Ycx _ _ _ hj)⟩;have hlx:(xs.take k).length < 100000000:=by rw[List.length_take];have:=hxl.out;omega
   go_wp2_with (at_builtin;go_must (refine Za7 Zxq rfl (.tmp 47) (.tmp 50) rfl (Zxs.stable w2 3) (fun _ _ _ _ h=>Zxs.one h) w5.heap.size u10 (xs.take k) F1 rfl (Zag.stable (Zxs.stable w2 3) _ _ _ _ _ HH.out.1 fun j hj=>ha2.out j (HH.out.2.2.1.lt j hj) _ _) (wr.heap.size+1) #[.slice q1 yk.2.facts.length k1,.slice q2 yk.2.rules.length k2,.slice q3 yk.2.checks.length k3] 38 (0,0) yk.2 [] rfl LB.out rfl ⟨rfl,HK.out.2.2.2.2.2⟩ hlx (by have:=hN5.out;simp;omega) (HH.out.2.2.1.later lr (by simp;omega)) (Za9.nil _ _) (fun _ _ h=>by cases h) ?_);intro g6 cap6 w6 F6 happ;have hcv6:(convert 76 9 (.slice (some ⟨R,o4+k*32,none⟩) 32 32)).run Tryz.prog w6= .ok (.string ⟨tk.toArray⟩) w6:=Zh1 (fun j u hj=>(Ycw (a:=⟨R,o4+k*32+j,none⟩) ((happ.same R (by have:=hbk0.out;have:=B45.out.size;simp;omega) (fun h=>by have:=HH.out.2.2.1.ge R h;have:=B45.out.size;omega)).trans (ha2.out R (by have:=hbk0.out;have:=B45.out.size;omega) _ _))).trans ((HH.out.2.2.2.2.2.cell (p:=⟨R,o4+k*32+j,none⟩) (by have:=B45.out.size;show R < _;omega)).trans ((B45.out.cell (p:=⟨R,o4+k*32+j,none⟩) hRl).trans (HK.out.2.2.2.2.1 j u hj)))) 32 HK.out.2.2.2.1.symm)
   have hs6:wr.heap.size+2<=w6.heap.size:=by have:=happ.size;simpa using this
   have st6:Box (∀ j,j < wr.heap.size->j∉F1->w6.heap[j]?=wr.heap[j]?):=⟨fun j hj hF=>(happ.same j (by simp;omega) hF).trans (ha2.out j hj _ _)⟩;have B56:Box (Below w5.heap.size w5 w6):=⟨⟨happ.os.trans HH.out.2.2.2.2.2.os,happ.tape.trans HH.out.2.2.2.2.2.tape,happ.output.trans HH.out.2.2.2.2.2.output,by have:=hbk0.out;omega,fun j hj=>(st6.out j (by have:=hbk0.out;omega) (fun h=>by have:=HH.out.2.2.1.ge j h;omega)).trans (HH.out.2.2.2.2.2.block j hj)⟩⟩;have Z6:=((ZZ.out.below hb2).below B5.out).below B56.out;have CS:=Zaa (Z87 (t:=⟨tk.toArray⟩) Z6 (by have:=HK.out.2.2.2.1;simp[ByteArray.size,this]));have R6:=Zaa (Ycs happ.row (Ycs happ.new happ.sub));clear Z6 happ;clear hcv6;refine CS.out.mono ?_;rintro e w7 ⟨rfl,hb7⟩;have hs7:=hb7.size;obtain⟨S7,hS7⟩: ∃ S7:ByteArray,Box ((⟨(ofB [⟨tk.toArray⟩]).toArray⟩:ByteArray)=S7):=⟨_,⟨rfl⟩⟩;rw[hS7.out];have st7:Box (∀ j,j < wr.heap.size->j∉F1-> ∀ o,(w7.alloc o).heap[j]?=wr.heap[j]?):=⟨fun j hj hF o=>(Ycx _ _ _ (by omega)).trans ((hb7.block j (by omega)).trans (st6.out j hj hF))⟩;have hli:(ids.take k).length < 100000000:=by rw[List.length_take,<- hids.out,Yd6];have:=HL2.out.1;have:=hnn.out;omega
   have B57:=Zaa (B56.out.trans (hb7.mono B56.out.size));have R7:Box (Zag 38 3 (Zxs w2 3) w7 (.slice (some ⟨g6,0,none⟩) ((xs.take k).length+1) cap6) (xs.take k++[yk.2]) F6):=⟨Zag.stable (Zxs.stable w2 3) _ _ _ _ _ R6.out.1 fun j hj=>hb7.block j (R6.out.2.1.lt j hj)⟩;clear hb7 CS;go_wp2_with (at_builtin;go_must (refine Za7 Zr3 rfl (.tmp 52) (.tmp 59) rfl Zjx.stable (fun _ _ _ _ h=>Zjx.one h) w5.heap.size u11 (ids.take k) F2 rfl (Zag.stable Zjx.stable _ _ _ _ _ HH.out.2.1 fun j hj=>st7.out j (HH.out.2.2.2.1.lt j hj) (fun h=>HH.out.2.2.2.2.1 j h hj) _) w7.heap.size #[.string S7] 9 (0,0) S7 [] rfl (Zas _ _) rfl ⟨rfl,rfl⟩ hli (by have:=hbk0.out;simp;omega) (HH.out.2.2.2.1.later lr (by simp;omega)) (Za9.nil _ _) (fun _ _ h=>by cases h) ?_);intro g8 cap8 w8 F8 happ)
   have hlk:(xs.take k).length=k:=by rw[List.length_take];have:=hxl.out;omega
   have hs8:=happ.size;simp only[Yc4]at hs8;have hw58:=B57.out.size;have d62: ∀ j,j∈F6->j∉F2:=fun j hj h2=>by
    rcases R6.out.2.2 j hj with h | h | h
    ·exact HH.out.2.2.2.2.1 j h h2
    ·cases h
    ·have:=HH.out.2.2.2.1.lt j h2
     simp at h;omega
   have tk1:xs.take (k+1)=xs.take k++[yk.2]:=by rw[Yea,HK.out.2.1];rfl
   have tk2:ids.take (k+1)=ids.take k++[S7]:=by
    have:ids[k]?=some S7:=by rw[<- hids.out,Ydn,HK.out.2.2.1,<- hS7.out];rfl
    rw[Yea,this];rfl
   go_roundw
   case rel=>
    refine⟨k+1,F6,F8,by have:=hxl.out;omega,by go_num,?_,?_,R6.out.2.1.later lr (by omega),happ.new,fun j hj h8=>?_,?_⟩
    ·rw[tk1]
     have:=Zag.stable (Zxs.stable w2 3) _ w8 _ _ _ R7.out fun j hj=>(happ.same j (by have:=R6.out.2.1.lt j hj;simp;omega) (d62 j hj)).trans (Ycx _ _ _ (by have:=R6.out.2.1.lt j hj;omega))
     rw[hlk]at this;exact this
    ·rw[tk2]
     have:=happ.row
     rw[List.length_take]at this;exact this
    ·rcases happ.sub j h8 with h | h | h
     ·exact d62 j hj h
     ·cases h
     ·have:=R6.out.2.1.lt j hj
      simp at h;omega
    ·exact⟨happ.os.trans B57.out.os,happ.tape.trans B57.out.tape,happ.output.trans B57.out.output,by omega,fun j hj=>(happ.same j (by simp;omega) (fun h=>by have:=HH.out.2.2.2.1.ge j h;omega)).trans ((Ycx _ _ _ (by omega)).trans (B57.out.block j hj))⟩
   case measure=>simp[intOf];have:=hxl.out;omega
  ·obtain rfl:k=n+1:=by have:=hxl.out;omega
   have e1:xs.take (n+1)=xs:=Ydr (by have:=hxl.out;omega);have e2:ids.take (n+1)=ids:=Ydr (by rw[<- hids.out,Yd6];have:=HL2.out.1;have:=hnn.out;omega);rw[e1]at hR1;rw[e2]at hR2;have HH:=Zaa (Ycs hR1 (Ycs hR2 (Ycs hN1 (Ycs hN2 hbk))));clear e1 e2 hR1 hR2 hN1 hN2 hD hbk;go_wp2_with fail
   go_ret3
   rw[hxs.out,hTL.out,hids.out];exact⟨u10,u11,F1,F2,w2,rfl,hb2,B5.out.trans (HH.out.2.2.2.2.mono B5.out.size),HH.out.1,HH.out.2.1,HH.out.2.2.1.later B5.out.size lr,HH.out.2.2.2.1.later B5.out.size lr⟩
end Go.P
namespace Go.W
variable {w:World}{F:List Nat}
def OpO:Zgk (Int×Int×ByteArray):=fun _ vs x F=>F=[]/\vs=[.int .i64 x.1,.int .i64 x.2.1,.string x.2.2]
theorem OpO.stable:Zcx OpO:=fun _ _ _ _ _ h _=>h
theorem OpO.one {vs:List Value}{x:Int×Int×ByteArray}(h:OpO w vs x F): ∀ u,u∈vs->u.oneCell'=true:=by
 obtain⟨_,rfl⟩:=h;intro u hu;simp at hu;rcases hu with rfl | rfl | rfl <;> rfl
theorem Zsv.put {α:Type}{e:TypeId}{s:Nat}{Q:Zgk α}(hQ:Zcx Q){L:Nat}(j:Nat){u w1:World}{cs:Array Value}{t:TypeId}{xs:List α}{G F':List Nat}{y:α}{g cap:Nat}{O:List Nat}(happ:Zsv e s Q (L+1) w w1 xs F G y g cap F')(hL:Blk u L cs t)(hb:Below u.heap.size u w)(hF: ∀ k,k∈F->L < k)(hG: ∀ k,k∈G->u.heap.size<=k)(hO: ∀ k,k∈O->L < k/\k < u.heap.size/\k∉F):
  Zag e s Q (w1.setCell ⟨L,j,none⟩ (.slice (some ⟨g,0,none⟩) (xs.length+1) cap)) (.slice (some ⟨g,0,none⟩) (xs.length+1) cap) (xs++[y]) F'/\Za9 (L+1) (w1.setCell ⟨L,j,none⟩ (.slice (some ⟨g,0,none⟩) (xs.length+1) cap)) F'/\(∀ k,k∈O->k∉F')/\(∀ k,k∈O->(w1.setCell ⟨L,j,none⟩ (.slice (some ⟨g,0,none⟩) (xs.length+1) cap)).heap[k]?=u.heap[k]?)/\Blk (w1.setCell ⟨L,j,none⟩ (.slice (some ⟨g,0,none⟩) (xs.length+1) cap)) L (cs.setIfInBounds j (.slice (some ⟨g,0,none⟩) (xs.length+1) cap)) t/\Below L u (w1.setCell ⟨L,j,none⟩ (.slice (some ⟨g,0,none⟩) (xs.length+1) cap)):=by
 have hl:=hL.lt;have hs:=hb.size;have hsame: ∀ k,k < u.heap.size->k∉F->w1.heap[k]?=u.heap[k]?:=fun k hk hf=>(happ.same k (by omega) hf).trans (hb.block k hk);have hB1:Below L u w1:=⟨happ.os.trans hb.os,happ.tape.trans hb.tape,happ.output.trans hb.output,Ycu hs happ.size,fun k hk=>hsame k (by omega) fun hf=>by have:=hF k hf;omega⟩;have hne: ∀ k,L < k-> ∀ v:Value,(w1.setCell ⟨L,j,none⟩ v).heap[k]?=w1.heap[k]?:=fun k hk v=>Ycy w1 ⟨L,j,none⟩ v k (by show k≠L;omega);have hB2:=hB1.setCell (p:=⟨L,j,none⟩) (Ydu L) (.slice (some ⟨g,0,none⟩) (xs.length+1) cap);refine⟨Zag.stable hQ _ _ _ _ _ happ.row fun k hk=>hne k (happ.new.ge k hk) _,happ.new.later lr (by simp),fun k hk hf=>?_,fun k hk=>(hne k (hO k hk).1 _).trans (hsame k (hO k hk).2.1 (hO k hk).2.2),(hL.of (hsame L hl fun hf=>by have:=hF L hf;omega)).set j _,hB2⟩;have h1:=hO k hk;rcases happ.sub k hf with h | h | h
 ·exact h1.2.2 h
 ·have:=hG k h;omega
 ·omega
end Go.W
namespace Go.P
variable {x:ByteArray}
structure Zdf (L:Nat) (u:World) (vb vp vk vc vy vr vd:Value) (bs:List Bk) (ys rs:List ByteArray) (ds:List (Int×Int×ByteArray)) (Fb Fy Fr Fd:List Nat):Prop where
 blk:Blk u L #[vb,vp,vk,vc,vy,vr,vd] 31
 rb:Zag 38 3 (Zba Zad 4) u vb bs Fb
 ry:Zag 9 1 Zjx u vy ys Fy
 rr:Zag 9 1 Zjx u vr rs Fr
 rd:Zag 46 3 OpO u vd ds Fd
 nb:Za9 (L+1) u Fb
 ny:Za9 (L+1) u Fy
 nr:Za9 (L+1) u Fr
 nd:Za9 (L+1) u Fd
 ib: ∀ k,k∈Fb->k∉Fy/\k∉Fr/\k∉Fd
 iy: ∀ k,k∈Fy->k∉Fr/\k∉Fd
 ir: ∀ k,k∈Fr->k∉Fd
section
variable {L:Nat} {u w:World} {vb vp vk vc vy vr vd:Value} {bs:List Bk} {ys rs:List ByteArray} {ds:List (Int×Int×ByteArray)} {Fb Fy Fr Fd:List Nat}
theorem Zdf.later (h:Zdf L u vb vp vk vc vy vr vd bs ys rs ds Fb Fy Fr Fd)(hb:Below u.heap.size u w):Zdf L w vb vp vk vc vy vr vd bs ys rs ds Fb Fy Fr Fd:=
 ⟨h.blk.of (hb.block _ h.blk.lt),Zag.stable (Zba.stable (ty:=Zad) 4) _ _ _ _ _ h.rb fun k hk=>hb.block k (h.nb.lt k hk),Zag.stable Zjx.stable _ _ _ _ _ h.ry fun k hk=>hb.block k (h.ny.lt k hk),Zag.stable Zjx.stable _ _ _ _ _ h.rr fun k hk=>hb.block k (h.nr.lt k hk),Zag.stable OpO.stable _ _ _ _ _ h.rd fun k hk=>hb.block k (h.nd.lt k hk),h.nb.later lr hb.size,h.ny.later lr hb.size,h.nr.later lr hb.size,h.nd.later lr hb.size,h.ib,h.iy,h.ir⟩
theorem Zdf.set (h:Zdf L u vb vp vk vc vy vr vd bs ys rs ds Fb Fy Fr Fd)(j:Nat)(v:Value){vp' vk' vc':Value}(he:(#[vb,vp,vk,vc,vy,vr,vd]:Array Value).setIfInBounds j v=#[vb,vp',vk',vc',vy,vr,vd]):Zdf L (u.setCell ⟨L,j,none⟩ v) vb vp' vk' vc' vy vr vd bs ys rs ds Fb Fy Fr Fd:=by
 have hne: ∀ k,L < k->(u.setCell ⟨L,j,none⟩ v).heap[k]?=u.heap[k]?:=fun k hk=>Ycy u ⟨L,j,none⟩ v k (by show k≠L;omega);have hs:u.heap.size<=(u.setCell ⟨L,j,none⟩ v).heap.size:=by simp
 exact⟨he▸h.blk.set j v,Zag.stable (Zba.stable (ty:=Zad) 4) _ _ _ _ _ h.rb fun k hk=>hne k (h.nb.ge k hk),Zag.stable Zjx.stable _ _ _ _ _ h.ry fun k hk=>hne k (h.ny.ge k hk),Zag.stable Zjx.stable _ _ _ _ _ h.rr fun k hk=>hne k (h.nr.ge k hk),Zag.stable OpO.stable _ _ _ _ _ h.rd fun k hk=>hne k (h.nd.ge k hk),h.nb.later lr hs,h.ny.later lr hs,h.nr.later lr hs,h.nd.later lr hs,h.ib,h.iy,h.ir⟩
variable {w1:World} {G F':List Nat} {g cap:Nat}
theorem Zdf.appB (h:Zdf L u vb vp vk vc vy vr vd bs ys rs ds Fb Fy Fr Fd){x:Bk}(hb:Below u.heap.size u w)(hG: ∀ k,k∈G->u.heap.size<=k)(happ:Zsv 38 3 (Zba Zad 4) (L+1) w w1 bs Fb G x g cap F'):Zdf L (w1.setCell ⟨L,0,none⟩ (.slice (some ⟨g,0,none⟩) (bs.length+1) cap)) (.slice (some ⟨g,0,none⟩) (bs.length+1) cap) vp vk vc vy vr vd (bs++[x]) ys rs ds F' Fy Fr Fd/\Below L u (w1.setCell ⟨L,0,none⟩ (.slice (some ⟨g,0,none⟩) (bs.length+1) cap)):=by
 obtain⟨h1,h2,h3,h4,h5,h6⟩:=Zsv.put (Zba.stable (ty:=Zad) 4) 0 (O:=Fy++(Fr++Fd)) happ h.blk hb (fun k hk=>h.nb.ge k hk) hG fun k hk=>by
  simp only[Yc2]at hk;rcases hk with hk | hk | hk
  ·exact⟨h.ny.ge k hk,h.ny.lt k hk,fun hf=>(h.ib k hf).1 hk⟩
  ·exact⟨h.nr.ge k hk,h.nr.lt k hk,fun hf=>(h.ib k hf).2.1 hk⟩
  ·exact⟨h.nd.ge k hk,h.nd.lt k hk,fun hf=>(h.ib k hf).2.2 hk⟩
 have hs:=h6.size;exact⟨⟨h5,h1,Zag.stable Zjx.stable _ _ _ _ _ h.ry fun k hk=>h4 k (by simp[hk]),Zag.stable Zjx.stable _ _ _ _ _ h.rr fun k hk=>h4 k (by simp[hk]),Zag.stable OpO.stable _ _ _ _ _ h.rd fun k hk=>h4 k (by simp[hk]),h2,h.ny.later lr hs,h.nr.later lr hs,h.nd.later lr hs,fun k hk=>⟨fun q=>h3 k (by simp[q]) hk,fun q=>h3 k (by simp[q]) hk,fun q=>h3 k (by simp[q]) hk⟩,h.iy,h.ir⟩,h6⟩
theorem Zdf.appY (h:Zdf L u vb vp vk vc vy vr vd bs ys rs ds Fb Fy Fr Fd)(hb:Below u.heap.size u w)(hG: ∀ k,k∈G->u.heap.size<=k)(happ:Zsv 9 1 Zjx (L+1) w w1 ys Fy G x g cap F'):Zdf L (w1.setCell ⟨L,4,none⟩ (.slice (some ⟨g,0,none⟩) (ys.length+1) cap)) vb vp vk vc (.slice (some ⟨g,0,none⟩) (ys.length+1) cap) vr vd bs (ys++[x]) rs ds Fb F' Fr Fd/\Below L u (w1.setCell ⟨L,4,none⟩ (.slice (some ⟨g,0,none⟩) (ys.length+1) cap)):=by
 obtain⟨h1,h2,h3,h4,h5,h6⟩:=Zsv.put Zjx.stable 4 (O:=Fb++(Fr++Fd)) happ h.blk hb (fun k hk=>h.ny.ge k hk) hG fun k hk=>by
  simp only[Yc2]at hk;rcases hk with hk | hk | hk
  ·exact⟨h.nb.ge k hk,h.nb.lt k hk,(h.ib k hk).1⟩
  ·exact⟨h.nr.ge k hk,h.nr.lt k hk,fun hf=>(h.iy k hf).1 hk⟩
  ·exact⟨h.nd.ge k hk,h.nd.lt k hk,fun hf=>(h.iy k hf).2 hk⟩
 have hs:=h6.size;exact⟨⟨h5,Zag.stable (Zba.stable (ty:=Zad) 4) _ _ _ _ _ h.rb fun k hk=>h4 k (by simp[hk]),h1,Zag.stable Zjx.stable _ _ _ _ _ h.rr fun k hk=>h4 k (by simp[hk]),Zag.stable OpO.stable _ _ _ _ _ h.rd fun k hk=>h4 k (by simp[hk]),h.nb.later lr hs,h2,h.nr.later lr hs,h.nd.later lr hs,fun k hk=>⟨h3 k (by simp[hk]),(h.ib k hk).2⟩,fun k hk=>⟨fun q=>h3 k (by simp[q]) hk,fun q=>h3 k (by simp[q]) hk⟩,h.ir⟩,h6⟩
theorem Zdf.appR (h:Zdf L u vb vp vk vc vy vr vd bs ys rs ds Fb Fy Fr Fd)(hb:Below u.heap.size u w)(hG: ∀ k,k∈G->u.heap.size<=k)(happ:Zsv 9 1 Zjx (L+1) w w1 rs Fr G x g cap F'):Zdf L (w1.setCell ⟨L,5,none⟩ (.slice (some ⟨g,0,none⟩) (rs.length+1) cap)) vb vp vk vc vy (.slice (some ⟨g,0,none⟩) (rs.length+1) cap) vd bs ys (rs++[x]) ds Fb Fy F' Fd/\Below L u (w1.setCell ⟨L,5,none⟩ (.slice (some ⟨g,0,none⟩) (rs.length+1) cap)):=by
 obtain⟨h1,h2,h3,h4,h5,h6⟩:=Zsv.put Zjx.stable 5 (O:=Fb++(Fy++Fd)) happ h.blk hb (fun k hk=>h.nr.ge k hk) hG fun k hk=>by
  simp only[Yc2]at hk;rcases hk with hk | hk | hk
  ·exact⟨h.nb.ge k hk,h.nb.lt k hk,(h.ib k hk).2.1⟩
  ·exact⟨h.ny.ge k hk,h.ny.lt k hk,(h.iy k hk).1⟩
  ·exact⟨h.nd.ge k hk,h.nd.lt k hk,fun hf=>h.ir k hf hk⟩
 have hs:=h6.size;exact⟨⟨h5,Zag.stable (Zba.stable (ty:=Zad) 4) _ _ _ _ _ h.rb fun k hk=>h4 k (by simp[hk]),Zag.stable Zjx.stable _ _ _ _ _ h.ry fun k hk=>h4 k (by simp[hk]),h1,Zag.stable OpO.stable _ _ _ _ _ h.rd fun k hk=>h4 k (by simp[hk]),h.nb.later lr hs,h.ny.later lr hs,h2,h.nd.later lr hs,fun k hk=>⟨(h.ib k hk).1,h3 k (by simp[hk]),(h.ib k hk).2.2⟩,fun k hk=>⟨h3 k (by simp[hk]),(h.iy k hk).2⟩,fun k hk q=>h3 k (by simp[q]) hk⟩,h6⟩
theorem Zdf.appD (h:Zdf L u vb vp vk vc vy vr vd bs ys rs ds Fb Fy Fr Fd){x:Int×Int×ByteArray}(hb:Below u.heap.size u w)(hG: ∀ k,k∈G->u.heap.size<=k)(happ:Zsv 46 3 OpO (L+1) w w1 ds Fd G x g cap F'):Zdf L (w1.setCell ⟨L,6,none⟩ (.slice (some ⟨g,0,none⟩) (ds.length+1) cap)) vb vp vk vc vy vr (.slice (some ⟨g,0,none⟩) (ds.length+1) cap) bs ys rs (ds++[x]) Fb Fy Fr F'/\Below L u (w1.setCell ⟨L,6,none⟩ (.slice (some ⟨g,0,none⟩) (ds.length+1) cap)):=by
 obtain⟨h1,h2,h3,h4,h5,h6⟩:=Zsv.put OpO.stable 6 (O:=Fb++(Fy++Fr)) happ h.blk hb (fun k hk=>h.nd.ge k hk) hG fun k hk=>by
  simp only[Yc2]at hk;rcases hk with hk | hk | hk
  ·exact⟨h.nb.ge k hk,h.nb.lt k hk,(h.ib k hk).2.2⟩
  ·exact⟨h.ny.ge k hk,h.ny.lt k hk,(h.iy k hk).2⟩
  ·exact⟨h.nr.ge k hk,h.nr.lt k hk,h.ir k hk⟩
 have hs:=h6.size;exact⟨⟨h5,Zag.stable (Zba.stable (ty:=Zad) 4) _ _ _ _ _ h.rb fun k hk=>h4 k (by simp[hk]),Zag.stable Zjx.stable _ _ _ _ _ h.ry fun k hk=>h4 k (by simp[hk]),Zag.stable Zjx.stable _ _ _ _ _ h.rr fun k hk=>h4 k (by simp[hk]),h1,h.nb.later lr hs,h.ny.later lr hs,h.nr.later lr hs,h2,fun k hk=>⟨(h.ib k hk).1,(h.ib k hk).2.1,h3 k (by simp[hk])⟩,fun k hk=>⟨(h.iy k hk).1,h3 k (by simp[hk])⟩,fun k hk=>h3 k (by simp[hk])⟩,h6⟩
end
end Go.P
namespace Go.W
variable {t m:ByteArray}{p:Nat}{x:Tk}
def Zit (t:ByteArray) (p:Nat) (m:ByteArray):Bool:=Lib.hasPrefix (t.extract p t.size).data.toList m.data.toList
def Zp8 (t:ByteArray) (x:Tk) (p:Nat):Except (Int×Nat) (Unit×Tk×Nat):=match Zga.find? (Zit t p)with
 | none=> .error (1,x.at_)
 | some m=> .ok ((),{x with text:=m},p+m.size)
theorem Z2g (hp:p<=t.size)(h:Zit t p m=true):p+m.size<=t.size:=by
 have g:=(List.isPrefixOf_iff_prefix.1 h).length_le;simp at g
 have:m.size=m.data.size:=rfl
 omega
theorem Z72 {k:Nat}(hk:Zga[k]?=some m)(h0: ∀ j m',j < k->Zga[j]?=some m'->Zit t p m'=false)(h1:Zit t p m=true):Zp8 t x p= .ok ((),{x with text:=m},p+m.size):=by
 have:Zga.find? (Zit t p)=some m:=by
  rw[List.find?_eq_some_iff_getElem];refine⟨h1,k,?_,?_,?_⟩
  ·exact(Yc3.1 hk).1
  ·exact(Yc3.1 hk).2
  ·intro j hj;rw[h0 j _ hj (Yc0 _)];rfl
 unfold Zp8;rw[this]
theorem Z9u (h0: ∀ j m',j < 14->Zga[j]?=some m'->Zit t p m'=false):Zp8 t x p= .error (1,x.at_):=by
 have:Zga.find? (Zit t p)=none:=by
  rw[List.find?_eq_none];intro m hm;obtain⟨j,hj,rfl⟩:=List.getElem_of_mem hm;rw[h0 j _ hj (Yc0 _)];simp
 unfold Zp8;rw[this]
end Go.W
namespace Go.P
variable {a:Nat->Addr}{w:World}
theorem Zap.marks (h:Zap a w)(i:Nat)(s:ByteArray)(hs:Zga[i]?=some s):w.cell? ⟨12,i,none⟩=some (.string s):=by
 obtain⟨_,h0,h1⟩:=h;exact(h1 _ _ (by decide)).2.trans (h0.marks i s hs)
def Z8e (w:World) (t:ByteArray) (p:Nat) (iv:Value) (wr:World):Prop:= ∃ k:Nat,k<=14/\iv= .int .i64 (k:Int)/\(∃ n,wr=w.drewN n)/\ ∀ j m',j < k->Zga[j]?=some m'->Zit t p m'=false
theorem Z3u (k:Nat)(h:k < 14): ∃ m,Zga[k]?=some m/\ ∀ w,(Instr.index 280 (.agg #[.string ⟨#[60,45]⟩,.string ⟨#[60,61]⟩,.string ⟨#[62,61]⟩,.string ⟨#[61,61]⟩,.string ⟨#[33,61]⟩,.string ⟨#[94,61]⟩,.string ⟨#[60]⟩,.string ⟨#[62]⟩,.string ⟨#[40]⟩,.string ⟨#[41]⟩,.string ⟨#[91]⟩,.string ⟨#[93]⟩,.string ⟨#[44]⟩,.string ⟨#[59]⟩]) (.int .i64 (k:Int))).run Tryz.prog w= .ok (.string m) w:=by
 have g:k=0\/k=1\/k=2\/k=3\/k=4\/k=5\/k=6\/k=7\/k=8\/k=9\/k=10\/k=11\/k=12\/k=13:=by omega
 rcases g with rfl | rfl | rfl | rfl | rfl | rfl | rfl | rfl | rfl | rfl | rfl | rfl | rfl | rfl;all_goals exact⟨_,rfl,fun _=>by kernel_rfl⟩
def Z6z (v:Value):Nat:=match v with
 | .int _ i=>i.toNat
 | _=>0
theorem Ztm {b:Nat}{t:ByteArray}{p:Nat}{x:Tk}(Z:Zap a w)(h:Rd w b t p x):
  Calls Tryz.prog 131 #[.pointer (some ⟨b,0,none⟩)] w (Zey a b t VU w (Zp8 t x p)):=by
 obtain⟨c0,c1,-,c3,-,-,-,-,sf⟩:=h.1.eight;have hp:=h.2.2.1;have ht:=h.2.1;have z1:=Z.c1;have m0:=Z.marks 0 _ rfl;have m1:=Z.marks 1 _ rfl;have m2:=Z.marks 2 _ rfl;have m3:=Z.marks 3 _ rfl;have m4:=Z.marks 4 _ rfl;have m5:=Z.marks 5 _ rfl;have m6:=Z.marks 6 _ rfl;have m7:=Z.marks 7 _ rfl;have m8:=Z.marks 8 _ rfl;have m9:=Z.marks 9 _ rfl;have m10:=Z.marks 10 _ rfl;have m11:=Z.marks 11 _ rfl;have m12:=Z.marks 12 _ rfl;have m13:=Z.marks 13 _ rfl;have H:=Zaa h;clear Z h;go_enter Tryz.func131,Tryz.ntmps131
 go_wp2_with fail
 clear m0 m1 m2 m3 m4 m5 m6 m7 m8 m9 m10 m11 m12 m13;go_loopw [5] (fun iv wr=>Z8e w t p iv wr) (fun iv _=>14 - Z6z iv)
 case atStart=>exact⟨0,by omega,rfl,⟨0,rfl⟩,fun j _ hj=>absurd hj (by omega)⟩
 case round=>
  obtain⟨k,hk,rfl,⟨n,rfl⟩,hall⟩:=hrel;have A:=Zaa hall;clear hall;by_cases hlt:k < 14
  ·obtain⟨m,hm,ik⟩:=Z3u k hlt;have g:(k:Int) < 14:=by omega
   have C:=Zaa (fun u=>Zqa (t.extract p t.size) m u);rw[show Lib.hasPrefix (t.extract p t.size).data.toList m.data.toList=Zit t p m from rfl]at C;cases hgo:Zit t p m
   ·rw[hgo]at C;have S:Box (∀ j m',j < k+1->Zga[j]?=some m'->Zit t p m'=false):=⟨fun j m' hj hm'=>by
     by_cases hjk:j=k
     ·subst hjk;rw[hm]at hm';cases hm';exact hgo
     ·exact A.out j m' (by omega) hm'⟩
    clear hm hgo A;go_wp2_with fail
    go_quiet ((go_at_call 171;first | exact Calls.quiet_of_same (C.out _) | exact Zdw C.out))
    go_wp2_with fail
    go_roundw
    case rel=>exact⟨k+1,by omega,by simp,⟨_,rfl⟩,S.out⟩
    case measure=>simp[Z6z];omega
   ·rw[hgo]at C;have Y:=Zaa (Z72 (x:=x) hm A.out hgo);have hle:=Z2g hp hgo;clear hm hgo A;go_wp2_with fail
    go_quiet ((go_at_call 171;first | exact Calls.quiet_of_same (C.out _) | exact Zdw C.out))
    go_wp2_with fail
    refine bodyPost_ret (by simp[results,Tryz.results131,go_sem];try rfl) rfl ?_;exact⟨(((Zaf.refl b w).dr _).set _ _).set _ _,Or.inr ⟨_,_,_,_,Y.out,rfl,rfl,((H.out.dr _).goes hle).text m⟩⟩
  ·obtain rfl:k=14:=by omega
   have Y:=Zaa (Z9u (x:=x) A.out);have C1:=Zaa (fun n=>Zbh a (n:=1) (by decide) (H.out.dr n));clear A;go_wp2_with fail
   refine(C1.out _).mono ?_;rintro e w2 ⟨⟨L,hL,rfl,hB⟩,hb⟩;exact⟨rfl,((Zaf.refl b w).dr _).ofBelow hb,Or.inl ⟨1,_,Y.out,by decide,L,hL,rfl,hB⟩⟩
end Go.P
namespace Go.Proofs
open Go.RowKit Go.Shelf Go.Lib
def Tryz.laysInt_ren:Go.Shelf.Ren:=⟨fun | 174=>180 | 247=>209 | 245=>210 | 287=>230 | 279=>231 | 280=>232 | 281=>233 | 282=>234 | 321=>252 | 322=>253 | 316=>201 | 171=>255 | 205=>254 | 243=>266 | 246=>269 | 283=>270 | 284=>271 | 285=>272 | 286=>273 | 129=>275 | 317=>274 | 318=>276 | 319=>277 | 320=>278 | 337=>279 | 338=>262 | n=>n,fun | 9=>9 | 3=>3 | 2=>2 | 75=>58 | 85=>278 | 4=>4 | 167=>348 | 5=>5 | 53=>163 | 175=>349 | 46=>261 | 168=>351 | 37=>76 | 0=>0 | 210=>377 | 21=>21 | 127=>142 | 145=>396 | 143=>394 | 171=>400 | 173=>402 | 212=>406 | 51=>237 | 20=>20 | 213=>407 | 232=>116 | 233=>181 | 80=>83 | n=>n,fun | 15=>18 | 16=>19 | 17=>21 | 18=>22 | 19=>20 | n=>n⟩
theorem Tryz.laysInt:Go.Proofs.LaysC.n174 Tryz.prog Tryz.laysInt_ren where
 mixed:=by kernel_rfl
 f129:=Tryz.func275.trans (congrArg some (by kernel_rfl))
 f171:=Tryz.func255.trans (congrArg some (by kernel_rfl))
 f174:=Tryz.func180.trans (congrArg some (by kernel_rfl))
 f205:=Tryz.func254.trans (congrArg some (by kernel_rfl))
 f243:=Tryz.func266.trans (congrArg some (by kernel_rfl))
 f245:=Tryz.func210.trans (congrArg some (by kernel_rfl))
 f246:=Tryz.func269.trans (congrArg some (by kernel_rfl))
 f247:=Tryz.func209.trans (congrArg some (by kernel_rfl))
 f279:=Tryz.func231.trans (congrArg some (by kernel_rfl))
 f280:=Tryz.func232.trans (congrArg some (by kernel_rfl))
 f281:=Tryz.func233.trans (congrArg some (by kernel_rfl))
 f282:=Tryz.func234.trans (congrArg some (by kernel_rfl))
 f283:=Tryz.func270.trans (congrArg some (by kernel_rfl))
 f284:=Tryz.func271.trans (congrArg some (by kernel_rfl))
 f285:=Tryz.func272.trans (congrArg some (by kernel_rfl))
 f286:=Tryz.func273.trans (congrArg some (by kernel_rfl))
 f287:=Tryz.func230.trans (congrArg some (by kernel_rfl))
 f316:=Tryz.func201.trans (congrArg some (by kernel_rfl))
 f317:=Tryz.func274.trans (congrArg some (by kernel_rfl))
 f318:=Tryz.func276.trans (congrArg some (by kernel_rfl))
 f319:=Tryz.func277.trans (congrArg some (by kernel_rfl))
 f320:=Tryz.func278.trans (congrArg some (by kernel_rfl))
 f321:=Tryz.func252.trans (congrArg some (by kernel_rfl))
 f322:=Tryz.func253.trans (congrArg some (by kernel_rfl))
 f337:=Tryz.func279.trans (congrArg some (by kernel_rfl))
 f338:=Tryz.func262.trans (congrArg some (by kernel_rfl))
 t0:=Tryz.underlying0
 a0:=Tryz.isAgg0
 z0:=Tryz.sizeOf0
 v0:=Tryz.zeroValue0
 t2:=Tryz.underlying2
 a2:=Tryz.isAgg2
 z2:=Tryz.sizeOf2
 v2:=Tryz.zeroValue2
 t3:=Tryz.underlying3
 a3:=Tryz.isAgg3
 z3:=Tryz.sizeOf3
 v3:=Tryz.zeroValue3
 t4:=Tryz.underlying4
 a4:=Tryz.isAgg4
 z4:=Tryz.sizeOf4
 v4:=Tryz.zeroValue4
 t5:=Tryz.underlying5
 a5:=Tryz.isAgg5
 z5:=Tryz.sizeOf5
 v5:=Tryz.zeroValue5
 t9:=Tryz.underlying9
 a9:=Tryz.isAgg9
 z9:=Tryz.sizeOf9
 v9:=Tryz.zeroValue9
 t20:=Tryz.underlying20
 a20:=Tryz.isAgg20
 z20:=Tryz.sizeOf20
 v20:=Tryz.zeroValue20
 t21:=Tryz.underlying21
 a21:=Tryz.isAgg21
 z21:=Tryz.sizeOf21
 v21:=Tryz.zeroValue21
 t37:=Tryz.underlying76
 a37:=Tryz.isAgg76
 z37:=Tryz.sizeOf76
 v37:=Tryz.zeroValue76
 t46:=Tryz.underlying261
 a46:=Tryz.isAgg261
 z46:=Tryz.sizeOf261
 v46:=Tryz.zeroValue261
 t51:=Tryz.underlying237
 a51:=Tryz.isAgg237
 z51:=Tryz.sizeOf237
 v51:=Tryz.zeroValue237
 t53:=Tryz.underlying163
 a53:=Tryz.isAgg163
 z53:=Tryz.sizeOf163
 v53:=Tryz.zeroValue163
 t75:=Tryz.underlying58
 a75:=Tryz.isAgg58
 z75:=Tryz.sizeOf58
 v75:=Tryz.zeroValue58
 t85:=Tryz.underlying278
 a85:=Tryz.isAgg278
 z85:=Tryz.sizeOf278
 v85:=Tryz.zeroValue278
 t127:=Tryz.underlying142
 a127:=Tryz.isAgg142
 z127:=Tryz.sizeOf142
 v127:=Tryz.zeroValue142
 t143:=Tryz.underlying394
 a143:=Tryz.isAgg394
 z143:=Tryz.sizeOf394
 v143:=Tryz.zeroValue394
 t145:=Tryz.underlying396
 a145:=Tryz.isAgg396
 z145:=Tryz.sizeOf396
 v145:=Tryz.zeroValue396
 t167:=Tryz.underlying348
 a167:=Tryz.isAgg348
 z167:=Tryz.sizeOf348
 v167:=Tryz.zeroValue348
 t168:=Tryz.underlying351
 a168:=Tryz.isAgg351
 z168:=Tryz.sizeOf351
 v168:=Tryz.zeroValue351
 t171:=Tryz.underlying400
 a171:=Tryz.isAgg400
 z171:=Tryz.sizeOf400
 v171:=Tryz.zeroValue400
 t173:=Tryz.underlying402
 a173:=Tryz.isAgg402
 z173:=Tryz.sizeOf402
 v173:=Tryz.zeroValue402
 t175:=Tryz.underlying349
 a175:=Tryz.isAgg349
 z175:=Tryz.sizeOf349
 v175:=Tryz.zeroValue349
 t210:=Tryz.underlying377
 a210:=Tryz.isAgg377
 z210:=Tryz.sizeOf377
 v210:=Tryz.zeroValue377
 t212:=Tryz.underlying406
 a212:=Tryz.isAgg406
 z212:=Tryz.sizeOf406
 v212:=Tryz.zeroValue406
 t213:=Tryz.underlying407
 a213:=Tryz.isAgg407
 z213:=Tryz.sizeOf407
 t232:=Tryz.underlying116
 a232:=Tryz.isAgg116
 z232:=Tryz.sizeOf116
 v232:=Tryz.zeroValue116
 t233:=Tryz.underlying181
 a233:=Tryz.isAgg181
 z233:=Tryz.sizeOf181
 v233:=Tryz.zeroValue181
 g15:=by kernel_rfl
 g16:=by kernel_rfl
 g17:=by kernel_rfl
 g18:=by kernel_rfl
 g19:=by kernel_rfl
 t80:=Tryz.underlying83
 a80:=Tryz.isAgg83
 z80:=Tryz.sizeOf83
 v80:=Tryz.zeroValue83
 i0:=by kernel_rfl
 i2:=by kernel_rfl
 i3:=by kernel_rfl
 i4:=by kernel_rfl
 i5:=by kernel_rfl
 i9:=by kernel_rfl
 i20:=by kernel_rfl
 i21:=by kernel_rfl
 i37:=by kernel_rfl
 i46:=by kernel_rfl
 i51:=by kernel_rfl
 i53:=by kernel_rfl
 i75:=by kernel_rfl
 i80:=by kernel_rfl
 i85:=by kernel_rfl
 i127:=by kernel_rfl
 i143:=by kernel_rfl
 i145:=by kernel_rfl
 i167:=by kernel_rfl
 i168:=by kernel_rfl
 i171:=by kernel_rfl
 i173:=by kernel_rfl
 i175:=by kernel_rfl
 i210:=by kernel_rfl
 i212:=by kernel_rfl
 i232:=by kernel_rfl
 i233:=by kernel_rfl
 m15:=by kernel_rfl
 m16:=by kernel_rfl
 m17:=by kernel_rfl
 m18:=by kernel_rfl
 m19:=by kernel_rfl
 c0:=by kernel_rfl
 c2:=by kernel_rfl
 c3:=by kernel_rfl
 c4:=by kernel_rfl
 c5:=by kernel_rfl
 c9:=by kernel_rfl
 c20:=by kernel_rfl
 c21:=by kernel_rfl
 c37:=by kernel_rfl
 c46:=by kernel_rfl
 c51:=by kernel_rfl
 c53:=by kernel_rfl
 c75:=by kernel_rfl
 c80:=by kernel_rfl
 c85:=by kernel_rfl
 c127:=by kernel_rfl
 c143:=by kernel_rfl
 c145:=by kernel_rfl
 c167:=by kernel_rfl
 c168:=by kernel_rfl
 c171:=by kernel_rfl
 c173:=by kernel_rfl
 c175:=by kernel_rfl
 c210:=by kernel_rfl
 c212:=by kernel_rfl
 c213:=by kernel_rfl
 c232:=by kernel_rfl
 c233:=by kernel_rfl
end Go.Proofs
namespace Go.W
def Zyj (t:ByteArray) (x:Tk) (p:Nat):Except (Int×Nat) (Int×Tk×Nat):=
 let p1:=if(Zab t).getD p 0=45 then p+1 else p
 let q:=Zbv (Zab t) Zaz p1
 if q=p1\/(Zab t).getD p1 0=48/\(t.extract p q).toList≠[48]then .error (1,x.at_)else match Lib.parseIntB 64 (t.extract p q).data.toList with
 | .ok n=> .ok (n,x,q)
 | _=> .error (1,x.at_)
end Go.W
namespace Go.P
open Go.RowKit Go.Shelf Go.Lib Go.W
variable {a:Nat->Addr}{w:World}{s:ByteArray}
theorem Zwj (s:ByteArray)(hs:s.size<=8000)(v:Int)(h:Lib.parseIntB 64 s.data.toList= .ok v)(w:World):Calls Tryz.prog 180 #[.string s,.int .i64 10,.int .i64 64] w fun e w'=>e= .returned (.tuple #[.int .i64 v,.nilIface])/\Below w.heap.size w w':=by
 refine(Any.strconv_ParseInt_10_at64_ok Tryz.laysInt s (by omega) v h w).mono ?_;rintro e w' ⟨rfl,rfl | ⟨t,rfl⟩⟩
 ·exact⟨rfl,Yct _ _⟩
 ·exact⟨rfl,Lib.bytesWorld_below w _ t⟩
theorem Zxf (Z:Zap a w)(s:ByteArray)(hs:s.size<=8000)(h: ∀ v,Lib.parseIntB 64 s.data.toList≠ .ok v):Calls Tryz.prog 180 #[.string s,.int .i64 10,.int .i64 64] w fun e w'=>(∃ v te pe,e= .returned (.tuple #[.int .i64 v,.iface te pe]))/\Below w.heap.size w w':=by
 obtain⟨_,h0,h1⟩:=Z;cases hp:Lib.parseIntB 64 s.data.toList with
 | ok v=>exact absurd hp (h v)
 | range=>
  obtain⟨te,pe,hc⟩:=h0.rng;refine(Any.strconv_ParseInt_10_at64_range Tryz.laysInt s (by omega) hp _ w ((h1 _ _ (by decide)).2.trans hc) (Or.inr ⟨te,pe,rfl⟩)).mono ?_;rintro e w' ⟨N,rfl,-,-,hb⟩;exact⟨⟨_,_,_,rfl⟩,hb⟩
 | _=>
  obtain⟨te,pe,hc⟩:=h0.syn;refine(Any.strconv_ParseInt_10_at64_syntax Tryz.laysInt s (by omega) hp _ w ((h1 _ _ (by decide)).2.trans hc) (Or.inr ⟨te,pe,rfl⟩)).mono ?_;rintro e w' ⟨N,rfl,-,-,hb⟩;exact⟨⟨_,_,_,rfl⟩,hb⟩
theorem Yb0 (h:0 < s.size):(s.toList==[])=false:=by
 rw[beq_eq_false_iff_ne];intro h0
 have:=Zdy s
 rw[h0]at this;simp at this;omega
theorem Yaa (h:s.size=0):(s.toList==[])=true:=by
 rw[beq_iff_eq];exact Yda ((Zdy s).trans h)
theorem Zns {b:Nat}{t:ByteArray}{p:Nat}{x:Tk}(Z:Zap a w)(h:Rd w b t p x):
  Calls Tryz.prog 130 #[.pointer (some ⟨b,0,none⟩)] w (Zey a b t (fun _ v (y:Int)=>v= .int .i64 y) w (Zyj t x p)):=by
 have ht:=h.2.1;have hg:=h.2.2.2;have hp:=h.2.2.1;have CP:=Zaa (Zkf h);have hl:=Zbn t;obtain⟨c0,c1,-,-,-,-,-,-,sf⟩:=h.1.eight;have H:=Zaa h;have ZZ:=Zaa Z;have GI:Box ((Zab t).getD p 0=45->p < t.size):=⟨fun hh=>Zoc (by omega)⟩;obtain⟨p1,hp1⟩: ∃ p1,(if(Zab t).getD p 0=45 then p+1 else p)=p1:=⟨_,rfl⟩;have F:Box (Zyj t x p=if Zbv (Zab t) Zaz p1=p1\/(Zab t).getD p1 0=48/\(t.extract p (Zbv (Zab t) Zaz p1)).toList≠[48]then .error (1,x.at_)else match Lib.parseIntB 64 (t.extract p (Zbv (Zab t) Zaz p1)).data.toList with
  | .ok n=> .ok (n,x,Zbv (Zab t) Zaz p1)
  | _=> .error (1,x.at_)):=⟨by rw[<- hp1];rfl⟩
 have hp1l:p<=p1/\p1<=t.size:=by
  have:=GI.out
  split at hp1 <;> omega
 have hs:=Zha (bs:=Zab t) (ok:=Zaz) (p:=p1) (by omega);have CR:=Zaa (fun u (hu:Rd u b t p1 x)=>Zoo Zu1 hu);have BY:Box (∀ q,q<=t.size->p1 < q->(Zab (t.extract p1 q)).getD 0 0=(Zab t).getD p1 0):=⟨fun q h1 h2=>Zox (j:=0) h1 (by omega)⟩;generalize Zbv (Zab t) Zaz p1=q at*;have hz0:(t.extract p1 q).size=q - p1:=by rw[Ydz];omega
 have hz:(t.extract p q).size=q - p:=by rw[Ydz];omega
 clear h Z;go_enter Tryz.func130,Tryz.ntmps130
 go_wp2_with fail
 refine CP.out.mono ?_;rintro e w1 ⟨rfl,hb⟩;have ZA:=Zaa (ZZ.out.below hb);have HK:=Zaa ((Zaf.refl b w).ofBelow hb);have hr:=H.out.of hb;have HR:=Zaa hr;clear c0 c1 sf CP H ZZ;obtain⟨c0,c1,-,-,-,-,-,-,sf⟩:=hr.1.eight;clear hr hb;generalize (Zab t).getD p 0=c at*;by_cases hc:c=45
 case' pos=>
  have g1:((c:Int)==45)=true:=by rw[beq_iff_eq];omega
  have hpl:=GI.out hc;rw[if_pos hc]at hp1;have HRP:Box (Rd (w1.setCell ⟨b,1,none⟩ (.int .i64 ((p:Int)+1))) b t p1 x):=⟨by rw[<- hp1];exact HR.out.next hpl⟩;have HKP:Box (Zaf b w1 (w1.setCell ⟨b,1,none⟩ (.int .i64 ((p:Int)+1)))):=⟨(Zaf.refl b w1).set _ _⟩;clear GI hc hp1;go_wp2_with fail
 case' neg=>
  have g1:((c:Int)==45)=false:=by rw[beq_eq_false_iff_ne];omega
  rw[if_neg hc]at hp1;have HRP:Box (Rd w1 b t p1 x):=⟨by rw[<- hp1];exact HR.out⟩;have HKP:Box (Zaf b w1 w1):=⟨Zaf.refl b w1⟩;clear GI hc hp1;go_wp2_with fail
 all_goals
  refine(CR.out _ HRP.out).mono ?_;rintro e w2 ⟨rfl,hk2,hr2⟩;have ZB:=Zaa (ZA.out.keeps (HKP.out.trans hk2) hg);have HK2:=Zaa ((HK.out.trans HKP.out).trans hk2);have HR2:=Zaa hr2;have C1:=Zaa (fun u (hu:Rd u b t q x)=>Zbh a (n:=1) (by decide) hu);clear c0 c1 sf;obtain⟨d0,d1,-,-,-,-,-,-,sf2⟩:=hr2.1.eight;have z1:=ZB.out.c1;clear hk2 hr2 CR HRP HKP HR;have BY:=BY.out q (by omega);generalize t.extract p1 q=s0 at*;generalize (Zab t).getD p1 0=d at*;have CI:=Zaa (fun s (hs:s.size<=8000) v (h:Lib.parseIntB 64 s.data.toList= .ok v) u=>Zwj s hs v h u);have CJ:=Zaa (fun u (Z:Zap a u) s (hs:s.size<=8000) (h: ∀ v,Lib.parseIntB 64 s.data.toList≠ .ok v)=>Zxf Z s hs h);go_wp2_with fail
  go_quiet (fail)
  have ZC:=Zaa (ZB.out.below (Zb2 (n:=nq) (Yct _ w2)));generalize t.extract p q=s at*;by_cases hq1:q=p1
  ·have Y:Box (Zyj t x p= .error (1,x.at_)):=⟨by rw[F.out,if_pos (Or.inl hq1)]⟩;have e1:(s0.toList==[])=true:=Yaa (by omega);clear BY hq1;go_wp2_with fail
   refine(C1.out _ (HR2.out.dr _)).mono ?_;rintro e w3 ⟨⟨L,hL,rfl,hB⟩,hb⟩;exact⟨rfl,(HK2.out.dr _).ofBelow hb,Or.inl ⟨1,_,Y.out,by decide,L,Ycu HK2.out.size hL,rfl,hB⟩⟩
  have e1:(s0.toList==[])=false:=Yb0 (by omega);have h0:0 < s0.size:=by omega
  have hx0:=(Zhp s0 0 h0).trans (BY (by omega));by_cases h48:d=48/\s.toList≠[48]
  ·have Y:Box (Zyj t x p= .error (1,x.at_)):=⟨by rw[F.out,if_pos (Or.inr h48)]⟩;have g4:((d:Int)==48)=true:=by rw[beq_iff_eq];omega
   have g5:(s.toList==[48])=false:=by rw[beq_eq_false_iff_ne];exact h48.2
   clear h48;go_wp2_with fail
   refine(C1.out _ (HR2.out.dr _)).mono ?_;rintro e w3 ⟨⟨L,hL,rfl,hB⟩,hb⟩;exact⟨rfl,(HK2.out.dr _).ofBelow hb,Or.inl ⟨1,_,Y.out,by decide,L,Ycu HK2.out.size hL,rfl,hB⟩⟩
  have F2:=Zaa (F.out.trans (if_neg (by rintro(z | z);exact hq1 z;exact h48 z)));have GG:((d:Int)==48)=false\/((d:Int)==48)=true/\(s.toList==[48])=true:=by
   by_cases hd:d=48
   ·right
    exact⟨by rw[beq_iff_eq];omega,by rw[beq_iff_eq];exact Decidable.byContradiction fun hh=>h48 ⟨hd,hh⟩⟩
   ·left
    rw[beq_eq_false_iff_ne];omega
  have hz8:s.size<=8000:=by omega
  by_cases hv: ∃ v,Lib.parseIntB 64 s.data.toList= .ok v
  ·obtain⟨v,hv⟩:=hv;have Y:Box (Zyj t x p= .ok (v,x,q)):=⟨by rw[F2.out,hv]⟩;have C:=Zaa (CI.out s hz8 v hv);clear h48 hv F F2 CI CJ C1;rcases GG with ga | ⟨ga,gb⟩;all_goals
    go_wp2_with fail
    refine(C.out _).mono ?_;rintro e w3 ⟨rfl,hb⟩;have R:=Zaa (Ycs ((HK2.out.dr nq).ofBelow hb) ((HR2.out.dr nq).of hb));clear hb;go_wp2_with fail
    go_ret
    exact⟨R.out.1,Or.inr ⟨_,v,x,q,Y.out,rfl,by simp,R.out.2⟩⟩
  ·have Y:Box (Zyj t x p= .error (1,x.at_)):=⟨by
    rw[F2.out];split
    ·rename_i n hn;exact absurd ⟨n,hn⟩ hv
    ·rfl⟩
   have C:=Zaa (CJ.out _ ZC.out s hz8 fun v h=>hv ⟨v,h⟩);clear h48 hv F F2 CI CJ;rcases GG with ga | ⟨ga,gb⟩;all_goals
    go_wp2_with fail
    refine C.out.mono ?_;rintro e w3 ⟨⟨v,te,pe,rfl⟩,hb⟩;have HK3:=Zaa ((HK2.out.dr nq).ofBelow hb);have HR3:=Zaa ((HR2.out.dr nq).of hb);have z1:=(ZC.out.below hb).c1;clear hb d0 d1 sf2;go_wp2_with fail
    refine(C1.out _ HR3.out).mono ?_;rintro e w4 ⟨⟨L,hL,rfl,hB⟩,hb⟩;exact⟨rfl,HK3.out.ofBelow hb,Or.inl ⟨1,_,Y.out,by decide,L,Ycu HK3.out.size hL,rfl,hB⟩⟩
end Go.P
