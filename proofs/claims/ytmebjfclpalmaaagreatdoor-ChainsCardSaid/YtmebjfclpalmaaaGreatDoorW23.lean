import Derived.Test.YtmebjfclpalmaaaGreatDoorW16
import Derived.ChangeKeysEq
import Derived.Shelf.Strconv.ErrVarParseInt
import Derived.Lib.AtoiErrMem
set_option maxRecDepth 100000
set_option maxHeartbeats 8000000
set_option linter.unusedSimpArgs false
open Go.Proofs Go.RowKit Go.W Tryz
namespace Go.P
variable {n:Nat}
theorem Z2u (hn:n<=4000)(w:World):Calls prog 45 #[.int .i64 n] w fun e w'=>e= .returned (.string (Zel n))/\Below w.heap.size w w':=by
 have B0:=Zaa (fun o=>(Ydb w.heap.size w).alloc lr o);rcases Ye3 n 128 with h | h
 ·have hcv:(convert 74 9 (.slice (some ⟨w.heap.size,0,none⟩) 1 1)).run prog (w.alloc (.cells #[.int .u8 n] 5))= .ok (.string (Zel n)) (w.alloc (.cells #[.int .u8 n] 5)):=by
   rw[Zq1 h];refine Za6 (xs:=[UInt8.ofNat n]) (Blk.new w _ _) (fun j hj=>?_) 1 rfl;obtain rfl:j=0:=by simpa using hj
   simp;omega
  have hi:(n:Int) < 128:=by omega
  clear h;generalize Zel n=t at*;go_in
  go_wp2
  go_ret
  exact⟨rfl,B0.out _⟩
 ·have hcv:(convert 74 9 (.slice (some ⟨w.heap.size,0,none⟩) 2 2)).run prog (w.alloc (.cells #[.int .u8 ((n:Int) % 128+128),.int .u8 ((n:Int) / 128)] 5))= .ok (.string (Zel n)) (w.alloc (.cells #[.int .u8 ((n:Int) % 128+128),.int .u8 ((n:Int) / 128)] 5)):=by
   rw[show Zel n=⟨[UInt8.ofNat (n % 128+128),UInt8.ofNat (n / 128)].toArray⟩by
    unfold Zel;rw[Zsf h,Zlv (by omega)]
    rfl]
   refine Za6 (xs:=[UInt8.ofNat (n % 128+128),UInt8.ofNat (n / 128)]) (Blk.new w _ _) (fun j hj=>?_) 2 rfl;rcases(by simp at hj;omega:j=0\/j=1)with rfl | rfl
   ·simp;omega
   ·simp;omega
  have hi:128<=(n:Int):=by omega
  clear h;generalize Zel n=t at*;go_in
  go_wp2
  go_ret
  exact⟨rfl,B0.out _⟩
theorem Z61 {c:Int}(hc: -9223372036854775808<=c/\c < 9223372036854775808)(h0:0 < n)(hn:n < 1000000000)(w:World):Calls prog 25 #[.int .i64 c,.int .i64 n] w fun e w'=>(∃ k:Nat,k < n/\e= .returned (.int .i64 k))/\w'=w:=by
 go_in
 go_wp2_with fail
 ·go_ret
  have e:(-(c+1).tmod n:Int)=(-(c+1)) % (n:Int):=by
   rw[<- Int.neg_tmod];exact Int.tmod_eq_emod_of_nonneg (by omega)
  have h1:=Int.emod_nonneg (-(c+1)) (show(n:Int)≠0 by omega);have h2:=Int.emod_lt_of_pos (-(c+1)) (show(0:Int) < n by omega);refine⟨⟨((-(c+1)) % (n:Int)).toNat,by omega,?_⟩,rfl⟩;rw[e,Int.toNat_of_nonneg h1];rfl
 ·go_ret
  have h1:=Int.emod_nonneg c (show(n:Int)≠0 by omega);have h2:=Int.emod_lt_of_pos c (show(0:Int) < n by omega);refine⟨⟨(c % (n:Int)).toNat,by omega,?_⟩,rfl⟩;rw[Int.toNat_of_nonneg h1];rfl
end Go.P
namespace Go.P
variable {a:Nat->Addr}{w:World}{key:ByteArray}{p:Option Addr}{ts:List ByteArray}{c:Nat}
theorem Z9k (Z:Zao a w)(hk:key.size < 1000000000)(hT:Zef w p ts)(hl:ts.length < 1000000):Calls prog 47 #[.string key,.slice p ts.length c] w fun e w'=>e= .returned (.string ⟨(Zaj key ts).toArray⟩)/\Below w.heap.size w w':=by
 have CK:=Zaa (Zkr (c:=c) Z hk hT hl);clear Z hT;obtain⟨I,hI⟩: ∃ I,Box (Zaj key ts=I):=⟨_,⟨rfl⟩⟩;have hvl:I.length=32:=by rw[<- hI.out];exact Zar _
 have hv1:Zak.size=(Lib.byteCells I).toArray.size:=by
  have:(Lib.byteCells I).toArray.size=32:=by rw[Ydn,Lib.byteCells_length,hvl]
  rw[this];rfl
 have hv2:=Zeo I;have hv3:=Zep hvl;rw[hI.out]at CK⊢;unfold Zk0 at CK;go_in
 go_wp2_with fail
 refine mq CK.out ?_;rintro w2 hb2;have HB:=Zaa (hb2.alloc hb2.size (.cells Zak 89));have hlt:=hb2.size;have hS:=Blk.new w2 Zak 89;have hS2:=Yfe _ _ _ (Lib.byteCells I).toArray _ _ hS;have hcv:=Zaa (Za6 (xs:=I) hS2 (fun j hj=>Zki I j hj) 32 hvl.symm (cap:=32));clear hb2;go_wp2_with (first
  | (refine Yfa rfl 89 (.tmp 5) (.tmp 8) rfl w2.heap.size (Lib.byteCells I).toArray rfl rfl 89 Zak hS hv3 hv1 hv2 ?_)
  | (refine Zer _ rfl (.tmp 9) _ _ rfl _ rfl hcv.out ?_))
 go_ret
 exact⟨rfl,⟨HB.out.os,HB.out.tape,HB.out.output,by rw[Yfd];exact HB.out.size,fun j hj=>(Ye8 _ _ j _ (by omega)).trans (HB.out.block j hj)⟩⟩
theorem Zyy (Z:Zao a w)(hk:key.size < 1000000000)(hT:Zef w p ts)(hl:ts.length < 1000000):Calls prog 28 #[.string key,.slice p ts.length c] w fun e w'=>e= .returned (.string ⟨(Zaj key ts).toArray⟩)/\Below w.heap.size w w':=by
 have C:=Zaa (Z9k (c:=c) Z hk hT hl);clear Z hT;generalize Zaj key ts=I at*;go_in
 go_wp2_with fail
 refine mq C.out ?_;rintro w2 hb2;have HB:=Zaa hb2;clear hb2;go_wp2
 go_ret
 exact⟨rfl,HB.out⟩
end Go.P
namespace Go.W
theorem Zbx.vals {B D b o:Nat}{w:World}{x:Bk}(h:Zbx B w (D+1) b o x):b < B/\ ∃ p c p' c' p2 c2,w.cell? ⟨b,o,none⟩=some (.slice p x.facts.length c)/\w.cell? ⟨b,o+1,none⟩=some (.slice p' x.rules.length c')/\w.cell? ⟨b,o+2,none⟩=some (.slice p2 x.checks.length c2)/\Zbd B w D [.slice p x.facts.length c,.slice p' x.rules.length c',.slice p2 x.checks.length c2] x:=by
 obtain⟨hb,⟨v,h2,p,c,rfl,h3,h4⟩,⟨u,h5,p',c',rfl,h6,h7⟩,q,h8,p2,c2,rfl,h9,h10⟩:=h;exact⟨hb,p,c,p',c',p2,c2,h2,h5,h8,p,c,p',c',p2,c2,rfl,h3,h4,h6,h7,h9,h10⟩
end Go.W
namespace Go.P
variable {tag:List UInt8}
def Zhv (tag:List UInt8) (xs:List Bk):List UInt8:=xs.foldl (fun t x=>Zaj ⟨t.toArray⟩ [Zcd x]) tag
theorem Z1l {xs:List Bk}{k:Nat}{x:Bk}(h:xs[k]?=some x):Zhv tag (xs.take (k+1))=Zaj ⟨(Zhv tag (xs.take k)).toArray⟩ [Zcd x]:=by
 have e1:xs.take (k+1)=xs.take k++[x]:=by rw[Yes,h];rfl
 rw[e1];unfold Zhv;rw[List.foldl_append];rfl
theorem Zfa (h:tag.length=32)(xs:List Bk):(Zhv tag xs).length=32:=by
 unfold Zhv;induction xs generalizing tag with
 | nil=>exact h
 | cons x xs ih=>exact ih (Zar _)
end Go.P
namespace Go.W
def Zxt:Zgj (List UInt8):=fun _ vs x F=>F=[]/\x.length=32/\vs=Lib.byteCells x
theorem Zxt.stable:Zc3 Zxt:=fun _ _ _ _ _ h _=>h
theorem Zxt.one {w:World}{vs:List Value}{x:List UInt8}{F:List Nat}(h:Zxt w vs x F): ∀ u,u∈vs->u.oneCell'=true:=by
 obtain⟨_,_,rfl⟩:=h;exact Lib.byteCells_one x
theorem Zfc {P:Program}(w:World){ops:Array Oper}{rest:List Oper}{o:Oper}{a:Act}{Q:Exit->Act->World->Prop}(hgd:o.guard=none)(ty:TypeId)(n:Nat)(ps:Array (Nat×Operand))(ho:o.op= .buildSlice ty n ps)(pv:Array (Nat×Value))(hp:ps.map (fun p=>(p.1,a.eval p.2))=pv){v':Value}{w':World}
  (hr:(Instr.buildSlice ty n pv).run P w= .ok v' w') (h:wpList P ops Q rest (a.put o.dst v') w'):wpList P ops Q (o::rest) a w:=by
 refine wpList_plain hgd fun _ hK=>?_;unfold Oper.wp execOp;rw[ho];simp only[hp,Ye2,Sem.run_pure,Yer,hr];exact hK _ _ h
end Go.W
namespace Go.P
variable {tag:List UInt8}{ts:List ByteArray}{k:Nat}{w:World}
theorem Zjm {T:List UInt8}(h:T.length=32)(w:World):(Instr.buildSlice 104 1 #[(0,.agg (Lib.byteCells T).toArray)]).run prog w= .ok (.slice (some ⟨w.heap.size,0,none⟩) 1 1) (w.alloc (.cells (Lib.byteCells T).toArray 89)):=by
 obtain⟨a0,a1,a2,a3,a4,a5,a6,a7,a8,a9,b0,b1,b2,b3,b4,b5,b6,b7,b8,b9,c0,c1,c2,c3,c4,c5,c6,c7,c8,c9,d0,d1,rfl⟩:=Z76 h;kernel_rfl
theorem Z6j:(prog.info? 89).map (fun i=>(i.zero,i.size,i.bytes))=some (some (.agg Zak),32,32):=by kernel_rfl
theorem Z58:Zdw prog 104 89 32 32:=by
 obtain⟨i0,hi,hz0,hz1,hz2⟩:=info_parts Z6j;exact⟨i0,_,underlying104,hi,hz0,hz1,hz2,rfl,by decide,by decide⟩
def Zf4 (tag:List UInt8):List ByteArray->List (List UInt8)
 | []=>[]
 | t::ts=>Zaj ⟨tag.toArray⟩ [t]::Zf4 (Zaj ⟨tag.toArray⟩ [t]) ts
def Zk2 (tag:List UInt8) (ts:List ByteArray):List UInt8:=ts.foldl (fun t x=>Zaj ⟨t.toArray⟩ [x]) tag
theorem Zhu (h:tag.length=32)(ts:List ByteArray):(Zk2 tag ts).length=32:=by
 unfold Zk2;induction ts generalizing tag with
 | nil=>exact h
 | cons x xs ih=>exact ih (Zar _)
theorem Zdq (tag:List UInt8)(ts:List ByteArray):(Zf4 tag ts).length=ts.length:=by
 induction ts generalizing tag with
 | nil=>rfl
 | cons x xs ih=>simp[Zf4,ih]
theorem Zk3: ∀ (ts:List ByteArray) (tag:List UInt8) (k:Nat),k < ts.length->(Zf4 tag ts)[k]?=some (Zk2 tag (ts.take (k+1)))
 | [],_,_,h=>by simp at h
 | t::ts,tag,0,_=>rfl
 | t::ts,tag,k+1,h=>by
  show(Zf4 _ ts)[k]?=_;rw[Zk3 ts _ k (by simpa using h)];rfl
theorem Z1k (h:k < ts.length):(Zf4 tag ts).take (k+1)=(Zf4 tag ts).take k++[Zk2 tag (ts.take (k+1))]:=by rw[Yes,Zk3 ts tag k h];rfl
theorem Z45 {t:ByteArray}(h:ts[k]?=some t):Zk2 tag (ts.take (k+1))=Zaj ⟨(Zk2 tag (ts.take k)).toArray⟩ [t]:=by
 rw[Yes,h];unfold Zk2;simp
def Z70 (w:World) (T:Nat) (T0:List UInt8) (ts:List ByteArray) (iv tv:Value) (wr:World):Prop:= ∃ (k:Nat) (F:List Nat),k<=ts.length/\iv= .int .i64 (k:Int)/\Zag 89 32 Zxt wr tv (T0::(Zf4 T0 ts).take k) F/\Za7 w.heap.size wr F/\T∉F/\Blk wr T (Lib.byteCells (Zk2 T0 (ts.take k))).toArray 89/\Below w.heap.size w wr
theorem Z9w {x:List UInt8}(hx:x.length=32):Zag 89 32 Zxt (w.alloc (.cells (Lib.byteCells x).toArray 89)) (.slice (some ⟨w.heap.size,0,none⟩) 1 1) [x] [w.heap.size]:=by
 have hl:(Lib.byteCells x).length=32:=by rw[Lib.byteCells_length,hx]
 refine⟨[(Lib.byteCells x,x,[])],⟨by simp[hl],Or.inr ⟨w.heap.size,1,(Lib.byteCells x).toArray,rfl,Yej _,Blk.new w _ _,Yec _,by unfold maxLen;omega,by simp[hl],by simp;exact Yd9 (by omega)⟩⟩,?_,rfl,rfl,by simp⟩
 ·intro z hz;obtain rfl:z=(Lib.byteCells x,x,[]):=by simpa using hz
  exact⟨hl,rfl,hx,rfl⟩
theorem Zzc {a:Nat->Addr}{B:Nat}{key:ByteArray}{S:Bool}{t0:ByteArray}{p:Option Addr}{c:Nat}(Z:Zao a w)(hk:key.size < 1000000000)(hB:B<=w.heap.size)(hrow:Zan 4 (Zgv B w) p (t0::ts))(hn:ts.length < 100)(hc:ts.length+1<=c):
  Calls prog 42 #[.agg (Zap S (.slice p (ts.length+1) c) (Lib.byteCells tag)),.string key] w fun e w'=> ∃ v F,e= .returned v/\Zag 89 32 Zxt w' v (Zaj key [t0]::Zf4 (Zaj key [t0]) ts) F/\Za7 w.heap.size w' F/\Below w.heap.size w w':=by
 obtain⟨CV,hCV⟩: ∃ CV,Box (Zap S (.slice p (ts.length+1) c) (Lib.byteCells tag)=CV):=⟨_,⟨rfl⟩⟩;have v1:CV[1]?=some (.slice p (ts.length+1) c):=by rw[<- hCV.out];rfl
 rw[hCV.out];obtain⟨b,o,rfl,h0⟩:=hrow.get 0 (by simp);obtain⟨hb0,ht0,_,_,_,_,_,_,_,_,_,k0,_⟩:=h0;rw[Yex,Yey]at k0;have k0:w.cell? ⟨b,o,none⟩=some (.string t0):=k0;have ht0:t0.size < 1000000000:=ht0;have hbw:b < w.heap.size:=Ydh hb0 hB;have ZZ:=Zaa Z;have HR:=Zaa hrow;clear Z hrow;obtain⟨n,hnn⟩: ∃ n,Box (ts.length=n):=⟨_,⟨rfl⟩⟩;rw[hnn.out]at v1 hn hc;go_in
 go_wp2_with fail
 have hb1:=((Ydb w.heap.size w).alloc lr (.cells CV 91)).alloc (by simp) (.cells #[.string t0] 9);have hT1:Blk ((w.alloc (.cells CV 91)).alloc (.cells #[.string t0] 9)) (w.heap.size+1) #[.string t0] 9:=by
  have:=Blk.new (w.alloc (.cells CV 91)) #[.string t0] 9
  simpa using this
 refine(Zkr (c:=1) (ZZ.out.below hb1) hk (Zhf hT1 ht0) (by simp)).mono ?_;rintro e w2 ⟨rfl,hb2⟩;have hT0:(Zaj key [t0]).length=32:=Zar _;have B2:=Zaa (hb1.trans (hb2.mono hb1.size));have C2:=Zaa (((Blk.new w CV 91).alloc (.cells #[.string t0] 9)).of (hb2.block _ (by simp;omega)));have hs2:w.heap.size+2<=w2.heap.size:=by have:=hb2.size;simpa using this
 clear hb1 hb2 hT1;unfold Zk0;have EK:Box (Zaj key [t0]=Zaj key [t0]):=⟨rfl⟩;obtain⟨T0,hT⟩: ∃ T0,Box (Zaj key [t0]=T0):=⟨_,⟨rfl⟩⟩;rw[hT.out]at hT0⊢;clear EK;have S2:=Blk.new w2 Zak 89;have S3:=Yfe _ _ _ (Lib.byteCells T0).toArray _ _ S2;have hi0:=Zep hT0;have hs0:(Lib.byteCells T0).toArray.size=32:=by rw[Ydn,Lib.byteCells_length,hT0]
 obtain⟨TV,hTV⟩: ∃ TV,Box ((Lib.byteCells T0).toArray=TV):=⟨_,⟨rfl⟩⟩;have hbs:=Zaa (fun u=>Zjm hT0 u);have hone:=Zeo T0;rw[hTV.out]at S3 hi0 hs0 hbs hone⊢;have x1: ∀ o1 o2,(((w2.alloc o1).setRow w2.heap.size TV).alloc o2).cell? ⟨w.heap.size,1,none⟩=some (.slice (some ⟨b,o,none⟩) (n+1) c):=fun o1 o2=>((((C2.out.alloc o1).of (Ye8 _ _ _ _ (by omega))).alloc o2).cell 1).trans v1;have hc1:((1:Int)<=(n:Int)+1):=by omega
 have hc2:((n:Int)+1<=(c:Int)):=by omega
 go_wp2_with (first
  | (refine Yfa rfl 89 (.tmp 5) (.tmp 16) rfl w2.heap.size TV rfl rfl 89 Zak S2 hi0 (by rw[hs0];rfl) hone ?_)
  | (refine Yfh rfl 89 (.tmp 5) rfl w2.heap.size rfl 89 TV (0,0) _ S3 underlying89 rfl hi0 ?_)
  | (refine Zfc _ rfl 104 1 #[(0,.tmp 17)] rfl #[(0,.agg TV)] (by simp[Act.eval,Act.put]) (hbs.out _) ?_))
 case' inl=>
  have HA:Box (∃ ad cx,(Value.slice (some ⟨b,o,none⟩) n 0)= .slice (some ad) n cx/\(0 < n->ad=⟨b,o+4,none⟩)):=⟨⟨⟨b,o,none⟩,0,rfl,fun h=>by omega⟩⟩;generalize Value.slice (some ⟨b,o,none⟩) n 0=sl at*
 case' inr=>
  have HA:Box (∃ ad cx,(Value.slice (some ⟨b,o+4,none⟩) n (c - 1))= .slice (some ad) n cx/\(0 < n->ad=⟨b,o+4,none⟩)):=⟨⟨⟨b,o+4,none⟩,c - 1,rfl,fun _=>rfl⟩⟩;generalize Value.slice (some ⟨b,o+4,none⟩) n (c - 1)=sl at*
 all_goals
  change Code.wp _ _ _ _ (((w2.alloc (.cells Zak 89)).setRow w2.heap.size TV).alloc (.cells TV 89));have hRow:Zag 89 32 Zxt (((w2.alloc (.cells Zak 89)).setRow w2.heap.size TV).alloc (.cells TV 89)) (.slice (some ⟨w2.heap.size+1,0,none⟩) 1 1) [T0] [w2.heap.size+1]:=by
   have:=Z9w (w:=(w2.alloc (.cells Zak 89)).setRow w2.heap.size TV) hT0
   rw[hTV.out,Yfd,Ydm]at this;exact this
  have I0:Box (Z70 w w2.heap.size T0 ts (.int .i64 ((0:Nat):Int)) (.slice (some ⟨w2.heap.size+1,0,none⟩) 1 1) (((w2.alloc (.cells Zak 89)).setRow w2.heap.size TV).alloc (.cells TV 89))):=⟨⟨0,[w2.heap.size+1],Yej _,rfl,hRow,⟨by simp,fun k hk=>by simp at hk;omega,fun k hk=>by simp at hk;rw[Ydm,Yfd,Ydm];omega⟩,by simp,by rw[List.take_zero,show Zk2 T0 []=T0 from rfl,hTV.out];exact Blk.alloc S3 _,(((B2.out.alloc B2.out.size _).setRowAt _ B2.out.size).alloc (by rw[Yfd,Ydm];omega) _)⟩⟩;have hTw:w.heap.size<=w2.heap.size:=by omega
  clear x1 S2 S3 hbs hone hs0 hi0 hRow;generalize ((w2.alloc (.cells Zak 89)).setRow w2.heap.size TV).alloc (.cells TV 89)=W3 at*;generalize (Value.slice (some ⟨w2.heap.size+1,0,none⟩) 1 1)=sl0 at*;generalize w2.heap.size=T at*;go_loopw [23,6] (fun iv tv wr=>Z70 w T T0 ts iv tv wr) (fun iv _ _=>ts.length - (intOf iv).toNat)
  case atStart=>exact I0.out
  case round=>
   clear I0;obtain⟨k,F,hk,rfl,hRk,hNk,hTF,hTb,hbk⟩:=hrel;by_cases hlt:k < n
   ·first
    | (exfalso;omega)
    | (have g:(k:Int) < (n:Int):=by omega
       obtain⟨ad,cx,rfl,hadr⟩:=HA.out;obtain rfl:=hadr (by omega);have hk':k < ts.length:=by have:=hnn.out;omega
       obtain⟨b',o',hbo,hx⟩:=HR.out.get (k+1) (by simpa using hk');obtain⟨rfl,rfl⟩:b=b'/\o=o':=by injection hbo with h;injection h with h1 h2;exact⟨h1,h2⟩
       have hxk:ts[k]?=some ts[k]:=Ydi hk';obtain⟨hb1,hxs,p1,n1,c1,p2,n2,c2,p3,n3,c3,z0,z1,z2,z3⟩:=Zgv.carry (Go.W.Below.carry (hbk.mono hB) lr) hx;rw[show o+(k+1)*4=o+4+k*4 by omega]at z0 z1 z2 z3;replace z0:wr.cell? ⟨b,o+4+k*4,none⟩=some (.string ts[k]):=z0
       replace hxs:ts[k].size < 1000000000:=hxs
       have hKl:=Zhu hT0 (ts.take k);have hKl1:=Zhu hT0 (ts.take (k+1));have EK:=Z45 (tag:=T0) hxk;have ETL:=Zaa (Z1k (tag:=T0) hk');have hUb: ∀ o,Below w.heap.size w (wr.alloc o):=fun o=>hbk.alloc hbk.size o;have CB:=Zaa (fun o=>Zkg (t:=ts[k]) ((ZZ.out.belowN hbk ZZ.out.size).below ((Ydb _ wr).alloc lr o)) hKl hxs);rw[<- EK]at CB;unfold Zk0 at CB;have hik:=Zep hKl;have hik1:=Zep hKl1;have hbs1:=Zaa (fun u=>Zjm hKl1 u);have hone1:=Zeo (Zk2 T0 (ts.take (k+1)));have hsk1:(Lib.byteCells (Zk2 T0 (ts.take (k+1)))).toArray.size=32:=by rw[Ydn,Lib.byteCells_length,hKl1]
       have hsk:(Lib.byteCells (Zk2 T0 (ts.take k))).toArray.size=32:=by rw[Ydn,Lib.byteCells_length,hKl]
       obtain⟨TK,hTK⟩: ∃ TK,Box ((Lib.byteCells (Zk2 T0 (ts.take k))).toArray=TK):=⟨_,⟨rfl⟩⟩;obtain⟨TK1,hTK1⟩: ∃ TK1,Box ((Lib.byteCells (Zk2 T0 (ts.take (k+1)))).toArray=TK1):=⟨_,⟨rfl⟩⟩;rw[hTK.out,hTK1.out]at CB;rw[hTK.out]at hTb hik hsk;rw[hTK1.out]at hik1 hbs1 hone1 hsk1;have TU:=fun o=>hTb.alloc o;have HH:=Zaa (Yda hRk (Yda hNk (Yda hTF hbk)));have hTl:T < wr.heap.size:=hTb.lt;clear hx EK hRk hNk hTF hTb hbk;obtain⟨xk,hxk'⟩: ∃ xk,Box (ts[k]=xk):=⟨_,⟨rfl⟩⟩;rw[hxk'.out]at CB z0 hxs;go_wp2_with (refine Yfh rfl 89 (.tmp 5) rfl T rfl 89 TK (0,0) _ (TU _) underlying89 rfl hik ?_)
       refine(CB.out _).mono ?_;rintro e w5 ⟨rfl,hb5⟩;have T5:=(TU (.cells #[.string xk,.slice p1 n1 c1,.slice p2 n2 c2,.slice p3 n3 c3] 108)).of (hb5.block _ (by simp;omega));have T6:=Yfe _ _ _ TK1 _ _ T5;have hs5:wr.heap.size+1<=w5.heap.size:=by have:=hb5.size;simpa using this
       have hbs6:=hbs1.out (w5.setRow T TK1);rw[Yfd]at hbs6;have same6:Box (∀ j,j < wr.heap.size->j≠T->(w5.setRow T TK1).heap[j]?=wr.heap[j]?):=⟨fun j hj hne=>(Ye8 _ _ j _ hne).trans ((hb5.block j (by simp;omega)).trans (Ydf _ _ _ hj))⟩;have B6:Box (Below w.heap.size w (w5.setRow T TK1)):=⟨((hUb _).trans (hb5.mono (by have:=HH.out.2.2.2.size;simp;omega))).setRowAt _ hTw⟩;have R7:Box (Zag 89 32 Zxt ((w5.setRow T TK1).alloc (.cells TK1 89)) u6 (T0::(Zf4 T0 ts).take k) F):=⟨Zag.stable Zxt.stable _ _ _ _ _ HH.out.1 fun j hj=>(Ydf _ _ _ (by rw[Yfd];have:=HH.out.2.1.lt j hj;omega)).trans (same6.out j (HH.out.2.1.lt j hj) (fun e=>HH.out.2.2.1 (e▸hj)))⟩;have N7:Box (Za7 w.heap.size ((w5.setRow T TK1).alloc (.cells TK1 89)) F):=⟨HH.out.2.1.later lr (by rw[Ydm,Yfd];omega)⟩;have hq7:Box (Zxt ((w5.setRow T TK1).alloc (.cells TK1 89)) TK1.toList (Zk2 T0 (ts.take (k+1))) []):=⟨rfl,hKl1,by rw[<- hTK1.out]⟩;have hnew:=Blk.new (w5.setRow T TK1) TK1 89;rw[Yfd]at hnew;have hxl:(T0::(Zf4 T0 ts).take k).length < 100000000:=by simp[Zdq];have:=hnn.out;omega
       clear CB hb5 TU hbs1 hUb;go_wp2_with (first
        | (refine Yfa rfl 89 (.tmp 5) (.tmp 30) rfl T TK1 rfl rfl 89 TK T5 hik1 (by rw[hsk,hsk1]) hone1 ?_)
        | (refine Yfh rfl 89 (.tmp 5) rfl T rfl 89 TK1 (0,0) _ T6 underlying89 rfl hik1 ?_)
        | (refine Zfc _ rfl 104 1 #[(0,.tmp 32)] rfl #[(0,.agg TK1)] (by simp[Act.eval,Act.put]) hbs6 ?_)
        | (at_builtin;go_must (refine Za9 Z58 rfl (.tmp 31) (.tmp 33) rfl Zxt.stable (fun _ _ _ _ h=>Zxt.one h) w.heap.size u6 (T0::(Zf4 T0 ts).take k) F rfl R7.out w5.heap.size TK1 89 (0,0) (Zk2 T0 (ts.take (k+1))) [] rfl hnew hsk1 hq7.out hxl (by have:=HH.out.2.2.2.size;rw[Ydm,Yfd];omega) N7.out (Za7.nil _ _) (fun _ _ h=>by cases h) ?_);intro g8 cap8 w8 F8 happ))
       have hs8:=happ.size;rw[Ydm,Yfd]at hs8;have st8: ∀ j,j < wr.heap.size->j∉F->j≠T->w8.heap[j]?=wr.heap[j]?:=fun j hj hjF hjT=>(happ.same j (by rw[Ydm,Yfd];omega) hjF).trans ((Ydf _ _ _ (by rw[Yfd];omega)).trans (same6.out j hj hjT));go_roundw
       case rel=>
        refine⟨k+1,F8,by omega,by go_num,?_,happ.new,?_,?_,?_⟩
        ·rw[ETL.out]
         have:=happ.row
         simpa using this
        ·intro h;rcases happ.sub T h with h | h | h
         ·exact HH.out.2.2.1 h
         ·cases h
         ·rw[Ydm,Yfd]at h;omega
        ·rw[hTK1.out];exact Blk.of (Blk.alloc T6 (.cells TK1 89)) (happ.same T (by rw[Ydm,Yfd];omega) HH.out.2.2.1)
        ·have hb:=HH.out.2.2.2;exact⟨happ.os.trans B6.out.os,happ.tape.trans B6.out.tape,happ.output.trans B6.out.output,by have:=hb.size;omega,fun j hj=>(st8 j (by have:=hb.size;omega) (fun h=>by have:=HH.out.2.1.ge j h;omega) (by omega)).trans (hb.block j hj)⟩
       case measure=>simp[intOf];omega)
   ·obtain rfl:k=n:=by have:=hnn.out;omega
    have e1:(Zf4 T0 ts).take k=Zf4 T0 ts:=Yd9 (by rw[Zdq];have:=hnn.out;omega);rw[e1]at hRk;have HH:=Zaa (Yda hRk (Yda hNk hbk));clear hRk hNk hbk hTF hTb;go_wp2
    go_ret
    rw[hT.out];exact⟨u6,F,rfl,HH.out.1,HH.out.2.1,HH.out.2.2⟩
end Go.P
namespace Go.P
theorem Zum {T:List UInt8}{i:Nat}(h:i < T.length)(w:World):(part 5 (Lib.byteCells T).toArray (i*1)).run prog w= .ok (.int .u8 ((T.getD i 0).toNat:Int)) w:=by
 have:=Zki T i h
 rw[Nat.mul_one];simp[part,go_sem,this]
end Go.P
namespace Go.P
variable {U:List UInt8}
theorem Zn0 {T:List UInt8}(d:Nat)(w:World): ∀ (is:List Nat),(∀ i,i∈is->i < T.length/\i < U.length)->(Op.eqItems (d+1) 5 1 (Lib.byteCells T).toArray (Lib.byteCells U).toArray is).run prog w= .ok (is.all fun i=>T.getD i 0==U.getD i 0) w
 | [],_=>by simp[Op.eqItems]
 | i::is,h=>by
  have h1:=Zum (h i List.mem_cons_self).1 w;have h1':=Zum (h i List.mem_cons_self).2 w;have h2:=Zn0 d w is fun j hj=>h j (List.mem_cons_of_mem _ hj);have h3:=run_equalIn_int (P:=prog) w d 5 .u8 .u8 ((T.getD i 0).toNat:Int) ((U.getD i 0).toNat:Int) underlying5;simp only[Op.eqItems,Ye2,h1,h1',Yer,h3];rw[List.all_cons];clear h1 h1' h3;generalize T.getD i 0=x;generalize U.getD i 0=y;by_cases he:x=y
  ·subst he;simp[h2]
  ·have: ¬ ((x.toNat:Int)=(y.toNat:Int)):=fun e=>he (UInt8.toNat.inj (by omega))
   simp[he,this]
theorem Z21 {T:List UInt8}(h:T.length=32)(h':U.length=32)(w:World):(binOp .eql 89 (.agg (Lib.byteCells T).toArray) (.agg (Lib.byteCells U).toArray)).run prog w= .ok (.bool (decide (T=U))) w:=by
 obtain⟨i,hi,_,hs,_⟩:=info_parts Zkp;have e:((List.range 32).all fun i=>T.getD i 0==U.getD i 0)=decide (T=U):=by
  by_cases he:T=U
  ·subst he;simp
  ·rw[Yfg he,<- Bool.not_eq_true,Ye1];intro hall;refine he (List.ext_getElem (h.trans h'.symm) fun j h1 h2=>?_)
   have:=hall j (List.mem_range.2 (by omega))
   simpa[List.getD,Ydi h1,Ydi h2]using this
 rw[run_eql_struct,run_equalIn_array w 9999 _ _ underlying89 hi,Zno,Zn0 9998 w _ (fun j hj=>by rw[h,h'];have:=List.mem_range.1 hj;omega),e];rfl
def Zh4:ByteArray:=⟨#[115,101,97,108,101,100]⟩
def Zp0 (S:Bool) (tag:List UInt8):List UInt8:=if S then Zaj ⟨tag.toArray⟩ [Zh4]else tag
theorem Zx7 {a:Nat->Addr}{w:World}{v:Value}{S:Bool}{tag last:List UInt8}(Z:Zao a w)(ht:tag.length=32)(hl:last.length=32):
  Calls prog 43 #[.agg (Zap S v (Lib.byteCells tag)),Zk0 last] w fun e w'=>e= .returned (.bool (decide (tag=Zp0 S last)))/\Below w.heap.size w w':=by
 obtain⟨CV,hCV⟩: ∃ CV,Box (Zap S v (Lib.byteCells tag)=CV):=⟨_,⟨rfl⟩⟩;have v0:CV[0]?=some (.bool S):=by rw[<- hCV.out];rfl
 have hlen:(Lib.byteCells tag).length=32:=by rw[Lib.byteCells_length,ht]
 have hC:=fun o=>(Blk.new w CV 91).alloc o;have c0:=fun o=>((hC o).cell 0).trans v0;have CB:=Zaa (fun u (hu:Below w.heap.size w u)=>Zkg (t:=Zh4) (Z.below hu) hl (by decide));unfold Zk0 at CB⊢;rw[hCV.out];have hrg: ∀ o,((w.alloc (.cells CV 91)).alloc o).rangeAt w.heap.size 2 (Lib.byteCells tag):=fun o j u hj=>by
  rw[Blk.cell (hC o),<- hCV.out,Zap,Yd8,Nat.add_comm 2 j];exact hj
 have hL:Blk ((w.alloc (.cells CV 91)).alloc (.cells (Lib.byteCells last).toArray 89)) (w.heap.size+1) (Lib.byteCells last).toArray 89:=by
  have:=Blk.new (w.alloc (.cells CV 91)) (Lib.byteCells last).toArray 89
  simpa using this
 cases S with
 | false=>
  have heq:=fun u=>Z21 ht hl u;go_in
  go_wp2_with (first
   | (refine wpList_load_mid rfl 89 (.tmp 9) rfl w.heap.size 2 rfl (Lib.byteCells tag) _ (hrg _) underlying89 rfl (by rw[hlen];kernel_rfl) ?_)
   | (refine Yfh rfl 89 (.tmp 3) rfl (w.heap.size+1) rfl 89 (Lib.byteCells last).toArray (0,0) _ hL underlying89 rfl (Zep hl) ?_))
  go_ret
  exact⟨rfl,((Ydb w.heap.size w).alloc lr _).alloc (by simp) _⟩
 | true=>
  obtain⟨nt,hnt⟩: ∃ nt,Box (Zaj ⟨last.toArray⟩ [Zh4]=nt):=⟨_,⟨rfl⟩⟩;have hnl:nt.length=32:=by rw[<- hnt.out];exact Zar _
  rw[show Zp0 true last=nt from hnt.out];simp only[hnt.out]at CB;go_in
  go_wp2_with (first
   | (refine Yfh rfl 89 (.tmp 3) rfl (w.heap.size+1) rfl 89 (Lib.byteCells last).toArray (0,0) _ hL underlying89 rfl (Zep hl) ?_))
  have B2:=((Ydb w.heap.size w).alloc lr (.cells CV 91)).alloc (by simp) (.cells (Lib.byteCells last).toArray 89);refine(CB.out _ B2).mono ?_;rintro e w3 ⟨rfl,hb3⟩;have B3:=Zaa (B2.trans (hb3.mono B2.size));have hC3:=(hC (.cells (Lib.byteCells last).toArray 89)).of (hb3.block _ (hC _).lt);have hL3:=hL.of (hb3.block _ hL.lt);have heq:=fun u=>Z21 ht hnl u;have hone:=Zeo nt;have hsz:(Lib.byteCells last).toArray.size=(Lib.byteCells nt).toArray.size:=by rw[Ydn,Ydn,Lib.byteCells_length,Lib.byteCells_length,hl,hnl]
  have hL4:=Yfe _ _ _ (Lib.byteCells nt).toArray _ _ hL3;have hC4:=hC3.of (Ye8 w3 (w.heap.size+1) w.heap.size (Lib.byteCells nt).toArray (by omega));have hrg4:(w3.setRow (w.heap.size+1) (Lib.byteCells nt).toArray).rangeAt w.heap.size 2 (Lib.byteCells tag):=fun j u hj=>by
   rw[Blk.cell hC4,<- hCV.out,Zap,Yd8,Nat.add_comm 2 j];exact hj
  clear hb3 hC3 hC4 CB hrg hC c0 B2;go_wp2_with (first
   | (refine Yfa rfl 89 (.tmp 3) (.tmp 8) rfl (w.heap.size+1) (Lib.byteCells nt).toArray rfl rfl 89 (Lib.byteCells last).toArray hL3 (Zep hnl) hsz hone ?_)
   | (refine wpList_load_mid rfl 89 (.tmp 9) rfl w.heap.size 2 rfl (Lib.byteCells tag) _ hrg4 underlying89 rfl (by rw[hlen];kernel_rfl) ?_)
   | (refine Yfh rfl 89 (.tmp 3) rfl (w.heap.size+1) rfl 89 (Lib.byteCells nt).toArray (0,0) _ hL4 underlying89 rfl (Zep hnl) ?_))
  go_ret
  exact⟨rfl,B3.out.setRowAt _ (by omega)⟩
end Go.P
namespace Go.W
variable {t m:ByteArray}{p:Nat}{x:Tk}
def Zis (t:ByteArray) (p:Nat) (m:ByteArray):Bool:=Lib.hasPrefix (t.extract p t.size).data.toList m.data.toList
def Zse (t:ByteArray) (x:Tk) (p:Nat):Except (Int×Nat) (Unit×Tk×Nat):=match Zg8.find? (Zis t p)with
 | none=> .error (1,x.at_)
 | some m=> .ok ((),{x with text:=m},p+m.size)
theorem Z27 (hp:p<=t.size)(h:Zis t p m=true):p+m.size<=t.size:=by
 have g:=(List.isPrefixOf_iff_prefix.1 h).length_le;simp at g
 have:m.size=m.data.size:=rfl
 omega
theorem Z9l {k:Nat}(hk:Zg8[k]?=some m)(h0: ∀ j m',j < k->Zg8[j]?=some m'->Zis t p m'=false)(h1:Zis t p m=true):Zse t x p= .ok ((),{x with text:=m},p+m.size):=by
 have:Zg8.find? (Zis t p)=some m:=by
  rw[List.find?_eq_some_iff_getElem];refine⟨h1,k,?_,?_,?_⟩
  ·exact(Ydl.1 hk).1
  ·exact(Ydl.1 hk).2
  ·intro j hj;rw[h0 j _ hj (Ydi _)];rfl
 unfold Zse;rw[this]
theorem Z9m (h0: ∀ j m',j < 14->Zg8[j]?=some m'->Zis t p m'=false):Zse t x p= .error (1,x.at_):=by
 have:Zg8.find? (Zis t p)=none:=by
  rw[List.find?_eq_none];intro m hm;obtain⟨j,hj,rfl⟩:=List.getElem_of_mem hm;rw[h0 j _ hj (Ydi _)];simp
 unfold Zse;rw[this]
end Go.W
namespace Go.P
variable {a:Nat->Addr}{w:World}
theorem Zao.marks (h:Zao a w)(i:Nat)(s:ByteArray)(hs:Zg8[i]?=some s):w.cell? ⟨13,i,none⟩=some (.string s):=by
 obtain⟨_,h0,h1⟩:=h;exact(h1 _ _ (by decide)).2.trans (h0.marks i s hs)
def Z8m (w:World) (t:ByteArray) (p:Nat) (iv:Value) (wr:World):Prop:= ∃ k:Nat,k<=14/\iv= .int .i64 (k:Int)/\(∃ n,wr=w.drewN n)/\ ∀ j m',j < k->Zg8[j]?=some m'->Zis t p m'=false
theorem Z3v (k:Nat)(h:k < 14): ∃ m,Zg8[k]?=some m/\ ∀ w,(Instr.index 276 (.agg #[.string ⟨#[60,45]⟩,.string ⟨#[60,61]⟩,.string ⟨#[62,61]⟩,.string ⟨#[61,61]⟩,.string ⟨#[33,61]⟩,.string ⟨#[94,61]⟩,.string ⟨#[60]⟩,.string ⟨#[62]⟩,.string ⟨#[40]⟩,.string ⟨#[41]⟩,.string ⟨#[91]⟩,.string ⟨#[93]⟩,.string ⟨#[44]⟩,.string ⟨#[59]⟩]) (.int .i64 (k:Int))).run prog w= .ok (.string m) w:=by
 have g:k=0\/k=1\/k=2\/k=3\/k=4\/k=5\/k=6\/k=7\/k=8\/k=9\/k=10\/k=11\/k=12\/k=13:=by omega
 rcases g with rfl | rfl | rfl | rfl | rfl | rfl | rfl | rfl | rfl | rfl | rfl | rfl | rfl | rfl;all_goals exact⟨_,rfl,fun _=>by kernel_rfl⟩
def Z66 (v:Value):Nat:=match v with
 | .int _ i=>i.toNat
 | _=>0
theorem Zux {b:Nat}{t:ByteArray}{p:Nat}{x:Tk}(Z:Zao a w)(h:Rd w b t p x):
  Calls prog 129 #[.pointer (some ⟨b,0,none⟩)] w (Ze6 a b t VU w (Zse t x p)):=by
 obtain⟨c0,c1,-,c3,-,-,-,-,sf⟩:=h.1.eight;have hp:=h.2.2.1;have ht:=h.2.1;have z1:=Z.c1;have m0:=Z.marks 0 _ rfl;have m1:=Z.marks 1 _ rfl;have m2:=Z.marks 2 _ rfl;have m3:=Z.marks 3 _ rfl;have m4:=Z.marks 4 _ rfl;have m5:=Z.marks 5 _ rfl;have m6:=Z.marks 6 _ rfl;have m7:=Z.marks 7 _ rfl;have m8:=Z.marks 8 _ rfl;have m9:=Z.marks 9 _ rfl;have m10:=Z.marks 10 _ rfl;have m11:=Z.marks 11 _ rfl;have m12:=Z.marks 12 _ rfl;have m13:=Z.marks 13 _ rfl;have H:=Zaa h;clear Z h;go_in
 go_wp2_with fail
 clear m0 m1 m2 m3 m4 m5 m6 m7 m8 m9 m10 m11 m12 m13;go_loopw [5] (fun iv wr=>Z8m w t p iv wr) (fun iv _=>14 - Z66 iv)
 case atStart=>exact⟨0,by omega,rfl,⟨0,rfl⟩,fun j _ hj=>absurd hj (by omega)⟩
 case round=>
  obtain⟨k,hk,rfl,⟨n,rfl⟩,hall⟩:=hrel;have A:=Zaa hall;clear hall;by_cases hlt:k < 14
  ·obtain⟨m,hm,ik⟩:=Z3v k hlt;have g:(k:Int) < 14:=by omega
   have C:=Zaa (fun u=>Zq8 (t.extract p t.size) m u);rw[show Lib.hasPrefix (t.extract p t.size).data.toList m.data.toList=Zis t p m from rfl]at C;cases hgo:Zis t p m
   ·rw[hgo]at C;have S:Box (∀ j m',j < k+1->Zg8[j]?=some m'->Zis t p m'=false):=⟨fun j m' hj hm'=>by
     by_cases hjk:j=k
     ·subst hjk;rw[hm]at hm';cases hm';exact hgo
     ·exact A.out j m' (by omega) hm'⟩
    clear hm hgo A;go_wp2
    go_quiet ((go_at_call 160;first | exact Calls.quiet_of_same (C.out _) | exact Zd6 C.out))
    go_wp2
    go_roundw
    case rel=>exact⟨k+1,by omega,by simp,⟨_,rfl⟩,S.out⟩
    case measure=>simp[Z66];omega
   ·rw[hgo]at C;have Y:=Zaa (Z9l (x:=x) hm A.out hgo);have hle:=Z27 hp hgo;clear hm hgo A;go_wp2
    go_quiet ((go_at_call 160;first | exact Calls.quiet_of_same (C.out _) | exact Zd6 C.out))
    go_wp2
    refine Ye6 (by simp[results,results129,go_sem];try rfl) rfl ?_;exact⟨(((Zah.refl b w).dr _).set _ _).set _ _,Or.inr ⟨_,_,_,_,Y.out,rfl,rfl,((H.out.dr _).goes hle).text m⟩⟩
  ·obtain rfl:k=14:=by omega
   have Y:=Zaa (Z9m (x:=x) A.out);have C1:=Zaa (fun n=>Zbf a (n:=1) (by decide) (H.out.dr n));clear A;go_wp2_with fail
   refine(C1.out _).mono ?_;rintro e w2 ⟨⟨L,hL,rfl,hB⟩,hb⟩;exact⟨rfl,((Zah.refl b w).dr _).ofBelow hb,Or.inl ⟨1,_,Y.out,by decide,L,hL,rfl,hB⟩⟩
end Go.P
namespace Go.Proofs
open Go.RowKit Go.Shelf Go.Lib
def Tryz.laysInt_ren:Go.Shelf.Ren:=⟨fun | 174=>171 | 247=>204 | 245=>205 | 287=>231 | 279=>232 | 280=>233 | 281=>234 | 282=>235 | 321=>256 | 322=>257 | 316=>200 | 171=>259 | 205=>258 | 243=>276 | 246=>280 | 283=>281 | 284=>282 | 285=>283 | 286=>284 | 129=>286 | 317=>285 | 318=>287 | 319=>288 | 320=>289 | 337=>290 | 338=>267 | n=>n,fun | 9=>9 | 3=>3 | 2=>2 | 75=>62 | 85=>274 | 4=>4 | 167=>355 | 5=>5 | 53=>172 | 175=>356 | 46=>262 | 168=>358 | 37=>74 | 0=>0 | 210=>384 | 21=>21 | 127=>208 | 145=>405 | 143=>403 | 171=>410 | 173=>412 | 212=>416 | 51=>169 | 20=>20 | 213=>417 | 232=>88 | 233=>171 | 80=>94 | n=>n,fun | 15=>18 | 16=>19 | 17=>21 | 18=>22 | 19=>20 | n=>n⟩
theorem Tryz.laysInt:Go.Proofs.LaysC.n174 prog Tryz.laysInt_ren where
 mixed:=by kernel_rfl
 f129:=func286.trans (congrArg some (by kernel_rfl))
 f171:=func259.trans (congrArg some (by kernel_rfl))
 f174:=func171.trans (congrArg some (by kernel_rfl))
 f205:=func258.trans (congrArg some (by kernel_rfl))
 f243:=func276.trans (congrArg some (by kernel_rfl))
 f245:=func205.trans (congrArg some (by kernel_rfl))
 f246:=func280.trans (congrArg some (by kernel_rfl))
 f247:=func204.trans (congrArg some (by kernel_rfl))
 f279:=func232.trans (congrArg some (by kernel_rfl))
 f280:=func233.trans (congrArg some (by kernel_rfl))
 f281:=func234.trans (congrArg some (by kernel_rfl))
 f282:=func235.trans (congrArg some (by kernel_rfl))
 f283:=func281.trans (congrArg some (by kernel_rfl))
 f284:=func282.trans (congrArg some (by kernel_rfl))
 f285:=func283.trans (congrArg some (by kernel_rfl))
 f286:=func284.trans (congrArg some (by kernel_rfl))
 f287:=func231.trans (congrArg some (by kernel_rfl))
 f316:=func200.trans (congrArg some (by kernel_rfl))
 f317:=func285.trans (congrArg some (by kernel_rfl))
 f318:=func287.trans (congrArg some (by kernel_rfl))
 f319:=func288.trans (congrArg some (by kernel_rfl))
 f320:=func289.trans (congrArg some (by kernel_rfl))
 f321:=func256.trans (congrArg some (by kernel_rfl))
 f322:=func257.trans (congrArg some (by kernel_rfl))
 f337:=func290.trans (congrArg some (by kernel_rfl))
 f338:=func267.trans (congrArg some (by kernel_rfl))
 t0:=underlying0
 a0:=isAgg0
 z0:=sizeOf0
 v0:=zeroValue0
 t2:=underlying2
 a2:=isAgg2
 z2:=sizeOf2
 v2:=zeroValue2
 t3:=underlying3
 a3:=isAgg3
 z3:=sizeOf3
 v3:=zeroValue3
 t4:=underlying4
 a4:=isAgg4
 z4:=sizeOf4
 v4:=zeroValue4
 t5:=underlying5
 a5:=isAgg5
 z5:=sizeOf5
 v5:=zeroValue5
 t9:=underlying9
 a9:=isAgg9
 z9:=sizeOf9
 v9:=zeroValue9
 t20:=underlying20
 a20:=isAgg20
 z20:=sizeOf20
 v20:=zeroValue20
 t21:=underlying21
 a21:=isAgg21
 z21:=sizeOf21
 v21:=zeroValue21
 t37:=underlying74
 a37:=isAgg74
 z37:=sizeOf74
 v37:=zeroValue74
 t46:=underlying262
 a46:=isAgg262
 z46:=sizeOf262
 v46:=zeroValue262
 t51:=underlying169
 a51:=isAgg169
 z51:=sizeOf169
 v51:=zeroValue169
 t53:=underlying172
 a53:=isAgg172
 z53:=sizeOf172
 v53:=zeroValue172
 t75:=underlying62
 a75:=isAgg62
 z75:=sizeOf62
 v75:=zeroValue62
 t85:=underlying274
 a85:=isAgg274
 z85:=sizeOf274
 v85:=zeroValue274
 t127:=underlying208
 a127:=isAgg208
 z127:=sizeOf208
 v127:=zeroValue208
 t143:=underlying403
 a143:=isAgg403
 z143:=sizeOf403
 v143:=zeroValue403
 t145:=underlying405
 a145:=isAgg405
 z145:=sizeOf405
 v145:=zeroValue405
 t167:=underlying355
 a167:=isAgg355
 z167:=sizeOf355
 v167:=zeroValue355
 t168:=underlying358
 a168:=isAgg358
 z168:=sizeOf358
 v168:=zeroValue358
 t171:=underlying410
 a171:=isAgg410
 z171:=sizeOf410
 v171:=zeroValue410
 t173:=underlying412
 a173:=isAgg412
 z173:=sizeOf412
 v173:=zeroValue412
 t175:=underlying356
 a175:=isAgg356
 z175:=sizeOf356
 v175:=zeroValue356
 t210:=underlying384
 a210:=isAgg384
 z210:=sizeOf384
 v210:=zeroValue384
 t212:=underlying416
 a212:=isAgg416
 z212:=sizeOf416
 v212:=zeroValue416
 t213:=underlying417
 a213:=isAgg417
 z213:=sizeOf417
 t232:=underlying88
 a232:=isAgg88
 z232:=sizeOf88
 v232:=zeroValue88
 t233:=underlying171
 a233:=isAgg171
 z233:=sizeOf171
 v233:=zeroValue171
 g15:=by kernel_rfl
 g16:=by kernel_rfl
 g17:=by kernel_rfl
 g18:=by kernel_rfl
 g19:=by kernel_rfl
 t80:=underlying94
 a80:=isAgg94
 z80:=sizeOf94
 v80:=zeroValue94
 i0:=by kernel_rfl
 i2:=by kernel_rfl
 i3:=by kernel_rfl
 i4:=by kernel_rfl
 i5:=by kernel_rfl
 i9:=by kernel_rfl
 i20:=by kernel_rfl
 i21:=by kernel_rfl
 i37:=by kernel_rfl
 i46:=by kernel_rfl
 i51:=by kernel_rfl
 i53:=by kernel_rfl
 i75:=by kernel_rfl
 i80:=by kernel_rfl
 i85:=by kernel_rfl
 i127:=by kernel_rfl
 i143:=by kernel_rfl
 i145:=by kernel_rfl
 i167:=by kernel_rfl
 i168:=by kernel_rfl
 i171:=by kernel_rfl
 i173:=by kernel_rfl
 i175:=by kernel_rfl
 i210:=by kernel_rfl
 i212:=by kernel_rfl
 i232:=by kernel_rfl
 i233:=by kernel_rfl
 m15:=by kernel_rfl
 m16:=by kernel_rfl
 m17:=by kernel_rfl
 m18:=by kernel_rfl
 m19:=by kernel_rfl
 c0:=by kernel_rfl
 c2:=by kernel_rfl
 c3:=by kernel_rfl
 c4:=by kernel_rfl
 c5:=by kernel_rfl
 c9:=by kernel_rfl
 c20:=by kernel_rfl
 c21:=by kernel_rfl
 c37:=by kernel_rfl
 c46:=by kernel_rfl
 c51:=by kernel_rfl
 c53:=by kernel_rfl
 c75:=by kernel_rfl
 c80:=by kernel_rfl
 c85:=by kernel_rfl
 c127:=by kernel_rfl
 c143:=by kernel_rfl
 c145:=by kernel_rfl
 c167:=by kernel_rfl
 c168:=by kernel_rfl
 c171:=by kernel_rfl
 c173:=by kernel_rfl
 c175:=by kernel_rfl
 c210:=by kernel_rfl
 c212:=by kernel_rfl
 c213:=by kernel_rfl
 c232:=by kernel_rfl
 c233:=by kernel_rfl
end Go.Proofs
namespace Go.W
def Zyd (t:ByteArray) (x:Tk) (p:Nat):Except (Int×Nat) (Int×Tk×Nat):=
 let p1:=if(Zac t).getD p 0=45 then p+1 else p
 let q:=Zce (Zac t) Za1 p1
 if q=p1\/(Zac t).getD p1 0=48/\(t.extract p q).toList≠[48]then .error (1,x.at_)else match Lib.parseIntB 64 (t.extract p q).data.toList with
 | .ok n=> .ok (n,x,q)
 | _=> .error (1,x.at_)
end Go.W
namespace Go.P
open Go.RowKit Go.Shelf Go.Lib Go.W
variable {a:Nat->Addr}{w:World}{s:ByteArray}
theorem Zwv (s:ByteArray)(hs:s.size<=8000)(v:Int)(h:Lib.parseIntB 64 s.data.toList= .ok v)(w:World):Calls prog 171 #[.string s,.int .i64 10,.int .i64 64] w fun e w'=>e= .returned (.tuple #[.int .i64 v,.nilIface])/\Below w.heap.size w w':=by
 refine(Any.strconv_ParseInt_10_at64_ok Tryz.laysInt s (by omega) v h w).mono ?_;rintro e w' ⟨rfl,rfl | ⟨t,rfl⟩⟩
 ·exact⟨rfl,Ydb _ _⟩
 ·exact⟨rfl,Lib.bytesWorld_below w _ t⟩
theorem Zwu (Z:Zao a w)(s:ByteArray)(hs:s.size<=8000)(h: ∀ v,Lib.parseIntB 64 s.data.toList≠ .ok v):Calls prog 171 #[.string s,.int .i64 10,.int .i64 64] w fun e w'=>(∃ v te pe,e= .returned (.tuple #[.int .i64 v,.iface te pe]))/\Below w.heap.size w w':=by
 obtain⟨_,h0,h1⟩:=Z;cases hp:Lib.parseIntB 64 s.data.toList with
 | ok v=>exact absurd hp (h v)
 | range=>
  obtain⟨te,pe,hc⟩:=h0.rng;refine(Any.strconv_ParseInt_10_at64_range Tryz.laysInt s (by omega) hp _ w ((h1 _ _ (by decide)).2.trans hc) (Or.inr ⟨te,pe,rfl⟩)).mono ?_;rintro e w' ⟨N,rfl,-,-,hb⟩;exact⟨⟨_,_,_,rfl⟩,hb⟩
 | _=>
  obtain⟨te,pe,hc⟩:=h0.syn;refine(Any.strconv_ParseInt_10_at64_syntax Tryz.laysInt s (by omega) hp _ w ((h1 _ _ (by decide)).2.trans hc) (Or.inr ⟨te,pe,rfl⟩)).mono ?_;rintro e w' ⟨N,rfl,-,-,hb⟩;exact⟨⟨_,_,_,rfl⟩,hb⟩
theorem Yax (h:0 < s.size):(s.toList==[])=false:=by
 rw[Ye4];intro h0
 have:=Zd7 s
 rw[h0]at this;simp at this;omega
theorem Z71 (h:s.size=0):(s.toList==[])=true:=by
 rw[Yfb];exact Yds ((Zd7 s).trans h)
theorem Zoo {b:Nat}{t:ByteArray}{p:Nat}{x:Tk}(Z:Zao a w)(h:Rd w b t p x):
  Calls prog 128 #[.pointer (some ⟨b,0,none⟩)] w (Ze6 a b t (fun _ v (y:Int)=>v= .int .i64 y) w (Zyd t x p)):=by
 have ht:=h.2.1;have hg:=h.2.2.2;have hp:=h.2.2.1;have CP:=Zaa (Zku h);have hl:=Zbm t;obtain⟨c0,c1,-,-,-,-,-,-,sf⟩:=h.1.eight;have H:=Zaa h;have ZZ:=Zaa Z;have GI:Box ((Zac t).getD p 0=45->p < t.size):=⟨fun hh=>Zr6 (by omega)⟩;obtain⟨p1,hp1⟩: ∃ p1,(if(Zac t).getD p 0=45 then p+1 else p)=p1:=⟨_,rfl⟩;have F:Box (Zyd t x p=if Zce (Zac t) Za1 p1=p1\/(Zac t).getD p1 0=48/\(t.extract p (Zce (Zac t) Za1 p1)).toList≠[48]then .error (1,x.at_)else match Lib.parseIntB 64 (t.extract p (Zce (Zac t) Za1 p1)).data.toList with
  | .ok n=> .ok (n,x,Zce (Zac t) Za1 p1)
  | _=> .error (1,x.at_)):=⟨by rw[<- hp1];rfl⟩
 have hp1l:p<=p1/\p1<=t.size:=by
  have:=GI.out
  split at hp1 <;> omega
 have hs:=Zkz (bs:=Zac t) (ok:=Za1) (p:=p1) (by omega);have CR:=Zaa (fun u (hu:Rd u b t p1 x)=>Zoq Zt8 hu);have BY:Box (∀ q,q<=t.size->p1 < q->(Zac (t.extract p1 q)).getD 0 0=(Zac t).getD p1 0):=⟨fun q h1 h2=>Ztg (j:=0) h1 (by omega)⟩;generalize Zce (Zac t) Za1 p1=q at*;have hz0:(t.extract p1 q).size=q - p1:=by rw[Yeh];omega
 have hz:(t.extract p q).size=q - p:=by rw[Yeh];omega
 clear h Z;go_in
 go_wp2_with fail
 refine mq CP.out ?_;rintro w1 hb;have ZA:=Zaa (ZZ.out.below hb);have HK:=Zaa ((Zah.refl b w).ofBelow hb);have hr:=H.out.of hb;have HR:=Zaa hr;clear c0 c1 sf CP H ZZ;obtain⟨c0,c1,-,-,-,-,-,-,sf⟩:=hr.1.eight;clear hr hb;generalize (Zac t).getD p 0=c at*;by_cases hc:c=45
 case' pos=>
  have g1:((c:Int)==45)=true:=by rw[Yfb];omega
  have hpl:=GI.out hc;rw[if_pos hc]at hp1;have HRP:Box (Rd (w1.setCell ⟨b,1,none⟩ (.int .i64 ((p:Int)+1))) b t p1 x):=⟨by rw[<- hp1];exact HR.out.next hpl⟩;have HKP:Box (Zah b w1 (w1.setCell ⟨b,1,none⟩ (.int .i64 ((p:Int)+1)))):=⟨(Zah.refl b w1).set _ _⟩;clear GI hc hp1;go_wp2_with fail
 case' neg=>
  have g1:((c:Int)==45)=false:=by rw[Ye4];omega
  rw[if_neg hc]at hp1;have HRP:Box (Rd w1 b t p1 x):=⟨by rw[<- hp1];exact HR.out⟩;have HKP:Box (Zah b w1 w1):=⟨Zah.refl b w1⟩;clear GI hc hp1;go_wp2_with fail
 all_goals
  refine(CR.out _ HRP.out).mono ?_;rintro e w2 ⟨rfl,hk2,hr2⟩;have ZB:=Zaa (ZA.out.keeps (HKP.out.trans hk2) hg);have HK2:=Zaa ((HK.out.trans HKP.out).trans hk2);have HR2:=Zaa hr2;have C1:=Zaa (fun u (hu:Rd u b t q x)=>Zbf a (n:=1) (by decide) hu);clear c0 c1 sf;obtain⟨d0,d1,-,-,-,-,-,-,sf2⟩:=hr2.1.eight;have z1:=ZB.out.c1;clear hk2 hr2 CR HRP HKP HR;have BY:=BY.out q (by omega);generalize t.extract p1 q=s0 at*;generalize (Zac t).getD p1 0=d at*;have CI:=Zaa (fun s (hs:s.size<=8000) v (h:Lib.parseIntB 64 s.data.toList= .ok v) u=>Zwv s hs v h u);have CJ:=Zaa (fun u (Z:Zao a u) s (hs:s.size<=8000) (h: ∀ v,Lib.parseIntB 64 s.data.toList≠ .ok v)=>Zwu Z s hs h);go_wp2
  go_quiet (fail)
  have ZC:=Zaa (ZB.out.below (Zb6 (n:=nq) (Ydb _ w2)));generalize t.extract p q=s at*;by_cases hq1:q=p1
  ·have Y:Box (Zyd t x p= .error (1,x.at_)):=⟨by rw[F.out,if_pos (Or.inl hq1)]⟩;have e1:(s0.toList==[])=true:=Z71 (by omega);clear BY hq1;go_wp2_with fail
   refine(C1.out _ (HR2.out.dr _)).mono ?_;rintro e w3 ⟨⟨L,hL,rfl,hB⟩,hb⟩;exact⟨rfl,(HK2.out.dr _).ofBelow hb,Or.inl ⟨1,_,Y.out,by decide,L,Ydc HK2.out.size hL,rfl,hB⟩⟩
  have e1:(s0.toList==[])=false:=Yax (by omega);have h0:0 < s0.size:=by omega
  have hx0:=(Zhm s0 0 h0).trans (BY (by omega));by_cases h48:d=48/\s.toList≠[48]
  ·have Y:Box (Zyd t x p= .error (1,x.at_)):=⟨by rw[F.out,if_pos (Or.inr h48)]⟩;have g4:((d:Int)==48)=true:=by rw[Yfb];omega
   have g5:(s.toList==[48])=false:=by rw[Ye4];exact h48.2
   clear h48;go_wp2_with fail
   refine(C1.out _ (HR2.out.dr _)).mono ?_;rintro e w3 ⟨⟨L,hL,rfl,hB⟩,hb⟩;exact⟨rfl,(HK2.out.dr _).ofBelow hb,Or.inl ⟨1,_,Y.out,by decide,L,Ydc HK2.out.size hL,rfl,hB⟩⟩
  have F2:=Zaa (F.out.trans (if_neg (by rintro(z | z);exact hq1 z;exact h48 z)));have GG:((d:Int)==48)=false\/((d:Int)==48)=true/\(s.toList==[48])=true:=by
   by_cases hd:d=48
   ·right
    exact⟨by rw[Yfb];omega,by rw[Yfb];exact Decidable.byContradiction fun hh=>h48 ⟨hd,hh⟩⟩
   ·left
    rw[Ye4];omega
  have hz8:s.size<=8000:=by omega
  by_cases hv: ∃ v,Lib.parseIntB 64 s.data.toList= .ok v
  ·obtain⟨v,hv⟩:=hv;have Y:Box (Zyd t x p= .ok (v,x,q)):=⟨by rw[F2.out,hv]⟩;have C:=Zaa (CI.out s hz8 v hv);clear h48 hv F F2 CI CJ C1;rcases GG with ga | ⟨ga,gb⟩;all_goals
    go_wp2_with fail
    refine(C.out _).mono ?_;rintro e w3 ⟨rfl,hb⟩;have R:=Zaa (Yda ((HK2.out.dr nq).ofBelow hb) ((HR2.out.dr nq).of hb));clear hb;go_wp2
    go_ret
    exact⟨R.out.1,Or.inr ⟨_,v,x,q,Y.out,rfl,by simp,R.out.2⟩⟩
  ·have Y:Box (Zyd t x p= .error (1,x.at_)):=⟨by
    rw[F2.out];split
    ·rename_i n hn;exact absurd ⟨n,hn⟩ hv
    ·rfl⟩
   have C:=Zaa (CJ.out _ ZC.out s hz8 fun v h=>hv ⟨v,h⟩);clear h48 hv F F2 CI CJ;rcases GG with ga | ⟨ga,gb⟩;all_goals
    go_wp2_with fail
    refine C.out.mono ?_;rintro e w3 ⟨⟨v,te,pe,rfl⟩,hb⟩;have HK3:=Zaa ((HK2.out.dr nq).ofBelow hb);have HR3:=Zaa ((HR2.out.dr nq).of hb);have z1:=(ZC.out.below hb).c1;clear hb d0 d1 sf2;go_wp2_with fail
    refine(C1.out _ HR3.out).mono ?_;rintro e w4 ⟨⟨L,hL,rfl,hB⟩,hb⟩;exact⟨rfl,HK3.out.ofBelow hb,Or.inl ⟨1,_,Y.out,by decide,L,Ydc HK3.out.size hL,rfl,hB⟩⟩
end Go.P
