import Derived.Test.YtaoiihbjdonaoaaGreatDoorW11
set_option maxRecDepth 100000
set_option maxHeartbeats 8000000
set_option linter.unusedSimpArgs false
open Go.Proofs Go.RowKit Go.W Tryz
namespace Go.W
def wV:Ms:=⟨fun k=>((pU.getD k 0:Nat):Int),fun _=>0,0⟩
def Lm (ts:List ByteArray):Ms×Int:=ts.foldl (fun p t=>(Nl p.1 t.data.toList,IntKind.u64.wrap<|p.2+(t.size:Int))) (wV,0)
end Go.W
namespace Go.P
variable {a:Nat->Addr}{w:World}{ts:List ByteArray}
def Ez (ts:List ByteArray):List UInt8:=SH (Lm ts).1 (Lm ts).2
def IV (w:World) (p:Option Addr) (ts:List ByteArray):Prop:= ∀ i t,ts[i]?=some t->t.size<1000000000/\ ∃ b o,p=some (zm b o)/\b<w.heap.size/\w.cell? (zm b (o+i))=some (.string t)
theorem AZ.start (h:AZ a w)(i:Nat)(hi:i<8):w.cell? (zm 11 i)=some (.int .u32<|wV.ws i):=by
 obtain⟨_,h0,h1⟩:=h;have hl:i<pU.length:=hi;exact(h1 _ _ zu).2.trans<|h0.start i _ (by rw[List.getD,A8 hl];rfl)
noncomputable def Xn (S:Nat->Int):Array Value:=((((((((zeroCells231.setIfInBounds 0<|.int .u32<|S 0).setIfInBounds 1<|.int .u32<|S 1).setIfInBounds 2<|.int .u32<|S 2).setIfInBounds 3<|.int .u32<|S 3).setIfInBounds 4<|.int .u32<|S 4).setIfInBounds 5<|.int .u32<|S 5).setIfInBounds 6<|.int .u32<|S 6).setIfInBounds 7<|.int .u32<|S 7)
theorem gF (S:Nat->Int):Xn S=(([.int .u32<|S 0,.int .u32<|S 1,.int .u32<|S 2,.int .u32<|S 3,.int .u32<|S 4,.int .u32<|S 5,.int .u32<|S 6,.int .u32<|S 7]:List Value)++List.replicate 64 (Value.int .u8 0)++([zo 0,.int .u64 0]:List Value)).toArray:=zt
theorem Z9q {b:Nat}{S:Nat->Int}(h:AO w b (Xn S) 231):Mx w b S (fun _=>0) 0 0:=by
 refine⟨_,h,by rw[gF];simp,fun k hk=>?_,fun k hk=>?_,by rw[gF];simp,by rw[gF];simp⟩
 ·rw[gF,Tu,JB,PK (by simpa using hk)];have g:k=0\/k=1\/k=2\/k=3\/k=4\/k=5\/k=6\/k=7:=zx
  rcases g with rfl | rfl | rfl | rfl | rfl | rfl | rfl | rfl <;> rfl
 ·rw[gF,Tu,JB,PL zw,PK (by simp;omega)];rw[List.getElem?_replicate,if_pos (by simp;omega)]
theorem Zql (s:Ms)(m:Int):(SH s m).length=32:=by unfold SH;simp
theorem Yc3 {k:Nat}{t:ByteArray}(h:ts[k]?=some t):Lm (ts.take<|k+1)=(Nl (Lm<|ts.take k).1 t.data.toList,IntKind.u64.wrap<|(Lm<|ts.take k).2+(t.size:Int)):=by
 have e1:ts.take (k+1)=ts.take k++[t]:=by rw[PM,h];rfl
 rw[e1];unfold Lm;rw[List.foldl_append];rfl
def Yjl (b:Nat) (W:World) (ts:List ByteArray) (iv:Value) (wr:World):Prop:= ∃ k:Nat,k<=ts.length/\iv= zo (k:Int)/\Mx wr b (Lm<|ts.take k).1.ws (Lm<|ts.take k).1.hs (Lm<|ts.take k).1.n (Lm<|ts.take k).2/\(Lm<|ts.take k).1.n<64/\Ad b W wr
theorem wY {p:Option Addr}{c:Nat}(Z:AZ a w)(hT:IV w p ts)(hl:ts.length<1000000000):Calls prog 81 #[.slice p ts.length c] w fun e w'=>e= .returned (Ip<|Ez ts)/\Bl w w':=by
 have hz:=Z.size;have x0:=Z.start 0 zu;have x1:=Z.start 1 zu;have x2:=Z.start 2 zu;have x3:=Z.start 3 zu;have x4:=Z.start 4 zu;have x5:=Z.start 5 zu;have x6:=Z.start 6 zu;have x7:=Z.start 7 zu;obtain⟨S,hS⟩: ∃ S,AF (wV.ws=S):=⟨_,⟨rfl⟩⟩;rw[hS.out]at x0 x1 x2 x3 x4 x5 x6 x7;have ZW:=AC Z;have HT:=AC hT;clear Z hT;go_in
 have J9:11<w.heap.size:=zx
 have Na:AO ((w.alloc<|.cells Bj 80).alloc<|.cells zeroCells231 231) (w.heap.size+1) zeroCells231 231:=by
  have:=AO.new (w.alloc<|.cells Bj 80) zeroCells231 231
  simpa using this
 have mf:(Xn S).size=zeroCells231.size:=by simp[Xn]
 have nJ:(prog.info? 231).map (·.size)=some (Xn S).size:=by rw[gF];kernel_rfl
 have aF:(Xn S).all (·.oneCell')=true:=by rw[gF];kernel_rfl
 go_wp2_with (first | (refine Ij rfl 231 (.tmp 3) (.tmp 7) rfl (w.heap.size+1) (Xn S) rfl rfl 231 zeroCells231 Na nJ mf aF ?_))
 obtain⟨W,hW⟩: ∃ W,W=((w.alloc<|.cells Bj 80).alloc<|.cells zeroCells231 231).setRow (w.heap.size+1) (Xn S):=⟨_,rfl⟩;have OZ:=GM _ _ _ (Xn S) _ _ Na;rw[<- hW]at OZ;have hMx:AF (Mx W (w.heap.size+1) wV.ws (fun _=>0) 0 0):=⟨by rw[hS.out];exact Z9q OZ⟩;have VG:AF (W.heap.size=w.heap.size+2):=⟨by rw[hW,Ef];simp⟩;have hbl:AF (Bl w W):=⟨by
  have h2:=((AR w.heap.size w).alloc lr<|.cells Bj 80).alloc zw<|.cells zeroCells231 231;rw[hW];exact⟨h2.os,h2.tape,h2.output,by rw[Ef];exact h2.size,fun j hj=>(Db _ _ j _ zx).trans (h2.block j hj)⟩⟩
 have Yr:AF (AO W w.heap.size Bj 80):=⟨by
  rw[hW];exact(AO.of (AO.alloc (AO.new w Bj 80) _)<|Db _ _ _ _ zx)⟩
 change Code.wp _ _ _ _ (((w.alloc<|.cells Bj 80).alloc<|.cells zeroCells231 231).setRow (w.heap.size+1)<|Xn S);rw[<- hW];clear hW OZ Na mf nJ aF x0 x1 x2 x3 x4 x5 x6 x7;obtain⟨n,hn⟩: ∃ n,AF (ts.length=n):=⟨_,⟨rfl⟩⟩;rw[hn.out];generalize Value.agg _=v6;generalize Value.agg _=v7;go_loopw [10] (fun iv wr=>Yjl (w.heap.size+1) W ts iv wr) (fun iv _=>ts.length-(intOf iv).toNat)
 case atStart=>exact⟨0,zx,rfl,hMx.out,(show(0:Nat)<64 by decide),Ad.refl _ W⟩
 case round=>
  obtain⟨k,hk,rfl,hM,NM,hK⟩:=hrel;have HZ:=AC<|(ZW.out.below hbl.out).keeps hK zx;by_cases hlt:k<n
  ·have g:(k:Int)<(n:Int):=zx
   obtain⟨t,ht⟩: ∃ t,ts[k]?=some t:=⟨ts[k]'(by have:=hn.out;omega),A8 _⟩;obtain⟨JW,b,o,rfl,Af,hc⟩:=HT.out k t ht;have hc1:wr.cell? (zm b (o+k))=some (.string t):=((A9 (a:=(zm b (o+k)))<|hK.block b (by have:=VG.out;omega) zx).trans<|hbl.out.cell (p:=(zm b (o+k))) Af).trans hc;have CA:=AC<|Ycs (t:=t) HZ.out zx hM NM JW;have E:=AC<|Yc3 ht;have HK:=AC hK;clear hM hK ht hc NM;go_wp2_with fail
   refine CA.out.mono ?_;rintro e w2 ⟨rfl,hk2,Jp,Hl⟩;have H2:=AC<|AJ Jp<|AJ Hl<|HK.out.trans hk2;clear hk2 Jp Hl CA;go_wp2_with fail
   refine⟨⟨k+1,by have:=hn.out;omega,zw,?_⟩,by simp[intOf];have:=hn.out;omega⟩;rw[E.out];exact H2.out
  ·obtain rfl:k=n:=by have:=hn.out;omega
   rw[<- hn.out,On]at hM NM;have CE:=AC<|Ycu HZ.out zx hM NM;have HK:=AC hK;have HL:=Yr.out.of<|hK.block _ (by have:=VG.out;omega) zx;clear hM NM hK;go_wp2_with fail
   refine mq CE.out ?_;rintro w2 hk2;have hs:(Lib.byteCells<|SH (Lm ts).1 (Lm ts).2).toArray.size=32:=by rw[GN,Lib.byteCells_length,Zql]
   have Bw:(Lib.byteCells<|SH (Lm ts).1 (Lm ts).2).toArray.all (·.oneCell')=true:=by
    rw[List.all_toArray,SI];exact Lib.byteCells_one _
   have YV:(prog.info? 80).map (·.size)=some (Lib.byteCells<|SH (Lm ts).1 (Lm ts).2).toArray.size:=by rw[hs];kernel_rfl
   have iI:=HL.of<|hk2.block _ HL.lt zx;have HE:AF (Ip (SH (Lm ts).1 (Lm ts).2)=Ip (Ez ts)):=⟨rfl⟩;unfold Ip;obtain⟨vs,UI⟩: ∃ vs,AF ((Lib.byteCells<|SH (Lm ts).1 (Lm ts).2).toArray=vs):=⟨_,⟨rfl⟩⟩;rw[UI.out]at hs Bw YV⊢;go_wp2_with (first | (refine Ij rfl 80 (.tmp 2) (.tmp 17) rfl w.heap.size vs rfl rfl 80 Bj iI YV (by first | exact hs | exact hs.symm) Bw ?_))
   refine Bg (results_cell_row (p:=2) (ty:=80) rfl _ _ w.heap.size 80 vs (0,0) _ rfl (GM w2 _ Bj vs _ _ iI) underlying80 rfl YV) rfl ?_;have hk:=HK.out.trans hk2;refine⟨by rw[<- UI.out];rfl,⟨hk.os.trans hbl.out.os,hk.tape.trans hbl.out.tape,hk.output.trans hbl.out.output,by rw[Ef];have:=hk.size;have:=VG.out;omega,fun j hj=>(Db w2 _ j vs zx).trans ((hk.block j (by have:=VG.out;omega) zx).trans<|hbl.out.block j hj)⟩⟩
end Go.P
