import Derived.Test.YtghnjdpgbldlkaaGreatDoorW14
set_option maxRecDepth 100000
set_option maxHeartbeats 8000000
set_option linter.unusedSimpArgs false
open Go.Proofs Go.RowKit Go.W Tryz
namespace Go.W
def oI:Ms:=⟨fun k=>((oH.getD k 0:Nat):Int),fun _=>0,0⟩
def JS (ts:List ByteArray):Ms×Int:=ts.foldl (fun p t=>(KN p.1 t.data.toList,IntKind.u64.wrap<|p.2+(t.size:Int))) (oI,0)
end Go.W
namespace Go.P
variable {a:Nat->Addr}{w:World}{ts:List ByteArray}
def FZ (ts:List ByteArray):List UInt8:=PG (JS ts).1 (JS ts).2
def Us (w:World) (p:Option Addr) (ts:List ByteArray):Prop:= ∀ i t,ts[i]?=some t->t.size<1000000000/\ ∃ b o,p=some ⟨b,o,none⟩/\b<w.heap.size/\w.cell? ⟨b,o+i,none⟩=some (.string t)
theorem Aa.start (h:Aa a w)(i:Nat)(hi:i<8):w.cell? ⟨11,i,none⟩=some (.int .u32<|oI.ws i):=by
 obtain⟨_,h0,h1⟩:=h;have hl:i<oH.length:=hi;exact(h1 _ _ zu).2.trans<|h0.start i _ (by rw[List.getD,DK hl];rfl)
noncomputable def Um (S:Nat->Int):Array Value:=((((((((zeroCells230.setIfInBounds 0<|.int .u32<|S 0).setIfInBounds 1<|.int .u32<|S 1).setIfInBounds 2<|.int .u32<|S 2).setIfInBounds 3<|.int .u32<|S 3).setIfInBounds 4<|.int .u32<|S 4).setIfInBounds 5<|.int .u32<|S 5).setIfInBounds 6<|.int .u32<|S 6).setIfInBounds 7<|.int .u32<|S 7)
theorem Ze (S:Nat->Int):Um S=(([.int .u32<|S 0,.int .u32<|S 1,.int .u32<|S 2,.int .u32<|S 3,.int .u32<|S 4,.int .u32<|S 5,.int .u32<|S 6,.int .u32<|S 7]:List Value)++List.replicate 64 (Value.int .u8 0)++([.int .i64 0,.int .u64 0]:List Value)).toArray:=zt
theorem Z55 {b:Nat}{S:Nat->Int}(h:AJ w b (Um S) 230):Mx w b S (fun _=>0) 0 0:=by
 refine⟨_,h,by rw[Ze];simp,fun k hk=>?_,fun k hk=>?_,by rw[Ze];simp,by rw[Ze];simp⟩
 ·rw[Ze,Qz,GY,Q0 (by simpa using hk)];have g:k=0\/k=1\/k=2\/k=3\/k=4\/k=5\/k=6\/k=7:=zx
  rcases g with rfl | rfl | rfl | rfl | rfl | rfl | rfl | rfl <;> rfl
 ·rw[Ze,Qz,GY,Q7 zw,Q0 (by simp;omega)];rw[List.getElem?_replicate,if_pos (by simp;omega)]
theorem Zpg (s:Ms)(m:Int):(PG s m).length=32:=by unfold PG;simp
theorem Z9g {k:Nat}{t:ByteArray}(h:ts[k]?=some t):JS (ts.take<|k+1)=(KN (JS<|ts.take k).1 t.data.toList,IntKind.u64.wrap<|(JS<|ts.take k).2+(t.size:Int)):=by
 have e1:ts.take (k+1)=ts.take k++[t]:=by rw[PR,h];rfl
 rw[e1];unfold JS;rw[List.foldl_append];rfl
def Yfe (b:Nat) (W:World) (ts:List ByteArray) (iv:Value) (wr:World):Prop:= ∃ k:Nat,k<=ts.length/\iv= .int .i64 (k:Int)/\Mx wr b (JS<|ts.take k).1.ws (JS<|ts.take k).1.hs (JS<|ts.take k).1.n (JS<|ts.take k).2/\(JS<|ts.take k).1.n<64/\Ac b W wr
theorem oJ {p:Option Addr}{c:Nat}(Z:Aa a w)(hT:Us w p ts)(hl:ts.length<1000000000):Calls prog 75 #[.slice p ts.length c] w fun e w'=>e= .returned (Ha<|FZ ts)/\Bl w w':=by
 have hz:=Z.size;have x0:=Z.start 0 zu;have x1:=Z.start 1 zu;have x2:=Z.start 2 zu;have x3:=Z.start 3 zu;have x4:=Z.start 4 zu;have x5:=Z.start 5 zu;have x6:=Z.start 6 zu;have x7:=Z.start 7 zu;obtain⟨S,hS⟩: ∃ S,AC (oI.ws=S):=⟨_,⟨rfl⟩⟩;rw[hS.out]at x0 x1 x2 x3 x4 x5 x6 x7;have ZW:=AA Z;have HT:=AA hT;clear Z hT;go_in
 have pq:11<w.heap.size:=zx
 have Ew:AJ ((w.alloc<|.cells Bi 111).alloc<|.cells zeroCells230 230) (w.heap.size+1) zeroCells230 230:=by
  have:=AJ.new (w.alloc<|.cells Bi 111) zeroCells230 230
  simpa using this
 have d9:(Um S).size=zeroCells230.size:=by simp[Um]
 have eY:(prog.info? 230).map (·.size)=some (Um S).size:=by rw[Ze];kernel_rfl
 have Wi:(Um S).all (·.oneCell')=true:=by rw[Ze];kernel_rfl
 go_wp2_with (first | (refine Jp rfl 230 (.tmp 3) (.tmp 7) rfl (w.heap.size+1) (Um S) rfl rfl 230 zeroCells230 Ew eY d9 Wi ?_))
 obtain⟨W,hW⟩: ∃ W,W=((w.alloc<|.cells Bi 111).alloc<|.cells zeroCells230 230).setRow (w.heap.size+1) (Um S):=⟨_,rfl⟩;have Kv:=Gj _ _ _ (Um S) _ _ Ew;rw[<- hW]at Kv;have hMx:AC (Mx W (w.heap.size+1) oI.ws (fun _=>0) 0 0):=⟨by rw[hS.out];exact Z55 Kv⟩;have RL:AC (W.heap.size=w.heap.size+2):=⟨by rw[hW,ET];simp⟩;have hbl:AC (Bl w W):=⟨by
  have h2:=((AQ w.heap.size w).alloc lr<|.cells Bi 111).alloc zw<|.cells zeroCells230 230;rw[hW];exact⟨h2.os,h2.tape,h2.output,by rw[ET];exact h2.size,fun j hj=>(Db _ _ j _ zx).trans (h2.block j hj)⟩⟩
 have Vg:AC (AJ W w.heap.size Bi 111):=⟨by
  rw[hW];exact(AJ.of (AJ.alloc (AJ.new w Bi 111) _)<|Db _ _ _ _ zx)⟩
 change Code.wp _ _ _ _ (((w.alloc<|.cells Bi 111).alloc<|.cells zeroCells230 230).setRow (w.heap.size+1)<|Um S);rw[<- hW];clear hW Kv Ew d9 eY Wi x0 x1 x2 x3 x4 x5 x6 x7;obtain⟨n,hn⟩: ∃ n,AC (ts.length=n):=⟨_,⟨rfl⟩⟩;rw[hn.out];generalize Value.agg _=v6;generalize Value.agg _=v7;go_loopw [10] (fun iv wr=>Yfe (w.heap.size+1) W ts iv wr) (fun iv _=>ts.length-(intOf iv).toNat)
 case atStart=>exact⟨0,zx,rfl,hMx.out,(show(0:Nat)<64 by decide),Ac.refl _ W⟩
 case round=>
  obtain⟨k,hk,rfl,hM,G8,hK⟩:=hrel;have HZ:=AA<|(ZW.out.below hbl.out).keeps hK zx;by_cases hlt:k<n
  ·have g:(k:Int)<(n:Int):=zx
   obtain⟨t,ht⟩: ∃ t,ts[k]?=some t:=⟨ts[k]'(by have:=hn.out;omega),DK _⟩;obtain⟨JV,b,o,rfl,AX,hc⟩:=HT.out k t ht;have hc1:wr.cell? ⟨b,o+k,none⟩=some (.string t):=((Am (a:=⟨b,o+k,none⟩)<|hK.block b (by have:=RL.out;omega) zx).trans<|hbl.out.cell (p:=⟨b,o+k,none⟩) AX).trans hc;have CA:=AA<|Z87 (t:=t) HZ.out zx hM G8 JV;have E:=AA<|Z9g ht;have HK:=AA hK;clear hM hK ht hc G8;go_wp2_with fail
   refine CA.out.mono ?_;rintro e w2 ⟨rfl,hk2,S8,II⟩;have H2:=AA<|AF S8<|AF II<|HK.out.trans hk2;clear hk2 S8 II CA;go_wp2_with fail
   refine⟨⟨k+1,by have:=hn.out;omega,zw,?_⟩,by simp[intOf];have:=hn.out;omega⟩;rw[E.out];exact H2.out
  ·obtain rfl:k=n:=by have:=hn.out;omega
   rw[<- hn.out,JQ]at hM G8;have CE:=AA<|Z89 HZ.out zx hM G8;have HK:=AA hK;have HL:=Vg.out.of<|hK.block _ (by have:=RL.out;omega) zx;clear hM G8 hK;go_wp2_with fail
   refine mq CE.out ?_;rintro w2 hk2;have hs:(Lib.byteCells<|PG (JS ts).1 (JS ts).2).toArray.size=32:=by rw[E9,Lib.byteCells_length,Zpg]
   have C9:(Lib.byteCells<|PG (JS ts).1 (JS ts).2).toArray.all (·.oneCell')=true:=by
    rw[List.all_toArray,UI];exact Lib.byteCells_one _
   have VT:(prog.info? 111).map (·.size)=some (Lib.byteCells<|PG (JS ts).1 (JS ts).2).toArray.size:=by rw[hs];kernel_rfl
   have Xo:=HL.of<|hk2.block _ HL.lt zx;have HE:AC (Ha (PG (JS ts).1 (JS ts).2)=Ha (FZ ts)):=⟨rfl⟩;unfold Ha;obtain⟨vs,Gy⟩: ∃ vs,AC ((Lib.byteCells<|PG (JS ts).1 (JS ts).2).toArray=vs):=⟨_,⟨rfl⟩⟩;rw[Gy.out]at hs C9 VT⊢;go_wp2_with (first | (refine Jp rfl 111 (.tmp 2) (.tmp 17) rfl w.heap.size vs rfl rfl 111 Bi Xo VT (by first | exact hs | exact hs.symm) C9 ?_))
   refine CQ (results_cell_row (p:=2) (ty:=111) rfl _ _ w.heap.size 111 vs (0,0) _ rfl (Gj w2 _ Bi vs _ _ Xo) underlying111 rfl VT) rfl ?_;have hk:=HK.out.trans hk2;refine⟨by rw[<- Gy.out];rfl,⟨hk.os.trans hbl.out.os,hk.tape.trans hbl.out.tape,hk.output.trans hbl.out.output,by rw[ET];have:=hk.size;have:=RL.out;omega,fun j hj=>(Db w2 _ j vs zx).trans ((hk.block j (by have:=RL.out;omega) zx).trans<|hbl.out.block j hj)⟩⟩
end Go.P
