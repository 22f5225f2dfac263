import Derived.Test.YtgnakaplmhmdcaaGreatDoorW17
set_option maxRecDepth 100000
set_option maxHeartbeats 8000000
set_option linter.unusedSimpArgs false
open Go.Proofs Go.RowKit Go.W
namespace Go.W
def Zyr:Ms:=⟨fun k=>((Zx6.getD k 0:Nat):Int),fun _=>0,0⟩
def ofM (ts:List ByteArray):Ms×Int:=ts.foldl (fun p t=>(Zg5 p.1 t.data.toList,IntKind.u64.wrap (p.2+(t.size:Int)))) (Zyr,0)
end Go.W
namespace Go.P
variable {a:Nat->Addr}{w:World}{ts:List ByteArray}
def ofB (ts:List ByteArray):List UInt8:=Zwn (ofM ts).1 (ofM ts).2
def Zgh (w:World) (p:Option Addr) (ts:List ByteArray):Prop:= ∀ i t,ts[i]?=some t->t.size < 1000000000/\ ∃ b o,p=some ⟨b,o,none⟩/\b < w.heap.size/\w.cell? ⟨b,o+i,none⟩=some (.string t)
theorem Zap.start (h:Zap a w)(i:Nat)(hi:i < 8):w.cell? ⟨11,i,none⟩=some (.int .u32 (Zyr.ws i)):=by
 obtain⟨_,h0,h1⟩:=h;have hl:i < Zx6.length:=hi;exact(h1 _ _ (by decide)).2.trans (h0.start i _ (by rw[List.getD,Yc0 hl];rfl))
noncomputable def Zjc (S:Nat->Int):Array Value:=((((((((Tryz.zeroCells240.setIfInBounds 0 (.int .u32 (S 0))).setIfInBounds 1 (.int .u32 (S 1))).setIfInBounds 2 (.int .u32 (S 2))).setIfInBounds 3 (.int .u32 (S 3))).setIfInBounds 4 (.int .u32 (S 4))).setIfInBounds 5 (.int .u32 (S 5))).setIfInBounds 6 (.int .u32 (S 6))).setIfInBounds 7 (.int .u32 (S 7)))
theorem Zfr (S:Nat->Int):Zjc S=(([.int .u32 (S 0),.int .u32 (S 1),.int .u32 (S 2),.int .u32 (S 3),.int .u32 (S 4),.int .u32 (S 5),.int .u32 (S 6),.int .u32 (S 7)]:List Value)++List.replicate 64 (Value.int .u8 0)++([.int .i64 0,.int .u64 0]:List Value)).toArray:=by kernel_rfl
theorem Z20 {b:Nat}{S:Nat->Int}(h:Blk w b (Zjc S) 240):Mx w b S (fun _=>0) 0 0:=by
 refine⟨_,h,by rw[Zfr];simp,fun k hk=>?_,fun k hk=>?_,by rw[Zfr];simp,by rw[Zfr];simp⟩
 ·rw[Zfr,Ydq,Yc8,Ydm (by simpa using hk)];have g:k=0\/k=1\/k=2\/k=3\/k=4\/k=5\/k=6\/k=7:=by omega
  rcases g with rfl | rfl | rfl | rfl | rfl | rfl | rfl | rfl <;> rfl
 ·rw[Zfr,Ydq,Yc8,Ydj (by simp),Ydm (by simp;omega)];rw[List.getElem?_replicate,if_pos (by simp;omega)]
theorem Znu (s:Ms)(m:Int):(Zwn s m).length=32:=by unfold Zwn;simp
theorem Z5q {k:Nat}{t:ByteArray}(h:ts[k]?=some t):ofM (ts.take (k+1))=(Zg5 (ofM (ts.take k)).1 t.data.toList,IntKind.u64.wrap ((ofM (ts.take k)).2+(t.size:Int))):=by
 have e1:ts.take (k+1)=ts.take k++[t]:=by rw[Yea,h];rfl
 rw[e1];unfold ofM;rw[List.foldl_append];rfl
def Ybt (b:Nat) (W:World) (ts:List ByteArray) (iv:Value) (wr:World):Prop:= ∃ k:Nat,k<=ts.length/\iv= .int .i64 (k:Int)/\Mx wr b (ofM (ts.take k)).1.ws (ofM (ts.take k)).1.hs (ofM (ts.take k)).1.n (ofM (ts.take k)).2/\(ofM (ts.take k)).1.n < 64/\Zaf b W wr
theorem Zyv {p:Option Addr}{c:Nat}(Z:Zap a w)(hT:Zgh w p ts)(hl:ts.length < 1000000000):Calls Tryz.prog 85 #[.slice p ts.length c] w fun e w'=>e= .returned (Zlk (ofB ts))/\Below w.heap.size w w':=by
 have hz:=Z.size;have x0:=Z.start 0 (by decide);have x1:=Z.start 1 (by decide);have x2:=Z.start 2 (by decide);have x3:=Z.start 3 (by decide);have x4:=Z.start 4 (by decide);have x5:=Z.start 5 (by decide);have x6:=Z.start 6 (by decide);have x7:=Z.start 7 (by decide);obtain⟨S,hS⟩: ∃ S,Box (Zyr.ws=S):=⟨_,⟨rfl⟩⟩;rw[hS.out]at x0 x1 x2 x3 x4 x5 x6 x7;have ZW:=Zaa Z;have HT:=Zaa hT;clear Z hT;go_enter Tryz.func85,Tryz.ntmps85
 have hz':11 < w.heap.size:=by omega
 have hB1:Blk ((w.alloc (.cells Zaj 117)).alloc (.cells Tryz.zeroCells240 240)) (w.heap.size+1) Tryz.zeroCells240 240:=by
  have:=Blk.new (w.alloc (.cells Zaj 117)) Tryz.zeroCells240 240
  simpa using this
 have hsz0:(Zjc S).size=Tryz.zeroCells240.size:=by simp[Zjc]
 have hpi0:(Tryz.prog.info? 240).map (·.size)=some (Zjc S).size:=by rw[Zfr];kernel_rfl
 have hone0:(Zjc S).all (·.oneCell')=true:=by rw[Zfr];kernel_rfl
 go_wp2_with (first | (refine wpList_store_row rfl 240 (.tmp 3) (.tmp 7) rfl (w.heap.size+1) (Zjc S) rfl rfl 240 Tryz.zeroCells240 hB1 hpi0 hsz0 hone0 ?_))
 obtain⟨W,hW⟩: ∃ W,W=((w.alloc (.cells Zaj 117)).alloc (.cells Tryz.zeroCells240 240)).setRow (w.heap.size+1) (Zjc S):=⟨_,rfl⟩;have hBW:=setRow_heap _ _ _ (Zjc S) _ _ hB1;rw[<- hW]at hBW;have hMx:Box (Mx W (w.heap.size+1) Zyr.ws (fun _=>0) 0 0):=⟨by rw[hS.out];exact Z20 hBW⟩;have hsW:Box (W.heap.size=w.heap.size+2):=⟨by rw[hW,setRow_size];simp⟩;have hbl:Box (Below w.heap.size w W):=⟨by
  have h2:=((Yct w.heap.size w).alloc lr (.cells Zaj 117)).alloc (by simp) (.cells Tryz.zeroCells240 240);rw[hW];exact⟨h2.os,h2.tape,h2.output,by rw[setRow_size];exact h2.size,fun j hj=>(setRow_other _ _ j _ (by omega)).trans (h2.block j hj)⟩⟩
 have hL0:Box (Blk W w.heap.size Zaj 117):=⟨by
  rw[hW];exact(Blk.of (Blk.alloc (Blk.new w Zaj 117) _) (setRow_other _ _ _ _ (by omega)))⟩
 change Code.wp _ _ _ _ (((w.alloc (.cells Zaj 117)).alloc (.cells Tryz.zeroCells240 240)).setRow (w.heap.size+1) (Zjc S));rw[<- hW];clear hW hBW hB1 hsz0 hpi0 hone0 x0 x1 x2 x3 x4 x5 x6 x7;obtain⟨n,hn⟩: ∃ n,Box (ts.length=n):=⟨_,⟨rfl⟩⟩;rw[hn.out];generalize Value.agg _=v6;generalize Value.agg _=v7;go_loopw [10] (fun iv wr=>Ybt (w.heap.size+1) W ts iv wr) (fun iv _=>ts.length - (intOf iv).toNat)
 case atStart=>exact⟨0,by omega,rfl,hMx.out,(show(0:Nat) < 64 by decide),Zaf.refl _ W⟩
 case round=>
  obtain⟨k,hk,rfl,hM,hn1,hK⟩:=hrel;have HZ:=Zaa ((ZW.out.below hbl.out).keeps hK (by omega));by_cases hlt:k < n
  ·have g:(k:Int) < (n:Int):=by omega
   obtain⟨t,ht⟩: ∃ t,ts[k]?=some t:=⟨ts[k]'(by have:=hn.out;omega),Yc0 _⟩;obtain⟨htl,b,o,rfl,hbw,hc⟩:=HT.out k t ht;have hc1:wr.cell? ⟨b,o+k,none⟩=some (.string t):=((Ycw (a:=⟨b,o+k,none⟩) (hK.block b (by have:=hsW.out;omega) (by omega))).trans (hbl.out.cell (p:=⟨b,o+k,none⟩) hbw)).trans hc;have CA:=Zaa (Z5b (t:=t) HZ.out (by omega) hM hn1 htl);have E:=Zaa (Z5q ht);have HK:=Zaa hK;clear hM hK ht hc hn1;go_wp2_with fail
   refine CA.out.mono ?_;rintro e w2 ⟨rfl,hk2,hm2,hn2⟩;have H2:=Zaa (Ycs hm2 (Ycs hn2 (HK.out.trans hk2)));clear hk2 hm2 hn2 CA;go_wp2_with fail
   refine⟨⟨k+1,by have:=hn.out;omega,by simp,?_⟩,by simp[intOf];have:=hn.out;omega⟩;rw[E.out];exact H2.out
  ·obtain rfl:k=n:=by have:=hn.out;omega
   rw[<- hn.out,Yd2]at hM hn1;have CE:=Zaa (Z6g HZ.out (by omega) hM hn1);have HK:=Zaa hK;have HL:=hL0.out.of (hK.block _ (by have:=hsW.out;omega) (by omega));clear hM hn1 hK;go_wp2_with fail
   refine CE.out.mono ?_;rintro e w2 ⟨rfl,hk2⟩;have hs:(Lib.byteCells (Zwn (ofM ts).1 (ofM ts).2)).toArray.size=32:=by rw[Yc5,Lib.byteCells_length,Znu]
   have hone:(Lib.byteCells (Zwn (ofM ts).1 (ofM ts).2)).toArray.all (·.oneCell')=true:=by
    rw[List.all_toArray,Yej];exact Lib.byteCells_one _
   have hpi:(Tryz.prog.info? 117).map (·.size)=some (Lib.byteCells (Zwn (ofM ts).1 (ofM ts).2)).toArray.size:=by rw[hs];kernel_rfl
   have HL2:=HL.of (hk2.block _ HL.lt (by omega));have HE:Box (Zlk (Zwn (ofM ts).1 (ofM ts).2)=Zlk (ofB ts)):=⟨rfl⟩;unfold Zlk;obtain⟨vs,hvs⟩: ∃ vs,Box ((Lib.byteCells (Zwn (ofM ts).1 (ofM ts).2)).toArray=vs):=⟨_,⟨rfl⟩⟩;rw[hvs.out]at hs hone hpi⊢;go_wp2_with (first | (refine wpList_store_row rfl 117 (.tmp 2) (.tmp 17) rfl w.heap.size vs rfl rfl 117 Zaj HL2 hpi (by first | exact hs | exact hs.symm) hone ?_))
   refine bodyPost_ret (results_cell_row (p:=2) (ty:=117) rfl _ _ w.heap.size 117 vs (0,0) _ rfl (setRow_heap w2 _ Zaj vs _ _ HL2) Tryz.underlying117 rfl hpi) rfl ?_;have hk:=HK.out.trans hk2;refine⟨by rw[<- hvs.out];rfl,⟨hk.os.trans hbl.out.os,hk.tape.trans hbl.out.tape,hk.output.trans hbl.out.output,by rw[setRow_size];have:=hk.size;have:=hsW.out;omega,fun j hj=>(setRow_other w2 _ j vs (by omega)).trans ((hk.block j (by have:=hsW.out;omega) (by omega)).trans (hbl.out.block j hj))⟩⟩
end Go.P
