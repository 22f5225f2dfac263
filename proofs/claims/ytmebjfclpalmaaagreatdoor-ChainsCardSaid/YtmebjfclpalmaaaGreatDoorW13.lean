import Derived.Test.YtmebjfclpalmaaaGreatDoorW12
set_option maxRecDepth 100000
set_option maxHeartbeats 8000000
set_option linter.unusedSimpArgs false
open Go.Proofs Go.RowKit Go.W Tryz
namespace Go.W
def Zza:Ms:=⟨fun k=>((Zzb.getD k 0:Nat):Int),fun _=>0,0⟩
def ofM (ts:List ByteArray):Ms×Int:=ts.foldl (fun p t=>(Zgx p.1 t.data.toList,IntKind.u64.wrap (p.2+(t.size:Int)))) (Zza,0)
end Go.W
namespace Go.P
variable {a:Nat->Addr}{w:World}{ts:List ByteArray}
def ofB (ts:List ByteArray):List UInt8:=Zv6 (ofM ts).1 (ofM ts).2
def Zef (w:World) (p:Option Addr) (ts:List ByteArray):Prop:= ∀ i t,ts[i]?=some t->t.size < 1000000000/\ ∃ b o,p=some ⟨b,o,none⟩/\b < w.heap.size/\w.cell? ⟨b,o+i,none⟩=some (.string t)
theorem Zao.start (h:Zao a w)(i:Nat)(hi:i < 8):w.cell? ⟨11,i,none⟩=some (.int .u32 (Zza.ws i)):=by
 obtain⟨_,h0,h1⟩:=h;have hl:i < Zzb.length:=hi;exact(h1 _ _ (by decide)).2.trans (h0.start i _ (by rw[List.getD,Ydi hl];rfl))
noncomputable def Zjp (S:Nat->Int):Array Value:=((((((((zeroCells174.setIfInBounds 0 (.int .u32 (S 0))).setIfInBounds 1 (.int .u32 (S 1))).setIfInBounds 2 (.int .u32 (S 2))).setIfInBounds 3 (.int .u32 (S 3))).setIfInBounds 4 (.int .u32 (S 4))).setIfInBounds 5 (.int .u32 (S 5))).setIfInBounds 6 (.int .u32 (S 6))).setIfInBounds 7 (.int .u32 (S 7)))
theorem Zf0 (S:Nat->Int):Zjp S=(([.int .u32 (S 0),.int .u32 (S 1),.int .u32 (S 2),.int .u32 (S 3),.int .u32 (S 4),.int .u32 (S 5),.int .u32 (S 6),.int .u32 (S 7)]:List Value)++List.replicate 64 (Value.int .u8 0)++([.int .i64 0,.int .u64 0]:List Value)).toArray:=by kernel_rfl
theorem Z3x {b:Nat}{S:Nat->Int}(h:Blk w b (Zjp S) 174):Mx w b S (fun _=>0) 0 0:=by
 refine⟨_,h,by rw[Zf0];simp,fun k hk=>?_,fun k hk=>?_,by rw[Zf0];simp,by rw[Zf0];simp⟩
 ·rw[Zf0,Yd8,Ydq,Yd4 (by simpa using hk)];have g:k=0\/k=1\/k=2\/k=3\/k=4\/k=5\/k=6\/k=7:=by omega
  rcases g with rfl | rfl | rfl | rfl | rfl | rfl | rfl | rfl <;> rfl
 ·rw[Zf0,Yd8,Ydq,Yd1 (by simp),Yd4 (by simp;omega)];rw[List.getElem?_replicate,if_pos (by simp;omega)]
theorem Znz (s:Ms)(m:Int):(Zv6 s m).length=32:=by unfold Zv6;simp
theorem Z6u {k:Nat}{t:ByteArray}(h:ts[k]?=some t):ofM (ts.take (k+1))=(Zgx (ofM (ts.take k)).1 t.data.toList,IntKind.u64.wrap ((ofM (ts.take k)).2+(t.size:Int))):=by
 have e1:ts.take (k+1)=ts.take k++[t]:=by rw[Yes,h];rfl
 rw[e1];unfold ofM;rw[List.foldl_append];rfl
def Yb8 (b:Nat) (W:World) (ts:List ByteArray) (iv:Value) (wr:World):Prop:= ∃ k:Nat,k<=ts.length/\iv= .int .i64 (k:Int)/\Mx wr b (ofM (ts.take k)).1.ws (ofM (ts.take k)).1.hs (ofM (ts.take k)).1.n (ofM (ts.take k)).2/\(ofM (ts.take k)).1.n < 64/\Zah b W wr
theorem Zyr {p:Option Addr}{c:Nat}(Z:Zao a w)(hT:Zef w p ts)(hl:ts.length < 1000000000):Calls prog 48 #[.slice p ts.length c] w fun e w'=>e= .returned (Zk0 (ofB ts))/\Below w.heap.size w w':=by
 have hz:=Z.size;have x0:=Z.start 0 (by decide);have x1:=Z.start 1 (by decide);have x2:=Z.start 2 (by decide);have x3:=Z.start 3 (by decide);have x4:=Z.start 4 (by decide);have x5:=Z.start 5 (by decide);have x6:=Z.start 6 (by decide);have x7:=Z.start 7 (by decide);obtain⟨S,hS⟩: ∃ S,Box (Zza.ws=S):=⟨_,⟨rfl⟩⟩;rw[hS.out]at x0 x1 x2 x3 x4 x5 x6 x7;have ZW:=Zaa Z;have HT:=Zaa hT;clear Z hT;go_in
 have hz':11 < w.heap.size:=by omega
 have hB1:Blk ((w.alloc (.cells Zak 89)).alloc (.cells zeroCells174 174)) (w.heap.size+1) zeroCells174 174:=by
  have:=Blk.new (w.alloc (.cells Zak 89)) zeroCells174 174
  simpa using this
 have hsz0:(Zjp S).size=zeroCells174.size:=by simp[Zjp]
 have hpi0:(prog.info? 174).map (·.size)=some (Zjp S).size:=by rw[Zf0];kernel_rfl
 have hone0:(Zjp S).all (·.oneCell')=true:=by rw[Zf0];kernel_rfl
 go_wp2_with (first | (refine Yfa rfl 174 (.tmp 3) (.tmp 7) rfl (w.heap.size+1) (Zjp S) rfl rfl 174 zeroCells174 hB1 hpi0 hsz0 hone0 ?_))
 obtain⟨W,hW⟩: ∃ W,W=((w.alloc (.cells Zak 89)).alloc (.cells zeroCells174 174)).setRow (w.heap.size+1) (Zjp S):=⟨_,rfl⟩;have hBW:=Yfe _ _ _ (Zjp S) _ _ hB1;rw[<- hW]at hBW;have hMx:Box (Mx W (w.heap.size+1) Zza.ws (fun _=>0) 0 0):=⟨by rw[hS.out];exact Z3x hBW⟩;have hsW:Box (W.heap.size=w.heap.size+2):=⟨by rw[hW,Yfd];simp⟩;have hbl:Box (Below w.heap.size w W):=⟨by
  have h2:=((Ydb w.heap.size w).alloc lr (.cells Zak 89)).alloc (by simp) (.cells zeroCells174 174);rw[hW];exact⟨h2.os,h2.tape,h2.output,by rw[Yfd];exact h2.size,fun j hj=>(Ye8 _ _ j _ (by omega)).trans (h2.block j hj)⟩⟩
 have hL0:Box (Blk W w.heap.size Zak 89):=⟨by
  rw[hW];exact(Blk.of (Blk.alloc (Blk.new w Zak 89) _) (Ye8 _ _ _ _ (by omega)))⟩
 change Code.wp _ _ _ _ (((w.alloc (.cells Zak 89)).alloc (.cells zeroCells174 174)).setRow (w.heap.size+1) (Zjp S));rw[<- hW];clear hW hBW hB1 hsz0 hpi0 hone0 x0 x1 x2 x3 x4 x5 x6 x7;obtain⟨n,hn⟩: ∃ n,Box (ts.length=n):=⟨_,⟨rfl⟩⟩;rw[hn.out];generalize Value.agg _=v6;generalize Value.agg _=v7;go_loopw [10] (fun iv wr=>Yb8 (w.heap.size+1) W ts iv wr) (fun iv _=>ts.length - (intOf iv).toNat)
 case atStart=>exact⟨0,by omega,rfl,hMx.out,(show(0:Nat) < 64 by decide),Zah.refl _ W⟩
 case round=>
  obtain⟨k,hk,rfl,hM,hn1,hK⟩:=hrel;have HZ:=Zaa ((ZW.out.below hbl.out).keeps hK (by omega));by_cases hlt:k < n
  ·have g:(k:Int) < (n:Int):=by omega
   obtain⟨t,ht⟩: ∃ t,ts[k]?=some t:=⟨ts[k]'(by have:=hn.out;omega),Ydi _⟩;obtain⟨htl,b,o,rfl,hbw,hc⟩:=HT.out k t ht;have hc1:wr.cell? ⟨b,o+k,none⟩=some (.string t):=((Yde (a:=⟨b,o+k,none⟩) (hK.block b (by have:=hsW.out;omega) (by omega))).trans (hbl.out.cell (p:=⟨b,o+k,none⟩) hbw)).trans hc;have CA:=Zaa (Z6m (t:=t) HZ.out (by omega) hM hn1 htl);have E:=Zaa (Z6u ht);have HK:=Zaa hK;clear hM hK ht hc hn1;go_wp2_with fail
   refine CA.out.mono ?_;rintro e w2 ⟨rfl,hk2,hm2,hn2⟩;have H2:=Zaa (Yda hm2 (Yda hn2 (HK.out.trans hk2)));clear hk2 hm2 hn2 CA;go_wp2_with fail
   refine⟨⟨k+1,by have:=hn.out;omega,by simp,?_⟩,by simp[intOf];have:=hn.out;omega⟩;rw[E.out];exact H2.out
  ·obtain rfl:k=n:=by have:=hn.out;omega
   rw[<- hn.out,Yek]at hM hn1;have CE:=Zaa (Z6n HZ.out (by omega) hM hn1);have HK:=Zaa hK;have HL:=hL0.out.of (hK.block _ (by have:=hsW.out;omega) (by omega));clear hM hn1 hK;go_wp2_with fail
   refine mq CE.out ?_;rintro w2 hk2;have hs:(Lib.byteCells (Zv6 (ofM ts).1 (ofM ts).2)).toArray.size=32:=by rw[Ydn,Lib.byteCells_length,Znz]
   have hone:(Lib.byteCells (Zv6 (ofM ts).1 (ofM ts).2)).toArray.all (·.oneCell')=true:=by
    rw[List.all_toArray,Ye1];exact Lib.byteCells_one _
   have hpi:(prog.info? 89).map (·.size)=some (Lib.byteCells (Zv6 (ofM ts).1 (ofM ts).2)).toArray.size:=by rw[hs];kernel_rfl
   have HL2:=HL.of (hk2.block _ HL.lt (by omega));have HE:Box (Zk0 (Zv6 (ofM ts).1 (ofM ts).2)=Zk0 (ofB ts)):=⟨rfl⟩;unfold Zk0;obtain⟨vs,hvs⟩: ∃ vs,Box ((Lib.byteCells (Zv6 (ofM ts).1 (ofM ts).2)).toArray=vs):=⟨_,⟨rfl⟩⟩;rw[hvs.out]at hs hone hpi⊢;go_wp2_with (first | (refine Yfa rfl 89 (.tmp 2) (.tmp 17) rfl w.heap.size vs rfl rfl 89 Zak HL2 hpi (by first | exact hs | exact hs.symm) hone ?_))
   refine Ye6 (results_cell_row (p:=2) (ty:=89) rfl _ _ w.heap.size 89 vs (0,0) _ rfl (Yfe w2 _ Zak vs _ _ HL2) underlying89 rfl hpi) rfl ?_;have hk:=HK.out.trans hk2;refine⟨by rw[<- hvs.out];rfl,⟨hk.os.trans hbl.out.os,hk.tape.trans hbl.out.tape,hk.output.trans hbl.out.output,by rw[Yfd];have:=hk.size;have:=hsW.out;omega,fun j hj=>(Ye8 w2 _ j vs (by omega)).trans ((hk.block j (by have:=hsW.out;omega) (by omega)).trans (hbl.out.block j hj))⟩⟩
end Go.P
