import Derived.Test.YtgnakaplmhmdcaaGreatDoorW13
import Derived.Deep.MidRow
import Derived.Lib.BufferWrite
import Derived.Deep.RegionLaw
import Derived.Lib.Strings
import Derived.Shelf.Unicode.ValidAny
import Derived.Shelf.Strconv.Clone
import Derived.Shelf.Unicode.DecodeAny
import Derived.Shelf.Strings.Prefix
import Derived.Shelf.Utf8.AppendRunePlain
import Derived.Shelf.Small.Utf8
set_option maxRecDepth 100000
set_option maxHeartbeats 8000000
open Go.Proofs Go.RowKit Go.W
namespace Go.W
def Yca (k p:Int) (s:Nat->Int):Int:=s 7+bits .xor .u32 (bits .xor .u32 (Zq3 26 (s 4)) (Zq3 21 (s 4))) (Zq3 7 (s 4))+bits .xor .u32 (bits .and .u32 (s 4) (s 5)) (bits .and .u32 (bits .xor .u32 IntKind.u32.max (s 4)) (s 6))+k+p
def Z9v (k p:Int) (s:Nat->Int):Nat->Int
 | 0=>((Yca k p s+bits .xor .u32 (bits .xor .u32 (Zq3 30 (s 0)) (Zq3 19 (s 0))) (Zq3 10 (s 0))) % 4294967296+bits .xor .u32 (bits .xor .u32 (bits .and .u32 (s 0) (s 1)) (bits .and .u32 (s 0) (s 2))) (bits .and .u32 (s 1) (s 2))) % 4294967296
 | 1=>s 0
 | 2=>s 1
 | 3=>s 2
 | 4=>(s 3+Yca k p s % 4294967296) % 4294967296
 | 5=>s 4
 | 6=>s 5
 | _=>s 6
def Zd4 (ps:Nat->Int):Nat->(Nat->Int)->(Nat->Int)
 | 0,s=>s
 | n+1,s=>Z9v ((Zly.getD n 0:Nat):Int) (ps n) (Zd4 ps n s)
end Go.W
namespace Go.P
variable {a:Nat->Addr}{w:World}{b n k:Nat}{ws hs:Nat->Int}{m:Int}
theorem Zap.steps (h:Zap a w)(i:Nat)(hi:i < 64):w.cell? ⟨14,i,none⟩=some (.int .u32 ((Zly.getD i 0:Nat):Int)):=by
 obtain⟨_,h0,h1⟩:=h;have hl:i < Zly.length:=hi;exact(h1 _ _ (by decide)).2.trans (h0.steps i _ (by rw[List.getD,Yc0 hl];rfl))
def Yab (W:World) (ps ws:Nat->Int) (va vb vc vd ve vf vg vh iv:Value) (wr:World):Prop:= ∃ i:Nat,i<=64/\iv= .int .i64 (i:Int)/\(∃ n,wr=W.drewN n)/\va= .int .u32 (Zd4 ps i ws 0)/\vb= .int .u32 (Zd4 ps i ws 1)/\vc= .int .u32 (Zd4 ps i ws 2)/\vd= .int .u32 (Zd4 ps i ws 3)/\ve= .int .u32 (Zd4 ps i ws 4)/\vf= .int .u32 (Zd4 ps i ws 5)/\vg= .int .u32 (Zd4 ps i ws 6)/\vh= .int .u32 (Zd4 ps i ws 7)
def Mx (w:World) (b:Nat) (ws hs:Nat->Int) (n:Nat) (m:Int):Prop:= ∃ vs:Array Value,Blk w b vs 240/\vs.size=74/\(∀ k,k < 8->vs[k]?=some (.int .u32 (ws k)))/\(∀ k,k < 64->vs[8+k]?=some (.int .u8 (hs k)))/\vs[72]?=some (.int .i64 (n:Int))/\vs[73]?=some (.int .u64 m)
def Zxb (hs:Nat->Int):List Value:=(List.range 64).map fun k=> .int .u8 (hs k)
theorem Mx.held (h:Mx w b ws hs n m):w.rangeAt b 8 (Zxb hs):=by
 obtain⟨vs,hb,_,_,hh,_⟩:=h;intro j v hj;rw[hb.cell];unfold Zxb at hj;rw[Ydn]at hj;obtain⟨k,hk,rfl⟩:=Ydi.1 hj
 have:=Yc3.1 hk
 obtain⟨hl,he⟩:=this;simp at hl he;subst he;exact hh j hl
theorem Mx.of {u:World}(h:Mx w b ws hs n m)(k:u.heap[b]?=w.heap[b]?):Mx u b ws hs n m:=by
 obtain⟨vs,hb,r⟩:=h;exact⟨vs,hb.of k,r⟩
theorem Mx.word (h:Mx w b ws hs n m)(hk:k < 8):w.cell? ⟨b,k,none⟩=some (.int .u32 (ws k)):=by
 obtain⟨vs,hb,_,h8,_⟩:=h;rw[hb.cell,h8 k hk]
theorem Mx.soft (h:Mx w b ws hs n m)(k:Nat):w.frozen? ⟨b,k,none⟩=false:=by
 obtain⟨vs,hb,_⟩:=h;exact hb.soft k
theorem Mx.lt (h:Mx w b ws hs n m):b < w.heap.size:=by
 obtain⟨vs,hb,_⟩:=h;exact hb.lt
theorem Mx.setWord {vs':Nat->Int}(h:Mx w b ws hs n m)(hk:k < 8){x:Int}(hg: ∀ j,j < 8->vs' j=if j=k then x else ws j):Mx (w.setCell ⟨b,k,none⟩ (.int .u32 x)) b vs' hs n m:=by
 obtain⟨vs,hb,h74,h8,hh,h72,h73⟩:=h;refine⟨_,hb.set k _,by simp[h74],fun j hj=>?_,fun j hj=>?_,?_,?_⟩
 ·rw[Ycv,hg j hj];by_cases hjk:j=k
  ·subst hjk;rw[if_pos rfl,if_pos (by omega),if_pos rfl]
  ·rw[if_neg (fun z=>hjk z.symm),if_neg hjk,h8 j hj]
 ·rw[Ycv,if_neg (by omega),hh j hj]
 ·rw[Ycv,if_neg (by omega),h72]
 ·rw[Ycv,if_neg (by omega),h73]
theorem Ybs (x0 x1 x2 x3 x4 x5 x6 x7:Int)(k:Nat)(hk:k < 8): ∃ x,(∀ X:Nat->Int,X 0=x0->X 1=x1->X 2=x2->X 3=x3->X 4=x4->X 5=x5->X 6=x6->X 7=x7->X k=x)/\ ∀ w,(Instr.index 238 (.agg #[.int .u32 x0,.int .u32 x1,.int .u32 x2,.int .u32 x3,.int .u32 x4,.int .u32 x5,.int .u32 x6,.int .u32 x7]) (.int .i64 (k:Int))).run Tryz.prog w= .ok (.int .u32 x) w:=by
 have g:k=0\/k=1\/k=2\/k=3\/k=4\/k=5\/k=6\/k=7:=by omega
 rcases g with rfl | rfl | rfl | rfl | rfl | rfl | rfl | rfl
 ·exact⟨x0,fun X h0 h1 h2 h3 h4 h5 h6 h7=>h0,fun _=>by kernel_rfl⟩
 ·exact⟨x1,fun X h0 h1 h2 h3 h4 h5 h6 h7=>h1,fun _=>by kernel_rfl⟩
 ·exact⟨x2,fun X h0 h1 h2 h3 h4 h5 h6 h7=>h2,fun _=>by kernel_rfl⟩
 ·exact⟨x3,fun X h0 h1 h2 h3 h4 h5 h6 h7=>h3,fun _=>by kernel_rfl⟩
 ·exact⟨x4,fun X h0 h1 h2 h3 h4 h5 h6 h7=>h4,fun _=>by kernel_rfl⟩
 ·exact⟨x5,fun X h0 h1 h2 h3 h4 h5 h6 h7=>h5,fun _=>by kernel_rfl⟩
 ·exact⟨x6,fun X h0 h1 h2 h3 h4 h5 h6 h7=>h6,fun _=>by kernel_rfl⟩
 ·exact⟨x7,fun X h0 h1 h2 h3 h4 h5 h6 h7=>h7,fun _=>by kernel_rfl⟩
theorem Yb9 (X:Nat->Int)(k:Nat)(hk:k < 8)(w:World):(Instr.index 238 (.agg #[.int .u32 (X 0),.int .u32 (X 1),.int .u32 (X 2),.int .u32 (X 3),.int .u32 (X 4),.int .u32 (X 5),.int .u32 (X 6),.int .u32 (X 7)]) (.int .i64 (k:Int))).run Tryz.prog w= .ok (.int .u32 (X k)) w:=by
 obtain⟨x,hx,h⟩:=Ybs (X 0) (X 1) (X 2) (X 3) (X 4) (X 5) (X 6) (X 7) k hk;rw[hx X rfl rfl rfl rfl rfl rfl rfl rfl];exact h w
def Zje (hs ws:Nat->Int) (k:Nat):Int:=(ws k+Zd4 (Za8 hs 48) 64 ws k) % 4294967296
def Ya3 (b:Nat) (w:World) (ws hs:Nat->Int) (n:Nat) (m:Int) (iv:Value) (wr:World):Prop:= ∃ k:Nat,k<=8/\iv= .int .i64 (k:Int)/\Mx wr b (fun j=>if j < k then Zje hs ws j else ws j) hs n m/\Zaf b w wr
theorem Zw4 (Z:Zap a w)(h:Mx w b ws hs n m):Calls Tryz.prog 187 #[.pointer (some ⟨b,0,none⟩)] w fun e w'=>e= .returned (.tuple #[])/\Zaf b w w'/\Mx w' b (Zje hs ws) hs n m:=by
 have HH:=h.held;have HM:=Zaa h;have hlen:(Tryz.prog.info? 181).map (·.size)=some (Zxb hs).length:=by kernel_rfl
 have CP:=Zaa (fun u=>Zwf (Zxb hs).toArray hs u (by simp[Zxb]) (fun k hk=>by simp[Zxb,hk]));obtain⟨vs,hb,h74,hw8,-,h72,h73⟩:=h;have w0:=(hb.cell 0).trans (hw8 0 (by decide));have w1:=(hb.cell 1).trans (hw8 1 (by decide));have w2:=(hb.cell 2).trans (hw8 2 (by decide));have w3:=(hb.cell 3).trans (hw8 3 (by decide));have w4:=(hb.cell 4).trans (hw8 4 (by decide));have w5:=(hb.cell 5).trans (hw8 5 (by decide));have w6:=(hb.cell 6).trans (hw8 6 (by decide));have w7:=(hb.cell 7).trans (hw8 7 (by decide));go_enter Tryz.func187,Tryz.ntmps187
 have HB:=Zaa hb;have ZZ:=Zaa Z;clear hw8 hb Z;go_wp2_with (refine wpList_load_mid rfl 181 (.tmp 20) rfl b 8 rfl (Zxb hs) _ HH Tryz.underlying181 rfl hlen ?_)
 refine(CP.out _).mono ?_;rintro e u1 ⟨hbu,ps,rfl,hps,hpv⟩;clear HH hlen;have hblt:=HB.out.lt;have hsu:=hbu.size;obtain⟨W,hW⟩: ∃ W,(u1.alloc (.cells Zcz 303)).setRow u1.heap.size ps=W:=⟨_,rfl⟩;have hpi:(Tryz.prog.info? 303).map (·.size)=some ps.size:=by rw[hps];kernel_rfl
 have hone:ps.all (·.oneCell')=true:=by
  rw[Array.all_eq_true];intro q hq
  have:=hpv q (by omega)
  rw[Array.getElem?_eq_getElem hq,Option.some.injEq]at this;rw[this];rfl
 have LP:Box (Blk W u1.heap.size ps 303):=⟨hW▸setRow_heap _ _ _ _ _ _ (Blk.new u1 Zcz _)⟩;have W0:W.cell? ⟨b,0,none⟩=some (.int .u32 (ws 0)):=hW▸(cell_setRow_other _ _ _ ⟨b,0,none⟩ (by show b≠_;omega)).trans (Zac (Zac w0 hbu) ((Yct _ u1).alloc lr _));have W1:W.cell? ⟨b,1,none⟩=some (.int .u32 (ws 1)):=hW▸(cell_setRow_other _ _ _ ⟨b,1,none⟩ (by show b≠_;omega)).trans (Zac (Zac w1 hbu) ((Yct _ u1).alloc lr _));have W2:W.cell? ⟨b,2,none⟩=some (.int .u32 (ws 2)):=hW▸(cell_setRow_other _ _ _ ⟨b,2,none⟩ (by show b≠_;omega)).trans (Zac (Zac w2 hbu) ((Yct _ u1).alloc lr _));have W3:W.cell? ⟨b,3,none⟩=some (.int .u32 (ws 3)):=hW▸(cell_setRow_other _ _ _ ⟨b,3,none⟩ (by show b≠_;omega)).trans (Zac (Zac w3 hbu) ((Yct _ u1).alloc lr _));have W4:W.cell? ⟨b,4,none⟩=some (.int .u32 (ws 4)):=hW▸(cell_setRow_other _ _ _ ⟨b,4,none⟩ (by show b≠_;omega)).trans (Zac (Zac w4 hbu) ((Yct _ u1).alloc lr _));have W5:W.cell? ⟨b,5,none⟩=some (.int .u32 (ws 5)):=hW▸(cell_setRow_other _ _ _ ⟨b,5,none⟩ (by show b≠_;omega)).trans (Zac (Zac w5 hbu) ((Yct _ u1).alloc lr _));have W6:W.cell? ⟨b,6,none⟩=some (.int .u32 (ws 6)):=hW▸(cell_setRow_other _ _ _ ⟨b,6,none⟩ (by show b≠_;omega)).trans (Zac (Zac w6 hbu) ((Yct _ u1).alloc lr _));have W7:W.cell? ⟨b,7,none⟩=some (.int .u32 (ws 7)):=hW▸(cell_setRow_other _ _ _ ⟨b,7,none⟩ (by show b≠_;omega)).trans (Zac (Zac w7 hbu) ((Yct _ u1).alloc lr _));have BW:Box (Below w.heap.size w W):=⟨by
  have b1:=hbu.trans (((Yct _ u1).alloc lr (.cells Zcz 303)).mono hsu);rw[<- hW];exact⟨b1.os,b1.tape,b1.output,by rw[setRow_size];exact b1.size,fun j hj=>(setRow_other _ _ j ps (by omega)).trans (b1.block j hj)⟩⟩
 clear w0 w1 w2 w3 w4 w5 w6 w7;have HW:=Zaa hW;clear hW;go_wp2_with (refine wpList_store_row rfl 303 (.tmp 2) (.tmp 22) rfl u1.heap.size ps rfl rfl 303 Zcz (Blk.new u1 Zcz _) hpi hps.symm hone ?_;show wpList _ _ _ _ _ ((u1.alloc (.cells Zcz 303)).setRow u1.heap.size ps);rw[HW.out])
 try simp only[Act.put]
 go_quiet (fail)
 go_wp2_with fail
 go_loopw [3,4,5,6,7,8,9,10,63] (fun va vb vc vd ve vf vg vh iv wr=>Yab W (Za8 hs 48) ws va vb vc vd ve vf vg vh iv wr) (fun _ _ _ _ _ _ _ _ iv _=>64 - (intOf iv).toNat)
 case atStart=>exact⟨0,by omega,rfl,⟨_,rfl⟩,rfl,rfl,rfl,rfl,rfl,rfl,rfl,rfl⟩
 case round=>
  obtain⟨i,hi,rfl,⟨q,rfl⟩,rfl,rfl,rfl,rfl,rfl,rfl,rfl,rfl⟩:=hrel;by_cases hlt:i < 64
  ·have g:(i:Int) < 64:=by omega
   have cs:=(ZZ.out.below BW.out).steps i hlt;have cp:=(LP.out.cell i).trans (hpv i hlt);have R:=Zaa (fun(x:Int) u=>Ycs (Zgf x (-6) 26 (by decide) (by decide) (by decide) u) (Ycs (Zgf x (-11) 21 (by decide) (by decide) (by decide) u) (Ycs (Zgf x (-25) 7 (by decide) (by decide) (by decide) u) (Ycs (Zgf x (-2) 30 (by decide) (by decide) (by decide) u) (Ycs (Zgf x (-13) 19 (by decide) (by decide) (by decide) u) (Zgf x (-22) 10 (by decide) (by decide) (by decide) u))))));have N0:Box (Zd4 (Za8 hs 48) (i+1) ws 0=((Zd4 (Za8 hs 48) i ws 7+bits .xor .u32 (bits .xor .u32 (Zq3 26 (Zd4 (Za8 hs 48) i ws 4)) (Zq3 21 (Zd4 (Za8 hs 48) i ws 4))) (Zq3 7 (Zd4 (Za8 hs 48) i ws 4))+bits .xor .u32 (bits .and .u32 (Zd4 (Za8 hs 48) i ws 4) (Zd4 (Za8 hs 48) i ws 5)) (bits .and .u32 (bits .xor .u32 IntKind.u32.max (Zd4 (Za8 hs 48) i ws 4)) (Zd4 (Za8 hs 48) i ws 6))+((Zly.getD i 0:Nat):Int)+Za8 hs 48 i+bits .xor .u32 (bits .xor .u32 (Zq3 30 (Zd4 (Za8 hs 48) i ws 0)) (Zq3 19 (Zd4 (Za8 hs 48) i ws 0))) (Zq3 10 (Zd4 (Za8 hs 48) i ws 0))) % 4294967296+bits .xor .u32 (bits .xor .u32 (bits .and .u32 (Zd4 (Za8 hs 48) i ws 0) (Zd4 (Za8 hs 48) i ws 1)) (bits .and .u32 (Zd4 (Za8 hs 48) i ws 0) (Zd4 (Za8 hs 48) i ws 2))) (bits .and .u32 (Zd4 (Za8 hs 48) i ws 1) (Zd4 (Za8 hs 48) i ws 2))) % 4294967296):=⟨rfl⟩;have N4:Box (Zd4 (Za8 hs 48) (i+1) ws 4=(Zd4 (Za8 hs 48) i ws 3+(Zd4 (Za8 hs 48) i ws 7+bits .xor .u32 (bits .xor .u32 (Zq3 26 (Zd4 (Za8 hs 48) i ws 4)) (Zq3 21 (Zd4 (Za8 hs 48) i ws 4))) (Zq3 7 (Zd4 (Za8 hs 48) i ws 4))+bits .xor .u32 (bits .and .u32 (Zd4 (Za8 hs 48) i ws 4) (Zd4 (Za8 hs 48) i ws 5)) (bits .and .u32 (bits .xor .u32 IntKind.u32.max (Zd4 (Za8 hs 48) i ws 4)) (Zd4 (Za8 hs 48) i ws 6))+((Zly.getD i 0:Nat):Int)+Za8 hs 48 i) % 4294967296) % 4294967296):=⟨rfl⟩;have NN:Box (Zd4 (Za8 hs 48) (i+1) ws 1=Zd4 (Za8 hs 48) i ws 0/\Zd4 (Za8 hs 48) (i+1) ws 2=Zd4 (Za8 hs 48) i ws 1/\Zd4 (Za8 hs 48) (i+1) ws 3=Zd4 (Za8 hs 48) i ws 2/\Zd4 (Za8 hs 48) (i+1) ws 5=Zd4 (Za8 hs 48) i ws 4/\Zd4 (Za8 hs 48) (i+1) ws 6=Zd4 (Za8 hs 48) i ws 5/\Zd4 (Za8 hs 48) (i+1) ws 7=Zd4 (Za8 hs 48) i ws 6):=⟨rfl,rfl,rfl,rfl,rfl,rfl⟩;generalize Zd4 (Za8 hs 48) i ws 0=sa at*;generalize Zd4 (Za8 hs 48) i ws 1=sb at*;generalize Zd4 (Za8 hs 48) i ws 2=sc at*;generalize Zd4 (Za8 hs 48) i ws 3=sd at*;generalize Zd4 (Za8 hs 48) i ws 4=se at*;generalize Zd4 (Za8 hs 48) i ws 5=sx at*;generalize Zd4 (Za8 hs 48) i ws 6=sg at*;generalize Zd4 (Za8 hs 48) i ws 7=sh at*;generalize Za8 hs 48 i=pl at*;generalize ((Zly.getD i 0:Nat):Int)=kk at*;clear hpv W0 W1 W2 W3 W4 W5 W6 W7;go_wp2_with fail
   refine(R.out _ _).1.mono ?_;rintro e w' ⟨rfl,rfl⟩;go_wp2_with fail
   refine(R.out _ _).2.1.mono ?_;rintro e w' ⟨rfl,rfl⟩;go_wp2_with fail
   refine(R.out _ _).2.2.1.mono ?_;rintro e w' ⟨rfl,rfl⟩;go_wp2_with fail
   go_quiet (fail)
   go_wp2_with fail
   refine(R.out _ _).2.2.2.1.mono ?_;rintro e w' ⟨rfl,rfl⟩;go_wp2_with fail
   refine(R.out _ _).2.2.2.2.1.mono ?_;rintro e w' ⟨rfl,rfl⟩;go_wp2_with fail
   refine(R.out _ _).2.2.2.2.2.mono ?_;rintro e w' ⟨rfl,rfl⟩;go_wp2_with fail
   exact⟨⟨i+1,by omega,by simp,⟨_,rfl⟩,by rw[N0.out],by rw[NN.out.1],by rw[NN.out.2.1],by rw[NN.out.2.2.1],by rw[N4.out],by rw[NN.out.2.2.2.1],by rw[NN.out.2.2.2.2.1],by rw[NN.out.2.2.2.2.2]⟩,by simp[intOf];omega⟩
  ·obtain rfl:i=64:=by omega
   have M0:Box (Mx (W.drewN q) b ws hs n m):=⟨HM.out.of (BW.out.block b hblt)⟩;have K0:Box (Zaf b w (W.drewN q)):=⟨((Zaf.refl b w).ofBelow BW.out).dr q⟩;have IX:=fun k hk u=>Yb9 (Zd4 (Za8 hs 48) 64 ws) k hk u;have XM:Box (∀ k,Zje hs ws k=(ws k+Zd4 (Za8 hs 48) 64 ws k) % 4294967296):=⟨fun _=>rfl⟩;clear hpv W0 W1 W2 W3 W4 W5 W6 W7 CP LP HW;generalize Zd4 (Za8 hs 48) 64 ws=X at*;go_wp2_with fail
   go_loopw [138] (fun iv wr=>Ya3 b w ws hs n m iv wr) (fun iv _=>8 - (intOf iv).toNat)
   case atStart=>exact⟨0,by omega,rfl,by simpa using M0.out,K0.out⟩
   case round=>
    obtain⟨k,hk,rfl,hM,hK⟩:=hrel;by_cases hlk:k < 8
    ·have g:(k:Int) < 8:=by omega
     have ck:=hM.word hlk;rw[if_neg (by omega)]at ck;have sf:=hM.soft;have ix:=IX k hlk;have HM1:=Zaa hM;have HK1:=Zaa hK;have xm:=XM.out k;clear hM hK IX;go_wp2_with fail
     go_region
     all_goals go_wp2_with fail
     all_goals
      refine⟨⟨k+1,by omega,by simp,?_,?_⟩,by simp[intOf];omega⟩
      ·refine Mx.setWord (w:=wr.drewN 1) HM1.out hlk fun j hj=>?_;show(if j < k+1 then Zje hs ws j else ws j)=if j=k then _ else(if j < k then Zje hs ws j else ws j);by_cases hjk:j=k
       ·subst hjk;rw[if_pos (by omega),if_pos rfl,xm]
       ·rw[if_neg hjk];by_cases hj2:j < k
        ·rw[if_pos (by omega),if_pos hj2]
        ·rw[if_neg (by omega),if_neg hj2]
      ·exact HK1.out.drew.set _ _
    ·obtain rfl:k=8:=by omega
     have HM1:=Zaa hM;have HK1:=Zaa hK;clear hM hK;go_wp2_with fail
     refine⟨rfl,_,(by simp[results,Tryz.results187,go_sem];try rfl),rfl,HK1.out,?_⟩;obtain⟨vs,hb,h74,h8,r⟩:=HM1.out;exact⟨vs,hb,h74,fun j hj=>by rw[h8 j hj];simp[hj],r⟩
end Go.P
namespace Go.W
structure Ms where
 ws:Nat->Int
 hs:Nat->Int
 n:Nat
def Z66 (s:Ms):Ms:=⟨fun k=>(s.ws k+Zd4 (Za8 s.hs 48) 64 s.ws k) % 4294967296,s.hs,0⟩
def Zvu (s:Ms) (c:UInt8):Ms:=
 if s.n+1=64 then Z66 ⟨s.ws,fun j=>if j=s.n then(c.toNat:Int)else s.hs j,64⟩else⟨s.ws,fun j=>if j=s.n then(c.toNat:Int)else s.hs j,s.n+1⟩
def Zg5 (s:Ms) (l:List UInt8):Ms:=l.foldl Zvu s
def Zgo (hs:Nat->Int) (n:Nat) (l:List UInt8) (j:Nat):Int:=if n<=j/\j < n+l.length then((l.getD (j - n) 0).toNat:Int)else hs j
theorem Zn6 (hs:Nat->Int)(n:Nat)(c:UInt8)(l:List UInt8):Zgo (fun j=>if j=n then(c.toNat:Int)else hs j) (n+1) l=Zgo hs n (c::l):=by
 funext j
 unfold Zgo;by_cases h1:n+1<=j/\j < n+1+l.length
 ·rw[if_pos h1,if_pos (by simp;omega),show j - n=(j - (n+1))+1 by omega,List.getD_cons_succ]
 ·rw[if_neg h1];show(if j=n then(c.toNat:Int)else hs j)=_;by_cases hj:j=n
  ·subst hj;rw[if_pos rfl,if_pos (by simp),Nat.sub_self,List.getD_cons_zero]
  ·rw[if_neg hj,if_neg (by simp;omega)]
theorem Z3r: ∀ (l:List UInt8) (s:Ms),s.n+l.length < 64->Zg5 s l=⟨s.ws,Zgo s.hs s.n l,s.n+l.length⟩
 | [],s,_=>by
  have e:Zgo s.hs s.n []=s.hs:=by
   funext j
   unfold Zgo;exact if_neg (by simp;try omega)
  show s=_;rw[e];rfl
 | c::l,s,h=>by
  simp at h;show Zg5 (Zvu s c) l=_;unfold Zvu;rw[if_neg (by omega),Z3r l _ (by show s.n+1+l.length < 64;omega)];simp only[Zn6,Yc7];rw[show s.n+1+l.length=s.n+(l.length+1)by omega]
theorem Zys: ∀ (l:List UInt8) (s:Ms),l≠[]->s.n+l.length=64->Zg5 s l=Z66 ⟨s.ws,Zgo s.hs s.n l,64⟩
 | [],_,h,_=>absurd rfl h
 | [c],s,_,h=>by
  simp at h;show Zvu s c=_;unfold Zvu;rw[if_pos (by omega)];have e:Zgo s.hs s.n [c]=fun j=>if j=s.n then(c.toNat:Int)else s.hs j:=by
   rw[<- Zn6];funext j
   unfold Zgo;exact if_neg (by simp;try omega)
  rw[e]
 | c::d::l,s,_,h=>by
  simp at h;show Zg5 (Zvu s c) (d::l)=_;unfold Zvu;rw[if_neg (by omega),Zys (d::l) _ (by simp) (by simp;omega)];simp only[Zn6]
theorem Zl0 (s:Ms)(l r:List UInt8):Zg5 s (l++r)=Zg5 (Zg5 s l) r:=by unfold Zg5;rw[List.foldl_append]
theorem Zy6 {P:Program}(w:World)(dT sT ty elem:TypeId)(g o dLen dCap n:Nat)(s:ByteArray)(cur:Array Value)(t:TypeId)(hu:P.underlying dT=some (.slice elem))(hs:(P.info? elem).map (·.size)=some 1)(hg:w.heap[g]?=some (.cells cur t (0,0)))(hn:Nat.min s.size dLen=n)(hfit:o+n<=cur.size):
  (Builtin.copy_ #[dT,sT] ty #[.slice (some ⟨g,o,none⟩) dLen dCap,.string s]).run P w= .ok (goInt n) (w.setRow g (cur.toList.take o++Lib.byteCells (s.data.toList.take n)++cur.toList.drop (o+n)).toArray):=by
 have hle:n<=s.data.toList.length:=by
  have:n<=s.size:=hn▸Nat.min_le_left _ _
  simpa using this
 have hlen:(Lib.byteCells (s.data.toList.take n)).length=n:=by rw[Lib.byteCells_length,List.length_take];omega
 have hst:=run_storeCells_at P g o t (Lib.byteCells (s.data.toList.take n)) 0 cur w hg (by rw[hlen];simpa using hfit) (Lib.byteCells_one _);have htk:List.take n (List.map (fun b:UInt8=>Value.int IntKind.u8 (b.toNat:Int)) s.data.toList)=Lib.byteCells (s.data.toList.take n):=by
  unfold Lib.byteCells;rw[List.map_take]
 rw[hlen]at hst;simp only[Yeg]at hst;cases hq:P.info? elem with
 | none=>simp[hq]at hs
 | some i=>
  simp[Builtin.copy_,run_underlying hu,Builtin.lenOf,Builtin.firstCells,sizeOf,typeInfo,hq,hn];rw[htk,hst];simp[Result.andThen]
end Go.W
namespace Go.W
theorem Z0m {α:Type}(l mid:List α)(o k j:Nat)(hm:mid.length=k)(hf:o+k<=l.length):(l.take o++mid++l.drop (o+k))[j]?=if o<=j/\j < o+k then mid[j - o]? else l[j]?:=by
 have h1:(l.take o).length=o:=by rw[List.length_take];omega
 have h2:(l.take o++mid).length=o+k:=by rw[Ydy,h1,hm]
 by_cases hj:j < o+k
 ·rw[Ydm (by omega)];by_cases hj2:j < o
  ·rw[Ydm (by omega),if_neg (by omega),List.getElem?_take,if_pos hj2]
  ·rw[Ydj (by omega),h1,if_pos (by omega)]
 ·rw[Ydj (by omega),h2,if_neg (by omega),List.getElem?_drop,show o+k+(j - (o+k))=j by omega]
theorem Zrx {P:Program}{ops:Array Oper}{o:Oper}{a:Act}{w:World}{K:Act->World->Prop}{Q:Exit->Act->World->Prop}{E:Prop}(hgd:o.guard=none)(d x:Operand)(dT sT:TypeId)(hop:o.op=Op.call {callee:=Callee.builtin Builtin.copy,args:=#[d,x],argTypes:=#[dT,sT]})
  (elem:TypeId) (g off dLen dCap n:Nat) (s:ByteArray) (cur:Array Value) (t:TypeId) (hu:P.underlying dT=some (.slice elem)) (hs:(P.info? elem).map (·.size)=some 1) (hd:a.eval d= .slice (some ⟨g,off,none⟩) dLen dCap) (hx:a.eval x= .string s) (hg:w.heap[g]?=some (.cells cur t (0,0))) (hn:Nat.min s.size dLen=n) (hfit:off+n<=cur.size) (nv:Array Value) (hnv:(cur.toList.take off++Lib.byteCells (s.data.toList.take n)++cur.toList.drop (off+n)).toArray=nv)
  (hK:K (a.put o.dst (goInt n)) (w.setRow g nv)):if Region.wanted o (yielded ops a.tmps)=true then Oper.wp P o a w K Q else E:=by
 have hw:Region.wanted o (yielded ops a.tmps)=true:=by simp[Region.wanted,hgd]
 rw[if_pos hw];have hrun:=Zy6 (P:=P) w dT sT o.type elem g off dLen dCap n s cur t hu hs hg hn hfit;rw[hnv]at hrun;unfold Oper.wp;simp[execOp,hop,resolve,invoke,builtin,hd,hx,hrun,Result.andThen];exact hK
end Go.W
namespace Go.P
variable {w:World}{b n:Nat}{ws hs:Nat->Int}{m:Int}
theorem Mx.nums (h:Mx w b ws hs n m):w.cell? ⟨b,72,none⟩=some (.int .i64 (n:Int))/\w.cell? ⟨b,73,none⟩=some (.int .u64 m):=by
 obtain⟨vs,hb,_,_,_,h72,h73⟩:=h;exact⟨(hb.cell 72).trans h72,(hb.cell 73).trans h73⟩
theorem Mx.setLen (h:Mx w b ws hs n m)(x:Int):Mx (w.setCell ⟨b,73,none⟩ (.int .u64 x)) b ws hs n x:=by
 obtain⟨vs,hb,h74,h8,hh,h72,h73⟩:=h;refine⟨_,hb.set 73 _,by simp[h74],fun j hj=>?_,fun j hj=>?_,?_,?_⟩
 ·rw[Ycv,if_neg (by omega),h8 j hj]
 ·rw[Ycv,if_neg (by omega),hh j hj]
 ·rw[Ycv,if_neg (by omega),h72]
 ·rw[Ycv,if_pos rfl,if_pos (by omega)]
theorem Mx.setCount (h:Mx w b ws hs n m)(x:Nat):Mx (w.setCell ⟨b,72,none⟩ (.int .i64 (x:Int))) b ws hs x m:=by
 obtain⟨vs,hb,h74,h8,hh,h72,h73⟩:=h;refine⟨_,hb.set 72 _,by simp[h74],fun j hj=>?_,fun j hj=>?_,?_,?_⟩
 ·rw[Ycv,if_neg (by omega),h8 j hj]
 ·rw[Ycv,if_neg (by omega),hh j hj]
 ·rw[Ycv,if_pos rfl,if_pos (by omega)]
 ·rw[Ycv,if_neg (by omega),h73]
theorem Mx.laid {u:World}{p k:Nat}{vs nv:Array Value}{l:List UInt8}(hu:Blk u b nv 240)(h74:vs.size=74)(h8: ∀ k,k < 8->vs[k]?=some (.int .u32 (ws k)))(hh: ∀ k,k < 64->vs[8+k]?=some (.int .u8 (hs k)))(h72:vs[72]?=some (.int .i64 (n:Int)))(h73:vs[73]?=some (.int .u64 m))(hl:l.length=k)(hk:p+k<=64)(hnv:(vs.toList.take (8+p)++Lib.byteCells l++vs.toList.drop (8+p+k)).toArray=nv):Mx u b ws (Zgo hs p l) n m:=by
 have g: ∀ j,nv[j]?=if 8+p<=j/\j < 8+p+k then(Lib.byteCells l)[j - (8+p)]? else vs[j]?:=fun j=>by
  rw[<- hnv,Ydq,Z0m _ _ _ _ _ (by rw[Lib.byteCells_length,hl]) (by rw[Yd7];omega)];simp only[Ydw]
 refine⟨nv,hu,?_,fun j hj=>?_,fun j hj=>?_,?_,?_⟩
 ·rw[<- hnv];simp[Lib.byteCells_length,hl,h74];omega
 ·rw[g,if_neg (by omega),h8 j hj]
 ·rw[g];unfold Zgo;by_cases hc:p<=j/\j < p+l.length
  ·rw[if_pos hc,if_pos (by omega),show 8+j - (8+p)=j - p by omega];have hlt:j - p < l.length:=by omega
   simp[Lib.byteCells,List.getD,Yc0 hlt]
  ·rw[if_neg hc,if_neg (by omega),hh j hj]
 ·rw[g,if_neg (by omega),h72]
 ·rw[g,if_neg (by omega),h73]
def Yaj:Value->Nat | .string s=>s.size | _=>0
def Z77 (a:Nat->Addr) (b:Nat) (w:World) (s:Ms) (t:ByteArray) (m:Int) (tv:Value) (wr:World):Prop:= ∃ (s1:Ms) (r:ByteArray),tv= .string r/\r.size<=t.size/\Zg5 s1 r.data.toList=Zg5 s t.data.toList/\s1.n < 64/\Mx wr b s1.ws s1.hs s1.n m/\Zaf b w wr/\Zap a wr
theorem Z5b {a:Nat->Addr}{s:Ms}{t:ByteArray}(Z:Zap a w)(hgb:23<=b)(h:Mx w b s.ws s.hs s.n m)(hn:s.n < 64)(ht:t.size < 1000000000):Calls Tryz.prog 139 #[.pointer (some ⟨b,0,none⟩),.string t] w fun e w'=>e= .returned (.tuple #[])/\Zaf b w w'/\Mx w' b (Zg5 s t.data.toList).ws (Zg5 s t.data.toList).hs (Zg5 s t.data.toList).n (IntKind.u64.wrap (m+(t.size:Int)))/\(Zg5 s t.data.toList).n < 64:=by
 obtain⟨c72,c73⟩:=h.nums;have sf:=h.soft;have hblt:=h.lt;have H1:=Zaa (h.setLen (IntKind.u64.wrap (m+(t.size:Int))));have K1:=Zaa ((Zaf.refl b w).set 73 (.int .u64 (IntKind.u64.wrap (m+(t.size:Int)))));have Z1:=Zaa (Z.keeps K1.out hgb);have ZW:=Zaa Z;clear h Z;obtain⟨M,hM⟩: ∃ M,IntKind.u64.wrap (m+(t.size:Int))=M:=⟨_,rfl⟩;rw[hM]at H1 K1 Z1⊢;go_enter Tryz.func139,Tryz.ntmps139
 go_wp2_with fail
 go_loopw [1] (fun tv wr=>Z77 a b w s t M tv wr) (fun tv _=>Yaj tv)
 case atStart=>exact⟨s,t,rfl,Ydu _,rfl,hn,H1.out,K1.out,Z1.out⟩
 case round=>
  clear H1 K1 Z1 c72 c73 sf;obtain⟨s1,r,rfl,hrt,hE,hn1,hM,hK,hZ⟩:=hrel;obtain⟨c72,c73⟩:=hM.nums;have sf:=hM.soft;by_cases hr0:r.size=0
  ·have g0: ¬ (0:Int) < (r.size:Int):=by omega
   have e0:r.data.toList=[]:=Yda (by simpa using hr0);rw[e0]at hE;have R:=Zaa (Ycs hE (Ycs hn1 (Ycs hM hK)));clear hE hM hK hZ;go_wp2_with fail
   refine⟨rfl,_,(by simp[results,Tryz.results139,go_sem];try rfl),rfl,R.out.2.2.2,?_⟩;rw[<- R.out.1];exact⟨R.out.2.2.1,R.out.2.1⟩
  ·have g0:(0:Int) < (r.size:Int):=by omega
   obtain⟨vs,hb,h74,h8,hh,h72,h73⟩:=hM;obtain⟨k,hk⟩: ∃ k,Nat.min r.size (64 - s1.n)=k:=⟨_,rfl⟩;have hk2:k<=r.size/\k<=64 - s1.n/\0 < k:=by rw[<- hk];exact⟨Nat.min_le_left _ _,Nat.min_le_right _ _,by rw[Nat.lt_min];omega⟩
   have HB:=Zaa hb;obtain⟨nv,hnv⟩: ∃ nv,(vs.toList.take (8+s1.n)++Lib.byteCells (r.data.toList.take k)++vs.toList.drop (8+s1.n+k)).toArray=nv:=⟨_,rfl⟩;have HNV:=Zaa hnv;have gn:(s1.n:Int)<=64:=by omega
   have gne: ¬ 64=s1.n:=by omega
   clear hnv;go_wp2_with fail
   go_region_law (refine Zrx rfl (.tmp 25) (.tmp 26) 76 9 rfl 5 b (8+s1.n) (64 - s1.n) (64 - s1.n) k r vs 240 Tryz.underlying76 (by kernel_rfl) (by simp[Act.eval,Act.put]) (by simp[Act.eval,Act.put]) HB.out hk (by omega) nv HNV.out ?_)
   all_goals
    try simp only[Act.put]
    have hbu:Blk (wr.drew.setRow b nv) b nv 240:=setRow_heap _ _ vs _ _ _ HB.out;have hll:(r.data.toList.take k).length=k:=by
     rw[List.length_take,Nat.min_eq_left]
     have:=hk2.1
     simpa using this
    have M2:=Zaa (Mx.laid hbu h74 h8 hh h72 h73 hll (by omega) HNV.out);have K2:Box (Zaf b w (wr.drew.setRow b nv)):=⟨⟨hK.os,hK.tape,hK.output,by rw[setRow_size];exact hK.size,fun j hj hne=>(setRow_other _ _ j nv hne).trans (hK.block j hj hne)⟩⟩;obtain⟨W2,hW2⟩: ∃ W,wr.drew.setRow b nv=W:=⟨_,rfl⟩;rw[hW2]at M2 K2⊢;clear hW2 hbu c72 c73 sf hh h8 h72 h73;obtain⟨c72,c73⟩:=M2.out.nums;have sf:=M2.out.soft;have Z2:=Zaa (ZW.out.keeps K2.out hgb);have hsplit:Box (r.data.toList=r.data.toList.take k++(r.extract k r.size).data.toList):=⟨by
     have e:(r.extract k r.size).data.toList=r.data.toList.drop k:=by
      simp[ByteArray.data_extract,Array.toList_extract,Ydr]
     rw[e,List.take_append_drop]⟩
    have hxs:(r.extract k r.size).size=r.size - k:=by rw[Ydz];omega
    have hEE:=Zaa hE;clear hE hK hZ hM HNV HB;by_cases hfull:s1.n+k=64
    ·have g5:((s1.n:Int)+(k:Int)==64)=true:=by rw[beq_iff_eq];omega
     have NE:Box (Zg5 (Z66 ⟨s1.ws,Zgo s1.hs s1.n (r.data.toList.take k),64⟩) (r.extract k r.size).data.toList=Zg5 s t.data.toList):=⟨by
      rw[<- hEE.out,hsplit.out,Zl0,<- hsplit.out,Zys _ s1 (fun z=>by rw[z]at hll;simp at hll;omega) (by omega)]⟩
     have M3:=M2.out.setCount (s1.n+k);rw[Int.natCast_add]at M3;have K3:=K2.out.set 72 (.int .i64 ((s1.n:Int)+(k:Int)));have CM:=Zaa (Zw4 (ZW.out.keeps K3 hgb) M3);have K3':=Zaa K3;clear M3 K3;go_wp2_with fail
     refine CM.out.mono ?_;rintro e w5 ⟨rfl,hk5,hm5⟩;have R5:=Zaa (Ycs (hm5.setCount 0) ((K3'.out.trans hk5).set 72 (.int .i64 0)));have sf5:=hm5.soft;have c725:=hm5.nums.1;clear hk5 hm5 CM c72 c73 sf;go_wp2_with fail
     exact⟨⟨Z66 ⟨s1.ws,Zgo s1.hs s1.n (r.data.toList.take k),64⟩,r.extract k r.size,rfl,by omega,NE.out,by show(0:Nat) < 64;decide,R5.out.1,R5.out.2,ZW.out.keeps R5.out.2 hgb⟩,by show(r.extract k r.size).size < r.size;omega⟩
    ·have g5:((s1.n:Int)+(k:Int)==64)=false:=by rw[beq_eq_false_iff_ne];omega
     have NE:Box (Zg5 ⟨s1.ws,Zgo s1.hs s1.n (r.data.toList.take k),s1.n+k⟩ (r.extract k r.size).data.toList=Zg5 s t.data.toList):=⟨by
      rw[<- hEE.out,hsplit.out,Zl0,<- hsplit.out,Z3r _ s1 (by omega),hll]⟩
     have M3:=M2.out.setCount (s1.n+k);rw[Int.natCast_add]at M3;have K3:=K2.out.set 72 (.int .i64 ((s1.n:Int)+(k:Int)));have R3:=Zaa (Ycs M3 K3);clear M3 K3;go_wp2_with fail
     exact⟨⟨⟨s1.ws,Zgo s1.hs s1.n (r.data.toList.take k),s1.n+k⟩,r.extract k r.size,rfl,by omega,NE.out,by show s1.n+k < 64;omega,R3.out.1,R3.out.2,ZW.out.keeps R3.out.2 hgb⟩,by show(r.extract k r.size).size < r.size;omega⟩
end Go.P
namespace Go.W
variable {bs:List Nat}{ok:Nat->Bool}{p:Nat}
theorem Zxr (h:p < bs.length)(k:ok (bs.getD p 0)=true):Zbv bs ok p=Zbv bs ok (p+1):=by
 unfold Zbv;obtain⟨f,hf⟩: ∃ f,bs.length - p=f+1:=⟨bs.length - p - 1,by omega⟩;rw[hf,Zj3,if_pos ⟨h,k⟩,show bs.length - (p+1)=f from by omega]
theorem Z5d: ∀ {f p:Nat},p<=bs.length->p<=Zj3 bs ok f p/\Zj3 bs ok f p<=bs.length:=by
 intro f;induction f with
 | zero=>intro p h;exact⟨Ydu _,h⟩
 | succ f ih=>
  intro p h;rw[Zj3];split
  ·rename_i hc
   have:=ih (p:=p+1) (by omega)
   omega
  ·exact⟨Ydu _,h⟩
theorem Zha (h:p<=bs.length):p<=Zbv bs ok p/\Zbv bs ok p<=bs.length:=Z5d h
theorem Zj8 {f:Nat}(h:bs.length<=p):Zmg bs f p=p:=by
 cases f with
 | zero=>rfl
 | succ f=>rw[Zmg,if_neg (by omega),if_neg (by omega)]
theorem Zn8 (h:p < bs.length)(h47:bs.getD p 0=47):p < Zbv bs (fun c=>decide (c≠10)) p/\Zbv bs (fun c=>decide (c≠10)) p<=bs.length:=by
 have hb:(fun c=>decide (c≠10)) (bs.getD p 0)=true:=by rw[h47];decide
 rw[Zxr h hb]
 have:=Zha (bs:=bs) (ok:=fun c=>decide (c≠10)) (p:=p+1) (by omega)
 omega
theorem Zyn: ∀ (n f g p:Nat),bs.length - p<=n->bs.length - p<=f->bs.length - p<=g->Zmg bs f p=Zmg bs g p:=by
 intro n;induction n with
 | zero=>intro f g p h _ _;rw[Zj8 (by omega),Zj8 (by omega)]
 | succ n ih=>
  intro f g p hn hf hg;by_cases hp:bs.length<=p
  ·rw[Zj8 hp,Zj8 hp]
  ·obtain⟨f,rfl⟩: ∃ m,f=m+1:=⟨f - 1,by omega⟩;obtain⟨g,rfl⟩: ∃ m,g=m+1:=⟨g - 1,by omega⟩;rw[Zmg,Zmg];by_cases hb:p < bs.length/\Zi3 (bs.getD p 0)=true
   ·rw[if_pos hb,if_pos hb];exact ih f g (p+1) (by omega) (by omega) (by omega)
   ·rw[if_neg hb,if_neg hb];by_cases hc:p+1 < bs.length/\bs.getD p 0=47/\bs.getD (p+1) 0=47
    ·rw[if_pos hc,if_pos hc]
     have:=Zn8 (by omega) hc.2.1
     exact ih f g _ (by omega) (by omega) (by omega)
    ·rw[if_neg hc,if_neg hc]
theorem Zv3 (h:p < bs.length)(k:Zi3 (bs.getD p 0)=true):Zgv bs p=Zgv bs (p+1):=by
 unfold Zgv;obtain⟨m,hm⟩: ∃ m,bs.length - p=m+1:=⟨bs.length - p - 1,by omega⟩;rw[hm,Zmg,if_pos ⟨h,k⟩];exact Zyn _ _ _ _ lr (by omega) lr
theorem Z0t (k:Zi3 (bs.getD p 0)=false)(h:p+1 < bs.length/\bs.getD p 0=47/\bs.getD (p+1) 0=47):Zgv bs p=Zgv bs (Zbv bs (fun c=>decide (c≠10)) p):=by
 unfold Zgv;obtain⟨m,hm⟩: ∃ m,bs.length - p=m+1:=⟨bs.length - p - 1,by omega⟩;rw[hm,Zmg,if_neg (by rw[k];simp),if_pos h]
 have:=Zn8 (by omega) h.2.1
 exact Zyn _ _ _ _ lr (by omega) lr
theorem Zzl (k: ¬ (p < bs.length/\Zi3 (bs.getD p 0)=true))(h: ¬ (p+1 < bs.length/\bs.getD p 0=47/\bs.getD (p+1) 0=47)):Zgv bs p=p:=by
 unfold Zgv;cases bs.length - p with
 | zero=>rfl
 | succ m=>rw[Zmg,if_neg k,if_neg h]
theorem Zwo {t:ByteArray}(h:p < t.size):Lib.hasPrefix (t.extract p t.size).data.toList (⟨#[47,47]⟩:ByteArray).data.toList=decide (p+1 < t.size/\(Zab t).getD p 0=47/\(Zab t).getD (p+1) 0=47):=by
 have e:(t.extract p t.size).data.toList=t.data.toList.drop p:=by
  simp[ByteArray.data_extract,Array.toList_extract,Ydr]
 rw[e];have hs:t.size=t.data.toList.length:=by simp
 have g: ∀ i,(Zab t).getD (p+i) 0=((t.data.toList.drop p).map (·.toNat)).getD i 0:=fun i=>by simp[Zab,List.getD]
 rw[show(Zab t).getD p 0=_ from g 0,g 1,hs];have hl:(t.data.toList.drop p).length=t.data.toList.length - p:=List.length_drop;rw[hs]at h;generalize t.data.toList.drop p=l at*;match l with
 | []=>simp at hl;omega
 | [c]=>rw[decide_eq_false (by simp at hl;omega)];simp[Lib.hasPrefix,List.isPrefixOf]
 | c::d::r=>
  rw[Bool.eq_iff_iff];simp at hl;simp[Lib.hasPrefix,List.isPrefixOf];constructor
  ·rintro⟨rfl,rfl⟩;exact⟨by omega,rfl,rfl⟩
  ·rintro⟨_,h1,h2⟩;exact⟨(UInt8.toNat_inj.1 h1).symm,(UInt8.toNat_inj.1 h2).symm⟩
end Go.W
namespace Go.Proofs
open Go.RowKit Go.Shelf Go.Lib
def Tryz.laysValid_ren:Go.Shelf.Ren:=⟨fun | 196=>228 | 259=>251 | n=>n,fun | 9=>9 | 4=>4 | 3=>3 | 5=>5 | 12=>12 | 119=>344 | 0=>0 | 46=>261 | 139=>347 | 138=>346 | 53=>163 | n=>n,fun | 3=>15 | 4=>16 | n=>n⟩
theorem Tryz.laysValid:Go.Proofs.Lays.n196 Tryz.prog Tryz.laysValid_ren where
 mixed:=by kernel_rfl
 f196:=Tryz.func228.trans (congrArg some (by kernel_rfl))
 f259:=Tryz.func251.trans (congrArg some (by kernel_rfl))
 t0:=Tryz.underlying0
 a0:=Tryz.isAgg0
 z0:=Tryz.sizeOf0
 v0:=Tryz.zeroValue0
 t3:=Tryz.underlying3
 a3:=Tryz.isAgg3
 z3:=Tryz.sizeOf3
 v3:=Tryz.zeroValue3
 t4:=Tryz.underlying4
 a4:=Tryz.isAgg4
 z4:=Tryz.sizeOf4
 v4:=Tryz.zeroValue4
 t5:=Tryz.underlying5
 a5:=Tryz.isAgg5
 z5:=Tryz.sizeOf5
 v5:=Tryz.zeroValue5
 t9:=Tryz.underlying9
 a9:=Tryz.isAgg9
 z9:=Tryz.sizeOf9
 v9:=Tryz.zeroValue9
 t12:=Tryz.underlying12
 a12:=Tryz.isAgg12
 z12:=Tryz.sizeOf12
 v12:=Tryz.zeroValue12
 t46:=Tryz.underlying261
 a46:=Tryz.isAgg261
 z46:=Tryz.sizeOf261
 v46:=Tryz.zeroValue261
 t53:=Tryz.underlying163
 a53:=Tryz.isAgg163
 z53:=Tryz.sizeOf163
 v53:=Tryz.zeroValue163
 t119:=Tryz.underlying344
 a119:=Tryz.isAgg344
 z119:=Tryz.sizeOf344
 t138:=Tryz.underlying346
 a138:=Tryz.isAgg346
 z138:=Tryz.sizeOf346
 v138:=Tryz.zeroValue346
 t139:=Tryz.underlying347
 a139:=Tryz.isAgg347
 z139:=Tryz.sizeOf347
 v139:=Tryz.zeroValue347
 g3:=by kernel_rfl
 g4:=by kernel_rfl
def Tryz.laysClone_ren:Go.Shelf.Ren:=⟨fun | 316=>201 | n=>n,fun | 9=>9 | 3=>3 | 4=>4 | 37=>76 | 0=>0 | 127=>142 | 5=>5 | n=>n,fun | n=>n⟩
theorem Tryz.laysClone:Go.Proofs.LaysM.n316 Tryz.prog Tryz.laysClone_ren where
 mixed:=by kernel_rfl
 f316:=Tryz.func201.trans (congrArg some (by kernel_rfl))
 t0:=Tryz.underlying0
 a0:=Tryz.isAgg0
 z0:=Tryz.sizeOf0
 v0:=Tryz.zeroValue0
 t3:=Tryz.underlying3
 a3:=Tryz.isAgg3
 z3:=Tryz.sizeOf3
 v3:=Tryz.zeroValue3
 t4:=Tryz.underlying4
 a4:=Tryz.isAgg4
 z4:=Tryz.sizeOf4
 v4:=Tryz.zeroValue4
 t9:=Tryz.underlying9
 a9:=Tryz.isAgg9
 z9:=Tryz.sizeOf9
 v9:=Tryz.zeroValue9
 t37:=Tryz.underlying76
 a37:=Tryz.isAgg76
 z37:=Tryz.sizeOf76
 v37:=Tryz.zeroValue76
 t127:=Tryz.underlying142
 a127:=Tryz.isAgg142
 z127:=Tryz.sizeOf142
 v127:=Tryz.zeroValue142
 t5:=Tryz.underlying5
 a5:=Tryz.isAgg5
 z5:=Tryz.sizeOf5
 v5:=Tryz.zeroValue5
 i0:=by kernel_rfl
 i3:=by kernel_rfl
 i4:=by kernel_rfl
 i5:=by kernel_rfl
 i9:=by kernel_rfl
 i37:=by kernel_rfl
 i127:=by kernel_rfl
def Tryz.laysRune_ren:Go.Shelf.Ren:=⟨fun | 197=>179 | 260=>208 | n=>n,fun | 9=>9 | 21=>21 | 3=>3 | 4=>4 | 5=>5 | 105=>276 | 119=>344 | 0=>0 | 46=>261 | 139=>347 | 138=>346 | n=>n,fun | 3=>15 | 4=>16 | n=>n⟩
theorem Tryz.laysRune:Go.Proofs.Lays.n197 Tryz.prog Tryz.laysRune_ren where
 mixed:=by kernel_rfl
 f197:=Tryz.func179.trans (congrArg some (by kernel_rfl))
 f260:=Tryz.func208.trans (congrArg some (by kernel_rfl))
 t0:=Tryz.underlying0
 a0:=Tryz.isAgg0
 z0:=Tryz.sizeOf0
 v0:=Tryz.zeroValue0
 t3:=Tryz.underlying3
 a3:=Tryz.isAgg3
 z3:=Tryz.sizeOf3
 v3:=Tryz.zeroValue3
 t4:=Tryz.underlying4
 a4:=Tryz.isAgg4
 z4:=Tryz.sizeOf4
 v4:=Tryz.zeroValue4
 t5:=Tryz.underlying5
 a5:=Tryz.isAgg5
 z5:=Tryz.sizeOf5
 v5:=Tryz.zeroValue5
 t9:=Tryz.underlying9
 a9:=Tryz.isAgg9
 z9:=Tryz.sizeOf9
 v9:=Tryz.zeroValue9
 t21:=Tryz.underlying21
 a21:=Tryz.isAgg21
 z21:=Tryz.sizeOf21
 v21:=Tryz.zeroValue21
 t46:=Tryz.underlying261
 a46:=Tryz.isAgg261
 z46:=Tryz.sizeOf261
 v46:=Tryz.zeroValue261
 t105:=Tryz.underlying276
 a105:=Tryz.isAgg276
 z105:=Tryz.sizeOf276
 v105:=Tryz.zeroValue276
 t119:=Tryz.underlying344
 a119:=Tryz.isAgg344
 z119:=Tryz.sizeOf344
 t138:=Tryz.underlying346
 a138:=Tryz.isAgg346
 z138:=Tryz.sizeOf346
 v138:=Tryz.zeroValue346
 t139:=Tryz.underlying347
 a139:=Tryz.isAgg347
 z139:=Tryz.sizeOf347
 v139:=Tryz.zeroValue347
 g3:=by kernel_rfl
 g4:=by kernel_rfl
def Tryz.laysPrefix_ren:Go.Shelf.Ren:=⟨fun | 99=>171 | 206=>203 | n=>n,fun | 9=>9 | 4=>4 | 3=>3 | n=>n,fun | n=>n⟩
theorem Tryz.laysPrefix:Go.Proofs.Lays.n99 Tryz.prog Tryz.laysPrefix_ren where
 mixed:=by kernel_rfl
 f99:=Tryz.func171.trans (congrArg some (by kernel_rfl))
 f206:=Tryz.func203.trans (congrArg some (by kernel_rfl))
 t3:=Tryz.underlying3
 a3:=Tryz.isAgg3
 z3:=Tryz.sizeOf3
 v3:=Tryz.zeroValue3
 t4:=Tryz.underlying4
 a4:=Tryz.isAgg4
 z4:=Tryz.sizeOf4
 v4:=Tryz.zeroValue4
 t9:=Tryz.underlying9
 a9:=Tryz.isAgg9
 z9:=Tryz.sizeOf9
 v9:=Tryz.zeroValue9
def Tryz.laysAppend_ren:Go.Shelf.Ren:=⟨fun | 242=>177 | 278=>206 | n=>n,fun | 37=>76 | 21=>21 | 51=>237 | 4=>4 | 5=>5 | 46=>261 | n=>n,fun | n=>n⟩
theorem Tryz.laysAppend:Go.Proofs.Lays.n242 Tryz.prog Tryz.laysAppend_ren where
 mixed:=by kernel_rfl
 f242:=Tryz.func177.trans (congrArg some (by kernel_rfl))
 f278:=Tryz.func206.trans (congrArg some (by kernel_rfl))
 t4:=Tryz.underlying4
 a4:=Tryz.isAgg4
 z4:=Tryz.sizeOf4
 v4:=Tryz.zeroValue4
 t5:=Tryz.underlying5
 a5:=Tryz.isAgg5
 z5:=Tryz.sizeOf5
 v5:=Tryz.zeroValue5
 t21:=Tryz.underlying21
 a21:=Tryz.isAgg21
 z21:=Tryz.sizeOf21
 v21:=Tryz.zeroValue21
 t37:=Tryz.underlying76
 a37:=Tryz.isAgg76
 z37:=Tryz.sizeOf76
 v37:=Tryz.zeroValue76
 t46:=Tryz.underlying261
 a46:=Tryz.isAgg261
 z46:=Tryz.sizeOf261
 v46:=Tryz.zeroValue261
 t51:=Tryz.underlying237
 a51:=Tryz.isAgg237
 z51:=Tryz.sizeOf237
 v51:=Tryz.zeroValue237
def Tryz.laysValidRune_ren:Go.Shelf.Ren:=⟨fun | 119=>229 | n=>n,fun | 21=>21 | 4=>4 | n=>n,fun | n=>n⟩
theorem Tryz.laysValidRune:Go.Proofs.Lays.n119 Tryz.prog Tryz.laysValidRune_ren where
 mixed:=by kernel_rfl
 f119:=Tryz.func229.trans (congrArg some (by kernel_rfl))
 t4:=Tryz.underlying4
 a4:=Tryz.isAgg4
 z4:=Tryz.sizeOf4
 v4:=Tryz.zeroValue4
 t21:=Tryz.underlying21
 a21:=Tryz.isAgg21
 z21:=Tryz.sizeOf21
 v21:=Tryz.zeroValue21
end Go.Proofs
namespace Go.P
open Go.RowKit Go.Shelf Go.Lib Go.W
theorem Z5v:Zbe:=fun a s w Z hs=>Any.utf8_ValidString Tryz.laysValid s w (by omega) Z.utf
theorem Zr9:Zb5:=by
 intro s w hs;have C:=Zaa (fun u=>Any.stringslite_Clone Tryz.laysClone s u (by omega));go_enter Tryz.func163,Tryz.ntmps163
 go_wp2_with fail
 refine(C.out _).mono ?_;rintro e w' ⟨rfl,hb⟩;go_wp2_with fail
 all_goals go_ret
 all_goals exact⟨rfl,hb⟩
theorem Zqa (s p:ByteArray)(w:World):Calls Tryz.prog 171 #[.string s,.string p] w fun e w'=>e= .returned (.bool (hasPrefix s.data.toList p.data.toList))/\w'=w:=
 Any.strings_HasPrefix Tryz.laysPrefix s p w
theorem Z62 {a:Nat->Addr}{w:World}(Z:Zap a w)(s:ByteArray):Calls Tryz.prog 179 #[.string s] w fun e w'=>e= .returned (.tuple #[.int .i32 ((decodeGo s).1:Nat),.int .i64 ((decodeGo s).2:Nat)])/\Below w.heap.size w w':=
 Any.utf8_DecodeRuneInString Tryz.laysRune s w Z.utf
theorem Zss (r:Int)(w:World):Calls Tryz.prog 229 #[.int .i32 r] w fun e w'=>e= .returned (.bool (Lib.validRune r))/\w'=w:=
 Any.utf8_ValidRune Tryz.laysValidRune r w
theorem Zjj (B:Nat)(v:Value)(n:Nat)(xs:List Value)(r:Int)(h1: -2147483648<=r)(h2:r<=2147483647)(w:World)(h:w.ownsRow B 5 1 v n xs)(hn:n+4<=140737488355328)(hB:B<=w.heap.size):
  Calls Tryz.prog 177 #[v,.int .i32 r] w fun e w'=> ∃ v',e= .returned v'/\w'.ownsRow B 5 1 v' (n+(runeCells r).length) (xs++runeCells r)/\ ∃ o,(w.alloc o).grownBy w' v.ownBlock:=
 Any.utf8_AppendRune_plain Tryz.laysAppend Zkr B v n xs r h1 h2 w h hn hB
end Go.P
