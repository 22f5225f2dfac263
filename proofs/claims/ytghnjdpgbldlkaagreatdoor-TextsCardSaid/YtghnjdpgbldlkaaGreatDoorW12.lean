import Derived.Test.YtghnjdpgbldlkaaGreatDoorW04
import Derived.Test.YtghnjdpgbldlkaaGreatDoorW11
import Derived.Deep.MidRow
import Derived.Lib.BufferWrite
import Derived.Deep.RegionLaw
import Derived.Lib.Strings
import Derived.Shelf.Unicode.ValidAny
import Derived.Shelf.Strconv.Clone
import Derived.Shelf.Unicode.DecodeAny
import Derived.Shelf.Strings.Prefix
import Derived.Shelf.Utf8.AppendRunePlain
import Derived.Shelf.Small.Utf8
set_option linter.defProp false
set_option maxRecDepth 100000
set_option maxHeartbeats 8000000
set_option linter.unusedSimpArgs false
open Go.Proofs Go.RowKit Go.W Tryz
namespace Go.W
def Yf2 (k p:Int) (s:Nat->Int):Int:=s 7+bits .xor .u32 (bits .xor .u32 (KE 26<|s 4)<|KE 21<|s 4) (KE 7<|s 4)+bits .xor .u32 (bits .and .u32 (s 4)<|s 5) (bits .and .u32 (bits .xor .u32 IntKind.u32.max<|s 4)<|s 6)+k+p
def Ycf (k p:Int) (s:Nat->Int):Nat->Int
 | 0=>((Yf2 k p s+bits .xor .u32 (bits .xor .u32 (KE 30<|s 0)<|KE 19<|s 0) (KE 10<|s 0)) % 4294967296+bits .xor .u32 (bits .xor .u32 (bits .and .u32 (s 0)<|s 1)<|bits .and .u32 (s 0)<|s 2) (bits .and .u32 (s 1)<|s 2)) % 4294967296
 | 1=>s 0
 | 2=>s 1
 | 3=>s 2
 | 4=>(s 3+Yf2 k p s % 4294967296) % 4294967296
 | 5=>s 4
 | 6=>s 5
 | _=>s 6
def Bz (ps:Nat->Int):Nat->(Nat->Int)->(Nat->Int)
 | 0,s=>s
 | n+1,s=>Ycf ((XQ.getD n 0:Nat):Int) (ps n) (Bz ps n s)
end Go.W
namespace Go.P
variable {a:Nat->Addr}{w:World}{b n k:Nat}{ws hs:Nat->Int}{m:Int}
def Aa.steps (h:Aa a w)(i:Nat)(hi:i<64):w.cell? ⟨15,i,none⟩=some (.int .u32 ((XQ.getD i 0:Nat):Int)):=by
 obtain⟨_,h0,h1⟩:=h;have hl:i<XQ.length:=hi;exact(h1 _ _ zu).2.trans<|h0.steps i _ (by rw[List.getD,DK hl];rfl)
def Ydq (W:World) (ps ws:Nat->Int) (va vb vc vd ve vf vg vh iv:Value) (wr:World):Prop:= ∃ i:Nat,i<=64/\iv= .int .i64 (i:Int)/\(∃ n,wr=W.drewN n)/\va= .int .u32 (Bz ps i ws 0)/\vb= .int .u32 (Bz ps i ws 1)/\vc= .int .u32 (Bz ps i ws 2)/\vd= .int .u32 (Bz ps i ws 3)/\ve= .int .u32 (Bz ps i ws 4)/\vf= .int .u32 (Bz ps i ws 5)/\vg= .int .u32 (Bz ps i ws 6)/\vh= .int .u32 (Bz ps i ws 7)
def Mx (w:World) (b:Nat) (ws hs:Nat->Int) (n:Nat) (m:Int):Prop:= ∃ vs:Array Value,AJ w b vs 230/\vs.size=74/\(∀ k,k<8->vs[k]?=some (.int .u32<|ws k))/\(∀ k,k<64->vs[8+k]?=some (.int .u8<|hs k))/\vs[72]?=some (.int .i64 (n:Int))/\vs[73]?=some (.int .u64 m)
def ZK (hs:Nat->Int):List Value:=(List.range 64).map fun k=> .int .u8 (hs k)
def Mx.held (h:Mx w b ws hs n m):w.rangeAt b 8 (ZK hs):=by
 obtain⟨vs,hb,_,_,hh,_⟩:=h;intro j v hj;rw[hb.cell];unfold ZK at hj;rw[Jq]at hj;obtain⟨k,hk,rfl⟩:=SE.1 hj
 have:=Gl.1 hk
 obtain⟨hl,he⟩:=this;simp at hl he;subst he;exact hh j hl
def Mx.of {u:World}(h:Mx w b ws hs n m)(k:u.heap[b]?=w.heap[b]?):Mx u b ws hs n m:=by
 obtain⟨vs,hb,r⟩:=h;exact⟨vs,hb.of k,r⟩
def Mx.word (h:Mx w b ws hs n m)(hk:k<8):w.cell? ⟨b,k,none⟩=some (.int .u32<|ws k):=by
 obtain⟨vs,hb,_,h8,_⟩:=h;rw[hb.cell,h8 k hk]
def Mx.soft (h:Mx w b ws hs n m)(k:Nat):w.frozen? ⟨b,k,none⟩=false:=by
 obtain⟨vs,hb,_⟩:=h;exact hb.soft k
def Mx.lt (h:Mx w b ws hs n m):b<w.heap.size:=by
 obtain⟨vs,hb,_⟩:=h;exact hb.lt
def Mx.VK {aB:Nat->Int}(h:Mx w b ws hs n m)(hk:k<8){x:Int}(hg: ∀ j,j<8->aB j=if j=k then x else ws j):Mx (w.setCell ⟨b,k,none⟩<|.int .u32 x) b aB hs n m:=by
 obtain⟨vs,hb,Kw,h8,hh,OI,OH⟩:=h;refine⟨_,hb.set k _,by simp[Kw],fun j hj=>?_,fun j hj=>?_,?_,?_⟩
 ·rw[Bc,hg j hj];by_cases hjk:j=k
  ·subst hjk;rw[if_pos rfl,if_pos zx,if_pos rfl]
  ·rw[if_neg fun z=>hjk z.symm,if_neg hjk,h8 j hj]
 ·rw[Bc,if_neg zx,hh j hj]
 ·rw[Bc,if_neg zx,OI]
 ·rw[Bc,if_neg zx,OH]
def Yfo (x0 x1 x2 x3 x4 x5 x6 x7:Int)(k:Nat)(hk:k<8): ∃ x,(∀ X:Nat->Int,X 0=x0->X 1=x1->X 2=x2->X 3=x3->X 4=x4->X 5=x5->X 6=x6->X 7=x7->X k=x)/\ ∀ w,(Instr.index 227 (.agg #[.int .u32 x0,.int .u32 x1,.int .u32 x2,.int .u32 x3,.int .u32 x4,.int .u32 x5,.int .u32 x6,.int .u32 x7])<|.int .i64 (k:Int)).run prog w= .ok (.int .u32 x) w:=by
 have g:k=0\/k=1\/k=2\/k=3\/k=4\/k=5\/k=6\/k=7:=zx
 rcases g with rfl | rfl | rfl | rfl | rfl | rfl | rfl | rfl
 ·exact⟨x0,fun X h0 h1 h2 h3 h4 h5 h6 h7=>h0,fun _=>zt⟩
 ·exact⟨x1,fun X h0 h1 h2 h3 h4 h5 h6 h7=>h1,fun _=>zt⟩
 ·exact⟨x2,fun X h0 h1 h2 h3 h4 h5 h6 h7=>h2,fun _=>zt⟩
 ·exact⟨x3,fun X h0 h1 h2 h3 h4 h5 h6 h7=>h3,fun _=>zt⟩
 ·exact⟨x4,fun X h0 h1 h2 h3 h4 h5 h6 h7=>h4,fun _=>zt⟩
 ·exact⟨x5,fun X h0 h1 h2 h3 h4 h5 h6 h7=>h5,fun _=>zt⟩
 ·exact⟨x6,fun X h0 h1 h2 h3 h4 h5 h6 h7=>h6,fun _=>zt⟩
 ·exact⟨x7,fun X h0 h1 h2 h3 h4 h5 h6 h7=>h7,fun _=>zt⟩
def Yfz (X:Nat->Int)(k:Nat)(hk:k<8)(w:World):(Instr.index 227 (.agg #[.int .u32<|X 0,.int .u32<|X 1,.int .u32<|X 2,.int .u32<|X 3,.int .u32<|X 4,.int .u32<|X 5,.int .u32<|X 6,.int .u32<|X 7])<|.int .i64 (k:Int)).run prog w= .ok (.int .u32<|X k) w:=by
 obtain⟨x,hx,h⟩:=Yfo (X 0) (X 1) (X 2) (X 3) (X 4) (X 5) (X 6) (X 7) k hk;rw[hx X rfl rfl rfl rfl rfl rfl rfl rfl];exact h w
def Un (hs ws:Nat->Int) (k:Nat):Int:=(ws k+Bz (BV hs 48) 64 ws k) % 4294967296
def Ydi (b:Nat) (w:World) (ws hs:Nat->Int) (n:Nat) (m:Int) (iv:Value) (wr:World):Prop:= ∃ k:Nat,k<=8/\iv= .int .i64 (k:Int)/\Mx wr b (fun j=>if j<k then Un hs ws j else ws j) hs n m/\Ac b w wr
def tu (Z:Aa a w)(h:Mx w b ws hs n m):Calls prog 181 #[.pointer<|Qb b 0] w fun e w'=>e= .returned (.tuple #[])/\Ac b w w'/\Mx w' b (Un hs ws) hs n m:=by
 have HH:=h.held;have HM:=AA h;have hlen:(prog.info? 166).map (·.size)=some (ZK hs).length:=zt
 have CP:=AA fun u=>Zy5 (ZK hs).toArray hs u (by simp[ZK]) (fun k hk=>by simp[ZK,hk]);obtain⟨vs,hb,Kw,SY,-,OI,OH⟩:=h;have w0:=(hb.cell 0).trans<|SY 0 zu;have w1:=(hb.cell 1).trans<|SY 1 zu;have w2:=(hb.cell 2).trans<|SY 2 zu;have w3:=(hb.cell 3).trans<|SY 3 zu;have w4:=(hb.cell 4).trans<|SY 4 zu;have w5:=(hb.cell 5).trans<|SY 5 zu;have w6:=(hb.cell 6).trans<|SY 6 zu;have w7:=(hb.cell 7).trans<|SY 7 zu;go_in
 have HB:=AA hb;have ZZ:=AA Z;clear SY hb Z;go_wp2_with (refine wpList_load_mid rfl 166 (.tmp 20) rfl b 8 rfl (ZK hs) _ HH underlying166 rfl hlen ?_)
 refine(CP.out _).mono ?_;rintro e u1 ⟨Kr,ps,rfl,YS,kM⟩;clear HH hlen;have Ep:=HB.out.lt;have hsu:=Kr.size;obtain⟨W,hW⟩: ∃ W,(u1.alloc<|.cells La 304).setRow u1.heap.size ps=W:=⟨_,rfl⟩;have VT:(prog.info? 304).map (·.size)=some ps.size:=by rw[YS];kernel_rfl
 have C9:ps.all (·.oneCell')=true:=by
  rw[Array.all_eq_true];intro q hq
  have:=kM q zx
  rw[Array.getElem?_eq_getElem hq,Option.some.injEq]at this;rw[this];rfl
 have LP:AC (AJ W u1.heap.size ps 304):=⟨hW▸Gj _ _ _ _ _ _ (AJ.new u1 La _)⟩;have W0:W.cell? ⟨b,0,none⟩=some (.int .u32<|ws 0):=hW▸(Xi _ _ _ ⟨b,0,none⟩ (by show b≠_;omega)).trans (Aq (Aq w0 Kr)<|(AQ _ u1).alloc lr _);have W1:W.cell? ⟨b,1,none⟩=some (.int .u32<|ws 1):=hW▸(Xi _ _ _ ⟨b,1,none⟩ (by show b≠_;omega)).trans (Aq (Aq w1 Kr)<|(AQ _ u1).alloc lr _);have W2:W.cell? ⟨b,2,none⟩=some (.int .u32<|ws 2):=hW▸(Xi _ _ _ ⟨b,2,none⟩ (by show b≠_;omega)).trans (Aq (Aq w2 Kr)<|(AQ _ u1).alloc lr _);have W3:W.cell? ⟨b,3,none⟩=some (.int .u32<|ws 3):=hW▸(Xi _ _ _ ⟨b,3,none⟩ (by show b≠_;omega)).trans (Aq (Aq w3 Kr)<|(AQ _ u1).alloc lr _);have W4:W.cell? ⟨b,4,none⟩=some (.int .u32<|ws 4):=hW▸(Xi _ _ _ ⟨b,4,none⟩ (by show b≠_;omega)).trans (Aq (Aq w4 Kr)<|(AQ _ u1).alloc lr _);have W5:W.cell? ⟨b,5,none⟩=some (.int .u32<|ws 5):=hW▸(Xi _ _ _ ⟨b,5,none⟩ (by show b≠_;omega)).trans (Aq (Aq w5 Kr)<|(AQ _ u1).alloc lr _);have W6:W.cell? ⟨b,6,none⟩=some (.int .u32<|ws 6):=hW▸(Xi _ _ _ ⟨b,6,none⟩ (by show b≠_;omega)).trans (Aq (Aq w6 Kr)<|(AQ _ u1).alloc lr _);have W7:W.cell? ⟨b,7,none⟩=some (.int .u32<|ws 7):=hW▸(Xi _ _ _ ⟨b,7,none⟩ (by show b≠_;omega)).trans (Aq (Aq w7 Kr)<|(AQ _ u1).alloc lr _);have BW:AC (Bl w W):=⟨by
  have b1:=Kr.trans<|((AQ _ u1).alloc lr<|.cells La 304).mono hsu;rw[<- hW];exact⟨b1.os,b1.tape,b1.output,by rw[ET];exact b1.size,fun j hj=>(Db _ _ j ps zx).trans (b1.block j hj)⟩⟩
 clear w0 w1 w2 w3 w4 w5 w6 w7;have HW:=AA hW;clear hW;go_wp2_with (refine Jp rfl 304 (.tmp 2) (.tmp 22) rfl u1.heap.size ps rfl rfl 304 La (AJ.new u1 La _) VT YS.symm C9 ?_;show wpList _ _ _ _ _ ((u1.alloc<|.cells La 304).setRow u1.heap.size ps);rw[HW.out])
 try simp only[Act.put]
 go_quiet (fail)
 go_wp2
 go_loopw [3,4,5,6,7,8,9,10,63] (fun va vb vc vd ve vf vg vh iv wr=>Ydq W (BV hs 48) ws va vb vc vd ve vf vg vh iv wr) (fun _ _ _ _ _ _ _ _ iv _=>64-(intOf iv).toNat)
 case atStart=>exact⟨0,zx,rfl,⟨_,rfl⟩,rfl,rfl,rfl,rfl,rfl,rfl,rfl,rfl⟩
 case round=>
  obtain⟨i,hi,rfl,⟨q,rfl⟩,rfl,rfl,rfl,rfl,rfl,rfl,rfl,rfl⟩:=hrel;by_cases hlt:i<64
  ·have g:(i:Int)<64:=zx
   have cs:=(ZZ.out.below BW.out).steps i hlt;have cp:=(LP.out.cell i).trans<|kM i hlt;have R:=AA fun(x:Int) u=>AF (Up x (-6) 26 zu zu zu u) (AF (Up x (-11) 21 zu zu zu u)<|AF (Up x (-25) 7 zu zu zu u)<|AF (Up x (-2) 30 zu zu zu u)<|AF (Up x (-13) 19 zu zu zu u)<|Up x (-22) 10 zu zu zu u);have N0:AC (Bz (BV hs 48) (i+1) ws 0=((Bz (BV hs 48) i ws 7+bits .xor .u32 (bits .xor .u32 (KE 26<|Bz (BV hs 48) i ws 4)<|KE 21<|Bz (BV hs 48) i ws 4) (KE 7<|Bz (BV hs 48) i ws 4)+bits .xor .u32 (bits .and .u32 (Bz (BV hs 48) i ws 4)<|Bz (BV hs 48) i ws 5) (bits .and .u32 (bits .xor .u32 IntKind.u32.max<|Bz (BV hs 48) i ws 4)<|Bz (BV hs 48) i ws 6)+((XQ.getD i 0:Nat):Int)+BV hs 48 i+bits .xor .u32 (bits .xor .u32 (KE 30<|Bz (BV hs 48) i ws 0)<|KE 19<|Bz (BV hs 48) i ws 0) (KE 10<|Bz (BV hs 48) i ws 0)) % 4294967296+bits .xor .u32 (bits .xor .u32 (bits .and .u32 (Bz (BV hs 48) i ws 0)<|Bz (BV hs 48) i ws 1)<|bits .and .u32 (Bz (BV hs 48) i ws 0)<|Bz (BV hs 48) i ws 2) (bits .and .u32 (Bz (BV hs 48) i ws 1)<|Bz (BV hs 48) i ws 2)) % 4294967296):=⟨rfl⟩;have N4:AC (Bz (BV hs 48) (i+1) ws 4=(Bz (BV hs 48) i ws 3+(Bz (BV hs 48) i ws 7+bits .xor .u32 (bits .xor .u32 (KE 26<|Bz (BV hs 48) i ws 4)<|KE 21<|Bz (BV hs 48) i ws 4) (KE 7<|Bz (BV hs 48) i ws 4)+bits .xor .u32 (bits .and .u32 (Bz (BV hs 48) i ws 4)<|Bz (BV hs 48) i ws 5) (bits .and .u32 (bits .xor .u32 IntKind.u32.max<|Bz (BV hs 48) i ws 4)<|Bz (BV hs 48) i ws 6)+((XQ.getD i 0:Nat):Int)+BV hs 48 i) % 4294967296) % 4294967296):=⟨rfl⟩;have NN:AC (Bz (BV hs 48) (i+1) ws 1=Bz (BV hs 48) i ws 0/\Bz (BV hs 48) (i+1) ws 2=Bz (BV hs 48) i ws 1/\Bz (BV hs 48) (i+1) ws 3=Bz (BV hs 48) i ws 2/\Bz (BV hs 48) (i+1) ws 5=Bz (BV hs 48) i ws 4/\Bz (BV hs 48) (i+1) ws 6=Bz (BV hs 48) i ws 5/\Bz (BV hs 48) (i+1) ws 7=Bz (BV hs 48) i ws 6):=⟨rfl,rfl,rfl,rfl,rfl,rfl⟩;generalize Bz (BV hs 48) i ws 0=sa at*;generalize Bz (BV hs 48) i ws 1=sb at*;generalize Bz (BV hs 48) i ws 2=sc at*;generalize Bz (BV hs 48) i ws 3=sd at*;generalize Bz (BV hs 48) i ws 4=se at*;generalize Bz (BV hs 48) i ws 5=sx at*;generalize Bz (BV hs 48) i ws 6=sg at*;generalize Bz (BV hs 48) i ws 7=sh at*;generalize BV hs 48 i=pl at*;generalize ((XQ.getD i 0:Nat):Int)=kk at*;clear kM W0 W1 W2 W3 W4 W5 W6 W7;go_wp2_with fail
   refine(R.out _ _).1.mono ?_;rintro e w' ⟨rfl,rfl⟩;go_wp2_with fail
   refine(R.out _ _).2.1.mono ?_;rintro e w' ⟨rfl,rfl⟩;go_wp2_with fail
   refine(R.out _ _).2.2.1.mono ?_;rintro e w' ⟨rfl,rfl⟩;go_wp2
   go_quiet (fail)
   go_wp2_with fail
   refine(R.out _ _).2.2.2.1.mono ?_;rintro e w' ⟨rfl,rfl⟩;go_wp2_with fail
   refine(R.out _ _).2.2.2.2.1.mono ?_;rintro e w' ⟨rfl,rfl⟩;go_wp2_with fail
   refine(R.out _ _).2.2.2.2.2.mono ?_;rintro e w' ⟨rfl,rfl⟩;go_wp2
   exact⟨⟨i+1,zx,zw,⟨_,rfl⟩,by rw[N0.out],by rw[NN.out.1],by rw[NN.out.2.1],by rw[NN.out.2.2.1],by rw[N4.out],by rw[NN.out.2.2.2.1],by rw[NN.out.2.2.2.2.1],by rw[NN.out.2.2.2.2.2]⟩,by simp[intOf];omega⟩
  ·obtain rfl:i=64:=zx
   have M0:AC (Mx (W.drewN q) b ws hs n m):=⟨HM.out.of<|BW.out.block b Ep⟩;have K0:AC (Ac b w<|W.drewN q):=⟨((Ac.refl b w).AR BW.out).dr q⟩;have IX:=fun k hk u=>Yfz (Bz (BV hs 48) 64 ws) k hk u;have XM:AC (∀ k,Un hs ws k=(ws k+Bz (BV hs 48) 64 ws k) % 4294967296):=⟨fun _=>rfl⟩;clear kM W0 W1 W2 W3 W4 W5 W6 W7 CP LP HW;generalize Bz (BV hs 48) 64 ws=X at*;go_wp2
   go_loopw [138] (fun iv wr=>Ydi b w ws hs n m iv wr) (fun iv _=>8-(intOf iv).toNat)
   case atStart=>exact⟨0,zx,rfl,by simpa using M0.out,K0.out⟩
   case round=>
    obtain⟨k,hk,rfl,hM,hK⟩:=hrel;by_cases hlk:k<8
    ·have g:(k:Int)<8:=zx
     have ck:=hM.word hlk;rw[if_neg zx]at ck;have sf:=hM.soft;have ix:=IX k hlk;have xw:=AA hM;have Gw:=AA hK;have xm:=XM.out k;clear hM hK IX;go_wp2
     go_region
     all_goals go_wp2_with fail
     all_goals
      refine⟨⟨k+1,zx,zw,?_,?_⟩,by simp[intOf];omega⟩
      ·refine Mx.VK (w:=wr.drewN 1) xw.out hlk fun j hj=>?_;show(if j<k+1 then Un hs ws j else ws j)=if j=k then _ else(if j<k then Un hs ws j else ws j);by_cases hjk:j=k
       ·subst hjk;rw[if_pos zx,if_pos rfl,xm]
       ·rw[if_neg hjk];by_cases Ao:j<k
        ·rw[if_pos zx,if_pos Ao]
        ·rw[if_neg zx,if_neg Ao]
      ·exact Gw.out.drew.set _ _
    ·obtain rfl:k=8:=zx
     have xw:=AA hM;have Gw:=AA hK;clear hM hK;go_wp2_with fail
     refine⟨rfl,_,(by simp[results,results181,go_sem];try rfl),rfl,Gw.out,?_⟩;obtain⟨vs,hb,Kw,h8,r⟩:=xw.out;exact⟨vs,hb,Kw,fun j hj=>by rw[h8 j hj];simp[hj],r⟩
end Go.P
namespace Go.W
structure Ms where
 ws:Nat->Int
 hs:Nat->Int
 n:Nat
def ni (s:Ms):Ms:=⟨fun k=>(s.ws k+Bz (BV s.hs 48) 64 s.ws k) % 4294967296,s.hs,0⟩
def ZM (s:Ms) (c:UInt8):Ms:=
 if s.n+1=64 then ni ⟨s.ws,fun j=>if j=s.n then(c.toNat:Int)else s.hs j,64⟩else⟨s.ws,fun j=>if j=s.n then(c.toNat:Int)else s.hs j,s.n+1⟩
def KN (s:Ms) (l:List UInt8):Ms:=l.foldl ZM s
def KJ (hs:Nat->Int) (n:Nat) (l:List UInt8) (j:Nat):Int:=if n<=j/\j<n+l.length then((l.getD (j-n) 0).toNat:Int)else hs j
def uu (hs:Nat->Int)(n:Nat)(c:UInt8)(l:List UInt8):KJ (fun j=>if j=n then(c.toNat:Int)else hs j) (n+1) l=KJ hs n (c::l):=by
 funext j
 unfold KJ;by_cases h1:n+1<=j/\j<n+1+l.length
 ·rw[if_pos h1,if_pos (by simp;omega),show j-n=(j-(n+1))+1 by omega,List.getD_cons_succ]
 ·rw[if_neg h1];show(if j=n then(c.toNat:Int)else hs j)=_;by_cases hj:j=n
  ·subst hj;rw[if_pos rfl,if_pos zw,Nat.sub_self,List.getD_cons_zero]
  ·rw[if_neg hj,if_neg (by simp;omega)]
def Z4l: ∀ (l:List UInt8) (s:Ms),s.n+l.length<64->KN s l=⟨s.ws,KJ s.hs s.n l,s.n+l.length⟩
 | [],s,_=>by
  have e:KJ s.hs s.n []=s.hs:=by
   funext j
   unfold KJ;exact if_neg (by simp;try omega)
  show s=_;rw[e];rfl
 | c::l,s,h=>by
  simp at h;show KN (ZM s c) l=_;unfold ZM;rw[if_neg zx,Z4l l _ (by show s.n+1+l.length<64;omega)];simp only[uu,BO];rw[show s.n+1+l.length=s.n+(l.length+1)by omega]
def Zz6: ∀ (l:List UInt8) (s:Ms),l≠[]->s.n+l.length=64->KN s l=ni ⟨s.ws,KJ s.hs s.n l,64⟩
 | [],_,h,_=>absurd rfl h
 | [c],s,_,h=>by
  simp at h;show ZM s c=_;unfold ZM;rw[if_pos zx];have e:KJ s.hs s.n [c]=fun j=>if j=s.n then(c.toNat:Int)else s.hs j:=by
   rw[<- uu];funext j
   unfold KJ;exact if_neg (by simp;try omega)
  rw[e]
 | c::d::l,s,_,h=>by
  simp at h;show KN (ZM s c) (d::l)=_;unfold ZM;rw[if_neg zx,Zz6 (d::l) _ zw (by simp;omega)];simp only[uu]
def Zm9 (s:Ms)(l r:List UInt8):KN s (l++r)=KN (KN s l) r:=by unfold KN;rw[List.foldl_append]
def Z0e {P:Program}(w:World)(dT sT ty elem:TypeId)(g o Gu Ky n:Nat)(s:ByteArray)(cur:Array Value)(t:TypeId)(hu:P.underlying dT=some (.slice elem))(hs:(P.info? elem).map (·.size)=some 1)(hg:w.heap[g]?=some (.cells cur t (0,0)))(hn:Nat.min s.size Gu=n)(BG:o+n<=cur.size):
  (Builtin.copy_ #[dT,sT] ty #[.slice (Qb g o) Gu Ky,.string s]).run P w= .ok (goInt n) (w.setRow g (cur.toList.take o++Lib.byteCells (s.data.toList.take n)++cur.toList.drop (o+n)).toArray):=by
 have hle:n<=s.data.toList.length:=by
  have:n<=s.size:=hn▸Nat.min_le_left _ _
  simpa using this
 have hlen:(Lib.byteCells<|s.data.toList.take n).length=n:=by rw[Lib.byteCells_length,List.length_take];omega
 have hst:=run_storeCells_at P g o t (Lib.byteCells<|s.data.toList.take n) 0 cur w hg (by rw[hlen];simpa using BG)<|Lib.byteCells_one _;have L9:List.take n (List.map (fun b:UInt8=>Value.int IntKind.u8 (b.toNat:Int)) s.data.toList)=Lib.byteCells (s.data.toList.take n):=by
  unfold Lib.byteCells;rw[List.map_take]
 rw[hlen]at hst;simp only[Oj]at hst;cases hq:P.info? elem with
 | none=>simp[hq]at hs
 | some i=>
  simp[Builtin.copy_,Jo hu,Builtin.lenOf,Builtin.firstCells,sizeOf,typeInfo,hq,hn];rw[L9,hst];simp[Result.andThen]
end Go.W
namespace Go.W
def Z3o {α:Type}(l mid:List α)(o k j:Nat)(hm:mid.length=k)(hf:o+k<=l.length):(l.take o++mid++l.drop (o+k))[j]?=if o<=j/\j<o+k then mid[j-o]? else l[j]?:=by
 have h1:(l.take o).length=o:=by rw[List.length_take];omega
 have h2:(l.take o++mid).length=o+k:=by rw[Bq,h1,hm]
 by_cases hj:j<o+k
 ·rw[Q0 zx];by_cases Ao:j<o
  ·rw[Q0 zx,if_neg zx,List.getElem?_take,if_pos Ao]
  ·rw[Q7 zx,h1,if_pos zx]
 ·rw[Q7 zx,h2,if_neg zx,List.getElem?_drop,show o+k+(j-(o+k))=j by omega]
def Zuh {P:Program}{ops:Array Oper}{o:Oper}{a:Act}{w:World}{K:Act->World->Prop}{Q:Exit->Act->World->Prop}{E:Prop}(hgd:o.guard=none)(d x:Operand)(dT sT:TypeId)(hop:o.op=Op.call {callee:=Callee.builtin Builtin.copy,args:=#[d,x],argTypes:=#[dT,sT]})
  (elem:TypeId) (g off Gu Ky n:Nat) (s:ByteArray) (cur:Array Value) (t:TypeId) (hu:P.underlying dT=some (.slice elem)) (hs:(P.info? elem).map (·.size)=some 1) (hd:a.eval d= .slice (Qb g off) Gu Ky) (hx:a.eval x= .string s) (hg:w.heap[g]?=some (.cells cur t (0,0))) (hn:Nat.min s.size Gu=n) (BG:off+n<=cur.size) (nv:Array Value) (Ou:(cur.toList.take off++Lib.byteCells (s.data.toList.take n)++cur.toList.drop (off+n)).toArray=nv)
  (hK:K (a.put o.dst<|goInt n) (w.setRow g nv)):if Region.wanted o (yielded ops a.tmps)=true then Oper.wp P o a w K Q else E:=by
 have hw:Region.wanted o (yielded ops a.tmps)=true:=by simp[Region.wanted,hgd]
 rw[if_pos hw];have hrun:=Z0e (P:=P) w dT sT o.type elem g off Gu Ky n s cur t hu hs hg hn BG;rw[Ou]at hrun;unfold Oper.wp;simp[execOp,hop,resolve,invoke,builtin,hd,hx,hrun,Result.andThen];exact hK
end Go.W
namespace Go.P
variable {w:World}{b n:Nat}{ws hs:Nat->Int}{m:Int}
def Mx.nums (h:Mx w b ws hs n m):w.cell? ⟨b,72,none⟩=some (.int .i64 (n:Int))/\w.cell? ⟨b,73,none⟩=some (.int .u64 m):=by
 obtain⟨vs,hb,_,_,_,OI,OH⟩:=h;exact⟨(hb.cell 72).trans OI,(hb.cell 73).trans OH⟩
def Mx.Xv (h:Mx w b ws hs n m)(x:Int):Mx (w.setCell ⟨b,73,none⟩<|.int .u64 x) b ws hs n x:=by
 obtain⟨vs,hb,Kw,h8,hh,OI,OH⟩:=h;refine⟨_,hb.set 73 _,by simp[Kw],fun j hj=>?_,fun j hj=>?_,?_,?_⟩
 ·rw[Bc,if_neg zx,h8 j hj]
 ·rw[Bc,if_neg zx,hh j hj]
 ·rw[Bc,if_neg zx,OI]
 ·rw[Bc,if_pos rfl,if_pos zx]
def Mx.Ij (h:Mx w b ws hs n m)(x:Nat):Mx (w.setCell ⟨b,72,none⟩<|.int .i64 (x:Int)) b ws hs x m:=by
 obtain⟨vs,hb,Kw,h8,hh,OI,OH⟩:=h;refine⟨_,hb.set 72 _,by simp[Kw],fun j hj=>?_,fun j hj=>?_,?_,?_⟩
 ·rw[Bc,if_neg zx,h8 j hj]
 ·rw[Bc,if_neg zx,hh j hj]
 ·rw[Bc,if_pos rfl,if_pos zx]
 ·rw[Bc,if_neg zx,OH]
def Mx.laid {u:World}{p k:Nat}{vs nv:Array Value}{l:List UInt8}(hu:AJ u b nv 230)(Kw:vs.size=74)(h8: ∀ k,k<8->vs[k]?=some (.int .u32<|ws k))(hh: ∀ k,k<64->vs[8+k]?=some (.int .u8<|hs k))(OI:vs[72]?=some (.int .i64 (n:Int)))(OH:vs[73]?=some (.int .u64 m))(hl:l.length=k)(hk:p+k<=64)(Ou:(vs.toList.take (8+p)++Lib.byteCells l++vs.toList.drop (8+p+k)).toArray=nv):Mx u b ws (KJ hs p l) n m:=by
 have g: ∀ j,nv[j]?=if 8+p<=j/\j<8+p+k then(Lib.byteCells l)[j-(8+p)]? else vs[j]?:=fun j=>by
  rw[<- Ou,Qz,Z3o _ _ _ _ _ (by rw[Lib.byteCells_length,hl]) (by rw[UE];omega)];simp only[UG]
 refine⟨nv,hu,?_,fun j hj=>?_,fun j hj=>?_,?_,?_⟩
 ·rw[<- Ou];simp[Lib.byteCells_length,hl,Kw];omega
 ·rw[g,if_neg zx,h8 j hj]
 ·rw[g];unfold KJ;by_cases hc:p<=j/\j<p+l.length
  ·rw[if_pos hc,if_pos zx,show 8+j-(8+p)=j-p by omega];have hlt:j-p<l.length:=zx
   simp[Lib.byteCells,List.getD,DK hlt]
  ·rw[if_neg hc,if_neg zx,hh j hj]
 ·rw[g,if_neg zx,OI]
 ·rw[g,if_neg zx,OH]
def Ye5:Value->Nat | .string s=>s.size | _=>0
def Ya4 (a:Nat->Addr) (b:Nat) (w:World) (s:Ms) (t:ByteArray) (m:Int) (tv:Value) (wr:World):Prop:= ∃ (s1:Ms) (r:ByteArray),tv= .string r/\r.size<=t.size/\KN s1 r.data.toList=KN s t.data.toList/\s1.n<64/\Mx wr b s1.ws s1.hs s1.n m/\Ac b w wr/\Aa a wr
def Z87 {a:Nat->Addr}{s:Ms}{t:ByteArray}(Z:Aa a w)(hgb:23<=b)(h:Mx w b s.ws s.hs s.n m)(hn:s.n<64)(ht:t.size<1000000000):Calls prog 130 #[.pointer<|Qb b 0,.string t] w fun e w'=>e= .returned (.tuple #[])/\Ac b w w'/\Mx w' b (KN s t.data.toList).ws (KN s t.data.toList).hs (KN s t.data.toList).n (IntKind.u64.wrap<|m+(t.size:Int))/\(KN s t.data.toList).n<64:=by
 obtain⟨c72,OL⟩:=h.nums;have sf:=h.soft;have Ep:=h.lt;have H1:=AA<|h.Xv<|IntKind.u64.wrap<|m+(t.size:Int);have K1:=AA<|(Ac.refl b w).set 73<|.int .u64<|IntKind.u64.wrap<|m+(t.size:Int);have Z1:=AA<|Z.keeps K1.out hgb;have ZW:=AA Z;clear h Z;obtain⟨M,hM⟩: ∃ M,IntKind.u64.wrap (m+(t.size:Int))=M:=⟨_,rfl⟩;rw[hM]at H1 K1 Z1⊢;go_in
 go_wp2
 go_loopw [1] (fun tv wr=>Ya4 a b w s t M tv wr) (fun tv _=>Ye5 tv)
 case atStart=>exact⟨s,t,rfl,JB _,rfl,hn,H1.out,K1.out,Z1.out⟩
 case round=>
  clear H1 K1 Z1 c72 OL sf;obtain⟨s1,r,rfl,hrt,hE,G8,hM,hK,hZ⟩:=hrel;obtain⟨c72,OL⟩:=hM.nums;have sf:=hM.soft;by_cases IY:r.size=0
  ·have g0: ¬ (0:Int)<(r.size:Int):=zx
   have e0:r.data.toList=[]:=Ht (by simpa using IY);rw[e0]at hE;have R:=AA<|AF hE<|AF G8<|AF hM hK;clear hE hM hK hZ;go_wp2_with fail
   refine⟨rfl,_,(by simp[results,results130,go_sem];try rfl),rfl,R.out.2.2.2,?_⟩;rw[<- R.out.1];exact⟨R.out.2.2.1,R.out.2.1⟩
  ·have g0:(0:Int)<(r.size:Int):=zx
   obtain⟨vs,hb,Kw,h8,hh,OI,OH⟩:=hM;obtain⟨k,hk⟩: ∃ k,Nat.min r.size (64-s1.n)=k:=⟨_,rfl⟩;have hk2:k<=r.size/\k<=64-s1.n/\0<k:=by rw[<- hk];exact⟨Nat.min_le_left _ _,Nat.min_le_right _ _,by rw[Nat.lt_min];omega⟩
   have HB:=AA hb;obtain⟨nv,Ou⟩: ∃ nv,(vs.toList.take (8+s1.n)++Lib.byteCells (r.data.toList.take k)++vs.toList.drop (8+s1.n+k)).toArray=nv:=⟨_,rfl⟩;have xn:=AA Ou;have gn:(s1.n:Int)<=64:=zx
   have gne: ¬ 64=s1.n:=zx
   clear Ou;go_wp2
   go_region_law (refine Zuh rfl (.tmp 25) (.tmp 26) 74 9 rfl 5 b (8+s1.n) (64-s1.n) (64-s1.n) k r vs 230 underlying74 zt (by simp[Act.eval,Act.put]) (by simp[Act.eval,Act.put]) HB.out hk zx nv xn.out ?_)
   all_goals
    try simp only[Act.put]
    have Kr:AJ (wr.drew.setRow b nv) b nv 230:=Gj _ _ vs _ _ _ HB.out;have Yb:(r.data.toList.take k).length=k:=by
     rw[List.length_take,Nat.min_eq_left]
     have:=hk2.1
     simpa using this
    have M2:=AA<|Mx.laid Kr Kw h8 hh OI OH Yb zx xn.out;have K2:AC (Ac b w<|wr.drew.setRow b nv):=⟨⟨hK.os,hK.tape,hK.output,by rw[ET];exact hK.size,fun j hj hne=>(Db _ _ j nv hne).trans (hK.block j hj hne)⟩⟩;obtain⟨W2,hW2⟩: ∃ W,wr.drew.setRow b nv=W:=⟨_,rfl⟩;rw[hW2]at M2 K2⊢;clear hW2 Kr c72 OL sf hh h8 OI OH;obtain⟨c72,OL⟩:=M2.out.nums;have sf:=M2.out.soft;have Z2:=AA<|ZW.out.keeps K2.out hgb;have Ko:AC (r.data.toList=r.data.toList.take k++(r.extract k r.size).data.toList):=⟨by
     have e:(r.extract k r.size).data.toList=r.data.toList.drop k:=by
      simp[ByteArray.data_extract,Array.toList_extract,Rx]
     rw[e,List.take_append_drop]⟩
    have UV:(r.extract k r.size).size=r.size-k:=by rw[U9];omega
    have Wy:=AA hE;clear hE hK hZ hM xn HB;by_cases hfull:s1.n+k=64
    ·have g5:((s1.n:Int)+(k:Int)==64)=true:=by rw[DJ];omega
     have NE:AC (KN (ni ⟨s1.ws,KJ s1.hs s1.n<|r.data.toList.take k,64⟩) (r.extract k r.size).data.toList=KN s t.data.toList):=⟨by
      rw[<- Wy.out,Ko.out,Zm9,<- Ko.out,Zz6 _ s1 (fun z=>by rw[z]at Yb;simp at Yb;omega) zx]⟩
     have M3:=M2.out.Ij<|s1.n+k;rw[Int.natCast_add]at M3;have K3:=K2.out.set 72<|.int .i64<|(s1.n:Int)+(k:Int);have CM:=AA<|tu (ZW.out.keeps K3 hgb) M3;have K3':=AA K3;clear M3 K3;go_wp2_with fail
     refine CM.out.mono ?_;rintro e w5 ⟨rfl,J7,kR⟩;have R5:=AA<|AF (kR.Ij 0)<|(K3'.out.trans J7).set 72<|.int .i64 0;have sf5:=kR.soft;have c725:=kR.nums.1;clear J7 kR CM c72 OL sf;go_wp2
     exact⟨⟨ni ⟨s1.ws,KJ s1.hs s1.n<|r.data.toList.take k,64⟩,r.extract k r.size,rfl,zx,NE.out,by show(0:Nat)<64;decide,R5.out.1,R5.out.2,ZW.out.keeps R5.out.2 hgb⟩,by show(r.extract k r.size).size<r.size;omega⟩
    ·have g5:((s1.n:Int)+(k:Int)==64)=false:=by rw[BK];omega
     have NE:AC (KN ⟨s1.ws,KJ s1.hs s1.n<|r.data.toList.take k,s1.n+k⟩ (r.extract k r.size).data.toList=KN s t.data.toList):=⟨by
      rw[<- Wy.out,Ko.out,Zm9,<- Ko.out,Z4l _ s1 zx,Yb]⟩
     have M3:=M2.out.Ij<|s1.n+k;rw[Int.natCast_add]at M3;have K3:=K2.out.set 72<|.int .i64<|(s1.n:Int)+(k:Int);have R3:=AA<|AF M3 K3;clear M3 K3;go_wp2
     exact⟨⟨⟨s1.ws,KJ s1.hs s1.n<|r.data.toList.take k,s1.n+k⟩,r.extract k r.size,rfl,zx,NE.out,by show s1.n+k<64;omega,R3.out.1,R3.out.2,ZW.out.keeps R3.out.2 hgb⟩,by show(r.extract k r.size).size<r.size;omega⟩
end Go.P
namespace Go.W
variable {bs:List Nat}{ok:Nat->Bool}{f p:Nat}
def Z3m (h: ¬ (p<bs.length/\ok (bs.getD p 0)=true)):OY bs ok f p=p:=by
 cases f with
 | zero=>rfl
 | succ f=>rw[OY,if_neg h]
def uK (h:p<bs.length)(k:ok (bs.getD p 0)=true):Cm bs ok p=Cm bs ok (p+1):=by
 unfold Cm;obtain⟨f,hf⟩: ∃ f,bs.length-p=f+1:=⟨bs.length-p-1,zx⟩;rw[hf,OY,if_pos ⟨h,k⟩,show bs.length-(p+1)=f from zx]
def Z3n (h: ¬ (p<bs.length/\ok (bs.getD p 0)=true)):Cm bs ok p=p:=Z3m h
def Z92: ∀ {f p:Nat},p<=bs.length->p<=OY bs ok f p/\OY bs ok f p<=bs.length:=by
 intro f;induction f with
 | zero=>intro p h;exact⟨JB _,h⟩
 | succ f ih=>
  intro p h;rw[OY];split
  ·rename_i hc
   have:=ih (p:=p+1) zx
   omega
  ·exact⟨JB _,h⟩
def Zb (h:p<=bs.length):p<=Cm bs ok p/\Cm bs ok p<=bs.length:=Z92 h
def mM (h:bs.length<=p):Qh bs f p=p:=by
 cases f with
 | zero=>rfl
 | succ f=>rw[Qh,if_neg zx,if_neg zx]
def uo (h:p<bs.length)(gy:bs.getD p 0=47):p<Cm bs (fun c=>decide (c≠10)) p/\Cm bs (fun c=>decide (c≠10)) p<=bs.length:=by
 have hb:(fun c=>decide (c≠10)) (bs.getD p 0)=true:=by rw[gy];decide
 rw[uK h hb]
 have:=Zb (bs:=bs) (ok:=fun c=>decide (c≠10)) (p:=p+1) zx
 omega
def Z1c: ∀ (n f g p:Nat),bs.length-p<=n->bs.length-p<=f->bs.length-p<=g->Qh bs f p=Qh bs g p:=by
 intro n;induction n with
 | zero=>intro f g p h _ _;rw[mM zx,mM zx]
 | succ n ih=>
  intro f g p hn hf hg;by_cases hp:bs.length<=p
  ·rw[mM hp,mM hp]
  ·obtain⟨f,rfl⟩: ∃ m,f=m+1:=⟨f-1,zx⟩;obtain⟨g,rfl⟩: ∃ m,g=m+1:=⟨g-1,zx⟩;rw[Qh,Qh];by_cases hb:p<bs.length/\QD (bs.getD p 0)=true
   ·rw[if_pos hb,if_pos hb];exact ih f g (p+1) zx zx zx
   ·rw[if_neg hb,if_neg hb];by_cases hc:p+1<bs.length/\bs.getD p 0=47/\bs.getD (p+1) 0=47
    ·rw[if_pos hc,if_pos hc]
     have:=uo zx hc.2.1
     exact ih f g _ zx zx zx
    ·rw[if_neg hc,if_neg hc]
def Zqg (h:p<bs.length)(k:QD (bs.getD p 0)=true):IP bs p=IP bs (p+1):=by
 unfold IP;obtain⟨m,hm⟩: ∃ m,bs.length-p=m+1:=⟨bs.length-p-1,zx⟩;rw[hm,Qh,if_pos ⟨h,k⟩];exact Z1c _ _ _ _ lr zx lr
def Z3k (k:QD (bs.getD p 0)=false)(h:p+1<bs.length/\bs.getD p 0=47/\bs.getD (p+1) 0=47):IP bs p=IP bs (Cm bs (fun c=>decide (c≠10)) p):=by
 unfold IP;obtain⟨m,hm⟩: ∃ m,bs.length-p=m+1:=⟨bs.length-p-1,zx⟩;rw[hm,Qh,if_neg (by rw[k];simp),if_pos h]
 have:=uo zx h.2.1
 exact Z1c _ _ _ _ lr zx lr
def Z3l (k: ¬ (p<bs.length/\QD (bs.getD p 0)=true))(h: ¬ (p+1<bs.length/\bs.getD p 0=47/\bs.getD (p+1) 0=47)):IP bs p=p:=by
 unfold IP;cases bs.length-p with
 | zero=>rfl
 | succ m=>rw[Qh,if_neg k,if_neg h]
def Zy7 {t:ByteArray}(h:p<t.size):Lib.hasPrefix (t.extract p t.size).data.toList (⟨#[47,47]⟩:ByteArray).data.toList=decide (p+1<t.size/\(Ab t).getD p 0=47/\(Ab t).getD (p+1) 0=47):=by
 have e:(t.extract p t.size).data.toList=t.data.toList.drop p:=by
  simp[ByteArray.data_extract,Array.toList_extract,Rx]
 rw[e];have hs:t.size=t.data.toList.length:=zw
 have g: ∀ i,(Ab t).getD (p+i) 0=((t.data.toList.drop p).map (·.toNat)).getD i 0:=fun i=>by simp[Ab,List.getD]
 rw[show(Ab t).getD p 0=_ from g 0,g 1,hs];have hl:(t.data.toList.drop p).length=t.data.toList.length-p:=List.length_drop;rw[hs]at h;generalize t.data.toList.drop p=l at*;match l with
 | []=>simp at hl;omega
 | [c]=>rw[Oi (by simp at hl;omega)];simp[Lib.hasPrefix,List.isPrefixOf]
 | c::d::r=>
  rw[Bool.eq_iff_iff];simp at hl;simp[Lib.hasPrefix,List.isPrefixOf];constructor
  ·rintro⟨rfl,rfl⟩;exact⟨zx,rfl,rfl⟩
  ·rintro⟨_,h1,h2⟩;exact⟨(UInt8.toNat_inj.1 h1).symm,(UInt8.toNat_inj.1 h2).symm⟩
end Go.W
namespace Go.Proofs
open Go.RowKit Go.Shelf Go.Lib
def Tryz.laysValid_ren:Go.Shelf.Ren:=⟨fun | 196=>232 | 259=>261 | n=>n,fun | 9=>9 | 4=>4 | 3=>3 | 5=>5 | 12=>12 | 119=>352 | 0=>0 | 46=>276 | 139=>355 | 138=>354 | 53=>228 | n=>n,fun | 3=>16 | 4=>17 | n=>n⟩
def Tryz.laysValid:Go.Proofs.Lays.n196 prog Tryz.laysValid_ren where
 mixed:=zt
 f196:=func232.trans (congrArg some zt)
 f259:=func261.trans (congrArg some zt)
 t0:=underlying0
 a0:=isAgg0
 z0:=sizeOf0
 v0:=zeroValue0
 t3:=underlying3
 a3:=isAgg3
 z3:=sizeOf3
 v3:=zeroValue3
 t4:=underlying4
 a4:=isAgg4
 z4:=sizeOf4
 v4:=zeroValue4
 t5:=underlying5
 a5:=isAgg5
 z5:=sizeOf5
 v5:=zeroValue5
 t9:=underlying9
 a9:=isAgg9
 z9:=sizeOf9
 v9:=zeroValue9
 t12:=underlying12
 a12:=isAgg12
 z12:=sizeOf12
 v12:=zeroValue12
 t46:=underlying276
 a46:=isAgg276
 z46:=sizeOf276
 v46:=zeroValue276
 t53:=underlying228
 a53:=isAgg228
 z53:=sizeOf228
 v53:=zeroValue228
 t119:=underlying352
 a119:=isAgg352
 z119:=sizeOf352
 t138:=underlying354
 a138:=isAgg354
 z138:=sizeOf354
 v138:=zeroValue354
 t139:=underlying355
 a139:=isAgg355
 z139:=sizeOf355
 v139:=zeroValue355
 g3:=zt
 g4:=zt
def Tryz.laysClone_ren:Go.Shelf.Ren:=⟨fun | 316=>204 | n=>n,fun | 9=>9 | 3=>3 | 4=>4 | 37=>74 | 0=>0 | 127=>136 | 5=>5 | n=>n,fun | n=>n⟩
def Tryz.laysClone:Go.Proofs.LaysM.n316 prog Tryz.laysClone_ren where
 mixed:=zt
 f316:=func204.trans (congrArg some zt)
 t0:=underlying0
 a0:=isAgg0
 z0:=sizeOf0
 v0:=zeroValue0
 t3:=underlying3
 a3:=isAgg3
 z3:=sizeOf3
 v3:=zeroValue3
 t4:=underlying4
 a4:=isAgg4
 z4:=sizeOf4
 v4:=zeroValue4
 t9:=underlying9
 a9:=isAgg9
 z9:=sizeOf9
 v9:=zeroValue9
 t37:=underlying74
 a37:=isAgg74
 z37:=sizeOf74
 v37:=zeroValue74
 t127:=underlying136
 a127:=isAgg136
 z127:=sizeOf136
 v127:=zeroValue136
 t5:=underlying5
 a5:=isAgg5
 z5:=sizeOf5
 v5:=zeroValue5
 i0:=zt
 i3:=zt
 i4:=zt
 i5:=zt
 i9:=zt
 i37:=zt
 i127:=zt
def Tryz.laysRune_ren:Go.Shelf.Ren:=⟨fun | 197=>170 | 260=>207 | n=>n,fun | 9=>9 | 21=>21 | 3=>3 | 4=>4 | 5=>5 | 105=>265 | 119=>352 | 0=>0 | 46=>276 | 139=>355 | 138=>354 | n=>n,fun | 3=>16 | 4=>17 | n=>n⟩
def Tryz.laysRune:Go.Proofs.Lays.n197 prog Tryz.laysRune_ren where
 mixed:=zt
 f197:=func170.trans (congrArg some zt)
 f260:=func207.trans (congrArg some zt)
 t0:=underlying0
 a0:=isAgg0
 z0:=sizeOf0
 v0:=zeroValue0
 t3:=underlying3
 a3:=isAgg3
 z3:=sizeOf3
 v3:=zeroValue3
 t4:=underlying4
 a4:=isAgg4
 z4:=sizeOf4
 v4:=zeroValue4
 t5:=underlying5
 a5:=isAgg5
 z5:=sizeOf5
 v5:=zeroValue5
 t9:=underlying9
 a9:=isAgg9
 z9:=sizeOf9
 v9:=zeroValue9
 t21:=underlying21
 a21:=isAgg21
 z21:=sizeOf21
 v21:=zeroValue21
 t46:=underlying276
 a46:=isAgg276
 z46:=sizeOf276
 v46:=zeroValue276
 t105:=underlying265
 a105:=isAgg265
 z105:=sizeOf265
 v105:=zeroValue265
 t119:=underlying352
 a119:=isAgg352
 z119:=sizeOf352
 t138:=underlying354
 a138:=isAgg354
 z138:=sizeOf354
 v138:=zeroValue354
 t139:=underlying355
 a139:=isAgg355
 z139:=sizeOf355
 v139:=zeroValue355
 g3:=zt
 g4:=zt
def Tryz.laysPrefix_ren:Go.Shelf.Ren:=⟨fun | 99=>161 | 206=>201 | n=>n,fun | 9=>9 | 4=>4 | 3=>3 | n=>n,fun | n=>n⟩
def Tryz.laysPrefix:Go.Proofs.Lays.n99 prog Tryz.laysPrefix_ren where
 mixed:=zt
 f99:=func161.trans (congrArg some zt)
 f206:=func201.trans (congrArg some zt)
 t3:=underlying3
 a3:=isAgg3
 z3:=sizeOf3
 v3:=zeroValue3
 t4:=underlying4
 a4:=isAgg4
 z4:=sizeOf4
 v4:=zeroValue4
 t9:=underlying9
 a9:=isAgg9
 z9:=sizeOf9
 v9:=zeroValue9
def Tryz.laysAppend_ren:Go.Shelf.Ren:=⟨fun | 242=>168 | 278=>205 | n=>n,fun | 37=>74 | 21=>21 | 51=>226 | 4=>4 | 5=>5 | 46=>276 | n=>n,fun | n=>n⟩
def Tryz.laysAppend:Go.Proofs.Lays.n242 prog Tryz.laysAppend_ren where
 mixed:=zt
 f242:=func168.trans (congrArg some zt)
 f278:=func205.trans (congrArg some zt)
 t4:=underlying4
 a4:=isAgg4
 z4:=sizeOf4
 v4:=zeroValue4
 t5:=underlying5
 a5:=isAgg5
 z5:=sizeOf5
 v5:=zeroValue5
 t21:=underlying21
 a21:=isAgg21
 z21:=sizeOf21
 v21:=zeroValue21
 t37:=underlying74
 a37:=isAgg74
 z37:=sizeOf74
 v37:=zeroValue74
 t46:=underlying276
 a46:=isAgg276
 z46:=sizeOf276
 v46:=zeroValue276
 t51:=underlying226
 a51:=isAgg226
 z51:=sizeOf226
 v51:=zeroValue226
def Tryz.laysValidRune_ren:Go.Shelf.Ren:=⟨fun | 119=>237 | n=>n,fun | 21=>21 | 4=>4 | n=>n,fun | n=>n⟩
def Tryz.laysValidRune:Go.Proofs.Lays.n119 prog Tryz.laysValidRune_ren where
 mixed:=zt
 f119:=func237.trans (congrArg some zt)
 t4:=underlying4
 a4:=isAgg4
 z4:=sizeOf4
 v4:=zeroValue4
 t21:=underlying21
 a21:=isAgg21
 z21:=sizeOf21
 v21:=zeroValue21
end Go.Proofs
namespace Go.P
open Go.RowKit Go.Shelf Go.Lib Go.W
def Yag:E8:=fun a s w Z hs=>Any.utf8_ValidString Tryz.laysValid s w zx Z.aC
def uZ:Ig:=by
 intro s w hs;have C:=AA fun u=>Any.stringslite_Clone Tryz.laysClone s u zx;go_in
 go_wp2_with fail
 refine(C.out _).mono ?_;rintro e w' ⟨rfl,hb⟩;go_wp2_with fail
 all_goals go_ret
 all_goals exact⟨rfl,hb⟩
def Zsk (s p:ByteArray)(w:World):Calls prog 161 #[.string s,.string p] w fun e w'=>e= .returned (.bool<|hasPrefix s.data.toList p.data.toList)/\w'=w:=
 Any.strings_HasPrefix Tryz.laysPrefix s p w
def Z9v {a:Nat->Addr}{w:World}(Z:Aa a w)(s:ByteArray):Calls prog 170 #[.string s] w fun e w'=>e= .returned (.tuple #[.int .i32 ((decodeGo s).1:Nat),.int .i64 ((decodeGo s).2:Nat)])/\Bl w w':=
 Any.utf8_DecodeRuneInString Tryz.laysRune s w Z.aC
def Zuk (r:Int)(w:World):Calls prog 237 #[.int .i32 r] w fun e w'=>e= .returned (.bool<|Lib.validRune r)/\w'=w:=
 Any.utf8_ValidRune Tryz.laysValidRune r w
def Zj4 (B:Nat)(v:Value)(n:Nat)(xs:List Value)(r:Int)(h1: -2147483648<=r)(h2:r<=2147483647)(w:World)(h:w.ownsRow B 5 1 v n xs)(hn:n+4<=140737488355328)(hB:B<=w.heap.size):
  Calls prog 168 #[v,.int .i32 r] w fun e w'=> ∃ v',e= .returned v'/\w'.ownsRow B 5 1 v' (n+(runeCells r).length) (xs++runeCells r)/\ ∃ o,(w.alloc o).grownBy w' v.ownBlock:=
 Any.utf8_AppendRune_plain Tryz.laysAppend iZ B v n xs r h1 h2 w h hn hB
end Go.P
