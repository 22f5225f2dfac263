import Derived.Test.YtmebjfclpalmaaaGreatDoorW01
import Derived.Laws.Rows
import Derived.Laws.Tables
import Derived.Deep.DeepMust
import Derived.Deep.MidRow
import Derived.Lib.BufferWrite
set_option maxRecDepth 100000
set_option maxHeartbeats 8000000
set_option linter.unusedSimpArgs false
open Go.Proofs Go.RowKit Go.W Tryz
namespace Go.W
def Zq9 (m:Nat) (x:Int):Int:=bits .or .u32 (x*2 ^ m % 4294967296) (x / 2 ^ (32 - m))
def Z1y (hs:Nat->Int) (i:Nat):Nat->Int
 | 0=>0
 | j+1=>bits .or .u32 (Z1y hs i j*256 % 4294967296) (hs (4*i+j) % 4294967296)
def Z8b (hs:Nat->Int) (i j k:Nat):Int:=if k < i then Z1y hs k 4 else if k=i then Z1y hs i j else 0
def Yco (x:Int):Int:=bits .xor .u32 (bits .xor .u32 (Zq9 25 x) (Zq9 14 x)) (x / 8)
def Ybn (x:Int):Int:=bits .xor .u32 (bits .xor .u32 (Zq9 15 x) (Zq9 13 x)) (x / 1024)
def Za8 (hs:Nat->Int):Nat->Nat->Int
 | 0,k=>Z8b hs 16 0 k
 | n+1,k=>if k=16+n then(Za8 hs n n+Yco (Za8 hs n (n+1))+Za8 hs n (9+n)+Ybn (Za8 hs n (14+n))) % 4294967296 else Za8 hs n k
end Go.W
namespace Go.P
variable {w:World}{L n k b o:Nat}{e:TypeId}{f g:Nat->Int}{v:Value}
theorem Zgq (x z:Int)(m:Nat)(hz:bits .and .u64 (IntKind.u64.wrap z) 31=(m:Int))(h0:0 < m)(h1:m < 32)(w:World):Calls prog 158 #[.int .u32 x,.int .i64 z] w fun e w'=>e= .returned (.int .u32 (Zq9 m x))/\w'=w:=by
 go_in
 go_wp2
 go_ret
 exact⟨rfl,rfl⟩
def Zeg (w:World) (L:Nat) (e:TypeId) (n:Nat) (f:Nat->Int):Prop:= ∃ vs:Array Value,Blk w L vs e/\vs.size=n/\ ∀ k,k < n->vs[k]?=some (.int .u32 (f k))
def Zna (w:World) (L:Nat) (e:TypeId) (n:Nat) (f:Nat->Int):Prop:= ∃ vs:Array Value,Blk w L vs e/\vs.size=n/\ ∀ k,k < n->vs[k]?=some (.int .u8 (f k))
theorem Zeg.cell (h:Zeg w L e n f)(hk:k < n):w.cell? ⟨L,k,none⟩=some (.int .u32 (f k)):=by
 obtain⟨vs,hb,_,hv⟩:=h;rw[hb.cell,hv k hk]
theorem Zeg.soft (h:Zeg w L e n f)(k:Nat):w.frozen? ⟨L,k,none⟩=false:=by
 obtain⟨vs,hb,_,hv⟩:=h;exact hb.soft k
theorem Zna.cell (h:Zna w L e n f)(hk:k < n):w.cell? ⟨L,k,none⟩=some (.int .u8 (f k)):=by
 obtain⟨vs,hb,_,hv⟩:=h;rw[hb.cell,hv k hk]
theorem Zeg.set (h:Zeg w L e n f){x:Int}(hg: ∀ j,j < n->g j=if j=k then x else f j):Zeg (w.setCell ⟨L,k,none⟩ (.int .u32 x)) L e n g:=by
 obtain⟨vs,hb,hs,hv⟩:=h;refine⟨_,hb.set k _,by simp[hs],fun j hj=>?_⟩;rw[Ydd,hg j hj];by_cases hjk:j=k
 ·subst hjk;simp[hs,hj]
 ·rw[if_neg (fun z=>hjk z.symm),if_neg hjk,hv j hj]
theorem Zna.away (h:Zna w L e n f)(hne:L≠b):Zna (w.setCell ⟨b,o,none⟩ v) L e n f:=by
 obtain⟨vs,hb,r⟩:=h;exact⟨vs,hb.away b o hne v,r⟩
def Z8o (wr:World) (L:Nat) (e:TypeId) (n:Nat):Prop:= ∃ old:Array Value,Blk wr L old e/\old.size=n
theorem Z8o.away (h:Z8o w L e n)(hne:L≠b):Z8o (w.setCell ⟨b,o,none⟩ v) L e n:=by
 obtain⟨vs,hb,r⟩:=h;exact⟨vs,hb.away b o hne v,r⟩
theorem Zeg.congr (h:Zeg w L e n f)(hg: ∀ k,k < n->g k=f k):Zeg w L e n g:=by
 obtain⟨vs,hb,hs,hv⟩:=h;exact⟨vs,hb,hs,fun k hk=>by rw[hv k hk,hg k hk]⟩
def Zc6:Array Value:=#[.int .u32 0,.int .u32 0,.int .u32 0,.int .u32 0,.int .u32 0,.int .u32 0,.int .u32 0,.int .u32 0,.int .u32 0,.int .u32 0,.int .u32 0,.int .u32 0,.int .u32 0,.int .u32 0,.int .u32 0,.int .u32 0,.int .u32 0,.int .u32 0,.int .u32 0,.int .u32 0,.int .u32 0,.int .u32 0,.int .u32 0,.int .u32 0,.int .u32 0,.int .u32 0,.int .u32 0,.int .u32 0,.int .u32 0,.int .u32 0,.int .u32 0,.int .u32 0,.int .u32 0,.int .u32 0,.int .u32 0,.int .u32 0,.int .u32 0,.int .u32 0,.int .u32 0,.int .u32 0,.int .u32 0,.int .u32 0,.int .u32 0,.int .u32 0,.int .u32 0,.int .u32 0,.int .u32 0,.int .u32 0,.int .u32 0,.int .u32 0,.int .u32 0,.int .u32 0,.int .u32 0,.int .u32 0,.int .u32 0,.int .u32 0,.int .u32 0,.int .u32 0,.int .u32 0,.int .u32 0,.int .u32 0,.int .u32 0,.int .u32 0,.int .u32 0]
theorem Z7v (k:Nat)(hk:k < 64):Zc6[k]?=some (.int .u32 0):=by
 have e:Zc6=Array.replicate 64 (.int .u32 0):=by kernel_rfl
 rw[e];simp[hk]
def Z5p (w:World) (hs:Nat->Int) (iv:Value) (wr:World):Prop:= ∃ i:Nat,i<=16/\iv= .int .i64 (i:Int)/\Below w.heap.size w wr/\Z8o wr (w.heap.size+1) 266 64/\Zna wr w.heap.size 171 64 hs/\Zeg wr (w.heap.size+1+1) 266 64 (Z8b hs i 0)
def Z5q (w:World) (hs:Nat->Int) (i:Nat) (jv:Value) (wr:World):Prop:= ∃ j:Nat,j<=4/\jv= .int .i64 (j:Int)/\Below w.heap.size w wr/\Z8o wr (w.heap.size+1) 266 64/\Zna wr w.heap.size 171 64 hs/\Zeg wr (w.heap.size+1+1) 266 64 (Z8b hs i j)
def Z5r (w:World) (hs:Nat->Int) (iv:Value) (wr:World):Prop:= ∃ m:Nat,16<=m/\m<=64/\iv= .int .i64 (m:Int)/\Below w.heap.size w wr/\Z8o wr (w.heap.size+1) 266 64/\Zeg wr (w.heap.size+1+1) 266 64 (Za8 hs (m - 16))
theorem Zwz (v:Array Value)(hs:Nat->Int)(w:World)(h64:v.size=64)(hv: ∀ k,k < 64->v[k]?=some (.int .u8 (hs k))):Calls prog 157 #[.agg v] w fun e w'=>Below w.heap.size w w'/\ ∃ vs:Array Value,e= .returned (.agg vs)/\vs.size=64/\ ∀ k,k < 64->vs[k]?=some (.int .u32 (Za8 hs 48 k)):=by
 go_in
 go_wp2
 go_loopw [9] (fun iv wr=>Z5p w hs iv wr) (fun iv _=>16 - (intOf iv).toNat)
 case atStart=>
  have e8:Blk ((w.alloc (.cells v 171)).alloc (.cells Zc6 266)) w.heap.size v 171:=(Blk.new w v _).alloc _;have er:Blk ((w.alloc (.cells v 171)).alloc (.cells Zc6 266)) (w.heap.size+1) Zc6 266:=by
   have:=Blk.new (w.alloc (.cells v 171)) Zc6 266
   simp only[Ydm]at this;exact this
  have ep:Blk (((w.alloc (.cells v 171)).alloc (.cells Zc6 266)).alloc (.cells Zc6 266)) (w.heap.size+1+1) Zc6 266:=by
   have:=Blk.new ((w.alloc (.cells v 171)).alloc (.cells Zc6 266)) Zc6 266
   simp only[Ydm]at this;exact this
  refine⟨0,by omega,rfl,(((Ydb w.heap.size w).alloc lr _).alloc (by simp) _).alloc (by simp;omega) _,⟨Zc6,er.alloc _,rfl⟩,⟨v,e8.alloc _,h64,hv⟩,⟨Zc6,ep,rfl,fun k hk=>?_⟩⟩;rw[Z7v k hk];unfold Z8b;rw[if_neg (by omega)];split
  ·rename_i h0;subst h0;rfl
  ·rfl
 case round=>
  obtain⟨i,hi,rfl,hb,hro,h8,h32⟩:=hrel;by_cases hlt:i < 16
  ·have g:(i:Int) < 16:=by omega
   go_wp2
   go_loopw [12] (fun jv wq=>Z5q w hs i jv wq) (fun jv _=>4 - (intOf jv).toNat)
   case atStart=>exact⟨0,by omega,rfl,hb,hro,h8,h32⟩
   case round=>
    clear hb hro h8 h32;obtain⟨j,hj,rfl,hb,hro,h8,h32⟩:=hrel;by_cases hlj:j < 4
    ·have g2:(j:Int) < 4:=by omega
     have c8:=h8.cell (k:=4*i+j) (by omega);have c32:=h32.cell (k:=i) (by omega);have sf:=h32.soft;go_wp2_with fail
     have hw:Z8b hs i j i=Z1y hs i j:=by unfold Z8b;rw[if_neg (by omega),if_pos rfl]
     rw[hw]at c32;have H:=Zaa (Yda hb (Yda h8 h32));have HO:=Zaa hro;clear hb hro h8 h32 hw;generalize hx:Z1y hs i j=x at*;go_region
     go_wp2
     go_roundw
     case rel=>exact⟨j+1,by omega,by simp,((H.out.1.setCell (by show _<=w.heap.size+1+1;omega) _).drew),HO.out.away (by omega),H.out.2.1.away (by omega),H.out.2.2.set fun k hk=>by
      unfold Z8b;by_cases hki:k=i
      ·subst hki;rw[if_pos rfl,if_neg (by omega),if_pos rfl,Z1y,hx]
      ·rw[if_neg hki,if_neg hki,if_neg hki]⟩
     case measure=>simp[intOf];omega
    ·obtain rfl:j=4:=by omega
     go_wp2
     go_roundw
     case rel=>exact⟨i+1,by omega,by simp,hb,hro,h8,h32.congr fun k hk=>by
      unfold Z8b;by_cases hk1:k < i
      ·rw[if_pos hk1,if_pos (by omega)]
      ·by_cases hk2:k=i
       ·subst hk2;rw[if_neg hk1,if_pos rfl,if_pos (by omega)]
       ·rw[if_neg hk1,if_neg hk2,if_neg (by omega)];split <;> rfl⟩
     case measure=>simp[intOf];omega
  ·obtain rfl:i=16:=by omega
   have H:=Zaa (Yda hb (Yda h8 h32));have HO:=Zaa hro;clear hb hro h8 h32;go_wp2
   go_loopw [6] (fun iv wq=>Z5r w hs iv wq) (fun iv _=>64 - (intOf iv).toNat)
   case atStart=>exact⟨16,by omega,by omega,rfl,H.out.1,HO.out,H.out.2.2.congr fun k hk=>rfl⟩
   case round=>
    clear H HO;obtain⟨m,hn0,hn,rfl,hb,hro,h32⟩:=hrel;by_cases hln:m < 64
    ·have g2:(m:Int) < 64:=by omega
     have c1:=h32.cell (k:=m - 15) (by omega);have c2:=h32.cell (k:=m - 2) (by omega);have c3:=h32.cell (k:=m - 16) (by omega);have c4:=h32.cell (k:=m - 7) (by omega);have c5:=h32.cell (k:=m) (by omega);have sf:=h32.soft;have PS:Box (∀ j,Za8 hs (m - 16+1) j=if j=m then(Za8 hs (m - 16) (m - 16)+Yco (Za8 hs (m - 16) (m - 15))+Za8 hs (m - 16) (m - 7)+Ybn (Za8 hs (m - 16) (m - 2))) % 4294967296 else Za8 hs (m - 16) j):=⟨fun j=>by
      rw[Za8,show 16+(m - 16)=m by omega,show m - 16+1=m - 15 by omega,show 9+(m - 16)=m - 7 by omega,show 14+(m - 16)=m - 2 by omega]⟩
     have HB:=Zaa hb;have HO:=Zaa hro;have H32:=Zaa h32;clear hb hro h32;generalize Za8 hs (m - 16) (m - 15)=x1 at*;generalize Za8 hs (m - 16) (m - 2)=x2 at*;generalize Za8 hs (m - 16) (m - 16)=x3 at*;generalize Za8 hs (m - 16) (m - 7)=x4 at*;have R:=Zaa (fun(x:Int) u=>Yda (Zgq x (-7) 25 (by decide) (by decide) (by decide) u) (Yda (Zgq x (-18) 14 (by decide) (by decide) (by decide) u) (Yda (Zgq x (-17) 15 (by decide) (by decide) (by decide) u) (Zgq x (-19) 13 (by decide) (by decide) (by decide) u))));go_wp2
     go_quiet (fail)
     go_wp2_with fail
     refine(R.out _ _).1.mono ?_;rintro e w' ⟨rfl,rfl⟩;go_wp2_with fail
     refine(R.out _ _).2.1.mono ?_;rintro e w' ⟨rfl,rfl⟩;go_wp2_with fail
     refine(R.out _ _).2.2.1.mono ?_;rintro e w' ⟨rfl,rfl⟩;go_wp2_with fail
     refine(R.out _ _).2.2.2.mono ?_;rintro e w' ⟨rfl,rfl⟩;go_wp2
     go_region
     all_goals go_wp2_with fail
     refine⟨?_,by simp[intOf];omega⟩
     repeat' first | (refine⟨?_,rfl⟩;exact⟨m+1,by omega,by omega,by simp,(Zb6 HB.out).setCell (p:=⟨w.heap.size+1+1,m,none⟩) (by show _<=w.heap.size+1+1;omega) _,Z8o.away (w:=wr.drewN _) HO.out (by omega),by rw[show m+1 - 16=m - 16+1 by omega];exact Zeg.set (w:=wr.drewN _) H32.out fun j hj=>PS.out j⟩) | apply Exists.intro
    ·obtain rfl:m=64:=by omega
     have HB:=Zaa hb;have H32:=Zaa h32;obtain⟨vs,hbl,hsz,hvs⟩:=h32;obtain⟨old,hol,hos⟩:=hro;have h64i:(prog.info? 266).map (·.size)=some vs.size:=by rw[hsz];kernel_rfl
     have hone:vs.all (·.oneCell')=true:=by
      rw[Array.all_eq_true];intro q hq
      have:=hvs q (by omega)
      rw[Array.getElem?_eq_getElem hq,Option.some.injEq]at this;rw[this];rfl
     clear hb;go_wp2_with (first
      | (refine Yfh rfl 266 (.tmp 3) rfl (w.heap.size+1+1) rfl 266 vs (0,0) _ hbl underlying266 rfl h64i ?_)
      | (refine Yfa rfl 266 (.tmp 2) (.tmp 74) rfl (w.heap.size+1) vs rfl rfl 266 old hol h64i (by omega) hone ?_))
     refine Ye6 (results_cell_row (p:=2) (ty:=266) rfl _ _ (w.heap.size+1) 266 vs (0,0) _ rfl (Yfe wr _ old vs _ _ hol) underlying266 rfl h64i) rfl ?_;refine⟨⟨HB.out.os,HB.out.tape,HB.out.output,by rw[Yfd];exact HB.out.size,fun j hj=>(Ye8 wr _ j vs (by omega)).trans (HB.out.block j hj)⟩,vs,rfl,hsz,hvs⟩
end Go.P
namespace Go.W
def Ycr (k p:Int) (s:Nat->Int):Int:=s 7+bits .xor .u32 (bits .xor .u32 (Zq9 26 (s 4)) (Zq9 21 (s 4))) (Zq9 7 (s 4))+bits .xor .u32 (bits .and .u32 (s 4) (s 5)) (bits .and .u32 (bits .xor .u32 IntKind.u32.max (s 4)) (s 6))+k+p
def Z9n (k p:Int) (s:Nat->Int):Nat->Int
 | 0=>((Ycr k p s+bits .xor .u32 (bits .xor .u32 (Zq9 30 (s 0)) (Zq9 19 (s 0))) (Zq9 10 (s 0))) % 4294967296+bits .xor .u32 (bits .xor .u32 (bits .and .u32 (s 0) (s 1)) (bits .and .u32 (s 0) (s 2))) (bits .and .u32 (s 1) (s 2))) % 4294967296
 | 1=>s 0
 | 2=>s 1
 | 3=>s 2
 | 4=>(s 3+Ycr k p s % 4294967296) % 4294967296
 | 5=>s 4
 | 6=>s 5
 | _=>s 6
def Zd9 (ps:Nat->Int):Nat->(Nat->Int)->(Nat->Int)
 | 0,s=>s
 | n+1,s=>Z9n ((Zmk.getD n 0:Nat):Int) (ps n) (Zd9 ps n s)
end Go.W
namespace Go.P
variable {a:Nat->Addr}{w:World}{b n k:Nat}{ws hs:Nat->Int}{m:Int}
theorem Zao.steps (h:Zao a w)(i:Nat)(hi:i < 64):w.cell? ⟨12,i,none⟩=some (.int .u32 ((Zmk.getD i 0:Nat):Int)):=by
 obtain⟨_,h0,h1⟩:=h;have hl:i < Zmk.length:=hi;exact(h1 _ _ (by decide)).2.trans (h0.steps i _ (by rw[List.getD,Ydi hl];rfl))
def Yan (W:World) (ps ws:Nat->Int) (va vb vc vd ve vf vg vh iv:Value) (wr:World):Prop:= ∃ i:Nat,i<=64/\iv= .int .i64 (i:Int)/\(∃ n,wr=W.drewN n)/\va= .int .u32 (Zd9 ps i ws 0)/\vb= .int .u32 (Zd9 ps i ws 1)/\vc= .int .u32 (Zd9 ps i ws 2)/\vd= .int .u32 (Zd9 ps i ws 3)/\ve= .int .u32 (Zd9 ps i ws 4)/\vf= .int .u32 (Zd9 ps i ws 5)/\vg= .int .u32 (Zd9 ps i ws 6)/\vh= .int .u32 (Zd9 ps i ws 7)
def Mx (w:World) (b:Nat) (ws hs:Nat->Int) (n:Nat) (m:Int):Prop:= ∃ vs:Array Value,Blk w b vs 174/\vs.size=74/\(∀ k,k < 8->vs[k]?=some (.int .u32 (ws k)))/\(∀ k,k < 64->vs[8+k]?=some (.int .u8 (hs k)))/\vs[72]?=some (.int .i64 (n:Int))/\vs[73]?=some (.int .u64 m)
def Zwh (hs:Nat->Int):List Value:=(List.range 64).map fun k=> .int .u8 (hs k)
theorem Mx.held (h:Mx w b ws hs n m):w.rangeAt b 8 (Zwh hs):=by
 obtain⟨vs,hb,_,_,hh,_⟩:=h;intro j v hj;rw[hb.cell];unfold Zwh at hj;rw[Yd5]at hj;obtain⟨k,hk,rfl⟩:=Yd0.1 hj
 have:=Ydl.1 hk
 obtain⟨hl,he⟩:=this;simp at hl he;subst he;exact hh j hl
theorem Mx.of {u:World}(h:Mx w b ws hs n m)(k:u.heap[b]?=w.heap[b]?):Mx u b ws hs n m:=by
 obtain⟨vs,hb,r⟩:=h;exact⟨vs,hb.of k,r⟩
theorem Mx.word (h:Mx w b ws hs n m)(hk:k < 8):w.cell? ⟨b,k,none⟩=some (.int .u32 (ws k)):=by
 obtain⟨vs,hb,_,h8,_⟩:=h;rw[hb.cell,h8 k hk]
theorem Mx.soft (h:Mx w b ws hs n m)(k:Nat):w.frozen? ⟨b,k,none⟩=false:=by
 obtain⟨vs,hb,_⟩:=h;exact hb.soft k
theorem Mx.lt (h:Mx w b ws hs n m):b < w.heap.size:=by
 obtain⟨vs,hb,_⟩:=h;exact hb.lt
theorem Mx.setWord {vs':Nat->Int}(h:Mx w b ws hs n m)(hk:k < 8){x:Int}(hg: ∀ j,j < 8->vs' j=if j=k then x else ws j):Mx (w.setCell ⟨b,k,none⟩ (.int .u32 x)) b vs' hs n m:=by
 obtain⟨vs,hb,h74,h8,hh,h72,h73⟩:=h;refine⟨_,hb.set k _,by simp[h74],fun j hj=>?_,fun j hj=>?_,?_,?_⟩
 ·rw[Ydd,hg j hj];by_cases hjk:j=k
  ·subst hjk;rw[if_pos rfl,if_pos (by omega),if_pos rfl]
  ·rw[if_neg (fun z=>hjk z.symm),if_neg hjk,h8 j hj]
 ·rw[Ydd,if_neg (by omega),hh j hj]
 ·rw[Ydd,if_neg (by omega),h72]
 ·rw[Ydd,if_neg (by omega),h73]
theorem Yce (x0 x1 x2 x3 x4 x5 x6 x7:Int)(k:Nat)(hk:k < 8): ∃ x,(∀ X:Nat->Int,X 0=x0->X 1=x1->X 2=x2->X 3=x3->X 4=x4->X 5=x5->X 6=x6->X 7=x7->X k=x)/\ ∀ w,(Instr.index 170 (.agg #[.int .u32 x0,.int .u32 x1,.int .u32 x2,.int .u32 x3,.int .u32 x4,.int .u32 x5,.int .u32 x6,.int .u32 x7]) (.int .i64 (k:Int))).run prog w= .ok (.int .u32 x) w:=by
 have g:k=0\/k=1\/k=2\/k=3\/k=4\/k=5\/k=6\/k=7:=by omega
 rcases g with rfl | rfl | rfl | rfl | rfl | rfl | rfl | rfl
 ·exact⟨x0,fun X h0 h1 h2 h3 h4 h5 h6 h7=>h0,fun _=>by kernel_rfl⟩
 ·exact⟨x1,fun X h0 h1 h2 h3 h4 h5 h6 h7=>h1,fun _=>by kernel_rfl⟩
 ·exact⟨x2,fun X h0 h1 h2 h3 h4 h5 h6 h7=>h2,fun _=>by kernel_rfl⟩
 ·exact⟨x3,fun X h0 h1 h2 h3 h4 h5 h6 h7=>h3,fun _=>by kernel_rfl⟩
 ·exact⟨x4,fun X h0 h1 h2 h3 h4 h5 h6 h7=>h4,fun _=>by kernel_rfl⟩
 ·exact⟨x5,fun X h0 h1 h2 h3 h4 h5 h6 h7=>h5,fun _=>by kernel_rfl⟩
 ·exact⟨x6,fun X h0 h1 h2 h3 h4 h5 h6 h7=>h6,fun _=>by kernel_rfl⟩
 ·exact⟨x7,fun X h0 h1 h2 h3 h4 h5 h6 h7=>h7,fun _=>by kernel_rfl⟩
theorem Ycp (X:Nat->Int)(k:Nat)(hk:k < 8)(w:World):(Instr.index 170 (.agg #[.int .u32 (X 0),.int .u32 (X 1),.int .u32 (X 2),.int .u32 (X 3),.int .u32 (X 4),.int .u32 (X 5),.int .u32 (X 6),.int .u32 (X 7)]) (.int .i64 (k:Int))).run prog w= .ok (.int .u32 (X k)) w:=by
 obtain⟨x,hx,h⟩:=Yce (X 0) (X 1) (X 2) (X 3) (X 4) (X 5) (X 6) (X 7) k hk;rw[hx X rfl rfl rfl rfl rfl rfl rfl rfl];exact h w
def Zjo (hs ws:Nat->Int) (k:Nat):Int:=(ws k+Zd9 (Za8 hs 48) 64 ws k) % 4294967296
def Yae (b:Nat) (w:World) (ws hs:Nat->Int) (n:Nat) (m:Int) (iv:Value) (wr:World):Prop:= ∃ k:Nat,k<=8/\iv= .int .i64 (k:Int)/\Mx wr b (fun j=>if j < k then Zjo hs ws j else ws j) hs n m/\Zah b w wr
theorem Zwo (Z:Zao a w)(h:Mx w b ws hs n m):Calls prog 121 #[.pointer (some ⟨b,0,none⟩)] w fun e w'=>e= .returned (.tuple #[])/\Zah b w w'/\Mx w' b (Zjo hs ws) hs n m:=by
 have HH:=h.held;have HM:=Zaa h;have hlen:(prog.info? 171).map (·.size)=some (Zwh hs).length:=by kernel_rfl
 have CP:=Zaa (fun u=>Zwz (Zwh hs).toArray hs u (by simp[Zwh]) (fun k hk=>by simp[Zwh,hk]));obtain⟨vs,hb,h74,hw8,-,h72,h73⟩:=h;have w0:=(hb.cell 0).trans (hw8 0 (by decide));have w1:=(hb.cell 1).trans (hw8 1 (by decide));have w2:=(hb.cell 2).trans (hw8 2 (by decide));have w3:=(hb.cell 3).trans (hw8 3 (by decide));have w4:=(hb.cell 4).trans (hw8 4 (by decide));have w5:=(hb.cell 5).trans (hw8 5 (by decide));have w6:=(hb.cell 6).trans (hw8 6 (by decide));have w7:=(hb.cell 7).trans (hw8 7 (by decide));go_in
 have HB:=Zaa hb;have ZZ:=Zaa Z;clear hw8 hb Z;go_wp2_with (refine wpList_load_mid rfl 171 (.tmp 20) rfl b 8 rfl (Zwh hs) _ HH underlying171 rfl hlen ?_)
 refine(CP.out _).mono ?_;rintro e u1 ⟨hbu,ps,rfl,hps,hpv⟩;clear HH hlen;have hblt:=HB.out.lt;have hsu:=hbu.size;obtain⟨W,hW⟩: ∃ W,(u1.alloc (.cells Zc6 266)).setRow u1.heap.size ps=W:=⟨_,rfl⟩;have hpi:(prog.info? 266).map (·.size)=some ps.size:=by rw[hps];kernel_rfl
 have hone:ps.all (·.oneCell')=true:=by
  rw[Array.all_eq_true];intro q hq
  have:=hpv q (by omega)
  rw[Array.getElem?_eq_getElem hq,Option.some.injEq]at this;rw[this];rfl
 have LP:Box (Blk W u1.heap.size ps 266):=⟨hW▸Yfe _ _ _ _ _ _ (Blk.new u1 Zc6 _)⟩;have W0:W.cell? ⟨b,0,none⟩=some (.int .u32 (ws 0)):=hW▸(Yfm _ _ _ ⟨b,0,none⟩ (by show b≠_;omega)).trans (Zab (Zab w0 hbu) ((Ydb _ u1).alloc lr _));have W1:W.cell? ⟨b,1,none⟩=some (.int .u32 (ws 1)):=hW▸(Yfm _ _ _ ⟨b,1,none⟩ (by show b≠_;omega)).trans (Zab (Zab w1 hbu) ((Ydb _ u1).alloc lr _));have W2:W.cell? ⟨b,2,none⟩=some (.int .u32 (ws 2)):=hW▸(Yfm _ _ _ ⟨b,2,none⟩ (by show b≠_;omega)).trans (Zab (Zab w2 hbu) ((Ydb _ u1).alloc lr _));have W3:W.cell? ⟨b,3,none⟩=some (.int .u32 (ws 3)):=hW▸(Yfm _ _ _ ⟨b,3,none⟩ (by show b≠_;omega)).trans (Zab (Zab w3 hbu) ((Ydb _ u1).alloc lr _));have W4:W.cell? ⟨b,4,none⟩=some (.int .u32 (ws 4)):=hW▸(Yfm _ _ _ ⟨b,4,none⟩ (by show b≠_;omega)).trans (Zab (Zab w4 hbu) ((Ydb _ u1).alloc lr _));have W5:W.cell? ⟨b,5,none⟩=some (.int .u32 (ws 5)):=hW▸(Yfm _ _ _ ⟨b,5,none⟩ (by show b≠_;omega)).trans (Zab (Zab w5 hbu) ((Ydb _ u1).alloc lr _));have W6:W.cell? ⟨b,6,none⟩=some (.int .u32 (ws 6)):=hW▸(Yfm _ _ _ ⟨b,6,none⟩ (by show b≠_;omega)).trans (Zab (Zab w6 hbu) ((Ydb _ u1).alloc lr _));have W7:W.cell? ⟨b,7,none⟩=some (.int .u32 (ws 7)):=hW▸(Yfm _ _ _ ⟨b,7,none⟩ (by show b≠_;omega)).trans (Zab (Zab w7 hbu) ((Ydb _ u1).alloc lr _));have BW:Box (Below w.heap.size w W):=⟨by
  have b1:=hbu.trans (((Ydb _ u1).alloc lr (.cells Zc6 266)).mono hsu);rw[<- hW];exact⟨b1.os,b1.tape,b1.output,by rw[Yfd];exact b1.size,fun j hj=>(Ye8 _ _ j ps (by omega)).trans (b1.block j hj)⟩⟩
 clear w0 w1 w2 w3 w4 w5 w6 w7;have HW:=Zaa hW;clear hW;go_wp2_with (refine Yfa rfl 266 (.tmp 2) (.tmp 22) rfl u1.heap.size ps rfl rfl 266 Zc6 (Blk.new u1 Zc6 _) hpi hps.symm hone ?_;show wpList _ _ _ _ _ ((u1.alloc (.cells Zc6 266)).setRow u1.heap.size ps);rw[HW.out])
 try simp only[Act.put]
 go_quiet (fail)
 go_wp2
 go_loopw [3,4,5,6,7,8,9,10,63] (fun va vb vc vd ve vf vg vh iv wr=>Yan W (Za8 hs 48) ws va vb vc vd ve vf vg vh iv wr) (fun _ _ _ _ _ _ _ _ iv _=>64 - (intOf iv).toNat)
 case atStart=>exact⟨0,by omega,rfl,⟨_,rfl⟩,rfl,rfl,rfl,rfl,rfl,rfl,rfl,rfl⟩
 case round=>
  obtain⟨i,hi,rfl,⟨q,rfl⟩,rfl,rfl,rfl,rfl,rfl,rfl,rfl,rfl⟩:=hrel;by_cases hlt:i < 64
  ·have g:(i:Int) < 64:=by omega
   have cs:=(ZZ.out.below BW.out).steps i hlt;have cp:=(LP.out.cell i).trans (hpv i hlt);have R:=Zaa (fun(x:Int) u=>Yda (Zgq x (-6) 26 (by decide) (by decide) (by decide) u) (Yda (Zgq x (-11) 21 (by decide) (by decide) (by decide) u) (Yda (Zgq x (-25) 7 (by decide) (by decide) (by decide) u) (Yda (Zgq x (-2) 30 (by decide) (by decide) (by decide) u) (Yda (Zgq x (-13) 19 (by decide) (by decide) (by decide) u) (Zgq x (-22) 10 (by decide) (by decide) (by decide) u))))));have N0:Box (Zd9 (Za8 hs 48) (i+1) ws 0=((Zd9 (Za8 hs 48) i ws 7+bits .xor .u32 (bits .xor .u32 (Zq9 26 (Zd9 (Za8 hs 48) i ws 4)) (Zq9 21 (Zd9 (Za8 hs 48) i ws 4))) (Zq9 7 (Zd9 (Za8 hs 48) i ws 4))+bits .xor .u32 (bits .and .u32 (Zd9 (Za8 hs 48) i ws 4) (Zd9 (Za8 hs 48) i ws 5)) (bits .and .u32 (bits .xor .u32 IntKind.u32.max (Zd9 (Za8 hs 48) i ws 4)) (Zd9 (Za8 hs 48) i ws 6))+((Zmk.getD i 0:Nat):Int)+Za8 hs 48 i+bits .xor .u32 (bits .xor .u32 (Zq9 30 (Zd9 (Za8 hs 48) i ws 0)) (Zq9 19 (Zd9 (Za8 hs 48) i ws 0))) (Zq9 10 (Zd9 (Za8 hs 48) i ws 0))) % 4294967296+bits .xor .u32 (bits .xor .u32 (bits .and .u32 (Zd9 (Za8 hs 48) i ws 0) (Zd9 (Za8 hs 48) i ws 1)) (bits .and .u32 (Zd9 (Za8 hs 48) i ws 0) (Zd9 (Za8 hs 48) i ws 2))) (bits .and .u32 (Zd9 (Za8 hs 48) i ws 1) (Zd9 (Za8 hs 48) i ws 2))) % 4294967296):=⟨rfl⟩;have N4:Box (Zd9 (Za8 hs 48) (i+1) ws 4=(Zd9 (Za8 hs 48) i ws 3+(Zd9 (Za8 hs 48) i ws 7+bits .xor .u32 (bits .xor .u32 (Zq9 26 (Zd9 (Za8 hs 48) i ws 4)) (Zq9 21 (Zd9 (Za8 hs 48) i ws 4))) (Zq9 7 (Zd9 (Za8 hs 48) i ws 4))+bits .xor .u32 (bits .and .u32 (Zd9 (Za8 hs 48) i ws 4) (Zd9 (Za8 hs 48) i ws 5)) (bits .and .u32 (bits .xor .u32 IntKind.u32.max (Zd9 (Za8 hs 48) i ws 4)) (Zd9 (Za8 hs 48) i ws 6))+((Zmk.getD i 0:Nat):Int)+Za8 hs 48 i) % 4294967296) % 4294967296):=⟨rfl⟩;have NN:Box (Zd9 (Za8 hs 48) (i+1) ws 1=Zd9 (Za8 hs 48) i ws 0/\Zd9 (Za8 hs 48) (i+1) ws 2=Zd9 (Za8 hs 48) i ws 1/\Zd9 (Za8 hs 48) (i+1) ws 3=Zd9 (Za8 hs 48) i ws 2/\Zd9 (Za8 hs 48) (i+1) ws 5=Zd9 (Za8 hs 48) i ws 4/\Zd9 (Za8 hs 48) (i+1) ws 6=Zd9 (Za8 hs 48) i ws 5/\Zd9 (Za8 hs 48) (i+1) ws 7=Zd9 (Za8 hs 48) i ws 6):=⟨rfl,rfl,rfl,rfl,rfl,rfl⟩;generalize Zd9 (Za8 hs 48) i ws 0=sa at*;generalize Zd9 (Za8 hs 48) i ws 1=sb at*;generalize Zd9 (Za8 hs 48) i ws 2=sc at*;generalize Zd9 (Za8 hs 48) i ws 3=sd at*;generalize Zd9 (Za8 hs 48) i ws 4=se at*;generalize Zd9 (Za8 hs 48) i ws 5=sx at*;generalize Zd9 (Za8 hs 48) i ws 6=sg at*;generalize Zd9 (Za8 hs 48) i ws 7=sh at*;generalize Za8 hs 48 i=pl at*;generalize ((Zmk.getD i 0:Nat):Int)=kk at*;clear hpv W0 W1 W2 W3 W4 W5 W6 W7;go_wp2_with fail
   refine(R.out _ _).1.mono ?_;rintro e w' ⟨rfl,rfl⟩;go_wp2_with fail
   refine(R.out _ _).2.1.mono ?_;rintro e w' ⟨rfl,rfl⟩;go_wp2_with fail
   refine(R.out _ _).2.2.1.mono ?_;rintro e w' ⟨rfl,rfl⟩;go_wp2
   go_quiet (fail)
   go_wp2_with fail
   refine(R.out _ _).2.2.2.1.mono ?_;rintro e w' ⟨rfl,rfl⟩;go_wp2_with fail
   refine(R.out _ _).2.2.2.2.1.mono ?_;rintro e w' ⟨rfl,rfl⟩;go_wp2_with fail
   refine(R.out _ _).2.2.2.2.2.mono ?_;rintro e w' ⟨rfl,rfl⟩;go_wp2
   exact⟨⟨i+1,by omega,by simp,⟨_,rfl⟩,by rw[N0.out],by rw[NN.out.1],by rw[NN.out.2.1],by rw[NN.out.2.2.1],by rw[N4.out],by rw[NN.out.2.2.2.1],by rw[NN.out.2.2.2.2.1],by rw[NN.out.2.2.2.2.2]⟩,by simp[intOf];omega⟩
  ·obtain rfl:i=64:=by omega
   have M0:Box (Mx (W.drewN q) b ws hs n m):=⟨HM.out.of (BW.out.block b hblt)⟩;have K0:Box (Zah b w (W.drewN q)):=⟨((Zah.refl b w).ofBelow BW.out).dr q⟩;have IX:=fun k hk u=>Ycp (Zd9 (Za8 hs 48) 64 ws) k hk u;have XM:Box (∀ k,Zjo hs ws k=(ws k+Zd9 (Za8 hs 48) 64 ws k) % 4294967296):=⟨fun _=>rfl⟩;clear hpv W0 W1 W2 W3 W4 W5 W6 W7 CP LP HW;generalize Zd9 (Za8 hs 48) 64 ws=X at*;go_wp2
   go_loopw [138] (fun iv wr=>Yae b w ws hs n m iv wr) (fun iv _=>8 - (intOf iv).toNat)
   case atStart=>exact⟨0,by omega,rfl,by simpa using M0.out,K0.out⟩
   case round=>
    obtain⟨k,hk,rfl,hM,hK⟩:=hrel;by_cases hlk:k < 8
    ·have g:(k:Int) < 8:=by omega
     have ck:=hM.word hlk;rw[if_neg (by omega)]at ck;have sf:=hM.soft;have ix:=IX k hlk;have HM1:=Zaa hM;have HK1:=Zaa hK;have xm:=XM.out k;clear hM hK IX;go_wp2
     go_region
     all_goals go_wp2_with fail
     all_goals
      refine⟨⟨k+1,by omega,by simp,?_,?_⟩,by simp[intOf];omega⟩
      ·refine Mx.setWord (w:=wr.drewN 1) HM1.out hlk fun j hj=>?_;show(if j < k+1 then Zjo hs ws j else ws j)=if j=k then _ else(if j < k then Zjo hs ws j else ws j);by_cases hjk:j=k
       ·subst hjk;rw[if_pos (by omega),if_pos rfl,xm]
       ·rw[if_neg hjk];by_cases hj2:j < k
        ·rw[if_pos (by omega),if_pos hj2]
        ·rw[if_neg (by omega),if_neg hj2]
      ·exact HK1.out.drew.set _ _
    ·obtain rfl:k=8:=by omega
     have HM1:=Zaa hM;have HK1:=Zaa hK;clear hM hK;go_wp2_with fail
     refine⟨rfl,_,(by simp[results,results121,go_sem];try rfl),rfl,HK1.out,?_⟩;obtain⟨vs,hb,h74,h8,r⟩:=HM1.out;exact⟨vs,hb,h74,fun j hj=>by rw[h8 j hj];simp[hj],r⟩
end Go.P
namespace Go.W
structure Ms where
 ws:Nat->Int
 hs:Nat->Int
 n:Nat
def Z6p (s:Ms):Ms:=⟨fun k=>(s.ws k+Zd9 (Za8 s.hs 48) 64 s.ws k) % 4294967296,s.hs,0⟩
def Zw1 (s:Ms) (c:UInt8):Ms:=
 if s.n+1=64 then Z6p ⟨s.ws,fun j=>if j=s.n then(c.toNat:Int)else s.hs j,64⟩else⟨s.ws,fun j=>if j=s.n then(c.toNat:Int)else s.hs j,s.n+1⟩
def Zgx (s:Ms) (l:List UInt8):Ms:=l.foldl Zw1 s
def Zg6 (hs:Nat->Int) (n:Nat) (l:List UInt8) (j:Nat):Int:=if n<=j/\j < n+l.length then((l.getD (j - n) 0).toNat:Int)else hs j
theorem Zob (hs:Nat->Int)(n:Nat)(c:UInt8)(l:List UInt8):Zg6 (fun j=>if j=n then(c.toNat:Int)else hs j) (n+1) l=Zg6 hs n (c::l):=by
 funext j
 unfold Zg6;by_cases h1:n+1<=j/\j < n+1+l.length
 ·rw[if_pos h1,if_pos (by simp;omega),show j - n=(j - (n+1))+1 by omega,List.getD_cons_succ]
 ·rw[if_neg h1];show(if j=n then(c.toNat:Int)else hs j)=_;by_cases hj:j=n
  ·subst hj;rw[if_pos rfl,if_pos (by simp),Nat.sub_self,List.getD_cons_zero]
  ·rw[if_neg hj,if_neg (by simp;omega)]
theorem Z2b: ∀ (l:List UInt8) (s:Ms),s.n+l.length < 64->Zgx s l=⟨s.ws,Zg6 s.hs s.n l,s.n+l.length⟩
 | [],s,_=>by
  have e:Zg6 s.hs s.n []=s.hs:=by
   funext j
   unfold Zg6;exact if_neg (by simp;try omega)
  show s=_;rw[e];rfl
 | c::l,s,h=>by
  simp at h;show Zgx (Zw1 s c) l=_;unfold Zw1;rw[if_neg (by omega),Z2b l _ (by show s.n+1+l.length < 64;omega)];simp only[Zob,Ydp];rw[show s.n+1+l.length=s.n+(l.length+1)by omega]
theorem Zxw: ∀ (l:List UInt8) (s:Ms),l≠[]->s.n+l.length=64->Zgx s l=Z6p ⟨s.ws,Zg6 s.hs s.n l,64⟩
 | [],_,h,_=>absurd rfl h
 | [c],s,_,h=>by
  simp at h;show Zw1 s c=_;unfold Zw1;rw[if_pos (by omega)];have e:Zg6 s.hs s.n [c]=fun j=>if j=s.n then(c.toNat:Int)else s.hs j:=by
   rw[<- Zob];funext j
   unfold Zg6;exact if_neg (by simp;try omega)
  rw[e]
 | c::d::l,s,_,h=>by
  simp at h;show Zgx (Zw1 s c) (d::l)=_;unfold Zw1;rw[if_neg (by omega),Zxw (d::l) _ (by simp) (by simp;omega)];simp only[Zob]
theorem Zl3 (s:Ms)(l r:List UInt8):Zgx s (l++r)=Zgx (Zgx s l) r:=by unfold Zgx;rw[List.foldl_append]
theorem Zx4 {P:Program}(w:World)(dT sT ty elem:TypeId)(g o dLen dCap n:Nat)(s:ByteArray)(cur:Array Value)(t:TypeId)(hu:P.underlying dT=some (.slice elem))(hs:(P.info? elem).map (·.size)=some 1)(hg:w.heap[g]?=some (.cells cur t (0,0)))(hn:Nat.min s.size dLen=n)(hfit:o+n<=cur.size):
  (Builtin.copy_ #[dT,sT] ty #[.slice (some ⟨g,o,none⟩) dLen dCap,.string s]).run P w= .ok (goInt n) (w.setRow g (cur.toList.take o++Lib.byteCells (s.data.toList.take n)++cur.toList.drop (o+n)).toArray):=by
 have hle:n<=s.data.toList.length:=by
  have:n<=s.size:=hn▸Nat.min_le_left _ _
  simpa using this
 have hlen:(Lib.byteCells (s.data.toList.take n)).length=n:=by rw[Lib.byteCells_length,List.length_take];omega
 have hst:=run_storeCells_at P g o t (Lib.byteCells (s.data.toList.take n)) 0 cur w hg (by rw[hlen];simpa using hfit) (Lib.byteCells_one _);have htk:List.take n (List.map (fun b:UInt8=>Value.int IntKind.u8 (b.toNat:Int)) s.data.toList)=Lib.byteCells (s.data.toList.take n):=by
  unfold Lib.byteCells;rw[List.map_take]
 rw[hlen]at hst;simp only[Yey]at hst;cases hq:P.info? elem with
 | none=>simp[hq]at hs
 | some i=>
  simp[Builtin.copy_,Yff hu,Builtin.lenOf,Builtin.firstCells,sizeOf,typeInfo,hq,hn];rw[htk,hst];simp[Result.andThen]
end Go.W
