import Derived.Test.YtaoiihbjdonaoaaGreatDoorW00
import Derived.Laws.Rows
import Derived.Laws.Tables
import Derived.Deep.DeepMust
set_option maxRecDepth 100000
set_option maxHeartbeats 8000000
set_option linter.unusedSimpArgs false
open Go.Proofs Go.RowKit Go.W Tryz
namespace Go.W
def Nc (m:Nat) (x:Int):Int:=bits .or .u32 (x*2 ^ m % 4294967296)<|x / 2 ^ (32-m)
def kK (hs:Nat->Int) (i:Nat):Nat->Int
 | 0=>0
 | j+1=>bits .or .u32 (kK hs i j*256 % 4294967296) (hs (4*i+j) % 4294967296)
def bR (hs:Nat->Int) (i j k:Nat):Int:=if k<i then kK hs k 4 else if k=i then kK hs i j else 0
def Yj9 (x:Int):Int:=bits .xor .u32 (bits .xor .u32 (Nc 25 x)<|Nc 14 x)<|x / 8
def Yiq (x:Int):Int:=bits .xor .u32 (bits .xor .u32 (Nc 15 x)<|Nc 13 x)<|x / 1024
def Be (hs:Nat->Int):Nat->Nat->Int
 | 0,k=>bR hs 16 0 k
 | n+1,k=>if k=16+n then(Be hs n n+Yj9 (Be hs n<|n+1)+Be hs n (9+n)+Yiq (Be hs n<|14+n)) % 4294967296 else Be hs n k
end Go.W
namespace Go.P
variable {w:World}{L n k b o:Nat}{e:TypeId}{f g:Nat->Int}{v:Value}
theorem Xr (x z:Int)(m:Nat)(hz:bits .and .u64 (IntKind.u64.wrap z) 31=(m:Int))(h0:0<m)(h1:m<32)(w:World):Calls prog 204 #[.int .u32 x,zo z] w fun e w'=>e= .returned (.int .u32<|Nc m x)/\w'=w:=by
 go_in
 go_wp2
 go_ret
 exact⟨rfl,rfl⟩
def TT (w:World) (L:Nat) (e:TypeId) (n:Nat) (f:Nat->Int):Prop:= ∃ vs:Array Value,AO w L vs e/\vs.size=n/\ ∀ k,k<n->vs[k]?=some (.int .u32<|f k)
def fO (w:World) (L:Nat) (e:TypeId) (n:Nat) (f:Nat->Int):Prop:= ∃ vs:Array Value,AO w L vs e/\vs.size=n/\ ∀ k,k<n->vs[k]?=some (.int .u8<|f k)
theorem TT.cell (h:TT w L e n f)(hk:k<n):w.cell? (zm L k)=some (.int .u32<|f k):=by
 obtain⟨vs,hb,_,hv⟩:=h;rw[hb.cell,hv k hk]
theorem TT.soft (h:TT w L e n f)(k:Nat):w.frozen? (zm L k)=false:=by
 obtain⟨vs,hb,_,hv⟩:=h;exact hb.soft k
theorem fO.cell (h:fO w L e n f)(hk:k<n):w.cell? (zm L k)=some (.int .u8<|f k):=by
 obtain⟨vs,hb,_,hv⟩:=h;rw[hb.cell,hv k hk]
theorem TT.set (h:TT w L e n f){x:Int}(hg: ∀ j,j<n->g j=if j=k then x else f j):TT (w.setCell (zm L k)<|.int .u32 x) L e n g:=by
 obtain⟨vs,hb,hs,hv⟩:=h;refine⟨_,hb.set k _,by simp[hs],fun j hj=>?_⟩;rw[Dy,hg j hj];by_cases hjk:j=k
 ·subst hjk;simp[hs,hj]
 ·rw[if_neg fun z=>hjk z.symm,if_neg hjk,hv j hj]
theorem fO.away (h:fO w L e n f)(hne:L≠b):fO (w.setCell (zm b o) v) L e n f:=by
 obtain⟨vs,hb,r⟩:=h;exact⟨vs,hb.away b o hne v,r⟩
def gq (wr:World) (L:Nat) (e:TypeId) (n:Nat):Prop:= ∃ old:Array Value,AO wr L old e/\old.size=n
theorem gq.away (h:gq w L e n)(hne:L≠b):gq (w.setCell (zm b o) v) L e n:=by
 obtain⟨vs,hb,r⟩:=h;exact⟨vs,hb.away b o hne v,r⟩
theorem TT.congr (h:TT w L e n f)(hg: ∀ k,k<n->g k=f k):TT w L e n g:=by
 obtain⟨vs,hb,hs,hv⟩:=h;exact⟨vs,hb,hs,fun k hk=>by rw[hv k hk,hg k hk]⟩
def Oi:Array Value:=#[.int .u32 0,.int .u32 0,.int .u32 0,.int .u32 0,.int .u32 0,.int .u32 0,.int .u32 0,.int .u32 0,.int .u32 0,.int .u32 0,.int .u32 0,.int .u32 0,.int .u32 0,.int .u32 0,.int .u32 0,.int .u32 0,.int .u32 0,.int .u32 0,.int .u32 0,.int .u32 0,.int .u32 0,.int .u32 0,.int .u32 0,.int .u32 0,.int .u32 0,.int .u32 0,.int .u32 0,.int .u32 0,.int .u32 0,.int .u32 0,.int .u32 0,.int .u32 0,.int .u32 0,.int .u32 0,.int .u32 0,.int .u32 0,.int .u32 0,.int .u32 0,.int .u32 0,.int .u32 0,.int .u32 0,.int .u32 0,.int .u32 0,.int .u32 0,.int .u32 0,.int .u32 0,.int .u32 0,.int .u32 0,.int .u32 0,.int .u32 0,.int .u32 0,.int .u32 0,.int .u32 0,.int .u32 0,.int .u32 0,.int .u32 0,.int .u32 0,.int .u32 0,.int .u32 0,.int .u32 0,.int .u32 0,.int .u32 0,.int .u32 0,.int .u32 0]
theorem Yd3 (k:Nat)(hk:k<64):Oi[k]?=some (.int .u32 0):=by
 have e:Oi=Array.replicate 64 (.int .u32 0):=zt
 rw[e];simp[hk]
def Ybi (w:World) (hs:Nat->Int) (iv:Value) (wr:World):Prop:= ∃ i:Nat,i<=16/\iv= zo (i:Int)/\Bl w wr/\gq wr (w.heap.size+1) 325 64/\fO wr w.heap.size 176 64 hs/\TT wr (w.heap.size+1+1) 325 64 (bR hs i 0)
def Ybj (w:World) (hs:Nat->Int) (i:Nat) (jv:Value) (wr:World):Prop:= ∃ j:Nat,j<=4/\jv= zo (j:Int)/\Bl w wr/\gq wr (w.heap.size+1) 325 64/\fO wr w.heap.size 176 64 hs/\TT wr (w.heap.size+1+1) 325 64 (bR hs i j)
def Ybk (w:World) (hs:Nat->Int) (iv:Value) (wr:World):Prop:= ∃ m:Nat,16<=m/\m<=64/\iv= zo (m:Int)/\Bl w wr/\gq wr (w.heap.size+1) 325 64/\TT wr (w.heap.size+1+1) 325 64 (Be hs<|m-16)
theorem Z06 (v:Array Value)(hs:Nat->Int)(w:World)(DK:v.size=64)(hv: ∀ k,k<64->v[k]?=some (.int .u8<|hs k)):Calls prog 203 #[.agg v] w fun e w'=>Bl w w'/\ ∃ vs:Array Value,e= .returned (.agg vs)/\vs.size=64/\ ∀ k,k<64->vs[k]?=some (.int .u32<|Be hs 48 k):=by
 go_in
 go_wp2
 go_loopw [9] (fun iv wr=>Ybi w hs iv wr) (fun iv _=>16-(intOf iv).toNat)
 case atStart=>
  have e8:AO ((w.alloc<|.cells v 176).alloc<|.cells Oi 325) w.heap.size v 176:=(AO.new w v _).alloc _;have er:AO ((w.alloc<|.cells v 176).alloc<|.cells Oi 325) (w.heap.size+1) Oi 325:=by
   have:=AO.new (w.alloc<|.cells v 176) Oi 325
   simp only[EV]at this;exact this
  have ep:AO (((w.alloc<|.cells v 176).alloc<|.cells Oi 325).alloc<|.cells Oi 325) (w.heap.size+1+1) Oi 325:=by
   have:=AO.new ((w.alloc<|.cells v 176).alloc<|.cells Oi 325) Oi 325
   simp only[EV]at this;exact this
  refine⟨0,zx,rfl,(((AR w.heap.size w).alloc lr _).alloc zw _).alloc (by simp;omega) _,⟨Oi,er.alloc _,rfl⟩,⟨v,e8.alloc _,DK,hv⟩,⟨Oi,ep,rfl,fun k hk=>?_⟩⟩;rw[Yd3 k hk];unfold bR;rw[if_neg zx];split
  ·rename_i h0;subst h0;rfl
  ·rfl
 case round=>
  obtain⟨i,hi,rfl,hb,hro,h8,G7⟩:=hrel;by_cases hlt:i<16
  ·have g:(i:Int)<16:=zx
   go_wp2
   go_loopw [12] (fun jv wq=>Ybj w hs i jv wq) (fun jv _=>4-(intOf jv).toNat)
   case atStart=>exact⟨0,zx,rfl,hb,hro,h8,G7⟩
   case round=>
    clear hb hro h8 G7;obtain⟨j,hj,rfl,hb,hro,h8,G7⟩:=hrel;by_cases hlj:j<4
    ·have g2:(j:Int)<4:=zx
     have c8:=h8.cell (k:=4*i+j) zx;have c32:=G7.cell (k:=i) zx;have sf:=G7.soft;go_wp2_with fail
     have hw:bR hs i j i=kK hs i j:=by unfold bR;rw[if_neg zx,if_pos rfl]
     rw[hw]at c32;have H:=AC<|AJ hb<|AJ h8 G7;have HO:=AC hro;clear hb hro h8 G7 hw;generalize hx:kK hs i j=x at*;go_region
     go_wp2
     go_roundw
     case rel=>exact⟨j+1,zx,zw,((H.out.1.setCell (by show _<=w.heap.size+1+1;omega) _).drew),HO.out.away zx,H.out.2.1.away zx,H.out.2.2.set fun k hk=>by
      unfold bR;by_cases aJ:k=i
      ·subst aJ;rw[if_pos rfl,if_neg zx,if_pos rfl,kK,hx]
      ·rw[if_neg aJ,if_neg aJ,if_neg aJ]⟩
     case measure=>simp[intOf];omega
    ·obtain rfl:j=4:=zx
     go_wp2
     go_roundw
     case rel=>exact⟨i+1,zx,zw,hb,hro,h8,G7.congr fun k hk=>by
      unfold bR;by_cases AX:k<i
      ·rw[if_pos AX,if_pos zx]
      ·by_cases hk2:k=i
       ·subst hk2;rw[if_neg AX,if_pos rfl,if_pos zx]
       ·rw[if_neg AX,if_neg hk2,if_neg zx];split <;> rfl⟩
     case measure=>simp[intOf];omega
  ·obtain rfl:i=16:=zx
   have H:=AC<|AJ hb<|AJ h8 G7;have HO:=AC hro;clear hb hro h8 G7;go_wp2
   go_loopw [6] (fun iv wq=>Ybk w hs iv wq) (fun iv _=>64-(intOf iv).toNat)
   case atStart=>exact⟨16,zx,zx,rfl,H.out.1,HO.out,H.out.2.2.congr fun k hk=>rfl⟩
   case round=>
    clear H HO;obtain⟨m,QY,hn,rfl,hb,hro,G7⟩:=hrel;by_cases Yc:m<64
    ·have g2:(m:Int)<64:=zx
     have c1:=G7.cell (k:=m-15) zx;have c2:=G7.cell (k:=m-2) zx;have c3:=G7.cell (k:=m-16) zx;have c4:=G7.cell (k:=m-7) zx;have c5:=G7.cell (k:=m) zx;have sf:=G7.soft;have PS:AF (∀ j,Be hs (m-16+1) j=if j=m then(Be hs (m-16) (m-16)+Yj9 (Be hs (m-16)<|m-15)+Be hs (m-16) (m-7)+Yiq (Be hs (m-16)<|m-2)) % 4294967296 else Be hs (m-16) j):=⟨fun j=>by
      rw[Be,show 16+(m-16)=m by omega,show m-16+1=m-15 by omega,show 9+(m-16)=m-7 by omega,show 14+(m-16)=m-2 by omega]⟩
     have HB:=AC hb;have HO:=AC hro;have H32:=AC G7;clear hb hro G7;generalize Be hs (m-16) (m-15)=x1 at*;generalize Be hs (m-16) (m-2)=x2 at*;generalize Be hs (m-16) (m-16)=x3 at*;generalize Be hs (m-16) (m-7)=x4 at*;have R:=AC fun(x:Int) u=>AJ (Xr x (-7) 25 zu zu zu u) (AJ (Xr x (-18) 14 zu zu zu u)<|AJ (Xr x (-17) 15 zu zu zu u)<|Xr x (-19) 13 zu zu zu u);go_wp2
     go_quiet (fail)
     go_wp2_with fail
     refine(R.out _ _).1.mono ?_;rintro e w' ⟨rfl,rfl⟩;go_wp2_with fail
     refine(R.out _ _).2.1.mono ?_;rintro e w' ⟨rfl,rfl⟩;go_wp2_with fail
     refine(R.out _ _).2.2.1.mono ?_;rintro e w' ⟨rfl,rfl⟩;go_wp2_with fail
     refine(R.out _ _).2.2.2.mono ?_;rintro e w' ⟨rfl,rfl⟩;go_wp2
     go_region
     all_goals go_wp2_with fail
     refine⟨?_,by simp[intOf];omega⟩
     repeat' first | (refine⟨?_,rfl⟩;exact⟨m+1,zx,zx,zw,(MW HB.out).setCell (p:=(zm (w.heap.size+1+1) m)) (by show _<=w.heap.size+1+1;omega) _,gq.away (w:=wr.drewN _) HO.out zx,by rw[show m+1-16=m-16+1 by omega];exact TT.set (w:=wr.drewN _) H32.out fun j hj=>PS.out j⟩) | apply Exists.intro
    ·obtain rfl:m=64:=zx
     have HB:=AC hb;have H32:=AC G7;obtain⟨vs,hbl,hsz,UI⟩:=G7;obtain⟨old,iw,hos⟩:=hro;have ed:(prog.info? 325).map (·.size)=some vs.size:=by rw[hsz];kernel_rfl
     have Bw:vs.all (·.oneCell')=true:=by
      rw[Array.all_eq_true];intro q hq
      have:=UI q zx
      rw[Array.getElem?_eq_getElem hq,Option.some.injEq]at this;rw[this];rfl
     clear hb;go_wp2_with (first
      | (refine QN rfl 325 (.tmp 3) rfl (w.heap.size+1+1) rfl 325 vs (0,0) _ hbl underlying325 rfl ed ?_)
      | (refine Ij rfl 325 (.tmp 2) (.tmp 74) rfl (w.heap.size+1) vs rfl rfl 325 old iw ed zx Bw ?_))
     refine Bg (results_cell_row (p:=2) (ty:=325) rfl _ _ (w.heap.size+1) 325 vs (0,0) _ rfl (GM wr _ old vs _ _ iw) underlying325 rfl ed) rfl ?_;refine⟨⟨HB.out.os,HB.out.tape,HB.out.output,by rw[Ef];exact HB.out.size,fun j hj=>(Db wr _ j vs zx).trans (HB.out.block j hj)⟩,vs,rfl,hsz,UI⟩
end Go.P
