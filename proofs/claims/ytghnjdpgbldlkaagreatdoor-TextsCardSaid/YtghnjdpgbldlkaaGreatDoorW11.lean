import Derived.Test.YtghnjdpgbldlkaaGreatDoorW01
import Derived.Laws.Rows
import Derived.Laws.Tables
import Derived.Deep.DeepMust
set_option maxRecDepth 100000
set_option maxHeartbeats 8000000
set_option linter.unusedSimpArgs false
open Go.Proofs Go.RowKit Go.W Tryz
namespace Go.W
def KE (m:Nat) (x:Int):Int:=bits .or .u32 (x*2 ^ m % 4294967296)<|x / 2 ^ (32-m)
def bf (hs:Nat->Int) (i:Nat):Nat->Int
 | 0=>0
 | j+1=>bits .or .u32 (bf hs i j*256 % 4294967296) (hs (4*i+j) % 4294967296)
def Xl (hs:Nat->Int) (i j k:Nat):Int:=if k<i then bf hs k 4 else if k=i then bf hs i j else 0
def Yfy (x:Int):Int:=bits .xor .u32 (bits .xor .u32 (KE 25 x)<|KE 14 x)<|x / 8
def Yer (x:Int):Int:=bits .xor .u32 (bits .xor .u32 (KE 15 x)<|KE 13 x)<|x / 1024
def BV (hs:Nat->Int):Nat->Nat->Int
 | 0,k=>Xl hs 16 0 k
 | n+1,k=>if k=16+n then(BV hs n n+Yfy (BV hs n<|n+1)+BV hs n (9+n)+Yer (BV hs n<|14+n)) % 4294967296 else BV hs n k
end Go.W
namespace Go.P
variable {w:World}{L n k b o:Nat}{e:TypeId}{f g:Nat->Int}{v:Value}
theorem Up (x z:Int)(m:Nat)(hz:bits .and .u64 (IntKind.u64.wrap z) 31=(m:Int))(h0:0<m)(h1:m<32)(w:World):Calls prog 218 #[.int .u32 x,.int .i64 z] w fun e w'=>e= .returned (.int .u32<|KE m x)/\w'=w:=by
 go_in
 go_wp2
 go_ret
 exact⟨rfl,rfl⟩
def P7 (w:World) (L:Nat) (e:TypeId) (n:Nat) (f:Nat->Int):Prop:= ∃ vs:Array Value,AJ w L vs e/\vs.size=n/\ ∀ k,k<n->vs[k]?=some (.int .u32<|f k)
def ZS (w:World) (L:Nat) (e:TypeId) (n:Nat) (f:Nat->Int):Prop:= ∃ vs:Array Value,AJ w L vs e/\vs.size=n/\ ∀ k,k<n->vs[k]?=some (.int .u8<|f k)
theorem P7.cell (h:P7 w L e n f)(hk:k<n):w.cell? ⟨L,k,none⟩=some (.int .u32<|f k):=by
 obtain⟨vs,hb,_,hv⟩:=h;rw[hb.cell,hv k hk]
theorem P7.soft (h:P7 w L e n f)(k:Nat):w.frozen? ⟨L,k,none⟩=false:=by
 obtain⟨vs,hb,_,hv⟩:=h;exact hb.soft k
theorem ZS.cell (h:ZS w L e n f)(hk:k<n):w.cell? ⟨L,k,none⟩=some (.int .u8<|f k):=by
 obtain⟨vs,hb,_,hv⟩:=h;rw[hb.cell,hv k hk]
theorem P7.set (h:P7 w L e n f){x:Int}(hg: ∀ j,j<n->g j=if j=k then x else f j):P7 (w.setCell ⟨L,k,none⟩<|.int .u32 x) L e n g:=by
 obtain⟨vs,hb,hs,hv⟩:=h;refine⟨_,hb.set k _,by simp[hs],fun j hj=>?_⟩;rw[Bc,hg j hj];by_cases hjk:j=k
 ·subst hjk;simp[hs,hj]
 ·rw[if_neg fun z=>hjk z.symm,if_neg hjk,hv j hj]
theorem ZS.away (h:ZS w L e n f)(hne:L≠b):ZS (w.setCell ⟨b,o,none⟩ v) L e n f:=by
 obtain⟨vs,hb,r⟩:=h;exact⟨vs,hb.away b o hne v,r⟩
def U3 (wr:World) (L:Nat) (e:TypeId) (n:Nat):Prop:= ∃ old:Array Value,AJ wr L old e/\old.size=n
theorem U3.away (h:U3 w L e n)(hne:L≠b):U3 (w.setCell ⟨b,o,none⟩ v) L e n:=by
 obtain⟨vs,hb,r⟩:=h;exact⟨vs,hb.away b o hne v,r⟩
theorem P7.congr (h:P7 w L e n f)(hg: ∀ k,k<n->g k=f k):P7 w L e n g:=by
 obtain⟨vs,hb,hs,hv⟩:=h;exact⟨vs,hb,hs,fun k hk=>by rw[hv k hk,hg k hk]⟩
def La:Array Value:=#[.int .u32 0,.int .u32 0,.int .u32 0,.int .u32 0,.int .u32 0,.int .u32 0,.int .u32 0,.int .u32 0,.int .u32 0,.int .u32 0,.int .u32 0,.int .u32 0,.int .u32 0,.int .u32 0,.int .u32 0,.int .u32 0,.int .u32 0,.int .u32 0,.int .u32 0,.int .u32 0,.int .u32 0,.int .u32 0,.int .u32 0,.int .u32 0,.int .u32 0,.int .u32 0,.int .u32 0,.int .u32 0,.int .u32 0,.int .u32 0,.int .u32 0,.int .u32 0,.int .u32 0,.int .u32 0,.int .u32 0,.int .u32 0,.int .u32 0,.int .u32 0,.int .u32 0,.int .u32 0,.int .u32 0,.int .u32 0,.int .u32 0,.int .u32 0,.int .u32 0,.int .u32 0,.int .u32 0,.int .u32 0,.int .u32 0,.int .u32 0,.int .u32 0,.int .u32 0,.int .u32 0,.int .u32 0,.int .u32 0,.int .u32 0,.int .u32 0,.int .u32 0,.int .u32 0,.int .u32 0,.int .u32 0,.int .u32 0,.int .u32 0,.int .u32 0]
theorem Yam (k:Nat)(hk:k<64):La[k]?=some (.int .u32 0):=by
 have e:La=Array.replicate 64 (.int .u32 0):=zt
 rw[e];simp[hk]
def Z8c (w:World) (hs:Nat->Int) (iv:Value) (wr:World):Prop:= ∃ i:Nat,i<=16/\iv= .int .i64 (i:Int)/\Bl w wr/\U3 wr (w.heap.size+1) 304 64/\ZS wr w.heap.size 166 64 hs/\P7 wr (w.heap.size+1+1) 304 64 (Xl hs i 0)
def Z8d (w:World) (hs:Nat->Int) (i:Nat) (jv:Value) (wr:World):Prop:= ∃ j:Nat,j<=4/\jv= .int .i64 (j:Int)/\Bl w wr/\U3 wr (w.heap.size+1) 304 64/\ZS wr w.heap.size 166 64 hs/\P7 wr (w.heap.size+1+1) 304 64 (Xl hs i j)
def Z8e (w:World) (hs:Nat->Int) (iv:Value) (wr:World):Prop:= ∃ m:Nat,16<=m/\m<=64/\iv= .int .i64 (m:Int)/\Bl w wr/\U3 wr (w.heap.size+1) 304 64/\P7 wr (w.heap.size+1+1) 304 64 (BV hs<|m-16)
theorem Zy5 (v:Array Value)(hs:Nat->Int)(w:World)(Ej:v.size=64)(hv: ∀ k,k<64->v[k]?=some (.int .u8<|hs k)):Calls prog 217 #[.agg v] w fun e w'=>Bl w w'/\ ∃ vs:Array Value,e= .returned (.agg vs)/\vs.size=64/\ ∀ k,k<64->vs[k]?=some (.int .u32<|BV hs 48 k):=by
 go_in
 go_wp2
 go_loopw [9] (fun iv wr=>Z8c w hs iv wr) (fun iv _=>16-(intOf iv).toNat)
 case atStart=>
  have e8:AJ ((w.alloc<|.cells v 166).alloc<|.cells La 304) w.heap.size v 166:=(AJ.new w v _).alloc _;have er:AJ ((w.alloc<|.cells v 166).alloc<|.cells La 304) (w.heap.size+1) La 304:=by
   have:=AJ.new (w.alloc<|.cells v 166) La 304
   simp only[EH]at this;exact this
  have ep:AJ (((w.alloc<|.cells v 166).alloc<|.cells La 304).alloc<|.cells La 304) (w.heap.size+1+1) La 304:=by
   have:=AJ.new ((w.alloc<|.cells v 166).alloc<|.cells La 304) La 304
   simp only[EH]at this;exact this
  refine⟨0,zx,rfl,(((AQ w.heap.size w).alloc lr _).alloc zw _).alloc (by simp;omega) _,⟨La,er.alloc _,rfl⟩,⟨v,e8.alloc _,Ej,hv⟩,⟨La,ep,rfl,fun k hk=>?_⟩⟩;rw[Yam k hk];unfold Xl;rw[if_neg zx];split
  ·rename_i h0;subst h0;rfl
  ·rfl
 case round=>
  obtain⟨i,hi,rfl,hb,hro,h8,Ea⟩:=hrel;by_cases hlt:i<16
  ·have g:(i:Int)<16:=zx
   go_wp2
   go_loopw [12] (fun jv wq=>Z8d w hs i jv wq) (fun jv _=>4-(intOf jv).toNat)
   case atStart=>exact⟨0,zx,rfl,hb,hro,h8,Ea⟩
   case round=>
    clear hb hro h8 Ea;obtain⟨j,hj,rfl,hb,hro,h8,Ea⟩:=hrel;by_cases hlj:j<4
    ·have g2:(j:Int)<4:=zx
     have c8:=h8.cell (k:=4*i+j) zx;have c32:=Ea.cell (k:=i) zx;have sf:=Ea.soft;go_wp2_with fail
     have hw:Xl hs i j i=bf hs i j:=by unfold Xl;rw[if_neg zx,if_pos rfl]
     rw[hw]at c32;have H:=AA<|AF hb<|AF h8 Ea;have HO:=AA hro;clear hb hro h8 Ea hw;generalize hx:bf hs i j=x at*;go_region
     go_wp2
     go_roundw
     case rel=>exact⟨j+1,zx,zw,((H.out.1.setCell (by show _<=w.heap.size+1+1;omega) _).drew),HO.out.away zx,H.out.2.1.away zx,H.out.2.2.set fun k hk=>by
      unfold Xl;by_cases Wl:k=i
      ·subst Wl;rw[if_pos rfl,if_neg zx,if_pos rfl,bf,hx]
      ·rw[if_neg Wl,if_neg Wl,if_neg Wl]⟩
     case measure=>simp[intOf];omega
    ·obtain rfl:j=4:=zx
     go_wp2
     go_roundw
     case rel=>exact⟨i+1,zx,zw,hb,hro,h8,Ea.congr fun k hk=>by
      unfold Xl;by_cases AZ:k<i
      ·rw[if_pos AZ,if_pos zx]
      ·by_cases hk2:k=i
       ·subst hk2;rw[if_neg AZ,if_pos rfl,if_pos zx]
       ·rw[if_neg AZ,if_neg hk2,if_neg zx];split <;> rfl⟩
     case measure=>simp[intOf];omega
  ·obtain rfl:i=16:=zx
   have H:=AA<|AF hb<|AF h8 Ea;have HO:=AA hro;clear hb hro h8 Ea;go_wp2
   go_loopw [6] (fun iv wq=>Z8e w hs iv wq) (fun iv _=>64-(intOf iv).toNat)
   case atStart=>exact⟨16,zx,zx,rfl,H.out.1,HO.out,H.out.2.2.congr fun k hk=>rfl⟩
   case round=>
    clear H HO;obtain⟨m,hn0,hn,rfl,hb,hro,Ea⟩:=hrel;by_cases zg:m<64
    ·have g2:(m:Int)<64:=zx
     have c1:=Ea.cell (k:=m-15) zx;have c2:=Ea.cell (k:=m-2) zx;have c3:=Ea.cell (k:=m-16) zx;have c4:=Ea.cell (k:=m-7) zx;have c5:=Ea.cell (k:=m) zx;have sf:=Ea.soft;have PS:AC (∀ j,BV hs (m-16+1) j=if j=m then(BV hs (m-16) (m-16)+Yfy (BV hs (m-16)<|m-15)+BV hs (m-16) (m-7)+Yer (BV hs (m-16)<|m-2)) % 4294967296 else BV hs (m-16) j):=⟨fun j=>by
      rw[BV,show 16+(m-16)=m by omega,show m-16+1=m-15 by omega,show 9+(m-16)=m-7 by omega,show 14+(m-16)=m-2 by omega]⟩
     have HB:=AA hb;have HO:=AA hro;have H32:=AA Ea;clear hb hro Ea;generalize BV hs (m-16) (m-15)=x1 at*;generalize BV hs (m-16) (m-2)=x2 at*;generalize BV hs (m-16) (m-16)=x3 at*;generalize BV hs (m-16) (m-7)=x4 at*;have R:=AA fun(x:Int) u=>AF (Up x (-7) 25 zu zu zu u) (AF (Up x (-18) 14 zu zu zu u)<|AF (Up x (-17) 15 zu zu zu u)<|Up x (-19) 13 zu zu zu u);go_wp2
     go_quiet (fail)
     go_wp2_with fail
     refine(R.out _ _).1.mono ?_;rintro e w' ⟨rfl,rfl⟩;go_wp2_with fail
     refine(R.out _ _).2.1.mono ?_;rintro e w' ⟨rfl,rfl⟩;go_wp2_with fail
     refine(R.out _ _).2.2.1.mono ?_;rintro e w' ⟨rfl,rfl⟩;go_wp2_with fail
     refine(R.out _ _).2.2.2.mono ?_;rintro e w' ⟨rfl,rfl⟩;go_wp2
     go_region
     all_goals go_wp2_with fail
     refine⟨?_,by simp[intOf];omega⟩
     repeat' first | (refine⟨?_,rfl⟩;exact⟨m+1,zx,zx,zw,(KR HB.out).setCell (p:=⟨w.heap.size+1+1,m,none⟩) (by show _<=w.heap.size+1+1;omega) _,U3.away (w:=wr.drewN _) HO.out zx,by rw[show m+1-16=m-16+1 by omega];exact P7.set (w:=wr.drewN _) H32.out fun j hj=>PS.out j⟩) | apply Exists.intro
    ·obtain rfl:m=64:=zx
     have HB:=AA hb;have H32:=AA Ea;obtain⟨vs,hbl,hsz,Gy⟩:=Ea;obtain⟨old,zY,hos⟩:=hro;have Yy:(prog.info? 304).map (·.size)=some vs.size:=by rw[hsz];kernel_rfl
     have C9:vs.all (·.oneCell')=true:=by
      rw[Array.all_eq_true];intro q hq
      have:=Gy q zx
      rw[Array.getElem?_eq_getElem hq,Option.some.injEq]at this;rw[this];rfl
     clear hb;go_wp2_with (first
      | (refine QK rfl 304 (.tmp 3) rfl (w.heap.size+1+1) rfl 304 vs (0,0) _ hbl underlying304 rfl Yy ?_)
      | (refine Jp rfl 304 (.tmp 2) (.tmp 74) rfl (w.heap.size+1) vs rfl rfl 304 old zY Yy zx C9 ?_))
     refine CQ (results_cell_row (p:=2) (ty:=304) rfl _ _ (w.heap.size+1) 304 vs (0,0) _ rfl (Gj wr _ old vs _ _ zY) underlying304 rfl Yy) rfl ?_;refine⟨⟨HB.out.os,HB.out.tape,HB.out.output,by rw[ET];exact HB.out.size,fun j hj=>(Db wr _ j vs zx).trans (HB.out.block j hj)⟩,vs,rfl,hsz,Gy⟩
end Go.P
