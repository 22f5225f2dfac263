import Derived.Test.YtpmcefkhkkpnbaaGreatDoorW00
import Derived.Laws.Rows
import Derived.Laws.Tables
import Derived.Deep.DeepMust
set_option linter.all false
set_option maxRecDepth 100000
set_option maxHeartbeats 8000000
open Go.Proofs Go.RowKit Go.W Tryz
namespace Go.W
def Nc (m:Nat) (x:Int):Int:=bits .or .u32 (x*2 ^ m % 4294967296)<|x / 2 ^ (32-m)
def kK (hs:Nat->Int) (i:Nat):Nat->Int
 | 0=>0
 | j+1=>bits .or .u32 (kK hs i j*256 % 4294967296) (hs (4*i+j) % 4294967296)
def bR (hs:Nat->Int) (i j k:Nat):Int:=if k<i then kK hs k 4 else if k=i then kK hs i j else 0
def Yj9 (x:Int):Int:=bits .xor .u32 (bits .xor .u32 (Nc 25 x)<|Nc 14 x)<|x / 8
def Yiq (x:Int):Int:=bits .xor .u32 (bits .xor .u32 (Nc 15 x)<|Nc 13 x)<|x / 1024
def Be (hs:Nat->Int):Nat->Nat->Int
 | 0,k=>bR hs 16 0 k
 | n+1,k=>if k=16+n then(Be hs n n+Yj9 (Be hs n<|n+1)+Be hs n (9+n)+Yiq (Be hs n<|14+n)) % 4294967296 else Be hs n k
variable {w:Bb}{L n k b o:Nat}{e:TypeId}{f g:Nat->Int}{v:Value}
theorem Xr (x z:Int)(m:Nat)(hz:bits .and .u64 (IntKind.u64.wrap z) 31=(m:Int))(h0:0<m)(h1:m<32)(w:Bb):Calls prog 254 #[Al x,zo z] w fun e w'=>e=uY (.int .u32<|Nc m x)/\w'=w:=by
 go_in
 go_wp2
 go_ret
 exact⟨rfl,rfl⟩
def TT (w:Bb) (L:Nat) (e:TypeId) (n:Nat) (f:Nat->Int):Prop:= ∃ vs:Ca,AO w L vs e/\vs.size=n/\ ∀ k,k<n->vs[k]?=some (.int .u32<|f k)
def fO (w:Bb) (L:Nat) (e:TypeId) (n:Nat) (f:Nat->Int):Prop:= ∃ vs:Ca,AO w L vs e/\vs.size=n/\ ∀ k,k<n->vs[k]?=some (.int .u8<|f k)
theorem TT.cell (h:TT w L e n f)(hk:k<n):w.cell? (zm L k)=some (.int .u32<|f k):=by
 obtain⟨vs,hb,_,hv⟩:=h;rw[hb.cell,hv k hk]
theorem TT.soft (h:TT w L e n f)(k:Nat):w.frozen? (zm L k)=false:=by
 obtain⟨vs,hb,_,hv⟩:=h;exact hb.soft k
theorem fO.cell (h:fO w L e n f)(hk:k<n):w.cell? (zm L k)=some (.int .u8<|f k):=by
 obtain⟨vs,hb,_,hv⟩:=h;rw[hb.cell,hv k hk]
theorem TT.set (h:TT w L e n f){x:Int}(hg: ∀ j,j<n->g j=if j=k then x else f j):TT (w.setCell (zm L k)<|Al x) L e n g:=by
 obtain⟨vs,hb,hs,hv⟩:=h;refine⟨_,hb.set k _,by simp[hs],fun j hj=>?_⟩;rw[Dy,hg j hj];by_cases hjk:j=k
 .subst hjk;simp[hs,hj]
 .rw[xd fun z=>hjk z.symm,xd hjk,hv j hj]
theorem fO.away (h:fO w L e n f)(hne:L≠b):fO (w.setCell (zm b o) v) L e n f:=by
 obtain⟨vs,hb,r⟩:=h;exact⟨vs,hb.away b o hne v,r⟩
def gq (wr:Bb) (L:Nat) (e:TypeId) (n:Nat):Prop:= ∃ old:Ca,AO wr L old e/\old.size=n
theorem gq.away (h:gq w L e n)(hne:L≠b):gq (w.setCell (zm b o) v) L e n:=by
 obtain⟨vs,hb,r⟩:=h;exact⟨vs,hb.away b o hne v,r⟩
theorem TT.congr (h:TT w L e n f)(hg: ∀ k,k<n->g k=f k):TT w L e n g:=by
 obtain⟨vs,hb,hs,hv⟩:=h;exact⟨vs,hb,hs,fun k hk=>by rw[hv k hk,hg k hk]⟩
def Oi:Ca:=#[Al 0,Al 0,Al 0,Al 0,Al 0,Al 0,Al 0,Al 0,Al 0,Al 0,Al 0,Al 0,Al 0,Al 0,Al 0,Al 0,Al 0,Al 0,Al 0,Al 0,Al 0,Al 0,Al 0,Al 0,Al 0,Al 0,Al 0,Al 0,Al 0,Al 0,Al 0,Al 0,Al 0,Al 0,Al 0,Al 0,Al 0,Al 0,Al 0,Al 0,Al 0,Al 0,Al 0,Al 0,Al 0,Al 0,Al 0,Al 0,Al 0,Al 0,Al 0,Al 0,Al 0,Al 0,Al 0,Al 0,Al 0,Al 0,Al 0,Al 0,Al 0,Al 0,Al 0,Al 0]
theorem Yd3 (k:Nat)(hk:k<64):Oi[k]?=some (Al 0):=by
 have e:Oi=Array.replicate 64 (Al 0):=zt
 rw[e];simp[hk]
def Ybi (w:Bb) (hs:Nat->Int) (iv:Value) (wr:Bb):Prop:= ∃ i:Nat,i<=16/\iv= zo (i:Int)/\Bl w wr/\gq wr (w.heap.size+1) 391 64/\fO wr w.heap.size 193 64 hs/\TT wr (w.heap.size+1+1) 391 64 (bR hs i 0)
def Ybj (w:Bb) (hs:Nat->Int) (i:Nat) (jv:Value) (wr:Bb):Prop:= ∃ j:Nat,j<=4/\jv= zo (j:Int)/\Bl w wr/\gq wr (w.heap.size+1) 391 64/\fO wr w.heap.size 193 64 hs/\TT wr (w.heap.size+1+1) 391 64 (bR hs i j)
def Ybk (w:Bb) (hs:Nat->Int) (iv:Value) (wr:Bb):Prop:= ∃ m:Nat,16<=m/\m<=64/\iv= zo (m:Int)/\Bl w wr/\gq wr (w.heap.size+1) 391 64/\TT wr (w.heap.size+1+1) 391 64 (Be hs<|m-16)
theorem Z06 (v:Ca)(hs:Nat->Int)(w:Bb)(DK:v.size=64)(hv: ∀ k,k<64->v[k]?=some (.int .u8<|hs k)):Calls prog 253 #[.agg v] w fun e w'=>Bl w w'/\ ∃ vs:Ca,e=uY (.agg vs)/\vs.size=64/\ ∀ k,k<64->vs[k]?=some (.int .u32<|Be hs 48 k):=by
 go_in
 go_wp2
 go_loopw [9] (fun iv wr=>Ybi w hs iv wr) (fun iv _=>16-(intOf iv).toNat)
 .have e8:AO ((w.alloc<|.cells v 193).alloc<|.cells Oi 391) w.heap.size v 193:=(AO.new w v _).alloc _;have er:AO ((w.alloc<|.cells v 193).alloc<|.cells Oi 391) (w.heap.size+1) Oi 391:=by
   have:=AO.new (w.alloc<|.cells v 193) Oi 391
   simp only[EV]at this;exact this
  have ep:AO (((w.alloc<|.cells v 193).alloc<|.cells Oi 391).alloc<|.cells Oi 391) (w.heap.size+1+1) Oi 391:=by
   have:=AO.new ((w.alloc<|.cells v 193).alloc<|.cells Oi 391) Oi 391
   simp only[EV]at this;exact this
  refine⟨0,zx,rfl,((zv w _).alloc zw _).alloc zc _,⟨Oi,er.alloc _,rfl⟩,⟨v,e8.alloc _,DK,hv⟩,⟨Oi,ep,rfl,fun k hk=>?_⟩⟩;rw[Yd3 k hk];unfold bR;rw[xd zx];split
  .rename_i h0;subst h0;rfl
  .rfl
 .obtain⟨i,hi,rfl,hb,hro,h8,G7⟩:=hrel;by_cases hlt:i<16
  .have g:(i:Int)<16:=zx
   go_wp2
   go_loopw [12] (fun jv wq=>Ybj w hs i jv wq) (fun jv _=>4-(intOf jv).toNat)
   .exact⟨0,zx,rfl,hb,hro,h8,G7⟩
   .clear hb hro h8 G7;obtain⟨j,hj,rfl,hb,hro,h8,G7⟩:=hrel;by_cases hlj:j<4
    .have g2:(j:Int)<4:=zx
     have c8:=h8.cell (k:=4*i+j) zx;have c32:=G7.cell (k:=i) zx;have sf:=G7.soft;go_wp2_with fail
     have hw:bR hs i j i=kK hs i j:=by unfold bR;rw[xd zx,xj rfl]
     rw[hw]at c32;have H:=AC<|AJ hb<|AJ h8 G7;have HO:=AC hro;clear hb hro h8 G7 hw;generalize hx:kK hs i j=x at*;go_region
     go_wp2
     go_roundw
     .exact⟨j+1,zx,zw,((H.o.1.setCell (by show _<=w.heap.size+1+1;omega) _).drew),HO.o.away zx,H.o.2.1.away zx,H.o.2.2.set fun k hk=>by
      unfold bR;by_cases aJ:k=i
      .subst aJ;rw[xj rfl,xd zx,xj rfl,kK,hx]
      .rw[xd aJ,xd aJ,xd aJ]⟩
     simp[intOf];omega
    .obtain rfl:j=4:=zx
     go_wp2
     go_roundw
     .exact⟨i+1,zx,zw,hb,hro,h8,G7.congr fun k hk=>by
      unfold bR;by_cases AX:k<i
      .rw[xj AX,xj zx]
      .by_cases hk2:k=i
       .subst hk2;rw[xd AX,xj rfl,xj zx]
       .rw[xd AX,xd hk2,xd zx];split <;> rfl⟩
     simp[intOf];omega
  .obtain rfl:i=16:=zx
   have H:=AC<|AJ hb<|AJ h8 G7;have HO:=AC hro;clear hb hro h8 G7;go_wp2
   go_loopw [6] (fun iv wq=>Ybk w hs iv wq) (fun iv _=>64-(intOf iv).toNat)
   .exact⟨16,zx,zx,rfl,H.o.1,HO.o,H.o.2.2.congr fun k hk=>rfl⟩
   .clear H HO;obtain⟨m,QY,hn,rfl,hb,hro,G7⟩:=hrel;by_cases Yc:m<64
    .have g2:(m:Int)<64:=zx
     have c1:=G7.cell (k:=m-15) zx;have c2:=G7.cell (k:=m-2) zx;have c3:=G7.cell (k:=m-16) zx;have c4:=G7.cell (k:=m-7) zx;have c5:=G7.cell (k:=m) zx;have sf:=G7.soft;have PS:AF (∀ j,Be hs (m-16+1) j=if j=m then(Be hs (m-16) (m-16)+Yj9 (Be hs (m-16)<|m-15)+Be hs (m-16) (m-7)+Yiq (Be hs (m-16)<|m-2)) % 4294967296 else Be hs (m-16) j):=⟨fun j=>by
      rw[Be,show 16+(m-16)=m by omega,show m-16+1=m-15 by omega,show 9+(m-16)=m-7 by omega,show 14+(m-16)=m-2 by omega]⟩
     have HB:=AC hb;have HO:=AC hro;have H32:=AC G7;clear hb hro G7;generalize Be hs (m-16) (m-15)=x1 at*;generalize Be hs (m-16) (m-2)=x2 at*;generalize Be hs (m-16) (m-16)=x3 at*;generalize Be hs (m-16) (m-7)=x4 at*;have R:=AC fun(x:Int) u=>AJ (Xr x (-7) 25 zu zu zu u) (AJ (Xr x (-18) 14 zu zu zu u)<|AJ (Xr x (-17) 15 zu zu zu u)<|Xr x (-19) 13 zu zu zu u);go_wp2
     go_quiet (fail)
     go_wp2_with fail
     apply(R.o _ _).1.mono;rintro e w' ⟨rfl,rfl⟩;go_wp2_with fail
     apply(R.o _ _).2.1.mono;rintro e w' ⟨rfl,rfl⟩;go_wp2_with fail
     apply(R.o _ _).2.2.1.mono;rintro e w' ⟨rfl,rfl⟩;go_wp2_with fail
     apply(R.o _ _).2.2.2.mono;rintro e w' ⟨rfl,rfl⟩;go_wp2
     go_region
     all_goals go_wp2_with fail
     refine⟨?_,zd⟩
     repeat' first | (refine⟨?_,rfl⟩;exact⟨m+1,zx,zx,zw,(MW HB.o).setCell (p:=(zm (w.heap.size+1+1) m)) (by show _<=w.heap.size+1+1;omega) _,gq.away (w:=wr.drewN _) HO.o zx,by rw[show m+1-16=m-16+1 by omega];exact TT.set (w:=wr.drewN _) H32.o fun j hj=>PS.o j⟩) | apply Exists.intro
    .obtain rfl:m=64:=zx
     have HB:=AC hb;have H32:=AC G7;obtain⟨vs,hbl,hsz,UI⟩:=G7;obtain⟨old,iw,hos⟩:=hro;have ed:(prog.info? 391).map (·.size)=some vs.size:=by rw[hsz];kernel_rfl
     have Bw:vs.all (·.oneCell')=true:=by
      rw[Array.all_eq_true];intro q hq
      have:=UI q zx
      rw[Array.getElem?_eq_getElem hq,Option.some.injEq]at this;rw[this];rfl
     clear hb;go_wp2_with (first
      | (refine QN rfl 391 (.tmp 3) rfl (w.heap.size+1+1) rfl 391 vs (0,0) _ hbl underlying391 rfl ed ?_)
      | (refine Ij rfl 391 (.tmp 2) (.tmp 74) rfl (w.heap.size+1) vs rfl rfl 391 old iw ed zx Bw ?_))
     refine Bg (results_cell_row (p:=2) (ty:=391) rfl _ _ (w.heap.size+1) 391 vs (0,0) _ rfl (GM wr _ old vs _ _ iw) underlying391 rfl ed) rfl ?_;refine⟨⟨HB.o.os,HB.o.tape,HB.o.output,by rw[Ef];exact HB.o.size,fun j hj=>(Db wr _ j vs zx).trans (HB.o.block j hj)⟩,vs,rfl,hsz,UI⟩
end Go.W
