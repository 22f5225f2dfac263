import Derived.Test.YtghnjdpgbldlkaaGreatDoorW34
set_option maxRecDepth 100000
set_option maxHeartbeats 8000000
set_option linter.unusedSimpArgs false
open Go.Proofs Go.RowKit Go.W Tryz
namespace Go.W
def DF (vs:List T) (x:T):ByteArray×Nat:=if x.k=1 then(x.t,0)else(⟨#[]⟩,jb vs x)
def EC (vs:List T) (x:T):List T:=if x.k=1 then vs else Zo vs x
end Go.W
namespace Go.P
theorem uL {w:World}{p:Nat}{fs:List (ByteArray×Nat)}{vs:List T}{F:List Nat}(h:Bv w p fs vs F){B D:Nat}{tv:List Value}{x:T}(hS:Dn B w D tv x)(hB:B<=w.heap.size)(Az:A9 0 x=0)(hl:vs.length<1000):
  Calls prog 249 #[.pointer<|Qb p 0,.agg tv.toArray] w fun e w'=>e= .returned (.agg #[.string (DF vs x).1,.int .i64 ((DF vs x).2:Int)])/\ ∃ F',Bv w' p fs (EC vs x) F'/\Off F w w'/\ ∀ i,i∈F'->i∈F\/w.heap.size<=i:=by
 have B0:=fun o=>(AQ w.heap.size w).alloc lr o;have B1:=fun o o'=>(B0 o).alloc zw o';have H:=AA h;have CN:=AA fun o o'=>Zzt (h.of (w':=(w.alloc o).alloc o') (B1 o o').size fun j hj=>(B1 o o').block j (h.lt j hj)) (Dn.carry hS<|BJ (B1 o o') hB) (AU hB (B1 o o').size) Az hl;obtain⟨pl,cl,rfl,ht,AZ,hk2,_⟩:=hS;clear h;by_cases hk:x.k=1
 ·have E1:AC (DF vs x=(x.t,0)/\EC vs x=vs):=⟨if_pos hk,if_pos hk⟩;rw[E1.out.1,E1.out.2,hk];clear CN;go_in
  go_wp2
  refine CQ (by simp[results,results249,go_sem];try rfl) rfl ?_;exact⟨rfl,F,H.out.of (B1 _ _).size fun j hj=>(B1 _ _).block j (H.out.lt j hj),Off.of<|B1 _ _,fun _ h=> .inl h⟩
 ·have E1:AC (DF vs x=(⟨#[]⟩,jb vs x)/\EC vs x=Zo vs x):=⟨if_neg hk,if_neg hk⟩;rw[E1.out.1,E1.out.2];have g:(x.k==1)=false:=by simp[hk]
  go_in
  go_wp2_with fail
  refine(CN.out _ _).mono ?_;rintro e w2 ⟨rfl,F2,Cf,EU,hs2⟩;have nF:w.heap.size+1∉F:=fun h=>by have:=H.out.lt _ h;omega
  have K2:=AA<|(Jd w _ #[.string ⟨#[]⟩,.int .i64 0] 368).of<|EU.block (w.heap.size+1) zw nF;have nF2:w.heap.size+1∉F2:=fun h=>by
   rcases hs2 _ h with h | h
   ·exact nF h
   ·simp at h;omega
  obtain⟨y0,y1,sy⟩:=K2.out.two;have Do:=AA<|AF Cf<|AF ((Off.of (F:=F)<|B1 _ _).trans EU fun _ h=> .inl h) (fun i hi=>(hs2 i hi).imp id (fun h=>by simp at h;omega): ∀ i,i∈F2->i∈F\/w.heap.size<=i);clear Cf EU hs2 CN;go_wp2
  refine CQ (by simp[results,results249,go_sem,y0,y1];try rfl) rfl ?_;have hne: ∀ j,j∈F2->j≠w.heap.size+1:=fun j hj e=>nF2 (e▸hj);exact⟨rfl,F2,Do.out.1.of (by simp[World.setCell]) fun j hj=>(Au _ _ _ _<|hne j hj).trans (Au _ _ _ _<|hne j hj),(Do.out.2.1.set (w.heap.size+1) 0 _<|.inr<|Js _).set (w.heap.size+1) 1 _<|.inr<|Js _,Do.out.2.2⟩
end Go.P
