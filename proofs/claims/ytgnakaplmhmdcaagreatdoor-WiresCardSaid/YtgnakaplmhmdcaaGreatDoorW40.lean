import Derived.Test.YtgnakaplmhmdcaaGreatDoorW39
set_option maxRecDepth 100000
set_option maxHeartbeats 8000000
set_option linter.unusedSimpArgs false
open Go.Proofs Go.RowKit Go.W
namespace Go.W
def Zbx (vs:List T) (x:T):ByteArray×Nat:=if x.k=1 then(x.t,0)else(⟨#[]⟩,Ybi vs x)
def Zcl (vs:List T) (x:T):List T:=if x.k=1 then vs else Z73 vs x
end Go.W
namespace Go.P
theorem Zsp {w:World}{p:Nat}{fs:List (ByteArray×Nat)}{vs:List T}{F:List Nat}(h:Zdv w p fs vs F){B D:Nat}{tv:List Value}{x:T}(hS:Zcv B w D tv x)(hB:B<=w.heap.size)(hok:Zal 0 x=0)(hl:vs.length < 1000):
  Calls Tryz.prog 239 #[.pointer (some ⟨p,0,none⟩),.agg tv.toArray] w fun e w'=>e= .returned (.agg #[.string (Zbx vs x).1,.int .i64 ((Zbx vs x).2:Int)])/\ ∃ F',Zdv w' p fs (Zcl vs x) F'/\Off F w w'/\ ∀ i,i∈F'->i∈F\/w.heap.size<=i:=by
 have B0:=fun o=>(Yct w.heap.size w).alloc lr o;have B1:=fun o o'=>(B0 o).alloc (by simp) o';have H:=Zaa h;have CN:=Zaa (fun o o'=>Zvp (h.of (w':=(w.alloc o).alloc o') (B1 o o').size fun j hj=>(B1 o o').block j (h.lt j hj)) (Zcv.carry hS (Za6 (B1 o o') hB)) (Ycu hB (B1 o o').size) hok hl);obtain⟨pl,cl,rfl,ht,hk1,hk2,_⟩:=hS;clear h;by_cases hk:x.k=1
 ·have E1:Box (Zbx vs x=(x.t,0)/\Zcl vs x=vs):=⟨if_pos hk,if_pos hk⟩;rw[E1.out.1,E1.out.2,hk];clear CN;go_enter Tryz.func239,Tryz.ntmps239
  go_wp2_with fail
  refine bodyPost_ret (by simp[results,Tryz.results239,go_sem];try rfl) rfl ?_;exact⟨rfl,F,H.out.of (B1 _ _).size (fun j hj=>(B1 _ _).block j (H.out.lt j hj)),Off.of (B1 _ _),fun _ h=> .inl h⟩
 ·have E1:Box (Zbx vs x=(⟨#[]⟩,Ybi vs x)/\Zcl vs x=Z73 vs x):=⟨if_neg hk,if_neg hk⟩;rw[E1.out.1,E1.out.2];have g:(x.k==1)=false:=by simp[hk]
  go_enter Tryz.func239,Tryz.ntmps239
  go_wp2_with fail
  refine(CN.out _ _).mono ?_;rintro e w2 ⟨rfl,F2,hd2,ho2,hs2⟩;have nF:w.heap.size+1∉F:=fun h=>by have:=H.out.lt _ h;omega
  have K2:=Zaa ((Zpo w _ #[.string ⟨#[]⟩,.int .i64 0] 359).of (ho2.block (w.heap.size+1) (by simp) nF));have nF2:w.heap.size+1∉F2:=fun h=>by
   rcases hs2 _ h with h | h
   ·exact nF h
   ·simp at h;omega
  obtain⟨y0,y1,sy⟩:=K2.out.two;have FIN:=Zaa (Ycs hd2 (Ycs ((Off.of (F:=F) (B1 _ _)).trans ho2 fun _ h=> .inl h) (fun i hi=>(hs2 i hi).imp id (fun h=>by simp at h;omega): ∀ i,i∈F2->i∈F\/w.heap.size<=i)));clear hd2 ho2 hs2 CN;go_wp2_with fail
  refine bodyPost_ret (by simp[results,Tryz.results239,go_sem,y0,y1];try rfl) rfl ?_;have hne: ∀ j,j∈F2->j≠w.heap.size+1:=fun j hj e=>nF2 (e▸hj);exact⟨rfl,F2,FIN.out.1.of (by simp[World.setCell]) fun j hj=>(Ycy _ _ _ _ (hne j hj)).trans (Ycy _ _ _ _ (hne j hj)),(FIN.out.2.1.set (w.heap.size+1) 0 _ (.inr (Yeb _))).set (w.heap.size+1) 1 _ (.inr (Yeb _)),FIN.out.2.2⟩
end Go.P
