import Derived.Test.YtaoiihbjdonaoaaGreatDoorW32
set_option maxRecDepth 100000
set_option maxHeartbeats 8000000
set_option linter.unusedSimpArgs false
open Go.Proofs Go.RowKit Go.W Tryz
namespace Go.P
theorem Zsi {w:World}{p:Nat}{fs:List Fc}{vs:List T}{F:List Nat}(h:Df w p fs vs F){B D:Nat}{gv:List Value}{x:G}(hS:TQ B w D gv x)(hB:B<=w.heap.size)(hFB: ∀ i,i∈F->B<=i)(yx:BR 0 x.a=0)(yw:BR 0 x.b=0)(hl:vs.length+6<100000):
  Calls prog 211 #[zq p 0,.agg gv.toArray] w fun e w'=>e= .returned (.agg #[zo x.op,.string (Dw vs x.a).1,zo ((Dw vs x.a).2:Int),.string (Dw (Eb vs x.a) x.b).1,zo ((Dw (Eb vs x.a) x.b).2:Int)])/\ ∃ F',Df w' p fs (Eb (Eb vs x.a) x.b) F'/\Off F w w'/\ ∀ i,i∈F'->i∈F\/w.heap.size<=i:=by
 obtain⟨va,vb,rfl,ho,hSa,hSb⟩:=hS;have H:=AC h;have GU:(Eb vs x.a).length<100000:=by
  have:=bK vs x.a
  omega
 have CA:=AC fun u (hu:Bl w u)=>Zwb (h.of (w':=u) hu.size fun j hj=>hu.block j (h.lt j hj)) (Ed.carry hSa<|Bq hu hB) (Ab hB hu.size) yx zx;have CB:=AC fun u F' (hd:Df u p fs (Eb vs x.a) F') (hu:Below B w u)=>Zwb hd (Ed.carry hSb<|Go.W.Below.carry hu lr) (Ab hB hu.size) yw GU;obtain⟨pa,ca,rfl,ht,_⟩:=hSa;obtain⟨pb,cb,rfl,mZ,_⟩:=hSb;clear h;generalize Dw vs x.a=s1 at*;generalize Dw (Eb vs x.a) x.b=s2 at*;go_in
 obtain⟨W2,hW2⟩: ∃ W2,AF ((w.alloc<|.cells #[zo x.op,zo x.a.k,zo x.a.i,.string x.a.t,.slice pa x.a.l.length ca,zo x.b.k,zo x.b.i,.string x.b.t,.slice pb x.b.l.length cb] 48).alloc (.cells #[zo 0,.string ⟨#[]⟩,zo 0,.string ⟨#[]⟩,zo 0] 337)=W2):=⟨_,⟨rfl⟩⟩;have B2:AF (Bl w W2):=⟨hW2.out▸((AR _ w).alloc lr _).alloc zw _⟩;have S2:AF (W2.heap.size=w.heap.size+2):=⟨by rw[<- hW2.out];simp⟩;have L0:AF (AO W2 w.heap.size #[zo x.op,zo x.a.k,zo x.a.i,.string x.a.t,.slice pa x.a.l.length ca,zo x.b.k,zo x.b.i,.string x.b.t,.slice pb x.b.l.length cb] 48):=⟨hW2.out▸(AO.new w _ _).alloc _⟩;have L1:AF (AO W2 (w.heap.size+1) #[zo 0,.string ⟨#[]⟩,zo 0,.string ⟨#[]⟩,zo 0] 337):=⟨hW2.out▸Ur w _ _ _⟩;have nF: ∀ j,w.heap.size<=j->j∉F:=fun j hj h=>by have:=H.out.lt _ h;omega
 go_wp2_with fail
 rw[hW2.out];obtain⟨y0,y1,y2,y3,y4,y5,y6,y7,y8,sy⟩:=L0.out.nine;go_region_with (first
  | (go_at_call 209;refine(CA.out _ B2.out.drew).mono ?_;rintro e w3 ⟨rfl,F3,Yj,Xa,hs3⟩;have K0:=L0.out.of<|Xa.block w.heap.size (by have:=S2.out;simp;omega)<|nF _ lr;have K1:=L1.out.of<|Xa.block (w.heap.size+1) (by have:=S2.out;simp;omega)<|nF _<|Ny _;obtain⟨z0,z1,z2,z3,z4,z5,z6,z7,z8,sz⟩:=AO.nine K0;have hw3:=Xa.size;have OW:Off F w w3:=(Off.of B2.out.drew).trans Xa fun _ h=> .inl h;clear CA)
  | (go_at_call 209;refine(CB.out _ _ Yj<|OW.below hFB hB).mono ?_;rintro e w4 ⟨rfl,F4,RQ,jA,UL⟩;have yF: ∀ j,w.heap.size<=j->j<w.heap.size+2->j∉F3:=(fun j hj h2 h=>by rcases hs3 j h with h | h;exact nF j hj h;have:=S2.out;simp at h;omega);have M0:=K0.of<|jA.block w.heap.size K0.lt<|yF _ lr zx;have M1:=K1.of<|jA.block (w.heap.size+1) K1.lt<|yF _ (Ny _) zx;have m0:=AO.cell M0 0;have sM:=AO.soft M1;have n0:=AO.cell M1 0;have n1:=AO.cell M1 1;have n2:=AO.cell M1 2;have n3:=AO.cell M1 3;have n4:=AO.cell M1 4;simp at m0 n0 n1 n2 n3 n4))
 all_goals
  have dO: ∀ i,i∈F4->i∈F\/w.heap.size+2<=i:=fun i hi=>by
   have h2:=S2.out;rcases UL i hi with h | h
   ·exact(hs3 i h).imp id fun h=>by simp at h;omega
   ·simp at hw3;exact .inr zx
  have hne: ∀ i,i∈F4->i≠w.heap.size+1:=fun i hi=>by
   rcases dO i hi with h | h
   ·have:=H.out.lt i h;omega
   ·omega
  have DJ:=AC<|AJ RQ<|AJ (OW.trans jA fun i hi=>(hs3 i hi).imp id fun h=>by have h2:=S2.out;simp at h;omega)<|AJ dO hne;clear RQ jA UL dO hne Yj Xa hs3 OW K0 K1 z0 z1 z2 z3 z4 z5 z6 z7 z8 sz M0 m0 yF y0 y1 y2 y3 y4 y5 y6 y7 y8 sy CB;go_wp2
  refine Bg (by simp[results,results211,go_sem,n0,n1,n2,n3,n4];try rfl) rfl ?_;have FO:=DJ.out;have hs:=fun j (hj:j∈F4)=>FO.2.2.2 j hj;refine⟨rfl,F4,FO.1.of (by simp[World.setCell]) fun j hj=>(Aw _ _ _ _<|hs j hj).trans ((Aw _ _ _ _<|hs j hj).trans<|(Aw _ _ _ _<|hs j hj).trans<|(Aw _ _ _ _<|hs j hj).trans<|Aw _ _ _ _<|hs j hj),((((FO.2.1.set (w.heap.size+1) 0 _<|.inr<|Ny _).set (w.heap.size+1) 1 _<|.inr<|Ny _).set (w.heap.size+1) 2 _<|.inr<|Ny _).set (w.heap.size+1) 3 _<|.inr<|Ny _).set (w.heap.size+1) 4 _<|.inr<|Ny _,fun i hi=>(FO.2.2.1 i hi).imp id zx⟩
end Go.P
