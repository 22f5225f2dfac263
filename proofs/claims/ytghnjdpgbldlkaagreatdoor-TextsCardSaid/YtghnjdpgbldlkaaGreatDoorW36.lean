import Derived.Test.YtghnjdpgbldlkaaGreatDoorW35
set_option maxRecDepth 100000
set_option maxHeartbeats 8000000
set_option linter.unusedSimpArgs false
open Go.Proofs Go.RowKit Go.W Tryz
namespace Go.P
theorem Zq4 {w:World}{p:Nat}{fs:List (ByteArray×Nat)}{vs:List T}{F:List Nat}(h:Bv w p fs vs F){B D:Nat}{gv:List Value}{x:G}(hS:LY B w D gv x)(hB:B<=w.heap.size)(Ku: ∀ i,i∈F->B<=i)(qV:A9 0 x.a=0)(qU:A9 0 x.b=0)(hl:vs.length<900):
  Calls prog 251 #[.pointer<|Qb p 0,.agg gv.toArray] w fun e w'=>e= .returned (.agg #[.int .i64 x.op,.string (DF vs x.a).1,.int .i64 ((DF vs x.a).2:Int),.string (DF (EC vs x.a) x.b).1,.int .i64 ((DF (EC vs x.a) x.b).2:Int)])/\ ∃ F',Bv w' p fs (EC (EC vs x.a) x.b) F'/\Off F w w'/\ ∀ i,i∈F'->i∈F\/w.heap.size<=i:=by
 obtain⟨va,vb,rfl,ho,hSa,hSb⟩:=hS;have H:=AA h;have Fp:(EC vs x.a).length<1000:=by
  unfold EC Zo;split
  ·omega
  ·split
   ·omega
   ·simp;omega
 have CA:=AA fun u (hu:Bl w u)=>uL (h.of (w':=u) hu.size fun j hj=>hu.block j (h.lt j hj)) (Dn.carry hSa<|BJ hu hB) (AU hB hu.size) qV zx;have CB:=AA fun u F' (hd:Bv u p fs (EC vs x.a) F') (hu:Below B w u)=>uL hd (Dn.carry hSb<|Go.W.Below.carry hu lr) (AU hB hu.size) qU Fp;obtain⟨pa,ca,rfl,ht,_⟩:=hSa;obtain⟨pb,cb,rfl,dx,_⟩:=hSb;clear h;generalize DF vs x.a=s1 at*;generalize DF (EC vs x.a) x.b=s2 at*;go_in
 obtain⟨W2,hW2⟩: ∃ W2,AC ((w.alloc<|.cells #[.int .i64 x.op,.int .i64 x.a.k,.int .i64 x.a.i,.string x.a.t,.slice pa x.a.l.length ca,.int .i64 x.b.k,.int .i64 x.b.i,.string x.b.t,.slice pb x.b.l.length cb] 102).alloc (.cells #[.int .i64 0,.string ⟨#[]⟩,.int .i64 0,.string ⟨#[]⟩,.int .i64 0] 373)=W2):=⟨_,⟨rfl⟩⟩;have B2:AC (Bl w W2):=⟨hW2.out▸((AQ _ w).alloc lr _).alloc zw _⟩;have S2:AC (W2.heap.size=w.heap.size+2):=⟨by rw[<- hW2.out];simp⟩;have L0:AC (AJ W2 w.heap.size #[.int .i64 x.op,.int .i64 x.a.k,.int .i64 x.a.i,.string x.a.t,.slice pa x.a.l.length ca,.int .i64 x.b.k,.int .i64 x.b.i,.string x.b.t,.slice pb x.b.l.length cb] 102):=⟨hW2.out▸(AJ.new w _ _).alloc _⟩;have L1:AC (AJ W2 (w.heap.size+1) #[.int .i64 0,.string ⟨#[]⟩,.int .i64 0,.string ⟨#[]⟩,.int .i64 0] 373):=⟨hW2.out▸Jd w _ _ _⟩;have nF: ∀ j,w.heap.size<=j->j∉F:=fun j hj h=>by have:=H.out.lt _ h;omega
 go_wp2_with fail
 rw[hW2.out];obtain⟨y0,y1,y2,y3,y4,y5,y6,y7,y8,sy⟩:=L0.out.nine;go_region_with (first
  | (go_at_call 249;refine(CA.out _ B2.out.drew).mono ?_;rintro e w3 ⟨rfl,F3,Ub,UX,hs3⟩;have K0:=L0.out.of<|UX.block w.heap.size (by have:=S2.out;simp;omega)<|nF _ lr;have K1:=L1.out.of<|UX.block (w.heap.size+1) (by have:=S2.out;simp;omega)<|nF _<|Js _;obtain⟨z0,z1,z2,z3,z4,z5,z6,z7,z8,sz⟩:=AJ.nine K0;have hw3:=UX.size;have OW:Off F w w3:=(Off.of B2.out.drew).trans UX fun _ h=> .inl h;clear CA)
  | (go_at_call 249;refine(CB.out _ _ Ub<|OW.below Ku hB).mono ?_;rintro e w4 ⟨rfl,F4,O0,aM,QW⟩;have pV: ∀ j,w.heap.size<=j->j<w.heap.size+2->j∉F3:=(fun j hj h2 h=>by rcases hs3 j h with h | h;exact nF j hj h;have:=S2.out;simp at h;omega);have M0:=K0.of<|aM.block w.heap.size K0.lt<|pV _ lr zx;have M1:=K1.of<|aM.block (w.heap.size+1) K1.lt<|pV _ (Js _) zx;have m0:=AJ.cell M0 0;have sM:=AJ.soft M1;have n0:=AJ.cell M1 0;have n1:=AJ.cell M1 1;have n2:=AJ.cell M1 2;have n3:=AJ.cell M1 3;have n4:=AJ.cell M1 4;simp at m0 n0 n1 n2 n3 n4))
 all_goals
  have YN: ∀ i,i∈F4->i∈F\/w.heap.size+2<=i:=fun i hi=>by
   have h2:=S2.out;rcases QW i hi with h | h
   ·exact(hs3 i h).imp id fun h=>by simp at h;omega
   ·simp at hw3;exact .inr zx
  have hne: ∀ i,i∈F4->i≠w.heap.size+1:=fun i hi=>by
   rcases YN i hi with h | h
   ·have:=H.out.lt i h;omega
   ·omega
  have Do:=AA<|AF O0<|AF (OW.trans aM fun i hi=>(hs3 i hi).imp id fun h=>by have h2:=S2.out;simp at h;omega)<|AF YN hne;clear O0 aM QW YN hne Ub UX hs3 OW K0 K1 z0 z1 z2 z3 z4 z5 z6 z7 z8 sz M0 m0 pV y0 y1 y2 y3 y4 y5 y6 y7 y8 sy CB;go_wp2
  refine CQ (by simp[results,results251,go_sem,n0,n1,n2,n3,n4];try rfl) rfl ?_;have FO:=Do.out;have hs:=fun j (hj:j∈F4)=>FO.2.2.2 j hj;refine⟨rfl,F4,FO.1.of (by simp[World.setCell]) fun j hj=>(Au _ _ _ _<|hs j hj).trans ((Au _ _ _ _<|hs j hj).trans<|(Au _ _ _ _<|hs j hj).trans<|(Au _ _ _ _<|hs j hj).trans<|Au _ _ _ _<|hs j hj),((((FO.2.1.set (w.heap.size+1) 0 _<|.inr<|Js _).set (w.heap.size+1) 1 _<|.inr<|Js _).set (w.heap.size+1) 2 _<|.inr<|Js _).set (w.heap.size+1) 3 _<|.inr<|Js _).set (w.heap.size+1) 4 _<|.inr<|Js _,fun i hi=>(FO.2.2.1 i hi).imp id zx⟩
end Go.P
