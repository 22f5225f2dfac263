import Derived.Test.YtmebjfclpalmaaaGreatDoorW31
set_option maxRecDepth 100000
set_option maxHeartbeats 8000000
set_option linter.unusedSimpArgs false
open Go.Proofs Go.RowKit Go.W Tryz
namespace Go.P
theorem Zpr {w:World}{p:Nat}{fs:List (ByteArray×Nat)}{vs:List T}{F:List Nat}(h:Zd3 w p fs vs F){B D:Nat}{gv:List Value}{x:G}(hS:Zgb B w D gv x)(hB:B<=w.heap.size)(hFB: ∀ i,i∈F->B<=i)(hoka:Zau 0 x.a=0)(hokb:Zau 0 x.b=0)(hl:vs.length < 900):
  Calls prog 243 #[.pointer (some ⟨p,0,none⟩),.agg gv.toArray] w fun e w'=>e= .returned (.agg #[.int .i64 x.op,.string (Zby vs x.a).1,.int .i64 ((Zby vs x.a).2:Int),.string (Zby (Zcv vs x.a) x.b).1,.int .i64 ((Zby (Zcv vs x.a) x.b).2:Int)])/\ ∃ F',Zd3 w' p fs (Zcv (Zcv vs x.a) x.b) F'/\Off F w w'/\ ∀ i,i∈F'->i∈F\/w.heap.size<=i:=by
 obtain⟨va,vb,rfl,ho,hSa,hSb⟩:=hS;have H:=Zaa h;have hl1:(Zcv vs x.a).length < 1000:=by
  unfold Zcv Z9o;split
  ·omega
  ·split
   ·omega
   ·simp;omega
 have CA:=Zaa (fun u (hu:Below w.heap.size w u)=>Zss (h.of (w':=u) hu.size fun j hj=>hu.block j (h.lt j hj)) (Zc2.carry hSa (Za4 hu hB)) (Ydc hB hu.size) hoka (by omega));have CB:=Zaa (fun u F' (hd:Zd3 u p fs (Zcv vs x.a) F') (hu:Below B w u)=>Zss hd (Zc2.carry hSb (Go.W.Below.carry hu lr)) (Ydc hB hu.size) hokb hl1);obtain⟨pa,ca,rfl,ht,_⟩:=hSa;obtain⟨pb,cb,rfl,ht',_⟩:=hSb;clear h;generalize Zby vs x.a=s1 at*;generalize Zby (Zcv vs x.a) x.b=s2 at*;go_in
 obtain⟨W2,hW2⟩: ∃ W2,Box ((w.alloc (.cells #[.int .i64 x.op,.int .i64 x.a.k,.int .i64 x.a.i,.string x.a.t,.slice pa x.a.l.length ca,.int .i64 x.b.k,.int .i64 x.b.i,.string x.b.t,.slice pb x.b.l.length cb] 119)).alloc (.cells #[.int .i64 0,.string ⟨#[]⟩,.int .i64 0,.string ⟨#[]⟩,.int .i64 0] 371)=W2):=⟨_,⟨rfl⟩⟩;have B2:Box (Below w.heap.size w W2):=⟨hW2.out▸((Ydb _ w).alloc lr _).alloc (by simp) _⟩;have S2:Box (W2.heap.size=w.heap.size+2):=⟨by rw[<- hW2.out];simp⟩;have L0:Box (Blk W2 w.heap.size #[.int .i64 x.op,.int .i64 x.a.k,.int .i64 x.a.i,.string x.a.t,.slice pa x.a.l.length ca,.int .i64 x.b.k,.int .i64 x.b.i,.string x.b.t,.slice pb x.b.l.length cb] 119):=⟨hW2.out▸(Blk.new w _ _).alloc _⟩;have L1:Box (Blk W2 (w.heap.size+1) #[.int .i64 0,.string ⟨#[]⟩,.int .i64 0,.string ⟨#[]⟩,.int .i64 0] 371):=⟨hW2.out▸Zpo w _ _ _⟩;have nF: ∀ j,w.heap.size<=j->j∉F:=fun j hj h=>by have:=H.out.lt _ h;omega
 go_wp2_with fail
 rw[hW2.out];obtain⟨y0,y1,y2,y3,y4,y5,y6,y7,y8,sy⟩:=L0.out.nine;go_region_with (first
  | (go_at_call 241;refine(CA.out _ B2.out.drew).mono ?_;rintro e w3 ⟨rfl,F3,hd3,ho3,hs3⟩;have K0:=L0.out.of (ho3.block w.heap.size (by have:=S2.out;simp;omega) (nF _ lr));have K1:=L1.out.of (ho3.block (w.heap.size+1) (by have:=S2.out;simp;omega) (nF _ (Yet _)));obtain⟨z0,z1,z2,z3,z4,z5,z6,z7,z8,sz⟩:=Blk.nine K0;have hw3:=ho3.size;have OW:Off F w w3:=(Off.of B2.out.drew).trans ho3 (fun _ h=> .inl h);clear CA)
  | (go_at_call 241;refine(CB.out _ _ hd3 (OW.below hFB hB)).mono ?_;rintro e w4 ⟨rfl,F4,hd4,ho4,hs4⟩;have nF3: ∀ j,w.heap.size<=j->j < w.heap.size+2->j∉F3:=(fun j hj h2 h=>by rcases hs3 j h with h | h;exact nF j hj h;have:=S2.out;simp at h;omega);have M0:=K0.of (ho4.block w.heap.size K0.lt (nF3 _ lr (by omega)));have M1:=K1.of (ho4.block (w.heap.size+1) K1.lt (nF3 _ (Yet _) (by omega)));have m0:=Blk.cell M0 0;have sM:=Blk.soft M1;have n0:=Blk.cell M1 0;have n1:=Blk.cell M1 1;have n2:=Blk.cell M1 2;have n3:=Blk.cell M1 3;have n4:=Blk.cell M1 4;simp at m0 n0 n1 n2 n3 n4))
 all_goals
  have hs4': ∀ i,i∈F4->i∈F\/w.heap.size+2<=i:=fun i hi=>by
   have h2:=S2.out;rcases hs4 i hi with h | h
   ·exact(hs3 i h).imp id fun h=>by simp at h;omega
   ·simp at hw3;exact .inr (by omega)
  have hne: ∀ i,i∈F4->i≠w.heap.size+1:=fun i hi=>by
   rcases hs4' i hi with h | h
   ·have:=H.out.lt i h;omega
   ·omega
  have FIN:=Zaa (Yda hd4 (Yda (OW.trans ho4 fun i hi=>(hs3 i hi).imp id fun h=>by have h2:=S2.out;simp at h;omega) (Yda hs4' hne)));clear hd4 ho4 hs4 hs4' hne hd3 ho3 hs3 OW K0 K1 z0 z1 z2 z3 z4 z5 z6 z7 z8 sz M0 m0 nF3 y0 y1 y2 y3 y4 y5 y6 y7 y8 sy CB;go_wp2
  refine Ye6 (by simp[results,results243,go_sem,n0,n1,n2,n3,n4];try rfl) rfl ?_;have FO:=FIN.out;have hs:=fun j (hj:j∈F4)=>FO.2.2.2 j hj;refine⟨rfl,F4,FO.1.of (by simp[World.setCell]) fun j hj=>(Ydg _ _ _ _ (hs j hj)).trans ((Ydg _ _ _ _ (hs j hj)).trans ((Ydg _ _ _ _ (hs j hj)).trans ((Ydg _ _ _ _ (hs j hj)).trans (Ydg _ _ _ _ (hs j hj))))),((((FO.2.1.set (w.heap.size+1) 0 _ (.inr (Yet _))).set (w.heap.size+1) 1 _ (.inr (Yet _))).set (w.heap.size+1) 2 _ (.inr (Yet _))).set (w.heap.size+1) 3 _ (.inr (Yet _))).set (w.heap.size+1) 4 _ (.inr (Yet _)),fun i hi=>(FO.2.2.1 i hi).imp id (by omega)⟩
end Go.P
