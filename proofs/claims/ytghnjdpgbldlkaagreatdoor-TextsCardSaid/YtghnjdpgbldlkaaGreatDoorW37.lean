import Derived.Test.YtghnjdpgbldlkaaGreatDoorW35
set_option maxRecDepth 100000
set_option maxHeartbeats 8000000
set_option linter.unusedSimpArgs false
open Go.Proofs Go.RowKit Go.W Tryz
namespace Go.W
def Uj:D9 (ByteArray×Nat):=fun _ vs x F=>F=[]/\vs=[.string x.1,.int .i64 (x.2:Int)]
theorem Uj.stable:IB Uj:=fun _ _ _ _ _ h _=>h
theorem Uj.nil: ∀ (w:World) (vs:List Value) (x:ByteArray×Nat) (F:List Nat),Uj w vs x F->F=[]:=fun _ _ _ _ h=>h.1
theorem Uj.one {w:World}{vs:List Value}{x:ByteArray×Nat}{F:List Nat}(h:Uj w vs x F): ∀ u,u∈vs->u.oneCell'=true:=by
 obtain⟨_,rfl⟩:=h;intro u hu;simp at hu;rcases hu with rfl | rfl <;> rfl
end Go.W
namespace Go.P
variable {w:World}{p:Nat}
theorem Z8s:Jk prog 321 368 2 24:=by
 obtain⟨i0,hi,hz0,hz1,hz2⟩:=info_parts (by kernel_rfl:(prog.info? 368).map (fun i=>(i.zero,i.size,i.bytes))=some (some<|.agg #[.string ⟨#[]⟩,.int .i64 0],2,24));exact⟨i0,_,underlying321,hi,hz0,hz1,hz2,rfl,zu,zu⟩
theorem Zwr (q:Option Addr)(n:ByteArray)(c:Nat):
  Calls prog 224 #[.pointer<|Qb p 0,.agg #[.string n,.slice q 0 c]] w fun e w'=>e= .returned (.agg #[.string n,.slice none 0 0])/\Bl w w':=by
 go_in
 go_wp2
 refine Dt 1 ?_;rw[A8];go_wp2
 refine CQ (by simp[results,results224,go_sem];try rfl) rfl ?_;exact⟨rfl,(((AQ _ w).alloc lr _).alloc zw _).alloc (by simp;omega) _⟩
theorem wI {fs:List (ByteArray×Nat)}{vs:List T}{F:List Nat}(h:Bv w p fs vs F){B D b o c:Nat}{x:T}(hx:D6 B w (D+1) b o x)(hB:B<=w.heap.size)(Az:A9 0 x=0)(hl:vs.length<1000)(n:ByteArray):
  Calls prog 224 #[.pointer<|Qb p 0,.agg #[.string n,.slice (Qb b o) 1 c]] w fun e w'=> ∃ g cap,e= .returned (.agg #[.string n,.slice (Qb g 0) 1 cap])/\w.heap.size<=g/\JL w' g (DF vs x)/\ ∃ F',Bv w' p fs (EC vs x) F'/\Off F w w'/\(∀ i,i∈F'->i∈F\/w.heap.size<=i)/\g∉F':=by
 obtain⟨fe,p1,c1,x0,x1,x2,x3,hS⟩:=hx.vals;have hxt:x.t.size<1000000000:=by obtain⟨_,_,_,ht,_⟩:=hS;exact ht
 have AX:b<w.heap.size:=Ba fe hB;have H:=AA h;obtain⟨W3,hW3⟩: ∃ W3,AC (((w.alloc<|.cells #[.string n,.slice (Qb b o) 1 c] 95).alloc<|.cells #[.string ⟨#[]⟩,.slice none 0 0] 323).alloc (.cells #[.string n,.slice none 0 0] 323)=W3):=⟨_,⟨rfl⟩⟩;have B3:AC (Bl w W3):=⟨hW3.out▸(((AQ _ w).alloc lr _).alloc zw _).alloc (by simp;omega) _⟩;have S3:AC (W3.heap.size=w.heap.size+3):=⟨by rw[<- hW3.out];simp⟩;have L1:AC (AJ W3 (w.heap.size+1) #[.string ⟨#[]⟩,.slice none 0 0] 323):=⟨hW3.out▸(Jd w _ _ _).alloc _⟩;have L2:AC (AJ W3 (w.heap.size+1+1) #[.string n,.slice none 0 0] 323):=⟨hW3.out▸UC w _ _ _ _⟩;have fQ:=B3.out.block b AX;have x0':=(Am (a:=⟨b,o,none⟩) fQ).trans x0;have x1':=(Am (a:=⟨b,o+1,none⟩) fQ).trans x1;have x2':=(Am (a:=⟨b,o+2,none⟩) fQ).trans x2;have x3':=(Am (a:=⟨b,o+3,none⟩) fQ).trans x3;have z1:=fun ob=>(L2.out.alloc ob).two.2.1;have CS:=AA fun u (hu:Bl w u)=>uL (h.of (w':=u) hu.size fun j hj=>hu.block j (h.lt j hj)) (Dn.carry hS<|BJ hu hB) (AU hB hu.size) Az hl;clear h hS hx;go_in
 go_wp2_with fail
 rw[hW3.out];refine Dt 2 ?_;rw[A8];clear hW3 fQ x0 x1 x2 x3;go_wp2_with fail
 have nF: ∀ j,w.heap.size<=j->j∉F:=fun j hj h=>by have:=H.out.lt _ h;omega
 go_region_law (first
  | (go_simp;go_at_call 249;refine(CS.out _ (B3.out.alloc B3.out.size _).drew).mono ?_;rintro e w5 ⟨rfl,F5,Oz,BQ,hs5⟩;have K2:=(L2.out.alloc _).of<|BQ.block (w.heap.size+1+1) (by have:=S3.out;simp;omega)<|nF _ zx;have k1:=K2.two.2.1;have ks:=K2.soft;have zL:=K2.lt;have Pe:=BQ.size)
  | (refine Ux Z8s rfl (.tmp 19) (.tmp 23) rfl Uj.stable (fun _ _ _ _ h=>Uj.one h) 0 (.slice none 0 0) [] [] rfl AO.nil w5.heap.size #[.string (DF vs x).1,.int .i64 ((DF vs x).2:Int)] 368 (0,0) (DF vs x) [] rfl (IC _ _) rfl ⟨rfl,rfl⟩ zw (Ii _) (Af.nil _ _) (Af.nil _ _) (fun _ _ h=>by cases h) ?_;intro g6 Bt w6 F6 AM;have b6:=(AM.same (w.heap.size+1+1) (by simp;omega) zw).trans<|Ah _ _ _ zL;have c6:=(Am (a:=⟨w.heap.size+1+1,1,none⟩) b6).trans k1;have s6:=fun j=>(Xj (a:=⟨w.heap.size+1+1,j,none⟩) b6).trans (ks j)))
 all_goals
  have h3:=S3.out;have qA:w.heap.size+4<=w5.heap.size:=by simp at Pe;omega
  have fJ:w5.heap.size<g6:=by
   rcases AM.sub g6 AM.row.own with h | h | h
   ·cases h
   ·cases h
   ·simp at h;omega
  have FT: ∀ i,i∈F5->i∈F\/w.heap.size+4<=i:=fun i hi=>(hs5 i hi).imp id fun h=>by simp at h;omega
  have aX: ∀ i,i∈F5->i≠w.heap.size+1/\i≠w.heap.size+1+1:=fun i hi=>by
   rcases FT i hi with h | h
   ·have:=H.out.lt i h;omega
   ·omega
  have up: ∀ j,j<w5.heap.size->w6.heap[j]?=w5.heap[j]?:=fun j hj=>(AM.same j (by simp;omega) zw).trans (Ah _ _ _ hj);have Md:JL w6 g6 (DF vs x):=by
   obtain⟨cur,A,cs,R,hcb,NI,Ue,_,⟨_,hcs⟩,_⟩:=AO.last (xs:=[]) Uj.stable Uj.nil AM.row;subst NI hcs;refine⟨hcb.lt,?_,?_,?_⟩
   ·have:=bR hcb Ue 0 _ rfl
    simpa using this
   ·have:=bR hcb Ue 1 _ rfl
    simpa using this
   ·unfold DF;split
    ·exact hxt
    ·exact(by decide:(ByteArray.mk #[]).size<1000000000)
  have K7:=(K2.of b6).set 1<|.slice (Qb g6 0) 1 Bt;have K1:=(((L1.out.alloc _).of<|BQ.block (w.heap.size+1) (by simp;omega)<|nF _ zx).of<|up _ zx).away (w.heap.size+1+1) 1 zx<|.slice (Qb g6 0) 1 Bt;have hd7:=Oz.of (w':=w6.setCell ⟨w.heap.size+1+1,1,none⟩<|.slice (Qb g6 0) 1 Bt) (by have:=AM.size;simp[World.setCell]at this⊢;omega) fun j hj=>(Au _ _ _ _ (aX j hj).2).trans (up j<|Oz.lt j hj);have FU:Off F w w6:=((((Off.of B3.out).alloc _).drew.trans BQ fun _ h=> .inl h)).trans (G:=[]) ⟨AM.os,AM.tape,AM.output,by have:=AM.size;simp at this;omega,fun j hj _=>up j hj⟩ fun _ h=>(by cases h);have MC:=Md.of (w':=w6.setCell ⟨w.heap.size+1+1,1,none⟩<|.slice (Qb g6 0) 1 Bt) (by simp[World.setCell])<|Au _ _ _ _ (show g6≠w.heap.size+1+1 by omega);have Do:=AA<|AF MC<|AF hd7<|AF (FU.set (w.heap.size+1+1) 1 (.slice (Qb g6 0) 1 Bt)<|.inr zx)<|AF FT<|AF aX (fun h=>by have:=Oz.lt g6 h;omega:g6∉F5);have Wm:w.heap.size<=g6/\g6≠w.heap.size+1:=⟨zx,zx⟩;clear MC hd7 FU FT aX Md up hs5 BQ Oz AM b6 c6 s6 K2 k1 ks zL Pe qA fJ h3;generalize w6.setCell ⟨w.heap.size+1+1,1,none⟩ (.slice (Qb g6 0) 1 Bt)=W7 at*;obtain⟨m0,m1,ms⟩:=AJ.two K7;obtain⟨n0,n1,ns⟩:=AJ.two K1;go_wp2_with fail
  rw[A8];go_wp2
  refine CQ (by simp[results,results224,go_sem,n0,n1];try rfl) rfl ?_;have FO:=Do.out;refine⟨g6,Bt,rfl,Wm.1,FO.1.of (by simp[World.setCell])<|(Au _ _ _ _ Wm.2).trans<|Au _ _ _ _ Wm.2,F5,FO.2.1.of (by simp[World.setCell]) fun j hj=>(Au _ _ _ _ (FO.2.2.2.2.1 j hj).1).trans (Au _ _ _ _ (FO.2.2.2.2.1 j hj).1),(FO.2.2.1.set (w.heap.size+1) 0 _<|.inr<|Js _).set (w.heap.size+1) 1 _<|.inr<|Js _,fun i hi=>(FO.2.2.2.1 i hi).imp id zx,FO.2.2.2.2.2⟩
end Go.P
