import Derived.Test.YtgnakaplmhmdcaaGreatDoorW40
set_option maxRecDepth 100000
set_option maxHeartbeats 8000000
set_option linter.unusedSimpArgs false
open Go.Proofs Go.RowKit Go.W
namespace Go.W
def Zph:Zgk (ByteArray×Nat):=fun _ vs x F=>F=[]/\vs=[.string x.1,.int .i64 (x.2:Int)]
theorem Zph.stable:Zcx Zph:=fun _ _ _ _ _ h _=>h
theorem Zph.nil: ∀ (w:World) (vs:List Value) (x:ByteArray×Nat) (F:List Nat),Zph w vs x F->F=[]:=fun _ _ _ _ h=>h.1
theorem Zph.one {w:World}{vs:List Value}{x:ByteArray×Nat}{F:List Nat}(h:Zph w vs x F): ∀ u,u∈vs->u.oneCell'=true:=by
 obtain⟨_,rfl⟩:=h;intro u hu;simp at hu;rcases hu with rfl | rfl <;> rfl
end Go.W
namespace Go.P
variable {w:World}{p:Nat}
theorem Z58:Zdp Tryz.prog 319 359 2 24:=by
 obtain⟨i0,hi,hz0,hz1,hz2⟩:=info_parts (by kernel_rfl:(Tryz.prog.info? 359).map (fun i=>(i.zero,i.size,i.bytes))=some (some (.agg #[.string ⟨#[]⟩,.int .i64 0]),2,24));exact⟨i0,_,Tryz.underlying319,hi,hz0,hz1,hz2,rfl,by decide,by decide⟩
theorem Ztt (q:Option Addr)(n:ByteArray)(c:Nat):
  Calls Tryz.prog 220 #[.pointer (some ⟨p,0,none⟩),.agg #[.string n,.slice q 0 c]] w fun e w'=>e= .returned (.agg #[.string n,.slice none 0 0])/\Below w.heap.size w w':=by
 go_enter Tryz.func220,Tryz.ntmps220
 go_wp2_with fail
 refine wp_loop_rounds 1 ?_;rw[rounds_succ];go_wp2_with fail
 refine bodyPost_ret (by simp[results,Tryz.results220,go_sem];try rfl) rfl ?_;exact⟨rfl,(((Yct _ w).alloc lr _).alloc (by simp) _).alloc (by simp;omega) _⟩
theorem Zju {fs:List (ByteArray×Nat)}{vs:List T}{F:List Nat}(h:Zdv w p fs vs F){B D b o c:Nat}{x:T}(hx:Zbl B w (D+1) b o x)(hB:B<=w.heap.size)(hok:Zal 0 x=0)(hl:vs.length < 1000)(n:ByteArray):
  Calls Tryz.prog 220 #[.pointer (some ⟨p,0,none⟩),.agg #[.string n,.slice (some ⟨b,o,none⟩) 1 c]] w fun e w'=> ∃ g cap,e= .returned (.agg #[.string n,.slice (some ⟨g,0,none⟩) 1 cap])/\w.heap.size<=g/\Zdl w' g (Zbx vs x)/\ ∃ F',Zdv w' p fs (Zcl vs x) F'/\Off F w w'/\(∀ i,i∈F'->i∈F\/w.heap.size<=i)/\g∉F':=by
 obtain⟨hbB,p1,c1,x0,x1,x2,x3,hS⟩:=hx.vals;have hxt:x.t.size < 1000000000:=by obtain⟨_,_,_,ht,_⟩:=hS;exact ht
 have hbw:b < w.heap.size:=Ycz hbB hB;have H:=Zaa h;obtain⟨W3,hW3⟩: ∃ W3,Box (((w.alloc (.cells #[.string n,.slice (some ⟨b,o,none⟩) 1 c] 98)).alloc (.cells #[.string ⟨#[]⟩,.slice none 0 0] 321)).alloc (.cells #[.string n,.slice none 0 0] 321)=W3):=⟨_,⟨rfl⟩⟩;have B3:Box (Below w.heap.size w W3):=⟨hW3.out▸(((Yct _ w).alloc lr _).alloc (by simp) _).alloc (by simp;omega) _⟩;have S3:Box (W3.heap.size=w.heap.size+3):=⟨by rw[<- hW3.out];simp⟩;have L1:Box (Blk W3 (w.heap.size+1) #[.string ⟨#[]⟩,.slice none 0 0] 321):=⟨hW3.out▸(Zpo w _ _ _).alloc _⟩;have L2:Box (Blk W3 (w.heap.size+1+1) #[.string n,.slice none 0 0] 321):=⟨hW3.out▸Z1v w _ _ _ _⟩;have hbx:=B3.out.block b hbw;have x0':=(Ycw (a:=⟨b,o,none⟩) hbx).trans x0;have x1':=(Ycw (a:=⟨b,o+1,none⟩) hbx).trans x1;have x2':=(Ycw (a:=⟨b,o+2,none⟩) hbx).trans x2;have x3':=(Ycw (a:=⟨b,o+3,none⟩) hbx).trans x3;have z1:=fun ob=>(L2.out.alloc ob).two.2.1;have CS:=Zaa (fun u (hu:Below w.heap.size w u)=>Zsp (h.of (w':=u) hu.size fun j hj=>hu.block j (h.lt j hj)) (Zcv.carry hS (Za6 hu hB)) (Ycu hB hu.size) hok hl);clear h hS hx;go_enter Tryz.func220,Tryz.ntmps220
 go_wp2_with fail
 rw[hW3.out];refine wp_loop_rounds 2 ?_;rw[rounds_succ];clear hW3 hbx x0 x1 x2 x3;go_wp2_with fail
 have nF: ∀ j,w.heap.size<=j->j∉F:=fun j hj h=>by have:=H.out.lt _ h;omega
 go_region_law (first
  | (go_simp;go_at_call 239;refine(CS.out _ (B3.out.alloc B3.out.size _).drew).mono ?_;rintro e w5 ⟨rfl,F5,hd5,ho5,hs5⟩;have K2:=(L2.out.alloc _).of (ho5.block (w.heap.size+1+1) (by have:=S3.out;simp;omega) (nF _ (by omega)));have k1:=K2.two.2.1;have ks:=K2.soft;have hz5:=K2.lt;have hw5:=ho5.size)
  | (refine Zdr Z58 rfl (.tmp 19) (.tmp 23) rfl Zph.stable (fun _ _ _ _ h=>Zph.one h) 0 (.slice none 0 0) [] [] rfl Zag.nil w5.heap.size #[.string (Zbx vs x).1,.int .i64 ((Zbx vs x).2:Int)] 359 (0,0) (Zbx vs x) [] rfl (Zas _ _) rfl ⟨rfl,rfl⟩ (by simp) (Yd1 _) (Za9.nil _ _) (Za9.nil _ _) (fun _ _ h=>by cases h) ?_;intro g6 cap6 w6 F6 happ;have b6:=(happ.same (w.heap.size+1+1) (by simp;omega) (by simp)).trans (Ycx _ _ _ hz5);have c6:=(Ycw (a:=⟨w.heap.size+1+1,1,none⟩) b6).trans k1;have s6:=fun j=>(Yeh (a:=⟨w.heap.size+1+1,j,none⟩) b6).trans (ks j)))
 all_goals
  have h3:=S3.out;have hw5':w.heap.size+4<=w5.heap.size:=by simp at hw5;omega
  have hg6:w5.heap.size < g6:=by
   rcases happ.sub g6 happ.row.own with h | h | h
   ·cases h
   ·cases h
   ·simp at h;omega
  have hs5': ∀ i,i∈F5->i∈F\/w.heap.size+4<=i:=fun i hi=>(hs5 i hi).imp id fun h=>by simp at h;omega
  have hF5: ∀ i,i∈F5->i≠w.heap.size+1/\i≠w.heap.size+1+1:=fun i hi=>by
   rcases hs5' i hi with h | h
   ·have:=H.out.lt i h;omega
   ·omega
  have up: ∀ j,j < w5.heap.size->w6.heap[j]?=w5.heap[j]?:=fun j hj=>(happ.same j (by simp;omega) (by simp)).trans (Ycx _ _ _ hj);have hsl:Zdl w6 g6 (Zbx vs x):=by
   obtain⟨cur,A,cs,R,hcb,hcur,hAl,_,⟨_,hcs⟩,_⟩:=Zag.last (xs:=[]) Zph.stable Zph.nil happ.row;subst hcur hcs;refine⟨hcb.lt,?_,?_,?_⟩
   ·have:=Zgy hcb hAl 0 _ rfl
    simpa using this
   ·have:=Zgy hcb hAl 1 _ rfl
    simpa using this
   ·unfold Zbx;split
    ·exact hxt
    ·exact(by decide:(ByteArray.mk #[]).size < 1000000000)
  have K7:=(K2.of b6).set 1 (.slice (some ⟨g6,0,none⟩) 1 cap6);have K1:=(((L1.out.alloc _).of (ho5.block (w.heap.size+1) (by simp;omega) (nF _ (by omega)))).of (up _ (by omega))).away (w.heap.size+1+1) 1 (by omega) (.slice (some ⟨g6,0,none⟩) 1 cap6);have hd7:=hd5.of (w':=w6.setCell ⟨w.heap.size+1+1,1,none⟩ (.slice (some ⟨g6,0,none⟩) 1 cap6)) (by have:=happ.size;simp[World.setCell]at this⊢;omega) fun j hj=>(Ycy _ _ _ _ (hF5 j hj).2).trans (up j (hd5.lt j hj));have ho7:Off F w w6:=((((Off.of B3.out).alloc _).drew.trans ho5 fun _ h=> .inl h)).trans (G:=[]) ⟨happ.os,happ.tape,happ.output,by have:=happ.size;simp at this;omega,fun j hj _=>up j hj⟩ fun _ h=>(by cases h);have hs7:=hsl.of (w':=w6.setCell ⟨w.heap.size+1+1,1,none⟩ (.slice (some ⟨g6,0,none⟩) 1 cap6)) (by simp[World.setCell]) (Ycy _ _ _ _ (show g6≠w.heap.size+1+1 by omega));have FIN:=Zaa (Ycs hs7 (Ycs hd7 (Ycs (ho7.set (w.heap.size+1+1) 1 (.slice (some ⟨g6,0,none⟩) 1 cap6) (.inr (by omega))) (Ycs hs5' (Ycs hF5 (fun h=>by have:=hd5.lt g6 h;omega:g6∉F5))))));have hg1:w.heap.size<=g6/\g6≠w.heap.size+1:=⟨by omega,by omega⟩;clear hs7 hd7 ho7 hs5' hF5 hsl up hs5 ho5 hd5 happ b6 c6 s6 K2 k1 ks hz5 hw5 hw5' hg6 h3;generalize w6.setCell ⟨w.heap.size+1+1,1,none⟩ (.slice (some ⟨g6,0,none⟩) 1 cap6)=W7 at*;obtain⟨m0,m1,ms⟩:=Blk.two K7;obtain⟨n0,n1,ns⟩:=Blk.two K1;go_wp2_with fail
  rw[rounds_succ];go_wp2_with fail
  refine bodyPost_ret (by simp[results,Tryz.results220,go_sem,n0,n1];try rfl) rfl ?_;have FO:=FIN.out;refine⟨g6,cap6,rfl,hg1.1,FO.1.of (by simp[World.setCell]) ((Ycy _ _ _ _ hg1.2).trans (Ycy _ _ _ _ hg1.2)),F5,FO.2.1.of (by simp[World.setCell]) fun j hj=>(Ycy _ _ _ _ (FO.2.2.2.2.1 j hj).1).trans (Ycy _ _ _ _ (FO.2.2.2.2.1 j hj).1),(FO.2.2.1.set (w.heap.size+1) 0 _ (.inr (Yeb _))).set (w.heap.size+1) 1 _ (.inr (Yeb _)),fun i hi=>(FO.2.2.2.1 i hi).imp id (by omega),FO.2.2.2.2.2⟩
end Go.P
