import Derived.Test.YtgnakaplmhmdcaaGreatDoorW09
set_option maxRecDepth 100000
set_option maxHeartbeats 8000000
set_option linter.unusedSimpArgs false
open Go.Proofs Go.RowKit Go.W
namespace Go.P
variable {w:World}{q p m:Nat}{cs:Array Value}{gs:List Gt}{S F Fo:List Nat}{fs:List (ByteArray×Nat)}{vs:List T}{ov:Value}
theorem Zeg (f:Nat)(hf:f < 8):bits BinOp.or IntKind.u64 0 (f:Int)=(f:Int):=by
 have h2:f=0\/f=1\/f=2\/f=3\/f=4\/f=5\/f=6\/f=7:=by omega
 rcases h2 with rfl | rfl | rfl | rfl | rfl | rfl | rfl | rfl <;> rfl
theorem Ctx.put {at_:List Pt}{xs:List (ByteArray×Nat)}(h:Ctx w q p m cs at_ gs S fs vs F xs ov Fo)(j:Nat)(hj:8<=j)(v:Value):Ctx (w.setCell ⟨q,j,none⟩ v) q p m (cs.setIfInBounds j v) at_ gs S fs vs F xs ov Fo:=by
 have hb:=h.bd;have sz:(w.setCell ⟨q,j,none⟩ v).heap.size=w.heap.size:=by simp[World.setCell]
 refine h.step (w':=w.setCell ⟨q,j,none⟩ v) (xs':=xs) (ov':=ov) (Fo':=Fo) ⟨?_,?_,by simpa using hb.sz,Zag.stable Zvh.stable _ _ _ _ _ hb.row fun k hk=>Ycy _ _ _ _ (fun e=>hb.qF (by rw[show q=k from e.symm];exact hk)),hb.map.of (Ycy _ _ _ _ (fun e=>hb.ne e.symm)),hb.ne,hb.new.later lr (by omega),hb.qF,hb.mF⟩ ((Off.refl _ w).set q j v (by simp)) (fun _ h=> .inl h) ⟨by simp,fun k hk=>by rw[Ycv,if_neg (by omega)]⟩
 ·have:=hb.blk.set j v
  rwa [Array.setIfInBounds_comm _ _ (by omega)]at this
 ·rw[Ycv,if_neg (by omega)];exact hb.c0
theorem Z08 {x x1:Pt}(h:Ctx w q p m cs [x,x1] gs S fs vs F [] ov Fo)(hl:gs.length<=1){n a1:Nat}{fx:ByteArray×Nat}(hn:fs[n]?=some fx)(hn60:n < 60)(hm0:(Zcf [] x.1 x.2 fx).2=[])(c9:cs[9]?=some (.int .u64 (a1:Int)))(ha8:a1 < 8)(cb:cs[12+n*4+1]?=some (.int .u64 0))(hb: ∀ n,n∈Za5 a1->n < fs.length)(ha: ∀ n,n∈Za5 a1->(Zcf [] x1.1 x1.2 (fs.getD n (⟨#[]⟩,0))).1=true-> ∀ y,y∈gs->Z59 (Zcf [] x1.1 x1.2 (fs.getD n (⟨#[]⟩,0))).2 vs y):
  Calls Tryz.prog 246 #[.pointer (some ⟨q,0,none⟩),.int .i64 0,.int .i64 (n:Int),.int .i64 0] w fun e w'=>e= .returned (.tuple #[])/\ ∃ ov' Fo',Ctx w' q p m (cs.setIfInBounds (12+n*4+1) (.int .u64 (Zdo fs x1.1 x1.2 (Za5 a1):Int))) [x,x1] gs S fs vs F [] ov' Fo'/\Off (q::m::Fo) w w'/\ ∀ i,i∈Fo'->i∈Fo\/w.heap.size<=i:=by
 obtain⟨pa,ca,c3,hA⟩:=h.rd.atoms;obtain⟨ga,g,c,rfl,hgaS,hgS,a0,a0',hsl⟩:=hA 0 x rfl;obtain⟨ga',g1,c1,e,_,hg1S,b0,b0',hsl1⟩:=hA 1 x1 rfl;injection e with e;injection e with e;subst e;obtain⟨gf,cf,p0,hpF,hfF,f0,f1,f2,f3,f4,f5,f6,f7⟩:=h.fact hn;have q0:=(h.cell 0 (by omega)).trans h.rd.c0;have q3:=(h.cell 3 (by omega)).trans c3;have q9:=(h.cell 9 (by omega)).trans c9;have qb:=(h.cell (12+n*4+1) (by omega)).trans cb;have hnl:(n:Int) < (fs.length:Int):=by have:=(Yc3.1 hn).1;omega
 have hn6:(n:Int) < 60:=by omega
 have CM:=Zaa (Znr (w:=w.drew) (h.below (Yct _ w).drew).bd (c:=c) (hsl.of (w':=w.drew) lr rfl) x.1 fx (by simp));rw[hm0]at CM;unfold Zem at CM;simp only[Yc7,Ydb,Ydp,Yef,Nat.one_mul]at q3 a0 a0' b0 b0' c3;obtain⟨fit,hfit⟩: ∃ fit,Box (Zdo fs x1.1 x1.2 (Za5 a1)=fit):=⟨_,⟨rfl⟩⟩;rw[hfit.out];have H:=Zaa h;clear h hA;go_enter Tryz.func246,Tryz.ntmps246
 go_wp2_with fail
 go_region_held3 (fun u=>u.cell? ⟨q,0,none⟩=some (.pointer (some ⟨p,0,none⟩))/\u.cell? ⟨q,3,none⟩=some (.slice (some ⟨ga,0,none⟩) 2 ca)/\u.cell? ⟨ga,0,none⟩=some (.string x.1)/\u.cell? ⟨ga,1,none⟩=some (.slice (some ⟨g,0,none⟩) 1 c)/\u.cell? ⟨p,0,none⟩=some (.slice (some ⟨gf,0,none⟩) fs.length cf)/\u.cell? ⟨gf,n*8,none⟩=some (.string fx.1)/\u.cell? ⟨gf,n*8+1,none⟩=some (.int .i64 1)/\u.cell? ⟨gf,n*8+2,none⟩=some (.int .i64 (fx.2:Int))/\u.cell? ⟨gf,n*8+3,none⟩=some (.int .i64 0)/\u.cell? ⟨gf,n*8+4,none⟩=some (.int .i64 0)/\u.cell? ⟨gf,n*8+5,none⟩=some (.int .i64 0)/\u.cell? ⟨gf,n*8+6,none⟩=some (.int .i64 0)/\u.cell? ⟨gf,n*8+7,none⟩=some (.int .i64 0)) (first | exact⟨q0,q3,a0,a0',p0,f0,f1,f2,f3,f4,f5,f6,f7⟩ | exact S2) (first
  | (go_at_call 260;refine CM.out.mono ?_;rintro e w2 ⟨rfl,ov2,F2,hb2,ho2,hs2⟩;have C2:=(H.out.below (Yct _ w).drew).step hb2 ho2 hs2 ⟨rfl,fun _ _=>rfl⟩;have bk: ∀ j,j < w.heap.size->j∉q::m::Fo-> ∀ o,w2.cell? ⟨j,o,none⟩=w.cell? ⟨j,o,none⟩:=(fun j hj hn o=>Ycw (a:=⟨j,o,none⟩) (ho2.block j hj hn));have nS: ∀ j,j∈S->j∉q::m::Fo:=(fun j hj h=>(H.out.dB j h).2.1 hj);have nF: ∀ j,j∈F->j∉q::m::Fo:=(fun j hj h=>(H.out.dB j h).1 hj);have lS:=H.out.rd.lS;have lF:=H.out.wd.lt;have S2:=Ycs ((C2.cell 0 (by omega)).trans C2.rd.c0) (Ycs ((C2.cell 3 (by omega)).trans c3) (Ycs ((bk ga (lS _ hgaS) (nS _ hgaS) _).trans a0) (Ycs ((bk ga (lS _ hgaS) (nS _ hgaS) _).trans a0') (Ycs ((bk p (lF _ hpF) (nF _ hpF) _).trans p0) (Ycs ((bk gf (lF _ hfF) (nF _ hfF) _).trans f0) (Ycs ((bk gf (lF _ hfF) (nF _ hfF) _).trans f1) (Ycs ((bk gf (lF _ hfF) (nF _ hfF) _).trans f2) (Ycs ((bk gf (lF _ hfF) (nF _ hfF) _).trans f3) (Ycs ((bk gf (lF _ hfF) (nF _ hfF) _).trans f4) (Ycs ((bk gf (lF _ hfF) (nF _ hfF) _).trans f5) (Ycs ((bk gf (lF _ hfF) (nF _ hfF) _).trans f6) ((bk gf (lF _ hfF) (nF _ hfF) _).trans f7))))))))))))))
 have q0':=S2.1;have q3':=S2.2.1;have q9':=(C2.cell 9 (by omega)).trans c9;have qb':=(C2.cell (12+n*4+1) (by omega)).trans cb;have qs':=C2.bd.blk.soft;have b2:=(bk ga (lS _ hgaS) (nS _ hgaS) _).trans b0;have b2':=(bk ga (lS _ hgaS) (nS _ hgaS) _).trans b0';have sl2:=Zaa (hsl1.of (w':=w2) ho2.size (ho2.block g1 (lS _ hg1S) (nS _ hg1S)));have FF:=Zaa (Ycs C2 (Ycs ho2 hs2));clear S2 C2 hb2 ho2 hs2 bk nS nF lS lF q0 q3 q9 qb a0 a0' p0 f0 f1 f2 f3 f4 f5 f6 f7 CM b0 b0';go_wp2_with fail
 refine wp_loop_rounds 2 ?_;rw[rounds_succ];go_wp2_with fail
 have hgq:ga≠q:=fun e=>(FF.out.1.dB q (by simp)).2.1 (e▸hgaS);have CF:=Zaa (Zhj (FF.out.1.below (Yct _ w2).drew) hl (c:=c1) (sl2.out.of (w':=w2.drew) lr rfl) hg1S x1.1 a1 ha8 hb ha);rw[hfit.out]at CF;have hfl:fit < 8:=hfit.out▸Zes _ _ _ fun k hk=>Zck hk;have hor:=Zeg _ hfl;go_region_with (go_at_call 243;refine CF.out.mono ?_;rintro e w3 ⟨rfl,ov3,F3,hc3,ho3,hs3⟩;have qb3:=(hc3.cell (12+n*4+1) (by omega)).trans cb;have qs3:=hc3.bd.blk.soft;have q33:=(hc3.cell 3 (by omega)).trans c3)
 all_goals
  have hcp:=hc3.put (12+n*4+1) (by omega) (.int .u64 (fit:Int));have hop:=ho3.set q (12+n*4+1) (.int .u64 (fit:Int)) (by simp);have q3p:(w3.setCell ⟨q,12+n*4+1,none⟩ (.int .u64 (fit:Int))).cell? ⟨q,3,none⟩=some (.slice (some ⟨ga,0,none⟩) 2 ca):=(World.cell?_setCell_other _ _ _ _ (by simp)).trans q33;have CX:=Zaa (Zig hcp.bd (by simp));have F4:=Zaa (Ycs hcp (Ycs hop hs3));clear hc3 ho3 hs3 qb3 qs3 q33 hcp hop CF;generalize w3.setCell ⟨q,12+n*4+1,none⟩ (.int .u64 (fit:Int))=W4 at*;go_wp2_with fail
  rw[rounds_succ];go_wp2_with fail
  refine CX.out.mono ?_;rintro e w5 ⟨rfl,ov5,hb5,ho5⟩;have FO:=Zaa (Ycs (F4.out.1.step hb5 ho5 (fun _ h=> .inl h) ⟨rfl,fun _ _=>rfl⟩) (Ycs ((Off.of (F:=q::m::Fo) (Yct _ w).drew).trans (FF.out.2.1.trans ((Off.of (F:=q::m::F2) (Yct _ w2).drew).trans (F4.out.2.1.trans ho5 fun i hi=>by
   simp only[Yc1]at hi⊢;rcases hi with h | h | h
   ·exact .inl (.inl h)
   ·exact .inl (.inr (.inl h))
   ·exact(F4.out.2.2 i h).imp (fun h=> .inr (.inr h)) id) fun _ h=> .inl h) fun i hi=>by
   simp only[Yc1]at hi⊢;rcases hi with h | h | h
   ·exact .inl (.inl h)
   ·exact .inl (.inr (.inl h))
   ·exact(FF.out.2.2 i h).imp (fun h=> .inr (.inr h)) id) fun _ h=> .inl h) (fun i hi=>by
   have hsz:w.heap.size<=w2.heap.size:=FF.out.2.1.size;rcases F4.out.2.2 i hi with h | h
   ·exact FF.out.2.2 i h
   ·have h:w2.heap.size<=i:=h;exact .inr (by omega): ∀ i,i∈F3->i∈Fo\/w.heap.size<=i)))
  clear hb5 ho5 CX FF F4;go_wp2_with fail
  go_end0
  exact⟨rfl,ov5,F3,FO.out.1,FO.out.2.1,FO.out.2.2⟩
end Go.P
