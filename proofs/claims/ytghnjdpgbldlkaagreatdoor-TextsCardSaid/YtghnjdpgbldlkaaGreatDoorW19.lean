import Derived.Test.YtghnjdpgbldlkaaGreatDoorW07
set_option maxRecDepth 100000
set_option maxHeartbeats 8000000
set_option linter.unusedSimpArgs false
open Go.Proofs Go.RowKit Go.W Tryz
namespace Go.P
variable {w:World}{q p m:Nat}{cs:Array Value}{gs:List Gt}{S F Fo:List Nat}{fs:List (ByteArray×Nat)}{vs:List T}{ov:Value}
theorem QA (f:Nat)(hf:f<8):bits BinOp.or IntKind.u64 0 (f:Int)=(f:Int):=by
 have h2:f=0\/f=1\/f=2\/f=3\/f=4\/f=5\/f=6\/f=7:=zx
 rcases h2 with rfl | rfl | rfl | rfl | rfl | rfl | rfl | rfl <;> rfl
theorem Ctx.put {at_:List Pt}{xs:List (ByteArray×Nat)}(h:Ctx w q p m cs at_ gs S fs vs F xs ov Fo)(j:Nat)(hj:8<=j)(v:Value):Ctx (w.setCell ⟨q,j,none⟩ v) q p m (cs.setIfInBounds j v) at_ gs S fs vs F xs ov Fo:=by
 have hb:=h.bd;have sz:(w.setCell ⟨q,j,none⟩ v).heap.size=w.heap.size:=by simp[World.setCell]
 refine h.step (w':=w.setCell ⟨q,j,none⟩ v) (xs':=xs) (Aw:=ov) (Aj:=Fo) ⟨?_,?_,by simpa using hb.sz,AO.stable OP.stable _ _ _ _ _ hb.row fun k hk=>Au _ _ _ _ (fun e=>hb.qF (by rw[show q=k from e.symm];exact hk)),hb.map.of<|Au _ _ _ _ fun e=>hb.ne e.symm,hb.ne,hb.new.later lr zx,hb.qF,hb.mF⟩ ((Off.refl _ w).set q j v zw) (fun _ h=> .inl h) ⟨zw,fun k hk=>by rw[Bc,if_neg zx]⟩
 ·have:=hb.blk.set j v
  rwa [Array.setIfInBounds_comm _ _ zx]at this
 ·rw[Bc,if_neg zx];exact hb.c0
theorem Z1o {x x1:Pt}(h:Ctx w q p m cs [x,x1] gs S fs vs F [] ov Fo)(hl:gs.length<=1){n a1:Nat}{fx:ByteArray×Nat}(hn:fs[n]?=some fx)(YV:n<60)(aO:(GU [] x.1 x.2 fx).2=[])(c9:cs[9]?=some (.int .u64 (a1:Int)))(aU:a1<8)(cb:cs[12+n*4+1]?=some (.int .u64 0))(hb: ∀ n,n∈BR a1->n<fs.length)(ha: ∀ n,n∈BR a1->(GU [] x1.1 x1.2<|fs.getD n (⟨#[]⟩,0)).1=true-> ∀ y,y∈gs->WJ (GU [] x1.1 x1.2<|fs.getD n (⟨#[]⟩,0)).2 vs y):
  Calls prog 256 #[.pointer<|Qb q 0,.int .i64 0,.int .i64 (n:Int),.int .i64 0] w fun e w'=>e= .returned (.tuple #[])/\ ∃ Aw Aj,Ctx w' q p m (cs.setIfInBounds (12+n*4+1)<|.int .u64 (GJ fs x1.1 x1.2 (BR a1):Int)) [x,x1] gs S fs vs F [] Aw Aj/\Off (q::m::Fo) w w'/\ ∀ i,i∈Aj->i∈Fo\/w.heap.size<=i:=by
 obtain⟨pa,ca,c3,hA⟩:=h.rd.atoms;obtain⟨ga,g,c,rfl,EZ,TG,a0,ZF,Md⟩:=hA 0 x rfl;obtain⟨ga',g1,c1,e,_,Yg,b0,au,VP⟩:=hA 1 x1 rfl;injection e with e;injection e with e;subst e;obtain⟨gf,cf,p0,Ph,FV,f0,f1,f2,f3,f4,f5,f6,f7⟩:=h.fact hn;have q0:=(h.cell 0 zx).trans h.rd.c0;have q3:=(h.cell 3 zx).trans c3;have q9:=(h.cell 9 zx).trans c9;have qb:=(h.cell (12+n*4+1) zx).trans cb;have M9:(n:Int)<(fs.length:Int):=by have:=(Gl.1 hn).1;omega
 have qY:(n:Int)<60:=zx
 have CM:=AA<|ut (w:=w.drew) (h.below (AQ _ w).drew).bd (c:=c) (Md.of (w':=w.drew) lr rfl) x.1 fx zw;rw[aO]at CM;unfold He at CM;simp only[BO,D7,Hr,Ol,Nat.one_mul]at q3 a0 ZF b0 au c3;obtain⟨fit,BG⟩: ∃ fit,AC (GJ fs x1.1 x1.2 (BR a1)=fit):=⟨_,⟨rfl⟩⟩;rw[BG.out];have H:=AA h;clear h hA;go_in
 go_wp2
 go_region_held3 (fun u=>u.cell? ⟨q,0,none⟩=some (.pointer<|Qb p 0)/\u.cell? ⟨q,3,none⟩=some (.slice (Qb ga 0) 2 ca)/\u.cell? ⟨ga,0,none⟩=some (.string x.1)/\u.cell? ⟨ga,1,none⟩=some (.slice (Qb g 0) 1 c)/\u.cell? ⟨p,0,none⟩=some (.slice (Qb gf 0) fs.length cf)/\u.cell? ⟨gf,n*8,none⟩=some (.string fx.1)/\u.cell? ⟨gf,n*8+1,none⟩=some (.int .i64 1)/\u.cell? ⟨gf,n*8+2,none⟩=some (.int .i64 (fx.2:Int))/\u.cell? ⟨gf,n*8+3,none⟩=some (.int .i64 0)/\u.cell? ⟨gf,n*8+4,none⟩=some (.int .i64 0)/\u.cell? ⟨gf,n*8+5,none⟩=some (.int .i64 0)/\u.cell? ⟨gf,n*8+6,none⟩=some (.int .i64 0)/\u.cell? ⟨gf,n*8+7,none⟩=some (.int .i64 0)) (first | exact⟨q0,q3,a0,ZF,p0,f0,f1,f2,f3,f4,f5,f6,f7⟩ | exact S2) (first
  | (go_at_call 282;refine CM.out.mono ?_;rintro e w2 ⟨rfl,dR,F2,hb2,EU,hs2⟩;have C2:=(H.out.below (AQ _ w).drew).step hb2 EU hs2 ⟨rfl,fun _ _=>rfl⟩;have bk: ∀ j,j<w.heap.size->j∉q::m::Fo-> ∀ o,w2.cell? ⟨j,o,none⟩=w.cell? ⟨j,o,none⟩:=(fun j hj hn o=>Am (a:=⟨j,o,none⟩) (EU.block j hj hn));have nS: ∀ j,j∈S->j∉q::m::Fo:=(fun j hj h=>(H.out.dB j h).2.1 hj);have nF: ∀ j,j∈F->j∉q::m::Fo:=(fun j hj h=>(H.out.dB j h).1 hj);have lS:=H.out.rd.lS;have lF:=H.out.wd.lt;have S2:=AF ((C2.cell 0 zx).trans C2.rd.c0)<|AF ((C2.cell 3 zx).trans c3)<|AF ((bk ga (lS _ EZ) (nS _ EZ) _).trans a0)<|AF ((bk ga (lS _ EZ) (nS _ EZ) _).trans ZF)<|AF ((bk p (lF _ Ph) (nF _ Ph) _).trans p0)<|AF ((bk gf (lF _ FV) (nF _ FV) _).trans f0)<|AF ((bk gf (lF _ FV) (nF _ FV) _).trans f1)<|AF ((bk gf (lF _ FV) (nF _ FV) _).trans f2)<|AF ((bk gf (lF _ FV) (nF _ FV) _).trans f3)<|AF ((bk gf (lF _ FV) (nF _ FV) _).trans f4)<|AF ((bk gf (lF _ FV) (nF _ FV) _).trans f5)<|AF ((bk gf (lF _ FV) (nF _ FV) _).trans f6)<|(bk gf (lF _ FV) (nF _ FV) _).trans f7))
 have yu:=S2.1;have aD:=S2.2.1;have q9':=(C2.cell 9 zx).trans c9;have qb':=(C2.cell (12+n*4+1) zx).trans cb;have qs':=C2.bd.blk.soft;have b2:=(bk ga (lS _ EZ) (nS _ EZ) _).trans b0;have Y9:=(bk ga (lS _ EZ) (nS _ EZ) _).trans au;have sl2:=AA<|VP.of (w':=w2) EU.size<|EU.block g1 (lS _ Yg)<|nS _ Yg;have FF:=AA<|AF C2<|AF EU hs2;clear S2 C2 hb2 EU hs2 bk nS nF lS lF q0 q3 q9 qb a0 ZF p0 f0 f1 f2 f3 f4 f5 f6 f7 CM b0 au;go_wp2
 refine Dt 2 ?_;rw[A8];go_wp2_with fail
 have hgq:ga≠q:=fun e=>(FF.out.1.dB q zw).2.1 (e▸EZ);have CF:=AA<|nO (FF.out.1.below (AQ _ w2).drew) hl (c:=c1) (sl2.out.of (w':=w2.drew) lr rfl) Yg x1.1 a1 aU hb ha;rw[BG.out]at CF;have IZ:fit<8:=BG.out▸Uu _ _ _ fun k hk=>Nq hk;have kP:=QA _ IZ;go_region_with (go_at_call 253;refine CF.out.mono ?_;rintro e w3 ⟨rfl,ov3,F3,hc3,UX,hs3⟩;have qb3:=(hc3.cell (12+n*4+1) zx).trans cb;have qs3:=hc3.bd.blk.soft;have yt:=(hc3.cell 3 zx).trans c3)
 all_goals
  have Uc:=hc3.put (12+n*4+1) zx<|.int .u64 (fit:Int);have hop:=UX.set q (12+n*4+1) (.int .u64 (fit:Int)) zw;have q3p:(w3.setCell ⟨q,12+n*4+1,none⟩<|.int .u64 (fit:Int)).cell? ⟨q,3,none⟩=some (.slice (Qb ga 0) 2 ca):=(World.cell?_setCell_other _ _ _ _ zw).trans yt;have CX:=AA<|jG Uc.bd zw;have F4:=AA<|AF Uc<|AF hop hs3;clear hc3 UX hs3 qb3 qs3 yt Uc hop CF;generalize w3.setCell ⟨q,12+n*4+1,none⟩ (.int .u64 (fit:Int))=W4 at*;go_wp2_with fail
  rw[A8];go_wp2_with fail
  refine CX.out.mono ?_;rintro e w5 ⟨rfl,Ik,Bf,BQ⟩;have FO:=AA<|AF (F4.out.1.step Bf BQ (fun _ h=> .inl h) ⟨rfl,fun _ _=>rfl⟩)<|AF ((Off.of (F:=q::m::Fo) (AQ _ w).drew).trans (FF.out.2.1.trans ((Off.of (F:=q::m::F2) (AQ _ w2).drew).trans (F4.out.2.1.trans BQ fun i hi=>by
   simp only[Be]at hi⊢;rcases hi with h | h | h
   ·exact .inl<|.inl h
   ·exact .inl<|.inr<|.inl h
   ·exact(F4.out.2.2 i h).imp (fun h=> .inr (.inr h)) id) fun _ h=> .inl h) fun i hi=>by
   simp only[Be]at hi⊢;rcases hi with h | h | h
   ·exact .inl<|.inl h
   ·exact .inl<|.inr<|.inl h
   ·exact(FF.out.2.2 i h).imp (fun h=> .inr (.inr h)) id) fun _ h=> .inl h) (fun i hi=>by
   have hsz:w.heap.size<=w2.heap.size:=FF.out.2.1.size;rcases F4.out.2.2 i hi with h | h
   ·exact FF.out.2.2 i h
   ·have h:w2.heap.size<=i:=h;exact .inr zx: ∀ i,i∈F3->i∈Fo\/w.heap.size<=i)
  clear Bf BQ CX FF F4;go_wp2
  go_end0
  exact⟨rfl,Ik,F3,FO.out.1,FO.out.2.1,FO.out.2.2⟩
end Go.P
