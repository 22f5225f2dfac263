import Derived.Test.YtgnakaplmhmdcaaGreatDoorW23
import Derived.Maps.RangeRun
import Derived.Laws.StructEq
set_option maxRecDepth 100000
set_option maxHeartbeats 8000000
set_option linter.unusedSimpArgs false
open Go.Proofs Go.RowKit Go.W
namespace Go.W
variable {P:Program}{w:World}{ty:TypeId}{r bm:Nat}
theorem Z65 {e:MapEntry}(hr:w.heap[r]?=some (.mapIter (some bm) 1 #[] 1))(hb:w.heap[bm]?=some (.map #[e] 1))(h0:e.born=0):(Instr.next (.pointer (some ⟨r,0,none⟩)) false ty).run P w= .ok (.tuple #[.bool true,e.key,e.val]) {w with heap:=w.heap.setIfInBounds r (.mapIter (some bm) 1 #[0] 1)}:=by
 simp[Instr.next,getObj,Yek,Sem.run,hr,hb,Result.andThen,h0,choose,Question.forced,setObj]
theorem Z2w {e:MapEntry}(hr:w.heap[r]?=some (.mapIter (some bm) 1 #[0] 1))(hb:w.heap[bm]?=some (.map #[e] 1))(h0:e.born=0):(Instr.next (.pointer (some ⟨r,0,none⟩)) false ty).run P w= .ok (.tuple #[.bool false]) w:=by
 simp[Instr.next,getObj,Yek,Sem.run,hr,hb,Result.andThen,h0,choose,Question.forced]
end Go.W
namespace Go.P
attribute [local go_sem] Yds
section
variable {w w':World} {q p m:Nat} {cs:Array Value} {at_:List Pt} {gs:List Gt} {S:List Nat} {fs fs':List (ByteArray×Nat)} {vs vs':List T} {F F':List Nat} {xs:List (ByteArray×Nat)} {ov:Value} {Fo:List Nat}
theorem Ctx.grow (h:Ctx w q p m cs at_ gs S fs vs F xs ov Fo)(hw:Zdv w' p fs' vs' F')(ho:Off F w w')(hs: ∀ i,i∈F'->i∈F\/w.heap.size<=i):Ctx w' q p m cs at_ gs S fs' vs' F' xs ov Fo:=by
 refine⟨h.bd.off ho fun j hj q=>(h.dB j hj).1 q,h.rd.of ho.size (fun k hk=>ho.block k (h.rd.lS k hk) fun q=>(h.dF k q).1 hk) ⟨rfl,fun _ _=>rfl⟩,hw,h.gl.of ho fun j hj=>(h.dF j hj).2,fun j hj=>⟨fun e=>?_,(h.dB j hj).2⟩,fun j hj=>?_⟩
 ·rcases hs j e with e | e
  ·exact(h.dB j hj).1 e
  ·have:=h.bd.lt j hj;omega
 ·rcases hs j hj with e | e
  ·exact h.dF j e
  ·exact⟨fun q=>by have:=h.rd.lS j q;omega,Ycu h.gl.2.2 e⟩
theorem Z3e (h:Ctx w q p m cs at_ gs S fs vs F [] ov Fo){b v:Nat}(hw:Zjb w q b v)(l0 l1 l2 l3:Nat)(CH: ∀ u,Below w.heap.size w u->Calls Tryz.prog 227 #[.pointer (some ⟨q,0,none⟩),.agg #[.int .u64 (l0:Int),.int .u64 (l1:Int),.int .u64 (l2:Int),.int .u64 (l3:Int)]] u fun e w'=>e= .returned (.bool true)/\Below u.heap.size u w'){gh ch:Nat}{y:ByteArray}(c5:cs[5]?=some (.slice (some ⟨gh,0,none⟩) 1 ch))(hgS:gh∈S)(g0:w.cell? ⟨gh,0,none⟩=some (.string y))(g1:w.cell? ⟨gh,1,none⟩=some (.int .i64 0))(g2:w.cell? ⟨gh,2,none⟩=some (.int .i64 0)){n:Nat}{fx:ByteArray×Nat}(hf:fs[n]?=some fx)(hs:l0 < 8)(hn:Za5 l0=[n])(hbB: ∀ j,j∈q::m::(Fo++F)->j≠b/\j≠v)
  (CW: ∀ u ov' Fo',Ctx u q p m cs at_ gs S fs vs F [(y,fx.2)] ov' Fo'->Zjb u q b v->Off (q::m::Fo) w u->Calls Tryz.prog 263 #[.int .i64 1,.agg #[.int .u64 ((2 ^ n:Nat):Int),.int .u64 (l1:Int),.int .u64 (l2:Int),.int .u64 (l3:Int)],.pointer (some ⟨b,0,none⟩),.pointer (some ⟨v,0,none⟩)] u fun e w'=>e= .returned (.bool true)/\ ∃ F',Zdv w' p fs' vs F'/\Off F u w'/\ ∀ i,i∈F'->i∈F\/u.heap.size<=i):
  Calls Tryz.prog 263 #[.int .i64 0,.agg #[.int .u64 (l0:Int),.int .u64 (l1:Int),.int .u64 (l2:Int),.int .u64 (l3:Int)],.pointer (some ⟨b,0,none⟩),.pointer (some ⟨v,0,none⟩)] w fun e w'=>e= .returned (.bool true)/\ ∃ ov' Fo' F',Ctx w' q p m cs at_ gs S fs' vs F' [] ov' Fo'/\Off (q::m::Fo++F) w w'/\(∀ i,i∈F'->i∈F\/w.heap.size<=i)/\ ∀ i,i∈Fo'->i∈Fo\/w.heap.size<=i:=by
 obtain⟨po,co,rfl⟩:=h.bd.row.form;have HX:Box (∀ u,Below w.heap.size w u->u.cell? ⟨b,0,none⟩=some (.pointer (some ⟨q,0,none⟩))/\u.cell? ⟨q,5,none⟩=some (.slice (some ⟨gh,0,none⟩) 1 ch)/\u.cell? ⟨q,7,none⟩=some (.slice po ((([]:List (ByteArray×Nat)).map (·.1)).length) co)/\u.cell? ⟨gh,0,none⟩=some (.string y)/\u.cell? ⟨gh,1,none⟩=some (.int .i64 0)/\u.cell? ⟨gh,2,none⟩=some (.int .i64 0)):=⟨fun u hu=>by
  have h':=h.below hu;have hl:=h.rd.lS gh hgS;exact⟨(hw.below hu).1.one.1,(h'.cell 5 (by omega)).trans c5,h'.bd.cells.2.1,(Ycw (a:=⟨gh,0,none⟩) (hu.block gh hl)).trans g0,(Ycw (a:=⟨gh,1,none⟩) (hu.block gh hl)).trans g1,(Ycw (a:=⟨gh,2,none⟩) (hu.block gh hl)).trans g2⟩⟩
 have c0: ∀ o,(w.alloc o).cell? ⟨b,0,none⟩=_:=fun o=>(hw.1.alloc o).one.1;have HC:=Zaa (fun o=>CH (w.alloc o) ((Yct _ w).alloc lr o));have CC:=Zaa (fun u (hu:Below w.heap.size w u)=>Zvm (h.below hu) hf hs hn y 0);have H:=Zaa h;have HW:=Zaa hw;have CW':=Zaa CW;clear h hw CH CW c5 g0 g1 g2;simp only[List.map_nil,Ydb]at HX;refine calls_of_wp Tryz.func263 rfl ?_;simp only[Tryz.ntmps263,Yc5,Yc7,Ydb,Nat.reduceAdd,Nat.reduceSub,Ydf,Yde,Ydk,Ydh,Ydg,Ydd];go_wp2_with fail
 refine(HC.out _).mono ?_;rintro e w5 ⟨rfl,hb⟩;have HB:=Zaa (((Yct _ w).alloc lr _).trans (hb.mono (by simp)));have L0:=Zaa ((Blk.new w #[.int .u64 (l0:Int),.int .u64 (l1:Int),.int .u64 (l2:Int),.int .u64 (l3:Int)] 338).of (hb.block w.heap.size (by simp)));obtain⟨b0,q5,q7,y0,y1,y2⟩:=HX.out _ HB.out;obtain⟨W6,hW6⟩: ∃ W6,Box (w5.alloc (.cells #[.string y,.int .i64 0,.int .i64 0] 384)=W6):=⟨_,⟨rfl⟩⟩;have B6:=Zaa (HB.out.trans (hW6.out▸(Yct _ w5).alloc HB.out.size (.cells #[.string y,.int .i64 0,.int .i64 0] 384)));have N6:=Zaa (hW6.out▸Blk.new w5 #[.string y,.int .i64 0,.int .i64 0] 384);have L6:=Zaa (hW6.out▸L0.out.alloc (.cells #[.string y,.int .i64 0,.int .i64 0] 384));have hb0: ∀ o,(w5.alloc o).cell? ⟨b,0,none⟩=_:=fun o=>(HX.out _ (HB.out.alloc HB.out.size o)).1;have hq7: ∀ o,(w5.alloc o).cell? ⟨q,7,none⟩=_:=fun o=>(HX.out _ (HB.out.alloc HB.out.size o)).2.2.1;clear hb;go_wp2_with fail
 rw[hW6.out];have sz6:W6.heap.size=w5.heap.size+1:=by rw[<- hW6.out];simp
 have lw5:w.heap.size < w5.heap.size:=L0.out.lt;have HS:Box (∀ u,Below W6.heap.size W6 u->u.cell? ⟨b,0,none⟩=some (.pointer (some ⟨q,0,none⟩))/\u.cell? ⟨w5.heap.size,0,none⟩=some (.string y)/\u.cell? ⟨w5.heap.size,1,none⟩=some (.int .i64 0)/\u.cell? ⟨w5.heap.size,2,none⟩=some (.int .i64 0)/\u.cell? ⟨w.heap.size,0,none⟩=some (.int .u64 (l0:Int))):=⟨fun u hu=>by
  have n6:=(N6.out.of (hu.block _ N6.out.lt)).three;exact⟨(HX.out u (B6.out.trans (hu.mono B6.out.size))).1,n6.1,n6.2.1,n6.2.2.1,(L6.out.of (hu.block _ L6.out.lt)).four.1⟩⟩
 have hS0:=HS.out W6.drew (Yct _ W6).drew;clear hb0 hq7 b0 q5 q7 y0 y1 y2 c0;refine wp_region_held (S:=fun u=>u.cell? ⟨b,0,none⟩=some (.pointer (some ⟨q,0,none⟩))/\u.cell? ⟨w5.heap.size,0,none⟩=some (.string y)/\u.cell? ⟨w5.heap.size,1,none⟩=some (.int .i64 0)/\u.cell? ⟨w5.heap.size,2,none⟩=some (.int .i64 0)/\u.cell? ⟨w.heap.size,0,none⟩=some (.int .u64 (l0:Int))) (by kernel_rfl) ?_;change wpAnyH _ _ _ _ _ _ _ _ (World.drew _);refine tk 0 (.pointer (some ⟨q,0,none⟩)) hS0 (hy:=fun _ ⟨s0,s1,s2,s3,s4⟩=>by go_simp) (h:=?_);try simp only[zz]
 refine tk 1 (.agg #[.string y,.int .i64 0,.int .i64 0]) hS0 (hy:=fun _ ⟨s0,s1,s2,s3,s4⟩=>by go_simp) (h:=?_);try simp only[zz]
 refine tk 2 (.pointer (some ⟨w5.heap.size,1,none⟩)) hS0 (hy:=fun _ _=>by go_simp) (h:=?_);try simp only[zz]
 refine tk 3 (.int .i64 0) hS0 (hy:=fun _ ⟨s0,s1,s2,s3,s4⟩=>by go_simp) (h:=?_);try simp only[zz]
 refine tk 4 (.pointer (some ⟨w.heap.size,0,none⟩)) hS0 (hy:=fun _ _=>by go_simp) (h:=?_);try simp only[zz]
 refine tk 5 (.int .u64 (l0:Int)) hS0 (hy:=fun _ ⟨s0,s1,s2,s3,s4⟩=>by go_simp) (h:=?_);try simp only[zz]
 refine wpAnyH_ready (rs:=[6]) (by kernel_rfl) (by simp) (Yc9 rfl (fun K' hK'=>?_) Ydc);go_simp;refine(CC.out _ B6.out.drew).mono ?_;rintro e w8 ⟨r,rfl,hr,hm8,hb8⟩;have hr6:W6.heap.size<=r:=hr;have B8:Below W6.heap.size W6 w8:=(Yct _ W6).drew.trans hb8;have hS8:=HS.out w8 B8;have hrg:=run_range_map (P:=Tryz.prog) w8 391 _ _ r _ _ Tryz.underlying391 hm8;refine hK'.out _ _ hS8 fun _=>?_;try simp only[zz]
 refine wpAnyH_ready (rs:=[7]) (by kernel_rfl) (by simp) (Yc9 rfl (fun K' hK'=>?_) Ydc);go_simp;obtain⟨W9,hW9⟩: ∃ W9,Box (w8.alloc (.mapIter (some r) 1 #[] 1)=W9):=⟨_,⟨rfl⟩⟩;have B9:Below W6.heap.size W6 W9:=B8.trans (hW9.out▸(Yct _ w8).alloc B8.size _);have hS9:=HS.out W9 B9;rw[hW9.out];refine hK'.out _ _ hS9 fun _=>?_;try simp only[zz]
 refine wpAnyH_done (by kernel_rfl) ?_ _;have l8:r < w8.heap.size:=(Yc6.1 hm8).1;have m9:W9.heap[r]?=_:=(hW9.out▸Ycx w8 _ r l8).trans hm8;have i9:W9.heap[w8.heap.size]?=some (.mapIter (some r) 1 #[] 1):=hW9.out▸World.alloc_heap_new w8 _;obtain⟨WA,hWA⟩: ∃ WA,Box ({W9 with heap:=W9.heap.setIfInBounds w8.heap.size (.mapIter (some r) 1 #[0] 1)}=WA):=⟨_,⟨rfl⟩⟩;have hnx:=fun ty=>Z65 (P:=Tryz.prog) (ty:=ty) i9 m9 rfl;rw[hWA.out]at hnx;have sz9:W9.heap.size=w8.heap.size+1:=by rw[<- hW9.out];simp
 have nA: ∀ j,j≠w8.heap.size->WA.heap[j]?=W9.heap[j]?:=fun j hj=>by rw[<- hWA.out];exact Array.getElem?_setIfInBounds_ne (Ne.symm hj)
 have szA:WA.heap.size=w8.heap.size+1:=by rw[<- hWA.out,<- sz9];simp
 have iA:WA.heap[w8.heap.size]?=some (.mapIter (some r) 1 #[0] 1):=by rw[<- hWA.out];exact Array.getElem?_setIfInBounds_self_of_lt (by omega)
 have mA:=(nA r (by omega)).trans m9;have l68:W6.heap.size<=w8.heap.size:=B8.size;have BA:Below W6.heap.size W6 WA:=B9.trans ⟨by rw[<- hWA.out],by rw[<- hWA.out],by rw[<- hWA.out],by omega,fun j hj=>nA j (by omega)⟩;have hen:=run_entry_at (P:=Tryz.prog) WA w8.heap.size r 1 #[] #[{key:= .int .i64 (fx.2:Int),val:= .int .u64 ((2 ^ n:Nat):Int),born:=0}] 1 {key:= .int .i64 (fx.2:Int),val:= .int .u64 ((2 ^ n:Nat):Int),born:=0} iA mA (by simp) (by simp);dsimp only at hen hnx;have hSA:=HS.out WA.drew BA.drew;have BW:=Zaa (B6.out.trans (BA.mono B6.out.size));have CB:=Zaa (Zx3 (H.out.below BW.out.drew).bd y fx.2 rfl (by simp));have LA:=Zaa (L6.out.of (BA.block _ L6.out.lt));have NA:=Zaa (N6.out.of (BA.block _ N6.out.lt));have IM:=Zaa (Ycs iA mA);have hql: ∀ j,j∈q::m::Fo->j < w.heap.size:=H.out.bd.lt;clear hS0 hS8 hrg CC iA mA i9 m9 nA BA B9 B8 hb8 hm8 hS9;generalize hz:2 ^ n=z at*;go_wp2_with fail
 refine wp_loop_rounds 2 ?_;rw[rounds_succ];go_wp2_with fail
 refine wp_region_held (S:=fun u=>u.cell? ⟨b,0,none⟩=some (.pointer (some ⟨q,0,none⟩))/\u.cell? ⟨w5.heap.size,0,none⟩=some (.string y)/\u.cell? ⟨w5.heap.size,1,none⟩=some (.int .i64 0)/\u.cell? ⟨w5.heap.size,2,none⟩=some (.int .i64 0)/\u.cell? ⟨w.heap.size,0,none⟩=some (.int .u64 (l0:Int))) (by kernel_rfl) ?_;change wpAnyH _ _ _ _ _ _ _ _ (World.drew _);refine tk 0 (.pointer (some ⟨q,0,none⟩)) hSA (hy:=fun _ ⟨s0,s1,s2,s3,s4⟩=>by go_simp) (h:=?_);try simp only[zz]
 refine tk 1 (.pointer (some ⟨q,0,none⟩)) hSA (hy:=fun _ _=>by go_simp) (h:=?_);try simp only[zz]
 refine tk 2 (.pointer (some ⟨q,6,none⟩)) hSA (hy:=fun _ _=>by go_simp) (h:=?_);try simp only[zz]
 refine tk 3 (.pointer (some ⟨w5.heap.size,0,none⟩)) hSA (hy:=fun _ _=>by go_simp) (h:=?_);try simp only[zz]
 refine tk 4 (.string y) hSA (hy:=fun _ ⟨s0,s1,s2,s3,s4⟩=>by go_simp) (h:=?_);try simp only[zz]
 refine tk 5 (.int .i64 (fx.2:Int)) hSA (hy:=fun _ _=>by go_simp) (h:=?_);try simp only[zz]
 refine wpAnyH_ready (rs:=[6]) (by kernel_rfl) (by simp) (Yc9 rfl (fun K' hK'=>?_) Ydc);go_simp;refine CB.out.mono ?_;rintro e wB ⟨rfl,ovB,FB,hbB',hoB,hsB⟩;have hap: ∀ j,j∈q::m::Fo->j∈q::m::(Fo++F):=fun j h=>by simp only[Yc1,Yc2]at h⊢;rcases h with h | h | h <;> simp[h]
 have nn: ∀ j,w.heap.size<=j->j∉q::m::Fo:=fun j hj h=>by have:=hql j h;omega
 have hBl: ∀ j,w.heap.size<=j->j < WA.heap.size->wB.heap[j]?=WA.heap[j]?:=fun j h1 h2=>hoB.block j h2 (nn j h1);have lbA:b < WA.heap.size:=Ycz HW.out.1.lt BW.out.size;have lvA:v < WA.heap.size:=Ycz HW.out.2.lt BW.out.size;have LB:=LA.out.of (hBl _ lr LA.out.lt);have NB:=NA.out.of (hBl _ (by omega) NA.out.lt);have TB:Zjb wB q b v:=⟨(HW.out.below BW.out).1.of (hoB.block b lbA fun h=>(hbB b (hap _ h)).1 rfl),(HW.out.below BW.out).2.of (hoB.block v lvA fun h=>(hbB v (hap _ h)).2 rfl)⟩;have XB:=(H.out.below BW.out.drew).step hbB' hoB hsB ⟨rfl,fun _ _=>rfl⟩;refine hK'.out _ _ ⟨TB.1.one.1,NB.three.1,NB.three.2.1,NB.three.2.2.1,LB.four.1⟩ fun _=>?_;try simp only[zz]
 refine wpAnyH_done (by kernel_rfl) ?_ _;obtain⟨WC,hWC⟩: ∃ WC,Box (wB.setCell ⟨w.heap.size,0,none⟩ (.int .u64 (z:Int))=WC):=⟨_,⟨rfl⟩⟩;have lBA:WA.heap.size<=wB.heap.size:=hoB.size;have OC:Off [w.heap.size] wB WC:=hWC.out▸(Off.refl _ wB).set w.heap.size 0 _ (by simp);have hsB': ∀ i,i∈FB->i∈Fo\/WA.heap.size<=i:=hsB;have nFB: ∀ j,w.heap.size<=j->j < WA.heap.size->j∉q::m::FB:=fun j h1 h2 h=>by
  simp only[Yc1]at h;rcases h with rfl | rfl | h
  ·have:=hql j (by simp);omega
  ·have:=hql j (by simp);omega
  ·rcases hsB' j h with h | h
   ·have:=hql j (by simp[h]);omega
   ·omega
 have hFl: ∀ j,j∈F->j < w.heap.size:=fun j hj=>H.out.wd.lt j hj;have XC:=XB.other OC fun j hj=>by
  obtain rfl:=Ydt.1 hj;exact⟨nFB _ lr LA.out.lt,fun h=>by have:=hFl _ h;omega,fun h=>by have:=H.out.rd.lS _ h;omega,H.out.gl.2.2⟩
 have hbw:b≠w.heap.size:=by have:=HW.out.1.lt;omega
 have hvw:v≠w.heap.size:=by have:=HW.out.2.lt;omega
 have TC:Zjb WC q b v:=⟨TB.1.of (OC.block b TB.1.lt (by simpa using hbw)),TB.2.of (OC.block v TB.2.lt (by simpa using hvw))⟩;have OWC:Off (q::m::Fo) w WC:=((Off.of BW.out).drew.trans hoB fun _ h=> .inl h).trans OC fun i h=> .inr (by simp at h;omega);have LC:Blk WC w.heap.size #[.int .u64 (z:Int),.int .u64 (l1:Int),.int .u64 (l2:Int),.int .u64 (l3:Int)] 338:=hWC.out▸LB.set 0 _;have CWC:=Zaa (CW'.out WC ovB FB XC TC OWC);obtain⟨k0,k1,k2,k3,ks⟩:=LC.four;obtain⟨j0,j1,j2,j3,js⟩:=LB.four;have n1:=NB.three.2.1;have n1':=fun a x=>(NB.away w.heap.size a (by omega) x).three.2.1;have vC:=TC.2.one.1;have henT: ∀ args w,(callFunc 263 args).run Tryz.prog w= .ok (.enter 263 args) w:=Zak Tryz.func263 (by kernel_rfl) rfl;have hFB: ∀ i,i∈FB->i∈Fo\/w.heap.size<=i:=fun i hi=>(hsB' i hi).imp id (by omega);have XX:=Zaa (Ycs XC (Ycs OWC (Ycs TC (Ycs hsB' OC))));have HBl:=Zaa hBl;rw[<- hWC.out]at vC k0 k1 k2 k3;clear hsB hsB' XB XC TB TC OC OWC LB LC NB hbB' hoB hBl;go_wp2_with fail
 rw[hWC.out];refine CWC.out.mono ?_;rintro e wD ⟨rfl,F',hwD,hoD,hsD⟩;obtain⟨XC,OWC,TC,hsB,OC⟩:=XX.out;have XD:=XC.grow hwD hoD hsD;have hsC:=OC.size;have hF': ∀ i,i∈F'->i∈F\/w.heap.size<=i:=fun i hi=>(hsD i hi).imp id fun h=>Ycu OWC.size h;have bD:=(TC.1.of (hoD.block b TC.1.lt fun h=>(hbB b (by simp[h])).1 rfl)).one.1;have CFr:=Zaa (Zig XD.bd (by simp));have nD: ∀ j,w.heap.size < j->j < WA.heap.size->wD.heap[j]?=WA.heap[j]?:=fun j h1 h2=>((hoD.block j (by omega) fun h=>by have:=hFl j h;omega).trans (OC.block j (by omega) (by simp;omega))).trans (HBl.out j (by omega) h2);have YY:=Zaa (Ycs XD (Ycs hoD (Ycs hF' (Ycs nD OWC))));clear XD hoD hF' nD hwD hsD XC OWC TC hsB OC XX HBl CWC vC k0 k1 k2 k3 ks j0 j1 j2 j3 js n1 n1';go_wp2_with fail
 refine CFr.out.mono ?_;rintro e wE ⟨rfl,ovE,hbE,hoE⟩;obtain⟨XD,hoD,hF',nD,OWC⟩:=YY.out;have XE:=XD.step hbE hoE (fun _ h=> .inl h) ⟨rfl,fun _ _=>rfl⟩;have hsC:WA.heap.size<=wD.heap.size:=by have:=hoD.size;omega
 have nE: ∀ j,w.heap.size < j->j < WA.heap.size->wE.heap[j]?=WA.heap[j]?:=fun j h1 h2=>(hoE.block j (by omega) (nFB j (by omega) h2)).trans (nD j h1 h2);have hdn:=fun ty=>Z2w (P:=Tryz.prog) (ty:=ty) ((nE w8.heap.size (by omega) (by omega)).trans IM.out.1) ((nE r (by omega) (by omega)).trans IM.out.2) rfl;have ZZ:=Zaa (Ycs XE (Ycs hoE (Ycs hoD (Ycs hF' OWC))));clear OWC XD hoD hF' nD XE hoE hbE nE;go_wp2_with fail
 rw[rounds_succ];go_wp2_with fail
 go_ret
 obtain⟨XE,hoE,hoD,hF',OWC⟩:=ZZ.out;refine⟨rfl,ovE,FB,F',XE,((OWC.mono fun i hi=>Yd0 F hi).trans hoD fun i hi=> .inl (Ydv _ hi)).trans hoE fun i hi=>?_,hF',hFB⟩;simp only[Yc1,Yc2]at hi⊢;rcases hi with h | h | h
 ·exact .inl (.inl (.inl h))
 ·exact .inl (.inl (.inr (.inl h)))
 ·exact(hFB i h).imp (fun h=> .inl (.inr (.inr h))) id
end
end Go.P
namespace Go.P
attribute [local go_sem] Yds
theorem Zqu {w:World}{q p m:Nat}{cs:Array Value}{x:Pt}{gs:List Gt}{S:List Nat}{fs:List (ByteArray×Nat)}{vs:List T}{F:List Nat}{xs:List (ByteArray×Nat)}{ov:Value}{Fo:List Nat}(h:Ctx w q p m cs [x] gs S fs vs F xs ov Fo){seen a0 a1 a2 a3 s0:Nat}(hse:seen<=60)(c8:cs[8]?=some (.int .u64 (a0:Int)))(c9:cs[9]?=some (.int .u64 (a1:Int)))(c10:cs[10]?=some (.int .u64 (a2:Int)))(c11:cs[11]?=some (.int .u64 (a3:Int)))(hs:bits BinOp.andNot IntKind.u64 (a0:Int) ((2 ^ seen - 1:Nat):Int)=(s0:Int))(R:World->World->Prop)(CT: ∀ u,Below w.heap.size w u->Calls Tryz.prog 247 #[.pointer (some ⟨q,0,none⟩),.agg #[.int .u64 (s0:Int),.int .u64 (a1:Int),.int .u64 (a2:Int),.int .u64 (a3:Int)]] u fun e w'=>e= .returned (.bool true)/\R u w')(hR: ∀ u w',Below w.heap.size w u->R u w'->R w w'):
  Calls Tryz.prog 224 #[.pointer (some ⟨q,0,none⟩),.int .i64 (seen:Int)] w fun e w'=>e= .returned (.bool true)/\R w w':=by
 obtain⟨pa,ca,c3,_⟩:=h.rd.atoms;simp only[Yc7,Ydb,Ydp]at c3;have q3:=(h.cell 3 (by omega)).trans c3;have q8:=(h.cell 8 (by omega)).trans c8;have q9:=(h.cell 9 (by omega)).trans c9;have q10:=(h.cell 10 (by omega)).trans c10;have q11:=(h.cell 11 (by omega)).trans c11;have CB:=Zaa (Zhy seen hse);have HC:=Zaa CT;have HR:=Zaa hR;clear CT hR h c3 c8 c9 c10 c11;refine calls_of_wp Tryz.func224 rfl ?_;simp only[Tryz.ntmps224,Yc5,Yc7,Ydb,Nat.reduceAdd,Nat.reduceSub,Ydf,Yde,Ydk,Ydh,Ydg,Ydd];go_wp2_with fail
 refine wp_loop_rounds 2 ?_;rw[rounds_succ];go_wp2_with fail
 refine wp_loop_rounds 1 ?_;rw[rounds_succ];go_wp2_with fail
 go_region_with ((go_at_call 244;refine(CB.out _).mono ?_;rintro e _ ⟨rfl,rfl⟩))
 all_goals
  go_wp2_with fail
  refine(HC.out _ ((Yct _ w).alloc lr _).drew).mono ?_;rintro e w9 ⟨rfl,hr⟩;have hF:=HR.out _ _ ((Yct _ w).alloc lr _).drew hr;clear hr;go_wp2_with fail
  rw[rounds_succ];go_wp2_with fail
  go_ret
  exact⟨rfl,hF⟩
end Go.P
namespace Go.P
variable {y pn:ByteArray}{k n a0 a1 a2 a3:Nat}{fx:ByteArray×Nat}
theorem Z0w (v k:Nat)(h:y.size≠0):Zbm [(y,v)] (y,k)=(v,true):=by
 unfold Zbm;rw[if_neg h];simp[Zgj]
section
variable {w:World} {q p m:Nat} {cs:Array Value} {at_:List Pt} {x:Pt} {gs:List Gt} {S:List Nat} {fs:List (ByteArray×Nat)} {vs:List T} {F:List Nat} {xs:List (ByteArray×Nat)} {ov:Value} {Fo:List Nat}
def Z5m (w w':World) (q p m:Nat) (cs:Array Value) (x:Pt) (gs:List Gt) (S:List Nat) (fs:List (ByteArray×Nat)) (vs:List T) (F Fo:List Nat) (u:World):Prop:= ∃ ov' Fo' F',Ctx w' q p m cs [x] gs S fs vs F' [] ov' Fo'/\Off (q::m::Fo++F) u w'/\(∀ i,i∈F'->i∈F\/w.heap.size<=i)/\ ∀ i,i∈Fo'->i∈Fo\/w.heap.size<=i
structure Hm (w:World) (cs:Array Value) (S:List Nat) (pn y:ByteArray) (k:Nat):Prop where
 home: ∃ gh ch,cs[5]?=some (.slice (some ⟨gh,0,none⟩) 1 ch)/\gh∈S/\w.cell? ⟨gh,0,none⟩=some (.string y)/\w.cell? ⟨gh,1,none⟩=some (.int .i64 0)/\w.cell? ⟨gh,2,none⟩=some (.int .i64 0)
 head:cs[1]?=some (.string pn)/\ ∃ g c,cs[2]?=some (.slice (some ⟨g,0,none⟩) 1 c)/\g∈S/\Zdl w g (y,k)
 sz:y.size≠0
theorem Hm.of {w':World}{cs':Array Value}(h:Hm w cs S pn y k)(hs:w.heap.size<=w'.heap.size)(hb: ∀ j,j∈S->w'.heap[j]?=w.heap[j]?)(hc: ∀ j,j < 6->cs'[j]?=cs[j]?):Hm w' cs' S pn y k:=by
 obtain⟨⟨gh,ch,c5,m1,g0,g1,g2⟩,⟨c1,g,c,c2,m2,hg⟩,hy⟩:=h;exact⟨⟨gh,ch,(hc 5 (by omega)).trans c5,m1,(Ycw (a:=⟨gh,0,none⟩) (hb gh m1)).trans g0,(Ycw (a:=⟨gh,1,none⟩) (hb gh m1)).trans g1,(Ycw (a:=⟨gh,2,none⟩) (hb gh m1)).trans g2⟩,⟨(hc 1 (by omega)).trans c1,g,c,(hc 2 (by omega)).trans c2,m2,hg.of hs (hb g m2)⟩,hy⟩
theorem Z12 (h:Ctx w q p m cs [x] gs S fs vs F [] ov Fo)(hm:Hm w cs S pn y k){l0 l1 l2 l3:Nat}(hs:l0 < 8)(hn:Za5 l0=[n])(hf:fs[n]?=some fx)(hN:Zi8 (pn,fx.2) fs)(hl:fs.length < 60):
  Calls Tryz.prog 247 #[.pointer (some ⟨q,0,none⟩),.agg #[.int .u64 (l0:Int),.int .u64 (l1:Int),.int .u64 (l2:Int),.int .u64 (l3:Int)]] w fun e w'=>e= .returned (.bool true)/\Z5m w w' q p m cs x gs S (fs++[(pn,fx.2)]) vs F Fo w:=by
 have hz:2 ^ n < 8/\Za5 (2 ^ n)=[n]:=by
  have:n < 3:=Zck (s:=l0) (by rw[hn];simp)
  have:n=0\/n=1\/n=2:=by omega
  rcases this with rfl | rfl | rfl <;> exact⟨by decide,by decide⟩
 refine Z2y l0 l1 l2 l3 true (fun u w'=>Z5m w w' q p m cs x gs S (fs++[(pn,fx.2)]) vs F Fo u) (fun u b v hb lb lv hw=>?_) fun u w' hb ⟨ov',Fo',F',h1,h2,h3⟩=>⟨ov',Fo',F',h1,(Off.of hb).trans h2 fun _ h=> .inl h,h3⟩;have hm':=hm.of (cs':=cs) hb.size (fun j hj=>hb.block j (h.rd.lS j hj)) fun _ _=>rfl;obtain⟨⟨gh,ch,c5,m1,g0,g1,g2⟩,_,_⟩:=hm';refine(Z3e (h.below hb) hw l0 l1 l2 l3 (fun u' hu'=>Znn ((h.below hb).below hu') l0 l1 l2 l3 hs hn) c5 m1 g0 g1 g2 hf hs hn (fun j hj=>?_) (fs':=fs++[(pn,fx.2)]) fun u' ov' Fo' hc ht ho=>?_).mono ?_
 ·have:j < w.heap.size:=by
   simp only[Yc1,Yc2]at hj;rcases hj with rfl | rfl | hj | hj
   ·exact h.bd.lt _ (by simp)
   ·exact h.bd.lt _ (by simp)
   ·exact h.bd.lt _ (by simp[hj])
   ·exact h.wd.lt _ hj
  exact⟨by omega,by omega⟩
 ·have hm2:=(hm.of (cs':=cs) hb.size (fun j hj=>hb.block j (h.rd.lS j hj)) fun _ _=>rfl).of (cs':=cs) ho.size (fun j hj=>ho.block j (Ycz (h.rd.lS j hj) hb.size) fun q=>(h.dB j q).2.1 hj) fun _ _=>rfl;obtain⟨_,⟨c1,g,c,c2,m2,hg⟩,hy⟩:=hm2;have e:=Z0w fx.2 k hy
  have:=Z6d hc ht (k:=1) (2 ^ n) l1 l2 l3 (fun u'' hb''=>Znn (hc.below hb'') (2 ^ n) l1 l2 l3 hz.1 hz.2) c5 c1 c2 hg (by rw[e];exact hN) hl (fun hj=>by have:=h.wd.lt b hj;omega)
  rw[e]at this;exact this
 ·rintro e w' ⟨rfl,ov',Fo',F',h1,h2,h3,h4⟩;exact⟨rfl,ov',Fo',F',h1,h2,fun i hi=>(h3 i hi).imp id (Ycu hb.size),fun i hi=>(h4 i hi).imp id (Ycu hb.size)⟩
theorem Z4p (h:Ctx w q p m cs at_ gs S fs vs F xs ov Fo)(h4:at_.length<=4)(hk:0 < at_.length)(l1 l2 l3:Nat):
  Calls Tryz.prog 247 #[.pointer (some ⟨q,0,none⟩),.agg #[.int .u64 ((0:Nat):Int),.int .u64 (l1:Int),.int .u64 (l2:Int),.int .u64 (l3:Int)]] w fun e w'=>e= .returned (.bool true)/\Below w.heap.size w w':=
 Z2y 0 l1 l2 l3 true (fun u w'=>Below u.heap.size u w') (fun _ _ _ hb _ _ hw=>Z4t hw 0 0 l1 l2 l3 fun _ hu=>Z35 ((h.below hb).below hu) h4 hk l1 l2 l3) fun _ _ hb h=>hb.trans (h.mono hb.size)
theorem Zv4 (h:Ctx w q p m cs [x] gs S fs vs F [] ov Fo)(hm:Hm w cs S pn y k){seen s0:Nat}(hse:seen<=60)(c8:cs[8]?=some (.int .u64 (a0:Int)))(c9:cs[9]?=some (.int .u64 (a1:Int)))(c10:cs[10]?=some (.int .u64 (a2:Int)))(c11:cs[11]?=some (.int .u64 (a3:Int)))(ha:bits BinOp.andNot IntKind.u64 (a0:Int) ((2 ^ seen - 1:Nat):Int)=(s0:Int))(hs:s0 < 8)(hn:Za5 s0=[n])(hf:fs[n]?=some fx)(hN:Zi8 (pn,fx.2) fs)(hl:fs.length < 60):
  Calls Tryz.prog 224 #[.pointer (some ⟨q,0,none⟩),.int .i64 (seen:Int)] w fun e w'=>e= .returned (.bool true)/\Z5m w w' q p m cs x gs S (fs++[(pn,fx.2)]) vs F Fo w:=by
 refine Zqu h hse c8 c9 c10 c11 ha (fun u w'=>Z5m w w' q p m cs x gs S (fs++[(pn,fx.2)]) vs F Fo u) (fun u hu=>?_) fun u w' hb ⟨ov',Fo',F',h1,h2,h3⟩=>⟨ov',Fo',F',h1,(Off.of hb).trans h2 fun _ h=> .inl h,h3⟩;refine(Z12 (h.below hu) (hm.of hu.size (fun j hj=>hu.block j (h.rd.lS j hj)) fun _ _=>rfl) hs hn hf hN hl).mono ?_;rintro e w' ⟨rfl,ov',Fo',F',h1,h2,h3,h4⟩;exact⟨rfl,ov',Fo',F',h1,h2,fun i hi=>(h3 i hi).imp id (Ycu hu.size),fun i hi=>(h4 i hi).imp id (Ycu hu.size)⟩
theorem Zw8 (h:Ctx w q p m cs [x] gs S fs vs F xs ov Fo){seen:Nat}(hse:seen<=60)(c8:cs[8]?=some (.int .u64 (a0:Int)))(c9:cs[9]?=some (.int .u64 (a1:Int)))(c10:cs[10]?=some (.int .u64 (a2:Int)))(c11:cs[11]?=some (.int .u64 (a3:Int)))(ha:bits BinOp.andNot IntKind.u64 (a0:Int) ((2 ^ seen - 1:Nat):Int)=((0:Nat):Int)):
  Calls Tryz.prog 224 #[.pointer (some ⟨q,0,none⟩),.int .i64 (seen:Int)] w fun e w'=>e= .returned (.bool true)/\Below w.heap.size w w':=
 Zqu h hse c8 c9 c10 c11 ha (fun u w'=>Below u.heap.size u w') (fun _ hu=>Z4p (h.below hu) (by simp) (by simp) a1 a2 a3) fun _ _ hb h=>hb.trans (h.mono hb.size)
end
end Go.P
namespace Go.P
attribute [local go_sem] Yds
theorem Zt4 {w:World}{p n a0 a1 a2 a3:Nat}{hn:ByteArray}{pt pb pg:Option Addr}{nt ct nb cb ng cg:Nat}{J J2:Nat->World->Prop}(sJ: ∀ q u v,J q u->Below u.heap.size u v->J q v)(sJ2: ∀ q u v,J2 q u->Below u.heap.size u v->J2 q v)
  (CB: ∀ u,Below w.heap.size w u->Calls Tryz.prog 222 #[.pointer (some ⟨p,0,none⟩),.agg #[.string hn,.slice pt nt ct,.slice pb nb cb,.slice pg ng cg]] u fun e w'=> ∃ q,e= .returned (.pointer (some ⟨q,0,none⟩))/\J q w')
  (hJ: ∀ q u,J q u-> ∃ g c,u.cell? ⟨p,0,none⟩=some (.slice g n c))
  (CL: ∀ q u,J q u->Calls Tryz.prog 223 #[.pointer (some ⟨q,0,none⟩),.int .i64 0,.int .i64 (n:Int)] u fun e w'=>e= .returned (.tuple #[])/\J2 q w')
  (CA: ∀ q u,J2 q u->Calls Tryz.prog 226 #[.pointer (some ⟨q,0,none⟩)] u fun e w'=>e= .returned (.bool true)/\Below u.heap.size u w')
  (hJ2: ∀ q u,J2 q u->u.cell? ⟨q,8,none⟩=some (.int .u64 (a0:Int))/\u.cell? ⟨q,9,none⟩=some (.int .u64 (a1:Int))/\u.cell? ⟨q,10,none⟩=some (.int .u64 (a2:Int))/\u.cell? ⟨q,11,none⟩=some (.int .u64 (a3:Int)))
  (CH: ∀ q u,J2 q u->Calls Tryz.prog 227 #[.pointer (some ⟨q,0,none⟩),.agg #[.int .u64 (a0:Int),.int .u64 (a1:Int),.int .u64 (a2:Int),.int .u64 (a3:Int)]] u fun e w'=>e= .returned (.bool true)/\Below u.heap.size u w'):
  Calls Tryz.prog 198 #[.pointer (some ⟨p,0,none⟩),.agg #[.string hn,.slice pt nt ct,.slice pb nb cb,.slice pg ng cg]] w fun e w'=>e= .returned (.bool true)/\ ∃ q,J2 q w':=by
 have HB:=Zaa CB;have HL:=Zaa CL;have HA:=Zaa CA;have HC:=Zaa CH;have SJ:=Zaa sJ;have SJ2:=Zaa sJ2;have HJ:=Zaa hJ;have HJ2:=Zaa hJ2;clear CB CL CA CH sJ sJ2 hJ hJ2;refine calls_of_wp Tryz.func198 rfl ?_;simp only[Tryz.ntmps198,Yc5,Yc7,Ydb,Nat.reduceAdd,Nat.reduceSub,Ydf,Yde,Ydk,Ydh,Ydg,Ydd];go_wp2_with fail
 refine(HB.out _ ((Yct _ w).alloc lr _)).mono ?_;rintro e w1 ⟨q,rfl,j1⟩;obtain⟨g,c,p0⟩:=HJ.out q w1 j1;have J1:=Zaa j1;clear j1;go_wp2_with fail
 refine(HL.out q _ J1.out).mono ?_;rintro e w2 ⟨rfl,j2⟩;have J2:=Zaa j2;clear j2 p0;go_wp2_with fail
 refine(HA.out q _ J2.out).mono ?_;rintro e w3 ⟨rfl,hb3⟩;have j3:=SJ2.out q _ _ J2.out hb3;obtain⟨z0,z1,z2,z3⟩:=HJ2.out q _ j3;have J3:=Zaa j3;clear j3 hb3;go_wp2_with fail
 refine(HC.out q _ J3.out).mono ?_;rintro e w4 ⟨rfl,hb4⟩;have J4:=Zaa (SJ2.out q _ _ J3.out hb4);clear hb4;go_wp2_with fail
 go_ret
 exact⟨rfl,q,J4.out⟩
end Go.P
namespace Go.P
variable {g c:Nat}{s:ByteArray×Nat}{w:World}
theorem Z6n (x:ByteArray)(k:Nat)(w:World):(binOp .eql 359 (.agg #[.string x,.int .i64 (k:Int)]) (.agg #[.string x,.int .i64 (k:Int)])).run Tryz.prog w= .ok (.bool true) w:=by
 rw[run_eql_struct,run_equalIn_struct w _ _ _ _ (by kernel_rfl) (by kernel_rfl)];go_simp
theorem Zws (p:Option Addr)(c:Nat)(x:Value)(y:Value)(w:World):Calls Tryz.prog 267 #[.slice p 0 c,.agg #[x,y]] w fun e w'=>e= .returned (.int .i64 (-1))/\Below w.heap.size w w':=by
 have B0:=fun o=>(Yct w.heap.size w).alloc lr o;go_enter Tryz.func267,Tryz.ntmps267
 go_wp2_with fail
 refine wp_loop_rounds 1 ?_;rw[rounds_succ];go_wp2_with fail
 go_ret
 exact⟨rfl,B0 _⟩
theorem Zzq (hg:Zdl w g s):Calls Tryz.prog 267 #[.slice (some ⟨g,0,none⟩) 1 c,.agg #[.string s.1,.int .i64 (s.2:Int)]] w fun e w'=>e= .returned (.int .i64 0)/\Below w.heap.size w w':=by
 have hg0:=fun o=>(hg.of (w':=w.alloc o) (by simp) (Ycx _ _ _ hg.1)).2.1;have hg1:=fun o=>(hg.of (w':=w.alloc o) (by simp) (Ycx _ _ _ hg.1)).2.2.1;have he:=Z6n s.1 s.2;have B0:=fun o=>(Yct w.heap.size w).alloc lr o;clear hg;go_enter Tryz.func267,Tryz.ntmps267
 go_wp2_with fail
 refine wp_loop_rounds 1 ?_;rw[rounds_succ];go_wp2_with fail
 go_quiet (fail)
 all_goals
  go_wp2_with fail
  go_ret
  exact⟨rfl,Zb2 (B0 _)⟩
theorem Zpv (p:Option Addr)(c:Nat)(x:Value)(y:Value)(w:World):Calls Tryz.prog 258 #[.slice p 0 c,.agg #[x,y]] w fun e w'=>e= .returned (.bool false)/\Below w.heap.size w w':=by
 have C:=Zaa (fun o=>Zws p c x y (w.alloc o));have B0:=fun o=>(Yct w.heap.size w).alloc lr o;go_enter Tryz.func258,Tryz.ntmps258
 go_wp2_with fail
 refine(C.out _).mono ?_;rintro e w' ⟨rfl,hb⟩;go_wp2_with fail
 go_ret
 exact⟨rfl,(B0 _).trans (hb.mono (by simp))⟩
theorem Zsq (hg:Zdl w g s):Calls Tryz.prog 258 #[.slice (some ⟨g,0,none⟩) 1 c,.agg #[.string s.1,.int .i64 (s.2:Int)]] w fun e w'=>e= .returned (.bool true)/\Below w.heap.size w w':=by
 have C:=Zaa (fun o=>Zzq (c:=c) (hg.of (w':=w.alloc o) (by simp) (Ycx _ _ _ hg.1)));have B0:=fun o=>(Yct w.heap.size w).alloc lr o;clear hg;go_enter Tryz.func258,Tryz.ntmps258
 go_wp2_with fail
 refine(C.out _).mono ?_;rintro e w' ⟨rfl,hb⟩;go_wp2_with fail
 go_ret
 exact⟨rfl,(B0 _).trans (hb.mono (by simp))⟩
theorem Zwq (f:Value)(w:World):Calls Tryz.prog 268 #[.slice none 0 0,f] w fun e w'=>e= .returned (.int .i64 (-1))/\w'=w:=by
 go_enter Tryz.func268,Tryz.ntmps268
 go_wp2_with fail
 refine wp_loop_rounds 1 ?_;rw[rounds_succ];go_wp2_with fail
 go_ret
 exact⟨rfl,rfl⟩
theorem Zpw (f:Value)(w:World):Calls Tryz.prog 259 #[.slice none 0 0,f] w fun e w'=>e= .returned (.bool false)/\w'=w:=by
 have C:=Zaa (Zwq f w);go_enter Tryz.func259,Tryz.ntmps259
 go_wp2_with fail
 refine C.out.mono ?_;rintro e w' ⟨rfl,rfl⟩;go_wp2_with fail
 go_ret
 exact⟨rfl,rfl⟩
end Go.P
namespace Go.P
variable {w:World}{g' ga c' ca:Nat}{n n':ByteArray}{x:ByteArray×Nat}
theorem Z27 {g c:Nat}{x:ByteArray}{k:Nat}(hx:(x.toList==[])=false)(hg:Zdl w g (x,k))(a0:w.cell? ⟨ga,0,none⟩=some (.string n'))(a1:w.cell? ⟨ga,1,none⟩=some (.slice (some ⟨g',0,none⟩) 1 c'))(hg':Zdl w g' (x,k)):
  Calls Tryz.prog 242 #[.agg #[.string n,.slice (some ⟨g,0,none⟩) 1 c],.slice (some ⟨ga,0,none⟩) 1 ca] w fun e w'=> ∃ gh ch,e= .returned (.slice (some ⟨gh,0,none⟩) 1 ch)/\w.heap.size<=gh/\w'.cell? ⟨gh,0,none⟩=some (.string x)/\w'.cell? ⟨gh,1,none⟩=some (.int .i64 0)/\w'.cell? ⟨gh,2,none⟩=some (.int .i64 0)/\Below w.heap.size w w':=by
 have HB:=fun o=>(Yct w.heap.size w).alloc lr o;have hla:=Zbi a0;have a0':=fun o=>(Ycw (a:=⟨ga,0,none⟩) (Ycx w o _ hla)).trans a0;have a1':=fun o=>(Ycw (a:=⟨ga,1,none⟩) (Ycx w o _ hla)).trans a1;have h0':=fun o=>(hg'.of (w':=w.alloc o) (by simp) (Ycx _ _ _ hg'.1)).2.1;have h1':=fun o=>(hg'.of (w':=w.alloc o) (by simp) (Ycx _ _ _ hg'.1)).2.2.1;have h0'':=fun o o'=>(hg'.of (w':=(w.alloc o).alloc o') (by simp;omega) (((HB o).alloc (by simp) o').block _ hg'.1)).2.1;have h1'':=fun o o'=>(hg'.of (w':=(w.alloc o).alloc o') (by simp;omega) (((HB o).alloc (by simp) o').block _ hg'.1)).2.2.1;have HG:=Zaa hg;have HG':=Zaa hg';have hmf:=fun(fn:Fn) (first cap:Array Value) (w:World)=>(rfl:(Instr.makeFunc fn first cap).run Tryz.prog w= .ok (.func fn first cap) w);clear hg hg';go_enter Tryz.func242,Tryz.ntmps242
 go_wp2_with fail
 refine wp_loop_rounds 2 ?_;rw[rounds_succ];go_wp2_with fail
 refine wp_loop_rounds 2 ?_;rw[rounds_succ];go_wp2_with fail
 obtain⟨W3,hW3⟩: ∃ W3,Box (((w.alloc (.cells #[.string n,.slice (some ⟨g,0,none⟩) 1 c] 321)).alloc (.cells #[.string n',.slice (some ⟨g',0,none⟩) 1 c'] 321)).alloc (.cells #[.string x,.int .i64 (k:Int)] 359)=W3):=⟨_,⟨rfl⟩⟩;have B3:Box (Below w.heap.size w W3):=⟨hW3.out▸(((Yct _ w).alloc lr _).alloc (by simp) _).alloc (by simp;omega) _⟩;have S3:Box (W3.heap.size=w.heap.size+3):=⟨by rw[<- hW3.out];simp⟩;have L2:Box (Blk W3 (w.heap.size+1+1) #[.string x,.int .i64 (k:Int)] 359):=⟨hW3.out▸Z1v w _ _ _ _⟩;rw[hW3.out];refine(Zsq (c:=c) (HG.out.of B3.out.size (B3.out.block g HG.out.1))).mono ?_;rintro e w5 ⟨rfl,hb5⟩;have B5:=Zaa (B3.out.trans (hb5.mono B3.out.size));have L5:=Zaa (L2.out.of (hb5.block _ L2.out.lt));have z0:=L5.out.two.1;have z0':=fun o=>(L5.out.alloc o).two.1;have CF:=Zaa (fun f=>Zpw f w5);clear hb5;go_wp2_with fail
 refine(CF.out _).mono ?_;rintro e w6 ⟨rfl,h6⟩;obtain rfl:=h6.symm;go_wp2_with fail
 rw[rounds_succ];go_wp2_with fail
 rw[rounds_succ];go_wp2_with fail
 have B5':=B5.out;go_ret
 have hn:=Zpo w5 (.cells #[.string x,.int .i64 0,.int .i64 0] 384) (#[.string x,.int .i64 0,.int .i64 0]++Builtin.zeroCells #[.string ⟨#[]⟩,.int .i64 0,.int .i64 0] ((Question.appendCap 1 0 384).cut (w5.tape w5.drawn (Question.appendCap 1 0 384)) - 1)) 384;exact⟨w5.heap.size+1,_,rfl,by have:=B5'.size;omega,(hn.cell 0).trans (by rw[Ydo (by simp)];rfl),(hn.cell 1).trans (by rw[Ydo (by simp)];rfl),(hn.cell 2).trans (by rw[Ydo (by simp)];rfl),((B5'.alloc B5'.size _).alloc (by have:=B5'.size;simp;omega) _).drew⟩
theorem Z3a (hx:(x.1.toList==[])=true)(a0:w.cell? ⟨ga,0,none⟩=some (.string n'))(a1:w.cell? ⟨ga,1,none⟩=some (.slice (some ⟨g',0,none⟩) 1 c'))(hg':Zdl w g' x):
  Calls Tryz.prog 242 #[.agg #[.string n,.slice none 0 0],.slice (some ⟨ga,0,none⟩) 1 ca] w fun e w'=>e= .returned (.slice none 0 0)/\Below w.heap.size w w':=by
 have HB:=fun o=>(Yct w.heap.size w).alloc lr o;have hla:=Zbi a0;have a0':=fun o=>(Ycw (a:=⟨ga,0,none⟩) (Ycx w o _ hla)).trans a0;have a1':=fun o=>(Ycw (a:=⟨ga,1,none⟩) (Ycx w o _ hla)).trans a1;have h0'':=fun o o'=>(hg'.of (w':=(w.alloc o).alloc o') (by simp;omega) (((HB o).alloc (by simp) o').block _ hg'.1)).2.1;have h1'':=fun o o'=>(hg'.of (w':=(w.alloc o).alloc o') (by simp;omega) (((HB o).alloc (by simp) o').block _ hg'.1)).2.2.1;have hmf:=fun(fn:Fn) (first cap:Array Value) (w:World)=>(rfl:(Instr.makeFunc fn first cap).run Tryz.prog w= .ok (.func fn first cap) w);clear hg';go_enter Tryz.func242,Tryz.ntmps242
 go_wp2_with fail
 refine wp_loop_rounds 2 ?_;rw[rounds_succ];go_wp2_with fail
 refine wp_loop_rounds 2 ?_;rw[rounds_succ];go_wp2_with fail
 rw[rounds_succ];go_wp2_with fail
 rw[rounds_succ];go_wp2_with fail
 go_ret
 exact⟨rfl,(((HB _).alloc (by simp) _).alloc (by simp;omega) _)⟩
theorem Z3s {g0 g1 c0 c1:Nat}{x1:ByteArray×Nat}{n0 n1:ByteArray}(hx:(x.1.toList==[])=true)(hx1:(x1.1.toList==[])=false)(a0:w.cell? ⟨ga,0,none⟩=some (.string n0))(a1:w.cell? ⟨ga,1,none⟩=some (.slice (some ⟨g0,0,none⟩) 1 c0))(a2:w.cell? ⟨ga,2,none⟩=some (.string n1))(a3:w.cell? ⟨ga,3,none⟩=some (.slice (some ⟨g1,0,none⟩) 1 c1))(hg:Zdl w g0 x)(hg1:Zdl w g1 x1):
  Calls Tryz.prog 242 #[.agg #[.string n,.slice none 0 0],.slice (some ⟨ga,0,none⟩) 2 ca] w fun e w'=>e= .returned (.slice none 0 0)/\Below w.heap.size w w':=by
 have HB:=fun o=>(Yct w.heap.size w).alloc lr o;have hla:=Zbi a0;have a0':=fun o=>(Ycw (a:=⟨ga,0,none⟩) (Ycx w o _ hla)).trans a0;have a1':=fun o=>(Ycw (a:=⟨ga,1,none⟩) (Ycx w o _ hla)).trans a1;have h0'':=fun o o'=>(hg.of (w':=(w.alloc o).alloc o') (by simp;omega) (((HB o).alloc (by simp) o').block _ hg.1)).2.1;have h1'':=fun o o'=>(hg.of (w':=(w.alloc o).alloc o') (by simp;omega) (((HB o).alloc (by simp) o').block _ hg.1)).2.2.1;have hmf:=fun(fn:Fn) (first cap:Array Value) (w:World)=>(rfl:(Instr.makeFunc fn first cap).run Tryz.prog w= .ok (.func fn first cap) w);obtain⟨W3,hW3⟩: ∃ W3,Box (((w.alloc (.cells #[.string n,.slice none 0 0] 321)).alloc (.cells #[.string n0,.slice (some ⟨g0,0,none⟩) 1 c0] 321)).alloc (.cells #[.string x.1,.int .i64 (x.2:Int)] 359)=W3):=⟨_,⟨rfl⟩⟩;have B3:Below w.heap.size w W3:=hW3.out▸(((Yct _ w).alloc lr _).alloc (by simp) _).alloc (by simp;omega) _;have S3:W3.heap.size=w.heap.size+3:=by rw[<- hW3.out];simp
 have L0:Blk W3 w.heap.size #[.string n,.slice none 0 0] 321:=hW3.out▸((Blk.new w _ _).alloc _).alloc _;have b2:=(Ycw (a:=⟨ga,2,none⟩) (B3.block ga hla)).trans a2;have b3:=(Ycw (a:=⟨ga,3,none⟩) (B3.block ga hla)).trans a3;have hg3:=hg1.of B3.size (B3.block g1 hg1.1);have i0:=fun o=>(hg3.of (w':=W3.alloc o) (by simp) (Ycx _ _ _ hg3.1)).2.1;have i1:=fun o=>(hg3.of (w':=W3.alloc o) (by simp) (Ycx _ _ _ hg3.1)).2.2.1;have l1:=fun o o'=>((L0.alloc o).alloc o').two.2.1;have CC:=Zaa (fun o o'=>Zpv none 0 (.string x1.1) (.int .i64 (x1.2:Int)) ((W3.alloc o).alloc o'));have BB:=Zaa B3;have HS:=Zaa S3;clear hg hg1 hg3 a2 a3 B3 L0 S3;go_enter Tryz.func242,Tryz.ntmps242
 go_wp2_with fail
 refine wp_loop_rounds 3 ?_;rw[rounds_succ];go_wp2_with fail
 refine wp_loop_rounds 2 ?_;rw[rounds_succ];go_wp2_with fail
 rw[rounds_succ];go_wp2_with fail
 rw[hW3.out];clear hW3;rw[rounds_succ];go_wp2_with fail
 refine wp_loop_rounds 2 ?_;rw[rounds_succ];go_wp2_with fail
 refine(CC.out _ _).mono ?_;rintro e w6 ⟨rfl,hb6⟩;have B6:=BB.out.trans ((((Yct _ W3).alloc lr _).alloc (by simp) _).trans (hb6.mono (by simp;omega)) |>.mono BB.out.size);have B6':=Zaa B6;clear hb6 B6;go_wp2_with fail
 rw[rounds_succ];go_wp2_with fail
 rw[rounds_succ];go_wp2_with fail
 go_ret
 exact⟨rfl,B6'.out⟩
end Go.P
