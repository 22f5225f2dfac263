import Derived.Test.YtmebjfclpalmaaaGreatDoorW34
set_option maxRecDepth 100000
set_option maxHeartbeats 8000000
set_option linter.unusedSimpArgs false
open Go.Proofs Go.RowKit Go.W Tryz
namespace Go.P
open Go.RowKit Go.W Go.Shelf
variable {w:World}
attribute [local go_sem] Yea
theorem Zzi {P:Program}{c:Code}{Q:Exit->Act->World->Prop}{a:Act}(h:c.wp P (Exit.then (fun a w=>Q .normal a w) fun _ _ _=>False) a w):c.wp P Q a w:=Zxq _ h fun _ _ h=>h
theorem Z3o {q p m:Nat}{cs:Array Value}{x x1:Pt}{gs:List Gt}{S:List Nat}{fs:List (ByteArray×Nat)}{vs:List T}{F:List Nat}{ov:Value}{Fo:List Nat}(h:Ctx w q p m cs [x,x1] gs S fs vs F [] ov Fo)(hl:gs.length<=1){seen now sN fit fit1 n:Nat}(h0:Box (seen=0))(hse:seen<=60)(hno:now<=60)(hsN:bits BinOp.andNot IntKind.u64 ((2 ^ now - 1:Nat):Int) ((2 ^ seen - 1:Nat):Int)=(sN:Int))(hs8:sN < 8)(c8:cs[8]?=some (.int .u64 0))(c9:cs[9]?=some (.int .u64 0))(hb: ∀ n,n∈Za5 sN->n < fs.length)(ha: ∀ n,n∈Za5 sN->(Zci [] x.1 x.2 (fs.getD n (⟨#[]⟩,0))).1=true-> ∀ y,y∈gs->Z5l (Zci [] x.1 x.2 (fs.getD n (⟨#[]⟩,0))).2 vs y)(ha1: ∀ n,n∈Za5 sN->(Zci [] x1.1 x1.2 (fs.getD n (⟨#[]⟩,0))).1=true-> ∀ y,y∈gs->Z5l (Zci [] x1.1 x1.2 (fs.getD n (⟨#[]⟩,0))).2 vs y)(hfit:Zdy fs x.1 x.2 (Za5 sN)=fit)(hfit1:Zdy fs x1.1 x1.2 (Za5 sN)=fit1)(hn:Za5 fit=[n])(hn1: ∀ k,k∈Za5 fit1->k∈Za5 sN)(hnl:n < fs.length)(hm0:(Zci [] x.1 x.2 (fs.getD n (⟨#[]⟩,0))).2=[])(cb:cs[12+n*4+1]?=some (.int .u64 0)):
  Calls prog 218 #[.pointer (some ⟨q,0,none⟩),.int .i64 (seen:Int),.int .i64 (now:Int)] w fun e w'=>e= .returned (.tuple #[])/\ ∃ ov' Fo',Ctx w' q p m (((cs.setIfInBounds 8 (.int .u64 (fit:Int))).setIfInBounds 9 (.int .u64 (fit1:Int))).setIfInBounds (12+n*4+1) (.int .u64 (Zdy fs x1.1 x1.2 (Za5 fit1):Int))) [x,x1] gs S fs vs F [] ov' Fo'/\Off (q::m::Fo) w w'/\ ∀ i,i∈Fo'->i∈Fo\/w.heap.size<=i:=by
 obtain⟨pa,ca,c3,hA⟩:=h.rd.atoms;obtain⟨ga,g,c,rfl,hgaS,hgS,a1,a1',hsl⟩:=hA 0 x rfl;obtain⟨ga',g1,c1,e1,_,hgS1,a2,a2',hsl1⟩:=hA 1 x1 rfl;injection e1 with e1;injection e1 with e1;subst e1;have hfl:fit < 8:=hfit▸Ze2 _ _ _ fun k hk=>Zcp hk;have hfl1:fit1 < 8:=hfit1▸Ze2 _ _ _ fun k hk=>Zcp hk;have hor:=Zem fit hfl;have hor1:=Zem fit1 hfl1;simp only[Ydp,Ydt,Yd7,Yex,Nat.reduceAdd,Nat.one_mul]at a1 a1' a2 a2' c3;have q3:=(h.cell 3 (by omega)).trans c3;have h8s:Box (cs.size=972):=⟨h.rd.sz⟩;have hql:=h.bd.blk.lt;have hgl:=h.rd.lS ga hgaS;have CN:=Zaa (Zie now hno);have CS:=Zaa (Zie seen hse);have H:=Zaa h;clear h hA;refine(callsIn_wide (n:=5)).1 ?_;refine callsIn_of_wp_marks func218 rfl trivial ?_ rfl;simp only[ntmps218,Ydn,Ydp,Ydt,Nat.reduceAdd,Nat.reduceSub,Ydx,Ydw,Yd2,Ydz,Ydy,Ydv];refine wpIn_wide.2 ?_;obtain⟨W2,hW2⟩: ∃ W2,Box ((w.alloc (.cells #[.pointer (some ⟨q,0,none⟩)] 330)).alloc (.cells #[.int .i64 (seen:Int)] 3)=W2):=⟨_,⟨rfl⟩⟩;have B2:Box (Below w.heap.size w W2):=⟨hW2.out▸((Ydb _ w).alloc lr _).alloc (by simp) _⟩;have S2:Box (W2.heap.size=w.heap.size+2):=⟨by rw[<- hW2.out];simp⟩;have L0:Box (Blk W2 w.heap.size #[.pointer (some ⟨q,0,none⟩)] 330):=⟨hW2.out▸(Blk.new w _ _).alloc _⟩;have L1:Box (Blk W2 (w.heap.size+1) #[.int .i64 (seen:Int)] 3):=⟨hW2.out▸Zpo w _ _ _⟩;have C2:=Zaa (H.out.below B2.out);have z1:=(Yde (a:=⟨ga,0,none⟩) (B2.out.block ga hgl)).trans a1;have z1':=(Yde (a:=⟨ga,1,none⟩) (B2.out.block ga hgl)).trans a1';go_wp2_with fail
 rw[hW2.out];refine Ye7 3 ?_;rw[Ye5];go_wp2_with fail
 clear z1 z1';obtain⟨W3,hW3⟩: ∃ W3,Box (W2.alloc (.cells #[.string x.1,.slice (some ⟨g,0,none⟩) 1 c] 324)=W3):=⟨_,⟨rfl⟩⟩;rw[hW3.out];have BW3:Box (Below W2.heap.size W2 W3):=⟨hW3.out▸(Ydb _ W2).alloc lr _⟩;have SW3:Box (W3.heap.size=W2.heap.size+1):=⟨by rw[<- hW3.out];simp⟩;have PW3:Box (Blk W3 W2.heap.size #[.string x.1,.slice (some ⟨g,0,none⟩) 1 c] 324):=⟨hW3.out▸Blk.new W2 _ _⟩;have CW3:=Zaa ((C2.out).below BW3.out);have MW3:Box (∀ j,(j=w.heap.size\/j=w.heap.size+1\/j=W2.heap.size)->j < W3.heap.size/\j∉q::m::Fo):=⟨fun j hj=>by
  have e1:=SW3.out;have e2:=L1.out.lt;refine⟨by omega,fun h=>?_⟩
  have:=H.out.bd.lt j h
  have e3:=S2.out
  omega⟩
 have KW3:Box (∀ u:World,Off (q::m::Fo) W3 u->u.cell? ⟨w.heap.size,0,none⟩=some (.pointer (some ⟨q,0,none⟩))/\u.cell? ⟨w.heap.size+1,0,none⟩=some (.int .i64 (seen:Int))/\u.cell? ⟨W2.heap.size,0,none⟩=some (.string x.1)/\u.cell? ⟨W2.heap.size,1,none⟩=some (.slice (some ⟨g,0,none⟩) 1 c)):=⟨fun u hu=>by
  have e0:=(L0.out.of (BW3.out.block _ L0.out.lt)).of (hu.block _ (MW3.out _ (.inl rfl)).1 (MW3.out _ (.inl rfl)).2);have e1:=(L1.out.of (BW3.out.block _ L1.out.lt)).of (hu.block _ (MW3.out _ (.inr (.inl rfl))).1 (MW3.out _ (.inr (.inl rfl))).2);have e2:=PW3.out.of (hu.block _ (MW3.out _ (.inr (.inr rfl))).1 (MW3.out _ (.inr (.inr rfl))).2);exact⟨e0.one.1,e1.one.1,e2.two.1,e2.two.2.1⟩⟩
 have QW3:Box (∀ (u:World) ov Fo,Ctx u q p m cs [x,x1] gs S fs vs F [] ov Fo->u.cell? ⟨q,8,none⟩=some (.int .u64 0)):=⟨fun u ov Fo hu=>(hu.cell 8 (by omega)).trans c8⟩;have hS0:(W3.drew.cell? ⟨w.heap.size,0,none⟩=some (.pointer (some ⟨q,0,none⟩))/\W3.drew.cell? ⟨w.heap.size+1,0,none⟩=some (.int .i64 (seen:Int))/\W3.drew.cell? ⟨W2.heap.size,0,none⟩=some (.string x.1)/\W3.drew.cell? ⟨W2.heap.size,1,none⟩=some (.slice (some ⟨g,0,none⟩) 1 c))/\W3.drew.cell? ⟨q,8,none⟩=some (.int .u64 0):=⟨KW3.out _ (Off.refl _ W3).drew,QW3.out _ _ _ (CW3.out.below (Ydb _ W3).drew)⟩;have hS0:=Yda hS0.1.1 (Yda hS0.1.2.1 (Yda hS0.1.2.2.1 (Yda hS0.1.2.2.2 hS0.2)));have FW3:=Zaa (Zho (CW3.out.below (Ydb _ W3).drew) hl (c:=c) (((hsl.of B2.out.size (B2.out.block g hsl.1))).of (w':=W3.drew) (Ydc (Below.size BW3.out) lr) (BW3.out.block g ((hsl.of B2.out.size (B2.out.block g hsl.1))).1)) hgS x.1 sN hs8 hb ha);rw[hfit]at FW3;refine Zzi ?_;refine Zat 18 (fun u=>u.cell? ⟨w.heap.size,0,none⟩=some (.pointer (some ⟨q,0,none⟩))/\u.cell? ⟨w.heap.size+1,0,none⟩=some (.int .i64 (seen:Int))/\u.cell? ⟨W2.heap.size,0,none⟩=some (.string x.1)/\u.cell? ⟨W2.heap.size,1,none⟩=some (.slice (some ⟨g,0,none⟩) 1 c)/\u.cell? ⟨q,8,none⟩=some (.int .u64 0)) (by kernel_rfl) ?_;refine tz 0 (.pointer (some ⟨q,0,none⟩)) hS0 (hy:=fun _ ⟨s0,s1,s2,s3,s4⟩=>by go_simp) ?_;try simp only[zz]
 refine tz 1 (.int .i64 0) hS0 ?_;try simp only[zz]
 refine tz 2 (.pointer (some ⟨q,0,none⟩)) hS0 ?_;try simp only[zz]
 refine tz 3 (.pointer (some ⟨q,8,none⟩)) hS0 ?_;try simp only[zz]
 refine tz 4 (.pointer (some ⟨q,8,none⟩)) hS0 ?_;try simp only[zz]
 refine tz 5 (.int .u64 0) hS0 (hy:=fun _ ⟨s0,s1,s2,s3,s4⟩=>by go_simp) ?_;try simp only[zz]
 refine tz 6 (.pointer (some ⟨q,0,none⟩)) hS0 (hy:=fun _ ⟨s0,s1,s2,s3,s4⟩=>by go_simp) ?_;try simp only[zz]
 refine tz 7 (.agg #[.string x.1,.slice (some ⟨g,0,none⟩) 1 c]) hS0 (hy:=fun _ ⟨s0,s1,s2,s3,s4⟩=>by go_simp) ?_;try simp only[zz]
 refine tz 8 (.int .i64 (now:Int)) hS0 ?_;try simp only[zz]
 refine tz 10 (.int .i64 (seen:Int)) hS0 (hy:=fun _ ⟨s0,s1,s2,s3,s4⟩=>by go_simp) ?_;try simp only[zz]
 refine tf 15 (.pointer (some ⟨q,0,none⟩)) hS0 ?_;try simp only[zz]
 refine tf 16 (.pointer (some ⟨q,8,none⟩)) hS0 ?_;try simp only[zz]
 refine rz 9 (h:=fun K' hK'=>?_);go_simp;refine(CN.out _).mono ?_;rintro e _ ⟨rfl,rfl⟩;refine hK'.out _ _ hS0 ?_;try simp only[zz]
 refine rz 11 (h:=fun K' hK'=>?_);go_simp;refine(CS.out _).mono ?_;rintro e _ ⟨rfl,rfl⟩;refine hK'.out _ _ hS0 ?_;try simp only[zz]
 refine tz 12 (.int .u64 (sN:Int)) hS0 ?_;try simp only[zz]
 refine rz 13 (h:=fun K' hK'=>?_);go_simp;refine FW3.out.mono ?_;rintro e w5 ⟨rfl,ovA,FA,hcA,hoA,hsA⟩;have hS5:=KW3.out w5 ((Off.refl _ W3).drew.trans hoA fun _ h=> .inl h);have hS5:=Yda hS5.1 (Yda hS5.2.1 (Yda hS5.2.2.1 (Yda hS5.2.2.2 (QW3.out _ _ _ hcA))));have qs5:=hcA.bd.blk.soft;refine hK'.out _ _ hS5 ?_;try simp only[zz]
 refine tz 14 (.int .u64 (fit:Int)) hS5 ?_;try simp only[zz]
 refine rz 17 (h:=fun K' hK'=>?_);go_simp;refine hK'.out _ _ hS5 ?_;try simp only[zz]
 have c5:=hS5.2.2.2.2;refine rzl (h:=fun K' hK'=>?_);go_simp;refine hK'.out _ _ ?_;try simp only[zz]
 refine dz (h:=?_);have hpA:=hcA.put 8 (by omega) (.int .u64 (fit:Int));have hqA:=((Off.refl _ W3).drew.trans hoA fun _ h=> .inl h).set q 8 (.int .u64 (fit:Int)) (by simp);have hsubA: ∀ i,i∈FA->i∈Fo\/W3.heap.size<=i:=hsA;obtain⟨VA,hVA⟩: ∃ VA,Box (w5.setCell ⟨q,8,none⟩ (.int .u64 (fit:Int))=VA):=⟨_,⟨rfl⟩⟩;rw[hVA.out]at hpA hqA⊢;have HPA:=Zaa hpA;have HQA:=Zaa hqA;have HSA:=Zaa hsubA;clear hpA hqA hsubA hS5 hS0 qs5 c5 hcA hoA hsA FW3;have gB:ga∉q::m::Fo/\g1∉q::m::Fo:=⟨fun h=>(H.out.dB ga h).2.1 hgaS,fun h=>(H.out.dB g1 h).2.1 hgS1⟩;have upA: ∀ j,j < w.heap.size->j∉q::m::Fo->VA.heap[j]?=w.heap[j]?:=fun j h1 h2=>(HQA.out.block j (by have:=SW3.out;have:=S2.out;omega) h2).trans ((BW3.out.block j (by have:=S2.out;omega)).trans (B2.out.block j h1));have L0A:Box (Blk VA w.heap.size #[.pointer (some ⟨q,0,none⟩)] 330):=⟨(L0.out.of (BW3.out.block _ L0.out.lt)).of (HQA.out.block _ (MW3.out _ (.inl rfl)).1 (MW3.out _ (.inl rfl)).2)⟩;have L1A:Box (Blk VA (w.heap.size+1) #[.int .i64 (seen:Int)] 3):=⟨(L1.out.of (BW3.out.block _ L1.out.lt)).of (HQA.out.block _ (MW3.out _ (.inr (.inl rfl))).1 (MW3.out _ (.inr (.inl rfl))).2)⟩;have hslA:=Zaa (hsl1.of (Ydc B2.out.size (Ydc BW3.out.size HQA.out.size)) (upA g1 hsl1.1 gB.2));have c9A:(cs.setIfInBounds 8 (.int .u64 (fit:Int)))[9]?=some (.int .u64 0):=by rw[Ydd,if_neg (by omega)];exact c9
 have z2:=(Yde (a:=⟨ga,2,none⟩) (upA ga hgl gB.1)).trans a2;have z3:=(Yde (a:=⟨ga,3,none⟩) (upA ga hgl gB.1)).trans a2';clear upA q3;go_wp2_with fail
 rw[Ye5];go_wp2_with fail
 clear z2 z3;obtain⟨W4,hW4⟩: ∃ W4,Box (VA.alloc (.cells #[.string x1.1,.slice (some ⟨g1,0,none⟩) 1 c1] 324)=W4):=⟨_,⟨rfl⟩⟩;rw[hW4.out];have BW4:Box (Below VA.heap.size VA W4):=⟨hW4.out▸(Ydb _ VA).alloc lr _⟩;have SW4:Box (W4.heap.size=VA.heap.size+1):=⟨by rw[<- hW4.out];simp⟩;have PW4:Box (Blk W4 VA.heap.size #[.string x1.1,.slice (some ⟨g1,0,none⟩) 1 c1] 324):=⟨hW4.out▸Blk.new VA _ _⟩;have CW4:=Zaa ((HPA.out).below BW4.out);have MW4:Box (∀ j,(j=w.heap.size\/j=w.heap.size+1\/j=VA.heap.size)->j < W4.heap.size/\j∉q::m::FA):=⟨fun j hj=>by
  have e1:=SW4.out;have e2:=L1A.out.lt;refine⟨by omega,fun h=>?_⟩;have e3:=SW3.out;have e4:=S2.out;have e5:W3.heap.size<=VA.heap.size:=HQA.out.size;simp only[Ydj]at h;rcases h with h | h | h
  ·have:=H.out.bd.lt q (by simp);omega
  ·have:=H.out.bd.lt m (by simp);omega
  ·have e6:=HPA.out.bd.lt j (by simp[h]);rcases HSA.out j h with h | h
   ·have:=H.out.bd.lt j (by simp[h]);omega
   ·omega⟩
 have KW4:Box (∀ u:World,Off (q::m::FA) W4 u->u.cell? ⟨w.heap.size,0,none⟩=some (.pointer (some ⟨q,0,none⟩))/\u.cell? ⟨w.heap.size+1,0,none⟩=some (.int .i64 (seen:Int))/\u.cell? ⟨VA.heap.size,0,none⟩=some (.string x1.1)/\u.cell? ⟨VA.heap.size,1,none⟩=some (.slice (some ⟨g1,0,none⟩) 1 c1)):=⟨fun u hu=>by
  have e0:=(L0A.out.of (BW4.out.block _ L0A.out.lt)).of (hu.block _ (MW4.out _ (.inl rfl)).1 (MW4.out _ (.inl rfl)).2);have e1:=(L1A.out.of (BW4.out.block _ L1A.out.lt)).of (hu.block _ (MW4.out _ (.inr (.inl rfl))).1 (MW4.out _ (.inr (.inl rfl))).2);have e2:=PW4.out.of (hu.block _ (MW4.out _ (.inr (.inr rfl))).1 (MW4.out _ (.inr (.inr rfl))).2);exact⟨e0.one.1,e1.one.1,e2.two.1,e2.two.2.1⟩⟩
 have QW4:Box (∀ (u:World) ov Fo,Ctx u q p m (cs.setIfInBounds 8 (.int .u64 (fit:Int))) [x,x1] gs S fs vs F [] ov Fo->u.cell? ⟨q,9,none⟩=some (.int .u64 0)):=⟨fun u ov Fo hu=>(hu.cell 9 (by omega)).trans c9A⟩;have hS0:(W4.drew.cell? ⟨w.heap.size,0,none⟩=some (.pointer (some ⟨q,0,none⟩))/\W4.drew.cell? ⟨w.heap.size+1,0,none⟩=some (.int .i64 (seen:Int))/\W4.drew.cell? ⟨VA.heap.size,0,none⟩=some (.string x1.1)/\W4.drew.cell? ⟨VA.heap.size,1,none⟩=some (.slice (some ⟨g1,0,none⟩) 1 c1))/\W4.drew.cell? ⟨q,9,none⟩=some (.int .u64 0):=⟨KW4.out _ (Off.refl _ W4).drew,QW4.out _ _ _ (CW4.out.below (Ydb _ W4).drew)⟩;have hS0:=Yda hS0.1.1 (Yda hS0.1.2.1 (Yda hS0.1.2.2.1 (Yda hS0.1.2.2.2 hS0.2)));have FW4:=Zaa (Zho (CW4.out.below (Ydb _ W4).drew) hl (c:=c1) (hslA.out.of (w':=W4.drew) (Ydc (Below.size BW4.out) lr) (BW4.out.block g1 hslA.out.1)) hgS1 x1.1 sN hs8 hb ha1);rw[hfit1]at FW4;refine Zzi ?_;refine Zat 18 (fun u=>u.cell? ⟨w.heap.size,0,none⟩=some (.pointer (some ⟨q,0,none⟩))/\u.cell? ⟨w.heap.size+1,0,none⟩=some (.int .i64 (seen:Int))/\u.cell? ⟨VA.heap.size,0,none⟩=some (.string x1.1)/\u.cell? ⟨VA.heap.size,1,none⟩=some (.slice (some ⟨g1,0,none⟩) 1 c1)/\u.cell? ⟨q,9,none⟩=some (.int .u64 0)) (by kernel_rfl) ?_;refine tz 0 (.pointer (some ⟨q,0,none⟩)) hS0 (hy:=fun _ ⟨s0,s1,s2,s3,s4⟩=>by go_simp) ?_;try simp only[zz]
 refine tz 1 (.int .i64 1) hS0 ?_;try simp only[zz]
 refine tz 2 (.pointer (some ⟨q,0,none⟩)) hS0 ?_;try simp only[zz]
 refine tz 3 (.pointer (some ⟨q,8,none⟩)) hS0 ?_;try simp only[zz]
 refine tz 4 (.pointer (some ⟨q,9,none⟩)) hS0 ?_;try simp only[zz]
 refine tz 5 (.int .u64 0) hS0 (hy:=fun _ ⟨s0,s1,s2,s3,s4⟩=>by go_simp) ?_;try simp only[zz]
 refine tz 6 (.pointer (some ⟨q,0,none⟩)) hS0 (hy:=fun _ ⟨s0,s1,s2,s3,s4⟩=>by go_simp) ?_;try simp only[zz]
 refine tz 7 (.agg #[.string x1.1,.slice (some ⟨g1,0,none⟩) 1 c1]) hS0 (hy:=fun _ ⟨s0,s1,s2,s3,s4⟩=>by go_simp) ?_;try simp only[zz]
 refine tz 8 (.int .i64 (now:Int)) hS0 ?_;try simp only[zz]
 refine tz 10 (.int .i64 (seen:Int)) hS0 (hy:=fun _ ⟨s0,s1,s2,s3,s4⟩=>by go_simp) ?_;try simp only[zz]
 refine tf 15 (.pointer (some ⟨q,0,none⟩)) hS0 ?_;try simp only[zz]
 refine tf 16 (.pointer (some ⟨q,8,none⟩)) hS0 ?_;try simp only[zz]
 refine rz 9 (h:=fun K' hK'=>?_);go_simp;refine(CN.out _).mono ?_;rintro e _ ⟨rfl,rfl⟩;refine hK'.out _ _ hS0 ?_;try simp only[zz]
 refine rz 11 (h:=fun K' hK'=>?_);go_simp;refine(CS.out _).mono ?_;rintro e _ ⟨rfl,rfl⟩;refine hK'.out _ _ hS0 ?_;try simp only[zz]
 refine tz 12 (.int .u64 (sN:Int)) hS0 ?_;try simp only[zz]
 refine rz 13 (h:=fun K' hK'=>?_);go_simp;refine FW4.out.mono ?_;rintro e w6 ⟨rfl,ovB,FB,hcB,hoB,hsB⟩;have hS5:=KW4.out w6 ((Off.refl _ W4).drew.trans hoB fun _ h=> .inl h);have hS5:=Yda hS5.1 (Yda hS5.2.1 (Yda hS5.2.2.1 (Yda hS5.2.2.2 (QW4.out _ _ _ hcB))));have qs5:=hcB.bd.blk.soft;refine hK'.out _ _ hS5 ?_;try simp only[zz]
 refine tz 14 (.int .u64 (fit1:Int)) hS5 ?_;try simp only[zz]
 refine rz 17 (h:=fun K' hK'=>?_);go_simp;refine hK'.out _ _ hS5 ?_;try simp only[zz]
 have c5:=hS5.2.2.2.2;refine rzl (h:=fun K' hK'=>?_);go_simp;refine hK'.out _ _ ?_;try simp only[zz]
 refine dz (h:=?_);have hpB:=hcB.put 9 (by omega) (.int .u64 (fit1:Int));have hqB:=((Off.refl _ W4).drew.trans hoB fun _ h=> .inl h).set q 9 (.int .u64 (fit1:Int)) (by simp);have hsubB: ∀ i,i∈FB->i∈FA\/W4.heap.size<=i:=hsB;obtain⟨VB,hVB⟩: ∃ VB,Box (w6.setCell ⟨q,9,none⟩ (.int .u64 (fit1:Int))=VB):=⟨_,⟨rfl⟩⟩;rw[hVB.out]at hpB hqB⊢;have HPB:=Zaa hpB;have HQB:=Zaa hqB;have HSB:=Zaa hsubB;clear hpB hqB hsubB hS5 hS0 qs5 c5 hcB hoB hsB FW4;obtain⟨CT,hCT⟩: ∃ CT,Box ((cs.setIfInBounds 8 (.int .u64 (fit:Int))).setIfInBounds 9 (.int .u64 (fit1:Int))=CT):=⟨_,⟨rfl⟩⟩;rw[hCT.out]at HPB;have hT: ∀ j,j≠8->j≠9->CT[j]?=cs[j]?:=fun j h1 h2=>by rw[<- hCT.out,Ydd,if_neg (by omega),Ydd,if_neg (by omega)]
 have t8:CT[8]?=some (.int .u64 (fit:Int)):=by rw[<- hCT.out,Ydd,if_neg (by omega),Ydd,if_pos rfl,if_pos (by have:=h8s.out;omega)]
 have t9:CT[9]?=some (.int .u64 (fit1:Int)):=by rw[<- hCT.out,Ydd,if_pos rfl,if_pos (by have:=h8s.out;simp;omega)]
 have q3B:=(HPB.out.cell 3 (by omega)).trans ((hT 3 (by omega) (by omega)).trans c3);have q8B:=(HPB.out.cell 8 (by omega)).trans t8;have L0B:Box (Blk VB w.heap.size #[.pointer (some ⟨q,0,none⟩)] 330):=⟨(L0A.out.of (BW4.out.block _ L0A.out.lt)).of (HQB.out.block _ (MW4.out _ (.inl rfl)).1 (MW4.out _ (.inl rfl)).2)⟩;have L1B:Box (Blk VB (w.heap.size+1) #[.int .i64 (seen:Int)] 3):=⟨(L1A.out.of (BW4.out.block _ L1A.out.lt)).of (HQB.out.block _ (MW4.out _ (.inr (.inl rfl))).1 (MW4.out _ (.inr (.inl rfl))).2)⟩;have y0:=L0B.out.one.1;go_wp2_with fail
 rw[Ye5];go_wp2
 refine Ye7 3 ?_;rw[Ye5];go_wp2_with fail
 have lVB:w.heap.size+1 < VB.heap.size:=L1B.out.lt;have hqB:q < VB.heap.size:=by omega
 have hwl:w.heap.size < VB.heap.size:=by omega
 have hmf:=fun(fn:Fn) (first cap:Array Value) (w:World)=>(rfl:(Instr.makeFunc fn first cap).run prog w= .ok (.func fn first cap) w);go_quiet (fail)
 go_wp2_with fail
 obtain⟨W6,hW6⟩: ∃ W6,Box ((VB.alloc (.cells #[.int .i64 0] 3)).drewN nq=W6):=⟨_,⟨rfl⟩⟩;have B6:Box (Below VB.heap.size VB W6):=⟨hW6.out▸Zb6 ((Ydb _ VB).alloc lr _)⟩;have S6:Box (W6.heap.size=VB.heap.size+1):=⟨by rw[<- hW6.out];simp⟩;have Li:Box (Blk W6 VB.heap.size #[.int .i64 0] 3):=⟨hW6.out▸(Blk.new VB _ _).dr _⟩;rw[hW6.out];have eB:=S6.out;have eW3:=SW3.out;have eW2:=S2.out;have eVA:W3.heap.size<=VA.heap.size:=HQA.out.size;have eW4:=SW4.out;have eVB:W4.heap.size<=VB.heap.size:=HQB.out.size;have hFl:=H.out.bd.lt;have sub5: ∀ i,i∈FB->i∈Fo\/(w.heap.size+2<=i/\i < VB.heap.size)\/VB.heap.size+3<=i:=fun i hi=>by
  have hlt:=HPB.out.bd.lt i (by simp[hi]);rcases HSB.out i hi with h | h
  ·exact(HSA.out i h).imp id fun h=> .inl ⟨by omega,hlt⟩
  ·exact .inr (.inl ⟨by omega,hlt⟩)
 have O6:Box (Off (q::m::Fo) w W6):=⟨((((Off.of B2.out).trans (Off.of (F:=[]) BW3.out) fun _ h=>(by cases h)).trans HQA.out fun _ h=> .inl h).trans (Off.of (F:=[]) BW4.out) fun _ h=>(by cases h)).trans (HQB.out.trans (Off.of (F:=[]) B6.out) fun _ h=>(by cases h)) fun i hi=>by
  simp only[Ydj]at hi⊢;rcases hi with h | h | h
  ·exact .inl (.inl h)
  ·exact .inl (.inr (.inl h))
  ·rcases HSA.out i h with h | h
   ·exact .inl (.inr (.inr h))
   ·exact .inr (by omega)⟩
 obtain⟨CT2,hCT2⟩: ∃ CT2,Box (CT.setIfInBounds (12+n*4+1) (.int .u64 (Zdy fs x1.1 x1.2 (Za5 fit1):Int))=CT2):=⟨_,⟨rfl⟩⟩;have OT:Box (∀ W W' C ov' Fo',Ctx W q p m C [x,x1] gs S fs vs F [] ov' Fo'->(∀ i,i∈Fo'->i∈Fo\/(w.heap.size+2<=i/\i < VB.heap.size)\/VB.heap.size+3<=i)->Off [W6.heap.size,W6.heap.size+1] W W'->Ctx W' q p m C [x,x1] gs S fs vs F [] ov' Fo'):=⟨fun W W' C ov' Fo' hc hsb k=>hc.other k fun j hj=>by
  have hj':VB.heap.size+1<=j/\j < VB.heap.size+3:=by simp at hj;omega
  refine⟨fun h=>?_,fun h=>by have:=H.out.wd.lt j h;omega,fun h=>by have:=H.out.rd.lS j h;omega,Ydc H.out.gl.2.2 (by omega)⟩;simp only[Ydj]at h;rcases h with rfl | rfl | h
  ·have:=hFl j (by simp);omega
  ·have:=hFl j (by simp);omega
  ·rcases hsb j h with h | h | h
   ·have:=hFl j (by simp[h]);omega
   ·omega
   ·omega⟩
 have hn60:n < 60:=Ydh (Zcp (s:=fit) (by rw[hn];simp)) (by decide);obtain⟨fx,hfx⟩: ∃ fx,fs[n]?=some fx:=⟨_,Ydi hnl⟩;have HM:=Zaa (show(Zci [] x.1 x.2 fx).2=[]by have:=hm0;rwa [List.getD_eq_getElem?_getD,hfx]at this);have HT:=Zaa (Yda t9 (hT (12+n*4+1) (by omega) (by omega) |>.trans cb));have HFX:=Zaa hfx;clear hfx hm0 q3B q8B y0 hmf;refine(wpIn_wide (n:=5)).1 ?_;refine Zf5 (K:=247) (s:=fit) (xs:=Za5 fit) (Z:=Z5j) rfl (Zam func247 (by kernel_rfl) rfl) (Zjz _ fit hfl) rfl
  (fun pre W=> ∃ ov' Fo',Ctx W q p m (if pre=[]then CT else CT2) [x,x1] gs S fs vs F [] ov' Fo'/\Blk W w.heap.size #[.pointer (some ⟨q,0,none⟩)] 330/\Blk W (w.heap.size+1) #[.int .i64 (seen:Int)] 3/\Blk W VB.heap.size #[.int .i64 0] 3/\Off (q::m::Fo) w W/\ ∀ i,i∈Fo'->i∈Fo\/(w.heap.size+2<=i/\i < VB.heap.size)\/VB.heap.size+3<=i)
  (fun _ _=>False) (fun _ _ ⟨_,_,hc,_⟩=>hc.gl.1) ?_ (fun _ _ _ h _=>h) ⟨ovB,FB,HPB.out.below B6.out,L0B.out.of (B6.out.block _ L0B.out.lt),L1B.out.of (B6.out.block _ L1B.out.lt),Li.out,O6.out,sub5⟩
  (fun n=>{tmps:=#[.pointer (some ⟨q,0,none⟩),.int .i64 (seen:Int),.int .i64 (now:Int),.pointer (some ⟨w.heap.size,0,none⟩),.pointer (some ⟨w.heap.size+1,0,none⟩),undef,.int .i64 1,.pointer (some ⟨VA.heap.size,0,none⟩),.pointer (some ⟨VB.heap.size,0,none⟩),.int .i64 (n:Int),.pointer (some ⟨q,0,none⟩),.pointer (some ⟨q,0,none⟩),.pointer (some ⟨q,3,none⟩),.slice (some ⟨ga,0,none⟩) 2 ca,.int .i64 2,.int .i64 2,.bool false,.int .i64 1,.pointer (some ⟨ga,2,none⟩),.agg #[.string x1.1,.slice (some ⟨g1,0,none⟩) 1 c1],.pointer (some ⟨q,0,none⟩),.int .i64 1,.pointer (some ⟨q,0,none⟩),.pointer (some ⟨q,8,none⟩),.pointer (some ⟨q,9,none⟩),.int .u64 0,.pointer (some ⟨q,0,none⟩),.agg #[.string x1.1,.slice (some ⟨g1,0,none⟩) 1 c1],.int .i64 (now:Int),.int .u64 ((2 ^ now - 1:Nat):Int),.int .i64 (seen:Int),.int .u64 ((2 ^ seen - 1:Nat):Int),.int .u64 (sN:Int),.int .u64 (fit1:Int),.int .u64 (fit1:Int),.pointer (some ⟨q,0,none⟩),.pointer (some ⟨q,8,none⟩),.pointer (some ⟨q,9,none⟩),.int .i64 2,.pointer (some ⟨q,0,none⟩),.pointer (some ⟨q,0,none⟩),.pointer (some ⟨q,3,none⟩),.slice (some ⟨ga,0,none⟩) 2 ca,.int .i64 2,.int .i64 0,.bool true,.int .i64 0,.pointer (some ⟨q,0,none⟩),.int .i64 0,.pointer (some ⟨q,0,none⟩),.pointer (some ⟨q,8,none⟩),.pointer (some ⟨q,8,none⟩),.int .u64 (fit:Int),.func (.func 247) #[.int .u64 (fit:Int)] #[],.int .i64 (n:Int),undef,undef,undef,undef,undef,undef],defers:=[]}) ?assign ?body ?done (fun _ _ h _=>h.elim)
 ·rintro pre W W' ⟨ov',Fo',hc,b0,b1,b2,ho,hsb⟩ k;have nn: ∀ j,j < VB.heap.size+1->j∉[W6.heap.size,W6.heap.size+1]:=fun j hj=>by simp;omega
  refine⟨ov',Fo',OT.out W W' _ _ _ hc hsb k,b0.of (k.block _ b0.lt (nn _ (by omega))),b1.of (k.block _ b1.lt (nn _ (by omega))),b2.of (k.block _ b2.lt (nn _ (by omega))),ho.trans k fun i hi=>?_,hsb⟩;simp at hi;exact .inr (by omega)
 case assign=>
  intro l n W K hK;gi_wp2
  exact hK
 case body=>
  rintro l pre n' rest W hx' ⟨ov',Fo',hc,b0,b1,b2,ho,hsb⟩ hW;rw[hn]at hx';obtain⟨rfl,rfl,rfl⟩:pre=[]/\n=n'/\rest=[]:=by
   cases pre with
   | nil=>simp at hx';exact⟨rfl,hx'.1,hx'.2⟩
   | cons y l=>simp at hx'
  rw[if_pos rfl]at hc;have CB:=Zaa (Zzn hc hl HFX.out hn60 HM.out HT.out.1 hfl1 HT.out.2 (fun k hk=>hb k (hn1 k hk)) (fun k hk=>ha1 k (hn1 k hk)));rw[hCT2.out]at CB;have c0:=b0.one.1;have c1':=b1.one.1;have c2:=b2.one.1;have HH:=Zaa (Yda hc (Yda b0 (Yda b1 (Yda b2 (Yda ho hsb)))));clear hc b0 b1 b2 ho hsb;gi_wp2
  rw[show(seen:Int)=0 from by rw[h0.out];rfl];refine⟨trivial,(CallsIn.inRound l (callsIn_wide.2 CB.out)).mono ?_⟩;rintro e w7 ⟨rfl,ov7,F7,hc7,ho7,hs7⟩;gi_wp2
  obtain⟨hc,b0,b1,b2,ho,hsb⟩:=HH.out;have nB': ∀ j,w.heap.size<=j->(j < w.heap.size+2\/VB.heap.size<=j)->j < VB.heap.size+3->j∉q::m::Fo':=fun j h1 h2 h3 h=>by
   simp only[Ydj]at h;rcases h with rfl | rfl | h
   ·have:=hFl j (by simp);omega
   ·have:=hFl j (by simp);omega
   ·rcases hsb j h with h | h | h
    ·have:=hFl j (by simp[h]);omega
    ·omega
    ·omega
  refine⟨⟨ho7.block _ (by omega) (nB' _ (by omega) (by omega) (by omega)),ho7.block _ (by omega) (nB' _ (by omega) (by omega) (by omega))⟩,ov7,F7,by rw[if_neg (by simp)];exact hc7,b0.of (ho7.block _ b0.lt (nB' _ (by omega) (by omega) (by omega))),b1.of (ho7.block _ b1.lt (nB' _ (by omega) (by omega) (by omega))),b2.of (ho7.block _ b2.lt (nB' _ (by omega) (by omega) (by omega))),ho.trans ho7 fun i hi=>?_,fun i hi=>?_⟩
  ·simp only[Ydj]at hi⊢;rcases hi with h | h | h
   ·exact .inl (.inl h)
   ·exact .inl (.inr (.inl h))
   ·rcases hsb i h with h | h | h
    ·exact .inl (.inr (.inr h))
    ·exact .inr (by omega)
    ·exact .inr (by omega)
  ·rcases hs7 i hi with h | h
   ·exact hsb i h
   ·exact .inr (.inr (by omega))
 case done=>
  rintro W ⟨ov',Fo',hc,b0,b1,b2,ho,hsb⟩ hD;rw[hn,if_neg (by simp)]at hc;have t92:CT2[9]?=some (.int .u64 (fit1:Int)):=by rw[<- hCT2.out,Ydd,if_neg (by omega)];exact HT.out.1
  have q9C:=(hc.cell 9 (by omega)).trans t92;have y0:=b0.one.1;have lW:VB.heap.size+1<=W.heap.size:=b2.lt;have lW6:W6.heap.size < W.heap.size:=(Ydo.1 hD).1;have hqW:q < W.heap.size:=by omega
  have hwW:w.heap.size < W.heap.size:=by omega
  have hmf:=fun(fn:Fn) (first cap:Array Value) (w:World)=>(rfl:(Instr.makeFunc fn first cap).run prog w= .ok (.func fn first cap) w);have DD:=Zaa (Yda hc (Yda b0 (Yda b1 (Yda ho (Yda hsb hD)))));clear hc b0 b1 b2 ho hsb hD;go_wp2_with fail
  rw[Ye5];go_wp2
  go_quiet (fail)
  go_wp2_with fail
  obtain⟨W7,hW7⟩: ∃ W7,Box ((W.alloc (.cells #[.int .i64 1] 3)).drewN nq=W7):=⟨_,⟨rfl⟩⟩;have B7:Box (Below W.heap.size W W7):=⟨hW7.out▸Zb6 ((Ydb _ W).alloc lr _)⟩;have S7:Box (W7.heap.size=W.heap.size+1):=⟨by rw[<- hW7.out];simp⟩;have Lj:Box (Blk W7 W.heap.size #[.int .i64 1] 3):=⟨hW7.out▸(Blk.new W _ _).dr _⟩;rw[hW7.out];have e7:=S7.out;clear q9C y0 hmf;have OT2:Box (∀ U U' ov' Fo',Ctx U q p m CT2 [x,x1] gs S fs vs F [] ov' Fo'->(∀ i,i∈Fo'->i∈Fo\/(w.heap.size+2<=i/\i < VB.heap.size)\/(VB.heap.size+3<=i/\i < W.heap.size)\/W.heap.size+3<=i)->Off [W7.heap.size,W7.heap.size+1] U U'->Ctx U' q p m CT2 [x,x1] gs S fs vs F [] ov' Fo'):=⟨fun U U' ov' Fo' hc hsb k=>hc.other k fun j hj=>by
   have hj':W.heap.size+1<=j/\j < W.heap.size+3:=by simp at hj;omega
   refine⟨fun h=>?_,fun h=>by have:=H.out.wd.lt j h;omega,fun h=>by have:=H.out.rd.lS j h;omega,Ydc H.out.gl.2.2 (by omega)⟩;simp only[Ydj]at h;rcases h with rfl | rfl | h
   ·have:=hFl j (by simp);omega
   ·have:=hFl j (by simp);omega
   ·rcases hsb j h with h | h | h | h
    ·have:=hFl j (by simp[h]);omega
    ·omega
    ·omega
    ·omega⟩
  obtain⟨hc,b0,b1,ho,hsb,hD⟩:=DD.out;have hFW:=hc.bd.lt;refine(wpIn_wide (n:=5)).1 ?_;refine Zf5 (K:=247) (s:=fit1) (xs:=Za5 fit1) (Z:=Z5j) rfl (Zam func247 (by kernel_rfl) rfl) (Zjz _ fit1 hfl1) rfl
   (fun _ U=> ∃ ov' Fo',Ctx U q p m CT2 [x,x1] gs S fs vs F [] ov' Fo'/\Blk U w.heap.size #[.pointer (some ⟨q,0,none⟩)] 330/\Blk U (w.heap.size+1) #[.int .i64 (seen:Int)] 3/\Blk U W.heap.size #[.int .i64 1] 3/\Off (q::m::Fo) w U/\(∀ i,i∈Fo'->i∈Fo\/(w.heap.size+2<=i/\i < VB.heap.size)\/(VB.heap.size+3<=i/\i < W.heap.size)\/W.heap.size+3<=i)/\U.heap[W6.heap.size]?=some (.deferred (some [])))
   (fun _ _=>False) (fun _ _ ⟨_,_,hc,_⟩=>hc.gl.1) ?_ (fun _ _ _ h _=>h) ⟨ov',Fo',hc.below B7.out,b0.of (B7.out.block _ b0.lt),b1.of (B7.out.block _ b1.lt),Lj.out,ho.trans (Off.of (F:=[]) B7.out) (fun _ h=>(by cases h)),fun i hi=>(hsb i hi).imp id fun h=>h.imp id fun h=> .inl ⟨h,hFW i (by simp[hi])⟩,(B7.out.block _ lW6).trans hD⟩
   (fun n=>{tmps:=#[.pointer (some ⟨q,0,none⟩),.int .i64 (seen:Int),.int .i64 (now:Int),.pointer (some ⟨w.heap.size,0,none⟩),.pointer (some ⟨w.heap.size+1,0,none⟩),undef,.int .i64 1,.pointer (some ⟨VA.heap.size,0,none⟩),.pointer (some ⟨W.heap.size,0,none⟩),.int .i64 (n:Int),.pointer (some ⟨q,0,none⟩),.pointer (some ⟨q,0,none⟩),.pointer (some ⟨q,3,none⟩),.slice (some ⟨ga,0,none⟩) 2 ca,.int .i64 2,.int .i64 2,.bool false,.int .i64 1,.pointer (some ⟨ga,2,none⟩),.agg #[.string x1.1,.slice (some ⟨g1,0,none⟩) 1 c1],.pointer (some ⟨q,0,none⟩),.int .i64 1,.pointer (some ⟨q,0,none⟩),.pointer (some ⟨q,8,none⟩),.pointer (some ⟨q,9,none⟩),.int .u64 0,.pointer (some ⟨q,0,none⟩),.agg #[.string x1.1,.slice (some ⟨g1,0,none⟩) 1 c1],.int .i64 (now:Int),.int .u64 ((2 ^ now - 1:Nat):Int),.int .i64 (seen:Int),.int .u64 ((2 ^ seen - 1:Nat):Int),.int .u64 (sN:Int),.int .u64 (fit1:Int),.int .u64 (fit1:Int),.pointer (some ⟨q,0,none⟩),.pointer (some ⟨q,8,none⟩),.pointer (some ⟨q,9,none⟩),.int .i64 2,.pointer (some ⟨q,0,none⟩),.pointer (some ⟨q,0,none⟩),.pointer (some ⟨q,3,none⟩),.slice (some ⟨ga,0,none⟩) 2 ca,.int .i64 2,.int .i64 1,.bool true,.int .i64 1,.pointer (some ⟨q,0,none⟩),.int .i64 1,.pointer (some ⟨q,0,none⟩),.pointer (some ⟨q,8,none⟩),.pointer (some ⟨q,9,none⟩),.int .u64 (fit1:Int),.func (.func 247) #[.int .u64 (fit1:Int)] #[],.int .i64 (n:Int),undef,undef,undef,undef,undef,.int .i64 1],defers:=[]}) ?assign ?body ?done (fun _ _ h _=>h.elim)
  ·rintro pre U U' ⟨ov',Fo',hc,b0,b1,b2,ho,hsb,hd⟩ k;have nn: ∀ j,j < W.heap.size+1->j∉[W7.heap.size,W7.heap.size+1]:=fun j hj=>by simp;omega
   refine⟨ov',Fo',OT2.out U U' _ _ hc hsb k,b0.of (k.block _ b0.lt (nn _ (by omega))),b1.of (k.block _ b1.lt (nn _ (by omega))),b2.of (k.block _ b2.lt (nn _ (by omega))),ho.trans k fun i hi=>?_,hsb,(k.block _ (Ydo.1 hd).1 (nn _ (by omega))).trans hd⟩;simp at hi;exact .inr (by omega)
  case assign=>
   intro l n W K hK;gi_wp2
   exact hK
  case body=>
   rintro l pre n' rest U hx' ⟨ov',Fo',hc,b0,b1,b2,ho,hsb,hd⟩ hU;have hnl':=hb n' (hn1 n' (by rw[hx'];simp));obtain⟨fy,hfy⟩: ∃ fy,fs[n']?=some fy:=⟨_,Ydi hnl'⟩;have CB:=Zaa (Zng hc (i:=1) (seen:=seen) (x:=x1) rfl rfl (by simp) hfy);have c0:=b0.one.1;have c1':=b1.one.1;have c2:=b2.one.1;have HH:=Zaa (Yda hc (Yda b0 (Yda b1 (Yda b2 (Yda ho (Yda hsb hd))))));clear hc b0 b1 b2 ho hsb hd hfy;gi_wp2
   refine⟨trivial,(CallsIn.inRound l (callsIn_wide.2 CB.out)).mono ?_⟩;rintro e w7 ⟨rfl,ov7,F7,hc7,ho7,hs7⟩;gi_wp2
   obtain⟨hc,b0,b1,b2,ho,hsb,hd⟩:=HH.out;have nB': ∀ j,w.heap.size<=j->(j < w.heap.size+2\/(VB.heap.size<=j/\j < VB.heap.size+3)\/W.heap.size<=j)->j < W.heap.size+3->j∉q::m::Fo':=fun j h1 h2 h3 h=>by
    simp only[Ydj]at h;rcases h with rfl | rfl | h
    ·have:=hFl j (by simp);omega
    ·have:=hFl j (by simp);omega
    ·rcases hsb j h with h | h | h | h
     ·have:=hFl j (by simp[h]);omega
     ·omega
     ·omega
     ·omega
   refine⟨⟨ho7.block _ (by omega) (nB' _ (by omega) (by omega) (by omega)),ho7.block _ (by omega) (nB' _ (by omega) (by omega) (by omega))⟩,ov7,F7,hc7,b0.of (ho7.block _ b0.lt (nB' _ (by omega) (by omega) (by omega))),b1.of (ho7.block _ b1.lt (nB' _ (by omega) (by omega) (by omega))),b2.of (ho7.block _ b2.lt (nB' _ (by omega) (by omega) (by omega))),ho.trans ho7 fun i hi=>?_,fun i hi=>?_,(ho7.block _ (Ydo.1 hd).1 (nB' _ (by omega) (by omega) (by omega))).trans hd⟩
   ·simp only[Ydj]at hi⊢;rcases hi with h | h | h
    ·exact .inl (.inl h)
    ·exact .inl (.inr (.inl h))
    ·rcases hsb i h with h | h | h | h
     ·exact .inl (.inr (.inr h))
     ·exact .inr (by omega)
     ·exact .inr (by omega)
     ·exact .inr (by omega)
   ·rcases hs7 i hi with h | h
    ·exact hsb i h
    ·exact .inr (.inr (.inr (by omega)))
  case done=>
   rintro U ⟨ov',Fo',hc,b0,b1,b2,ho,hsb,hd⟩ hD2;have FO:=Zaa (Yda hc (Yda ho hsb));clear hc b0 b1 b2 ho hsb;go_wp2_with fail
   rw[Ye5];go_wp2_with fail
   have k1:Off [W7.heap.size,W7.heap.size+1] U (U.putObj W7.heap.size (.deferred none)):=Off.putObj _ (by simp);have k2:Off [W6.heap.size,W6.heap.size+1] (U.putObj W7.heap.size (.deferred none)) ((U.putObj W7.heap.size (.deferred none)).putObj W6.heap.size (.deferred none)):=Off.putObj _ (by simp);have hd':(U.putObj W7.heap.size (.deferred none)).heap[W6.heap.size]?=some (.deferred (some [])):=(World.putObj_heap_other (by omega)).trans hd;have s3: ∀ i,i∈Fo'->i∈Fo\/(w.heap.size+2<=i/\i < VB.heap.size)\/VB.heap.size+3<=i:=fun i hi=>(FO.out.2.2 i hi).imp id (by omega);rw[<- eB];refine⟨by simp,.inl ⟨_,_,rfl,run_takeDeferred hD2,?_⟩⟩;refine⟨by simp,.inl ⟨_,_,rfl,run_takeDeferred hd',?_⟩⟩;rw[hCT.out,hCT2.out];refine⟨_,results_none rfl _ _ _,rfl,ov',Fo',OT.out _ _ _ _ _ (OT2.out _ _ _ _ FO.out.1 FO.out.2.2 k1) s3 k2,(FO.out.2.1.trans k1 fun i hi=>?_).trans k2 fun i hi=>?_,fun i hi=>(s3 i hi).imp id (by omega)⟩
   ·simp at hi;exact .inr (by omega)
   ·simp at hi;exact .inr (by omega)
end Go.P
namespace Go.P
section
variable {w:World} {p:Nat} {fs:List (ByteArray×Nat)} {vs:List T} {F:List Nat} {B D:Nat}
theorem Z1x (h:Zd3 w p fs vs F)(hG:Zpg w)(hF: ∀ i,i∈F->23<=i)(hFB: ∀ i,i∈F->B<=i)(hB:B<=w.heap.size){a a1:A}{t t1:T}{g:G}{hn:ByteArray}{pt pb pg:Option Addr}{ct cb cg:Nat}(hb:Zan 2 (Zbb B w (D+2)) pb [a,a1])(hg:Zan 9 (Zct B w (D+2)) pg [g])(hat:a.terms=[t]/\a1.terms=[t1])(hok:Zau 0 t=0/\Zau 0 t1=0/\Zau 0 g.a=0/\Zau 0 g.b=0){op:Nat}(hop:g.op=(op:Int)){v1 v2 v3 v4:List T}(e1:Zcv vs t=v1)(e2:Zcv v1 t1=v2)(e3:Zcv v2 g.a=v3)(e4:Zcv v3 g.b=v4)(hvs:vs.length < 900/\v1.length < 900/\v2.length < 900/\v4.length < 900){x x1:Pt}{y:Gt}(ex:(a.name,Zby vs t)=x)(ex1:(a1.name,Zby v1 t1)=x1)(ey:(op,Zby v2 g.a,Zby v3 g.b)=y)(hysz:y.2.1.1.size < 1000000000/\y.2.2.1.size < 1000000000)(hx:(x.2.1.toList==[])=true)(hx1:(x1.2.1.toList==[])=false)(hl:fs.length<=3)
  (ha: ∀ k,k∈Za5 (2 ^ fs.length - 1)->(Zci [] x.1 x.2 (fs.getD k (⟨#[]⟩,0))).1=true->Z5l (Zci [] x.1 x.2 (fs.getD k (⟨#[]⟩,0))).2 v4 y) (ha1: ∀ k,k∈Za5 (2 ^ fs.length - 1)->(Zci [] x1.1 x1.2 (fs.getD k (⟨#[]⟩,0))).1=true->Z5l (Zci [] x1.1 x1.2 (fs.getD k (⟨#[]⟩,0))).2 v4 y) (ha0:Z5l [] v4 y)
  {fit fit1 n b n1:Nat} {r1:List Nat} (hfit:Zdy fs x.1 x.2 (Za5 (2 ^ fs.length - 1))=fit) (hfit1:Zdy fs x1.1 x1.2 (Za5 (2 ^ fs.length - 1))=fit1) (hbn:Za5 fit=[n]) (hn1: ∀ k,k∈Za5 fit1->k∈Za5 (2 ^ fs.length - 1)) (hnl:n < fs.length) (hm0:(Zci [] x.1 x.2 (fs.getD n (⟨#[]⟩,0))).2=[]) (hbf:Zdy fs x1.1 x1.2 (Za5 fit1)=b) (hb2:Za5 (fit1 &&& b)=n1::r1):
  Calls prog 191 #[.pointer (some ⟨p,0,none⟩),.agg #[.string hn,.slice pt 0 ct,.slice pb 2 cb,.slice pg 1 cg]] w fun e w'=>e= .returned (.bool true)/\ ∃ F',Zd3 w' p fs v4 F'/\Off F w w'/\ ∀ i,i∈F'->i∈F\/w.heap.size<=i:=by
 have hfl:fit < 8:=hfit▸Ze2 _ _ _ fun k hk=>Zcp hk;have hfl1:fit1 < 8:=hfit1▸Ze2 _ _ _ fun k hk=>Zcp hk;have hb8:b < 8:=hbf▸Ze2 _ _ _ fun k hk=>Zcp hk;have hn60:n < 60:=by omega
 have f1:[a,a1].foldl Zfh (vs,[])=(v2,[x,x1]):=by simp[Zfh,hat.1,hat.2,e1,e2,ex,ex1]
 have f2:[g].foldl Zhd (v2,[])=(v4,[y]):=by simp[Zhd,hop,e3,e4,ey]
 refine(Zvb (n:=fs.length) (a0:=fit) (a1:=fit1) (a2:=0) (a3:=0) (J:=Zpj w p [x,x1] [y] fs v4 F 0 0 (fun cs=> ∀ j,8<=j->j < 972->cs[j]?=some (.int .u64 0))) (J2:=Zpj w p [x,x1] [y] fs v4 F fit fit1 (fun cs=>cs[12+n*4+1]?=some (.int .u64 (b:Int)))) (fun _ _ _ h hb=>h.below hb) (fun _ _ _ h hb=>h.below hb) (fun u hu=>?_) (fun q u h=>?_) (fun q u h=>?_) (fun q u h=>?_) (fun _ _ h=>h.cells) fun q u h=>?_).mono ?_
 ·have hc:=Go.W.Below.carry (hu.mono hB) lr;have hwu:=h.of hu.size fun j hj=>hu.block j (h.lt j hj);refine(Zrp (bd:=[a,a1]) (gu:=[g]) (hb.carry fun _ _ _ hA=>Zbb.carry hc lr hA) (Ydc hB hu.size) hFB (fun i hi=>hwu.lt i hi) (fun z hz=>?_) (by simp) (vs1:=vs) (fun k=>?_) (D:=D) (hg.carry fun _ _ _ hA=>Zct.carry hc lr hA) (fun z hz=>?_) (by simp) (fun k=>?_) (Z2v hwu pt ct) fun u' hv Gh sv Fa h1 h2=>Ya4 hx hx1 u' hv Gh sv Fa h1 (by rw[f1]at h2;exact h2)).mono ?_
  ·simp at hz;rcases hz with rfl | rfl
   ·exact⟨t,hat.1,hok.1⟩
   ·exact⟨t1,hat.2,hok.2.1⟩
  ·match k with
   | 0=>exact hvs.1
   | 1=>simpa[Zfh,hat.1,e1]using hvs.2.1
   | k+2=>rw[show List.take (k+2) [a,a1]=[a,a1]from by simp,f1];exact hvs.2.2.1
  ·simp at hz;subst hz;exact⟨hok.2.2.1,hok.2.2.2,op,hop⟩
  ·rw[f1];match k with
   | 0=>exact hvs.2.2.1
   | k+1=>rw[show List.take (k+1) [g]=[g]from by simp,f2];exact hvs.2.2.2
  ·intro e w' hm;rw[f1,f2]at hm;exact Zl1.rests hm hu hG hF (fun z hz=>by simp at hz;subst hz;exact hysz)
 ·obtain⟨m,cs,S,F',ov,Fo,h1,_⟩:=h;exact h1.wd.len
 ·obtain⟨m,cs,S,F',ov,Fo,h1,h8,h9,h10,h11,hz,hO,hs,hq,hm,hFo⟩:=h;refine(Z3o h1 (by simp) (seen:=0) (now:=fs.length) (sN:=2 ^ fs.length - 1) ⟨rfl⟩ (by omega) (by omega) (Zjv _ hl) (Zgz _ hl).1 h8 h9 (Zgz _ hl).2 (fun k hk hm z hz=>by simp at hz;subst hz;exact ha k hk hm) (fun k hk hm z hz=>by simp at hz;subst hz;exact ha1 k hk hm) hfit hfit1 hbn hn1 hnl hm0 (hz _ (by omega) (by omega))).mono ?_;rintro e w' ⟨rfl,ov',Fo',hc,ho,hs'⟩;have hlt:=h1.bd.lt;have hsz:=h1.rd.sz;rw[hbf]at hc;refine⟨rfl,m,_,S,F',ov',Fo',hc,?_,?_,?_,?_,?_,hO.trans ho fun i hi=> .inr ?_,hs,hq,hm,fun i hi=>(hs' i hi).elim (hFo i) fun h=>Ydc hO.size h⟩
  ·rw[Ydd,if_neg (by omega),Ydd,if_neg (by omega),Ydd,if_pos rfl,if_pos (by omega)]
  ·rw[Ydd,if_neg (by omega),Ydd,if_pos rfl,if_pos (by simp;omega)]
  ·rw[Ydd,if_neg (by omega),Ydd,if_neg (by omega),Ydd,if_neg (by omega)];exact h10
  ·rw[Ydd,if_neg (by omega),Ydd,if_neg (by omega),Ydd,if_neg (by omega)];exact h11
  ·dsimp only;rw[Ydd,if_pos rfl,if_pos (by simp;omega)]
  ·simp only[Ydj]at hi;rcases hi with rfl | rfl | hi
   ·exact hq
   ·exact hm
   ·exact hFo i hi
 ·obtain⟨m,cs,S,F',ov,Fo,h1,_⟩:=h;exact Zju h1 (by simp) fun z hz=>by simp at hz;subst hz;exact ha0
 ·obtain⟨m,cs,S,F',ov,Fo,h1,_,_,_,_,hz,_⟩:=h;exact Z3c h1 fit fit1 0 0 hfl hfl1 hbn hz hb8 hb2
 ·rintro e w' ⟨rfl,q,m,cs,S,F',ov,Fo,h1,_,_,_,_,_,hO,hs,_⟩;exact⟨rfl,F',h1.wd,hO,hs⟩
end
end Go.P
namespace Go.W
def fs3:List (ByteArray×Nat):=fs2++[(Z77,1)]
end Go.W
namespace Go.P
variable {w:World}{o:Nat}
section
variable {w:World} {B D p:Nat} {F:List Nat} {hn:ByteArray} {pt pb pg:Option Addr} {ct cb cg:Nat}
theorem Z2r (h:Zd3 w p fs3 vs2 F)(hG:Zpg w)(hF: ∀ i,i∈F->23<=i)(hFB: ∀ i,i∈F->B<=i)(hB:B<=w.heap.size)(hb:Zan 2 (Zbb B w (D+2)) pb Z4j.body)(hg:Zan 9 (Zct B w (D+2)) pg Z4j.guards):
  Calls prog 191 #[.pointer (some ⟨p,0,none⟩),.agg #[.string hn,.slice pt 0 ct,.slice pb 2 cb,.slice pg 1 cg]] w fun e w'=>e= .returned (.bool true)/\Off F w w':=by
 refine(Z1x (v1:=vs2) (v2:=vs2) (v3:=vs2) (v4:=vs2++[dN 5]) (x:=(Z77,(⟨#[]⟩,1))) (x1:=(Z3y,(⟨#[116]⟩,0))) (y:=(3,(⟨#[116]⟩,0),(⟨#[]⟩,2))) (op:=3) (fit:=4) (fit1:=1) (n:=2) (b:=1) (n1:=0) (r1:=[]) h hG hF hFB hB hb hg ⟨rfl,rfl⟩ ⟨by kernel_rfl,by kernel_rfl,by kernel_rfl,by kernel_rfl⟩ rfl (by kernel_rfl) (by kernel_rfl) (by kernel_rfl) (by kernel_rfl) (by decide) (by kernel_rfl) (by kernel_rfl) (by kernel_rfl) (by decide) (by rw[Yd3];decide) (by rw[Yd3];decide) (by decide) ?_ ?_ ⟨rfl,.inl (by decide)⟩ (by kernel_rfl) (by kernel_rfl) (by decide) (by decide) (by decide) (by kernel_rfl) (by kernel_rfl) (by decide)).mono ?_
 ·intro k hk hm
  have:k=0\/k=1\/k=2:=by have:=Zcp hk;omega
  rcases this with rfl | rfl | rfl
  ·exact absurd hm (by decide)
  ·exact absurd hm (by decide)
  ·exact⟨rfl,.inl (by decide)⟩
 ·intro k hk hm
  have:k=0\/k=1\/k=2:=by have:=Zcp hk;omega
  rcases this with rfl | rfl | rfl
  ·exact⟨rfl,.inr (.inr ⟨dN 4,dN 5,by kernel_rfl,by kernel_rfl,rfl,rfl,by decide⟩)⟩
  ·exact absurd hm (by decide)
  ·exact absurd hm (by decide)
 ·rintro e w' ⟨rfl,F',_,ho,_⟩;exact⟨rfl,ho⟩
theorem Z9r (h:Zd3 w p fs3 vs2 F)(hG:Zpg w)(hF: ∀ i,i∈F->23<=i)(hFB: ∀ i,i∈F->B<=i)(hB:B<=w.heap.size)(hb:Zan 2 (Zbb B w (D+2)) pb Yck.body):
  Calls prog 191 #[.pointer (some ⟨p,0,none⟩),.agg #[.string hn,.slice pt 0 ct,.slice pb 1 cb,.slice pg 0 cg]] w fun e w'=>e= .returned (.bool true)/\Off F w w':=by
 refine(Z1w (fit:=4) (n:=2) (r:=[]) h hG hF hFB hB hb rfl (by kernel_rfl) (by decide) (by decide) (by rw[Yd3];decide) (by decide) (by kernel_rfl) (by decide) (by decide)).mono ?_;rintro e w' ⟨rfl,F',_,ho,_⟩;exact⟨rfl,ho⟩
end
theorem Zd3.self {p:Nat}{fs:List (ByteArray×Nat)}{vs:List T}{F:List Nat}(h:Zd3 w p fs vs F):p∈F:=by
 obtain⟨k,r,fv,vv,Ff,Fv,h⟩:=h;rw[h.own];simp
def Ycx (c g p1 p2:Nat) (u:World):Prop:=(u.cell? ⟨g,0,none⟩=some (.pointer (some ⟨p1,0,none⟩))/\u.cell? ⟨g,1,none⟩=some (.pointer (some ⟨p2,0,none⟩)))/\ ∃ F1 F2,Zd3 u p1 fs3 vs2 F1/\Zd3 u p2 fs3 vs2 F2/\(∀ i,i∈F1->c<=i/\i∉F2)/\(∀ i,i∈F2->c<=i)/\g∉F2
def Ycy (c g p1:Nat) (u:World):Prop:=u.cell? ⟨g,0,none⟩=some (.pointer (some ⟨p1,0,none⟩))/\ ∃ F1,Zd3 u p1 fs3 vs2 F1/\ ∀ i,i∈F1->c<=i
theorem Z2q {u v:World}{g:Nat}{x:Value}(h:u.cell? ⟨g,o,none⟩=some x)(hb:v.heap[g]?=u.heap[g]?):v.cell? ⟨g,o,none⟩=some x:=(Yde (a:=⟨g,o,none⟩) hb).trans h
theorem Zv2 (hG:Zpg w){B D:Nat}(hB:B<=w.heap.size){b c:Nat}(hc:2<=c)(hb:Zbx B w (D+3) b o bkB)(hb':Zbx B w (D+3) b (o+3) bkC){pp:Option Addr}{cp:Nat}(hp:Zan 2 (Zjt B w (D+3)) pp [⟨true,[Yck]⟩]):
  Calls prog 57 #[.slice (some ⟨b,o,none⟩) 2 c,.agg #[.int .i64 4,.slice none 0 0,.slice none 0 0],.slice pp 1 cp] w fun e w'=>e= .returned (.int .i64 6)/\Below w.heap.size w w':=by
 obtain⟨_,⟨_,k0,p0,c0,rfl,l0,r0⟩,⟨_,k1,p1,c1,rfl,l1,r1⟩,_,k2,p2,c2,rfl,l2,r2⟩:=hb;obtain⟨_,⟨_,k3,p3,c3,rfl,l3,r3⟩,⟨_,k4,p4,c4,rfl,l4,r4⟩,_,k5,p5,c5,rfl,l5,r5⟩:=hb';have gl: ∀ u,Below w.heap.size w u->Zpg u:=fun u hu=>hG.same hu.size fun k hk=>hu.block k (by have:=hG.2.2;omega);have hgw:=hG.2.2;refine Zz6 k0 k1 k2 k3 k4 k5 (K1:=fun g p1 p2 u=>Ycx w.heap.size g p1 p2 u) (K2:=fun g p1 _ u=>Ycy w.heap.size g p1 u) (fun _ _ _ _ h=>h.1) (fun _ _ _ _ h=>h.1) ?_ ?_ (fun u hu=>?_) ?_ ?_
 ·rintro g p1 p2 u v ⟨⟨h0,h1⟩,F1,F2,q1,q2,q3⟩ hv;exact⟨⟨Zab h0 hv,Zab h1 hv⟩,F1,F2,q1.of hv.size fun k hk=>hv.block k (q1.lt k hk),q2.of hv.size fun k hk=>hv.block k (q2.lt k hk),q3⟩
 ·rintro g p1 p2 u v ⟨h0,F1,q1,q3⟩ hv;exact⟨Zab h0 hv,F1,q1.of hv.size fun k hk=>hv.block k (q1.lt k hk),q3⟩
 ·have hcr:=Go.W.Below.carry (hu.mono hB) lr;have hlb:=Zbi k0;have kk: ∀ {j x},w.cell? ⟨b,j,none⟩=some x->u.cell? ⟨b,j,none⟩=some x:=fun h=>Z2q h (hu.block b hlb);refine(Z1z (gl u hu) (Ydc hB hu.size) (kk k0) (kk k1) (kk k2) (kk k3) (kk k4) (kk k5) hc (r0.carry fun _ _ _ q=>q.carry hcr lr) (r1.carry fun _ _ _ q=>q.carry hcr lr)).mono ?_;rintro e w' ⟨g,p1,p2,cw,n,m,z,rfl,hcl,⟨F1,F2,q1,q2,q3,q4⟩,hnm,hmz,hg,hgl,hbw⟩;have hus:=hu.size;have hn:=(q3 _ q1.self).2;have hn':=(q3 _ q1.self).1;exact⟨g,p1,p2,cw,rfl,⟨hcl,F1,F2,q1,q2,fun i hi=>⟨by have:=q3 i hi;omega,fun h=>by have:=q3 i hi;have:=q4 i h;omega⟩,fun i hi=>by have:=q4 i hi;omega,fun h=>by have:=q4 g h;omega⟩,hu.trans (hbw.mono hus)⟩
 ·rintro g q1 q2 u ⟨⟨g0,_⟩,F1,F2,w1,w2,d1,d2,dg⟩ hu;have hcr:=Go.W.Below.carry (hu.mono hB) lr;obtain⟨b5,o5,rfl,hC⟩:=Zmi r5;obtain⟨_,_,y0,p6,c6,rfl,l6,r6⟩:=hC.carry hcr lr;obtain⟨b6,o6,rfl,hR⟩:=Zmi r6;refine Z00 y0 fun v hv=>?_;have hcv:=Go.W.Below.carry (hv.mono (Ydc hB hu.size)) lr;have huv:Below w.heap.size w v:=hu.trans (hv.mono hu.size);have hR:=hR.carry hcv lr;obtain⟨_,p7,c7,p8,c8,p9,c9,z0,z1,z2,z3,_⟩:=hR.vals;obtain⟨_,_,⟨_,e2,p8',c8',rfl,_,r8⟩,_,e3,p9',c9',rfl,_,r9⟩:=hR;cases e2.symm.trans z2;cases e3.symm.trans z3;have w2':=w2.of hv.size fun k hk=>hv.block k (w2.lt k hk);refine Zmc z0 z1 z2 z3 ((Z2r w2' (gl v huv) (fun i hi=>Ydc hgw (d2 i hi)) (fun i hi=>Ydc hB (d2 i hi)) (Ydc hB huv.size) r8 r9).mono ?_);rintro e w' ⟨rfl,ho⟩;have lg:=Zbi g0;have hs:=hv.size;refine⟨rfl,⟨Z2q g0 ((ho.block g (Ydh lg hs) dg).trans (hv.block g lg)),F1,(w1.of hv.size fun k hk=>hv.block k (w1.lt k hk)).off ho fun i hi=>(d1 i hi).2,fun i hi=>(d1 i hi).1⟩,huv.trans (ho.below d2 huv.size)⟩
 ·rintro g q1 q2 u ⟨_,F1,w1,d1⟩ hu;have hcr:=Go.W.Below.carry (hu.mono hB) lr;obtain⟨b5,o5,rfl,hP⟩:=Zmi hp;obtain⟨_,y0,_,y1,p6,c6,rfl,l6,r6⟩:=hP.carry hcr lr;obtain⟨b6,o6,rfl,hR⟩:=Zmi r6;refine Zzm y0 y1 fun v hv hlt=>?_;have hcv:=Go.W.Below.carry (hv.mono (Ydc hB hu.size)) lr;have huv:Below w.heap.size w v:=hu.trans (hv.mono hu.size);have hR:=hR.carry hcv lr;obtain⟨_,p7,c7,p8,c8,p9,c9,z0,z1,z2,z3,_⟩:=hR.vals;obtain⟨_,_,⟨_,e2,p8',c8',rfl,_,r8⟩,_⟩:=hR;cases e2.symm.trans z2;have w1':=w1.of hv.size fun k hk=>hv.block k (w1.lt k hk);refine Zmc z0 z1 z2 z3 ((Z9r w1' (gl v huv) (fun i hi=>Ydc hgw (d1 i hi)) (fun i hi=>Ydc hB (d1 i hi)) (Ydc hB huv.size) r8).mono ?_);rintro e w' ⟨rfl,ho⟩;exact⟨rfl,huv.trans (ho.below d1 huv.size),ho.block _ hlt fun h=>by have:=w1.lt _ h;omega⟩
end Go.P
namespace Go.W
variable {w:World}{vs:List Value}{F:List Nat}
def Zvj (W0:World) (D:Nat):Zgj Bk:=fun _ vs x F=>F=[]/\Zbd W0.heap.size W0 D vs x
theorem Zvj.stable (W0:World)(D:Nat):Zc3 (Zvj W0 D):=fun _ _ _ _ _ h _=>h
theorem Zvj.one {W0:World}{D:Nat}{x:Bk}(h:Zvj W0 D w vs x F): ∀ u,u∈vs->u.oneCell'=true:=by
 obtain⟨_,p,c,p',c',p2,c2,rfl,_⟩:=h;intro u hu;simp at hu;rcases hu with rfl | rfl | rfl <;> rfl
def Yam (W0:World) (b o:Nat) (y:ByteArray×Bk):Prop:=b < W0.heap.size/\y.1.size < 1000000000/\ ∃ p c p' c' p2 c2,W0.cell? ⟨b,o,none⟩=some (.string y.1)/\W0.cell? ⟨b,o+1,none⟩=some (.slice p y.2.facts.length c)/\W0.cell? ⟨b,o+2,none⟩=some (.slice p' y.2.rules.length c')/\W0.cell? ⟨b,o+3,none⟩=some (.slice p2 y.2.checks.length c2)/\Zbd W0.heap.size W0 3 [.slice p y.2.facts.length c,.slice p' y.2.rules.length c',.slice p2 y.2.checks.length c2] y.2
def Zji:Zgj ByteArray:=fun _ vs x F=>F=[]/\vs=[.string x]
theorem Zji.stable:Zc3 Zji:=fun _ _ _ _ _ h _=>h
theorem Zji.one {x:ByteArray}(h:Zji w vs x F): ∀ u,u∈vs->u.oneCell'=true:=by
 obtain⟨_,rfl⟩:=h;intro u hu;simp at hu;subst hu;rfl
end Go.W
namespace Go.P
variable {e:TypeId}{w:World}{v:Value}{xs:List (ByteArray×Bk)}{F:List Nat}
theorem Zyl (h:Zag e 4 (Zex Zad 4) w v xs F)(hF: ∀ k,k∈F->k < w.heap.size):Zlk 4 (Yam w) v xs:=h.rowOf hF fun b o vs x G hc hb hG hq=>by
 obtain⟨vb,rfl,hx,hbo⟩:=hq;have hS:=Zbj.toS hbo hG;obtain⟨p,c,p',c',p2,c2,rfl⟩:=Zbj.vals hbo;exact⟨hb,hx,p,c,p',c',p2,c2,hc 0 (by omega),hc 1 (by omega),hc 2 (by omega),hc 3 (by omega),hS⟩
theorem Zqx {u:World}{p:Option Addr}(h:Zan 4 (Yam w) p xs)(hb:Below w.heap.size w u):Zan 4 (Zgv w.heap.size u) p (xs.map (·.1)):=⟨by simpa using h.len,fun i x hx=>by
 rw[Yd5]at hx;obtain⟨y,hy,rfl⟩:=Yd0.1 hx;obtain⟨b,o,hp,hl,hs,p1,c1,p2,c2,p3,c3,k0,k1,k2,k3,_⟩:=h.at_ i y hy;have cc:=fun o=>hb.cell (p:=⟨b,o,none⟩) hl;exact⟨b,o,hp,hl,hs,p1,_,c1,p2,_,c2,p3,_,c3,(cc _).trans k0,(cc _).trans k1,(cc _).trans k2,(cc _).trans k3⟩⟩
theorem Zrd (T0:List UInt8)(ts:List ByteArray):(T0::Zf4 T0 ts)[ts.length]?=some (Zk2 T0 ts):=by
 cases ts with
 | nil=>rfl
 | cons z zs=>
  rw[Ydp,List.getElem?_cons_succ,Zk3 _ _ _ (by simp)];rw[Yd9 (by simp)]
theorem Z44 {xs:List (List UInt8)}(h:Zag e 32 Zxt w v xs F)(hF: ∀ k,k∈F->k < w.heap.size):Zlk 32 (fun b o x=>b < w.heap.size/\x.length=32/\w.rangeAt b o (Lib.byteCells x)) v xs:=h.rowOf hF fun b o vs x G hc hb hG hq=>by
 obtain⟨_,hx,rfl⟩:=hq;refine⟨hb,hx,fun j u hj=>?_⟩;have hl:j < 32:=by have:=(Ydl.1 hj).1;rw[Lib.byteCells_length,hx]at this;exact this
 exact(hc j hl).trans hj
theorem Z6h:(prog.info? 45).map (fun i=>(i.zero,i.size,i.bytes))=some (some (.agg #[.slice none 0 0,.slice none 0 0,.slice none 0 0]),3,72):=by kernel_rfl
theorem Zx5:Zdw prog 33 45 3 72:=by
 obtain⟨i0,hi,hz0,hz1,hz2⟩:=info_parts Z6h;exact⟨i0,_,underlying33,hi,hz0,hz1,hz2,rfl,by decide,by decide⟩
theorem Zry:Zdw prog 32 9 1 16:=by
 obtain⟨i0,hi,hz0,hz1,hz2⟩:=info_parts Zsa;exact⟨i0,_,underlying32,hi,hz0,hz1,hz2,rfl,by decide,by decide⟩
theorem Zix {L off:Nat}{xs:List UInt8}(h:w.rangeAt L off (Lib.byteCells xs))(n:Nat)(hn:n=xs.length){cap:Nat}:
  (convert 74 9 (.slice (some ⟨L,off,none⟩) n cap)).run prog w= .ok (.string ⟨xs.toArray⟩) w:=by
 subst hn;refine Yfp (P:=prog) w 74 9 5 ⟨L,off,none⟩ cap xs underlying74 underlying5 underlying9 (fun j hj=>?_);have e1:(⟨L,off,none⟩:Addr).add j=⟨L,off+j,none⟩:=Addr.add_lit _ _ _;rw[e1];exact h j _ (by simp[Lib.byteCells,Ydi hj])
def Yat (w2 w5:World) (xs:List Bk) (ids:List ByteArray) (iv bv dv:Value) (wr:World):Prop:= ∃ (k:Nat) (F1 F2:List Nat),k<=xs.length/\iv= .int .i64 (k:Int)/\Zag 45 3 (Zvj w2 3) wr bv (xs.take k) F1/\Zag 9 1 Zji wr dv (ids.take k) F2/\Za7 w5.heap.size wr F1/\Za7 w5.heap.size wr F2/\(∀ j,j∈F1->j∉F2)/\Below w5.heap.size w5 wr
end Go.P
namespace Go.P
variable {L b o c:Nat}{ids:List ByteArray}{w:World}
theorem Z89 (t:TypeId)(v:Value)(w:World):(binOp .eql 62 .nilIface (.iface t v)).run prog w= .ok (.bool false) w:=by kernel_rfl
theorem Ybj (t:TypeId)(v:Value)(w:World):Calls prog 37 #[.nilIface,.iface t v] w fun e w'=>e= .returned (.bool false)/\w'=w:=by
 have h:=Z89 t v w;go_in
 go_wp2
 go_ret
 exact⟨rfl,rfl⟩
theorem Z0n (s:ByteArray)(w:World):Calls prog 147 #[.slice none 0 0,.string s] w fun e w'=>e= .returned (.int .i64 (-1))/\w'=w:=by
 go_in
 go_wp2
 go_loopw [8] (fun iv wr=>iv= .int .i64 0/\wr=w) (fun _ _=>0)
 case atStart=>exact⟨rfl,rfl⟩
 case round=>
  obtain⟨rfl,hw⟩:=hrel;obtain rfl:=hw.symm;go_wp2
  go_ret
  exact⟨rfl,rfl⟩
theorem Zrw (s:ByteArray)(w:World):Calls prog 100 #[.slice none 0 0,.string s] w fun e w'=>e= .returned (.bool false)/\w'=w:=by
 have C:=Zaa (Z0n s w);go_in
 go_wp2_with fail
 refine mq C.out ?_;rintro w' rfl;go_wp2
 go_ret
 exact⟨rfl,rfl⟩
theorem Zsm (s:ByteArray)(L:Nat)(w:World)(hc:w.cell? ⟨L,0,none⟩=some (.slice none 0 0)):Calls prog 99 #[.string s,.pointer (some ⟨L,0,none⟩)] w fun e w'=>e= .returned (.bool false)/\w'=w:=by
 have C:=Zaa (Zrw s w);go_in
 go_wp2_with fail
 refine mq C.out ?_;rintro w' rfl;go_wp2
 go_ret
 exact⟨rfl,rfl⟩
theorem Zpx (hr: ∀ i t,ids[i]?=some t->w.cell? ⟨b,o+i,none⟩=some (.string t))(hl:ids.length < 1000000)(hc:w.cell? ⟨L,0,none⟩=some (.slice none 0 0)):Calls prog 146 #[.slice (some ⟨b,o,none⟩) ids.length c,.func (.func 99) #[] #[.pointer (some ⟨L,0,none⟩)]] w fun e w'=>e= .returned (.int .i64 (-1))/\w'=w:=by
 have hen: ∀ args w,(callFunc 99 args).run prog w= .ok (.enter 99 args) w:=Zam func99 (by kernel_rfl) rfl;obtain⟨n,hn⟩: ∃ n,Box (ids.length=n):=⟨_,⟨rfl⟩⟩;rw[hn.out]at hl⊢;have HR:=Zaa hr;clear hr;go_in
 go_wp2
 go_loopw [8] (fun iv wr=> ∃ k:Nat,k<=n/\iv= .int .i64 (k:Int)/\wr=w) (fun iv _=>n - (intOf iv).toNat)
 case atStart=>exact⟨0,Yej _,rfl,rfl⟩
 case round=>
  obtain⟨k,hk,rfl,hw⟩:=hrel;obtain rfl:=hw.symm;by_cases hlt:k < n
  ·have g:(k:Int) < (n:Int):=by omega
   obtain⟨t,ht⟩: ∃ t,ids[k]?=some t:=⟨ids[k]'(by have:=hn.out;omega),Ydi _⟩;have z0:=HR.out k t ht;have C:=Zaa (Zsm t L w hc);clear ht;go_wp2_with fail
   refine mq C.out ?_;rintro w' rfl;go_wp2
   exact⟨⟨k+1,by omega,by simp,by trivial⟩,by simp[intOf];omega⟩
  ·obtain rfl:k=n:=by omega
   go_wp2
   go_ret
   exact⟨rfl,rfl⟩
theorem Zlm (hr: ∀ i t,ids[i]?=some t->w.cell? ⟨b,o+i,none⟩=some (.string t))(hl:ids.length < 1000000)(hc:w.cell? ⟨L,0,none⟩=some (.slice none 0 0)):Calls prog 98 #[.slice (some ⟨b,o,none⟩) ids.length c,.func (.func 99) #[] #[.pointer (some ⟨L,0,none⟩)]] w fun e w'=>e= .returned (.bool false)/\w'=w:=by
 have C:=Zaa (Zpx (c:=c) hr hl hc);clear hr;go_in
 go_wp2_with fail
 refine mq C.out ?_;rintro w' rfl;go_wp2
 go_ret
 exact⟨rfl,rfl⟩
theorem Zpy (hb:b < w.heap.size)(hr: ∀ i t,ids[i]?=some t->w.cell? ⟨b,o+i,none⟩=some (.string t))(hl:ids.length < 1000000):Calls prog 56 #[.slice (some ⟨b,o,none⟩) ids.length c,.slice none 0 0] w fun e w'=>e= .returned (.bool false)/\Below w.heap.size w w':=by
 have hmf:=Zgm;have B0:=(Ydb w.heap.size w).alloc lr (.cells #[.slice none 0 0] 32);have C:=Zaa (Zlm (L:=w.heap.size) (c:=c) (w:=w.alloc (.cells #[.slice none 0 0] 32)) (ids:=ids) (fun i t hi=>(B0.cell (p:=⟨b,o+i,none⟩) hb).trans (hr i t hi)) hl ((Blk.new w #[.slice none 0 0] 32).cell 0));clear hr;go_in
 go_wp2_with fail
 refine mq C.out ?_;rintro w' rfl;go_wp2
 go_ret
 exact⟨rfl,B0⟩
end Go.P
namespace Go.P
variable {p:Option Addr}{c:Nat}
section
variable {a:Nat->Addr} {B D:Nat} {w:World} {x:Pol}
theorem Zve (V:Zav){vs:List Value}(Z:Zao a w)(hB:B<=w.heap.size)(hS:Yaa B w D vs x):
  Calls prog 97 #[.agg vs.toArray] w (Zde a (Zba x.either) w):=by
 obtain⟨p,c,rfl,_,hr⟩:=hS;have C1:=Zaa (fun u (hu:Below w.heap.size w u)=>Zi4 V (c:=c) (Z.below hu) (Ydc hB hu.size) (hr.carry fun _ _ _ r=>r.carry (Za4 hu hB) lr));have B0:=Zaa ((Ydb w.heap.size w).alloc lr (.cells #[.bool x.allow,.slice p x.either.length c] 187));clear hr Z;go_in
 go_wp2_with fail
 refine(C1.out _ B0.out).mono ?_;rintro e w1 ⟨rfl,hb⟩;go_wp2
 go_ret
 exact⟨rfl,B0.out.trans (hb.mono B0.out.size)⟩
theorem Zt2 (V:Zav)(Z:Zao a w)(hB:B<=w.heap.size)(hp:Zan 2 (Zjt B w (D+1)) p [x])(hx:Zba x.either=0):
  Calls prog 145 #[.slice p 1 c,.func (.func 97) #[] #[]] w (Zde a 0 w):=by
 have hen: ∀ args w,(callFunc 97 args).run prog w= .ok (.enter 97 args) w:=Zam func97 (by kernel_rfl) rfl;obtain⟨b,o,rfl,hq⟩:=hp.at_ 0 x rfl;obtain⟨_,p1,c1,k0,k1,hS⟩:=hq.vals;simp only[Yex,Yey]at k0 k1;have B0:=Zaa ((Ydb w.heap.size w).alloc lr (.cells #[.bool x.allow,.slice p1 x.either.length c1] 187));have C:=Zaa (Zve V (Z.below B0.out) (Ydc hB B0.out.size) (Yaa.carry hS (Za4 B0.out hB)));rw[hx]at C;clear hp hS hq Z;go_in
 go_wp2
 refine Ye7 2 ?_;rw[Ye5];go_wp2_with fail
 refine mq C.out ?_;rintro w1 hb;have B1:=tr B0 hb;clear hb;rw[Za0];go_wp2_with fail
 rw[Ye5];go_wp2
 go_ret
 exact⟨rfl,B1.out⟩
theorem Z64 (V:Zav)(Z:Zao a w)(hB:B<=w.heap.size)(hp:Zan 2 (Zjt B w (D+1)) p [x])(hx:Zba x.either=0):
  Calls prog 55 #[.slice p 1 c] w (Zde a 0 w):=by
 have C:Box (Calls prog 96 #[.slice p 1 c,.int .i64 24,.func (.func 97) #[] #[]] w (Zde a 0 w)):=⟨by
  have C:=Zaa (Zt2 (c:=c) V Z hB hp hx);clear hp Z;go_in
  go_wp2_with fail
  refine mq C.out ?_;rintro w1 hb;go_wp2
  go_ret
  exact⟨rfl,hb⟩⟩
 clear hp Z;go_in
 go_wp2_with fail
 refine mq C.out ?_;rintro w1 hb;go_wp2
 go_ret
 exact⟨rfl,hb⟩
end
end Go.P
namespace Go.P
theorem Zs9 {a:Nat->Addr}{w:World}{clk v:Int}{key text:ByteArray}{pl:Value}{J:Value->Value->World->Prop}(Z:Zao a w)
  (CB: ∀ u,Below w.heap.size w u->Calls prog 54 #[.agg #[.slice none 0 0,.slice none 0 0,.slice none 0 0]] u (Zde a 0 u))
  (CP: ∀ u,Below w.heap.size w u->Calls prog 55 #[pl] u (Zde a 0 u))
  (CV: ∀ u,Below w.heap.size w u->Calls prog 22 #[.string key,.string text] u fun e w'=> ∃ v1 v2,e= .returned (.tuple #[v1,v2,.nilIface])/\J v1 v2 w'/\Below u.heap.size u w')
  (CR: ∀ v1 v2 u,J v1 v2 u->Below w.heap.size w u->Calls prog 56 #[v2,.slice none 0 0] u fun e w'=>e= .returned (.bool false)/\J v1 v2 w'/\Below u.heap.size u w')
  (CD: ∀ v1 v2 u,J v1 v2 u->Below w.heap.size w u->Calls prog 57 #[v1,.agg #[.int .i64 clk,.slice none 0 0,.slice none 0 0],pl] u fun e w'=>e= .returned (.int .i64 v)/\Below u.heap.size u w'):
  Calls prog 33 #[.string key,.string text,.agg #[.int .i64 clk,.slice none 0 0,.slice none 0 0],pl] w fun e w'=>e= .returned (.tuple #[.int .i64 v,.nilIface])/\Below w.heap.size w w':=by
 have HB:=Zaa CB;have HP:=Zaa CP;have HV:=Zaa CV;have HR:=Zaa CR;have HD:=Zaa CD;have HZ:=Zaa Z;clear CB CP CV CR CD Z;go_in
 go_wp2_with fail
 obtain⟨W2,hW2⟩: ∃ W2,Box ((w.alloc (.cells #[.int .i64 clk,.slice none 0 0,.slice none 0 0] 60)).alloc (.cells #[.slice none 0 0,.slice none 0 0,.slice none 0 0] 45)=W2):=⟨_,⟨rfl⟩⟩;rw[hW2.out];have B2:Below w.heap.size w W2:=hW2.out▸((Ydb _ w).alloc lr _).alloc (by simp) _;have NQ:Blk W2 w.heap.size #[.int .i64 clk,.slice none 0 0,.slice none 0 0] 60:=hW2.out▸(Blk.new w _ _).alloc _;have HQ:Box (∀ u,Below W2.heap.size W2 u->u.cell? ⟨w.heap.size,0,none⟩=some (.int .i64 clk)/\u.cell? ⟨w.heap.size,1,none⟩=some (.slice none 0 0)/\u.cell? ⟨w.heap.size,2,none⟩=some (.slice none 0 0)/\Below w.heap.size w u):=⟨fun u hu=>by
  have q:=(NQ.of (hu.block _ NQ.lt)).three;exact⟨q.1,q.2.1,q.2.2.1,B2.trans (hu.mono B2.size)⟩⟩
 clear hW2 NQ;refine(HB.out _ B2).mono ?_;rintro e w3 ⟨rfl,hb3⟩;have B3:=Zaa hb3;clear hb3 B2;rw[Za0];go_wp2_with fail
 refine(HP.out _ (HQ.out _ B3.out).2.2.2).mono ?_;rintro e w4 ⟨rfl,hb4⟩;have B4:=tr B3 hb4;clear hb4 B3;rw[Za0];go_wp2_with fail
 refine(HV.out _ (HQ.out _ B4.out).2.2.2).mono ?_;rintro e w5 ⟨v1,v2,rfl,j5,hb5⟩;have B5:=tr B4 hb5;have HJ:=Zaa j5;have z10:=(HZ.out.below (HQ.out _ B5.out).2.2.2).c10;rw[Zaf _ (by decide)]at z10;have HI:=fun(t:TypeId) (v:Value)=>Ybj t v w5;obtain⟨q0,q1,q2,_⟩:=HQ.out _ B5.out;clear hb5 B4 j5;go_wp2_with fail
 refine(HI _ _).mono ?_;rintro e w6 ⟨rfl,rfl⟩;go_wp2_with fail
 refine(HR.out _ _ _ HJ.out (HQ.out _ B5.out).2.2.2).mono ?_;rintro e w7 ⟨rfl,j7,hb7⟩;have B7:=tr B5 hb7;have HJ7:=Zaa j7;obtain⟨r0,r1,r2,_⟩:=HQ.out _ B7.out;clear hb7 j7 q0 q1 q2 z10 B5 HJ;go_wp2_with fail
 refine(HD.out _ _ _ HJ7.out (HQ.out _ B7.out).2.2.2).mono ?_;rintro e w8 ⟨rfl,hb8⟩;have B8:=tr B7 hb8;clear hb8;go_wp2
 go_ret2
 exact⟨rfl,(HQ.out _ B8.out).2.2.2⟩
end Go.P
