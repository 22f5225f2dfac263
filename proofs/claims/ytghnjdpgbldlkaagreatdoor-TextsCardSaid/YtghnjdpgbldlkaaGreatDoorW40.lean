import Derived.Test.YtghnjdpgbldlkaaGreatDoorW39
set_option linter.defProp false
set_option maxRecDepth 100000
set_option maxHeartbeats 8000000
set_option linter.unusedSimpArgs false
open Go.Proofs Go.RowKit Go.W Tryz
namespace Go.P
open Go.RowKit Go.W Go.Shelf
variable {w:World}
attribute [local go_sem] MZ
def Z1i {P:Program}{c:Code}{Q:Exit->Act->World->Prop}{a:Act}(h:c.wp P (Exit.then (fun a w=>Q .normal a w) fun _ _ _=>False) a w):c.wp P Q a w:=tX _ h fun _ _ h=>h
def Z50 {q p m:Nat}{cs:Array Value}{x x1:Pt}{gs:List Gt}{S:List Nat}{fs:List (ByteArray×Nat)}{vs:List T}{F:List Nat}{ov:Value}{Fo:List Nat}(h:Ctx w q p m cs [x,x1] gs S fs vs F [] ov Fo)(hl:gs.length<=1){seen now sN fit Bn n:Nat}(h0:AC (seen=0))(MB:seen<=60)(hno:now<=60)(qK:bits BinOp.andNot IntKind.u64 ((2 ^ now-1:Nat):Int) ((2 ^ seen-1:Nat):Int)=(sN:Int))(RN:sN<8)(c8:cs[8]?=some (.int .u64 0))(c9:cs[9]?=some (.int .u64 0))(hb: ∀ n,n∈BR sN->n<fs.length)(ha: ∀ n,n∈BR sN->(GU [] x.1 x.2<|fs.getD n (⟨#[]⟩,0)).1=true-> ∀ y,y∈gs->WJ (GU [] x.1 x.2<|fs.getD n (⟨#[]⟩,0)).2 vs y)(ha1: ∀ n,n∈BR sN->(GU [] x1.1 x1.2<|fs.getD n (⟨#[]⟩,0)).1=true-> ∀ y,y∈gs->WJ (GU [] x1.1 x1.2<|fs.getD n (⟨#[]⟩,0)).2 vs y)(BG:GJ fs x.1 x.2 (BR sN)=fit)(NF:GJ fs x1.1 x1.2 (BR sN)=Bn)(hn:BR fit=[n])(G8: ∀ k,k∈BR Bn->k∈BR sN)(M9:n<fs.length)(aO:(GU [] x.1 x.2<|fs.getD n (⟨#[]⟩,0)).2=[])(cb:cs[12+n*4+1]?=some (.int .u64 0)):
  Calls prog 227 #[.pointer<|Qb q 0,.int .i64 (seen:Int),.int .i64 (now:Int)] w fun e w'=>e= .returned (.tuple #[])/\ ∃ Aw Aj,Ctx w' q p m (((cs.setIfInBounds 8<|.int .u64 (fit:Int)).setIfInBounds 9<|.int .u64 (Bn:Int)).setIfInBounds (12+n*4+1)<|.int .u64 (GJ fs x1.1 x1.2 (BR Bn):Int)) [x,x1] gs S fs vs F [] Aw Aj/\Off (q::m::Fo) w w'/\ ∀ i,i∈Aj->i∈Fo\/w.heap.size<=i:=by
 obtain⟨pa,ca,c3,hA⟩:=h.rd.atoms;obtain⟨ga,g,c,rfl,EZ,TG,a1,Vo,Md⟩:=hA 0 x rfl;obtain⟨ga',g1,c1,e1,_,fH,a2,a2',VP⟩:=hA 1 x1 rfl;injection e1 with e1;injection e1 with e1;subst e1;have IZ:fit<8:=BG▸Uu _ _ _ fun k hk=>Nq hk;have TH:Bn<8:=NF▸Uu _ _ _ fun k hk=>Nq hk;have kP:=QA fit IZ;have hor1:=QA Bn TH;simp only[BO,D7,Hr,Ol,Nat.reduceAdd,Nat.one_mul]at a1 Vo a2 a2' c3;have q3:=(h.cell 3 zx).trans c3;have lM:AC (cs.size=972):=⟨h.rd.sz⟩;have Dv:=h.bd.blk.lt;have Kq:=h.rd.lS ga EZ;have CN:=AA<|jH now hno;have CS:=AA<|jH seen MB;have H:=AA h;clear h hA;refine(callsIn_wide (n:=5)).1 ?_;refine callsIn_of_wp_marks func227 rfl trivial ?_ rfl;simp only[ntmps227,E9,BO,D7,Nat.reduceAdd,Nat.reduceSub,Ju,Jv,Jr,Jt,FK,Gm];refine wpIn_wide.2 ?_;obtain⟨W2,hW2⟩: ∃ W2,AC ((w.alloc<|.cells #[.pointer<|Qb q 0] 329).alloc (.cells #[.int .i64 (seen:Int)] 3)=W2):=⟨_,⟨rfl⟩⟩;have B2:AC (Bl w W2):=⟨hW2.out▸((AQ _ w).alloc lr _).alloc zw _⟩;have S2:AC (W2.heap.size=w.heap.size+2):=⟨by rw[<- hW2.out];simp⟩;have L0:AC (AJ W2 w.heap.size #[.pointer<|Qb q 0] 329):=⟨hW2.out▸(AJ.new w _ _).alloc _⟩;have L1:AC (AJ W2 (w.heap.size+1) #[.int .i64 (seen:Int)] 3):=⟨hW2.out▸Jd w _ _ _⟩;have C2:=AA<|H.out.below B2.out;have z1:=(Am (a:=⟨ga,0,none⟩)<|B2.out.block ga Kq).trans a1;have pJ:=(Am (a:=⟨ga,1,none⟩)<|B2.out.block ga Kq).trans Vo;go_wp2_with fail
 rw[hW2.out];refine Dt 3 ?_;rw[A8];go_wp2_with fail
 clear z1 pJ;obtain⟨W3,hW3⟩: ∃ W3,AC (W2.alloc (.cells #[.string x.1,.slice (Qb g 0) 1 c] 323)=W3):=⟨_,⟨rfl⟩⟩;rw[hW3.out];have VJ:AC (Bl W2 W3):=⟨hW3.out▸(AQ _ W2).alloc lr _⟩;have oQ:AC (W3.heap.size=W2.heap.size+1):=⟨by rw[<- hW3.out];simp⟩;have PW3:AC (AJ W3 W2.heap.size #[.string x.1,.slice (Qb g 0) 1 c] 323):=⟨hW3.out▸AJ.new W2 _ _⟩;have CW3:=AA<|(C2.out).below VJ.out;have VF:AC (∀ j,(j=w.heap.size\/j=w.heap.size+1\/j=W2.heap.size)->j<W3.heap.size/\j∉q::m::Fo):=⟨fun j hj=>by
  have e1:=oQ.out;have e2:=L1.out.lt;refine⟨zx,fun h=>?_⟩
  have:=H.out.bd.lt j h
  have e3:=S2.out
  omega⟩
 have KW3:AC (∀ u:World,Off (q::m::Fo) W3 u->u.cell? ⟨w.heap.size,0,none⟩=some (.pointer<|Qb q 0)/\u.cell? ⟨w.heap.size+1,0,none⟩=some (.int .i64 (seen:Int))/\u.cell? ⟨W2.heap.size,0,none⟩=some (.string x.1)/\u.cell? ⟨W2.heap.size,1,none⟩=some (.slice (Qb g 0) 1 c)):=⟨fun u hu=>by
  have e0:=(L0.out.of<|VJ.out.block _ L0.out.lt).of<|hu.block _ (VF.out _<|.inl rfl).1 (VF.out _<|.inl rfl).2;have e1:=(L1.out.of<|VJ.out.block _ L1.out.lt).of<|hu.block _ (VF.out _<|.inr<|.inl rfl).1 (VF.out _<|.inr<|.inl rfl).2;have e2:=PW3.out.of<|hu.block _ (VF.out _<|.inr<|.inr rfl).1 (VF.out _<|.inr<|.inr rfl).2;exact⟨e0.one.1,e1.one.1,e2.two.1,e2.two.2.1⟩⟩
 have QW3:AC (∀ (u:World) ov Fo,Ctx u q p m cs [x,x1] gs S fs vs F [] ov Fo->u.cell? ⟨q,8,none⟩=some (.int .u64 0)):=⟨fun u ov Fo hu=>(hu.cell 8 zx).trans c8⟩;have AV:(W3.drew.cell? ⟨w.heap.size,0,none⟩=some (.pointer<|Qb q 0)/\W3.drew.cell? ⟨w.heap.size+1,0,none⟩=some (.int .i64 (seen:Int))/\W3.drew.cell? ⟨W2.heap.size,0,none⟩=some (.string x.1)/\W3.drew.cell? ⟨W2.heap.size,1,none⟩=some (.slice (Qb g 0) 1 c))/\W3.drew.cell? ⟨q,8,none⟩=some (.int .u64 0):=⟨KW3.out _ (Off.refl _ W3).drew,QW3.out _ _ _<|CW3.out.below (AQ _ W3).drew⟩;have AV:=AF AV.1.1<|AF AV.1.2.1<|AF AV.1.2.2.1<|AF AV.1.2.2.2 AV.2;have yF:=AA<|nO (CW3.out.below (AQ _ W3).drew) hl (c:=c) (((Md.of B2.out.size<|B2.out.block g Md.1)).of (w':=W3.drew) (AU (Below.size VJ.out) lr)<|VJ.out.block g ((Md.of B2.out.size<|B2.out.block g Md.1)).1) TG x.1 sN RN hb ha;rw[BG]at yF;refine Z1i ?_;refine Nv 18 (fun u=>u.cell? ⟨w.heap.size,0,none⟩=some (.pointer<|Qb q 0)/\u.cell? ⟨w.heap.size+1,0,none⟩=some (.int .i64 (seen:Int))/\u.cell? ⟨W2.heap.size,0,none⟩=some (.string x.1)/\u.cell? ⟨W2.heap.size,1,none⟩=some (.slice (Qb g 0) 1 c)/\u.cell? ⟨q,8,none⟩=some (.int .u64 0)) zt ?_;refine tz 0 (.pointer<|Qb q 0) AV (hy:=fun _ ⟨s0,s1,s2,s3,s4⟩=>by go_simp) ?_;try simp only[zz]
 refine tz 1 (.int .i64 0) AV ?_;try simp only[zz]
 refine tz 2 (.pointer<|Qb q 0) AV ?_;try simp only[zz]
 refine tz 3 (.pointer<|Qb q 8) AV ?_;try simp only[zz]
 refine tz 4 (.pointer<|Qb q 8) AV ?_;try simp only[zz]
 refine tz 5 (.int .u64 0) AV (hy:=fun _ ⟨s0,s1,s2,s3,s4⟩=>by go_simp) ?_;try simp only[zz]
 refine tz 6 (.pointer<|Qb q 0) AV (hy:=fun _ ⟨s0,s1,s2,s3,s4⟩=>by go_simp) ?_;try simp only[zz]
 refine tz 7 (.agg #[.string x.1,.slice (Qb g 0) 1 c]) AV (hy:=fun _ ⟨s0,s1,s2,s3,s4⟩=>by go_simp) ?_;try simp only[zz]
 refine tz 8 (.int .i64 (now:Int)) AV ?_;try simp only[zz]
 refine tz 10 (.int .i64 (seen:Int)) AV (hy:=fun _ ⟨s0,s1,s2,s3,s4⟩=>by go_simp) ?_;try simp only[zz]
 refine tf 15 (.pointer<|Qb q 0) AV ?_;try simp only[zz]
 refine tf 16 (.pointer<|Qb q 8) AV ?_;try simp only[zz]
 refine rz 9 (h:=fun K' hK'=>?_);go_simp;refine(CN.out _).mono ?_;rintro e _ ⟨rfl,rfl⟩;refine hK'.out _ _ AV ?_;try simp only[zz]
 refine rz 11 (h:=fun K' hK'=>?_);go_simp;refine(CS.out _).mono ?_;rintro e _ ⟨rfl,rfl⟩;refine hK'.out _ _ AV ?_;try simp only[zz]
 refine tz 12 (.int .u64 (sN:Int)) AV ?_;try simp only[zz]
 refine rz 13 (h:=fun K' hK'=>?_);go_simp;refine yF.out.mono ?_;rintro e w5 ⟨rfl,ovA,FA,kg,qW,YM⟩;have EJ:=KW3.out w5 ((Off.refl _ W3).drew.trans qW fun _ h=> .inl h);have EJ:=AF EJ.1<|AF EJ.2.1<|AF EJ.2.2.1<|AF EJ.2.2.2<|QW3.out _ _ _ kg;have Xx:=kg.bd.blk.soft;refine hK'.out _ _ EJ ?_;try simp only[zz]
 refine tz 14 (.int .u64 (fit:Int)) EJ ?_;try simp only[zz]
 refine rz 17 (h:=fun K' hK'=>?_);go_simp;refine hK'.out _ _ EJ ?_;try simp only[zz]
 have c5:=EJ.2.2.2.2;refine J6 (h:=fun K' hK'=>?_);go_simp;refine hK'.out _ _ ?_;try simp only[zz]
 refine dz (h:=?_);have qQ:=kg.put 8 zx<|.int .u64 (fit:Int);have qN:=((Off.refl _ W3).drew.trans qW fun _ h=> .inl h).set q 8 (.int .u64 (fit:Int)) zw;have WZ: ∀ i,i∈FA->i∈Fo\/W3.heap.size<=i:=YM;obtain⟨VA,hVA⟩: ∃ VA,AC (w5.setCell ⟨q,8,none⟩ (.int .u64 (fit:Int))=VA):=⟨_,⟨rfl⟩⟩;rw[hVA.out]at qQ qN⊢;have HPA:=AA qQ;have Zw:=AA qN;have xe:=AA WZ;clear qQ qN WZ EJ AV Xx c5 kg qW YM yF;have gB:ga∉q::m::Fo/\g1∉q::m::Fo:=⟨fun h=>(H.out.dB ga h).2.1 EZ,fun h=>(H.out.dB g1 h).2.1 fH⟩;have jr: ∀ j,j<w.heap.size->j∉q::m::Fo->VA.heap[j]?=w.heap[j]?:=fun j h1 h2=>(Zw.out.block j (by have:=oQ.out;have:=S2.out;omega) h2).trans ((VJ.out.block j (by have:=S2.out;omega)).trans<|B2.out.block j h1);have og:AC (AJ VA w.heap.size #[.pointer<|Qb q 0] 329):=⟨(L0.out.of<|VJ.out.block _ L0.out.lt).of<|Zw.out.block _ (VF.out _<|.inl rfl).1 (VF.out _<|.inl rfl).2⟩;have jg:AC (AJ VA (w.heap.size+1) #[.int .i64 (seen:Int)] 3):=⟨(L1.out.of<|VJ.out.block _ L1.out.lt).of<|Zw.out.block _ (VF.out _<|.inr<|.inl rfl).1 (VF.out _<|.inr<|.inl rfl).2⟩;have eF:=AA<|VP.of (AU B2.out.size<|AU VJ.out.size Zw.out.size)<|jr g1 VP.1 gB.2;have c9A:(cs.setIfInBounds 8<|.int .u64 (fit:Int))[9]?=some (.int .u64 0):=by rw[Bc,if_neg zx];exact c9
 have z2:=(Am (a:=⟨ga,2,none⟩)<|jr ga Kq gB.1).trans a2;have z3:=(Am (a:=⟨ga,3,none⟩)<|jr ga Kq gB.1).trans a2';clear jr q3;go_wp2_with fail
 rw[A8];go_wp2_with fail
 clear z2 z3;obtain⟨W4,hW4⟩: ∃ W4,AC (VA.alloc (.cells #[.string x1.1,.slice (Qb g1 0) 1 c1] 323)=W4):=⟨_,⟨rfl⟩⟩;rw[hW4.out];have RH:AC (Bl VA W4):=⟨hW4.out▸(AQ _ VA).alloc lr _⟩;have SW4:AC (W4.heap.size=VA.heap.size+1):=⟨by rw[<- hW4.out];simp⟩;have PW4:AC (AJ W4 VA.heap.size #[.string x1.1,.slice (Qb g1 0) 1 c1] 323):=⟨hW4.out▸AJ.new VA _ _⟩;have CW4:=AA<|(HPA.out).below RH.out;have VE:AC (∀ j,(j=w.heap.size\/j=w.heap.size+1\/j=VA.heap.size)->j<W4.heap.size/\j∉q::m::FA):=⟨fun j hj=>by
  have e1:=SW4.out;have e2:=jg.out.lt;refine⟨zx,fun h=>?_⟩;have e3:=oQ.out;have e4:=S2.out;have e5:W3.heap.size<=VA.heap.size:=Zw.out.size;simp only[Be]at h;rcases h with h | h | h
  ·have:=H.out.bd.lt q zw;omega
  ·have:=H.out.bd.lt m zw;omega
  ·have e6:=HPA.out.bd.lt j (by simp[h]);rcases xe.out j h with h | h
   ·have:=H.out.bd.lt j (by simp[h]);omega
   ·omega⟩
 have KW4:AC (∀ u:World,Off (q::m::FA) W4 u->u.cell? ⟨w.heap.size,0,none⟩=some (.pointer<|Qb q 0)/\u.cell? ⟨w.heap.size+1,0,none⟩=some (.int .i64 (seen:Int))/\u.cell? ⟨VA.heap.size,0,none⟩=some (.string x1.1)/\u.cell? ⟨VA.heap.size,1,none⟩=some (.slice (Qb g1 0) 1 c1)):=⟨fun u hu=>by
  have e0:=(og.out.of<|RH.out.block _ og.out.lt).of<|hu.block _ (VE.out _<|.inl rfl).1 (VE.out _<|.inl rfl).2;have e1:=(jg.out.of<|RH.out.block _ jg.out.lt).of<|hu.block _ (VE.out _<|.inr<|.inl rfl).1 (VE.out _<|.inr<|.inl rfl).2;have e2:=PW4.out.of<|hu.block _ (VE.out _<|.inr<|.inr rfl).1 (VE.out _<|.inr<|.inr rfl).2;exact⟨e0.one.1,e1.one.1,e2.two.1,e2.two.2.1⟩⟩
 have QW4:AC (∀ (u:World) ov Fo,Ctx u q p m (cs.setIfInBounds 8<|.int .u64 (fit:Int)) [x,x1] gs S fs vs F [] ov Fo->u.cell? ⟨q,9,none⟩=some (.int .u64 0)):=⟨fun u ov Fo hu=>(hu.cell 9 zx).trans c9A⟩;have AV:(W4.drew.cell? ⟨w.heap.size,0,none⟩=some (.pointer<|Qb q 0)/\W4.drew.cell? ⟨w.heap.size+1,0,none⟩=some (.int .i64 (seen:Int))/\W4.drew.cell? ⟨VA.heap.size,0,none⟩=some (.string x1.1)/\W4.drew.cell? ⟨VA.heap.size,1,none⟩=some (.slice (Qb g1 0) 1 c1))/\W4.drew.cell? ⟨q,9,none⟩=some (.int .u64 0):=⟨KW4.out _ (Off.refl _ W4).drew,QW4.out _ _ _<|CW4.out.below (AQ _ W4).drew⟩;have AV:=AF AV.1.1<|AF AV.1.2.1<|AF AV.1.2.2.1<|AF AV.1.2.2.2 AV.2;have yE:=AA<|nO (CW4.out.below (AQ _ W4).drew) hl (c:=c1) (eF.out.of (w':=W4.drew) (AU (Below.size RH.out) lr)<|RH.out.block g1 eF.out.1) fH x1.1 sN RN hb ha1;rw[NF]at yE;refine Z1i ?_;refine Nv 18 (fun u=>u.cell? ⟨w.heap.size,0,none⟩=some (.pointer<|Qb q 0)/\u.cell? ⟨w.heap.size+1,0,none⟩=some (.int .i64 (seen:Int))/\u.cell? ⟨VA.heap.size,0,none⟩=some (.string x1.1)/\u.cell? ⟨VA.heap.size,1,none⟩=some (.slice (Qb g1 0) 1 c1)/\u.cell? ⟨q,9,none⟩=some (.int .u64 0)) zt ?_;refine tz 0 (.pointer<|Qb q 0) AV (hy:=fun _ ⟨s0,s1,s2,s3,s4⟩=>by go_simp) ?_;try simp only[zz]
 refine tz 1 (.int .i64 1) AV ?_;try simp only[zz]
 refine tz 2 (.pointer<|Qb q 0) AV ?_;try simp only[zz]
 refine tz 3 (.pointer<|Qb q 8) AV ?_;try simp only[zz]
 refine tz 4 (.pointer<|Qb q 9) AV ?_;try simp only[zz]
 refine tz 5 (.int .u64 0) AV (hy:=fun _ ⟨s0,s1,s2,s3,s4⟩=>by go_simp) ?_;try simp only[zz]
 refine tz 6 (.pointer<|Qb q 0) AV (hy:=fun _ ⟨s0,s1,s2,s3,s4⟩=>by go_simp) ?_;try simp only[zz]
 refine tz 7 (.agg #[.string x1.1,.slice (Qb g1 0) 1 c1]) AV (hy:=fun _ ⟨s0,s1,s2,s3,s4⟩=>by go_simp) ?_;try simp only[zz]
 refine tz 8 (.int .i64 (now:Int)) AV ?_;try simp only[zz]
 refine tz 10 (.int .i64 (seen:Int)) AV (hy:=fun _ ⟨s0,s1,s2,s3,s4⟩=>by go_simp) ?_;try simp only[zz]
 refine tf 15 (.pointer<|Qb q 0) AV ?_;try simp only[zz]
 refine tf 16 (.pointer<|Qb q 8) AV ?_;try simp only[zz]
 refine rz 9 (h:=fun K' hK'=>?_);go_simp;refine(CN.out _).mono ?_;rintro e _ ⟨rfl,rfl⟩;refine hK'.out _ _ AV ?_;try simp only[zz]
 refine rz 11 (h:=fun K' hK'=>?_);go_simp;refine(CS.out _).mono ?_;rintro e _ ⟨rfl,rfl⟩;refine hK'.out _ _ AV ?_;try simp only[zz]
 refine tz 12 (.int .u64 (sN:Int)) AV ?_;try simp only[zz]
 refine rz 13 (h:=fun K' hK'=>?_);go_simp;refine yE.out.mono ?_;rintro e w6 ⟨rfl,pR,FB,hcB,Sm,We⟩;have EJ:=KW4.out w6 ((Off.refl _ W4).drew.trans Sm fun _ h=> .inl h);have EJ:=AF EJ.1<|AF EJ.2.1<|AF EJ.2.2.1<|AF EJ.2.2.2<|QW4.out _ _ _ hcB;have Xx:=hcB.bd.blk.soft;refine hK'.out _ _ EJ ?_;try simp only[zz]
 refine tz 14 (.int .u64 (Bn:Int)) EJ ?_;try simp only[zz]
 refine rz 17 (h:=fun K' hK'=>?_);go_simp;refine hK'.out _ _ EJ ?_;try simp only[zz]
 have c5:=EJ.2.2.2.2;refine J6 (h:=fun K' hK'=>?_);go_simp;refine hK'.out _ _ ?_;try simp only[zz]
 refine dz (h:=?_);have qP:=hcB.put 9 zx<|.int .u64 (Bn:Int);have kL:=((Off.refl _ W4).drew.trans Sm fun _ h=> .inl h).set q 9 (.int .u64 (Bn:Int)) zw;have WY: ∀ i,i∈FB->i∈FA\/W4.heap.size<=i:=We;obtain⟨VB,hVB⟩: ∃ VB,AC (w6.setCell ⟨q,9,none⟩ (.int .u64 (Bn:Int))=VB):=⟨_,⟨rfl⟩⟩;rw[hVB.out]at qP kL⊢;have jh:=AA qP;have ou:=AA kL;have HSB:=AA WY;clear qP kL WY EJ AV Xx c5 hcB Sm We yE;obtain⟨CT,hCT⟩: ∃ CT,AC ((cs.setIfInBounds 8<|.int .u64 (fit:Int)).setIfInBounds 9 (.int .u64 (Bn:Int))=CT):=⟨_,⟨rfl⟩⟩;rw[hCT.out]at jh;have hT: ∀ j,j≠8->j≠9->CT[j]?=cs[j]?:=fun j h1 h2=>by rw[<- hCT.out,Bc,if_neg zx,Bc,if_neg zx]
 have t8:CT[8]?=some (.int .u64 (fit:Int)):=by rw[<- hCT.out,Bc,if_neg zx,Bc,if_pos rfl,if_pos (by have:=lM.out;omega)]
 have t9:CT[9]?=some (.int .u64 (Bn:Int)):=by rw[<- hCT.out,Bc,if_pos rfl,if_pos (by have:=lM.out;simp;omega)]
 have q3B:=(jh.out.cell 3 zx).trans<|(hT 3 zx zx).trans c3;have q8B:=(jh.out.cell 8 zx).trans t8;have xU:AC (AJ VB w.heap.size #[.pointer<|Qb q 0] 329):=⟨(og.out.of<|RH.out.block _ og.out.lt).of<|ou.out.block _ (VE.out _<|.inl rfl).1 (VE.out _<|.inl rfl).2⟩;have xS:AC (AJ VB (w.heap.size+1) #[.int .i64 (seen:Int)] 3):=⟨(jg.out.of<|RH.out.block _ jg.out.lt).of<|ou.out.block _ (VE.out _<|.inr<|.inl rfl).1 (VE.out _<|.inr<|.inl rfl).2⟩;have y0:=xU.out.one.1;go_wp2_with fail
 rw[A8];go_wp2
 refine Dt 3 ?_;rw[A8];go_wp2_with fail
 have lVB:w.heap.size+1<VB.heap.size:=xS.out.lt;have kL:q<VB.heap.size:=zx
 have di:w.heap.size<VB.heap.size:=zx
 have Dw:=fun(fn:Fn) (first cap:Array Value) (w:World)=>(rfl:(Instr.makeFunc fn first cap).run prog w= .ok (.func fn first cap) w);go_quiet (fail)
 go_wp2_with fail
 obtain⟨W6,hW6⟩: ∃ W6,AC ((VB.alloc<|.cells #[.int .i64 0] 3).drewN nq=W6):=⟨_,⟨rfl⟩⟩;have B6:AC (Bl VB W6):=⟨hW6.out▸KR ((AQ _ VB).alloc lr _)⟩;have S6:AC (W6.heap.size=VB.heap.size+1):=⟨by rw[<- hW6.out];simp⟩;have Li:AC (AJ W6 VB.heap.size #[.int .i64 0] 3):=⟨hW6.out▸(AJ.new VB _ _).dr _⟩;rw[hW6.out];have eB:=S6.out;have eW3:=oQ.out;have eW2:=S2.out;have eVA:W3.heap.size<=VA.heap.size:=Zw.out.size;have eW4:=SW4.out;have eVB:W4.heap.size<=VB.heap.size:=ou.out.size;have F9:=H.out.bd.lt;have Xu: ∀ i,i∈FB->i∈Fo\/(w.heap.size+2<=i/\i<VB.heap.size)\/VB.heap.size+3<=i:=fun i hi=>by
  have hlt:=jh.out.bd.lt i (by simp[hi]);rcases HSB.out i hi with h | h
  ·exact(xe.out i h).imp id fun h=> .inl ⟨zx,hlt⟩
  ·exact .inr<|.inl ⟨zx,hlt⟩
 have O6:AC (Off (q::m::Fo) w W6):=⟨((((Off.of B2.out).trans (Off.of (F:=[]) VJ.out) fun _ h=>(by cases h)).trans Zw.out fun _ h=> .inl h).trans (Off.of (F:=[]) RH.out) fun _ h=>(by cases h)).trans (ou.out.trans (Off.of (F:=[]) B6.out) fun _ h=>(by cases h)) fun i hi=>by
  simp only[Be]at hi⊢;rcases hi with h | h | h
  ·exact .inl<|.inl h
  ·exact .inl<|.inr<|.inl h
  ·rcases xe.out i h with h | h
   ·exact .inl<|.inr<|.inr h
   ·exact .inr zx⟩
 obtain⟨Z9,hCT2⟩: ∃ Z9,AC (CT.setIfInBounds (12+n*4+1) (.int .u64 (GJ fs x1.1 x1.2 (BR Bn):Int))=Z9):=⟨_,⟨rfl⟩⟩;have OT:AC (∀ W W' C Aw Aj,Ctx W q p m C [x,x1] gs S fs vs F [] Aw Aj->(∀ i,i∈Aj->i∈Fo\/(w.heap.size+2<=i/\i<VB.heap.size)\/VB.heap.size+3<=i)->Off [W6.heap.size,W6.heap.size+1] W W'->Ctx W' q p m C [x,x1] gs S fs vs F [] Aw Aj):=⟨fun W W' C Aw Aj hc CZ k=>hc.other k fun j hj=>by
  have kW:VB.heap.size+1<=j/\j<VB.heap.size+3:=by simp at hj;omega
  refine⟨fun h=>?_,fun h=>by have:=H.out.wd.lt j h;omega,fun h=>by have:=H.out.rd.lS j h;omega,AU H.out.gl.2.2 zx⟩;simp only[Be]at h;rcases h with rfl | rfl | h
  ·have:=F9 j zw;omega
  ·have:=F9 j zw;omega
  ·rcases CZ j h with h | h | h
   ·have:=F9 j (by simp[h]);omega
   ·omega
   ·omega⟩
 have YV:n<60:=Ba (Nq (s:=fit) (by rw[hn];simp)) zu;obtain⟨fx,QY⟩: ∃ fx,fs[n]?=some fx:=⟨_,DK M9⟩;have HM:=AA (show(GU [] x.1 x.2 fx).2=[]by have:=aO;rwa [List.getD_eq_getElem?_getD,QY]at this);have HT:=AA<|AF t9 (hT (12+n*4+1) zx zx |>.trans cb);have HFX:=AA QY;clear QY aO q3B q8B y0 Dw;refine(wpIn_wide (n:=5)).1 ?_;refine Zd (K:=255) (s:=fit) (xs:=BR fit) (Z:=U6) rfl (DL func255 zt rfl) (ZV _ fit IZ) rfl
  (fun pre W=> ∃ Aw Aj,Ctx W q p m (if pre=[]then CT else Z9) [x,x1] gs S fs vs F [] Aw Aj/\AJ W w.heap.size #[.pointer<|Qb q 0] 329/\AJ W (w.heap.size+1) #[.int .i64 (seen:Int)] 3/\AJ W VB.heap.size #[.int .i64 0] 3/\Off (q::m::Fo) w W/\ ∀ i,i∈Aj->i∈Fo\/(w.heap.size+2<=i/\i<VB.heap.size)\/VB.heap.size+3<=i)
  (fun _ _=>False) (fun _ _ ⟨_,_,hc,_⟩=>hc.gl.1) ?_ (fun _ _ _ h _=>h) ⟨pR,FB,jh.out.below B6.out,xU.out.of<|B6.out.block _ xU.out.lt,xS.out.of<|B6.out.block _ xS.out.lt,Li.out,O6.out,Xu⟩
  (fun n=>{tmps:=#[.pointer<|Qb q 0,.int .i64 (seen:Int),.int .i64 (now:Int),.pointer<|Qb w.heap.size 0,.pointer<|Qb (w.heap.size+1) 0,undef,.int .i64 1,.pointer<|Qb VA.heap.size 0,.pointer<|Qb VB.heap.size 0,.int .i64 (n:Int),.pointer<|Qb q 0,.pointer<|Qb q 0,.pointer<|Qb q 3,.slice (Qb ga 0) 2 ca,.int .i64 2,.int .i64 2,.bool false,.int .i64 1,.pointer<|Qb ga 2,.agg #[.string x1.1,.slice (Qb g1 0) 1 c1],.pointer<|Qb q 0,.int .i64 1,.pointer<|Qb q 0,.pointer<|Qb q 8,.pointer<|Qb q 9,.int .u64 0,.pointer<|Qb q 0,.agg #[.string x1.1,.slice (Qb g1 0) 1 c1],.int .i64 (now:Int),.int .u64 ((2 ^ now-1:Nat):Int),.int .i64 (seen:Int),.int .u64 ((2 ^ seen-1:Nat):Int),.int .u64 (sN:Int),.int .u64 (Bn:Int),.int .u64 (Bn:Int),.pointer<|Qb q 0,.pointer<|Qb q 8,.pointer<|Qb q 9,.int .i64 2,.pointer<|Qb q 0,.pointer<|Qb q 0,.pointer<|Qb q 3,.slice (Qb ga 0) 2 ca,.int .i64 2,.int .i64 0,.bool true,.int .i64 0,.pointer<|Qb q 0,.int .i64 0,.pointer<|Qb q 0,.pointer<|Qb q 8,.pointer<|Qb q 8,.int .u64 (fit:Int),.func (.func 255) #[.int .u64 (fit:Int)] #[],.int .i64 (n:Int),undef,undef,undef,undef,undef,undef],defers:=[]}) ?assign ?body ?done (fun _ _ h _=>h.elim)
 ·rintro pre W W' ⟨Aw,Aj,hc,b0,b1,b2,ho,CZ⟩ k;have nn: ∀ j,j<VB.heap.size+1->j∉[W6.heap.size,W6.heap.size+1]:=fun j hj=>by simp;omega
  refine⟨Aw,Aj,OT.out W W' _ _ _ hc CZ k,b0.of<|k.block _ b0.lt<|nn _ zx,b1.of<|k.block _ b1.lt<|nn _ zx,b2.of<|k.block _ b2.lt<|nn _ zx,ho.trans k fun i hi=>?_,CZ⟩;simp at hi;exact .inr zx
 case assign=>
  intro l n W K hK;gi_wp2
  exact hK
 case body=>
  rintro l pre n' rest W Mc ⟨Aw,Aj,hc,b0,b1,b2,ho,CZ⟩ hW;rw[hn]at Mc;obtain⟨rfl,rfl,rfl⟩:pre=[]/\n=n'/\rest=[]:=by
   cases pre with
   | nil=>simp at Mc;exact⟨rfl,Mc.1,Mc.2⟩
   | cons y l=>simp at Mc
  rw[if_pos rfl]at hc;have CB:=AA<|Z1o hc hl HFX.out YV HM.out HT.out.1 TH HT.out.2 (fun k hk=>hb k (G8 k hk)) fun k hk=>ha1 k (G8 k hk);rw[hCT2.out]at CB;have c0:=b0.one.1;have RX:=b1.one.1;have c2:=b2.one.1;have HH:=AA<|AF hc<|AF b0<|AF b1<|AF b2<|AF ho CZ;clear hc b0 b1 b2 ho CZ;gi_wp2
  rw[show(seen:Int)=0 from by rw[h0.out];rfl];refine⟨trivial,(CallsIn.inRound l<|callsIn_wide.2 CB.out).mono ?_⟩;rintro e w7 ⟨rfl,dQ,F7,fM,FU,MC⟩;gi_wp2
  obtain⟨hc,b0,b1,b2,ho,CZ⟩:=HH.out;have IG: ∀ j,w.heap.size<=j->(j<w.heap.size+2\/VB.heap.size<=j)->j<VB.heap.size+3->j∉q::m::Aj:=fun j h1 h2 h3 h=>by
   simp only[Be]at h;rcases h with rfl | rfl | h
   ·have:=F9 j zw;omega
   ·have:=F9 j zw;omega
   ·rcases CZ j h with h | h | h
    ·have:=F9 j (by simp[h]);omega
    ·omega
    ·omega
  refine⟨⟨FU.block _ zx<|IG _ zx zx zx,FU.block _ zx<|IG _ zx zx zx⟩,dQ,F7,by rw[if_neg zw];exact fM,b0.of<|FU.block _ b0.lt<|IG _ zx zx zx,b1.of<|FU.block _ b1.lt<|IG _ zx zx zx,b2.of<|FU.block _ b2.lt<|IG _ zx zx zx,ho.trans FU fun i hi=>?_,fun i hi=>?_⟩
  ·simp only[Be]at hi⊢;rcases hi with h | h | h
   ·exact .inl<|.inl h
   ·exact .inl<|.inr<|.inl h
   ·rcases CZ i h with h | h | h
    ·exact .inl<|.inr<|.inr h
    ·exact .inr zx
    ·exact .inr zx
  ·rcases MC i hi with h | h
   ·exact CZ i h
   ·exact .inr<|.inr zx
 case done=>
  rintro W ⟨Aw,Aj,hc,b0,b1,b2,ho,CZ⟩ hD;rw[hn,if_neg zw]at hc;have t92:Z9[9]?=some (.int .u64 (Bn:Int)):=by rw[<- hCT2.out,Bc,if_neg zx];exact HT.out.1
  have q9C:=(hc.cell 9 zx).trans t92;have y0:=b0.one.1;have lW:VB.heap.size+1<=W.heap.size:=b2.lt;have lW6:W6.heap.size<W.heap.size:=(IU.1 hD).1;have hqW:q<W.heap.size:=zx
  have hwW:w.heap.size<W.heap.size:=zx
  have Dw:=fun(fn:Fn) (first cap:Array Value) (w:World)=>(rfl:(Instr.makeFunc fn first cap).run prog w= .ok (.func fn first cap) w);have DD:=AA<|AF hc<|AF b0<|AF b1<|AF ho<|AF CZ hD;clear hc b0 b1 b2 ho CZ hD;go_wp2_with fail
  rw[A8];go_wp2
  go_quiet (fail)
  go_wp2_with fail
  obtain⟨W7,hW7⟩: ∃ W7,AC ((W.alloc<|.cells #[.int .i64 1] 3).drewN nq=W7):=⟨_,⟨rfl⟩⟩;have B7:AC (Bl W W7):=⟨hW7.out▸KR ((AQ _ W).alloc lr _)⟩;have S7:AC (W7.heap.size=W.heap.size+1):=⟨by rw[<- hW7.out];simp⟩;have Lj:AC (AJ W7 W.heap.size #[.int .i64 1] 3):=⟨hW7.out▸(AJ.new W _ _).dr _⟩;rw[hW7.out];have e7:=S7.out;clear q9C y0 Dw;have OT2:AC (∀ U U' Aw Aj,Ctx U q p m Z9 [x,x1] gs S fs vs F [] Aw Aj->(∀ i,i∈Aj->i∈Fo\/(w.heap.size+2<=i/\i<VB.heap.size)\/(VB.heap.size+3<=i/\i<W.heap.size)\/W.heap.size+3<=i)->Off [W7.heap.size,W7.heap.size+1] U U'->Ctx U' q p m Z9 [x,x1] gs S fs vs F [] Aw Aj):=⟨fun U U' Aw Aj hc CZ k=>hc.other k fun j hj=>by
   have kW:W.heap.size+1<=j/\j<W.heap.size+3:=by simp at hj;omega
   refine⟨fun h=>?_,fun h=>by have:=H.out.wd.lt j h;omega,fun h=>by have:=H.out.rd.lS j h;omega,AU H.out.gl.2.2 zx⟩;simp only[Be]at h;rcases h with rfl | rfl | h
   ·have:=F9 j zw;omega
   ·have:=F9 j zw;omega
   ·rcases CZ j h with h | h | h | h
    ·have:=F9 j (by simp[h]);omega
    ·omega
    ·omega
    ·omega⟩
  obtain⟨hc,b0,b1,ho,CZ,hD⟩:=DD.out;have hFW:=hc.bd.lt;refine(wpIn_wide (n:=5)).1 ?_;refine Zd (K:=255) (s:=Bn) (xs:=BR Bn) (Z:=U6) rfl (DL func255 zt rfl) (ZV _ Bn TH) rfl
   (fun _ U=> ∃ Aw Aj,Ctx U q p m Z9 [x,x1] gs S fs vs F [] Aw Aj/\AJ U w.heap.size #[.pointer<|Qb q 0] 329/\AJ U (w.heap.size+1) #[.int .i64 (seen:Int)] 3/\AJ U W.heap.size #[.int .i64 1] 3/\Off (q::m::Fo) w U/\(∀ i,i∈Aj->i∈Fo\/(w.heap.size+2<=i/\i<VB.heap.size)\/(VB.heap.size+3<=i/\i<W.heap.size)\/W.heap.size+3<=i)/\U.heap[W6.heap.size]?=some (.deferred<|some []))
   (fun _ _=>False) (fun _ _ ⟨_,_,hc,_⟩=>hc.gl.1) ?_ (fun _ _ _ h _=>h) ⟨Aw,Aj,hc.below B7.out,b0.of<|B7.out.block _ b0.lt,b1.of<|B7.out.block _ b1.lt,Lj.out,ho.trans (Off.of (F:=[]) B7.out) fun _ h=>(by cases h),fun i hi=>(CZ i hi).imp id fun h=>h.imp id fun h=> .inl ⟨h,hFW i (by simp[hi])⟩,(B7.out.block _ lW6).trans hD⟩
   (fun n=>{tmps:=#[.pointer<|Qb q 0,.int .i64 (seen:Int),.int .i64 (now:Int),.pointer<|Qb w.heap.size 0,.pointer<|Qb (w.heap.size+1) 0,undef,.int .i64 1,.pointer<|Qb VA.heap.size 0,.pointer<|Qb W.heap.size 0,.int .i64 (n:Int),.pointer<|Qb q 0,.pointer<|Qb q 0,.pointer<|Qb q 3,.slice (Qb ga 0) 2 ca,.int .i64 2,.int .i64 2,.bool false,.int .i64 1,.pointer<|Qb ga 2,.agg #[.string x1.1,.slice (Qb g1 0) 1 c1],.pointer<|Qb q 0,.int .i64 1,.pointer<|Qb q 0,.pointer<|Qb q 8,.pointer<|Qb q 9,.int .u64 0,.pointer<|Qb q 0,.agg #[.string x1.1,.slice (Qb g1 0) 1 c1],.int .i64 (now:Int),.int .u64 ((2 ^ now-1:Nat):Int),.int .i64 (seen:Int),.int .u64 ((2 ^ seen-1:Nat):Int),.int .u64 (sN:Int),.int .u64 (Bn:Int),.int .u64 (Bn:Int),.pointer<|Qb q 0,.pointer<|Qb q 8,.pointer<|Qb q 9,.int .i64 2,.pointer<|Qb q 0,.pointer<|Qb q 0,.pointer<|Qb q 3,.slice (Qb ga 0) 2 ca,.int .i64 2,.int .i64 1,.bool true,.int .i64 1,.pointer<|Qb q 0,.int .i64 1,.pointer<|Qb q 0,.pointer<|Qb q 8,.pointer<|Qb q 9,.int .u64 (Bn:Int),.func (.func 255) #[.int .u64 (Bn:Int)] #[],.int .i64 (n:Int),undef,undef,undef,undef,undef,.int .i64 1],defers:=[]}) ?assign ?body ?done (fun _ _ h _=>h.elim)
  ·rintro pre U U' ⟨Aw,Aj,hc,b0,b1,b2,ho,CZ,hd⟩ k;have nn: ∀ j,j<W.heap.size+1->j∉[W7.heap.size,W7.heap.size+1]:=fun j hj=>by simp;omega
   refine⟨Aw,Aj,OT2.out U U' _ _ hc CZ k,b0.of<|k.block _ b0.lt<|nn _ zx,b1.of<|k.block _ b1.lt<|nn _ zx,b2.of<|k.block _ b2.lt<|nn _ zx,ho.trans k fun i hi=>?_,CZ,(k.block _ (IU.1 hd).1<|nn _ zx).trans hd⟩;simp at hi;exact .inr zx
  case assign=>
   intro l n W K hK;gi_wp2
   exact hK
  case body=>
   rintro l pre n' rest U Mc ⟨Aw,Aj,hc,b0,b1,b2,ho,CZ,hd⟩ hU;have qX:=hb n'<|G8 n' (by rw[Mc];simp);obtain⟨fy,hfy⟩: ∃ fy,fs[n']?=some fy:=⟨_,DK qX⟩;have CB:=AA<|Zos hc (i:=1) (seen:=seen) (x:=x1) rfl rfl zw hfy;have c0:=b0.one.1;have RX:=b1.one.1;have c2:=b2.one.1;have HH:=AA<|AF hc<|AF b0<|AF b1<|AF b2<|AF ho<|AF CZ hd;clear hc b0 b1 b2 ho CZ hd hfy;gi_wp2
   refine⟨trivial,(CallsIn.inRound l<|callsIn_wide.2 CB.out).mono ?_⟩;rintro e w7 ⟨rfl,dQ,F7,fM,FU,MC⟩;gi_wp2
   obtain⟨hc,b0,b1,b2,ho,CZ,hd⟩:=HH.out;have IG: ∀ j,w.heap.size<=j->(j<w.heap.size+2\/(VB.heap.size<=j/\j<VB.heap.size+3)\/W.heap.size<=j)->j<W.heap.size+3->j∉q::m::Aj:=fun j h1 h2 h3 h=>by
    simp only[Be]at h;rcases h with rfl | rfl | h
    ·have:=F9 j zw;omega
    ·have:=F9 j zw;omega
    ·rcases CZ j h with h | h | h | h
     ·have:=F9 j (by simp[h]);omega
     ·omega
     ·omega
     ·omega
   refine⟨⟨FU.block _ zx<|IG _ zx zx zx,FU.block _ zx<|IG _ zx zx zx⟩,dQ,F7,fM,b0.of<|FU.block _ b0.lt<|IG _ zx zx zx,b1.of<|FU.block _ b1.lt<|IG _ zx zx zx,b2.of<|FU.block _ b2.lt<|IG _ zx zx zx,ho.trans FU fun i hi=>?_,fun i hi=>?_,(FU.block _ (IU.1 hd).1<|IG _ zx zx zx).trans hd⟩
   ·simp only[Be]at hi⊢;rcases hi with h | h | h
    ·exact .inl<|.inl h
    ·exact .inl<|.inr<|.inl h
    ·rcases CZ i h with h | h | h | h
     ·exact .inl<|.inr<|.inr h
     ·exact .inr zx
     ·exact .inr zx
     ·exact .inr zx
   ·rcases MC i hi with h | h
    ·exact CZ i h
    ·exact .inr<|.inr<|.inr zx
  case done=>
   rintro U ⟨Aw,Aj,hc,b0,b1,b2,ho,CZ,hd⟩ hD2;have FO:=AA<|AF hc<|AF ho CZ;clear hc b0 b1 b2 ho CZ;go_wp2_with fail
   rw[A8];go_wp2_with fail
   have k1:Off [W7.heap.size,W7.heap.size+1] U (U.putObj W7.heap.size<|.deferred none):=Off.putObj _ zw;have k2:Off [W6.heap.size,W6.heap.size+1] (U.putObj W7.heap.size<|.deferred none) ((U.putObj W7.heap.size<|.deferred none).putObj W6.heap.size<|.deferred none):=Off.putObj _ zw;have Yh:(U.putObj W7.heap.size<|.deferred none).heap[W6.heap.size]?=some (.deferred<|some []):=(World.putObj_heap_other zx).trans hd;have s3: ∀ i,i∈Aj->i∈Fo\/(w.heap.size+2<=i/\i<VB.heap.size)\/VB.heap.size+3<=i:=fun i hi=>(FO.out.2.2 i hi).imp id zx;rw[<- eB];refine⟨zw,.inl ⟨_,_,rfl,run_takeDeferred hD2,?_⟩⟩;refine⟨zw,.inl ⟨_,_,rfl,run_takeDeferred Yh,?_⟩⟩;rw[hCT.out,hCT2.out];refine⟨_,results_none rfl _ _ _,rfl,Aw,Aj,OT.out _ _ _ _ _ (OT2.out _ _ _ _ FO.out.1 FO.out.2.2 k1) s3 k2,(FO.out.2.1.trans k1 fun i hi=>?_).trans k2 fun i hi=>?_,fun i hi=>(s3 i hi).imp id zx⟩
   ·simp at hi;exact .inr zx
   ·simp at hi;exact .inr zx
end Go.P
namespace Go.P
section
variable {w:World} {p:Nat} {fs:List (ByteArray×Nat)} {vs:List T} {F:List Nat} {B D:Nat}
def Z35 (h:Bv w p fs vs F)(hG:JG w)(hF: ∀ i,i∈F->23<=i)(Ku: ∀ i,i∈F->B<=i)(hB:B<=w.heap.size){a a1:A}{t t1:T}{g:G}{hn:ByteArray}{pt pb pg:Option Addr}{ct cb cg:Nat}(hb:Ap 2 (DX B w<|D+2) pb [a,a1])(hg:Ap 9 (JN B w<|D+2) pg [g])(hat:a.terms=[t]/\a1.terms=[t1])(Az:A9 0 t=0/\A9 0 t1=0/\A9 0 g.a=0/\A9 0 g.b=0){op:Nat}(hop:g.op=(op:Int)){v1 v2 v3 v4:List T}(e1:EC vs t=v1)(e2:EC v1 t1=v2)(e3:EC v2 g.a=v3)(e4:EC v3 g.b=v4)(Gy:vs.length<900/\v1.length<900/\v2.length<900/\v4.length<900){x x1:Pt}{y:Gt}(ex:(a.name,DF vs t)=x)(ex1:(a1.name,DF v1 t1)=x1)(ey:(op,DF v2 g.a,DF v3 g.b)=y)(pu:y.2.1.1.size<1000000000/\y.2.2.1.size<1000000000)(hx:(x.2.1.toList==[])=true)(hx1:(x1.2.1.toList==[])=false)(hl:fs.length<=3)
  (ha: ∀ k,k∈BR (2 ^ fs.length-1)->(GU [] x.1 x.2<|fs.getD k (⟨#[]⟩,0)).1=true->WJ (GU [] x.1 x.2<|fs.getD k (⟨#[]⟩,0)).2 v4 y) (ha1: ∀ k,k∈BR (2 ^ fs.length-1)->(GU [] x1.1 x1.2<|fs.getD k (⟨#[]⟩,0)).1=true->WJ (GU [] x1.1 x1.2<|fs.getD k (⟨#[]⟩,0)).2 v4 y) (ha0:WJ [] v4 y)
  {fit Bn n b n1:Nat} {r1:List Nat} (BG:GJ fs x.1 x.2 (BR<|2 ^ fs.length-1)=fit) (NF:GJ fs x1.1 x1.2 (BR<|2 ^ fs.length-1)=Bn) (Va:BR fit=[n]) (G8: ∀ k,k∈BR Bn->k∈BR (2 ^ fs.length-1)) (M9:n<fs.length) (aO:(GU [] x.1 x.2<|fs.getD n (⟨#[]⟩,0)).2=[]) (hbf:GJ fs x1.1 x1.2 (BR Bn)=b) (hb2:BR (Bn &&& b)=n1::r1):
  Calls prog 195 #[.pointer<|Qb p 0,.agg #[.string hn,.slice pt 0 ct,.slice pb 2 cb,.slice pg 1 cg]] w fun e w'=>e= .returned (.bool true)/\ ∃ F',Bv w' p fs v4 F'/\Off F w w'/\ ∀ i,i∈F'->i∈F\/w.heap.size<=i:=by
 have IZ:fit<8:=BG▸Uu _ _ _ fun k hk=>Nq hk;have TH:Bn<8:=NF▸Uu _ _ _ fun k hk=>Nq hk;have Gq:b<8:=hbf▸Uu _ _ _ fun k hk=>Nq hk;have YV:n<60:=zx
 have f1:[a,a1].foldl IL (vs,[])=(v2,[x,x1]):=by simp[IL,hat.1,hat.2,e1,e2,ex,ex1]
 have f2:[g].foldl Qk (v2,[])=(v4,[y]):=by simp[Qk,hop,e3,e4,ey]
 refine(Zxe (n:=fs.length) (a0:=fit) (a1:=Bn) (a2:=0) (a3:=0) (J:=Uk w p [x,x1] [y] fs v4 F 0 0 (fun cs=> ∀ j,8<=j->j<972->cs[j]?=some (.int .u64 0))) (J2:=Uk w p [x,x1] [y] fs v4 F fit Bn fun cs=>cs[12+n*4+1]?=some (.int .u64 (b:Int))) (fun _ _ _ h hb=>h.below hb) (fun _ _ _ h hb=>h.below hb) (fun u hu=>?_) (fun q u h=>?_) (fun q u h=>?_) (fun q u h=>?_) (fun _ _ h=>h.cells) fun q u h=>?_).mono ?_
 ·have hc:=Go.W.Below.carry (hu.mono hB) lr;have WV:=h.of hu.size fun j hj=>hu.block j (h.lt j hj);refine(ug (bd:=[a,a1]) (gu:=[g]) (hb.carry fun _ _ _ hA=>DX.carry hc lr hA) (AU hB hu.size) Ku (fun i hi=>WV.lt i hi) (fun z hz=>?_) zw (vs1:=vs) (fun k=>?_) (D:=D) (hg.carry fun _ _ _ hA=>JN.carry hc lr hA) (fun z hz=>?_) zw (fun k=>?_) (Z43 WV pt ct) fun u' hv Gh sv Fa h1 h2=>Yd9 hx hx1 u' hv Gh sv Fa h1 (by rw[f1]at h2;exact h2)).mono ?_
  ·simp at hz;rcases hz with rfl | rfl
   ·exact⟨t,hat.1,Az.1⟩
   ·exact⟨t1,hat.2,Az.2.1⟩
  ·match k with
   | 0=>exact Gy.1
   | 1=>simpa[IL,hat.1,e1]using Gy.2.1
   | k+2=>rw[show List.take (k+2) [a,a1]=[a,a1]from zw,f1];exact Gy.2.2.1
  ·simp at hz;subst hz;exact⟨Az.2.2.1,Az.2.2.2,op,hop⟩
  ·rw[f1];match k with
   | 0=>exact Gy.2.2.1
   | k+1=>rw[show List.take (k+1) [g]=[g]from zw,f2];exact Gy.2.2.2
  ·intro e w' hm;rw[f1,f2]at hm;exact XY.rests hm hu hG hF (fun z hz=>by simp at hz;subst hz;exact pu)
 ·obtain⟨m,cs,S,F',ov,Fo,h1,_⟩:=h;exact h1.wd.len
 ·obtain⟨m,cs,S,F',ov,Fo,h1,h8,h9,h10,h11,hz,hO,hs,hq,hm,gX⟩:=h;refine(Z50 h1 zw (seen:=0) (now:=fs.length) (sN:=2 ^ fs.length-1) ⟨rfl⟩ zx zx (wQ _ hl) (bW _ hl).1 h8 h9 (bW _ hl).2 (fun k hk hm z hz=>by simp at hz;subst hz;exact ha k hk hm) (fun k hk hm z hz=>by simp at hz;subst hz;exact ha1 k hk hm) BG NF Va G8 M9 aO<|hz _ zx zx).mono ?_;rintro e w' ⟨rfl,Aw,Aj,hc,ho,hs'⟩;have hlt:=h1.bd.lt;have hsz:=h1.rd.sz;rw[hbf]at hc;refine⟨rfl,m,_,S,F',Aw,Aj,hc,?_,?_,?_,?_,?_,hO.trans ho fun i hi=> .inr ?_,hs,hq,hm,fun i hi=>(hs' i hi).elim (gX i) fun h=>AU hO.size h⟩
  ·rw[Bc,if_neg zx,Bc,if_neg zx,Bc,if_pos rfl,if_pos zx]
  ·rw[Bc,if_neg zx,Bc,if_pos rfl,if_pos (by simp;omega)]
  ·rw[Bc,if_neg zx,Bc,if_neg zx,Bc,if_neg zx];exact h10
  ·rw[Bc,if_neg zx,Bc,if_neg zx,Bc,if_neg zx];exact h11
  ·dsimp only;rw[Bc,if_pos rfl,if_pos (by simp;omega)]
  ·simp only[Be]at hi;rcases hi with rfl | rfl | hi
   ·exact hq
   ·exact hm
   ·exact gX i hi
 ·obtain⟨m,cs,S,F',ov,Fo,h1,_⟩:=h;exact wR h1 zw fun z hz=>by simp at hz;subst hz;exact ha0
 ·obtain⟨m,cs,S,F',ov,Fo,h1,_,_,_,_,hz,_⟩:=h;exact Z5o h1 fit Bn 0 0 IZ TH Va hz Gq hb2
 ·rintro e w' ⟨rfl,q,m,cs,S,F',ov,Fo,h1,_,_,_,_,_,hO,hs,_⟩;exact⟨rfl,F',h1.wd,hO,hs⟩
end
end Go.P
namespace Go.W
def iJ:List (ByteArray×Nat):=ai++[(Xk,1)]
end Go.W
namespace Go.P
variable {w:World}{o:Nat}
section
variable {w:World} {B D p:Nat} {F:List Nat} {hn:ByteArray} {pt pb pg:Option Addr} {ct cb cg:Nat}
def Z40 (h:Bv w p iJ vs2 F)(hG:JG w)(hF: ∀ i,i∈F->23<=i)(Ku: ∀ i,i∈F->B<=i)(hB:B<=w.heap.size)(hb:Ap 2 (DX B w<|D+2) pb ww.body)(hg:Ap 9 (JN B w<|D+2) pg ww.guards):
  Calls prog 195 #[.pointer<|Qb p 0,.agg #[.string hn,.slice pt 0 ct,.slice pb 2 cb,.slice pg 1 cg]] w fun e w'=>e= .returned (.bool true)/\Off F w w':=by
 refine(Z35 (v1:=vs2) (v2:=vs2) (v3:=vs2) (v4:=vs2++[dN 5]) (x:=(Xk,(⟨#[]⟩,1))) (x1:=(jU,(⟨#[116]⟩,0))) (y:=(3,(⟨#[116]⟩,0),(⟨#[]⟩,2))) (op:=3) (fit:=4) (Bn:=1) (n:=2) (b:=1) (n1:=0) (r1:=[]) h hG hF Ku hB hb hg ⟨rfl,rfl⟩ ⟨zt,zt,zt,zt⟩ rfl zt zt zt zt zu zt zt zt zu (by rw[Lr];decide) (by rw[Lr];decide) zu ?_ ?_ ⟨rfl,.inl zu⟩ zt zt zu zu zu zt zt zu).mono ?_
 ·intro k hk hm
  have:k=0\/k=1\/k=2:=by have:=Nq hk;omega
  rcases this with rfl | rfl | rfl
  ·exact absurd hm zu
  ·exact absurd hm zu
  ·exact⟨rfl,.inl zu⟩
 ·intro k hk hm
  have:k=0\/k=1\/k=2:=by have:=Nq hk;omega
  rcases this with rfl | rfl | rfl
  ·exact⟨rfl,.inr<|.inr ⟨dN 4,dN 5,zt,zt,rfl,rfl,zu⟩⟩
  ·exact absurd hm zu
  ·exact absurd hm zu
 ·rintro e w' ⟨rfl,F',_,ho,_⟩;exact⟨rfl,ho⟩
def Ycm (h:Bv w p iJ vs2 F)(hG:JG w)(hF: ∀ i,i∈F->23<=i)(Ku: ∀ i,i∈F->B<=i)(hB:B<=w.heap.size)(hb:Ap 2 (DX B w<|D+2) pb xB.body):
  Calls prog 195 #[.pointer<|Qb p 0,.agg #[.string hn,.slice pt 0 ct,.slice pb 1 cb,.slice pg 0 cg]] w fun e w'=>e= .returned (.bool true)/\Off F w w':=by
 refine(Z34 (fit:=4) (n:=2) (r:=[]) h hG hF Ku hB hb rfl zt zu zu (by rw[Lr];decide) zu zt zu zu).mono ?_;rintro e w' ⟨rfl,F',_,ho,_⟩;exact⟨rfl,ho⟩
end
def Bv.self {p:Nat}{fs:List (ByteArray×Nat)}{vs:List T}{F:List Nat}(h:Bv w p fs vs F):p∈F:=by
 obtain⟨k,r,fv,vv,Ff,Fv,h⟩:=h;rw[h.own];simp
def Yf7 (c g p1 p2:Nat) (u:World):Prop:=(u.cell? ⟨g,0,none⟩=some (.pointer<|Qb p1 0)/\u.cell? ⟨g,1,none⟩=some (.pointer<|Qb p2 0))/\ ∃ F1 F2,Bv u p1 iJ vs2 F1/\Bv u p2 iJ vs2 F2/\(∀ i,i∈F1->c<=i/\i∉F2)/\(∀ i,i∈F2->c<=i)/\g∉F2
def Yf8 (c g p1:Nat) (u:World):Prop:=u.cell? ⟨g,0,none⟩=some (.pointer<|Qb p1 0)/\ ∃ F1,Bv u p1 iJ vs2 F1/\ ∀ i,i∈F1->c<=i
def Z4z {u v:World}{g:Nat}{x:Value}(h:u.cell? ⟨g,o,none⟩=some x)(hb:v.heap[g]?=u.heap[g]?):v.cell? ⟨g,o,none⟩=some x:=(Am (a:=⟨g,o,none⟩) hb).trans h
def Zx2 (hG:JG w){B D:Nat}(hB:B<=w.heap.size){b c:Nat}(hc:2<=c)(hb:Jl B w (D+3) b o GA)(hb':Jl B w (D+3) b (o+3) Ia){pp:Option Addr}{cp:Nat}(hp:Ap 2 (Ni B w<|D+3) pp [⟨true,[xB]⟩]):
  Calls prog 43 #[.slice (Qb b o) 2 c,.agg #[.int .i64 4,.slice none 0 0,.slice none 0 0],.slice pp 1 cp] w fun e w'=>e= .returned (.int .i64 6)/\Bl w w':=by
 obtain⟨_,⟨_,k0,p0,c0,rfl,l0,r0⟩,⟨_,k1,p1,c1,rfl,l1,r1⟩,_,k2,p2,c2,rfl,l2,r2⟩:=hb;obtain⟨_,⟨_,k3,p3,c3,rfl,l3,r3⟩,⟨_,k4,p4,c4,rfl,l4,r4⟩,_,k5,p5,c5,rfl,l5,r5⟩:=hb';have gl: ∀ u,Bl w u->JG u:=fun u hu=>hG.same hu.size fun k hk=>hu.block k (by have:=hG.2.2;omega);have qm:=hG.2.2;refine Z14 k0 k1 k2 k3 k4 k5 (K1:=fun g p1 p2 u=>Yf7 w.heap.size g p1 p2 u) (K2:=fun g p1 _ u=>Yf8 w.heap.size g p1 u) (fun _ _ _ _ h=>h.1) (fun _ _ _ _ h=>h.1) ?_ ?_ (fun u hu=>?_) ?_ ?_
 ·rintro g p1 p2 u v ⟨⟨h0,h1⟩,F1,F2,q1,q2,q3⟩ hv;exact⟨⟨Aq h0 hv,Aq h1 hv⟩,F1,F2,q1.of hv.size fun k hk=>hv.block k (q1.lt k hk),q2.of hv.size fun k hk=>hv.block k (q2.lt k hk),q3⟩
 ·rintro g p1 p2 u v ⟨h0,F1,q1,q3⟩ hv;exact⟨Aq h0 hv,F1,q1.of hv.size fun k hk=>hv.block k (q1.lt k hk),q3⟩
 ·have VZ:=Go.W.Below.carry (hu.mono hB) lr;have zi:=Ll k0;have kk: ∀ {j x},w.cell? ⟨b,j,none⟩=some x->u.cell? ⟨b,j,none⟩=some x:=fun h=>Z4z h (hu.block b zi);refine(Z37 (gl u hu) (AU hB hu.size) (kk k0) (kk k1) (kk k2) (kk k3) (kk k4) (kk k5) hc (r0.carry fun _ _ _ q=>q.carry VZ lr) (r1.carry fun _ _ _ q=>q.carry VZ lr)).mono ?_;rintro e w' ⟨g,p1,p2,cw,n,m,z,rfl,RQ,⟨F1,F2,q1,q2,q3,q4⟩,EV,hmz,hg,Kq,AX⟩;have hus:=hu.size;have hn:=(q3 _ q1.self).2;have YW:=(q3 _ q1.self).1;exact⟨g,p1,p2,cw,rfl,⟨RQ,F1,F2,q1,q2,fun i hi=>⟨by have:=q3 i hi;omega,fun h=>by have:=q3 i hi;have:=q4 i h;omega⟩,fun i hi=>by have:=q4 i hi;omega,fun h=>by have:=q4 g h;omega⟩,hu.trans<|AX.mono hus⟩
 ·rintro g q1 q2 u ⟨⟨g0,_⟩,F1,F2,w1,w2,d1,d2,dg⟩ hu;have VZ:=Go.W.Below.carry (hu.mono hB) lr;obtain⟨b5,o5,rfl,hC⟩:=XR r5;obtain⟨_,_,y0,p6,c6,rfl,l6,r6⟩:=hC.carry VZ lr;obtain⟨b6,o6,rfl,hR⟩:=XR r6;refine Z24 y0 fun v hv=>?_;have hcv:=Go.W.Below.carry (hv.mono<|AU hB hu.size) lr;have VM:Bl w v:=hu.trans<|hv.mono hu.size;have hR:=hR.carry hcv lr;obtain⟨_,p7,c7,p8,c8,p9,c9,z0,z1,z2,z3,_⟩:=hR.vals;obtain⟨_,_,⟨_,e2,p8',c8',rfl,_,r8⟩,_,e3,p9',c9',rfl,_,r9⟩:=hR;cases e2.symm.trans z2;cases e3.symm.trans z3;have w2':=w2.of hv.size fun k hk=>hv.block k (w2.lt k hk);refine Znn z0 z1 z2 z3<|(Z40 w2' (gl v VM) (fun i hi=>AU qm (d2 i hi)) (fun i hi=>AU hB (d2 i hi)) (AU hB VM.size) r8 r9).mono ?_;rintro e w' ⟨rfl,ho⟩;have lg:=Ll g0;have hs:=hv.size;refine⟨rfl,⟨Z4z g0<|(ho.block g (Ba lg hs) dg).trans<|hv.block g lg,F1,(w1.of hv.size fun k hk=>hv.block k (w1.lt k hk)).off ho fun i hi=>(d1 i hi).2,fun i hi=>(d1 i hi).1⟩,VM.trans<|ho.below d2 VM.size⟩
 ·rintro g q1 q2 u ⟨_,F1,w1,d1⟩ hu;have VZ:=Go.W.Below.carry (hu.mono hB) lr;obtain⟨b5,o5,rfl,hP⟩:=XR hp;obtain⟨_,y0,_,y1,p6,c6,rfl,l6,r6⟩:=hP.carry VZ lr;obtain⟨b6,o6,rfl,hR⟩:=XR r6;refine Z1n y0 y1 fun v hv hlt=>?_;have hcv:=Go.W.Below.carry (hv.mono<|AU hB hu.size) lr;have VM:Bl w v:=hu.trans<|hv.mono hu.size;have hR:=hR.carry hcv lr;obtain⟨_,p7,c7,p8,c8,p9,c9,z0,z1,z2,z3,_⟩:=hR.vals;obtain⟨_,_,⟨_,e2,p8',c8',rfl,_,r8⟩,_⟩:=hR;cases e2.symm.trans z2;have w1':=w1.of hv.size fun k hk=>hv.block k (w1.lt k hk);refine Znn z0 z1 z2 z3<|(Ycm w1' (gl v VM) (fun i hi=>AU qm (d1 i hi)) (fun i hi=>AU hB (d1 i hi)) (AU hB VM.size) r8).mono ?_;rintro e w' ⟨rfl,ho⟩;exact⟨rfl,VM.trans<|ho.below d1 VM.size,ho.block _ hlt fun h=>by have:=w1.lt _ h;omega⟩
end Go.P
namespace Go.P
variable {L b o c:Nat}{ids:List ByteArray}{w:World}
def Yby (t:TypeId)(v:Value)(w:World):(binOp .eql 56 .nilIface<|.iface t v).run prog w= .ok (.bool false) w:=zt
def Yen (t:TypeId)(v:Value)(w:World):Calls prog 27 #[.nilIface,.iface t v] w fun e w'=>e= .returned (.bool false)/\w'=w:=by
 have h:=Yby t v w;go_in
 go_wp2
 go_ret
 exact⟨rfl,rfl⟩
def Z2j (s:ByteArray)(w:World):Calls prog 140 #[.slice none 0 0,.string s] w fun e w'=>e= .returned (.int .i64 (-1))/\w'=w:=by
 go_in
 go_wp2
 go_loopw [8] (fun iv wr=>iv= .int .i64 0/\wr=w) (fun _ _=>0)
 case atStart=>exact⟨rfl,rfl⟩
 case round=>
  obtain⟨rfl,hw⟩:=hrel;obtain rfl:=hw.symm;go_wp2
  go_ret
  exact⟨rfl,rfl⟩
def Ztb (s:ByteArray)(w:World):Calls prog 92 #[.slice none 0 0,.string s] w fun e w'=>e= .returned (.bool false)/\w'=w:=by
 have C:=AA<|Z2j s w;go_in
 go_wp2_with fail
 refine mq C.out ?_;rintro w' rfl;go_wp2
 go_ret
 exact⟨rfl,rfl⟩
def Zt6 (s:ByteArray)(L:Nat)(w:World)(hc:w.cell? ⟨L,0,none⟩=some (.slice none 0 0)):Calls prog 91 #[.string s,.pointer<|Qb L 0] w fun e w'=>e= .returned (.bool false)/\w'=w:=by
 have C:=AA<|Ztb s w;go_in
 go_wp2_with fail
 refine mq C.out ?_;rintro w' rfl;go_wp2
 go_ret
 exact⟨rfl,rfl⟩
def Zra (hr: ∀ i t,ids[i]?=some t->w.cell? ⟨b,o+i,none⟩=some (.string t))(hl:ids.length<1000000)(hc:w.cell? ⟨L,0,none⟩=some (.slice none 0 0)):Calls prog 139 #[.slice (Qb b o) ids.length c,.func (.func 91) #[] #[.pointer<|Qb L 0]] w fun e w'=>e= .returned (.int .i64 (-1))/\w'=w:=by
 have hen: ∀ args w,(callFunc 91 args).run prog w= .ok (.enter 91 args) w:=DL func91 zt rfl;obtain⟨n,hn⟩: ∃ n,AC (ids.length=n):=⟨_,⟨rfl⟩⟩;rw[hn.out]at hl⊢;have HR:=AA hr;clear hr;go_in
 go_wp2
 go_loopw [8] (fun iv wr=> ∃ k:Nat,k<=n/\iv= .int .i64 (k:Int)/\wr=w) (fun iv _=>n-(intOf iv).toNat)
 case atStart=>exact⟨0,Ii _,rfl,rfl⟩
 case round=>
  obtain⟨k,hk,rfl,hw⟩:=hrel;obtain rfl:=hw.symm;by_cases hlt:k<n
  ·have g:(k:Int)<(n:Int):=zx
   obtain⟨t,ht⟩: ∃ t,ids[k]?=some t:=⟨ids[k]'(by have:=hn.out;omega),DK _⟩;have z0:=HR.out k t ht;have C:=AA<|Zt6 t L w hc;clear ht;go_wp2_with fail
   refine mq C.out ?_;rintro w' rfl;go_wp2
   exact⟨⟨k+1,zx,zw,by trivial⟩,by simp[intOf];omega⟩
  ·obtain rfl:k=n:=zx
   go_wp2
   go_ret
   exact⟨rfl,rfl⟩
def Zmh (hr: ∀ i t,ids[i]?=some t->w.cell? ⟨b,o+i,none⟩=some (.string t))(hl:ids.length<1000000)(hc:w.cell? ⟨L,0,none⟩=some (.slice none 0 0)):Calls prog 90 #[.slice (Qb b o) ids.length c,.func (.func 91) #[] #[.pointer<|Qb L 0]] w fun e w'=>e= .returned (.bool false)/\w'=w:=by
 have C:=AA<|Zra (c:=c) hr hl hc;clear hr;go_in
 go_wp2_with fail
 refine mq C.out ?_;rintro w' rfl;go_wp2
 go_ret
 exact⟨rfl,rfl⟩
def Zrb (hb:b<w.heap.size)(hr: ∀ i t,ids[i]?=some t->w.cell? ⟨b,o+i,none⟩=some (.string t))(hl:ids.length<1000000):Calls prog 42 #[.slice (Qb b o) ids.length c,.slice none 0 0] w fun e w'=>e= .returned (.bool false)/\Bl w w':=by
 have Dw:=G6;have B0:=(AQ w.heap.size w).alloc lr<|.cells #[.slice none 0 0] 29;have C:=AA<|Zmh (L:=w.heap.size) (c:=c) (w:=w.alloc<|.cells #[.slice none 0 0] 29) (ids:=ids) (fun i t hi=>(B0.cell (p:=⟨b,o+i,none⟩) hb).trans (hr i t hi)) hl<|(AJ.new w #[.slice none 0 0] 29).cell 0;clear hr;go_in
 go_wp2_with fail
 refine mq C.out ?_;rintro w' rfl;go_wp2
 go_ret
 exact⟨rfl,B0⟩
end Go.P
namespace Go.P
variable {p:Option Addr}{c:Nat}
section
variable {a:Nat->Addr} {B D:Nat} {w:World} {x:IV}
def Zxi (V:E8){vs:List Value}(Z:Aa a w)(hB:B<=w.heap.size)(hS:cK B w D vs x):
  Calls prog 86 #[.agg vs.toArray] w (EE a (Hq x.either) w):=by
 obtain⟨p,c,rfl,_,hr⟩:=hS;have C1:=AA fun u (hu:Bl w u)=>Zjm V (c:=c) (Z.below hu) (AU hB hu.size) (hr.carry fun _ _ _ r=>r.carry (BJ hu hB) lr);have B0:=AA<|(AQ w.heap.size w).alloc lr<|.cells #[.bool x.allow,.slice p x.either.length c] 162;clear hr Z;go_in
 go_wp2_with fail
 refine(C1.out _ B0.out).mono ?_;rintro e w1 ⟨rfl,hb⟩;go_wp2
 go_ret
 exact⟨rfl,B0.out.trans<|hb.mono B0.out.size⟩
def Zv2 (V:E8)(Z:Aa a w)(hB:B<=w.heap.size)(hp:Ap 2 (Ni B w<|D+1) p [x])(hx:Hq x.either=0):
  Calls prog 138 #[.slice p 1 c,.func (.func 86) #[] #[]] w (EE a 0 w):=by
 have hen: ∀ args w,(callFunc 86 args).run prog w= .ok (.enter 86 args) w:=DL func86 zt rfl;obtain⟨b,o,rfl,hq⟩:=hp.at_ 0 x rfl;obtain⟨_,p1,c1,k0,k1,hS⟩:=hq.vals;simp only[Ol,Oj]at k0 k1;have B0:=AA<|(AQ w.heap.size w).alloc lr<|.cells #[.bool x.allow,.slice p1 x.either.length c1] 162;have C:=AA<|Zxi V (Z.below B0.out) (AU hB B0.out.size)<|cK.carry hS<|BJ B0.out hB;rw[hx]at C;clear hp hS hq Z;go_in
 go_wp2
 refine Dt 2 ?_;rw[A8];go_wp2_with fail
 refine mq C.out ?_;rintro w1 hb;have B1:=tr B0 hb;clear hb;rw[Ih];go_wp2_with fail
 rw[A8];go_wp2
 go_ret
 exact⟨rfl,B1.out⟩
def Z9o (V:E8)(Z:Aa a w)(hB:B<=w.heap.size)(hp:Ap 2 (Ni B w<|D+1) p [x])(hx:Hq x.either=0):
  Calls prog 40 #[.slice p 1 c] w (EE a 0 w):=by
 have C:AC (Calls prog 85 #[.slice p 1 c,.int .i64 24,.func (.func 86) #[] #[]] w<|EE a 0 w):=⟨by
  have C:=AA<|Zv2 (c:=c) V Z hB hp hx;clear hp Z;go_in
  go_wp2_with fail
  refine mq C.out ?_;rintro w1 hb;go_wp2
  go_ret
  exact⟨rfl,hb⟩⟩
 clear hp Z;go_in
 go_wp2_with fail
 refine mq C.out ?_;rintro w1 hb;go_wp2
 go_ret
 exact⟨rfl,hb⟩
end
end Go.P
namespace Go.P
def Zu4 {a:Nat->Addr}{w:World}{Ja v:Int}{key text:ByteArray}{pl:Value}{J:Value->Value->World->Prop}(Z:Aa a w)
  (CB: ∀ u,Bl w u->Calls prog 24 #[.agg #[.slice none 0 0,.slice none 0 0,.slice none 0 0]] u (EE a 0 u))
  (CP: ∀ u,Bl w u->Calls prog 40 #[pl] u (EE a 0 u))
  (CV: ∀ u,Bl w u->Calls prog 41 #[.string key,.string text] u fun e w'=> ∃ v1 v2,e= .returned (.tuple #[v1,v2,.nilIface])/\J v1 v2 w'/\Bl u w')
  (CR: ∀ v1 v2 u,J v1 v2 u->Bl w u->Calls prog 42 #[v2,.slice none 0 0] u fun e w'=>e= .returned (.bool false)/\J v1 v2 w'/\Bl u w')
  (CD: ∀ v1 v2 u,J v1 v2 u->Bl w u->Calls prog 43 #[v1,.agg #[.int .i64 Ja,.slice none 0 0,.slice none 0 0],pl] u fun e w'=>e= .returned (.int .i64 v)/\Bl u w'):
  Calls prog 23 #[.string key,.string text,.agg #[.int .i64 Ja,.slice none 0 0,.slice none 0 0],pl] w fun e w'=>e= .returned (.tuple #[.int .i64 v,.nilIface])/\Bl w w':=by
 have HB:=AA CB;have HP:=AA CP;have HV:=AA CV;have HR:=AA CR;have HD:=AA CD;have HZ:=AA Z;clear CB CP CV CR CD Z;go_in
 go_wp2_with fail
 obtain⟨W2,hW2⟩: ∃ W2,AC ((w.alloc<|.cells #[.int .i64 Ja,.slice none 0 0,.slice none 0 0] 54).alloc (.cells #[.slice none 0 0,.slice none 0 0,.slice none 0 0] 38)=W2):=⟨_,⟨rfl⟩⟩;rw[hW2.out];have B2:Bl w W2:=hW2.out▸((AQ _ w).alloc lr _).alloc zw _;have NQ:AJ W2 w.heap.size #[.int .i64 Ja,.slice none 0 0,.slice none 0 0] 54:=hW2.out▸(AJ.new w _ _).alloc _;have HQ:AC (∀ u,Bl W2 u->u.cell? ⟨w.heap.size,0,none⟩=some (.int .i64 Ja)/\u.cell? ⟨w.heap.size,1,none⟩=some (.slice none 0 0)/\u.cell? ⟨w.heap.size,2,none⟩=some (.slice none 0 0)/\Bl w u):=⟨fun u hu=>by
  have q:=(NQ.of<|hu.block _ NQ.lt).three;exact⟨q.1,q.2.1,q.2.2.1,B2.trans<|hu.mono B2.size⟩⟩
 clear hW2 NQ;refine(HB.out _ B2).mono ?_;rintro e w3 ⟨rfl,hb3⟩;have B3:=AA hb3;clear hb3 B2;rw[Ih];go_wp2_with fail
 refine(HP.out _ (HQ.out _ B3.out).2.2.2).mono ?_;rintro e w4 ⟨rfl,hb4⟩;have B4:=tr B3 hb4;clear hb4 B3;rw[Ih];go_wp2_with fail
 refine(HV.out _ (HQ.out _ B4.out).2.2.2).mono ?_;rintro e w5 ⟨v1,v2,rfl,j5,Bf⟩;have B5:=tr B4 Bf;have HJ:=AA j5;have yN:=(HZ.out.below (HQ.out _ B5.out).2.2.2).c10;rw[DC _ zu]at yN;have HI:=fun(t:TypeId) (v:Value)=>Yen t v w5;obtain⟨q0,q1,q2,_⟩:=HQ.out _ B5.out;clear Bf B4 j5;go_wp2_with fail
 refine(HI _ _).mono ?_;rintro e w6 ⟨rfl,rfl⟩;go_wp2_with fail
 refine(HR.out _ _ _ HJ.out (HQ.out _ B5.out).2.2.2).mono ?_;rintro e w7 ⟨rfl,j7,Eu⟩;have B7:=tr B5 Eu;have HJ7:=AA j7;obtain⟨r0,r1,r2,_⟩:=HQ.out _ B7.out;clear Eu j7 q0 q1 q2 yN B5 HJ;go_wp2_with fail
 refine(HD.out _ _ _ HJ7.out (HQ.out _ B7.out).2.2.2).mono ?_;rintro e w8 ⟨rfl,Gq⟩;have B8:=tr B7 Gq;clear Gq;go_wp2
 go_ret2
 exact⟨rfl,(HQ.out _ B8.out).2.2.2⟩
end Go.P
namespace Go.W
variable {x:Bk}
def Z49 (h:Ib x=0):GV x=0/\(JI x).size<=4000/\DU x=JI x:=by
 have e:DU x=JI x:=if_pos h;unfold Ib at h;split at h
 ·rename_i h';exact absurd h h'
 ·rename_i h';split at h
  ·cases h
  ·exact⟨Decidable.not_not.mp h',zx,e⟩
def Z52 (h:Ib x=0)(hi:Na x):RG TY (fun y:ByteArray×Bk=>GH y.1) (DU x,x):=fun r=>by
 obtain⟨h1,h2,h3⟩:=Z49 h;rw[h3];unfold TY GH;dsimp only;rw[MQ,GY,De.then_ok<|jQ zx _,if_neg zx,<- IR,De.then_ok<|mY _ r,Z0s<|Z17 h1 hi h2,IQ]
def Z4x {α:Type}(f:ByteArray->ByteArray): ∀ l:List (ByteArray×α),cat f (l.map (·.1))=cat (fun y=>f y.1) l
 | []=>rfl
 | x::l=>by rw[List.map_cons,cat,cat,Z4x f l]
def Zvf {xs:List Bk}{tag:By}(hne:xs≠[])(hn:xs.length<=8)(ht:tag.length=32)(hx: ∀ x,x∈xs->Ib x=0/\Na x):JK KO (bl<|Pz false (xs.map DU) tag)= .ok ⟨false,xs.map fun x=>(DU x,x),tag⟩:=by
 have hl:xs.map DU=(xs.map fun x=>(DU x,x)).map (·.1):=by rw[List.map_map];rfl
 have hm:=V8 (f:=TY) (p:=fun y:ByteArray×Bk=>GH y.1) (m:=8) (xs:=xs.map fun x=>(DU x,x)) (fun y hy=>by
  obtain⟨x,Mc,rfl⟩:=List.mem_map.mp hy;exact Z52 (hx x Mc).1 (hx x Mc).2) (by simpa using hn) zx tag
 have e:bl (Pz false (xs.map DU) tag)=Np++(bl (b1 0)++(bl (BZ (fun y:ByteArray×Bk=>GH y.1) (xs.map fun x=>(DU x,x)))++tag)):=by
  rw[hl];unfold Pz BZ;rw[Z4x,Nw,MQ,MQ,MQ,MO,MO];simp only[GY,Bool.false_eq_true,if_false]
 have hnz: ¬ (xs.map fun x=>(DU x,x)).length=0:=by simpa using hne
 have dx:=mY tag [];rw[List.append_nil,ht]at dx;rw[e,JK]
 have:KO (Np++(bl (b1 0)++(bl (BZ (fun y:ByteArray×Bk=>GH y.1) (xs.map fun x=>(DU x,x)))++tag)))= .ok (⟨false,xs.map fun x=>(DU x,x),tag⟩,[]):=by
  unfold KO;have h4:=mY Np<|bl (b1 0)++(bl (BZ (fun y:ByteArray×Bk=>GH y.1) (xs.map fun x=>(DU x,x)))++tag);rw[show Np.length=4 from rfl]at h4;rw[De.then_ok h4,if_neg zw,De.then_ok<|Tu zx _];unfold ay;rw[if_neg zx,De.then_ok hm];unfold iO;rw[if_neg hnz,De.map_ok dx];rfl
 rw[this];rfl
def Qu:ByteArray:=⟨#[107,101,121]⟩
def bu:IV:=⟨true,[xB]⟩
def lu:Ib GA=0:=zt
def Z48:Ib Ia=0:=zt
end Go.W
namespace Go.P
variable {B:Nat}{w:World}{a:Nat->Addr}
def WM:ByteArray:=Pz false [DU GA]<|DV Qu [DU GA]
def U2:ByteArray:=Pz false [DU GA,DU Ia]<|RY (DV Qu [DU GA]) [Ia]
def DW.at {B' d b o:Nat}{w':World}{vs:List Value}{x:Bk}(h:DW B w d vs x)(c:Dy B B' w w')(hb:b<B')(hv: ∀ j,j<3->w'.cell? ⟨b,o+j,none⟩=vs[j]?):Jl B' w' (d+1) b o x:=by
 obtain⟨p,k,p1,k1,p2,k2,rfl,h2,h3,h4,h5,h6,h7⟩:=DW.carry h c;exact⟨hb,⟨_,hv 0 zx,_,_,rfl,h2,h3⟩,⟨_,hv 1 zx,_,_,rfl,h4,h5⟩,_,hv 2 zx,_,_,rfl,h6,h7⟩
def Aa.sI (h:Aa a w):JG w:=by
 have hs:=h.size;obtain⟨w0,h0,h1⟩:=h;exact⟨⟨(h1 _ _ zu).2.trans h0.bits.1,(h1 _ _ zu).2.trans h0.bits.2.1,(h1 _ _ zu).2.trans h0.bits.2.2⟩,(h1 _ _ zu).2.trans<|h0.ops 2 _ rfl,hs⟩
def Z8h (V:E8)(CL:Ig)(Z:Aa a w)(hB:B<=w.heap.size)(iB:Na GA)(iC:Na Ia){pp:Option Addr}{cp:Nat}(hp:Ap 2 (Ni B w 4) pp [bu]):
  Calls prog 23 #[.string Qu,.string U2,.agg #[.int .i64 4,.slice none 0 0,.slice none 0 0],.slice pp 1 cp] w fun e w'=>e= .returned (.tuple #[.int .i64 6,.nilIface])/\Bl w w':=by
 have hch:JK KO (bl U2)= .ok ⟨false,[(DU GA,GA),(DU Ia,Ia)],RY (DV Qu [DU GA]) [Ia]⟩:=Zvf (xs:=[GA,Ia]) zw zw (nQ (Oh _) _) fun x hx=>by
  rcases List.mem_cons.mp hx with rfl | hx
  ·exact⟨lu,iB⟩
  ·obtain rfl:=List.mem_singleton.mp hx;exact⟨Z48,iC⟩
 have hsz:(bl U2).length<1000000000:=by
  rw[IR];exact mf false zw (fun t ht=>by
   rcases List.mem_cons.mp ht with rfl | ht
   ·exact Zf _
   ·obtain rfl:=List.mem_singleton.mp ht;exact Zf _)<|nQ (Oh _) _
 refine Zu4 (J:=fun v1 v2 u=>(∃ F1 W0,Bl w W0/\Bl W0 u/\AO 38 3 (Po W0 3) u v1 [GA,Ia] F1/\ ∀ k,k∈F1->k<u.heap.size)/\ ∃ F2 t0 t1,AO 9 1 GL u v2 [t0,t1] F2/\ ∀ k,k∈F2->k<u.heap.size) Z ?_ ?_ ?_ ?_ ?_
 ·intro u hu;exact nV V (B:=u.heap.size) (D:=3) (x:=⟨[],[],[]⟩) (Z.below hu) lr ⟨_,_,_,_,_,_,rfl,JB _,ZO,JB _,ZO,JB _,ZO⟩
 ·intro u hu;exact Z9o V (B:=B) (D:=3) (Z.below hu) (AU hB hu.size) (hp.carry fun _ _ _ q=>q.carry (BJ hu hB) lr) zt
 ·intro u hu
  have:=Z7v V CL (key:=Qu) (l:=bl U2) (y0:=(DU GA,GA)) (ys:=[(DU Ia,Ia)]) (Z.below hu) zu hsz hch rfl rfl zw rfl
  rw[IQ]at this;refine this.mono ?_;rintro e w' ⟨v1,v2,F1,F2,W0,rfl,h1,h2,h3,h4,h5,h6⟩;exact⟨v1,v2,rfl,⟨⟨F1,W0,hu.trans<|h1.mono hu.size,h2,h3,h5.lt⟩,F2,_,_,h4,h6.lt⟩,h1.trans<|h2.mono h1.size⟩
 ·rintro v1 v2 u ⟨⟨F1,W0,h1,h2,h3,lQ⟩,F2,t0,t1,h4,h5⟩ hu;obtain⟨p,c,rfl,_,hr⟩:=AO.rowOf (Q':=fun b o x=>b<u.heap.size/\u.cell? ⟨b,o,none⟩=some (.string x)) h4 h5 fun b o vs x G hc hb _ q=>⟨hb,by have:=hc 0 zx;rw[q.2]at this;exact this⟩;obtain⟨b,o,rfl,hb,k0⟩:=XR hr;refine(Zrb (ids:=[t0,t1]) hb (fun i t hi=>?_) zw).mono ?_
  ·obtain⟨b',o',e',_,k⟩:=hr.at_ i t hi;cases e';simpa using k
  rintro e w' ⟨rfl,hw⟩;exact⟨rfl,⟨⟨F1,W0,h1,h2.trans<|hw.mono h2.size,AO.stable (Po.stable _ _) _ _ _ _ _ h3 fun j hj=>hw.block j (lQ j hj),fun k hk=>Ba (lQ k hk) hw.size⟩,F2,t0,t1,AO.stable GL.stable _ _ _ _ _ h4 fun j hj=>hw.block j (h5 j hj),fun k hk=>Ba (h5 k hk) hw.size⟩,hw⟩
 ·rintro v1 v2 u ⟨⟨F1,W0,h1,h2,h3,lQ⟩,_⟩ hu;obtain⟨p,c,rfl,hc,hr⟩:=AO.rowOf (Q':=Jl u.heap.size u 4) h3 lQ fun b o vs x G RQ hb _ q=>DW.at q.2 (Go.W.Below.carry h2 h2.size) hb RQ;obtain⟨b,o,rfl,b0⟩:=XR hr;obtain⟨b',o',e',b1⟩:=hr.at_ 1 Ia rfl;cases e';exact Zx2 (B:=u.heap.size) (D:=1) (Z.below hu).sI lr hc b0 (by simpa using b1) (hp.carry fun _ _ _ q=>q.carry (Go.W.Below.carry (hu.mono hB)<|AU hB hu.size) lr)
end Go.P
