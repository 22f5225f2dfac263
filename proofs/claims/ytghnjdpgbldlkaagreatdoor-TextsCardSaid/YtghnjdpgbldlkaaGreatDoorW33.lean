import Derived.Test.YtghnjdpgbldlkaaGreatDoorW20
import Derived.Maps.RangeRun
import Derived.Laws.StructEq
set_option linter.defProp false
set_option maxRecDepth 100000
set_option maxHeartbeats 8000000
set_option linter.unusedSimpArgs false
open Go.Proofs Go.RowKit Go.W Tryz
namespace Go.W
variable {P:Program}{w:World}{ty:TypeId}{r bm:Nat}
def Z9e {e:MapEntry}(hr:w.heap[r]?=some (.mapIter (some bm) 1 #[] 1))(hb:w.heap[bm]?=some (.map #[e] 1))(h0:e.born=0):(Instr.next (.pointer<|Qb r 0) false ty).run P w= .ok (.tuple #[.bool true,e.key,e.val]) {w with heap:=w.heap.setIfInBounds r (.mapIter (some bm) 1 #[0] 1)}:=by
 simp[Instr.next,getObj,QM,Sem.run,hr,hb,Result.andThen,h0,choose,Question.forced,setObj]
def Z57 {e:MapEntry}(hr:w.heap[r]?=some (.mapIter (some bm) 1 #[0] 1))(hb:w.heap[bm]?=some (.map #[e] 1))(h0:e.born=0):(Instr.next (.pointer<|Qb r 0) false ty).run P w= .ok (.tuple #[.bool false]) w:=by
 simp[Instr.next,getObj,QM,Sem.run,hr,hb,Result.andThen,h0,choose,Question.forced]
end Go.W
namespace Go.P
attribute [local go_sem] MZ
section
variable {w w':World} {q p m:Nat} {cs:Array Value} {at_:List Pt} {gs:List Gt} {S:List Nat} {fs fs':List (ByteArray×Nat)} {vs aB:List T} {F F':List Nat} {xs:List (ByteArray×Nat)} {ov:Value} {Fo:List Nat}
def Ctx.grow (h:Ctx w q p m cs at_ gs S fs vs F xs ov Fo)(hw:Bv w' p fs' aB F')(ho:Off F w w')(hs: ∀ i,i∈F'->i∈F\/w.heap.size<=i):Ctx w' q p m cs at_ gs S fs' aB F' xs ov Fo:=by
 refine⟨h.bd.off ho fun j hj q=>(h.dB j hj).1 q,h.rd.of ho.size (fun k hk=>ho.block k (h.rd.lS k hk) fun q=>(h.dF k q).1 hk) ⟨rfl,fun _ _=>rfl⟩,hw,h.gl.of ho fun j hj=>(h.dF j hj).2,fun j hj=>⟨fun e=>?_,(h.dB j hj).2⟩,fun j hj=>?_⟩
 ·rcases hs j e with e | e
  ·exact(h.dB j hj).1 e
  ·have:=h.bd.lt j hj;omega
 ·rcases hs j hj with e | e
  ·exact h.dF j e
  ·exact⟨fun q=>by have:=h.rd.lS j q;omega,AU h.gl.2.2 e⟩
def Z7o (h:Ctx w q p m cs at_ gs S fs vs F [] ov Fo){b v:Nat}(hw:Uo w q b v)(l0 l1 l2 l3:Nat)(CH: ∀ u,Bl w u->Calls prog 231 #[.pointer<|Qb q 0,.agg #[.int .u64 (l0:Int),.int .u64 (l1:Int),.int .u64 (l2:Int),.int .u64 (l3:Int)]] u fun e w'=>e= .returned (.bool true)/\Bl u w'){gh ch:Nat}{y:ByteArray}(c5:cs[5]?=some (.slice (Qb gh 0) 1 ch))(TG:gh∈S)(g0:w.cell? ⟨gh,0,none⟩=some (.string y))(g1:w.cell? ⟨gh,1,none⟩=some (.int .i64 0))(g2:w.cell? ⟨gh,2,none⟩=some (.int .i64 0)){n:Nat}{fx:ByteArray×Nat}(hf:fs[n]?=some fx)(hs:l0<8)(hn:BR l0=[n])(fe: ∀ j,j∈q::m::(Fo++F)->j≠b/\j≠v)
  (CW: ∀ u Aw Aj,Ctx u q p m cs at_ gs S fs vs F [(y,fx.2)] Aw Aj->Uo u q b v->Off (q::m::Fo) w u->Calls prog 285 #[.int .i64 1,.agg #[.int .u64 ((2 ^ n:Nat):Int),.int .u64 (l1:Int),.int .u64 (l2:Int),.int .u64 (l3:Int)],.pointer<|Qb b 0,.pointer<|Qb v 0] u fun e w'=>e= .returned (.bool true)/\ ∃ F',Bv w' p fs' vs F'/\Off F u w'/\ ∀ i,i∈F'->i∈F\/u.heap.size<=i):
  Calls prog 285 #[.int .i64 0,.agg #[.int .u64 (l0:Int),.int .u64 (l1:Int),.int .u64 (l2:Int),.int .u64 (l3:Int)],.pointer<|Qb b 0,.pointer<|Qb v 0] w fun e w'=>e= .returned (.bool true)/\ ∃ Aw Aj F',Ctx w' q p m cs at_ gs S fs' vs F' [] Aw Aj/\Off (q::m::Fo++F) w w'/\(∀ i,i∈F'->i∈F\/w.heap.size<=i)/\ ∀ i,i∈Aj->i∈Fo\/w.heap.size<=i:=by
 obtain⟨po,co,rfl⟩:=h.bd.row.form;have HX:AC (∀ u,Bl w u->u.cell? ⟨b,0,none⟩=some (.pointer<|Qb q 0)/\u.cell? ⟨q,5,none⟩=some (.slice (Qb gh 0) 1 ch)/\u.cell? ⟨q,7,none⟩=some (.slice po ((([]:List (ByteArray×Nat)).map (·.1)).length) co)/\u.cell? ⟨gh,0,none⟩=some (.string y)/\u.cell? ⟨gh,1,none⟩=some (.int .i64 0)/\u.cell? ⟨gh,2,none⟩=some (.int .i64 0)):=⟨fun u hu=>by
  have h':=h.below hu;have hl:=h.rd.lS gh TG;exact⟨(hw.below hu).1.one.1,(h'.cell 5 zx).trans c5,h'.bd.cells.2.1,(Am (a:=⟨gh,0,none⟩)<|hu.block gh hl).trans g0,(Am (a:=⟨gh,1,none⟩)<|hu.block gh hl).trans g1,(Am (a:=⟨gh,2,none⟩)<|hu.block gh hl).trans g2⟩⟩
 have c0: ∀ o,(w.alloc o).cell? ⟨b,0,none⟩=_:=fun o=>(hw.1.alloc o).one.1;have HC:=AA fun o=>CH (w.alloc o) ((AQ _ w).alloc lr o);have CC:=AA fun u (hu:Bl w u)=>Zxy (h.below hu) hf hs hn y 0;have H:=AA h;have HW:=AA hw;have CW':=AA CW;clear h hw CH CW c5 g0 g1 g2;simp only[List.map_nil,D7]at HX;refine Qx func285 rfl ?_;simp only[ntmps285,E9,BO,D7,Nat.reduceAdd,Nat.reduceSub,Ju,Jv,Jr,Jt,FK,Gm];go_wp2_with fail
 refine(HC.out _).mono ?_;rintro e w5 ⟨rfl,hb⟩;have HB:=AA<|((AQ _ w).alloc lr _).trans<|hb.mono zw;have L0:=AA<|(AJ.new w #[.int .u64 (l0:Int),.int .u64 (l1:Int),.int .u64 (l2:Int),.int .u64 (l3:Int)] 340).of<|hb.block w.heap.size zw;obtain⟨b0,q5,q7,y0,y1,y2⟩:=HX.out _ HB.out;obtain⟨W6,hW6⟩: ∃ W6,AC (w5.alloc (.cells #[.string y,.int .i64 0,.int .i64 0] 401)=W6):=⟨_,⟨rfl⟩⟩;have B6:=AA<|HB.out.trans<|hW6.out▸(AQ _ w5).alloc HB.out.size (.cells #[.string y,.int .i64 0,.int .i64 0] 401);have N6:=AA<|hW6.out▸AJ.new w5 #[.string y,.int .i64 0,.int .i64 0] 401;have L6:=AA<|hW6.out▸L0.out.alloc (.cells #[.string y,.int .i64 0,.int .i64 0] 401);have hb0: ∀ o,(w5.alloc o).cell? ⟨b,0,none⟩=_:=fun o=>(HX.out _<|HB.out.alloc HB.out.size o).1;have qO: ∀ o,(w5.alloc o).cell? ⟨q,7,none⟩=_:=fun o=>(HX.out _<|HB.out.alloc HB.out.size o).2.2.1;clear hb;go_wp2_with fail
 rw[hW6.out];have yT:W6.heap.size=w5.heap.size+1:=by rw[<- hW6.out];simp
 have lw5:w.heap.size<w5.heap.size:=L0.out.lt;have HS:AC (∀ u,Bl W6 u->u.cell? ⟨b,0,none⟩=some (.pointer<|Qb q 0)/\u.cell? ⟨w5.heap.size,0,none⟩=some (.string y)/\u.cell? ⟨w5.heap.size,1,none⟩=some (.int .i64 0)/\u.cell? ⟨w5.heap.size,2,none⟩=some (.int .i64 0)/\u.cell? ⟨w.heap.size,0,none⟩=some (.int .u64 (l0:Int))):=⟨fun u hu=>by
  have n6:=(N6.out.of<|hu.block _ N6.out.lt).three;exact⟨(HX.out u (tr B6 hu).out).1,n6.1,n6.2.1,n6.2.2.1,(L6.out.of<|hu.block _ L6.out.lt).four.1⟩⟩
 have AV:=HS.out W6.drew (AQ _ W6).drew;clear hb0 qO b0 q5 q7 y0 y1 y2 c0;refine U7 (S:=fun u=>u.cell? ⟨b,0,none⟩=some (.pointer<|Qb q 0)/\u.cell? ⟨w5.heap.size,0,none⟩=some (.string y)/\u.cell? ⟨w5.heap.size,1,none⟩=some (.int .i64 0)/\u.cell? ⟨w5.heap.size,2,none⟩=some (.int .i64 0)/\u.cell? ⟨w.heap.size,0,none⟩=some (.int .u64 (l0:Int))) zt ?_;change wpAnyH _ _ _ _ _ _ _ _ (World.drew _);refine tk 0 (.pointer<|Qb q 0) AV (hy:=fun _ ⟨s0,s1,s2,s3,s4⟩=>by go_simp) ?_;try simp only[zz]
 refine tk 1 (.agg #[.string y,.int .i64 0,.int .i64 0]) AV (hy:=fun _ ⟨s0,s1,s2,s3,s4⟩=>by go_simp) ?_;try simp only[zz]
 refine tk 2 (.pointer<|Qb w5.heap.size 1) AV ?_;try simp only[zz]
 refine tk 3 (.int .i64 0) AV (hy:=fun _ ⟨s0,s1,s2,s3,s4⟩=>by go_simp) ?_;try simp only[zz]
 refine tk 4 (.pointer<|Qb w.heap.size 0) AV ?_;try simp only[zz]
 refine tk 5 (.int .u64 (l0:Int)) AV (hy:=fun _ ⟨s0,s1,s2,s3,s4⟩=>by go_simp) ?_;try simp only[zz]
 refine Eg (rs:=[6]) zt zw<|EG rfl (fun K' hK'=>?_) Eh;go_simp;refine(CC.out _ B6.out.drew).mono ?_;rintro e w8 ⟨r,rfl,hr,YZ,Gq⟩;have aJ:W6.heap.size<=r:=hr;have B8:Bl W6 w8:=(AQ _ W6).drew.trans Gq;have Yr:=HS.out w8 B8;have hrg:=run_range_map (P:=prog) w8 407 _ _ r _ _ underlying407 YZ;refine hK'.out _ _ Yr fun _=>?_;try simp only[zz]
 refine Eg (rs:=[7]) zt zw<|EG rfl (fun K' hK'=>?_) Eh;go_simp;obtain⟨W9,hW9⟩: ∃ W9,AC (w8.alloc (.mapIter (some r) 1 #[] 1)=W9):=⟨_,⟨rfl⟩⟩;have B9:Bl W6 W9:=B8.trans<|hW9.out▸(AQ _ w8).alloc B8.size _;have hS9:=HS.out W9 B9;rw[hW9.out];refine hK'.out _ _ hS9 fun _=>?_;try simp only[zz]
 refine Lp zt ?_ _;have l8:r<w8.heap.size:=(IU.1 YZ).1;have m9:W9.heap[r]?=_:=(hW9.out▸Ah w8 _ r l8).trans YZ;have i9:W9.heap[w8.heap.size]?=some (.mapIter (some r) 1 #[] 1):=hW9.out▸World.alloc_heap_new w8 _;obtain⟨WA,hWA⟩: ∃ WA,AC ({W9 with heap:=W9.heap.setIfInBounds w8.heap.size (.mapIter (some r) 1 #[0] 1)}=WA):=⟨_,⟨rfl⟩⟩;have RO:=fun ty=>Z9e (P:=prog) (ty:=ty) i9 m9 rfl;rw[hWA.out]at RO;have sz9:W9.heap.size=w8.heap.size+1:=by rw[<- hW9.out];simp
 have nA: ∀ j,j≠w8.heap.size->WA.heap[j]?=W9.heap[j]?:=fun j hj=>by rw[<- hWA.out];exact Array.getElem?_setIfInBounds_ne<|Ne.symm hj
 have szA:WA.heap.size=w8.heap.size+1:=by rw[<- hWA.out,<- sz9];simp
 have iA:WA.heap[w8.heap.size]?=some (.mapIter (some r) 1 #[0] 1):=by rw[<- hWA.out];exact Array.getElem?_setIfInBounds_self_of_lt zx
 have mA:=(nA r zx).trans m9;have l68:W6.heap.size<=w8.heap.size:=B8.size;have BA:Bl W6 WA:=B9.trans ⟨by rw[<- hWA.out],by rw[<- hWA.out],by rw[<- hWA.out],zx,fun j hj=>nA j zx⟩;have hen:=run_entry_at (P:=prog) WA w8.heap.size r 1 #[] #[{key:= .int .i64 (fx.2:Int),val:= .int .u64 ((2 ^ n:Nat):Int),born:=0}] 1 {key:= .int .i64 (fx.2:Int),val:= .int .u64 ((2 ^ n:Nat):Int),born:=0} iA mA zw zw;dsimp only at hen RO;have aW:=HS.out WA.drew BA.drew;have BW:=tr B6 BA;have CB:=AA<|Zz8 (H.out.below BW.out.drew).bd y fx.2 rfl zw;have LA:=AA<|L6.out.of<|BA.block _ L6.out.lt;have NA:=AA<|N6.out.of<|BA.block _ N6.out.lt;have IM:=AA<|AF iA mA;have Dv: ∀ j,j∈q::m::Fo->j<w.heap.size:=H.out.bd.lt;clear AV Yr hrg CC iA mA i9 m9 nA BA B9 B8 Gq YZ hS9;generalize hz:2 ^ n=z at*;go_wp2
 refine Dt 2 ?_;rw[A8];go_wp2_with fail
 refine U7 (S:=fun u=>u.cell? ⟨b,0,none⟩=some (.pointer<|Qb q 0)/\u.cell? ⟨w5.heap.size,0,none⟩=some (.string y)/\u.cell? ⟨w5.heap.size,1,none⟩=some (.int .i64 0)/\u.cell? ⟨w5.heap.size,2,none⟩=some (.int .i64 0)/\u.cell? ⟨w.heap.size,0,none⟩=some (.int .u64 (l0:Int))) zt ?_;change wpAnyH _ _ _ _ _ _ _ _ (World.drew _);refine tk 0 (.pointer<|Qb q 0) aW (hy:=fun _ ⟨s0,s1,s2,s3,s4⟩=>by go_simp) ?_;try simp only[zz]
 refine tk 1 (.pointer<|Qb q 0) aW ?_;try simp only[zz]
 refine tk 2 (.pointer<|Qb q 6) aW ?_;try simp only[zz]
 refine tk 3 (.pointer<|Qb w5.heap.size 0) aW ?_;try simp only[zz]
 refine tk 4 (.string y) aW (hy:=fun _ ⟨s0,s1,s2,s3,s4⟩=>by go_simp) ?_;try simp only[zz]
 refine tk 5 (.int .i64 (fx.2:Int)) aW ?_;try simp only[zz]
 refine Eg (rs:=[6]) zt zw<|EG rfl (fun K' hK'=>?_) Eh;go_simp;refine CB.out.mono ?_;rintro e wB ⟨rfl,pR,FB,fZ,Sm,We⟩;have hap: ∀ j,j∈q::m::Fo->j∈q::m::(Fo++F):=fun j h=>by simp only[Be,CY]at h⊢;rcases h with h | h | h <;> simp[h]
 have nn: ∀ j,w.heap.size<=j->j∉q::m::Fo:=fun j hj h=>by have:=Dv j h;omega
 have hBl: ∀ j,w.heap.size<=j->j<WA.heap.size->wB.heap[j]?=WA.heap[j]?:=fun j h1 h2=>Sm.block j h2 (nn j h1);have lbA:b<WA.heap.size:=Ba HW.out.1.lt BW.out.size;have lvA:v<WA.heap.size:=Ba HW.out.2.lt BW.out.size;have LB:=LA.out.of<|hBl _ lr LA.out.lt;have NB:=NA.out.of<|hBl _ zx NA.out.lt;have TB:Uo wB q b v:=⟨(HW.out.below BW.out).1.of (Sm.block b lbA fun h=>(fe b<|hap _ h).1 rfl),(HW.out.below BW.out).2.of (Sm.block v lvA fun h=>(fe v<|hap _ h).2 rfl)⟩;have XB:=(H.out.below BW.out.drew).step fZ Sm We ⟨rfl,fun _ _=>rfl⟩;refine hK'.out _ _ ⟨TB.1.one.1,NB.three.1,NB.three.2.1,NB.three.2.2.1,LB.four.1⟩ fun _=>?_;try simp only[zz]
 refine Lp zt ?_ _;obtain⟨WC,hWC⟩: ∃ WC,AC (wB.setCell ⟨w.heap.size,0,none⟩ (.int .u64 (z:Int))=WC):=⟨_,⟨rfl⟩⟩;have lBA:WA.heap.size<=wB.heap.size:=Sm.size;have OC:Off [w.heap.size] wB WC:=hWC.out▸(Off.refl _ wB).set w.heap.size 0 _ zw;have VR: ∀ i,i∈FB->i∈Fo\/WA.heap.size<=i:=We;have y9: ∀ j,w.heap.size<=j->j<WA.heap.size->j∉q::m::FB:=fun j h1 h2 h=>by
  simp only[Be]at h;rcases h with rfl | rfl | h
  ·have:=Dv j zw;omega
  ·have:=Dv j zw;omega
  ·rcases VR j h with h | h
   ·have:=Dv j (by simp[h]);omega
   ·omega
 have F9: ∀ j,j∈F->j<w.heap.size:=fun j hj=>H.out.wd.lt j hj;have XC:=XB.other OC fun j hj=>by
  obtain rfl:=MX.1 hj;exact⟨y9 _ lr LA.out.lt,fun h=>by have:=F9 _ h;omega,fun h=>by have:=H.out.rd.lS _ h;omega,H.out.gl.2.2⟩
 have AX:b≠w.heap.size:=by have:=HW.out.1.lt;omega
 have hvw:v≠w.heap.size:=by have:=HW.out.2.lt;omega
 have TC:Uo WC q b v:=⟨TB.1.of<|OC.block b TB.1.lt (by simpa using AX),TB.2.of<|OC.block v TB.2.lt (by simpa using hvw)⟩;have SF:Off (q::m::Fo) w WC:=((Off.of BW.out).drew.trans Sm fun _ h=> .inl h).trans OC fun i h=> .inr (by simp at h;omega);have LC:AJ WC w.heap.size #[.int .u64 (z:Int),.int .u64 (l1:Int),.int .u64 (l2:Int),.int .u64 (l3:Int)] 340:=hWC.out▸LB.set 0 _;have CWC:=AA<|CW'.out WC pR FB XC TC SF;obtain⟨k0,k1,k2,k3,ks⟩:=LC.four;obtain⟨j0,j1,j2,j3,js⟩:=LB.four;have n1:=NB.three.2.1;have n1':=fun a x=>(NB.away w.heap.size a zx x).three.2.1;have vC:=TC.2.one.1;have henT: ∀ args w,(callFunc 285 args).run prog w= .ok (.enter 285 args) w:=DL func285 zt rfl;have Ku: ∀ i,i∈FB->i∈Fo\/w.heap.size<=i:=fun i hi=>(VR i hi).imp id zx;have XX:=AA<|AF XC<|AF SF<|AF TC<|AF VR OC;have dG:=AA hBl;rw[<- hWC.out]at vC k0 k1 k2 k3;clear We VR XB XC TB TC OC SF LB LC NB fZ Sm hBl;go_wp2_with fail
 rw[hWC.out];refine CWC.out.mono ?_;rintro e wD ⟨rfl,F',zP,Sl,qL⟩;obtain⟨XC,SF,TC,We,OC⟩:=XX.out;have XD:=XC.grow zP Sl qL;have hsC:=OC.size;have Yx: ∀ i,i∈F'->i∈F\/w.heap.size<=i:=fun i hi=>(qL i hi).imp id fun h=>AU SF.size h;have bD:=(TC.1.of (Sl.block b TC.1.lt fun h=>(fe b (by simp[h])).1 rfl)).one.1;have CFr:=AA<|jG XD.bd zw;have nD: ∀ j,w.heap.size<j->j<WA.heap.size->wD.heap[j]?=WA.heap[j]?:=fun j h1 h2=>((Sl.block j zx fun h=>by have:=F9 j h;omega).trans<|OC.block j zx (by simp;omega)).trans (dG.out j zx h2);have YY:=AA<|AF XD<|AF Sl<|AF Yx<|AF nD SF;clear XD Sl Yx nD zP qL XC SF TC We OC XX dG CWC vC k0 k1 k2 k3 ks j0 j1 j2 j3 js n1 n1';go_wp2_with fail
 refine CFr.out.mono ?_;rintro e wE ⟨rfl,ovE,hbE,aL⟩;obtain⟨XD,Sl,Yx,nD,SF⟩:=YY.out;have XE:=XD.step hbE aL (fun _ h=> .inl h) ⟨rfl,fun _ _=>rfl⟩;have hsC:WA.heap.size<=wD.heap.size:=by have:=Sl.size;omega
 have nE: ∀ j,w.heap.size<j->j<WA.heap.size->wE.heap[j]?=WA.heap[j]?:=fun j h1 h2=>(aL.block j zx<|y9 j zx h2).trans (nD j h1 h2);have hdn:=fun ty=>Z57 (P:=prog) (ty:=ty) ((nE w8.heap.size zx zx).trans IM.out.1) ((nE r zx zx).trans IM.out.2) rfl;have ZZ:=AA<|AF XE<|AF aL<|AF Sl<|AF Yx SF;clear SF XD Sl Yx nD XE aL hbE nE;go_wp2_with fail
 rw[A8];go_wp2
 go_ret
 obtain⟨XE,aL,Sl,Yx,SF⟩:=ZZ.out;refine⟨rfl,ovE,FB,F',XE,((SF.mono fun i hi=>UF F hi).trans Sl fun i hi=> .inl (UH _ hi)).trans aL fun i hi=>?_,Yx,Ku⟩;simp only[Be,CY]at hi⊢;rcases hi with h | h | h
 ·exact .inl<|.inl<|.inl h
 ·exact .inl<|.inl<|.inr<|.inl h
 ·exact(Ku i h).imp (fun h=> .inl (.inr<|.inr h)) id
end
end Go.P
namespace Go.P
attribute [local go_sem] MZ
def Zr3 {w:World}{q p m:Nat}{cs:Array Value}{x:Pt}{gs:List Gt}{S:List Nat}{fs:List (ByteArray×Nat)}{vs:List T}{F:List Nat}{xs:List (ByteArray×Nat)}{ov:Value}{Fo:List Nat}(h:Ctx w q p m cs [x] gs S fs vs F xs ov Fo){seen a0 a1 a2 a3 s0:Nat}(MB:seen<=60)(c8:cs[8]?=some (.int .u64 (a0:Int)))(c9:cs[9]?=some (.int .u64 (a1:Int)))(c10:cs[10]?=some (.int .u64 (a2:Int)))(c11:cs[11]?=some (.int .u64 (a3:Int)))(hs:bits BinOp.andNot IntKind.u64 (a0:Int) ((2 ^ seen-1:Nat):Int)=(s0:Int))(R:World->World->Prop)(CT: ∀ u,Bl w u->Calls prog 257 #[.pointer<|Qb q 0,.agg #[.int .u64 (s0:Int),.int .u64 (a1:Int),.int .u64 (a2:Int),.int .u64 (a3:Int)]] u fun e w'=>e= .returned (.bool true)/\R u w')(hR: ∀ u w',Bl w u->R u w'->R w w'):
  Calls prog 228 #[.pointer<|Qb q 0,.int .i64 (seen:Int)] w fun e w'=>e= .returned (.bool true)/\R w w':=by
 obtain⟨pa,ca,c3,_⟩:=h.rd.atoms;simp only[BO,D7,Hr]at c3;have q3:=(h.cell 3 zx).trans c3;have q8:=(h.cell 8 zx).trans c8;have q9:=(h.cell 9 zx).trans c9;have q10:=(h.cell 10 zx).trans c10;have q11:=(h.cell 11 zx).trans c11;have CB:=AA<|jH seen MB;have HC:=AA CT;have HR:=AA hR;clear CT hR h c3 c8 c9 c10 c11;refine Qx func228 rfl ?_;simp only[ntmps228,E9,BO,D7,Nat.reduceAdd,Nat.reduceSub,Ju,Jv,Jr,Jt,FK,Gm];go_wp2
 refine Dt 2 ?_;rw[A8];go_wp2
 refine Dt 1 ?_;rw[A8];go_wp2
 go_region_with ((go_at_call 254;refine(CB.out _).mono ?_;rintro e _ ⟨rfl,rfl⟩))
 all_goals
  go_wp2_with fail
  refine(HC.out _ ((AQ _ w).alloc lr _).drew).mono ?_;rintro e w9 ⟨rfl,hr⟩;have hF:=HR.out _ _ ((AQ _ w).alloc lr _).drew hr;clear hr;go_wp2_with fail
  rw[A8];go_wp2
  go_ret
  exact⟨rfl,hF⟩
end Go.P
namespace Go.P
variable {y pn:ByteArray}{k n a0 a1 a2 a3:Nat}{fx:ByteArray×Nat}
def Z3p (v k:Nat)(h:y.size≠0):GK [(y,v)] (y,k)=(v,true):=by
 unfold GK;rw[if_neg h];simp[Jg]
section
variable {w:World} {q p m:Nat} {cs:Array Value} {at_:List Pt} {x:Pt} {gs:List Gt} {S:List Nat} {fs:List (ByteArray×Nat)} {vs:List T} {F:List Nat} {xs:List (ByteArray×Nat)} {ov:Value} {Fo:List Nat}
def oD (w w':World) (q p m:Nat) (cs:Array Value) (x:Pt) (gs:List Gt) (S:List Nat) (fs:List (ByteArray×Nat)) (vs:List T) (F Fo:List Nat) (u:World):Prop:= ∃ Aw Aj F',Ctx w' q p m cs [x] gs S fs vs F' [] Aw Aj/\Off (q::m::Fo++F) u w'/\(∀ i,i∈F'->i∈F\/w.heap.size<=i)/\ ∀ i,i∈Aj->i∈Fo\/w.heap.size<=i
structure Hm (w:World) (cs:Array Value) (S:List Nat) (pn y:ByteArray) (k:Nat):Prop where
 home: ∃ gh ch,cs[5]?=some (.slice (Qb gh 0) 1 ch)/\gh∈S/\w.cell? ⟨gh,0,none⟩=some (.string y)/\w.cell? ⟨gh,1,none⟩=some (.int .i64 0)/\w.cell? ⟨gh,2,none⟩=some (.int .i64 0)
 head:cs[1]?=some (.string pn)/\ ∃ g c,cs[2]?=some (.slice (Qb g 0) 1 c)/\g∈S/\JL w g (y,k)
 sz:y.size≠0
def Hm.of {w':World}{cs':Array Value}(h:Hm w cs S pn y k)(hs:w.heap.size<=w'.heap.size)(hb: ∀ j,j∈S->w'.heap[j]?=w.heap[j]?)(hc: ∀ j,j<6->cs'[j]?=cs[j]?):Hm w' cs' S pn y k:=by
 obtain⟨⟨gh,ch,c5,m1,g0,g1,g2⟩,⟨c1,g,c,c2,m2,hg⟩,hy⟩:=h;exact⟨⟨gh,ch,(hc 5 zx).trans c5,m1,(Am (a:=⟨gh,0,none⟩)<|hb gh m1).trans g0,(Am (a:=⟨gh,1,none⟩)<|hb gh m1).trans g1,(Am (a:=⟨gh,2,none⟩)<|hb gh m1).trans g2⟩,⟨(hc 1 zx).trans c1,g,c,(hc 2 zx).trans c2,m2,hg.of hs<|hb g m2⟩,hy⟩
def Z7n (h:Ctx w q p m cs [x] gs S fs vs F [] ov Fo)(hm:Hm w cs S pn y k){l0 l1 l2 l3:Nat}(hs:l0<8)(hn:BR l0=[n])(hf:fs[n]?=some fx)(hN:OU (pn,fx.2) fs)(hl:fs.length<60):
  Calls prog 257 #[.pointer<|Qb q 0,.agg #[.int .u64 (l0:Int),.int .u64 (l1:Int),.int .u64 (l2:Int),.int .u64 (l3:Int)]] w fun e w'=>e= .returned (.bool true)/\oD w w' q p m cs x gs S (fs++[(pn,fx.2)]) vs F Fo w:=by
 have hz:2 ^ n<8/\BR (2 ^ n)=[n]:=by
  have:n<3:=Nq (s:=l0) (by rw[hn];simp)
  have:n=0\/n=1\/n=2:=zx
  rcases this with rfl | rfl | rfl <;> exact⟨zu,zu⟩
 refine Z7m l0 l1 l2 l3 true (fun u w'=>oD w w' q p m cs x gs S (fs++[(pn,fx.2)]) vs F Fo u) (fun u b v hb lb lv hw=>?_) fun u w' hb ⟨Aw,Aj,F',h1,h2,h3⟩=>⟨Aw,Aj,F',h1,(Off.of hb).trans h2 fun _ h=> .inl h,h3⟩;have S9:=hm.of (cs':=cs) hb.size (fun j hj=>hb.block j (h.rd.lS j hj)) fun _ _=>rfl;obtain⟨⟨gh,ch,c5,m1,g0,g1,g2⟩,_,_⟩:=S9;refine(Z7o (h.below hb) hw l0 l1 l2 l3 (fun u' WX=>vB ((h.below hb).below WX) l0 l1 l2 l3 hs hn) c5 m1 g0 g1 g2 hf hs hn (fun j hj=>?_) (fs':=fs++[(pn,fx.2)]) fun u' Aw Aj hc ht ho=>?_).mono ?_
 ·have:j<w.heap.size:=by
   simp only[Be,CY]at hj;rcases hj with rfl | rfl | hj | hj
   ·exact h.bd.lt _ zw
   ·exact h.bd.lt _ zw
   ·exact h.bd.lt _ (by simp[hj])
   ·exact h.wd.lt _ hj
  exact⟨zx,zx⟩
 ·have S8:=(hm.of (cs':=cs) hb.size (fun j hj=>hb.block j (h.rd.lS j hj)) fun _ _=>rfl).of (cs':=cs) ho.size (fun j hj=>ho.block j (Ba (h.rd.lS j hj) hb.size) fun q=>(h.dB j q).2.1 hj) fun _ _=>rfl;obtain⟨_,⟨c1,g,c,c2,m2,hg⟩,hy⟩:=S8;have e:=Z3p fx.2 k hy
  have:=Z98 hc ht (k:=1) (2 ^ n) l1 l2 l3 (fun u'' rE=>vB (hc.below rE) (2 ^ n) l1 l2 l3 hz.1 hz.2) c5 c1 c2 hg (by rw[e];exact hN) hl (fun hj=>by have:=h.wd.lt b hj;omega)
  rw[e]at this;exact this
 ·rintro e w' ⟨rfl,Aw,Aj,F',h1,h2,h3,h4⟩;exact⟨rfl,Aw,Aj,F',h1,h2,fun i hi=>(h3 i hi).imp id (AU hb.size),fun i hi=>(h4 i hi).imp id (AU hb.size)⟩
def Z7p (h:Ctx w q p m cs at_ gs S fs vs F xs ov Fo)(h4:at_.length<=4)(hk:0<at_.length)(l1 l2 l3:Nat):
  Calls prog 257 #[.pointer<|Qb q 0,.agg #[.int .u64 ((0:Nat):Int),.int .u64 (l1:Int),.int .u64 (l2:Int),.int .u64 (l3:Int)]] w fun e w'=>e= .returned (.bool true)/\Bl w w':=
 Z7m 0 l1 l2 l3 true (fun u w'=>Bl u w') (fun _ _ _ hb _ _ hw=>Z7l hw 0 0 l1 l2 l3 fun _ hu=>Z5n ((h.below hb).below hu) h4 hk l1 l2 l3) fun _ _ hb h=>hb.trans (h.mono hb.size)
def Zyf (h:Ctx w q p m cs [x] gs S fs vs F [] ov Fo)(hm:Hm w cs S pn y k){seen s0:Nat}(MB:seen<=60)(c8:cs[8]?=some (.int .u64 (a0:Int)))(c9:cs[9]?=some (.int .u64 (a1:Int)))(c10:cs[10]?=some (.int .u64 (a2:Int)))(c11:cs[11]?=some (.int .u64 (a3:Int)))(ha:bits BinOp.andNot IntKind.u64 (a0:Int) ((2 ^ seen-1:Nat):Int)=(s0:Int))(hs:s0<8)(hn:BR s0=[n])(hf:fs[n]?=some fx)(hN:OU (pn,fx.2) fs)(hl:fs.length<60):
  Calls prog 228 #[.pointer<|Qb q 0,.int .i64 (seen:Int)] w fun e w'=>e= .returned (.bool true)/\oD w w' q p m cs x gs S (fs++[(pn,fx.2)]) vs F Fo w:=by
 refine Zr3 h MB c8 c9 c10 c11 ha (fun u w'=>oD w w' q p m cs x gs S (fs++[(pn,fx.2)]) vs F Fo u) (fun u hu=>?_) fun u w' hb ⟨Aw,Aj,F',h1,h2,h3⟩=>⟨Aw,Aj,F',h1,(Off.of hb).trans h2 fun _ h=> .inl h,h3⟩;refine(Z7n (h.below hu) (hm.of hu.size (fun j hj=>hu.block j (h.rd.lS j hj)) fun _ _=>rfl) hs hn hf hN hl).mono ?_;rintro e w' ⟨rfl,Aw,Aj,F',h1,h2,h3,h4⟩;exact⟨rfl,Aw,Aj,F',h1,h2,fun i hi=>(h3 i hi).imp id (AU hu.size),fun i hi=>(h4 i hi).imp id (AU hu.size)⟩
def Zyg (h:Ctx w q p m cs [x] gs S fs vs F xs ov Fo){seen:Nat}(MB:seen<=60)(c8:cs[8]?=some (.int .u64 (a0:Int)))(c9:cs[9]?=some (.int .u64 (a1:Int)))(c10:cs[10]?=some (.int .u64 (a2:Int)))(c11:cs[11]?=some (.int .u64 (a3:Int)))(ha:bits BinOp.andNot IntKind.u64 (a0:Int) ((2 ^ seen-1:Nat):Int)=((0:Nat):Int)):
  Calls prog 228 #[.pointer<|Qb q 0,.int .i64 (seen:Int)] w fun e w'=>e= .returned (.bool true)/\Bl w w':=
 Zr3 h MB c8 c9 c10 c11 ha (fun u w'=>Bl u w') (fun _ hu=>Z7p (h.below hu) zw zw a1 a2 a3) fun _ _ hb h=>hb.trans (h.mono hb.size)
end
end Go.P
namespace Go.P
attribute [local go_sem] MZ
def Zxe {w:World}{p n a0 a1 a2 a3:Nat}{hn:ByteArray}{pt pb pg:Option Addr}{nt ct nb cb ng cg:Nat}{J J2:Nat->World->Prop}(sJ: ∀ q u v,J q u->Bl u v->J q v)(yX: ∀ q u v,J2 q u->Bl u v->J2 q v)
  (CB: ∀ u,Bl w u->Calls prog 226 #[.pointer<|Qb p 0,.agg #[.string hn,.slice pt nt ct,.slice pb nb cb,.slice pg ng cg]] u fun e w'=> ∃ q,e= .returned (.pointer<|Qb q 0)/\J q w')
  (hJ: ∀ q u,J q u-> ∃ g c,u.cell? ⟨p,0,none⟩=some (.slice g n c))
  (CL: ∀ q u,J q u->Calls prog 227 #[.pointer<|Qb q 0,.int .i64 0,.int .i64 (n:Int)] u fun e w'=>e= .returned (.tuple #[])/\J2 q w')
  (CA: ∀ q u,J2 q u->Calls prog 230 #[.pointer<|Qb q 0] u fun e w'=>e= .returned (.bool true)/\Bl u w')
  (hJ2: ∀ q u,J2 q u->u.cell? ⟨q,8,none⟩=some (.int .u64 (a0:Int))/\u.cell? ⟨q,9,none⟩=some (.int .u64 (a1:Int))/\u.cell? ⟨q,10,none⟩=some (.int .u64 (a2:Int))/\u.cell? ⟨q,11,none⟩=some (.int .u64 (a3:Int)))
  (CH: ∀ q u,J2 q u->Calls prog 231 #[.pointer<|Qb q 0,.agg #[.int .u64 (a0:Int),.int .u64 (a1:Int),.int .u64 (a2:Int),.int .u64 (a3:Int)]] u fun e w'=>e= .returned (.bool true)/\Bl u w'):
  Calls prog 195 #[.pointer<|Qb p 0,.agg #[.string hn,.slice pt nt ct,.slice pb nb cb,.slice pg ng cg]] w fun e w'=>e= .returned (.bool true)/\ ∃ q,J2 q w':=by
 have HB:=AA CB;have HL:=AA CL;have HA:=AA CA;have HC:=AA CH;have SJ:=AA sJ;have SJ2:=AA yX;have HJ:=AA hJ;have dD:=AA hJ2;clear CB CL CA CH sJ yX hJ hJ2;refine Qx func195 rfl ?_;simp only[ntmps195,E9,BO,D7,Nat.reduceAdd,Nat.reduceSub,Ju,Jv,Jr,Jt,FK,Gm];go_wp2_with fail
 refine(HB.out _<|(AQ _ w).alloc lr _).mono ?_;rintro e w1 ⟨q,rfl,j1⟩;obtain⟨g,c,p0⟩:=HJ.out q w1 j1;have J1:=AA j1;clear j1;go_wp2_with fail
 refine(HL.out q _ J1.out).mono ?_;rintro e w2 ⟨rfl,j2⟩;have J2:=AA j2;clear j2 p0;go_wp2_with fail
 refine(HA.out q _ J2.out).mono ?_;rintro e w3 ⟨rfl,hb3⟩;have j3:=SJ2.out q _ _ J2.out hb3;obtain⟨z0,z1,z2,z3⟩:=dD.out q _ j3;have J3:=AA j3;clear j3 hb3;go_wp2_with fail
 refine(HC.out q _ J3.out).mono ?_;rintro e w4 ⟨rfl,hb4⟩;have J4:=AA<|SJ2.out q _ _ J3.out hb4;clear hb4;go_wp2
 go_ret
 exact⟨rfl,q,J4.out⟩
end Go.P
namespace Go.P
variable {g c:Nat}{s:ByteArray×Nat}{w:World}
def Z8v (x:ByteArray)(k:Nat)(w:World):(binOp .eql 368 (.agg #[.string x,.int .i64 (k:Int)])<|.agg #[.string x,.int .i64 (k:Int)]).run prog w= .ok (.bool true) w:=by
 rw[run_eql_struct,run_equalIn_struct w _ _ _ _ zt zt];go_simp
def Zzf (p:Option Addr)(c:Nat)(x:Value)(y:Value)(w:World):Calls prog 293 #[.slice p 0 c,.agg #[x,y]] w fun e w'=>e= .returned (.int .i64 (-1))/\Bl w w':=by
 have B0:=fun o=>(AQ w.heap.size w).alloc lr o;go_in
 go_wp2
 refine Dt 1 ?_;rw[A8];go_wp2
 go_ret
 exact⟨rfl,B0 _⟩
def Z3j (hg:JL w g s):Calls prog 293 #[.slice (Qb g 0) 1 c,.agg #[.string s.1,.int .i64 (s.2:Int)]] w fun e w'=>e= .returned (.int .i64 0)/\Bl w w':=by
 have hg0:=fun o=>(hg.of (w':=w.alloc o) zw<|Ah _ _ _ hg.1).2.1;have Wm:=fun o=>(hg.of (w':=w.alloc o) zw<|Ah _ _ _ hg.1).2.2.1;have he:=Z8v s.1 s.2;have B0:=fun o=>(AQ w.heap.size w).alloc lr o;clear hg;go_in
 go_wp2
 refine Dt 1 ?_;rw[A8];go_wp2
 go_quiet (fail)
 all_goals
  go_wp2
  go_ret
  exact⟨rfl,KR<|B0 _⟩
def Zri (p:Option Addr)(c:Nat)(x:Value)(y:Value)(w:World):Calls prog 280 #[.slice p 0 c,.agg #[x,y]] w fun e w'=>e= .returned (.bool false)/\Bl w w':=by
 have C:=AA fun o=>Zzf p c x y (w.alloc o);have B0:=fun o=>(AQ w.heap.size w).alloc lr o;go_in
 go_wp2_with fail
 refine(C.out _).mono ?_;rintro e w' ⟨rfl,hb⟩;go_wp2
 go_ret
 exact⟨rfl,(B0 _).trans<|hb.mono zw⟩
def Zt9 (hg:JL w g s):Calls prog 280 #[.slice (Qb g 0) 1 c,.agg #[.string s.1,.int .i64 (s.2:Int)]] w fun e w'=>e= .returned (.bool true)/\Bl w w':=by
 have C:=AA fun o=>Z3j (c:=c) (hg.of (w':=w.alloc o) zw<|Ah _ _ _ hg.1);have B0:=fun o=>(AQ w.heap.size w).alloc lr o;clear hg;go_in
 go_wp2_with fail
 refine(C.out _).mono ?_;rintro e w' ⟨rfl,hb⟩;go_wp2
 go_ret
 exact⟨rfl,(B0 _).trans<|hb.mono zw⟩
def Zyl (f:Value)(w:World):Calls prog 294 #[.slice none 0 0,f] w fun e w'=>e= .returned (.int .i64 (-1))/\w'=w:=by
 go_in
 go_wp2
 refine Dt 1 ?_;rw[A8];go_wp2
 go_ret
 exact⟨rfl,rfl⟩
def Zq9 (f:Value)(w:World):Calls prog 281 #[.slice none 0 0,f] w fun e w'=>e= .returned (.bool false)/\w'=w:=by
 have C:=AA<|Zyl f w;go_in
 go_wp2_with fail
 refine mq C.out ?_;rintro w' rfl;go_wp2
 go_ret
 exact⟨rfl,rfl⟩
end Go.P
namespace Go.P
variable {w:World}{g' ga c' ca:Nat}{n n':ByteArray}{x:ByteArray×Nat}
def Z5q {g c:Nat}{x:ByteArray}{k:Nat}(hx:(x.toList==[])=false)(hg:JL w g (x,k))(a0:w.cell? ⟨ga,0,none⟩=some (.string n'))(a1:w.cell? ⟨ga,1,none⟩=some (.slice (Qb g' 0) 1 c'))(Gz:JL w g' (x,k)):
  Calls prog 252 #[.agg #[.string n,.slice (Qb g 0) 1 c],.slice (Qb ga 0) 1 ca] w fun e w'=> ∃ gh ch,e= .returned (.slice (Qb gh 0) 1 ch)/\w.heap.size<=gh/\w'.cell? ⟨gh,0,none⟩=some (.string x)/\w'.cell? ⟨gh,1,none⟩=some (.int .i64 0)/\w'.cell? ⟨gh,2,none⟩=some (.int .i64 0)/\Bl w w':=by
 have HB:=fun o=>(AQ w.heap.size w).alloc lr o;have UY:=Ll a0;have ZF:=fun o=>(Am (a:=⟨ga,0,none⟩)<|Ah w o _ UY).trans a0;have Vo:=fun o=>(Am (a:=⟨ga,1,none⟩)<|Ah w o _ UY).trans a1;have sH:=fun o=>(Gz.of (w':=w.alloc o) zw<|Ah _ _ _ Gz.1).2.1;have Vk:=fun o=>(Gz.of (w':=w.alloc o) zw<|Ah _ _ _ Gz.1).2.2.1;have iG:=fun o o'=>(Gz.of (w':=(w.alloc o).alloc o') (by simp;omega)<|((HB o).alloc zw o').block _ Gz.1).2.1;have iF:=fun o o'=>(Gz.of (w':=(w.alloc o).alloc o') (by simp;omega)<|((HB o).alloc zw o').block _ Gz.1).2.2.1;have HG:=AA hg;have HG':=AA Gz;have Dw:=fun(fn:Fn) (first cap:Array Value) (w:World)=>(rfl:(Instr.makeFunc fn first cap).run prog w= .ok (.func fn first cap) w);clear hg Gz;go_in
 go_wp2
 refine Dt 2 ?_;rw[A8];go_wp2
 refine Dt 2 ?_;rw[A8];go_wp2_with fail
 obtain⟨W3,hW3⟩: ∃ W3,AC (((w.alloc<|.cells #[.string n,.slice (Qb g 0) 1 c] 323).alloc<|.cells #[.string n',.slice (Qb g' 0) 1 c'] 323).alloc (.cells #[.string x,.int .i64 (k:Int)] 368)=W3):=⟨_,⟨rfl⟩⟩;have B3:AC (Bl w W3):=⟨hW3.out▸(((AQ _ w).alloc lr _).alloc zw _).alloc (by simp;omega) _⟩;have S3:AC (W3.heap.size=w.heap.size+3):=⟨by rw[<- hW3.out];simp⟩;have L2:AC (AJ W3 (w.heap.size+1+1) #[.string x,.int .i64 (k:Int)] 368):=⟨hW3.out▸UC w _ _ _ _⟩;rw[hW3.out];refine(Zt9 (c:=c)<|HG.out.of B3.out.size<|B3.out.block g HG.out.1).mono ?_;rintro e w5 ⟨rfl,Bf⟩;have B5:=tr B3 Bf;have L5:=AA<|L2.out.of<|Bf.block _ L2.out.lt;have z0:=L5.out.two.1;have z0':=fun o=>(L5.out.alloc o).two.1;have CF:=AA fun f=>Zq9 f w5;clear Bf;go_wp2_with fail
 refine(CF.out _).mono ?_;rintro e w6 ⟨rfl,h6⟩;obtain rfl:=h6.symm;go_wp2_with fail
 rw[A8];go_wp2_with fail
 rw[A8];go_wp2_with fail
 have pI:=B5.out;go_ret
 have hn:=Jd w5 (.cells #[.string x,.int .i64 0,.int .i64 0] 401) (#[.string x,.int .i64 0,.int .i64 0]++Builtin.zeroCells #[.string ⟨#[]⟩,.int .i64 0,.int .i64 0] ((Question.appendCap 1 0 401).cut (w5.tape w5.drawn<|Question.appendCap 1 0 401)-1)) 401;exact⟨w5.heap.size+1,_,rfl,by have:=pI.size;omega,(hn.cell 0).trans (by rw[Ry zw];rfl),(hn.cell 1).trans (by rw[Ry zw];rfl),(hn.cell 2).trans (by rw[Ry zw];rfl),((pI.alloc pI.size _).alloc (by have:=pI.size;simp;omega) _).drew⟩
def Z5p (hx:(x.1.toList==[])=true)(a0:w.cell? ⟨ga,0,none⟩=some (.string n'))(a1:w.cell? ⟨ga,1,none⟩=some (.slice (Qb g' 0) 1 c'))(Gz:JL w g' x):
  Calls prog 252 #[.agg #[.string n,.slice none 0 0],.slice (Qb ga 0) 1 ca] w fun e w'=>e= .returned (.slice none 0 0)/\Bl w w':=by
 have HB:=fun o=>(AQ w.heap.size w).alloc lr o;have UY:=Ll a0;have ZF:=fun o=>(Am (a:=⟨ga,0,none⟩)<|Ah w o _ UY).trans a0;have Vo:=fun o=>(Am (a:=⟨ga,1,none⟩)<|Ah w o _ UY).trans a1;have iG:=fun o o'=>(Gz.of (w':=(w.alloc o).alloc o') (by simp;omega)<|((HB o).alloc zw o').block _ Gz.1).2.1;have iF:=fun o o'=>(Gz.of (w':=(w.alloc o).alloc o') (by simp;omega)<|((HB o).alloc zw o').block _ Gz.1).2.2.1;have Dw:=fun(fn:Fn) (first cap:Array Value) (w:World)=>(rfl:(Instr.makeFunc fn first cap).run prog w= .ok (.func fn first cap) w);clear Gz;go_in
 go_wp2
 refine Dt 2 ?_;rw[A8];go_wp2
 refine Dt 2 ?_;rw[A8];go_wp2_with fail
 rw[A8];go_wp2_with fail
 rw[A8];go_wp2
 go_ret
 exact⟨rfl,(((HB _).alloc zw _).alloc (by simp;omega) _)⟩
def Z5r {g0 g1 c0 c1:Nat}{x1:ByteArray×Nat}{n0 n1:ByteArray}(hx:(x.1.toList==[])=true)(hx1:(x1.1.toList==[])=false)(a0:w.cell? ⟨ga,0,none⟩=some (.string n0))(a1:w.cell? ⟨ga,1,none⟩=some (.slice (Qb g0 0) 1 c0))(a2:w.cell? ⟨ga,2,none⟩=some (.string n1))(a3:w.cell? ⟨ga,3,none⟩=some (.slice (Qb g1 0) 1 c1))(hg:JL w g0 x)(Wm:JL w g1 x1):
  Calls prog 252 #[.agg #[.string n,.slice none 0 0],.slice (Qb ga 0) 2 ca] w fun e w'=>e= .returned (.slice none 0 0)/\Bl w w':=by
 have HB:=fun o=>(AQ w.heap.size w).alloc lr o;have UY:=Ll a0;have ZF:=fun o=>(Am (a:=⟨ga,0,none⟩)<|Ah w o _ UY).trans a0;have Vo:=fun o=>(Am (a:=⟨ga,1,none⟩)<|Ah w o _ UY).trans a1;have iG:=fun o o'=>(hg.of (w':=(w.alloc o).alloc o') (by simp;omega)<|((HB o).alloc zw o').block _ hg.1).2.1;have iF:=fun o o'=>(hg.of (w':=(w.alloc o).alloc o') (by simp;omega)<|((HB o).alloc zw o').block _ hg.1).2.2.1;have Dw:=fun(fn:Fn) (first cap:Array Value) (w:World)=>(rfl:(Instr.makeFunc fn first cap).run prog w= .ok (.func fn first cap) w);obtain⟨W3,hW3⟩: ∃ W3,AC (((w.alloc<|.cells #[.string n,.slice none 0 0] 323).alloc<|.cells #[.string n0,.slice (Qb g0 0) 1 c0] 323).alloc (.cells #[.string x.1,.int .i64 (x.2:Int)] 368)=W3):=⟨_,⟨rfl⟩⟩;have B3:Bl w W3:=hW3.out▸(((AQ _ w).alloc lr _).alloc zw _).alloc (by simp;omega) _;have S3:W3.heap.size=w.heap.size+3:=by rw[<- hW3.out];simp
 have L0:AJ W3 w.heap.size #[.string n,.slice none 0 0] 323:=hW3.out▸((AJ.new w _ _).alloc _).alloc _;have b2:=(Am (a:=⟨ga,2,none⟩)<|B3.block ga UY).trans a2;have b3:=(Am (a:=⟨ga,3,none⟩)<|B3.block ga UY).trans a3;have hg3:=Wm.of B3.size<|B3.block g1 Wm.1;have i0:=fun o=>(hg3.of (w':=W3.alloc o) zw<|Ah _ _ _ hg3.1).2.1;have i1:=fun o=>(hg3.of (w':=W3.alloc o) zw<|Ah _ _ _ hg3.1).2.2.1;have l1:=fun o o'=>((L0.alloc o).alloc o').two.2.1;have CC:=AA fun o o'=>Zri none 0 (.string x1.1) (.int .i64 (x1.2:Int)) ((W3.alloc o).alloc o');have BB:=AA B3;have HS:=AA S3;clear hg Wm hg3 a2 a3 B3 L0 S3;go_in
 go_wp2
 refine Dt 3 ?_;rw[A8];go_wp2
 refine Dt 2 ?_;rw[A8];go_wp2_with fail
 rw[A8];go_wp2_with fail
 rw[hW3.out];clear hW3;rw[A8];go_wp2
 refine Dt 2 ?_;rw[A8];go_wp2_with fail
 refine(CC.out _ _).mono ?_;rintro e w6 ⟨rfl,Gs⟩;have B6:=BB.out.trans ((((AQ _ W3).alloc lr _).alloc zw _).trans (Gs.mono (by simp;omega)) |>.mono BB.out.size);have B6':=AA B6;clear Gs B6;go_wp2_with fail
 rw[A8];go_wp2_with fail
 rw[A8];go_wp2
 go_ret
 exact⟨rfl,B6'.out⟩
end Go.P
