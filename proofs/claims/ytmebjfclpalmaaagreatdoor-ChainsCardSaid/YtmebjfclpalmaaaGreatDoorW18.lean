import Derived.Test.YtmebjfclpalmaaaGreatDoorW17
import Derived.SizedLaws
import Derived.ChangeArms
import Derived.ChangeOld
import Derived.KernelRfl
import Derived.RowKit
set_option maxRecDepth 100000
set_option maxHeartbeats 8000000
set_option linter.unusedSimpArgs false
open Go.Proofs Go.RowKit Go.W Tryz
namespace Go.W
open Go
variable {n B:Nat}{w:World}{nv:Value}{cs:List Value}
theorem rz2 {P:Program}{md:Region.Mode}{ops:Array Oper}{Q:Exit->Act->World->Prop}{S:World->Prop}{z:Nat}(i j:Nat){o o':Oper}{l:Array Bool}{a:Act}(hr:Region.ready md ops l=[i,j]:=by kernel_rfl)(ho:ops[i]?=some o:=by rfl)(ho':ops[j]?=some o':=by rfl)(h: ∀ K':Act->World->Prop,Shut (∀ a w,S w->Zd0 z P md ops Q S n (l.setIfInBounds i true) a w->K' a w)->if Region.wanted o (yielded ops a.tmps)=true then Oper.wp P o a w K' Q else K' (a.put o.dst undef) w)(h': ∀ K':Act->World->Prop,Shut (∀ a w,S w->Zd0 z P md ops Q S n (l.setIfInBounds j true) a w->K' a w)->if Region.wanted o' (yielded ops a.tmps)=true then Oper.wp P o' a w K' Q else K' (a.put o'.dst undef) w):Zd0 z P md ops Q S (n+1) l a w:=
 ⟨fun e=>(by rw[hr]at e;cases e),fun k hk=>by
  rw[hr]at hk;simp only[Ydj,Yeu,or_false]at hk;rcases hk with rfl | rfl
  ·exact wpOp_step ho fun K' hK=>h K' fun a w hS hW=>hK a w ⟨fun _=>hS,hW⟩
  ·exact wpOp_step ho' fun K' hK=>h' K' fun a w hS hW=>hK a w ⟨fun _=>hS,hW⟩⟩
def Zje (B:Nat) (w:World) (nv:Value) (cs:List Value) (n:Nat):Prop:=(n=0/\nv= .slice none 0 0/\cs=[])\/ ∃ g cap,B<=g/\nv= .slice (some ⟨g,0,none⟩) n cap/\n<=cap/\g < w.heap.size/\ ∀ j u,cs[j]?=some u->w.cell? ⟨g,j,none⟩=some u
theorem Zje.of {B':Nat}{w':World}(h:Zje B w nv cs n)(hB:B'<=B)(hb:Below w.heap.size w w'):Zje B' w' nv cs n:=by
 rcases h with h | ⟨g,cap,h1,h2,h3,h4,h5⟩
 ·exact .inl h
 ·exact .inr ⟨g,cap,Ydc hB h1,h2,h3,Ydh h4 hb.size,fun j u hj=>(Yde (a:=⟨g,j,none⟩) (hb.block g h4)).trans (h5 j u hj)⟩
theorem Zje.set (h:Zje B w nv cs n)(k:Nat)(hk:k < B)(o:Nat)(v:Value):Zje B (w.setCell ⟨k,o,none⟩ v) nv cs n:=by
 rcases h with h | ⟨g,cap,h1,h2,h3,h4,h5⟩
 ·exact .inl h
 ·exact .inr ⟨g,cap,h1,h2,h3,by simpa[World.setCell]using h4,fun j u hj=>(Yde (a:=⟨g,j,none⟩) (Ydg _ _ _ _ (by show g≠k;omega))).trans (h5 j u hj)⟩
theorem Zfg {u:World}(k:Nat)(h:Below B w u)(hk:B<=k)(o:Nat)(v:Value):Below B w (u.setCell ⟨k,o,none⟩ v):=
 ⟨h.os,h.tape,h.output,by simpa[World.setCell]using h.size,fun i hi=>(Ydg _ _ _ _ (by show i≠k;omega)).trans (h.block i hi)⟩
theorem Zh8.is {E s:Nat}{wr:World}(h:Zh8 E s w nv cs n n wr):Zje w.heap.size wr nv cs n/\Below w.heap.size w wr:=by
 obtain⟨hb,_,h | ⟨cap,vs,h1,h2,h3,h4,h5⟩⟩:=h
 ·exact⟨.inl ⟨h.1,h.2.2.1,h.2.2.2⟩,hb⟩
 ·refine⟨.inr ⟨w.heap.size,cap,Yec _,h2,h1,h3.lt,fun j u hj=>?_⟩,hb⟩;have hjl:=(Ydl.1 hj).1;rw[h3.cell,<- Yee];rw[<- h5,List.getElem?_take,if_pos hjl]at hj;exact hj
end Go.W
namespace Go.P
attribute [local go_sem] Yea
theorem Z1q {w:World}{fa fb ra rb ka kb:Option Addr}{nfa cfa nfb cfb nra cra nrb crb nka cka nkb ckb:Nat}{xa xb ya yb:List Value}(hfa:Zs5 2 w (.slice fa nfa cfa) nfa xa)(hfb:Zs5 2 w (.slice fb nfb cfb) nfb xb)(hra:Zs5 4 w (.slice ra nra cra) nra ya)(hrb:Zs5 4 w (.slice rb nrb crb) nrb yb)(hsm:nfa < 1000/\nfb < 1000/\nra < 1000/\nrb < 1000):
  Calls prog 148 #[.agg #[.slice fa nfa cfa,.slice ra nra cra,.slice ka nka cka],.agg #[.slice fb nfb cfb,.slice rb nrb crb,.slice kb nkb ckb]] w fun e w'=> ∃ pf nf cf pr nr cr,e= .returned (.agg #[.slice pf nf cf,.slice pr nr cr,.slice none 0 0])/\Zje w.heap.size w' (.slice pf nf cf) (xa++xb) (nfa+nfb)/\Zje w.heap.size w' (.slice pr nr cr) (ya++yb) (nra+nrb)/\Below w.heap.size w w':=by
 have CA:Box (∀ u vb,Below w.heap.size w u->Blk u vb #[.slice fa nfa cfa,.slice fb nfb cfb] 41->Calls prog 185 #[.slice (some ⟨vb,0,none⟩) 2 2] u fun e w'=> ∃ pf nf cf,e= .returned (.slice pf nf cf)/\Zje u.heap.size w' (.slice pf nf cf) (xa++xb) (nfa+nfb)/\Below u.heap.size u w'):=⟨fun u vb hu hv=>by
  refine(Zv0 (xs:=[(nfa,xa),(nfb,xb)]) (c:=2) (o:=0) (b:=vb) (fun i x hx=>?_) (by simp) (by simp[Zf6];omega)).mono ?_
  ·match i with
   | 0=>simp at hx;subst hx;exact⟨hv.lt,_,hv.two.1,hfa.below hu⟩
   | 1=>simp at hx;subst hx;exact⟨hv.lt,_,hv.two.2.1,hfb.below hu⟩
   | i+2=>simp at hx
  ·rintro e w' ⟨nv,rfl,hc⟩;have h2:=Zh8.is (by simpa[Zf6,Zpu]using hc:Zh8 112 2 u nv (xa++xb) (nfa+nfb) (nfa+nfb) w');rcases h2.1 with⟨_,rfl,_⟩ | ⟨g,cap,_,rfl,_⟩
   ·exact⟨_,_,_,rfl,h2⟩
   ·exact⟨_,_,_,rfl,h2⟩⟩
 have CR:Box (∀ u vb,Below w.heap.size w u->Blk u vb #[.slice ra nra cra,.slice rb nrb crb] 42->Calls prog 186 #[.slice (some ⟨vb,0,none⟩) 2 2] u fun e w'=> ∃ pf nf cf,e= .returned (.slice pf nf cf)/\Zje u.heap.size w' (.slice pf nf cf) (ya++yb) (nra+nrb)/\Below u.heap.size u w'):=⟨fun u vb hu hv=>by
  refine(Zv1 (xs:=[(nra,ya),(nrb,yb)]) (c:=2) (o:=0) (b:=vb) (fun i x hx=>?_) (by simp) (by simp[Zf6];omega)).mono ?_
  ·match i with
   | 0=>simp at hx;subst hx;exact⟨hv.lt,_,hv.two.1,hra.below hu⟩
   | 1=>simp at hx;subst hx;exact⟨hv.lt,_,hv.two.2.1,hrb.below hu⟩
   | i+2=>simp at hx
  ·rintro e w' ⟨nv,rfl,hc⟩;have h2:=Zh8.is (by simpa[Zf6,Zpu]using hc:Zh8 115 4 u nv (ya++yb) (nra+nrb) (nra+nrb) w');rcases h2.1 with⟨_,rfl,_⟩ | ⟨g,cap,_,rfl,_⟩
   ·exact⟨_,_,_,rfl,h2⟩
   ·exact⟨_,_,_,rfl,h2⟩⟩
 clear hfa hfb hra hrb;refine Yfn func148 rfl ?_;simp only[ntmps148,Ydn,Ydp,Ydt,Nat.reduceAdd,Nat.reduceSub,Ydx,Ydw,Yd2,Ydz,Ydy,Ydv];go_wp2_with fail
 obtain⟨W3,hW3⟩: ∃ W3,Box (((w.alloc (.cells #[.slice fa nfa cfa,.slice ra nra cra,.slice ka nka cka] 45)).alloc (.cells #[.slice fb nfb cfb,.slice rb nrb crb,.slice kb nkb ckb] 45)).alloc (.cells #[.slice none 0 0,.slice none 0 0,.slice none 0 0] 45)=W3):=⟨_,⟨rfl⟩⟩;rw[hW3.out];have B3:Below w.heap.size w W3:=hW3.out▸(((Ydb _ w).alloc lr _).alloc (by simp) _).alloc (by simp;omega) _;have L0:Blk W3 w.heap.size #[.slice fa nfa cfa,.slice ra nra cra,.slice ka nka cka] 45:=hW3.out▸((Blk.new w _ _).alloc _).alloc _;have L1:Blk W3 (w.heap.size+1) #[.slice fb nfb cfb,.slice rb nrb crb,.slice kb nkb ckb] 45:=hW3.out▸(Zpo w _ _ _).alloc _;have L2:Blk W3 (w.heap.size+1+1) #[.slice none 0 0,.slice none 0 0,.slice none 0 0] 45:=hW3.out▸Z2h w _ _ _ _;have HS:Box (∀ u,Below W3.heap.size W3 u->u.cell? ⟨w.heap.size,0,none⟩=some (.slice fa nfa cfa)/\u.cell? ⟨w.heap.size,1,none⟩=some (.slice ra nra cra)/\u.cell? ⟨w.heap.size+1,0,none⟩=some (.slice fb nfb cfb)/\u.cell? ⟨w.heap.size+1,1,none⟩=some (.slice rb nrb crb)):=⟨fun u hu=>⟨(L0.of (hu.block _ L0.lt)).three.1,(L0.of (hu.block _ L0.lt)).three.2.1,(L1.of (hu.block _ L1.lt)).three.1,(L1.of (hu.block _ L1.lt)).three.2.1⟩⟩;have HZ:Box (∀ u,Below W3.heap.size W3 u->Blk u (w.heap.size+1+1) #[.slice none 0 0,.slice none 0 0,.slice none 0 0] 45):=⟨fun u hu=>L2.of (hu.block _ L2.lt)⟩;have BW3d:Below W3.heap.size W3 W3.drew:=(Ydb _ W3).drew;have hS0:=HS.out _ BW3d;clear L0 L1 L2;refine Zat 13 (fun u=>u.cell? ⟨w.heap.size,0,none⟩=some (.slice fa nfa cfa)/\u.cell? ⟨w.heap.size,1,none⟩=some (.slice ra nra cra)/\u.cell? ⟨w.heap.size+1,0,none⟩=some (.slice fb nfb cfb)/\u.cell? ⟨w.heap.size+1,1,none⟩=some (.slice rb nrb crb)) (by kernel_rfl) ?_;refine tz 0 (.pointer (some ⟨w.heap.size,0,none⟩)) hS0 ?_;try simp only[zz]
 refine tz 1 (.slice fa nfa cfa) hS0 (hy:=fun _ ⟨s0,s1,s2,s3⟩=>by go_simp) ?_;try simp only[zz]
 refine tz 2 (.pointer (some ⟨w.heap.size+1,0,none⟩)) hS0 ?_;try simp only[zz]
 refine tz 3 (.slice fb nfb cfb) hS0 (hy:=fun _ ⟨s0,s1,s2,s3⟩=>by go_simp) ?_;try simp only[zz]
 refine tz 6 (.pointer (some ⟨w.heap.size,1,none⟩)) hS0 ?_;try simp only[zz]
 refine tz 7 (.slice ra nra cra) hS0 (hy:=fun _ ⟨s0,s1,s2,s3⟩=>by go_simp) ?_;try simp only[zz]
 refine tz 8 (.pointer (some ⟨w.heap.size+1,1,none⟩)) hS0 ?_;try simp only[zz]
 refine tz 9 (.slice rb nrb crb) hS0 (hy:=fun _ ⟨s0,s1,s2,s3⟩=>by go_simp) ?_;try simp only[zz]
 obtain⟨W4,hW4⟩: ∃ W4,Box (W3.drew=W4):=⟨_,⟨rfl⟩⟩;have BW4:Below W3.heap.size W3 W4:=hW4.out▸BW3d;have z3:W3.heap.size=w.heap.size+3:=by rw[<- hW3.out];simp
 rw[hW4.out];clear hS0 BW3d;refine rz2 4 10 (h:=fun K' hK'=>?_) (h':=fun K' hK'=>?_)
 ·go_simp;obtain⟨WA,hWA⟩: ∃ WA,Box (W4.alloc (.cells #[.slice fa nfa cfa,.slice fb nfb cfb] 41)=WA):=⟨_,⟨rfl⟩⟩;rw[hWA.out];have bWA:Below W4.heap.size W4 WA:=hWA.out▸(Ydb _ W4).alloc lr _;have BWA:Below W3.heap.size W3 WA:=BW4.trans (bWA.mono BW4.size);have Vf:Blk WA W4.heap.size #[.slice fa nfa cfa,.slice fb nfb cfb] 41:=hWA.out▸Blk.new W4 _ _;refine hK'.out _ _ (HS.out _ BWA) ?_;try simp only[zz]
  refine rz2 5 10 (h:=fun K' hK'=>?_) (h':=fun K' hK'=>?_)
  ·go_simp;refine(CA.out WA _ (B3.trans (BWA.mono B3.size)) Vf).mono ?_;rintro e WB ⟨pf,nf,cf,rfl,If,bWB⟩;have BWB:Below W3.heap.size W3 WB:=BWA.trans (bWB.mono BWA.size);refine hK'.out _ _ (HS.out _ BWB) ?_;try simp only[zz]
   refine rz 10 (h:=fun K' hK'=>?_);go_simp;obtain⟨WC,hWC⟩: ∃ WC,Box (WB.alloc (.cells #[.slice ra nra cra,.slice rb nrb crb] 42)=WC):=⟨_,⟨rfl⟩⟩;rw[hWC.out];have bWC:Below WB.heap.size WB WC:=hWC.out▸(Ydb _ WB).alloc lr _;have BWC:Below W3.heap.size W3 WC:=BWB.trans (bWC.mono BWB.size);have Vr:Blk WC WB.heap.size #[.slice ra nra cra,.slice rb nrb crb] 42:=hWC.out▸Blk.new WB _ _;refine hK'.out _ _ (HS.out _ BWC) ?_;try simp only[zz]
   have If:=If.of lr bWC;refine rz 11 (h:=fun K' hK'=>?_);go_simp;refine(CR.out WC _ (B3.trans (BWC.mono B3.size)) Vr).mono ?_;rintro e WD ⟨pr,nr,cr,rfl,Ir,bWD⟩;have BWD:Below W3.heap.size W3 WD:=BWC.trans (bWD.mono BWC.size);refine hK'.out _ _ (HS.out _ BWD) ?_;try simp only[zz]
   have If:=If.of lr bWD;have lWA:=BWA.size;have lWC:=BWC.size;have lWD:=BWD.size;have If:=If.of (B':=w.heap.size+3) (by omega) (Ydb _ _);have Ir:=Ir.of (B':=w.heap.size+3) (by omega) (Ydb _ _);have hSl:=HS.out _ BWD;have kz:=HZ.out _ BWD;obtain⟨y0,y1,y2,ys⟩:=kz.three;refine tz 12 (.agg #[.slice pf nf cf,.slice pr nr cr,.slice none 0 0]) hSl ?_;try simp only[zz]
   refine rzl (h:=fun K' hK'=>?_);go_simp;refine hK'.out _ _ ?_;try simp only[zz]
   refine dz (h:=?_);have k9:=((kz.set 0 (.slice pf nf cf)).set 1 (.slice pr nr cr)).set 2 (.slice none 0 0);obtain⟨d0,d1,d2,ds⟩:=Blk.three (by simpa using k9);have FO:=Zaa (Yda (((If.set (w.heap.size+1+1) (by omega) 0 (.slice pf nf cf)).set (w.heap.size+1+1) (by omega) 1 (.slice pr nr cr)).set (w.heap.size+1+1) (by omega) 2 (.slice none 0 0)) (Yda (((Ir.set (w.heap.size+1+1) (by omega) 0 (.slice pf nf cf)).set (w.heap.size+1+1) (by omega) 1 (.slice pr nr cr)).set (w.heap.size+1+1) (by omega) 2 (.slice none 0 0)) (Zfg (w.heap.size+1+1) (Zfg (w.heap.size+1+1) (Zfg (w.heap.size+1+1) (B3.trans (BWD.mono B3.size)) (by omega) 0 (.slice pf nf cf)) (by omega) 1 (.slice pr nr cr)) (by omega) 2 (.slice none 0 0))));clear kz k9 y0 y1 y2 ys If Ir;go_wp2
   refine Ye6 (by simp[results,results148,go_sem,d0,d1,d2];try rfl) rfl ?_;exact⟨pf,nf,cf,pr,nr,cr,rfl,FO.out.1.of (by omega) (Ydb _ _),FO.out.2.1.of (by omega) (Ydb _ _),FO.out.2.2⟩
  ·go_simp;obtain⟨WB,hWB⟩: ∃ WB,Box (WA.alloc (.cells #[.slice ra nra cra,.slice rb nrb crb] 42)=WB):=⟨_,⟨rfl⟩⟩;rw[hWB.out];have bWB:Below WA.heap.size WA WB:=hWB.out▸(Ydb _ WA).alloc lr _;have BWB:Below W3.heap.size W3 WB:=BWA.trans (bWB.mono BWA.size);have Vr:Blk WB WA.heap.size #[.slice ra nra cra,.slice rb nrb crb] 42:=hWB.out▸Blk.new WA _ _;refine hK'.out _ _ (HS.out _ BWB) ?_;try simp only[zz]
   have Vf:=Vf.of (bWB.block _ Vf.lt);refine rz 5 (h:=fun K' hK'=>?_);go_simp;refine(CA.out WB _ (B3.trans (BWB.mono B3.size)) Vf).mono ?_;rintro e WC ⟨pf,nf,cf,rfl,If,bWC⟩;have BWC:Below W3.heap.size W3 WC:=BWB.trans (bWC.mono BWB.size);refine hK'.out _ _ (HS.out _ BWC) ?_;try simp only[zz]
   have Vr:=Vr.of (bWC.block _ Vr.lt);refine rz 11 (h:=fun K' hK'=>?_);go_simp;refine(CR.out WC _ (B3.trans (BWC.mono B3.size)) Vr).mono ?_;rintro e WD ⟨pr,nr,cr,rfl,Ir,bWD⟩;have BWD:Below W3.heap.size W3 WD:=BWC.trans (bWD.mono BWC.size);refine hK'.out _ _ (HS.out _ BWD) ?_;try simp only[zz]
   have If:=If.of lr bWD;have lWB:=BWB.size;have lWC:=BWC.size;have lWD:=BWD.size;have If:=If.of (B':=w.heap.size+3) (by omega) (Ydb _ _);have Ir:=Ir.of (B':=w.heap.size+3) (by omega) (Ydb _ _);have hSl:=HS.out _ BWD;have kz:=HZ.out _ BWD;obtain⟨y0,y1,y2,ys⟩:=kz.three;refine tz 12 (.agg #[.slice pf nf cf,.slice pr nr cr,.slice none 0 0]) hSl ?_;try simp only[zz]
   refine rzl (h:=fun K' hK'=>?_);go_simp;refine hK'.out _ _ ?_;try simp only[zz]
   refine dz (h:=?_);have k9:=((kz.set 0 (.slice pf nf cf)).set 1 (.slice pr nr cr)).set 2 (.slice none 0 0);obtain⟨d0,d1,d2,ds⟩:=Blk.three (by simpa using k9);have FO:=Zaa (Yda (((If.set (w.heap.size+1+1) (by omega) 0 (.slice pf nf cf)).set (w.heap.size+1+1) (by omega) 1 (.slice pr nr cr)).set (w.heap.size+1+1) (by omega) 2 (.slice none 0 0)) (Yda (((Ir.set (w.heap.size+1+1) (by omega) 0 (.slice pf nf cf)).set (w.heap.size+1+1) (by omega) 1 (.slice pr nr cr)).set (w.heap.size+1+1) (by omega) 2 (.slice none 0 0)) (Zfg (w.heap.size+1+1) (Zfg (w.heap.size+1+1) (Zfg (w.heap.size+1+1) (B3.trans (BWD.mono B3.size)) (by omega) 0 (.slice pf nf cf)) (by omega) 1 (.slice pr nr cr)) (by omega) 2 (.slice none 0 0))));clear kz k9 y0 y1 y2 ys If Ir;go_wp2
   refine Ye6 (by simp[results,results148,go_sem,d0,d1,d2];try rfl) rfl ?_;exact⟨pf,nf,cf,pr,nr,cr,rfl,FO.out.1.of (by omega) (Ydb _ _),FO.out.2.1.of (by omega) (Ydb _ _),FO.out.2.2⟩
 ·go_simp;obtain⟨WA,hWA⟩: ∃ WA,Box (W4.alloc (.cells #[.slice ra nra cra,.slice rb nrb crb] 42)=WA):=⟨_,⟨rfl⟩⟩;rw[hWA.out];have bWA:Below W4.heap.size W4 WA:=hWA.out▸(Ydb _ W4).alloc lr _;have BWA:Below W3.heap.size W3 WA:=BW4.trans (bWA.mono BW4.size);have Vr:Blk WA W4.heap.size #[.slice ra nra cra,.slice rb nrb crb] 42:=hWA.out▸Blk.new W4 _ _;refine hK'.out _ _ (HS.out _ BWA) ?_;try simp only[zz]
  refine rz 4 (h:=fun K' hK'=>?_);go_simp;obtain⟨WB,hWB⟩: ∃ WB,Box (WA.alloc (.cells #[.slice fa nfa cfa,.slice fb nfb cfb] 41)=WB):=⟨_,⟨rfl⟩⟩;rw[hWB.out];have bWB:Below WA.heap.size WA WB:=hWB.out▸(Ydb _ WA).alloc lr _;have BWB:Below W3.heap.size W3 WB:=BWA.trans (bWB.mono BWA.size);have Vf:Blk WB WA.heap.size #[.slice fa nfa cfa,.slice fb nfb cfb] 41:=hWB.out▸Blk.new WA _ _;refine hK'.out _ _ (HS.out _ BWB) ?_;try simp only[zz]
  have Vr:=Vr.of (bWB.block _ Vr.lt);refine rz 5 (h:=fun K' hK'=>?_);go_simp;refine(CA.out WB _ (B3.trans (BWB.mono B3.size)) Vf).mono ?_;rintro e WC ⟨pf,nf,cf,rfl,If,bWC⟩;have BWC:Below W3.heap.size W3 WC:=BWB.trans (bWC.mono BWB.size);refine hK'.out _ _ (HS.out _ BWC) ?_;try simp only[zz]
  have Vr:=Vr.of (bWC.block _ Vr.lt);refine rz 11 (h:=fun K' hK'=>?_);go_simp;refine(CR.out WC _ (B3.trans (BWC.mono B3.size)) Vr).mono ?_;rintro e WD ⟨pr,nr,cr,rfl,Ir,bWD⟩;have BWD:Below W3.heap.size W3 WD:=BWC.trans (bWD.mono BWC.size);refine hK'.out _ _ (HS.out _ BWD) ?_;try simp only[zz]
  have If:=If.of lr bWD;have lWB:=BWB.size;have lWC:=BWC.size;have lWD:=BWD.size;have If:=If.of (B':=w.heap.size+3) (by omega) (Ydb _ _);have Ir:=Ir.of (B':=w.heap.size+3) (by omega) (Ydb _ _);have hSl:=HS.out _ BWD;have kz:=HZ.out _ BWD;obtain⟨y0,y1,y2,ys⟩:=kz.three;refine tz 12 (.agg #[.slice pf nf cf,.slice pr nr cr,.slice none 0 0]) hSl ?_;try simp only[zz]
  refine rzl (h:=fun K' hK'=>?_);go_simp;refine hK'.out _ _ ?_;try simp only[zz]
  refine dz (h:=?_);have k9:=((kz.set 0 (.slice pf nf cf)).set 1 (.slice pr nr cr)).set 2 (.slice none 0 0);obtain⟨d0,d1,d2,ds⟩:=Blk.three (by simpa using k9);have FO:=Zaa (Yda (((If.set (w.heap.size+1+1) (by omega) 0 (.slice pf nf cf)).set (w.heap.size+1+1) (by omega) 1 (.slice pr nr cr)).set (w.heap.size+1+1) (by omega) 2 (.slice none 0 0)) (Yda (((Ir.set (w.heap.size+1+1) (by omega) 0 (.slice pf nf cf)).set (w.heap.size+1+1) (by omega) 1 (.slice pr nr cr)).set (w.heap.size+1+1) (by omega) 2 (.slice none 0 0)) (Zfg (w.heap.size+1+1) (Zfg (w.heap.size+1+1) (Zfg (w.heap.size+1+1) (B3.trans (BWD.mono B3.size)) (by omega) 0 (.slice pf nf cf)) (by omega) 1 (.slice pr nr cr)) (by omega) 2 (.slice none 0 0))));clear kz k9 y0 y1 y2 ys If Ir;go_wp2
  refine Ye6 (by simp[results,results148,go_sem,d0,d1,d2];try rfl) rfl ?_;exact⟨pf,nf,cf,pr,nr,cr,rfl,FO.out.1.of (by omega) (Ydb _ _),FO.out.2.1.of (by omega) (Ydb _ _),FO.out.2.2⟩
end Go.P
namespace Go.W
variable {B B' d b o:Nat}{w w':World}{vs:List Value}{x:A}
theorem Ze4.at (h:Ze4 B w d vs x)(c:Zc1 B B' w w')(hb:b < B')(hv: ∀ j u,vs[j]?=some u->w'.cell? ⟨b,o+j,none⟩=some u):Zbb B' w' (d+1) b o x:=by
 obtain⟨p,k,rfl,hs,hc,hr⟩:=h;exact⟨hb,hv 0 _ rfl,hs,_,hv 1 _ rfl,p,k,rfl,hc,hr.carry fun _ _ _ hT=>Zbl.carry c lr hT⟩
theorem Zbb.sl (h:Zbb B w (d+1) b o x)(hB:B<=w.heap.size):b < w.heap.size/\ ∃ vs:List Value,(vs.length=2/\(∀ u,u∈vs->u.oneCell'=true)/\Ze4 B w d vs x)/\ ∀ j u,vs[j]?=some u->w.cell? ⟨b,o+j,none⟩=some u:=by
 obtain⟨hb,p,c,c0,c1,hs⟩:=h.vals;refine⟨Ydh hb hB,_,⟨rfl,fun u hu=>?_,hs⟩,fun j u hj=>?_⟩
 ·simp at hu;rcases hu with rfl | rfl <;> rfl
 ·match j with
  | 0=>simp at hj;subst hj;exact c0
  | 1=>simp at hj;subst hj;exact c1
  | j+2=>simp at hj
theorem Zf7.at {x:R}(h:Zf7 B w (d+1) vs x)(c:Zc1 B B' w w')(hb:b < B')(hv: ∀ j u,vs[j]?=some u->w'.cell? ⟨b,o+j,none⟩=some u):Zb5 B' w' (d+2) b o x:=by
 obtain⟨va,p,k,p',k',rfl,ha,h1,hr,h2,hr'⟩:=h;obtain⟨pa,ka,rfl,hs,hc,hra⟩:=ha;have e0:=hv 0 _ rfl;have e1:=hv 1 _ rfl;have e2:=hv 2 _ rfl;have e3:=hv 3 _ rfl;exact⟨hb,⟨hb,e0,hs,_,e1,pa,ka,rfl,hc,hra.carry fun _ _ _ hT=>Zbl.carry c (by omega) hT⟩,⟨_,e2,p,k,rfl,h1,hr.carry fun _ _ _ hT=>Zbb.carry c (by omega) hT⟩,_,e3,p',k',rfl,h2,hr'.carry fun _ _ _ hT=>Zct.carry c (by omega) hT⟩
theorem Zb5.sl {x:R}(h:Zb5 B w (d+1) b o x)(hB:B<=w.heap.size):b < w.heap.size/\ ∃ vs:List Value,(vs.length=4/\(∀ u,u∈vs->u.oneCell'=true)/\Zf7 B w d vs x)/\ ∀ j u,vs[j]?=some u->w.cell? ⟨b,o+j,none⟩=some u:=by
 obtain⟨hb,p,c,p',c',p2,c2,e0,e1,e2,e3,hs⟩:=h.vals;refine⟨Ydh hb hB,_,⟨rfl,fun u hu=>?_,hs⟩,fun j u hj=>?_⟩
 ·simp at hu;rcases hu with rfl | rfl | rfl | rfl <;> rfl
 ·match j with
  | 0=>simp at hj;subst hj;exact e0
  | 1=>simp at hj;subst hj;exact e1
  | 2=>simp at hj;subst hj;exact e2
  | 3=>simp at hj;subst hj;exact e3
  | j+4=>simp at hj
theorem Zje.row {α:Type}{s N:Nat}{nv:Value}{va vb:List (List Value)}{xs ys:List α}{S:List Value->α->Prop}{Q:Nat->Nat->α->Prop}(h:Zje N w nv (va.flatten++vb.flatten) (xs.length+ys.length))(la:va.length=xs.length)(lb:vb.length=ys.length)(ha: ∀ v,v∈va->v.length=s)(hb: ∀ v,v∈vb->v.length=s)(sa: ∀ (i:Nat) x,xs[i]?=some x-> ∃ vs,va[i]?=some vs/\S vs x)(sb: ∀ (i:Nat) x,ys[i]?=some x-> ∃ vs,vb[i]?=some vs/\S vs x)(hq: ∀ g o vs x,g < w.heap.size->S vs x->(∀ j u,vs[j]?=some u->w.cell? ⟨g,o+j,none⟩=some u)->Q g o x)(hl:xs.length+ys.length < 1000000000): ∃ p c,nv= .slice p (xs++ys).length c/\(xs++ys).length<=c/\Zan s Q p (xs++ys):=by
 rcases h with⟨h0,rfl,_⟩ | ⟨g,cap,_,rfl,h3,h4,h5⟩
 ·obtain rfl:xs=[]:=List.length_eq_zero_iff.1 (by omega);obtain rfl:ys=[]:=List.length_eq_zero_iff.1 (by omega);exact⟨none,0,rfl,Yec _,by simp,fun i x hx=>by simp at hx⟩
 ·refine⟨some ⟨g,0,none⟩,cap,by simp,by simpa using h3,by simpa using hl,fun i x hx=>⟨g,0,rfl,?_⟩⟩;have hm: ∀ v,v∈va++vb->v.length=s:=fun v hv=>(Ydk.1 hv).elim (ha v) (hb v);have key: ∃ vs,(va++vb)[i]?=some vs/\S vs x:=by
   by_cases hi:i < xs.length
   ·rw[Yd4 hi]at hx;obtain⟨vs,h1,h2⟩:=sa i x hx;exact⟨vs,by rw[Yd4 (by omega)];exact h1,h2⟩
   ·rw[Yd1 (by omega)]at hx;obtain⟨vs,h1,h2⟩:=sb _ x hx;exact⟨vs,by rw[Yd1 (by omega),la];exact h1,h2⟩
  obtain⟨vs,h1,h2⟩:=key;refine hq g _ vs x h4 h2 fun j u hj=>?_
  have:=h5 (i*s+j) u (by rw[<- List.flatten_append];exact Zyc _ hm i vs j u h1 hj)
  simpa using this
end Go.W
namespace Go.W
theorem Zan.none {α:Type}{s:Nat}{Q:Nat->Nat->α->Prop}{p:Option Addr}{xs:List α}(h:Zan s Q p xs):p=none->xs=[]:=fun e=>by
 cases xs with
 | nil=>rfl
 | cons x l=>
  obtain⟨b,o,h,_⟩:=h.at_ 0 x rfl;rw[e]at h;cases h
theorem Zje.at {B:Nat}{w v:World}{nv:Value}{cs:List Value}{n:Nat}(h:Zje B w nv cs n)(hs:w.heap.size<=v.heap.size)(hc: ∀ j,B<=j->j < w.heap.size->v.heap[j]?=w.heap[j]?):Zje B v nv cs n:=by
 rcases h with h | ⟨g,cap,h1,h2,h3,h4,h5⟩
 ·exact .inl h
 ·exact .inr ⟨g,cap,h1,h2,h3,Ydh h4 hs,fun j u hj=>(Yde (a:=⟨g,j,none⟩) (hc g h1 h4)).trans (h5 j u hj)⟩
end Go.W
namespace Go.P
theorem Zo2 {w:World}{B D:Nat}(hB:B<=w.heap.size){fa fb ra rb ka kb:Option Addr}{cfa cfb cra crb nka cka nkb ckb:Nat}{xs ys:List A}{rs ss:List R}(h1:Zan 2 (Zbb B w (D+2)) fa xs)(h2:Zan 2 (Zbb B w (D+2)) fb ys)(h3:Zan 4 (Zb5 B w (D+2)) ra rs)(h4:Zan 4 (Zb5 B w (D+2)) rb ss)(hl:xs.length < 1000/\ys.length < 1000/\rs.length < 1000/\ss.length < 1000):
  Calls prog 148 #[.agg #[.slice fa xs.length cfa,.slice ra rs.length cra,.slice ka nka cka],.agg #[.slice fb ys.length cfb,.slice rb ss.length crb,.slice kb nkb ckb]] w fun e w'=> ∃ pf cf pr cr,e= .returned (.agg #[.slice pf (xs++ys).length cf,.slice pr (rs++ss).length cr,.slice none 0 0])/\(∀ v,w'.heap.size<=v.heap.size->(∀ j,j < B->v.heap[j]?=w'.heap[j]?)->(∀ j,w.heap.size<=j->j < w'.heap.size->v.heap[j]?=w'.heap[j]?)->Zan 2 (Zbb v.heap.size v (D+2)) pf (xs++ys)/\Zan 4 (Zb5 v.heap.size v (D+2)) pr (rs++ss))/\Below w.heap.size w w':=by
 obtain⟨va,la,ma,sa,ta⟩:=Zan.sl (c:=cfa) (w:=w) (S:=Ze4 B w (D+1)) h1 (fun _ _ _ h=>Zbb.sl h hB) (by omega) h1.none;obtain⟨vb,lb,mb,sb,tb⟩:=Zan.sl (c:=cfb) (w:=w) (S:=Ze4 B w (D+1)) h2 (fun _ _ _ h=>Zbb.sl h hB) (by omega) h2.none;obtain⟨ua,lc,mc,sc,tc⟩:=Zan.sl (c:=cra) (w:=w) (S:=Zf7 B w (D+1)) h3 (fun _ _ _ h=>Zb5.sl h hB) (by omega) h3.none;obtain⟨ub,ld,md,sd,td⟩:=Zan.sl (c:=crb) (w:=w) (S:=Zf7 B w (D+1)) h4 (fun _ _ _ h=>Zb5.sl h hB) (by omega) h4.none;refine(Z1q ta tb tc td (by omega)).mono ?_;rintro e w' ⟨pf,nf,cf,pr,nr,cr,rfl,i1,i2,hb⟩;obtain⟨p1,k1,e1,_,_⟩:=i1.row (Q:=fun _ _ _=>True) la lb ma mb sa sb (fun _ _ _ _ _ _ _=>trivial) (by omega);obtain⟨p2,k2,e2,_,_⟩:=i2.row (Q:=fun _ _ _=>True) lc ld mc md sc sd (fun _ _ _ _ _ _ _=>trivial) (by omega);cases e1;cases e2;refine⟨pf,cf,pr,cr,rfl,fun v hs hc hn=>?_,hb⟩;have hc:Zc1 B v.heap.size w v:=⟨Ydc hB (Ydc hb.size hs),fun j o hj=>Yde (a:=⟨j,o,none⟩) ((hc j hj).trans (hb.block j (by omega)))⟩;obtain⟨p1,k1,e1,_,r1⟩:=(i1.at hs hn).row (Q:=Zbb v.heap.size v (D+2)) la lb ma mb sa sb (fun g o vs x hg hs hv=>hs.at hc hg hv) (by omega);obtain⟨p2,k2,e2,_,r2⟩:=(i2.at hs hn).row (Q:=Zb5 v.heap.size v (D+2)) lc ld mc md sc sd (fun g o vs x hg hs hv=>hs.at hc hg hv) (by omega);cases e1;cases e2;exact⟨r1,r2⟩
end Go.P
namespace Go.W
theorem ry {P:Program}{md:Region.Mode}{ops:Array Oper}{Q:Exit->Act->World->Prop}{S:World->Prop}{z:Nat}(i:Nat){o:Oper}{n:Nat}{l:Array Bool}{a:Act}{w:World}(hr:Region.ready md ops l=[i]:=by kernel_rfl)(ho:ops[i]?=some o:=by rfl)(hz:(l.setIfInBounds i true).getD z true=true:=by kernel_rfl)(h: ∀ K':Act->World->Prop,Shut (∀ a w,Zd0 z P md ops Q S n (l.setIfInBounds i true) a w->K' a w)->if Region.wanted o (yielded ops a.tmps)=true then Oper.wp P o a w K' Q else K' (a.put o.dst undef) w):Zd0 z P md ops Q S (n+1) l a w:=
 ⟨fun e=>(by rw[hr]at e;cases e),fun j hj=>by
  rw[hr]at hj;obtain rfl:=Yeb.1 hj;exact wpOp_step ho fun K' hK=>h K' fun a w hW=>hK a w ⟨fun e=>(by rw[hz]at e;cases e),hW⟩⟩
end Go.W
namespace Go.P
attribute [local go_sem] Yea
theorem Zz6 {w:World}{b o c:Nat}{clk:Int}{pl:Value}{fb rb kb fc rc kc:Option Addr}{nfb cfb nrb crb ckb nfc cfc nrc crc nkc ckc:Nat}(k0:w.cell? ⟨b,o,none⟩=some (.slice fb nfb cfb))(k1:w.cell? ⟨b,o+1,none⟩=some (.slice rb nrb crb))(k2:w.cell? ⟨b,o+2,none⟩=some (.slice kb 0 ckb))(k3:w.cell? ⟨b,o+3,none⟩=some (.slice fc nfc cfc))(k4:w.cell? ⟨b,o+4,none⟩=some (.slice rc nrc crc))(k5:w.cell? ⟨b,o+5,none⟩=some (.slice kc nkc ckc))
  {K1 K2:Nat->Nat->Nat->World->Prop} (d1: ∀ g p1 p2 u,K1 g p1 p2 u->u.cell? ⟨g,0,none⟩=some (.pointer (some ⟨p1,0,none⟩))/\u.cell? ⟨g,1,none⟩=some (.pointer (some ⟨p2,0,none⟩))) (d2: ∀ g p1 p2 u,K2 g p1 p2 u->u.cell? ⟨g,0,none⟩=some (.pointer (some ⟨p1,0,none⟩)))
  (s1: ∀ g p1 p2 u v,K1 g p1 p2 u->Below u.heap.size u v->K1 g p1 p2 v) (s2: ∀ g p1 p2 u v,K2 g p1 p2 u->Below u.heap.size u v->K2 g p1 p2 v)
  (CW: ∀ u,Below w.heap.size w u->Calls prog 101 #[.slice (some ⟨b,o,none⟩) 2 c,.agg #[.int .i64 clk,.slice none 0 0,.slice none 0 0]] u fun e w'=> ∃ g p1 p2 cw,e= .returned (.tuple #[.slice (some ⟨g,0,none⟩) 2 cw,.bool true])/\K1 g p1 p2 w'/\Below w.heap.size w w')
  (CP: ∀ g p1 p2 u,K1 g p1 p2 u->Below w.heap.size w u->Calls prog 102 #[.pointer (some ⟨p2,0,none⟩),.slice kc nkc ckc] u fun e w'=>e= .returned (.bool true)/\K2 g p1 p2 w'/\Below w.heap.size w w')
  (CA: ∀ g p1 p2 u,K2 g p1 p2 u->Below w.heap.size w u->Calls prog 103 #[.pointer (some ⟨p1,0,none⟩),pl] u fun e w'=>e= .returned (.bool true)/\Below w.heap.size w w'):
  Calls prog 57 #[.slice (some ⟨b,o,none⟩) 2 c,.agg #[.int .i64 clk,.slice none 0 0,.slice none 0 0],pl] w fun e w'=>e= .returned (.int .i64 6)/\Below w.heap.size w w':=by
 have HW:=Zaa CW;have HP:=Zaa CP;have HA:=Zaa CA;have D1:=Zaa d1;have D2:=Zaa d2;have S1:=Zaa s1;have S2:=Zaa s2;have lb:=Zbi k0;clear CW CP CA d1 d2 s1 s2;go_in
 go_wp2_with fail
 refine(HW.out _ ((Ydb _ w).alloc lr _)).mono ?_;rintro e w1 ⟨g,p1,p2,cw,rfl,j1,hb1⟩;have hb0:w1.heap[b]?=w.heap[b]?:=hb1.block b lb;have m0:=(Yde (a:=⟨b,o,none⟩) hb0).trans k0;have m1:=(Yde (a:=⟨b,o+1,none⟩) hb0).trans k1;have m2:=(Yde (a:=⟨b,o+2,none⟩) hb0).trans k2;have hg:=D1.out _ _ _ _ j1;have g0:=hg.1;have HJ:=Zaa j1;have HB1:=Zaa hb1;have P1:=fun(u:World) pc cc=>Zwx (w:=u) (p:=p1) pc cc;clear hg hb0 j1 hb1;go_wp2
 refine Ye7 3 ?_;rw[Ye5];go_wp2_with fail
 obtain⟨W2,hW2⟩: ∃ W2,Box (w1.alloc (.cells #[.slice fb nfb cfb,.slice rb nrb crb,.slice kb 0 ckb] 45)=W2):=⟨_,⟨rfl⟩⟩;rw[hW2.out];have B2:Below w1.heap.size w1 W2:=hW2.out▸(Ydb _ w1).alloc lr _;have HJ2:=Zaa (S1.out _ _ _ _ _ HJ.out B2);have N2:Blk W2 w1.heap.size #[.slice fb nfb cfb,.slice rb nrb crb,.slice kb 0 ckb] 45:=hW2.out▸Blk.new w1 _ _;have hS0:W2.drew.cell? ⟨g,0,none⟩=some (.pointer (some ⟨p1,0,none⟩))/\W2.drew.cell? ⟨w1.heap.size,2,none⟩=some (.slice kb 0 ckb):=⟨(D1.out _ _ _ _ HJ2.out).1,N2.three.2.2.1⟩;refine Yfl (S:=fun u=>u.cell? ⟨g,0,none⟩=some (.pointer (some ⟨p1,0,none⟩))/\u.cell? ⟨w1.heap.size,2,none⟩=some (.slice kb 0 ckb)) (by kernel_rfl) ?_;change wpAnyH _ _ _ _ _ _ _ _ (World.drew _);refine tk 0 (.slice (some ⟨g,0,none⟩) 2 cw) hS0 ?_;try simp only[zz]
 refine tk 1 (.int .i64 0) hS0 ?_;try simp only[zz]
 refine tk 2 (.pointer (some ⟨g,0,none⟩)) hS0 ?_;try simp only[zz]
 refine tk 3 (.pointer (some ⟨p1,0,none⟩)) hS0 (hy:=fun _ ⟨s0,s1⟩=>by go_simp) ?_;try simp only[zz]
 refine tk 4 (.pointer (some ⟨w1.heap.size,2,none⟩)) hS0 ?_;try simp only[zz]
 refine tk 5 (.slice kb 0 ckb) hS0 (hy:=fun _ ⟨s0,s1⟩=>by go_simp) ?_;try simp only[zz]
 refine Yfc (rs:=[6]) (by kernel_rfl) (by simp) (Ydr rfl (fun K' hK'=>?_) Ydu);go_simp;refine(P1 _ _ _).mono ?_;rintro e w3 ⟨rfl,rfl⟩;refine hK'.out _ _ hS0 fun _=>?_;try simp only[zz]
 refine tk 7 (.bool false) hS0 ?_;try simp only[zz]
 refine Yfi (by kernel_rfl) ?_ _;clear hS0;obtain⟨W3,hW3⟩: ∃ W3,Box (W2.drew=W3):=⟨_,⟨rfl⟩⟩;rw[hW3.out];have B3:Below w1.heap.size w1 W3:=hW3.out▸B2.drew;have BW:Below w.heap.size w W3:=HB1.out.trans (B3.mono HB1.out.size);have HJ3:=Zaa (S1.out _ _ _ _ _ HJ.out B3);have hb3:W3.heap[b]?=w.heap[b]?:=BW.block b lb;have n3:=(Yde (a:=⟨b,o+3,none⟩) hb3).trans k3;have n4:=(Yde (a:=⟨b,o+4,none⟩) hb3).trans k4;have n5:=(Yde (a:=⟨b,o+5,none⟩) hb3).trans k5;have HBW:=Zaa BW;clear k0 k1 k2 k3 k4 k5 m0 m1 m2 hb3 B3 BW hW3 N2 B2 HJ2 hW2 g0 HJ HB1;go_wp2_with fail
 rw[Ye5];go_wp2_with fail
 obtain⟨W4,hW4⟩: ∃ W4,Box (W3.alloc (.cells #[.slice fc nfc cfc,.slice rc nrc crc,.slice kc nkc ckc] 45)=W4):=⟨_,⟨rfl⟩⟩;rw[hW4.out];have B4:Below W3.heap.size W3 W4:=hW4.out▸(Ydb _ W3).alloc lr _;have HJ4:=Zaa (S1.out _ _ _ _ _ HJ3.out B4.drew);have N4:Blk W4 W3.heap.size #[.slice fc nfc cfc,.slice rc nrc crc,.slice kc nkc ckc] 45:=hW4.out▸Blk.new W3 _ _;have hS0:W4.drew.cell? ⟨g,1,none⟩=some (.pointer (some ⟨p2,0,none⟩))/\W4.drew.cell? ⟨W3.heap.size,2,none⟩=some (.slice kc nkc ckc):=⟨(D1.out _ _ _ _ HJ4.out).2,N4.three.2.2.1⟩;refine Zat 6 (fun u=>u.cell? ⟨g,1,none⟩=some (.pointer (some ⟨p2,0,none⟩))/\u.cell? ⟨W3.heap.size,2,none⟩=some (.slice kc nkc ckc)) (by kernel_rfl) ?_;refine tf 0 (.slice (some ⟨g,0,none⟩) 2 cw) hS0 ?_;try simp only[zz]
 refine tf 1 (.int .i64 1) hS0 ?_;try simp only[zz]
 refine tf 2 (.pointer (some ⟨g,1,none⟩)) hS0 ?_;try simp only[zz]
 refine tz 3 (.pointer (some ⟨p2,0,none⟩)) hS0 (hy:=fun _ ⟨s0,s1⟩=>by go_simp) ?_;try simp only[zz]
 refine tf 4 (.pointer (some ⟨W3.heap.size,2,none⟩)) hS0 ?_;try simp only[zz]
 refine tz 5 (.slice kc nkc ckc) hS0 (hy:=fun _ ⟨s0,s1⟩=>by go_simp) ?_;try simp only[zz]
 refine rzl (h:=fun K' hK'=>?_);go_simp;refine(HP.out _ _ _ _ HJ4.out (tr HBW B4.drew).out).mono ?_;rintro e w5 ⟨rfl,j5,hb5⟩;refine hK'.out _ _ ?_;try simp only[zz]
 refine ry 7 (h:=fun K' hK'=>?_);go_simp;refine hK'.out _ _ ?_;try simp only[zz]
 refine dz (h:=?_);have HJ5:=Zaa j5;have HB5:=Zaa hb5;have g0:=D2.out _ _ _ _ j5;clear j5 hb5 hS0 n3 n4 n5 N4 B4 HJ4 hW4;go_wp2_with fail
 rw[Ye5];go_wp2_with fail
 refine(HA.out _ _ _ _ HJ5.out HB5.out).mono ?_;rintro e w6 ⟨rfl,hb6⟩;go_wp2
 go_ret
 exact⟨rfl,hb6⟩
end Go.P
namespace Go.P
def Z5s (d:Nat):Prop:= ∀ {B:Nat} {w:World} {p q:Option Addr} {c c':Nat} {xs:List T},B<=w.heap.size->Zan 4 (Zbl B w d) p xs->Zan 4 (Zbl B w d) q xs->Calls prog 44 #[.slice p xs.length c,.slice q xs.length c'] w fun e w'=>e= .returned (.bool true)/\Below w.heap.size w w'
def Z19 (w:World) (n:Nat) (iv:Value) (wr:World):Prop:= ∃ k:Nat,k<=n/\iv= .int .i64 (k:Int)/\Below w.heap.size w wr
theorem Zp6 (w:World)(p q:Option Addr)(c c':Nat):Calls prog 44 #[.slice p 0 c,.slice q 0 c'] w fun e w'=>e= .returned (.bool true)/\Below w.heap.size w w':=by
 go_in
 go_wp2
 refine Ye7 1 ?_;rw[Ye5];go_wp2
 go_ret
 exact⟨rfl,Ydb _ _⟩
theorem Zp5 {d:Nat}(ih:Z5s d):Z5s (d+1):=by
 intro B w p q c c' xs hB hp hq;have hl:=hp.len;have IH:=Zaa @ih;have HP:=Zaa hp;have HQ:=Zaa hq;clear ih hp hq;obtain⟨n,hn⟩: ∃ n,Box (xs.length=n):=⟨_,⟨rfl⟩⟩;rw[hn.out]at hl⊢;go_in
 go_wp2
 go_loopw [5] (fun iv wr=>Z19 w n iv wr) (fun iv _=>n - (intOf iv).toNat)
 case atStart=>exact⟨0,by omega,rfl,Ydb _ _⟩
 case round=>
  obtain⟨k,hk,rfl,hbw⟩:=hrel;have HB:=Zaa hbw;by_cases hlt:k < n
  ·have hlt':k < xs.length:=by rw[hn.out];exact hlt
   obtain⟨b1,o1,rfl,hx⟩:=HP.out.get k hlt';obtain⟨b2,o2,rfl,hy⟩:=HQ.out.get k hlt';obtain⟨l1,p1,c1,k0,k1,k2,k3,_,_,e1,_,_,_,_,r1⟩:=(hx.carry (Za4 hbw hB) lr).vals;cases e1;obtain⟨l2,p2,c2,j0,j1,j2,j3,_,_,e2,_,_,_,_,r2⟩:=(hy.carry (Za4 hbw hB) lr).vals;cases e2;have CC:=Zaa (fun u (hu:Below wr.heap.size wr u)=>IH.out (B:=B) (w:=u) (c:=c1) (c':=c2) (Ydc hB (Ydc hbw.size hu.size)) (r1.carry fun _ _ _ t=>t.carry (Za4 hu (Ydc hB hbw.size)) lr) (r2.carry fun _ _ _ t=>t.carry (Za4 hu (Ydc hB hbw.size)) lr));have HX:=Zaa (fun u (hu:Below wr.heap.size wr u)=>Yda (Yda (Zab k0 hu) (Yda (Zab k1 hu) (Yda (Zab k2 hu) (Zab k3 hu)))) (Yda (Zab j0 hu) (Yda (Zab j1 hu) (Yda (Zab j2 hu) (Zab j3 hu)))));clear r1 r2 hx hy hbw k0 k1 k2 j0 j1 j2;generalize xs[k]=x at*;go_wp2_with fail
   have hS0:wr.drew.cell? ⟨b1,o1+k*4+3,none⟩=some (.slice p1 x.l.length c1)/\wr.drew.cell? ⟨b2,o2+k*4+3,none⟩=some (.slice p2 x.l.length c2):=⟨k3,j3⟩;refine Zat 10 (fun u=>u.cell? ⟨b1,o1+k*4+3,none⟩=some (.slice p1 x.l.length c1)/\u.cell? ⟨b2,o2+k*4+3,none⟩=some (.slice p2 x.l.length c2)) (by kernel_rfl) ?_;refine tf 0 (.slice (some ⟨b1,o1,none⟩) n c) hS0 ?_;try simp only[zz]
   refine tf 1 (.int .i64 (k:Int)) hS0 ?_;try simp only[zz]
   refine tf 2 (.pointer (some ⟨b1,o1+k*4,none⟩)) hS0 ?_;try simp only[zz]
   refine tf 3 (.pointer (some ⟨b1,o1+k*4+3,none⟩)) hS0 ?_;try simp only[zz]
   refine tz 4 (.slice p1 x.l.length c1) hS0 (hy:=fun _ ⟨s0,s1⟩=>by go_simp) ?_;try simp only[zz]
   refine tf 5 (.slice (some ⟨b2,o2,none⟩) n c') hS0 ?_;try simp only[zz]
   refine tf 6 (.int .i64 (k:Int)) hS0 ?_;try simp only[zz]
   refine tf 7 (.pointer (some ⟨b2,o2+k*4,none⟩)) hS0 ?_;try simp only[zz]
   refine tf 8 (.pointer (some ⟨b2,o2+k*4+3,none⟩)) hS0 ?_;try simp only[zz]
   refine tz 9 (.slice p2 x.l.length c2) hS0 (hy:=fun _ ⟨s0,s1⟩=>by go_simp) ?_;try simp only[zz]
   refine rzl (h:=fun K' hK'=>?_);go_simp;refine(CC.out _ ((Ydb _ wr).drew)).mono ?_;rintro e w2 ⟨rfl,hb2⟩;have B2:=Zaa ((Ydb _ wr).drew.trans hb2);refine hK'.out _ _ ?_;try simp only[zz]
   refine ry 11 (h:=fun K' hK'=>?_);go_simp;refine hK'.out _ _ ?_;try simp only[zz]
   refine dz (h:=?_);obtain⟨⟨k0,k1,k2,k3⟩,j0,j1,j2,j3⟩:=HX.out w2 B2.out;clear hb2 hS0;go_wp2
   go_quiet (fail)
   have B3:=tr HB B2.out;clear k0 k1 k2 k3 j0 j1 j2 j3;go_wp2
   exact⟨⟨k+1,by omega,by go_num,B3.out.drewK _⟩,by simp[intOf];omega⟩
  ·obtain rfl:k=n:=by omega
   go_wp2
   go_ret
   exact⟨rfl,HB.out⟩
theorem Zp4:Z5s 0:=by
 intro B w p q c c' xs _ hp _
 have:xs=[]:=by
  cases xs with
  | nil=>rfl
  | cons x l=>obtain⟨_,_,_,h⟩:=hp.at_ 0 x rfl;exact absurd h id
 subst this;exact Zp6 w p q c c'
theorem Zkx (d:Nat):Z5s d:=by
 induction d with
 | zero=>exact Zp4
 | succ d ih=>exact Zp5 ih
end Go.P
namespace Go.W
def Z5o (w:World) (p:Option Addr) (xs:List (Int×Int×ByteArray)):Prop:= ∀ (i:Nat) (x:Int×Int×ByteArray),xs[i]?=some x->(x.2.2.size < 140737488355328/\ -9223372036854775808<=x.2.1/\x.2.1 < 9223372036854775808)/\ ∃ b o,p=some ⟨b,o,none⟩/\w.cell? ⟨b,o+i*3,none⟩=some (.int .i64 x.1)/\w.cell? ⟨b,o+i*3+1,none⟩=some (.int .i64 x.2.1)/\w.cell? ⟨b,o+i*3+2,none⟩=some (.string x.2.2)
end Go.W
namespace Go.P
def Ycb (w:World) (xs:List (Int×Int×ByteArray)) (nv iv:Value) (wr:World):Prop:= ∃ (k:Nat) (m:Nat),k<=xs.length/\iv= .int .i64 (k:Int)/\nv= .int .i64 (m:Int)/\m<=65536/\wr=w/\ ∀ (i:Nat) (x:Int×Int×ByteArray),i < k->xs[i]?=some x->x.2.2.size<=65536
theorem Z4u {w:World}{p:Option Addr}{c:Nat}{xs:List (Int×Int×ByteArray)}(h:Z5o w p xs)(hl:xs.length < 140737488355328):Calls prog 13 #[.slice p xs.length c] w fun e w'=> ∃ b,e= .returned (.bool b)/\w'=w/\(b=true->xs.length<=65536/\ ∀ (i:Nat) (x:Int×Int×ByteArray),xs[i]?=some x->x.2.2.size<=65536):=by
 have H:=Zaa h;clear h;obtain⟨n,hn⟩: ∃ n,Box (xs.length=n):=⟨_,⟨rfl⟩⟩;rw[hn.out]at hl⊢;by_cases h0:n<=65536
 ·have h1: ¬ (65536:Int) < (n:Int):=by omega
  go_in
  go_wp2
  go_loopw [3,4] (fun nv iv wr=>Ycb w xs nv iv wr) (fun _ iv _=>n - (intOf iv).toNat)
  case atStart=>exact⟨0,n,by omega,rfl,rfl,h0,rfl,fun _ _ h=>by omega⟩
  case round=>
   obtain⟨k,m,hk,rfl,rfl,hm,rfl,hall⟩:=hrel;have HA:=Zaa hall;clear hall;by_cases hlt:k < n
   ·have hlt':k < xs.length:=by rw[hn.out];exact hlt
    obtain⟨⟨hs,_⟩,b,o,rfl,_,_,k2⟩:=H.out k xs[k] (Ydi hlt');have hx:=Zaa (Ydi hlt');generalize xs[k]=x at*;by_cases hg:m+x.2.2.size<=65536
    ·have g1: ¬ (65536:Int) < (m:Int)+(x.2.2.size:Int):=by omega
     go_wp2_with fail
     refine⟨⟨k+1,m+x.2.2.size,hlt',by go_num,by go_num,hg,rfl,fun i y hi hy=>?_⟩,by simp[intOf];omega⟩;rcases Ye3 i k with h | h
     ·exact HA.out i y h hy
     ·obtain rfl:i=k:=by omega
      rw[hx.out]at hy;cases hy;omega
    ·have g1:(65536:Int) < (m:Int)+(x.2.2.size:Int):=by omega
     go_wp2
     go_ret
     exact⟨false,rfl,rfl,fun h=>by cases h⟩
   ·have hkn:k=n:=by rw[hn.out]at hk;omega
    subst hkn;go_wp2
    go_ret
    exact⟨true,rfl,rfl,fun _=>⟨h0,fun i y hy=>HA.out i y (by have:=(Ydl.1 hy).1;rw[hn.out]at this;exact this) hy⟩⟩
 ·have h1:(65536:Int) < (n:Int):=by omega
  go_in
  go_wp2
  go_ret
  exact⟨false,rfl,rfl,fun h=>by cases h⟩
end Go.P
namespace Go.P
variable {v:Value}{W:World}{base fuel:Nat}{sp:Nat->Bool}{held:Bool}
section
variable {H:Type}
def Zys (y:DataW H×List MemPlace):Int×Int×ByteArray:=match y.1 with
 | .agg [.lit (.int _ k),.lit (.int _ a),.lit (.string t)]=>(k,a,⟨t.toArray⟩)
 | _=>(0,0,⟨#[]⟩)
theorem Zrs:prog.cellsOf 48=3:=by kernel_rfl
theorem Ya1:prog.cellsOf 3=1:=by kernel_rfl
theorem Ya2:prog.cellsOf 9=1:=by kernel_rfl
theorem Z8z:prog.bytesOf 48=32:=by kernel_rfl
theorem Zxl {P:Program}{e:TypeId}{l:List (DataW H)}{d:DataW H}(h:d∈l): ∀ n,n∈d.weights P e->n∈DataW.weightsAll P e l:=by
 induction l with
 | nil=>cases h
 | cons y r ih=>
  intro n hn;simp only[DataW.weightsAll,Ydk];rcases Ydj.1 h with rfl | h
  ·exact .inl hn
  ·exact .inr (ih h n hn)
theorem Ybm {α:Type}{l:List α}(h:l.length=3): ∃ a b c,l=[a,b,c]:=by
 match l,h with
 | [a,b,c],_=>exact⟨a,b,c,rfl⟩
theorem Z4w {w:World}{a:Addr}(hc:w.cell? ((a.add (0*3)).add 0)=some v):a.spot=none:=by
 simp only[Yex,Addr.add,if_true]at hc;unfold World.cell? at hc;split at hc
 ·split at hc
  ·cases hc
  ·rename_i hh;cases hs:a.spot with
   | none=>rfl
   | some z=>rw[hs]at hh;exact absurd rfl hh
 ·cases hc
theorem Zq4 {enc:TypeId×Value->H}{cs:List Value}{y:DataW H×List MemPlace}(h:DataW.trod enc prog W base sp held fuel 48 cs=some y):cs=[.int .i64 (Zys y).1,.int .i64 (Zys y).2.1,.string (Zys y).2.2]/\(Zys y).2.2.size∈y.1.weights prog 48/\(-9223372036854775808<=(Zys y).2.1/\(Zys y).2.1 < 9223372036854775808):=by
 obtain⟨xs,n,_,hy,hl,hx,hf⟩:=DataW.trod_struct underlying48 h;rw[Zrs]at hl;obtain⟨c0,c1,c2,rfl⟩:=Ybm hl;obtain⟨x0,x1,x2,rfl⟩:=Ybm (hx.trans rfl:xs.length=3);have f0:DataW.trod enc prog W base sp held n 3 (List.take (prog.cellsOf 3) [c0,c1,c2])=some x0:=hf 0 _ rfl;have f1:DataW.trod enc prog W base sp held n 3 (List.take (prog.cellsOf 3) [c1,c2])=some x1:=hf 1 _ rfl;have f2:DataW.trod enc prog W base sp held n 9 (List.take (prog.cellsOf 9) [c2])=some x2:=hf 2 _ rfl;rw[Ya1]at f0 f1;rw[Ya2]at f2;obtain⟨k,e0,rfl,_⟩:=DataW.trod_int underlying3 f0;obtain⟨a,e1,rfl,ea⟩:=DataW.trod_int underlying3 f1;obtain⟨s,e2,rfl,_⟩:=DataW.trod_string underlying9 f2;simp at e0 e1 e2;subst hy e0 e1 e2;refine⟨rfl,?_,(by
  have h1:(decide (IntKind.i64.min<=a) && decide (a<=IntKind.i64.max))=true:=ea;rw[show IntKind.i64.min= -9223372036854775808 by decide,show IntKind.i64.max=9223372036854775807 by decide]at h1;simp at h1;exact⟨h1.1,Int.lt_of_le_of_lt h1.2 (by decide)⟩)⟩
 rw[DataW.weights,underlying48];refine DataW.weights_mem_each (j:=2) (t:=9) (d:= .lit (.string s.data.toList)) rfl rfl _ ?_;rw[DataW.weights];exact Yeb.2 (Yep▸rfl)
theorem Zwt {enc:TypeId×Value->H}{x:DataW H×List MemPlace}(h:DataW.trod enc prog W base sp held fuel 22 [v]=some x)(hz:(x.1.weights prog 22).all (·<=reachBytes)=true): ∃ p c xs,v= .slice p xs.length c/\xs.length < 140737488355328/\Z5o W p xs:=by
 rcases DataW.trod_slice underlying22 h with⟨hv,_⟩ | ⟨a,len,cap,elems,rest,n,_,hv,hx,_,_,_,hlen,hel,_,_⟩
 ·cases hv;exact⟨none,0,[],rfl,by decide,fun i x hx=>by simp at hx⟩
 cases hv;subst hx;have hr:=reachBytes_lt;simp only[DataW.weights,underlying22,List.all_cons,List.all_append,Bool.and_eq_true,Yeo,Z8z,decide_eq_true_eq]at hz;obtain⟨hz0,hz1,_⟩:=hz;have each: ∀ i y,elems[i]?=some y->((Zys y).2.2.size < 140737488355328/\ -9223372036854775808<=(Zys y).2.1/\(Zys y).2.1 < 9223372036854775808)/\ ∃ b o,a=⟨b,o,none⟩/\W.cell? ⟨b,o+i*3,none⟩=some (.int .i64 (Zys y).1)/\W.cell? ⟨b,o+i*3+1,none⟩=some (.int .i64 (Zys y).2.1)/\W.cell? ⟨b,o+i*3+2,none⟩=some (.string (Zys y).2.2):=by
  intro i y hy;have hi:i < len:=by rw[<- hlen];exact(Ydl.1 hy).1
  have h1:=hel i hi;have h0:=hel 0 (by omega);rw[hy,Option.bind_eq_some_iff]at h1;obtain⟨cs,hcs,ht⟩:=h1;obtain⟨rfl,hw,hA⟩:=Zq4 ht;have hsz:=Ye1.1 hz1 _ (Zxl (List.mem_map.2 ⟨y,Yeq hy,rfl⟩) _ hw);simp only[decide_eq_true_eq]at hsz;have hsp:a.spot=none:=by
   have: ∃ y0,elems[0]?=some y0:=⟨elems[0]'(by omega),Ydi _⟩
   obtain⟨y0,hy0⟩:=this;rw[hy0,Option.bind_eq_some_iff]at h0;obtain⟨cs0,hcs0,ht0⟩:=h0;obtain⟨rfl,_⟩:=Zq4 ht0;have hc:=(World.cells?_some hcs0).2.2 0 (by rw[Zrs];omega);rw[Zrs]at hc;exact Z4w (hc.trans rfl)
  obtain⟨b,o,z⟩:=a;simp only at hsp;subst hsp;rw[Zrs]at hcs;have hc:=(World.cells?_some hcs).2.2;have ad: ∀ k,(⟨b,o,none⟩:Addr).add k=⟨b,o+k,none⟩:=fun k=>Addr.add_lit _ _ _;refine⟨⟨by omega,hA⟩,b,o,rfl,?_,?_,?_⟩
  ·have:=hc 0 (by simp);rw[ad,Addr.add_lit]at this;exact this
  ·have:=hc 1 (by simp);rw[ad,Addr.add_lit]at this;exact this
  ·have:=hc 2 (by simp);rw[ad,Addr.add_lit]at this;exact this
 refine⟨some a,cap,elems.map Zys,by rw[Yeo,hlen],by rw[Yeo];omega,fun i x hx=>?_⟩;rw[Yd5]at hx;obtain⟨y,hy,rfl⟩:=Yd0.1 hx;obtain⟨h1,b,o,h2,h3⟩:=each i y hy;exact⟨h1,b,o,by rw[h2],h3⟩
end
end Go.P
