import Derived.Test.YtghnjdpgbldlkaaGreatDoorW20
import Derived.SizedLaws
import Derived.ChangeArms
import Derived.ChangeOld
import Derived.KernelRfl
import Derived.RowKit
set_option linter.defProp false
set_option maxRecDepth 100000
set_option maxHeartbeats 8000000
set_option linter.unusedSimpArgs false
open Go.Proofs Go.RowKit Go.W Tryz
namespace Go.W
open Go
variable {n B:Nat}{w:World}{nv:Value}{cs:List Value}
def pO {P:Program}{md:Region.Mode}{ops:Array Oper}{Q:Exit->Act->World->Prop}{S:World->Prop}{z:Nat}(i j:Nat){o o':Oper}{l:Array Bool}{a:Act}(hr:Region.ready md ops l=[i,j]:=by kernel_rfl)(ho:ops[i]?=some o:=by rfl)(ho':ops[j]?=some o':=by rfl)(h: ∀ K':Act->World->Prop,Shut (∀ a w,S w->Ji z P md ops Q S n (l.setIfInBounds i true) a w->K' a w)->if Region.wanted o (yielded ops a.tmps)=true then Oper.wp P o a w K' Q else K' (a.put o.dst undef) w)(h': ∀ K':Act->World->Prop,Shut (∀ a w,S w->Ji z P md ops Q S n (l.setIfInBounds j true) a w->K' a w)->if Region.wanted o' (yielded ops a.tmps)=true then Oper.wp P o' a w K' Q else K' (a.put o'.dst undef) w):Ji z P md ops Q S (n+1) l a w:=
 ⟨fun e=>(by rw[hr]at e;cases e),fun k hk=>by
  rw[hr]at hk;simp only[Be,SA,or_false]at hk;rcases hk with rfl | rfl
  ·exact wpOp_step ho fun K' hK=>h K' fun a w hS hW=>hK a w ⟨fun _=>hS,hW⟩
  ·exact wpOp_step ho' fun K' hK=>h' K' fun a w hS hW=>hK a w ⟨fun _=>hS,hW⟩⟩
def OX (B:Nat) (w:World) (nv:Value) (cs:List Value) (n:Nat):Prop:=(n=0/\nv= .slice none 0 0/\cs=[])\/ ∃ g cap,B<=g/\nv= .slice (Qb g 0) n cap/\n<=cap/\g<w.heap.size/\ ∀ j u,cs[j]?=some u->w.cell? ⟨g,j,none⟩=some u
def OX.of {B':Nat}{w':World}(h:OX B w nv cs n)(hB:B'<=B)(hb:Bl w w'):OX B' w' nv cs n:=by
 rcases h with h | ⟨g,cap,h1,h2,h3,h4,h5⟩
 ·exact .inl h
 ·exact .inr ⟨g,cap,AU hB h1,h2,h3,Ba h4 hb.size,fun j u hj=>(Am (a:=⟨g,j,none⟩)<|hb.block g h4).trans (h5 j u hj)⟩
def OX.set (h:OX B w nv cs n)(k:Nat)(hk:k<B)(o:Nat)(v:Value):OX B (w.setCell ⟨k,o,none⟩ v) nv cs n:=by
 rcases h with h | ⟨g,cap,h1,h2,h3,h4,h5⟩
 ·exact .inl h
 ·exact .inr ⟨g,cap,h1,h2,h3,by simpa[World.setCell]using h4,fun j u hj=>(Am (a:=⟨g,j,none⟩)<|Au _ _ _ _ (by show g≠k;omega)).trans (h5 j u hj)⟩
def Ri {u:World}(k:Nat)(h:Below B w u)(hk:B<=k)(o:Nat)(v:Value):Below B w (u.setCell ⟨k,o,none⟩ v):=
 ⟨h.os,h.tape,h.output,by simpa[World.setCell]using h.size,fun i hi=>(Au _ _ _ _ (by show i≠k;omega)).trans (h.block i hi)⟩
def Nj.is {E s:Nat}{wr:World}(h:Nj E s w nv cs n n wr):OX w.heap.size wr nv cs n/\Bl w wr:=by
 obtain⟨hb,_,h | ⟨cap,vs,h1,h2,h3,h4,h5⟩⟩:=h
 ·exact⟨.inl ⟨h.1,h.2.2.1,h.2.2.2⟩,hb⟩
 ·refine⟨.inr ⟨w.heap.size,cap,JB _,h2,h1,h3.lt,fun j u hj=>?_⟩,hb⟩;have hjl:=(Gl.1 hj).1;rw[h3.cell,<- UG];rw[<- h5,List.getElem?_take,if_pos hjl]at hj;exact hj
end Go.W
namespace Go.P
attribute [local go_sem] MZ
def Z32 {w:World}{fa fb ra rb ka kb:Option Addr}{KZ O9 GZ G4 JU NM Fe Gf dY iL PY Jb:Nat}{xa xb ya yb:List Value}(kZ:NZ 2 w (.slice fa KZ O9) KZ xa)(hfb:NZ 2 w (.slice fb GZ G4) GZ xb)(VS:NZ 4 w (.slice ra JU NM) JU ya)(UW:NZ 4 w (.slice rb Fe Gf) Fe yb)(hsm:KZ<1000/\GZ<1000/\JU<1000/\Fe<1000):
  Calls prog 141 #[.agg #[.slice fa KZ O9,.slice ra JU NM,.slice ka dY iL],.agg #[.slice fb GZ G4,.slice rb Fe Gf,.slice kb PY Jb]] w fun e w'=> ∃ pf nf cf pr nr cr,e= .returned (.agg #[.slice pf nf cf,.slice pr nr cr,.slice none 0 0])/\OX w.heap.size w' (.slice pf nf cf) (xa++xb) (KZ+GZ)/\OX w.heap.size w' (.slice pr nr cr) (ya++yb) (JU+Fe)/\Bl w w':=by
 have CA:AC (∀ u vb,Bl w u->AJ u vb #[.slice fa KZ O9,.slice fb GZ G4] 34->Calls prog 189 #[.slice (Qb vb 0) 2 2] u fun e w'=> ∃ pf nf cf,e= .returned (.slice pf nf cf)/\OX u.heap.size w' (.slice pf nf cf) (xa++xb) (KZ+GZ)/\Bl u w'):=⟨fun u vb hu hv=>by
  refine(Zx0 (xs:=[(KZ,xa),(GZ,xb)]) (c:=2) (o:=0) (b:=vb) (fun i x hx=>?_) zw (by simp[Dp];omega)).mono ?_
  ·match i with
   | 0=>simp at hx;subst hx;exact⟨hv.lt,_,hv.two.1,kZ.below hu⟩
   | 1=>simp at hx;subst hx;exact⟨hv.lt,_,hv.two.2.1,hfb.below hu⟩
   | i+2=>simp at hx
  ·rintro e w' ⟨nv,rfl,hc⟩;have h2:=Nj.is (by simpa[Dp,Ui]using hc:Nj 95 2 u nv (xa++xb) (KZ+GZ) (KZ+GZ) w');rcases h2.1 with⟨_,rfl,_⟩ | ⟨g,cap,_,rfl,_⟩
   ·exact⟨_,_,_,rfl,h2⟩
   ·exact⟨_,_,_,rfl,h2⟩⟩
 have CR:AC (∀ u vb,Bl w u->AJ u vb #[.slice ra JU NM,.slice rb Fe Gf] 35->Calls prog 190 #[.slice (Qb vb 0) 2 2] u fun e w'=> ∃ pf nf cf,e= .returned (.slice pf nf cf)/\OX u.heap.size w' (.slice pf nf cf) (ya++yb) (JU+Fe)/\Bl u w'):=⟨fun u vb hu hv=>by
  refine(Zx1 (xs:=[(JU,ya),(Fe,yb)]) (c:=2) (o:=0) (b:=vb) (fun i x hx=>?_) zw (by simp[Dp];omega)).mono ?_
  ·match i with
   | 0=>simp at hx;subst hx;exact⟨hv.lt,_,hv.two.1,VS.below hu⟩
   | 1=>simp at hx;subst hx;exact⟨hv.lt,_,hv.two.2.1,UW.below hu⟩
   | i+2=>simp at hx
  ·rintro e w' ⟨nv,rfl,hc⟩;have h2:=Nj.is (by simpa[Dp,Ui]using hc:Nj 98 4 u nv (ya++yb) (JU+Fe) (JU+Fe) w');rcases h2.1 with⟨_,rfl,_⟩ | ⟨g,cap,_,rfl,_⟩
   ·exact⟨_,_,_,rfl,h2⟩
   ·exact⟨_,_,_,rfl,h2⟩⟩
 clear kZ hfb VS UW;refine Qx func141 rfl ?_;simp only[ntmps141,E9,BO,D7,Nat.reduceAdd,Nat.reduceSub,Ju,Jv,Jr,Jt,FK,Gm];go_wp2_with fail
 obtain⟨W3,hW3⟩: ∃ W3,AC (((w.alloc<|.cells #[.slice fa KZ O9,.slice ra JU NM,.slice ka dY iL] 38).alloc<|.cells #[.slice fb GZ G4,.slice rb Fe Gf,.slice kb PY Jb] 38).alloc (.cells #[.slice none 0 0,.slice none 0 0,.slice none 0 0] 38)=W3):=⟨_,⟨rfl⟩⟩;rw[hW3.out];have B3:Bl w W3:=hW3.out▸(((AQ _ w).alloc lr _).alloc zw _).alloc (by simp;omega) _;have L0:AJ W3 w.heap.size #[.slice fa KZ O9,.slice ra JU NM,.slice ka dY iL] 38:=hW3.out▸((AJ.new w _ _).alloc _).alloc _;have L1:AJ W3 (w.heap.size+1) #[.slice fb GZ G4,.slice rb Fe Gf,.slice kb PY Jb] 38:=hW3.out▸(Jd w _ _ _).alloc _;have L2:AJ W3 (w.heap.size+1+1) #[.slice none 0 0,.slice none 0 0,.slice none 0 0] 38:=hW3.out▸UC w _ _ _ _;have HS:AC (∀ u,Bl W3 u->u.cell? ⟨w.heap.size,0,none⟩=some (.slice fa KZ O9)/\u.cell? ⟨w.heap.size,1,none⟩=some (.slice ra JU NM)/\u.cell? ⟨w.heap.size+1,0,none⟩=some (.slice fb GZ G4)/\u.cell? ⟨w.heap.size+1,1,none⟩=some (.slice rb Fe Gf)):=⟨fun u hu=>⟨(L0.of<|hu.block _ L0.lt).three.1,(L0.of<|hu.block _ L0.lt).three.2.1,(L1.of<|hu.block _ L1.lt).three.1,(L1.of<|hu.block _ L1.lt).three.2.1⟩⟩;have HZ:AC (∀ u,Bl W3 u->AJ u (w.heap.size+1+1) #[.slice none 0 0,.slice none 0 0,.slice none 0 0] 38):=⟨fun u hu=>L2.of (hu.block _ L2.lt)⟩;have aA:Bl W3 W3.drew:=(AQ _ W3).drew;have AV:=HS.out _ aA;clear L0 L1 L2;refine Nv 13 (fun u=>u.cell? ⟨w.heap.size,0,none⟩=some (.slice fa KZ O9)/\u.cell? ⟨w.heap.size,1,none⟩=some (.slice ra JU NM)/\u.cell? ⟨w.heap.size+1,0,none⟩=some (.slice fb GZ G4)/\u.cell? ⟨w.heap.size+1,1,none⟩=some (.slice rb Fe Gf)) zt ?_;refine tz 0 (.pointer<|Qb w.heap.size 0) AV ?_;try simp only[zz]
 refine tz 1 (.slice fa KZ O9) AV (hy:=fun _ ⟨s0,s1,s2,s3⟩=>by go_simp) ?_;try simp only[zz]
 refine tz 2 (.pointer<|Qb (w.heap.size+1) 0) AV ?_;try simp only[zz]
 refine tz 3 (.slice fb GZ G4) AV (hy:=fun _ ⟨s0,s1,s2,s3⟩=>by go_simp) ?_;try simp only[zz]
 refine tz 6 (.pointer<|Qb w.heap.size 1) AV ?_;try simp only[zz]
 refine tz 7 (.slice ra JU NM) AV (hy:=fun _ ⟨s0,s1,s2,s3⟩=>by go_simp) ?_;try simp only[zz]
 refine tz 8 (.pointer<|Qb (w.heap.size+1) 1) AV ?_;try simp only[zz]
 refine tz 9 (.slice rb Fe Gf) AV (hy:=fun _ ⟨s0,s1,s2,s3⟩=>by go_simp) ?_;try simp only[zz]
 obtain⟨W4,hW4⟩: ∃ W4,AC (W3.drew=W4):=⟨_,⟨rfl⟩⟩;have RH:Bl W3 W4:=hW4.out▸aA;have z3:W3.heap.size=w.heap.size+3:=by rw[<- hW3.out];simp
 rw[hW4.out];clear AV aA;refine pO 4 10 (h:=fun K' hK'=>?_) (h':=fun K' hK'=>?_)
 ·go_simp;obtain⟨WA,hWA⟩: ∃ WA,AC (W4.alloc (.cells #[.slice fa KZ O9,.slice fb GZ G4] 34)=WA):=⟨_,⟨rfl⟩⟩;rw[hWA.out];have sw:Bl W4 WA:=hWA.out▸(AQ _ W4).alloc lr _;have UQ:Bl W3 WA:=RH.trans<|sw.mono RH.size;have Vf:AJ WA W4.heap.size #[.slice fa KZ O9,.slice fb GZ G4] 34:=hWA.out▸AJ.new W4 _ _;refine hK'.out _ _ (HS.out _ UQ) ?_;try simp only[zz]
  refine pO 5 10 (h:=fun K' hK'=>?_) (h':=fun K' hK'=>?_)
  ·go_simp;refine(CA.out WA _ (B3.trans<|UQ.mono B3.size) Vf).mono ?_;rintro e WB ⟨pf,nf,cf,rfl,If,Y8⟩;have PV:Bl W3 WB:=UQ.trans<|Y8.mono UQ.size;refine hK'.out _ _ (HS.out _ PV) ?_;try simp only[zz]
   refine rz 10 (h:=fun K' hK'=>?_);go_simp;obtain⟨WC,hWC⟩: ∃ WC,AC (WB.alloc (.cells #[.slice ra JU NM,.slice rb Fe Gf] 35)=WC):=⟨_,⟨rfl⟩⟩;rw[hWC.out];have XF:Bl WB WC:=hWC.out▸(AQ _ WB).alloc lr _;have N8:Bl W3 WC:=PV.trans<|XF.mono PV.size;have Vr:AJ WC WB.heap.size #[.slice ra JU NM,.slice rb Fe Gf] 35:=hWC.out▸AJ.new WB _ _;refine hK'.out _ _ (HS.out _ N8) ?_;try simp only[zz]
   have If:=If.of lr XF;refine rz 11 (h:=fun K' hK'=>?_);go_simp;refine(CR.out WC _ (B3.trans<|N8.mono B3.size) Vr).mono ?_;rintro e WD ⟨pr,nr,cr,rfl,Ir,XA⟩;have Nz:Bl W3 WD:=N8.trans<|XA.mono N8.size;refine hK'.out _ _ (HS.out _ Nz) ?_;try simp only[zz]
   have If:=If.of lr XA;have lWA:=UQ.size;have zI:=N8.size;have zH:=Nz.size;have If:=If.of (B':=w.heap.size+3) zx<|AQ _ _;have Ir:=Ir.of (B':=w.heap.size+3) zx<|AQ _ _;have gJ:=HS.out _ Nz;have kz:=HZ.out _ Nz;obtain⟨y0,y1,y2,ys⟩:=kz.three;refine tz 12 (.agg #[.slice pf nf cf,.slice pr nr cr,.slice none 0 0]) gJ ?_;try simp only[zz]
   refine J6 (h:=fun K' hK'=>?_);go_simp;refine hK'.out _ _ ?_;try simp only[zz]
   refine dz (h:=?_);have k9:=((kz.set 0<|.slice pf nf cf).set 1<|.slice pr nr cr).set 2<|.slice none 0 0;obtain⟨d0,d1,d2,ds⟩:=AJ.three (by simpa using k9);have FO:=AA<|AF (((If.set (w.heap.size+1+1) zx 0<|.slice pf nf cf).set (w.heap.size+1+1) zx 1<|.slice pr nr cr).set (w.heap.size+1+1) zx 2<|.slice none 0 0)<|AF (((Ir.set (w.heap.size+1+1) zx 0<|.slice pf nf cf).set (w.heap.size+1+1) zx 1<|.slice pr nr cr).set (w.heap.size+1+1) zx 2<|.slice none 0 0)<|Ri (w.heap.size+1+1) (Ri (w.heap.size+1+1) (Ri (w.heap.size+1+1) (B3.trans<|Nz.mono B3.size) zx 0<|.slice pf nf cf) zx 1<|.slice pr nr cr) zx 2<|.slice none 0 0;clear kz k9 y0 y1 y2 ys If Ir;go_wp2
   refine CQ (by simp[results,results141,go_sem,d0,d1,d2];try rfl) rfl ?_;exact⟨pf,nf,cf,pr,nr,cr,rfl,FO.out.1.of zx<|AQ _ _,FO.out.2.1.of zx<|AQ _ _,FO.out.2.2⟩
  ·go_simp;obtain⟨WB,hWB⟩: ∃ WB,AC (WA.alloc (.cells #[.slice ra JU NM,.slice rb Fe Gf] 35)=WB):=⟨_,⟨rfl⟩⟩;rw[hWB.out];have Y8:Bl WA WB:=hWB.out▸(AQ _ WA).alloc lr _;have PV:Bl W3 WB:=UQ.trans<|Y8.mono UQ.size;have Vr:AJ WB WA.heap.size #[.slice ra JU NM,.slice rb Fe Gf] 35:=hWB.out▸AJ.new WA _ _;refine hK'.out _ _ (HS.out _ PV) ?_;try simp only[zz]
   have Vf:=Vf.of<|Y8.block _ Vf.lt;refine rz 5 (h:=fun K' hK'=>?_);go_simp;refine(CA.out WB _ (B3.trans<|PV.mono B3.size) Vf).mono ?_;rintro e WC ⟨pf,nf,cf,rfl,If,XF⟩;have N8:Bl W3 WC:=PV.trans<|XF.mono PV.size;refine hK'.out _ _ (HS.out _ N8) ?_;try simp only[zz]
   have Vr:=Vr.of<|XF.block _ Vr.lt;refine rz 11 (h:=fun K' hK'=>?_);go_simp;refine(CR.out WC _ (B3.trans<|N8.mono B3.size) Vr).mono ?_;rintro e WD ⟨pr,nr,cr,rfl,Ir,XA⟩;have Nz:Bl W3 WD:=N8.trans<|XA.mono N8.size;refine hK'.out _ _ (HS.out _ Nz) ?_;try simp only[zz]
   have If:=If.of lr XA;have lWB:=PV.size;have zI:=N8.size;have zH:=Nz.size;have If:=If.of (B':=w.heap.size+3) zx<|AQ _ _;have Ir:=Ir.of (B':=w.heap.size+3) zx<|AQ _ _;have gJ:=HS.out _ Nz;have kz:=HZ.out _ Nz;obtain⟨y0,y1,y2,ys⟩:=kz.three;refine tz 12 (.agg #[.slice pf nf cf,.slice pr nr cr,.slice none 0 0]) gJ ?_;try simp only[zz]
   refine J6 (h:=fun K' hK'=>?_);go_simp;refine hK'.out _ _ ?_;try simp only[zz]
   refine dz (h:=?_);have k9:=((kz.set 0<|.slice pf nf cf).set 1<|.slice pr nr cr).set 2<|.slice none 0 0;obtain⟨d0,d1,d2,ds⟩:=AJ.three (by simpa using k9);have FO:=AA<|AF (((If.set (w.heap.size+1+1) zx 0<|.slice pf nf cf).set (w.heap.size+1+1) zx 1<|.slice pr nr cr).set (w.heap.size+1+1) zx 2<|.slice none 0 0)<|AF (((Ir.set (w.heap.size+1+1) zx 0<|.slice pf nf cf).set (w.heap.size+1+1) zx 1<|.slice pr nr cr).set (w.heap.size+1+1) zx 2<|.slice none 0 0)<|Ri (w.heap.size+1+1) (Ri (w.heap.size+1+1) (Ri (w.heap.size+1+1) (B3.trans<|Nz.mono B3.size) zx 0<|.slice pf nf cf) zx 1<|.slice pr nr cr) zx 2<|.slice none 0 0;clear kz k9 y0 y1 y2 ys If Ir;go_wp2
   refine CQ (by simp[results,results141,go_sem,d0,d1,d2];try rfl) rfl ?_;exact⟨pf,nf,cf,pr,nr,cr,rfl,FO.out.1.of zx<|AQ _ _,FO.out.2.1.of zx<|AQ _ _,FO.out.2.2⟩
 ·go_simp;obtain⟨WA,hWA⟩: ∃ WA,AC (W4.alloc (.cells #[.slice ra JU NM,.slice rb Fe Gf] 35)=WA):=⟨_,⟨rfl⟩⟩;rw[hWA.out];have sw:Bl W4 WA:=hWA.out▸(AQ _ W4).alloc lr _;have UQ:Bl W3 WA:=RH.trans<|sw.mono RH.size;have Vr:AJ WA W4.heap.size #[.slice ra JU NM,.slice rb Fe Gf] 35:=hWA.out▸AJ.new W4 _ _;refine hK'.out _ _ (HS.out _ UQ) ?_;try simp only[zz]
  refine rz 4 (h:=fun K' hK'=>?_);go_simp;obtain⟨WB,hWB⟩: ∃ WB,AC (WA.alloc (.cells #[.slice fa KZ O9,.slice fb GZ G4] 34)=WB):=⟨_,⟨rfl⟩⟩;rw[hWB.out];have Y8:Bl WA WB:=hWB.out▸(AQ _ WA).alloc lr _;have PV:Bl W3 WB:=UQ.trans<|Y8.mono UQ.size;have Vf:AJ WB WA.heap.size #[.slice fa KZ O9,.slice fb GZ G4] 34:=hWB.out▸AJ.new WA _ _;refine hK'.out _ _ (HS.out _ PV) ?_;try simp only[zz]
  have Vr:=Vr.of<|Y8.block _ Vr.lt;refine rz 5 (h:=fun K' hK'=>?_);go_simp;refine(CA.out WB _ (B3.trans<|PV.mono B3.size) Vf).mono ?_;rintro e WC ⟨pf,nf,cf,rfl,If,XF⟩;have N8:Bl W3 WC:=PV.trans<|XF.mono PV.size;refine hK'.out _ _ (HS.out _ N8) ?_;try simp only[zz]
  have Vr:=Vr.of<|XF.block _ Vr.lt;refine rz 11 (h:=fun K' hK'=>?_);go_simp;refine(CR.out WC _ (B3.trans<|N8.mono B3.size) Vr).mono ?_;rintro e WD ⟨pr,nr,cr,rfl,Ir,XA⟩;have Nz:Bl W3 WD:=N8.trans<|XA.mono N8.size;refine hK'.out _ _ (HS.out _ Nz) ?_;try simp only[zz]
  have If:=If.of lr XA;have lWB:=PV.size;have zI:=N8.size;have zH:=Nz.size;have If:=If.of (B':=w.heap.size+3) zx<|AQ _ _;have Ir:=Ir.of (B':=w.heap.size+3) zx<|AQ _ _;have gJ:=HS.out _ Nz;have kz:=HZ.out _ Nz;obtain⟨y0,y1,y2,ys⟩:=kz.three;refine tz 12 (.agg #[.slice pf nf cf,.slice pr nr cr,.slice none 0 0]) gJ ?_;try simp only[zz]
  refine J6 (h:=fun K' hK'=>?_);go_simp;refine hK'.out _ _ ?_;try simp only[zz]
  refine dz (h:=?_);have k9:=((kz.set 0<|.slice pf nf cf).set 1<|.slice pr nr cr).set 2<|.slice none 0 0;obtain⟨d0,d1,d2,ds⟩:=AJ.three (by simpa using k9);have FO:=AA<|AF (((If.set (w.heap.size+1+1) zx 0<|.slice pf nf cf).set (w.heap.size+1+1) zx 1<|.slice pr nr cr).set (w.heap.size+1+1) zx 2<|.slice none 0 0)<|AF (((Ir.set (w.heap.size+1+1) zx 0<|.slice pf nf cf).set (w.heap.size+1+1) zx 1<|.slice pr nr cr).set (w.heap.size+1+1) zx 2<|.slice none 0 0)<|Ri (w.heap.size+1+1) (Ri (w.heap.size+1+1) (Ri (w.heap.size+1+1) (B3.trans<|Nz.mono B3.size) zx 0<|.slice pf nf cf) zx 1<|.slice pr nr cr) zx 2<|.slice none 0 0;clear kz k9 y0 y1 y2 ys If Ir;go_wp2
  refine CQ (by simp[results,results141,go_sem,d0,d1,d2];try rfl) rfl ?_;exact⟨pf,nf,cf,pr,nr,cr,rfl,FO.out.1.of zx<|AQ _ _,FO.out.2.1.of zx<|AQ _ _,FO.out.2.2⟩
end Go.P
namespace Go.W
variable {B B' d b o:Nat}{w w':World}{vs:List Value}{x:A}
def FM.at (h:FM B w d vs x)(c:Dy B B' w w')(hb:b<B')(hv: ∀ j u,vs[j]?=some u->w'.cell? ⟨b,o+j,none⟩=some u):DX B' w' (d+1) b o x:=by
 obtain⟨p,k,rfl,hs,hc,hr⟩:=h;exact⟨hb,hv 0 _ rfl,hs,_,hv 1 _ rfl,p,k,rfl,hc,hr.carry fun _ _ _ hT=>D6.carry c lr hT⟩
def DX.sl (h:DX B w (d+1) b o x)(hB:B<=w.heap.size):b<w.heap.size/\ ∃ vs:List Value,(vs.length=2/\(∀ u,u∈vs->u.oneCell'=true)/\FM B w d vs x)/\ ∀ j u,vs[j]?=some u->w.cell? ⟨b,o+j,none⟩=some u:=by
 obtain⟨hb,p,c,c0,c1,hs⟩:=h.vals;refine⟨Ba hb hB,_,⟨rfl,fun u hu=>?_,hs⟩,fun j u hj=>?_⟩
 ·simp at hu;rcases hu with rfl | rfl <;> rfl
 ·match j with
  | 0=>simp at hj;subst hj;exact c0
  | 1=>simp at hj;subst hj;exact c1
  | j+2=>simp at hj
def GR.at {x:R}(h:GR B w (d+1) vs x)(c:Dy B B' w w')(hb:b<B')(hv: ∀ j u,vs[j]?=some u->w'.cell? ⟨b,o+j,none⟩=some u):E5 B' w' (d+2) b o x:=by
 obtain⟨va,p,k,p',k',rfl,ha,h1,hr,h2,kK⟩:=h;obtain⟨pa,ka,rfl,hs,hc,VS⟩:=ha;have e0:=hv 0 _ rfl;have e1:=hv 1 _ rfl;have e2:=hv 2 _ rfl;have e3:=hv 3 _ rfl;exact⟨hb,⟨hb,e0,hs,_,e1,pa,ka,rfl,hc,VS.carry fun _ _ _ hT=>D6.carry c zx hT⟩,⟨_,e2,p,k,rfl,h1,hr.carry fun _ _ _ hT=>DX.carry c zx hT⟩,_,e3,p',k',rfl,h2,kK.carry fun _ _ _ hT=>JN.carry c zx hT⟩
def E5.sl {x:R}(h:E5 B w (d+1) b o x)(hB:B<=w.heap.size):b<w.heap.size/\ ∃ vs:List Value,(vs.length=4/\(∀ u,u∈vs->u.oneCell'=true)/\GR B w d vs x)/\ ∀ j u,vs[j]?=some u->w.cell? ⟨b,o+j,none⟩=some u:=by
 obtain⟨hb,p,c,p',c',p2,c2,e0,e1,e2,e3,hs⟩:=h.vals;refine⟨Ba hb hB,_,⟨rfl,fun u hu=>?_,hs⟩,fun j u hj=>?_⟩
 ·simp at hu;rcases hu with rfl | rfl | rfl | rfl <;> rfl
 ·match j with
  | 0=>simp at hj;subst hj;exact e0
  | 1=>simp at hj;subst hj;exact e1
  | 2=>simp at hj;subst hj;exact e2
  | 3=>simp at hj;subst hj;exact e3
  | j+4=>simp at hj
def OX.row {α:Type}{s N:Nat}{nv:Value}{va vb:List (List Value)}{xs ys:List α}{S:List Value->α->Prop}{Q:Nat->Nat->α->Prop}(h:OX N w nv (va.flatten++vb.flatten) (xs.length+ys.length))(la:va.length=xs.length)(lb:vb.length=ys.length)(ha: ∀ v,v∈va->v.length=s)(hb: ∀ v,v∈vb->v.length=s)(sa: ∀ (i:Nat) x,xs[i]?=some x-> ∃ vs,va[i]?=some vs/\S vs x)(sb: ∀ (i:Nat) x,ys[i]?=some x-> ∃ vs,vb[i]?=some vs/\S vs x)(hq: ∀ g o vs x,g<w.heap.size->S vs x->(∀ j u,vs[j]?=some u->w.cell? ⟨g,o+j,none⟩=some u)->Q g o x)(hl:xs.length+ys.length<1000000000): ∃ p c,nv= .slice p (xs++ys).length c/\(xs++ys).length<=c/\Ap s Q p (xs++ys):=by
 rcases h with⟨h0,rfl,_⟩ | ⟨g,cap,_,rfl,h3,h4,h5⟩
 ·obtain rfl:xs=[]:=List.length_eq_zero_iff.1 zx;obtain rfl:ys=[]:=List.length_eq_zero_iff.1 zx;exact⟨none,0,rfl,JB _,zw,fun i x hx=>by simp at hx⟩
 ·refine⟨some ⟨g,0,none⟩,cap,zw,by simpa using h3,by simpa using hl,fun i x hx=>⟨g,0,rfl,?_⟩⟩;have hm: ∀ v,v∈va++vb->v.length=s:=fun v hv=>(CY.1 hv).elim (ha v) (hb v);have key: ∃ vs,(va++vb)[i]?=some vs/\S vs x:=by
   by_cases hi:i<xs.length
   ·rw[Q0 hi]at hx;obtain⟨vs,h1,h2⟩:=sa i x hx;exact⟨vs,by rw[Q0 zx];exact h1,h2⟩
   ·rw[Q7 zx]at hx;obtain⟨vs,h1,h2⟩:=sb _ x hx;exact⟨vs,by rw[Q7 zx,la];exact h1,h2⟩
  obtain⟨vs,h1,h2⟩:=key;refine hq g _ vs x h4 h2 fun j u hj=>?_
  have:=h5 (i*s+j) u (by rw[<- List.flatten_append];exact Z0m _ hm i vs j u h1 hj)
  simpa using this
end Go.W
namespace Go.W
def Ap.none {α:Type}{s:Nat}{Q:Nat->Nat->α->Prop}{p:Option Addr}{xs:List α}(h:Ap s Q p xs):p=none->xs=[]:=fun e=>by
 cases xs with
 | nil=>rfl
 | cons x l=>
  obtain⟨b,o,h,_⟩:=h.at_ 0 x rfl;rw[e]at h;cases h
def OX.at {B:Nat}{w v:World}{nv:Value}{cs:List Value}{n:Nat}(h:OX B w nv cs n)(hs:w.heap.size<=v.heap.size)(hc: ∀ j,B<=j->j<w.heap.size->v.heap[j]?=w.heap[j]?):OX B v nv cs n:=by
 rcases h with h | ⟨g,cap,h1,h2,h3,h4,h5⟩
 ·exact .inl h
 ·exact .inr ⟨g,cap,h1,h2,h3,Ba h4 hs,fun j u hj=>(Am (a:=⟨g,j,none⟩)<|hc g h1 h4).trans (h5 j u hj)⟩
end Go.W
namespace Go.P
def Zqo {w:World}{B D:Nat}(hB:B<=w.heap.size){fa fb ra rb ka kb:Option Addr}{O9 G4 NM Gf dY iL PY Jb:Nat}{xs ys:List A}{rs ss:List R}(h1:Ap 2 (DX B w<|D+2) fa xs)(h2:Ap 2 (DX B w<|D+2) fb ys)(h3:Ap 4 (E5 B w<|D+2) ra rs)(h4:Ap 4 (E5 B w<|D+2) rb ss)(hl:xs.length<1000/\ys.length<1000/\rs.length<1000/\ss.length<1000):
  Calls prog 141 #[.agg #[.slice fa xs.length O9,.slice ra rs.length NM,.slice ka dY iL],.agg #[.slice fb ys.length G4,.slice rb ss.length Gf,.slice kb PY Jb]] w fun e w'=> ∃ pf cf pr cr,e= .returned (.agg #[.slice pf (xs++ys).length cf,.slice pr (rs++ss).length cr,.slice none 0 0])/\(∀ v,w'.heap.size<=v.heap.size->(∀ j,j<B->v.heap[j]?=w'.heap[j]?)->(∀ j,w.heap.size<=j->j<w'.heap.size->v.heap[j]?=w'.heap[j]?)->Ap 2 (DX v.heap.size v<|D+2) pf (xs++ys)/\Ap 4 (E5 v.heap.size v<|D+2) pr (rs++ss))/\Bl w w':=by
 obtain⟨va,la,ma,sa,ta⟩:=Ap.sl (c:=O9) (w:=w) (S:=FM B w<|D+1) h1 (fun _ _ _ h=>DX.sl h hB) zx h1.none;obtain⟨vb,lb,mb,sb,tb⟩:=Ap.sl (c:=G4) (w:=w) (S:=FM B w<|D+1) h2 (fun _ _ _ h=>DX.sl h hB) zx h2.none;obtain⟨ua,lc,mc,sc,tc⟩:=Ap.sl (c:=NM) (w:=w) (S:=GR B w<|D+1) h3 (fun _ _ _ h=>E5.sl h hB) zx h3.none;obtain⟨ub,ld,md,sd,td⟩:=Ap.sl (c:=Gf) (w:=w) (S:=GR B w<|D+1) h4 (fun _ _ _ h=>E5.sl h hB) zx h4.none;refine(Z32 ta tb tc td zx).mono ?_;rintro e w' ⟨pf,nf,cf,pr,nr,cr,rfl,i1,i2,hb⟩;obtain⟨p1,k1,e1,_,_⟩:=i1.row (Q:=fun _ _ _=>True) la lb ma mb sa sb (fun _ _ _ _ _ _ _=>trivial) zx;obtain⟨p2,k2,e2,_,_⟩:=i2.row (Q:=fun _ _ _=>True) lc ld mc md sc sd (fun _ _ _ _ _ _ _=>trivial) zx;cases e1;cases e2;refine⟨pf,cf,pr,cr,rfl,fun v hs hc hn=>?_,hb⟩;have hc:Dy B v.heap.size w v:=⟨AU hB<|AU hb.size hs,fun j o hj=>Am (a:=⟨j,o,none⟩) ((hc j hj).trans<|hb.block j zx)⟩;obtain⟨p1,k1,e1,_,r1⟩:=(i1.at hs hn).row (Q:=DX v.heap.size v<|D+2) la lb ma mb sa sb (fun g o vs x hg hs hv=>hs.at hc hg hv) zx;obtain⟨p2,k2,e2,_,r2⟩:=(i2.at hs hn).row (Q:=E5 v.heap.size v<|D+2) lc ld mc md sc sd (fun g o vs x hg hs hv=>hs.at hc hg hv) zx;cases e1;cases e2;exact⟨r1,r2⟩
end Go.P
namespace Go.W
def ry {P:Program}{md:Region.Mode}{ops:Array Oper}{Q:Exit->Act->World->Prop}{S:World->Prop}{z:Nat}(i:Nat){o:Oper}{n:Nat}{l:Array Bool}{a:Act}{w:World}(hr:Region.ready md ops l=[i]:=by kernel_rfl)(ho:ops[i]?=some o:=by rfl)(hz:(l.setIfInBounds i true).getD z true=true:=by kernel_rfl)(h: ∀ K':Act->World->Prop,Shut (∀ a w,Ji z P md ops Q S n (l.setIfInBounds i true) a w->K' a w)->if Region.wanted o (yielded ops a.tmps)=true then Oper.wp P o a w K' Q else K' (a.put o.dst undef) w):Ji z P md ops Q S (n+1) l a w:=
 ⟨fun e=>(by rw[hr]at e;cases e),fun j hj=>by
  rw[hr]at hj;obtain rfl:=MX.1 hj;exact wpOp_step ho fun K' hK=>h K' fun a w hW=>hK a w ⟨fun e=>(by rw[hz]at e;cases e),hW⟩⟩
end Go.W
namespace Go.P
attribute [local go_sem] MZ
def Z14 {w:World}{b o c:Nat}{Ja:Int}{pl:Value}{fb rb kb fc rc kc:Option Addr}{GZ G4 Fe Gf Jb X3 Vn Xz Vl QT Qd:Nat}(k0:w.cell? ⟨b,o,none⟩=some (.slice fb GZ G4))(k1:w.cell? ⟨b,o+1,none⟩=some (.slice rb Fe Gf))(k2:w.cell? ⟨b,o+2,none⟩=some (.slice kb 0 Jb))(k3:w.cell? ⟨b,o+3,none⟩=some (.slice fc X3 Vn))(k4:w.cell? ⟨b,o+4,none⟩=some (.slice rc Xz Vl))(k5:w.cell? ⟨b,o+5,none⟩=some (.slice kc QT Qd))
  {K1 K2:Nat->Nat->Nat->World->Prop} (d1: ∀ g p1 p2 u,K1 g p1 p2 u->u.cell? ⟨g,0,none⟩=some (.pointer<|Qb p1 0)/\u.cell? ⟨g,1,none⟩=some (.pointer<|Qb p2 0)) (d2: ∀ g p1 p2 u,K2 g p1 p2 u->u.cell? ⟨g,0,none⟩=some (.pointer<|Qb p1 0))
  (s1: ∀ g p1 p2 u v,K1 g p1 p2 u->Bl u v->K1 g p1 p2 v) (s2: ∀ g p1 p2 u v,K2 g p1 p2 u->Bl u v->K2 g p1 p2 v)
  (CW: ∀ u,Bl w u->Calls prog 93 #[.slice (Qb b o) 2 c,.agg #[.int .i64 Ja,.slice none 0 0,.slice none 0 0]] u fun e w'=> ∃ g p1 p2 cw,e= .returned (.tuple #[.slice (Qb g 0) 2 cw,.bool true])/\K1 g p1 p2 w'/\Bl w w')
  (CP: ∀ g p1 p2 u,K1 g p1 p2 u->Bl w u->Calls prog 94 #[.pointer<|Qb p2 0,.slice kc QT Qd] u fun e w'=>e= .returned (.bool true)/\K2 g p1 p2 w'/\Bl w w')
  (CA: ∀ g p1 p2 u,K2 g p1 p2 u->Bl w u->Calls prog 95 #[.pointer<|Qb p1 0,pl] u fun e w'=>e= .returned (.bool true)/\Bl w w'):
  Calls prog 43 #[.slice (Qb b o) 2 c,.agg #[.int .i64 Ja,.slice none 0 0,.slice none 0 0],pl] w fun e w'=>e= .returned (.int .i64 6)/\Bl w w':=by
 have HW:=AA CW;have HP:=AA CP;have HA:=AA CA;have D1:=AA d1;have D2:=AA d2;have S1:=AA s1;have S2:=AA s2;have lb:=Ll k0;clear CW CP CA d1 d2 s1 s2;go_in
 go_wp2_with fail
 refine(HW.out _<|(AQ _ w).alloc lr _).mono ?_;rintro e w1 ⟨g,p1,p2,cw,rfl,j1,hb1⟩;have hb0:w1.heap[b]?=w.heap[b]?:=hb1.block b lb;have m0:=(Am (a:=⟨b,o,none⟩) hb0).trans k0;have m1:=(Am (a:=⟨b,o+1,none⟩) hb0).trans k1;have m2:=(Am (a:=⟨b,o+2,none⟩) hb0).trans k2;have hg:=D1.out _ _ _ _ j1;have g0:=hg.1;have HJ:=AA j1;have yC:=AA hb1;have P1:=fun(u:World) pc cc=>Zy3 (w:=u) (p:=p1) pc cc;clear hg hb0 j1 hb1;go_wp2
 refine Dt 3 ?_;rw[A8];go_wp2_with fail
 obtain⟨W2,hW2⟩: ∃ W2,AC (w1.alloc (.cells #[.slice fb GZ G4,.slice rb Fe Gf,.slice kb 0 Jb] 38)=W2):=⟨_,⟨rfl⟩⟩;rw[hW2.out];have B2:Bl w1 W2:=hW2.out▸(AQ _ w1).alloc lr _;have dD:=AA<|S1.out _ _ _ _ _ HJ.out B2;have N2:AJ W2 w1.heap.size #[.slice fb GZ G4,.slice rb Fe Gf,.slice kb 0 Jb] 38:=hW2.out▸AJ.new w1 _ _;have AV:W2.drew.cell? ⟨g,0,none⟩=some (.pointer<|Qb p1 0)/\W2.drew.cell? ⟨w1.heap.size,2,none⟩=some (.slice kb 0 Jb):=⟨(D1.out _ _ _ _ dD.out).1,N2.three.2.2.1⟩;refine U7 (S:=fun u=>u.cell? ⟨g,0,none⟩=some (.pointer<|Qb p1 0)/\u.cell? ⟨w1.heap.size,2,none⟩=some (.slice kb 0 Jb)) zt ?_;change wpAnyH _ _ _ _ _ _ _ _ (World.drew _);refine tk 0 (.slice (Qb g 0) 2 cw) AV ?_;try simp only[zz]
 refine tk 1 (.int .i64 0) AV ?_;try simp only[zz]
 refine tk 2 (.pointer<|Qb g 0) AV ?_;try simp only[zz]
 refine tk 3 (.pointer<|Qb p1 0) AV (hy:=fun _ ⟨s0,s1⟩=>by go_simp) ?_;try simp only[zz]
 refine tk 4 (.pointer<|Qb w1.heap.size 2) AV ?_;try simp only[zz]
 refine tk 5 (.slice kb 0 Jb) AV (hy:=fun _ ⟨s0,s1⟩=>by go_simp) ?_;try simp only[zz]
 refine Eg (rs:=[6]) zt zw<|EG rfl (fun K' hK'=>?_) Eh;go_simp;refine(P1 _ _ _).mono ?_;rintro e w3 ⟨rfl,rfl⟩;refine hK'.out _ _ AV fun _=>?_;try simp only[zz]
 refine tk 7 (.bool false) AV ?_;try simp only[zz]
 refine Lp zt ?_ _;clear AV;obtain⟨W3,hW3⟩: ∃ W3,AC (W2.drew=W3):=⟨_,⟨rfl⟩⟩;rw[hW3.out];have B3:Bl w1 W3:=hW3.out▸B2.drew;have BW:Bl w W3:=yC.out.trans<|B3.mono yC.out.size;have xx:=AA<|S1.out _ _ _ _ _ HJ.out B3;have hb3:W3.heap[b]?=w.heap[b]?:=BW.block b lb;have n3:=(Am (a:=⟨b,o+3,none⟩) hb3).trans k3;have n4:=(Am (a:=⟨b,o+4,none⟩) hb3).trans k4;have n5:=(Am (a:=⟨b,o+5,none⟩) hb3).trans k5;have HBW:=AA BW;clear k0 k1 k2 k3 k4 k5 m0 m1 m2 hb3 B3 BW hW3 N2 B2 dD hW2 g0 HJ yC;go_wp2_with fail
 rw[A8];go_wp2_with fail
 obtain⟨W4,hW4⟩: ∃ W4,AC (W3.alloc (.cells #[.slice fc X3 Vn,.slice rc Xz Vl,.slice kc QT Qd] 38)=W4):=⟨_,⟨rfl⟩⟩;rw[hW4.out];have B4:Bl W3 W4:=hW4.out▸(AQ _ W3).alloc lr _;have jk:=AA<|S1.out _ _ _ _ _ xx.out B4.drew;have N4:AJ W4 W3.heap.size #[.slice fc X3 Vn,.slice rc Xz Vl,.slice kc QT Qd] 38:=hW4.out▸AJ.new W3 _ _;have AV:W4.drew.cell? ⟨g,1,none⟩=some (.pointer<|Qb p2 0)/\W4.drew.cell? ⟨W3.heap.size,2,none⟩=some (.slice kc QT Qd):=⟨(D1.out _ _ _ _ jk.out).2,N4.three.2.2.1⟩;refine Nv 6 (fun u=>u.cell? ⟨g,1,none⟩=some (.pointer<|Qb p2 0)/\u.cell? ⟨W3.heap.size,2,none⟩=some (.slice kc QT Qd)) zt ?_;refine tf 0 (.slice (Qb g 0) 2 cw) AV ?_;try simp only[zz]
 refine tf 1 (.int .i64 1) AV ?_;try simp only[zz]
 refine tf 2 (.pointer<|Qb g 1) AV ?_;try simp only[zz]
 refine tz 3 (.pointer<|Qb p2 0) AV (hy:=fun _ ⟨s0,s1⟩=>by go_simp) ?_;try simp only[zz]
 refine tf 4 (.pointer<|Qb W3.heap.size 2) AV ?_;try simp only[zz]
 refine tz 5 (.slice kc QT Qd) AV (hy:=fun _ ⟨s0,s1⟩=>by go_simp) ?_;try simp only[zz]
 refine J6 (h:=fun K' hK'=>?_);go_simp;refine(HP.out _ _ _ _ jk.out (tr HBW B4.drew).out).mono ?_;rintro e w5 ⟨rfl,j5,Bf⟩;refine hK'.out _ _ ?_;try simp only[zz]
 refine ry 7 (h:=fun K' hK'=>?_);go_simp;refine hK'.out _ _ ?_;try simp only[zz]
 refine dz (h:=?_);have HJ5:=AA j5;have yB:=AA Bf;have g0:=D2.out _ _ _ _ j5;clear j5 Bf AV n3 n4 n5 N4 B4 jk hW4;go_wp2_with fail
 rw[A8];go_wp2_with fail
 refine(HA.out _ _ _ _ HJ5.out yB.out).mono ?_;rintro e w6 ⟨rfl,Gs⟩;go_wp2
 go_ret
 exact⟨rfl,Gs⟩
end Go.P
namespace Go.P
def nz (d:Nat):Prop:= ∀ {B:Nat} {w:World} {p q:Option Addr} {c c':Nat} {xs:List T},B<=w.heap.size->Ap 4 (D6 B w d) p xs->Ap 4 (D6 B w d) q xs->Calls prog 31 #[.slice p xs.length c,.slice q xs.length c'] w fun e w'=>e= .returned (.bool true)/\Bl w w'
def jX (w:World) (n:Nat) (iv:Value) (wr:World):Prop:= ∃ k:Nat,k<=n/\iv= .int .i64 (k:Int)/\Bl w wr
def Zrh (w:World)(p q:Option Addr)(c c':Nat):Calls prog 31 #[.slice p 0 c,.slice q 0 c'] w fun e w'=>e= .returned (.bool true)/\Bl w w':=by
 go_in
 go_wp2
 refine Dt 1 ?_;rw[A8];go_wp2
 go_ret
 exact⟨rfl,AQ _ _⟩
def Zrg {d:Nat}(ih:nz d):nz (d+1):=by
 intro B w p q c c' xs hB hp hq;have hl:=hp.len;have IH:=AA @ih;have HP:=AA hp;have HQ:=AA hq;clear ih hp hq;obtain⟨n,hn⟩: ∃ n,AC (xs.length=n):=⟨_,⟨rfl⟩⟩;rw[hn.out]at hl⊢;go_in
 go_wp2
 go_loopw [5] (fun iv wr=>jX w n iv wr) (fun iv _=>n-(intOf iv).toNat)
 case atStart=>exact⟨0,zx,rfl,AQ _ _⟩
 case round=>
  obtain⟨k,hk,rfl,AX⟩:=hrel;have HB:=AA AX;by_cases hlt:k<n
  ·have Dk:k<xs.length:=by rw[hn.out];exact hlt
   obtain⟨b1,o1,rfl,hx⟩:=HP.out.get k Dk;obtain⟨b2,o2,rfl,hy⟩:=HQ.out.get k Dk;obtain⟨l1,p1,c1,k0,k1,k2,k3,_,_,e1,_,_,_,_,r1⟩:=(hx.carry (BJ AX hB) lr).vals;cases e1;obtain⟨l2,p2,c2,j0,j1,j2,j3,_,_,e2,_,_,_,_,r2⟩:=(hy.carry (BJ AX hB) lr).vals;cases e2;have CC:=AA fun u (hu:Bl wr u)=>IH.out (B:=B) (w:=u) (c:=c1) (c':=c2) (AU hB<|AU AX.size hu.size) (r1.carry fun _ _ _ t=>t.carry (BJ hu<|AU hB AX.size) lr) (r2.carry fun _ _ _ t=>t.carry (BJ hu<|AU hB AX.size) lr);have HX:=AA fun u (hu:Bl wr u)=>AF (AF (Aq k0 hu)<|AF (Aq k1 hu)<|AF (Aq k2 hu)<|Aq k3 hu) (AF (Aq j0 hu)<|AF (Aq j1 hu)<|AF (Aq j2 hu)<|Aq j3 hu);clear r1 r2 hx hy AX k0 k1 k2 j0 j1 j2;generalize xs[k]=x at*;go_wp2_with fail
   have AV:wr.drew.cell? ⟨b1,o1+k*4+3,none⟩=some (.slice p1 x.l.length c1)/\wr.drew.cell? ⟨b2,o2+k*4+3,none⟩=some (.slice p2 x.l.length c2):=⟨k3,j3⟩;refine Nv 10 (fun u=>u.cell? ⟨b1,o1+k*4+3,none⟩=some (.slice p1 x.l.length c1)/\u.cell? ⟨b2,o2+k*4+3,none⟩=some (.slice p2 x.l.length c2)) zt ?_;refine tf 0 (.slice (Qb b1 o1) n c) AV ?_;try simp only[zz]
   refine tf 1 (.int .i64 (k:Int)) AV ?_;try simp only[zz]
   refine tf 2 (.pointer<|Qb b1<|o1+k*4) AV ?_;try simp only[zz]
   refine tf 3 (.pointer<|Qb b1<|o1+k*4+3) AV ?_;try simp only[zz]
   refine tz 4 (.slice p1 x.l.length c1) AV (hy:=fun _ ⟨s0,s1⟩=>by go_simp) ?_;try simp only[zz]
   refine tf 5 (.slice (Qb b2 o2) n c') AV ?_;try simp only[zz]
   refine tf 6 (.int .i64 (k:Int)) AV ?_;try simp only[zz]
   refine tf 7 (.pointer<|Qb b2<|o2+k*4) AV ?_;try simp only[zz]
   refine tf 8 (.pointer<|Qb b2<|o2+k*4+3) AV ?_;try simp only[zz]
   refine tz 9 (.slice p2 x.l.length c2) AV (hy:=fun _ ⟨s0,s1⟩=>by go_simp) ?_;try simp only[zz]
   refine J6 (h:=fun K' hK'=>?_);go_simp;refine(CC.out _<|(AQ _ wr).drew).mono ?_;rintro e w2 ⟨rfl,hb2⟩;have B2:=AA<|(AQ _ wr).drew.trans hb2;refine hK'.out _ _ ?_;try simp only[zz]
   refine ry 11 (h:=fun K' hK'=>?_);go_simp;refine hK'.out _ _ ?_;try simp only[zz]
   refine dz (h:=?_);obtain⟨⟨k0,k1,k2,k3⟩,j0,j1,j2,j3⟩:=HX.out w2 B2.out;clear hb2 AV;go_wp2
   go_quiet (fail)
   have B3:=tr HB B2.out;clear k0 k1 k2 k3 j0 j1 j2 j3;go_wp2
   exact⟨⟨k+1,zx,by go_num,B3.out.NL _⟩,by simp[intOf];omega⟩
  ·obtain rfl:k=n:=zx
   go_wp2
   go_ret
   exact⟨rfl,HB.out⟩
def Zrf:nz 0:=by
 intro B w p q c c' xs _ hp _
 have:xs=[]:=by
  cases xs with
  | nil=>rfl
  | cons x l=>obtain⟨_,_,_,h⟩:=hp.at_ 0 x rfl;exact absurd h id
 subst this;exact Zrh w p q c c'
def Zlw (d:Nat):nz d:=by
 induction d with
 | zero=>exact Zrf
 | succ d ih=>exact Zrg ih
end Go.P
namespace Go.W
def oC (w:World) (p:Option Addr) (xs:List (Int×Int×ByteArray)):Prop:= ∀ (i:Nat) (x:Int×Int×ByteArray),xs[i]?=some x->(x.2.2.size<140737488355328/\ -9223372036854775808<=x.2.1/\x.2.1<9223372036854775808)/\ ∃ b o,p=some ⟨b,o,none⟩/\w.cell? ⟨b,o+i*3,none⟩=some (.int .i64 x.1)/\w.cell? ⟨b,o+i*3+1,none⟩=some (.int .i64 x.2.1)/\w.cell? ⟨b,o+i*3+2,none⟩=some (.string x.2.2)
end Go.W
namespace Go.P
def Yfi (w:World) (xs:List (Int×Int×ByteArray)) (nv iv:Value) (wr:World):Prop:= ∃ (k:Nat) (m:Nat),k<=xs.length/\iv= .int .i64 (k:Int)/\nv= .int .i64 (m:Int)/\m<=65536/\wr=w/\ ∀ (i:Nat) (x:Int×Int×ByteArray),i<k->xs[i]?=some x->x.2.2.size<=65536
def Z7c {w:World}{p:Option Addr}{c:Nat}{xs:List (Int×Int×ByteArray)}(h:oC w p xs)(hl:xs.length<140737488355328):Calls prog 9 #[.slice p xs.length c] w fun e w'=> ∃ b,e= .returned (.bool b)/\w'=w/\(b=true->xs.length<=65536/\ ∀ (i:Nat) (x:Int×Int×ByteArray),xs[i]?=some x->x.2.2.size<=65536):=by
 have H:=AA h;clear h;obtain⟨n,hn⟩: ∃ n,AC (xs.length=n):=⟨_,⟨rfl⟩⟩;rw[hn.out]at hl⊢;by_cases h0:n<=65536
 ·have h1: ¬ (65536:Int)<(n:Int):=zx
  go_in
  go_wp2
  go_loopw [3,4] (fun nv iv wr=>Yfi w xs nv iv wr) (fun _ iv _=>n-(intOf iv).toNat)
  case atStart=>exact⟨0,n,zx,rfl,rfl,h0,rfl,fun _ _ h=>zx⟩
  case round=>
   obtain⟨k,m,hk,rfl,rfl,hm,rfl,hall⟩:=hrel;have HA:=AA hall;clear hall;by_cases hlt:k<n
   ·have Dk:k<xs.length:=by rw[hn.out];exact hlt
    obtain⟨⟨hs,_⟩,b,o,rfl,_,_,k2⟩:=H.out k xs[k]<|DK Dk;have hx:=AA<|DK Dk;generalize xs[k]=x at*;by_cases hg:m+x.2.2.size<=65536
    ·have g1: ¬ (65536:Int)<(m:Int)+(x.2.2.size:Int):=zx
     go_wp2_with fail
     refine⟨⟨k+1,m+x.2.2.size,Dk,by go_num,by go_num,hg,rfl,fun i y hi hy=>?_⟩,by simp[intOf];omega⟩;rcases QL i k with h | h
     ·exact HA.out i y h hy
     ·obtain rfl:i=k:=zx
      rw[hx.out]at hy;cases hy;omega
    ·have g1:(65536:Int)<(m:Int)+(x.2.2.size:Int):=zx
     go_wp2
     go_ret
     exact⟨false,rfl,rfl,fun h=>by cases h⟩
   ·have hkn:k=n:=by rw[hn.out]at hk;omega
    subst hkn;go_wp2
    go_ret
    exact⟨true,rfl,rfl,fun _=>⟨h0,fun i y hy=>HA.out i y (by have:=(Gl.1 hy).1;rw[hn.out]at this;exact this) hy⟩⟩
 ·have h1:(65536:Int)<(n:Int):=zx
  go_in
  go_wp2
  go_ret
  exact⟨false,rfl,rfl,fun h=>by cases h⟩
end Go.P
namespace Go.P
variable {v:Value}{W:World}{base fuel:Nat}{sp:Nat->Bool}{held:Bool}
section
variable {H:Type}
def QE (y:DataW H×List MemPlace):Int×Int×ByteArray:=match y.1 with
 | .agg [.lit<|.int _ k,.lit<|.int _ a,.lit<|.string t]=>(k,a,⟨t.toArray⟩)
 | _=>(0,0,⟨#[]⟩)
def lz:prog.cellsOf 46=3:=zt
def Yd6:prog.cellsOf 3=1:=zt
def Yd7:prog.cellsOf 9=1:=zt
def Ybo:prog.bytesOf 46=32:=zt
def Zzs {P:Program}{e:TypeId}{l:List (DataW H)}{d:DataW H}(h:d∈l): ∀ n,n∈d.weights P e->n∈DataW.weightsAll P e l:=by
 induction l with
 | nil=>cases h
 | cons y r ih=>
  intro n hn;simp only[DataW.weightsAll,CY];rcases Be.1 h with rfl | h
  ·exact .inl hn
  ·exact .inr<|ih h n hn
def Yeq {α:Type}{l:List α}(h:l.length=3): ∃ a b c,l=[a,b,c]:=by
 match l,h with
 | [a,b,c],_=>exact⟨a,b,c,rfl⟩
def Z7e {w:World}{a:Addr}(hc:w.cell? ((a.add<|0*3).add 0)=some v):a.spot=none:=by
 simp only[Ol,Addr.add,if_true]at hc;unfold World.cell? at hc;split at hc
 ·split at hc
  ·cases hc
  ·rename_i hh;cases hs:a.spot with
   | none=>rfl
   | some z=>rw[hs]at hh;exact absurd rfl hh
 ·cases hc
def Zsf {enc:TypeId×Value->H}{cs:List Value}{y:DataW H×List MemPlace}(h:DataW.trod enc prog W base sp held fuel 46 cs=some y):cs=[.int .i64 (QE y).1,.int .i64 (QE y).2.1,.string (QE y).2.2]/\(QE y).2.2.size∈y.1.weights prog 46/\(-9223372036854775808<=(QE y).2.1/\(QE y).2.1<9223372036854775808):=by
 obtain⟨xs,n,_,hy,hl,hx,hf⟩:=DataW.trod_struct underlying46 h;rw[lz]at hl;obtain⟨c0,c1,c2,rfl⟩:=Yeq hl;obtain⟨x0,x1,x2,rfl⟩:=Yeq (hx.trans rfl:xs.length=3);have f0:DataW.trod enc prog W base sp held n 3 (List.take (prog.cellsOf 3) [c0,c1,c2])=some x0:=hf 0 _ rfl;have f1:DataW.trod enc prog W base sp held n 3 (List.take (prog.cellsOf 3) [c1,c2])=some x1:=hf 1 _ rfl;have f2:DataW.trod enc prog W base sp held n 9 (List.take (prog.cellsOf 9) [c2])=some x2:=hf 2 _ rfl;rw[Yd6]at f0 f1;rw[Yd7]at f2;obtain⟨k,e0,rfl,_⟩:=DataW.trod_int underlying3 f0;obtain⟨a,e1,rfl,ea⟩:=DataW.trod_int underlying3 f1;obtain⟨s,e2,rfl,_⟩:=DataW.trod_string underlying9 f2;simp at e0 e1 e2;subst hy e0 e1 e2;refine⟨rfl,?_,(by
  have h1:(decide (IntKind.i64.min<=a) && decide (a<=IntKind.i64.max))=true:=ea;rw[show IntKind.i64.min= -9223372036854775808 by decide,show IntKind.i64.max=9223372036854775807 by decide]at h1;simp at h1;exact⟨h1.1,Int.lt_of_le_of_lt h1.2 zu⟩)⟩
 rw[DataW.weights,underlying46];refine DataW.weights_mem_each (j:=2) (t:=9) (d:= .lit<|.string s.data.toList) rfl rfl _ ?_;rw[DataW.weights];exact MX.2<|UE▸rfl
def Zyw {enc:TypeId×Value->H}{x:DataW H×List MemPlace}(h:DataW.trod enc prog W base sp held fuel 22 [v]=some x)(hz:(x.1.weights prog 22).all (·<=reachBytes)=true): ∃ p c xs,v= .slice p xs.length c/\xs.length<140737488355328/\oC W p xs:=by
 rcases DataW.trod_slice underlying22 h with⟨hv,_⟩ | ⟨a,len,cap,elems,rest,n,_,hv,hx,_,_,_,hlen,hel,_,_⟩
 ·cases hv;exact⟨none,0,[],rfl,zu,fun i x hx=>by simp at hx⟩
 cases hv;subst hx;have hr:=reachBytes_lt;simp only[DataW.weights,underlying22,List.all_cons,List.all_append,Bool.and_eq_true,Nw,Ybo,decide_eq_true_eq]at hz;obtain⟨hz0,hz1,_⟩:=hz;have each: ∀ i y,elems[i]?=some y->((QE y).2.2.size<140737488355328/\ -9223372036854775808<=(QE y).2.1/\(QE y).2.1<9223372036854775808)/\ ∃ b o,a=⟨b,o,none⟩/\W.cell? ⟨b,o+i*3,none⟩=some (.int .i64 (QE y).1)/\W.cell? ⟨b,o+i*3+1,none⟩=some (.int .i64 (QE y).2.1)/\W.cell? ⟨b,o+i*3+2,none⟩=some (.string (QE y).2.2):=by
  intro i y hy;have hi:i<len:=by rw[<- hlen];exact(Gl.1 hy).1
  have h1:=hel i hi;have h0:=hel 0 zx;rw[hy,Option.bind_eq_some_iff]at h1;obtain⟨cs,hcs,ht⟩:=h1;obtain⟨rfl,hw,hA⟩:=Zsf ht;have hsz:=UI.1 hz1 _<|Zzs (List.mem_map.2 ⟨y,U8 hy,rfl⟩) _ hw;simp only[decide_eq_true_eq]at hsz;have hsp:a.spot=none:=by
   have: ∃ y0,elems[0]?=some y0:=⟨elems[0]' zx,DK _⟩
   obtain⟨y0,hy0⟩:=this;rw[hy0,Option.bind_eq_some_iff]at h0;obtain⟨cs0,rC,IW⟩:=h0;obtain⟨rfl,_⟩:=Zsf IW;have hc:=(World.cells?_some rC).2.2 0 (by rw[lz];omega);rw[lz]at hc;exact Z7e<|hc.trans rfl
  obtain⟨b,o,z⟩:=a;simp only at hsp;subst hsp;rw[lz]at hcs;have hc:=(World.cells?_some hcs).2.2;have ad: ∀ k,(⟨b,o,none⟩:Addr).add k=⟨b,o+k,none⟩:=fun k=>Addr.add_lit _ _ _;refine⟨⟨zx,hA⟩,b,o,rfl,?_,?_,?_⟩
  ·have:=hc 0 zw;rw[ad,Addr.add_lit]at this;exact this
  ·have:=hc 1 zw;rw[ad,Addr.add_lit]at this;exact this
  ·have:=hc 2 zw;rw[ad,Addr.add_lit]at this;exact this
 refine⟨some a,cap,elems.map QE,by rw[Nw,hlen],by rw[Nw];omega,fun i x hx=>?_⟩;rw[Jq]at hx;obtain⟨y,hy,rfl⟩:=SE.1 hx;obtain⟨h1,b,o,h2,h3⟩:=each i y hy;exact⟨h1,b,o,by rw[h2],h3⟩
end
end Go.P
