import Derived.Test.YtaoiihbjdonaoaaGreatDoorW28
set_option maxRecDepth 100000
set_option maxHeartbeats 8000000
set_option linter.unusedSimpArgs false
open Go.Proofs Go.RowKit Go.W Tryz
namespace Go.W
section
variable {t:ByteArray} {l:List Dk} {x:Tk} {p n:Nat}
theorem Yc9 (h:Go.W.Oo x=true):Un t (n+1) l x p= .ok (l,x,p):=by rw[Un,if_pos h]
theorem Ygi (h:Go.W.Oo x=false)(hv: ¬ (x.text.toList=We\/x.text.toList=xL)):Un t (n+1) l x p= .error (2,x.at_):=by rw[Un,if_neg (by rw[h];simp),if_neg hv]
theorem Yac (h:Go.W.Oo x=false)(hv:x.text.toList=We\/x.text.toList=xL):Un t (n+1) l x p=Bf (En t x p) fun _ x1 p1=>Bf (ZR t x1 p1) fun e x2 p2=>if l.length=24 then .error (4,x.at_)else Bf (Nk t [59] x2 p2) fun _ x3 p3=>Un t n (l++[⟨decide<|x.text.toList=We,e⟩]) x3 p3:=by rw[Un,if_neg (by rw[h];simp),if_pos hv]
end
end Go.W
namespace Go.P
def Yhw (a:Nat->Addr) (b:Nat) (t:ByteArray) (Y:Re (List Dk)) (w:World) (tv:Value) (wr:World):Prop:= ∃ (l:List Dk) (F:List Nat) (pp:Option Addr) (c:Nat) (x:Tk) (p:Nat),tv= .slice pp l.length c/\l.length<=24/\AQ 148 2 (DY AV 4) wr tv l F/\Ag w.heap.size wr F/\MJ a b w t wr p x/\Un t (25-l.length) l x p=Y
theorem Zv7 {a:Nat->Addr}{w:World}{b:Nat}{t:ByteArray}{p:Nat}{x:Tk}(Z:AZ a w)(h:Rd w b t p x)(hx:Jr x):
  Calls prog 33 #[zq b 0] w (JO a b t (S9 148 2 (DY AV 4) w.heap.size) w<|Vh t x p):=by
 have hg:=h.2.2.2;have ht:=h.2.1;have hb:=h.1.lt;have D0:AF (MJ a b w t w p x):=⟨h,Ad.refl _ _,Z,hx⟩;have ZW:=AC Z;clear Z h;go_in
 go_wp2
 go_loopw [3] (fun tv wr=>Yhw a b t (Vh t x p) w tv wr) (fun tv _=>25-az tv)
 case atStart=>exact⟨[],[],none,0,x,p,rfl,zu,AQ.nil,Ag.nil _ _,D0.out,rfl⟩
 case round=>
  clear D0;obtain⟨l,F,pp,c,y,q,rfl,hle,hR,hN,hD,hY⟩:=hrel;obtain⟨b0,b1,b2,b3,b4,b5,b6,b7,bs⟩:=hD.1.1.eight;obtain⟨n,hn⟩: ∃ n,25-l.length=n+1:=⟨24-l.length,zx⟩;rw[hn]at hY;have CE:=AC<|Zx1 y wr;unfold Jc at CE;have HR:=AC hR;have HN:=AC hN;have HD:=AC hD;have HY:=AC hY;generalize Vh t x p=Y at*;clear hR hN hD hY;go_wp2_with fail
  refine mq CE.out ?_;rintro w1 hb1;have hs1:=hb1.size;have D1:AF (MJ a b w t w1 q y):=⟨HD.out.1.of hb1,HD.out.2.1.AU hb1,HD.out.2.2.1.below hb1,HD.out.2.2.2⟩;have R1:=AC (AQ.stable (DY.stable (ty:=AV) 4) _ _ _ _ _ HR.out fun j hj=>hb1.block j (HN.out.lt j hj));have N1:=AC<|HN.out.later lr hs1;have hsw:=D1.out.2.1.size;clear hb1 HD HR HN CE b0 b1 b2 b3 b4 b5 b6 b7 bs;cases he:Go.W.Oo y
  case' true=>
   have E:=AC<|HY.out.symm.trans<|Yc9 he;go_wp2
   go_ret
   exact⟨D1.out.2.1,Or.inr ⟨_,l,y,q,E.out,rfl,⟨F,R1.out,N1.out⟩,D1.out.1⟩⟩
  obtain⟨b0,b1,b2,b3,b4,b5,b6,b7,bs⟩:=D1.out.1.1.eight;by_cases hv:y.text.toList=We\/y.text.toList=xL
  ·have Y1:=AC<|HY.out.symm.trans<|Yac he hv;have GG:(y.text.toList==[97,108,108,111,119])=true\/(y.text.toList==[97,108,108,111,119])=false/\(y.text.toList==[100,101,110,121])=true:=by
    by_cases h1:y.text.toList=We
    ·exact Or.inl (by rw[DR];exact h1)
    ·exact Or.inr ⟨by rw[BJ];exact h1,by rw[DR];exact hv.resolve_left h1⟩
   clear hv;have CT:=AC<|Vg D1.out.2.2.1 D1.out.1;rcases GG with ga | ⟨ga,gb⟩;all_goals
    go_wp2_with fail
    refine CT.out.mono ?_;rintro e w2 ⟨hk2,⟨n2,r2,hy,Hl,L',hL,rfl,hB⟩ | ⟨v,y2,x2,r2,hy,rfl,hv,hr2⟩⟩
    ·exact⟨rfl,D1.out.2.1.trans hk2,Or.inl ⟨n2,r2,Y1.out.trans<|Es hy,Hl,L',zx,rfl,hB⟩⟩
    obtain rfl:v=Jc y2:=hv;obtain⟨hx2,rfl⟩:=Wn ht hy;unfold Jc;have Y2:=AC<|Y1.out.trans<|Ee hy;have hs2:=hk2.size;have bF: ∀ j,j∈F->j≠b:=fun j hj=>by have:=N1.out.ge j hj;omega
    have B2:=AC<|(AR _ w2).alloc lr<|.cells #[zo (y2.at_:Int),.string y2.text,zo y2.k,zo y2.i,.string y2.s,zn] 164;have dL:(w2.alloc<|.cells #[zo (y2.at_:Int),.string y2.text,zo y2.k,zo y2.i,.string y2.s,zn] 164).heap.size=w2.heap.size+1:=zw
    have LV:=AC<|AO.new w2 #[zo (y2.at_:Int),.string y2.text,zo y2.k,zo y2.i,.string y2.s,zn] 164;have K2:=AC<|(D1.out.2.1.trans hk2).AU B2.out;have Z2:=AC<|(D1.out.2.2.1.keeps hk2 hg).below B2.out;have Ao:=AC<|hr2.of B2.out;have R2:=AC (AQ.stable (DY.stable (ty:=AV) 4) _ _ _ _ _ R1.out fun j hj=>(B2.out.block j (by have:=N1.out.lt j hj;omega)).trans (hk2.block j (N1.out.lt j hj)<|bF j hj));obtain⟨v0,v1,v2,v3,v4,v5,vs⟩:=LV.out.six;clear hk2 hy hr2 CT D1 R1 b0 b1 b2 b3 b4 b5 b6 b7 bs B2 bF;obtain⟨W2,hW2⟩: ∃ W,w2.alloc (.cells #[zo (y2.at_:Int),.string y2.text,zo y2.k,zo y2.i,.string y2.s,zn] 164)=W:=⟨_,rfl⟩;rw[hW2]at LV K2 Z2 Ao R2 dL v0 v1 v2 v3 v4 v5 vs;have HW:=AC hW2;rw[<- hW2]at v0 v1 v2 v3 v4 v5 vs;have CBD:=AC fun u (h1:AZ a u) (h2:Rd u b t r2 x2)=>Zrk h1 h2;clear hW2;go_wp2_with fail
    rw[HW.out];rw[HW.out]at v0 v1 v2 v3 v4 v5 vs;clear HW;go_region_with (first
     | (go_at_call 77
        have KU:Ad b w (W2.drew.alloc<|.cells #[.bool false,zn] 148):=K2.out.drew.alloc _;have ZU:AZ a (W2.drew.alloc<|.cells #[.bool false,zn] 148):=Z2.out.drew.below<|(AR _ _).alloc lr _;have RU:AQ 148 2 (DY AV 4) (W2.drew.alloc<|.cells #[.bool false,zn] 148) (.slice pp l.length c) l F:=AQ.stable (DY.stable (ty:=AV) 4) _ _ _ _ _ R2.out fun j hj=>Ah W2.drew _ _ (by show j<W2.heap.size;have:=N1.out.lt j hj;omega);have gy:=LV.out.of (w':=W2.drew.alloc<|.cells #[.bool false,zn] 148)<|Ah W2.drew _ _ (by show _<W2.heap.size;omega);have Qw:AF ((W2.drew.alloc<|.cells #[.bool false,zn] 148).heap.size=W2.heap.size+1):=⟨zw⟩;refine(CBD.out (W2.drew.alloc<|.cells #[.bool false,zn] 148) ZU<|Ao.out.drew.alloc _).mono ?_;rintro e w3 ⟨hk3,⟨n3,r3,hy,dV,L',hL,rfl,hB⟩ | ⟨v,el,x3,r3,hy,rfl,⟨G,eQ,oh⟩,hr3⟩⟩
        ·exact⟨rfl,KU.trans hk3,Or.inl ⟨n3,r3,Y2.out.trans<|Es hy,dV,L',(by rw[Qw.out]at hL;omega),rfl,hB⟩⟩
        obtain⟨pe,ce,rfl⟩:=AQ.form eQ;have e1:=(gy.of (w':=w3)<|hk3.block w2.heap.size (by rw[Qw.out];omega) zx).six.2.1;have LPU:=(AO.new W2.drew #[.bool false,zn] 148).of (w':=w3)<|hk3.block W2.heap.size (by rw[Qw.out];omega) zx;have bV:=AC (show AO w3 W2.heap.size #[.bool false,zn] 148 from LPU);rw[dL]at bV;obtain⟨q0,q1,qs⟩:=bV.out.two;have Zr:=AC hy;have ER:=AC<|KU.trans hk3;have Zs:=AC eQ;have U5:=AC<|Qw.out▸oh;have Kr:=AC hr3;have iA:=AC<|ZU.keeps hk3 hg;have Dn:=AC (AQ.stable (DY.stable (ty:=AV) 4) _ _ _ _ _ RU fun j hj=>hk3.block j (by rw[Qw.out];have:=N1.out.lt j hj;omega) (by have:=N1.out.ge j hj;omega));have XN:=AC<|gy.of (w':=w3)<|hk3.block w2.heap.size (by rw[Qw.out];omega) zx;have hs3:=hk3.size;rw[Qw.out]at hs3;have RJ:w2.heap.size<w3.heap.size:=zx
        have V8:w2.heap.size≠w3.heap.size:=zx
        clear hy hk3 eQ oh hr3 KU ZU RU gy Qw LPU)
     | (go_at_call 77
        have KU:Ad b w W2.drew:=K2.out.drew;have ZU:AZ a W2.drew:=Z2.out.drew;have RU:AQ 148 2 (DY AV 4) W2.drew (.slice pp l.length c) l F:=AQ.stable (DY.stable (ty:=AV) 4) _ _ _ _ _ R2.out fun j hj=>rfl;have gy:=LV.out.of (w':=W2.drew) rfl;have Qw:AF (W2.drew.heap.size=W2.heap.size):=⟨rfl⟩;refine(CBD.out W2.drew ZU Ao.out.drew).mono ?_;rintro e w3 ⟨hk3,⟨n3,r3,hy,dV,L',hL,rfl,hB⟩ | ⟨v,el,x3,r3,hy,rfl,⟨G,eQ,oh⟩,hr3⟩⟩
        ·exact⟨rfl,KU.trans hk3,Or.inl ⟨n3,r3,Y2.out.trans<|Es hy,dV,L',(by rw[Qw.out]at hL;omega),rfl,hB⟩⟩
        obtain⟨pe,ce,rfl⟩:=AQ.form eQ;have e1:=(gy.of (w':=w3)<|hk3.block w2.heap.size (by rw[Qw.out];omega) zx).six.2.1;have Zr:=AC hy;have ER:=AC<|KU.trans hk3;have Zs:=AC eQ;have U5:=AC<|Qw.out▸oh;have Kr:=AC hr3;have iA:=AC<|ZU.keeps hk3 hg;have Dn:=AC (AQ.stable (DY.stable (ty:=AV) 4) _ _ _ _ _ RU fun j hj=>hk3.block j (by rw[Qw.out];have:=N1.out.lt j hj;omega) (by have:=N1.out.ge j hj;omega));have XN:=AC<|gy.of (w':=w3)<|hk3.block w2.heap.size (by rw[Qw.out];omega) zx;have hs3:=hk3.size;rw[Qw.out]at hs3;have RJ:w2.heap.size<w3.heap.size:=zx
        have V8:w2.heap.size≠w3.heap.size:=zx
        clear hy hk3 eQ oh hr3 KU ZU RU gy Qw))
    all_goals first
     | (obtain⟨Wp,hWp⟩: ∃ W,w3.alloc (.cells #[.bool true,.slice pe el.length ce] 148)=W:=⟨_,rfl⟩
        rw[hWp];have KM:decide (y2.text.toList=We)=true:=(Nv<|DR.1 ga);have BP:Bl w3 Wp:=hWp▸(AR _ w3).alloc lr _;have YS:w3.heap.size<=Wp.heap.size:=BP.size;have O3: ∀ j,j<w3.heap.size->j≠w2.heap.size+1\/True->Wp.heap[j]?=w3.heap[j]?:=fun j hj _=>BP.block j hj;have KP:=ER.out.AU BP;have LP:AO Wp w3.heap.size #[.bool true,.slice pe el.length ce] 148:=hWp▸AO.new w3 _ _;have ZP:=iA.out.below BP;have XI:=Kr.out.of BP;have Kq:=AQ.stable (DY.stable (ty:=AV) 4) _ Wp _ _ _ Dn.out fun j hj=>BP.block j (by have:=N1.out.lt j hj;omega);have Ko:=AQ.stable (DI.stable (ty:=AV) 4) _ Wp _ _ _ Zs.out fun j hj=>BP.block j (U5.out.lt j hj);have XJ:=XN.out.of<|BP.block _ RJ;have SN:Ag W2.heap.size Wp G:=U5.out.later lr BP.size;have dJ:W2.heap.size<=Wp.heap.size:=zx
        have WK:DY AV 4 Wp [.bool true,.slice pe el.length ce] ⟨true,el⟩ G:=⟨_,rfl,Ko⟩;have CJ:=AC<|wS (d:=4) (B:=w.heap.size) (m:=24) (k:=y2.at_) ZP Kq WK zx (N1.out.later lr zx) (SN.later zx lr) (fun j hj Am=>by have:=N1.out.lt j hj;have:=SN.ge j Am;omega) zx hle;have Y3:=AC<|Y2.out.trans<|Ee Zr.out;rw[KM]at Y3;obtain⟨s0,s1,ss⟩:=LP.two;have t0:=XJ.six.1;have ko:=AC KP;have lD:=AC XI;clear hWp KM KP LP ZP XI Kq Ko XJ SN WK YS Zr ER Zs U5 Kr iA Dn XN Y2 V8 RJ v0 v1 v2 v3 v4 v5 vs e1;try clear q0 q1 qs bV
        try clear O3
        try clear BP
        go_wp2_with fail)
     | (obtain⟨Wp,hWp⟩: ∃ W,w3.alloc (.cells #[.bool false,.slice pe el.length ce] 148)=W:=⟨_,rfl⟩
        rw[hWp];have KM:decide (y2.text.toList=We)=false:=(I8<|BJ.1 ga);have BP:Bl w3 Wp:=hWp▸(AR _ w3).alloc lr _;have YS:w3.heap.size<=Wp.heap.size:=BP.size;have O3: ∀ j,j<w3.heap.size->j≠w2.heap.size+1\/True->Wp.heap[j]?=w3.heap[j]?:=fun j hj _=>BP.block j hj;have KP:=ER.out.AU BP;have LP:AO Wp w3.heap.size #[.bool false,.slice pe el.length ce] 148:=hWp▸AO.new w3 _ _;have ZP:=iA.out.below BP;have XI:=Kr.out.of BP;have Kq:=AQ.stable (DY.stable (ty:=AV) 4) _ Wp _ _ _ Dn.out fun j hj=>BP.block j (by have:=N1.out.lt j hj;omega);have Ko:=AQ.stable (DI.stable (ty:=AV) 4) _ Wp _ _ _ Zs.out fun j hj=>BP.block j (U5.out.lt j hj);have XJ:=XN.out.of<|BP.block _ RJ;have SN:Ag W2.heap.size Wp G:=U5.out.later lr BP.size;have dJ:W2.heap.size<=Wp.heap.size:=zx
        have WK:DY AV 4 Wp [.bool false,.slice pe el.length ce] ⟨false,el⟩ G:=⟨_,rfl,Ko⟩;have CJ:=AC<|wS (d:=4) (B:=w.heap.size) (m:=24) (k:=y2.at_) ZP Kq WK zx (N1.out.later lr zx) (SN.later zx lr) (fun j hj Am=>by have:=N1.out.lt j hj;have:=SN.ge j Am;omega) zx hle;have Y3:=AC<|Y2.out.trans<|Ee Zr.out;rw[KM]at Y3;obtain⟨s0,s1,ss⟩:=LP.two;have t0:=XJ.six.1;have ko:=AC KP;have lD:=AC XI;clear hWp KM KP LP ZP XI Kq Ko XJ SN WK YS Zr ER Zs U5 Kr iA Dn XN Y2 V8 RJ v0 v1 v2 v3 v4 v5 vs e1;try clear q0 q1 qs bV
        try clear O3
        try clear BP
        go_wp2_with fail)
     | (obtain⟨Wp,hWp⟩: ∃ W,(w3.setCell (zm (w2.heap.size+1) 0)<|.bool true).setCell (zm (w2.heap.size+1) 1) (.slice pe el.length ce)=W:=⟨_,rfl⟩
        rw[hWp];have KM:decide (y2.text.toList=We)=true:=(Nv<|DR.1 ga);have KP:Ad b w Wp:=hWp▸(ER.out.Ai _ _ _ zx).Ai _ _ _ zx;have YS:w3.heap.size<=Wp.heap.size:=by rw[<- hWp];simp
        have O3: ∀ j,j≠w2.heap.size+1->Wp.heap[j]?=w3.heap[j]?:=fun j hj=>by rw[<- hWp];exact(Aw _ _ _ j hj).trans<|Aw _ _ _ j hj
        have LP:AO Wp (w2.heap.size+1) #[.bool true,.slice pe el.length ce] 148:=hWp▸(bV.out.set 0 _).set 1 _;have ZP:=ZW.out.keeps KP hg;have XI:Rd Wp b t r3 x3:=⟨Kr.out.1.of<|O3 b zx,Kr.out.2⟩;have Kq:=AQ.stable (DY.stable (ty:=AV) 4) _ Wp _ _ _ Dn.out fun j hj=>O3 j (by have:=N1.out.lt j hj;omega);have Ko:=AQ.stable (DI.stable (ty:=AV) 4) _ Wp _ _ _ Zs.out fun j hj=>O3 j (by have:=U5.out.ge j hj;omega);have XJ:=XN.out.of<|O3 w2.heap.size zx;have SN:Ag W2.heap.size Wp G:=U5.out.later zx YS;have dJ:W2.heap.size<=Wp.heap.size:=zx
        have WK:DY AV 4 Wp [.bool true,.slice pe el.length ce] ⟨true,el⟩ G:=⟨_,rfl,Ko⟩;have CJ:=AC<|wS (d:=4) (B:=w.heap.size) (m:=24) (k:=y2.at_) ZP Kq WK zx (N1.out.later lr zx) (SN.later zx lr) (fun j hj Am=>by have:=N1.out.lt j hj;have:=SN.ge j Am;omega) zx hle;have Y3:=AC<|Y2.out.trans<|Ee Zr.out;rw[KM]at Y3;obtain⟨s0,s1,ss⟩:=LP.two;have t0:=XJ.six.1;have ko:=AC KP;have lD:=AC XI;clear hWp KM KP LP ZP XI Kq Ko XJ SN WK YS Zr ER Zs U5 Kr iA Dn XN Y2 V8 RJ v0 v1 v2 v3 v4 v5 vs e1;try clear q0 q1 qs bV
        try clear O3
        try clear BP
        go_wp2_with fail)
     | (obtain⟨Wp,hWp⟩: ∃ W,(w3.setCell (zm (w2.heap.size+1) 0)<|.bool false).setCell (zm (w2.heap.size+1) 1) (.slice pe el.length ce)=W:=⟨_,rfl⟩
        rw[hWp];have KM:decide (y2.text.toList=We)=false:=(I8<|BJ.1 ga);have KP:Ad b w Wp:=hWp▸(ER.out.Ai _ _ _ zx).Ai _ _ _ zx;have YS:w3.heap.size<=Wp.heap.size:=by rw[<- hWp];simp
        have O3: ∀ j,j≠w2.heap.size+1->Wp.heap[j]?=w3.heap[j]?:=fun j hj=>by rw[<- hWp];exact(Aw _ _ _ j hj).trans<|Aw _ _ _ j hj
        have LP:AO Wp (w2.heap.size+1) #[.bool false,.slice pe el.length ce] 148:=hWp▸(bV.out.set 0 _).set 1 _;have ZP:=ZW.out.keeps KP hg;have XI:Rd Wp b t r3 x3:=⟨Kr.out.1.of<|O3 b zx,Kr.out.2⟩;have Kq:=AQ.stable (DY.stable (ty:=AV) 4) _ Wp _ _ _ Dn.out fun j hj=>O3 j (by have:=N1.out.lt j hj;omega);have Ko:=AQ.stable (DI.stable (ty:=AV) 4) _ Wp _ _ _ Zs.out fun j hj=>O3 j (by have:=U5.out.ge j hj;omega);have XJ:=XN.out.of<|O3 w2.heap.size zx;have SN:Ag W2.heap.size Wp G:=U5.out.later zx YS;have dJ:W2.heap.size<=Wp.heap.size:=zx
        have WK:DY AV 4 Wp [.bool false,.slice pe el.length ce] ⟨false,el⟩ G:=⟨_,rfl,Ko⟩;have CJ:=AC<|wS (d:=4) (B:=w.heap.size) (m:=24) (k:=y2.at_) ZP Kq WK zx (N1.out.later lr zx) (SN.later zx lr) (fun j hj Am=>by have:=N1.out.lt j hj;have:=SN.ge j Am;omega) zx hle;have Y3:=AC<|Y2.out.trans<|Ee Zr.out;rw[KM]at Y3;obtain⟨s0,s1,ss⟩:=LP.two;have t0:=XJ.six.1;have ko:=AC KP;have lD:=AC XI;clear hWp KM KP LP ZP XI Kq Ko XJ SN WK YS Zr ER Zs U5 Kr iA Dn XN Y2 V8 RJ v0 v1 v2 v3 v4 v5 vs e1;try clear q0 q1 qs bV
        try clear O3
        try clear BP
        go_wp2_with fail)
    all_goals
     refine CJ.out.mono ?_;rintro e w5 (⟨hE,⟨L',hL,rfl,hB⟩,BX⟩ | ⟨hne,p',c',F',rfl,hG⟩)
     ·exact⟨rfl,ko.out.AU BX,Or.inl ⟨4,_,Y3.out.trans<|if_pos hE,zu,L',by have:=ko.out.size;omega,rfl,hB⟩⟩
     have K5:=AC<|Ad.Py hG ko.out fun j hj=>N1.out.ge j hj;have PZ:Rd w5 b t r3 x3:=⟨lD.out.1.of<|hG.same b lD.out.1.lt (fun hj=>by have:=N1.out.ge b hj;omega),lD.out.2⟩;have Z5:=AC<|ZW.out.keeps K5.out hg;have CW:=AC<|jc ⟨#[59]⟩ Z5.out PZ;rw[show(⟨#[59]⟩:ByteArray).toList=[59]from ZJ [59]]at CW;have Y4:=AC<|Y3.out.trans<|if_neg hne;have HG:=AC hG;have hs5:=hG.size;clear hG PZ CJ Y3 s0 s1 ss t0;go_wp2_with fail
     refine CW.out.mono ?_;rintro e w6 ⟨RN,⟨n6,r6,hy,zB,L',hL,rfl,hB⟩ | ⟨v,u,x6,r6,hy,rfl,hv,ic⟩⟩
     ·exact⟨rfl,K5.out.trans RN,Or.inl ⟨n6,r6,Y4.out.trans<|Es hy,zB,L',by have:=K5.out.size;omega,rfl,hB⟩⟩
     obtain rfl:v= .tuple #[]:=hv;have R6:=AC<|AJ (AQ.stable (DY.stable (ty:=AV) 4) _ w6 _ _ _ HG.out.row fun j hj=>RN.block j (HG.out.new.lt j hj) (by have:=HG.out.new.ge j hj;omega))<|AJ (HG.out.new.later lr RN.size)<|AJ (show MJ a b w t w6 r6 x6 from⟨ic,K5.out.trans RN,Z5.out.keeps RN hg,qI ht hy⟩)<|Y4.out.trans<|Ee hy;clear RN hy ic CW HG;go_wp2_with fail
     first | exact⟨⟨l++[⟨true,el⟩],F',p',c',x6,r6,zw,by simp;omega,by simpa using R6.out.1,R6.out.2.1,R6.out.2.2.1,by rw[<- R6.out.2.2.2.symm];congr 1;simp;omega⟩,by simp[az];omega⟩ | exact⟨⟨l++[⟨false,el⟩],F',p',c',x6,r6,zw,by simp;omega,by simpa using R6.out.1,R6.out.2.1,R6.out.2.2.1,by rw[<- R6.out.2.2.2.symm];congr 1;simp;omega⟩,by simp[az];omega⟩
  ·have Y1:=AC<|HY.out.symm.trans<|Ygi he hv;have g1:(y.text.toList==[97,108,108,111,119])=false:=by rw[BJ];exact fun z=>hv (Or.inl z)
   have g2:(y.text.toList==[100,101,110,121])=false:=by rw[BJ];exact fun z=>hv (Or.inr z)
   have z2:=D1.out.2.2.1.c2;have C2:=AC<|QM a (n:=2) zu D1.out.1;clear hv;go_wp2_with fail
   refine C2.out.mono ?_;rintro e w2 ⟨⟨L,hL,rfl,hB⟩,hb⟩;exact⟨rfl,D1.out.2.1.AU hb,Or.inl ⟨2,_,Y1.out,zu,L,by have:=D1.out.2.1.size;omega,rfl,hB⟩⟩
end Go.P
