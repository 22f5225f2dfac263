import Derived.Test.YtpmcefkhkkpnbaaGreatDoorW24
set_option linter.all false
set_option maxRecDepth 100000
set_option maxHeartbeats 8000000
open Go.Proofs Go.RowKit Go.W Tryz
namespace Go.W
section
variable {t:Ay} {l:List Dk} {x:Tk} {p n:Nat}
theorem Yc9 (h:Go.W.Oo x=true):Un t (n+1) l x p= .ok (l,x,p):=by rw[Un,xj h]
theorem Ygi (h:Go.W.Oo x=false)(hv: ¬ (x.text.toList=We\/x.text.toList=xL)):Un t (n+1) l x p= .error (2,x.at_):=by rw[Un,xd (by rw[h];simp),xd hv]
theorem Yac (h:Go.W.Oo x=false)(hv:x.text.toList=We\/x.text.toList=xL):Un t (n+1) l x p=Bf (En t x p) fun _ x1 p1=>Bf (ZR t x1 p1) fun e x2 p2=>if l.length=24 then .error (4,x.at_)else Bf (Nk t [59] x2 p2) fun _ x3 p3=>Un t n (l++[⟨decide<|x.text.toList=We,e⟩]) x3 p3:=by rw[Un,xd (by rw[h];simp),xj hv]
end
def Yhw (a:Nat->Addr) (b:Nat) (t:Ay) (Y:Re (List Dk)) (w:Bb) (tv:Value) (wr:Bb):Prop:= ∃ (l:List Dk) (F:Cg) (pp:Bp) (c:Nat) (x:Tk) (p:Nat),tv= sP pp l.length c/\l.length<=24/\AQ 189 2 (DY AV 4) wr tv l F/\Ag w.heap.size wr F/\MJ a b w t wr p x/\Un t (25-l.length) l x p=Y
theorem Zv7 {a:Nat->Addr}{w:Bb}{b:Nat}{t:Ay}{p:Nat}{x:Tk}(Z:AZ a w)(h:Rd w b t p x)(hx:Jr x):
  Calls prog 36 #[zq b 0] w (JO a b t (S9 189 2 (DY AV 4) w.heap.size) w<|Vh t x p):=by
 have hg:=h.2.2.2;have ht:=h.2.1;have hb:=h.1.lt;have D0:AF (MJ a b w t w p x):=⟨h,Ad.refl _ _,Z,hx⟩;have ZW:=AC Z;clear Z h;go_in
 go_wp2
 go_loopw [3] (fun tv wr=>Yhw a b t (Vh t x p) w tv wr) (fun tv _=>25-az tv)
 .exact⟨[],[],none,0,x,p,rfl,zu,AQ.nil,Ag.nil _ _,D0.o,rfl⟩
 .clear D0;obtain⟨l,F,pp,c,y,q,rfl,hle,hR,hN,hD,hY⟩:=hrel;obtain⟨b0,b1,b2,b3,b4,b5,b6,b7,bs⟩:=hD.1.1.eight;obtain⟨n,hn⟩: ∃ n,25-l.length=n+1:=⟨24-l.length,zx⟩;rw[hn]at hY;have CE:=AC<|Zx1 y wr;unfold Jc at CE;have HR:=AC hR;have HN:=AC hN;have HD:=AC hD;have HY:=AC hY;generalize Vh t x p=Y at*;clear hR hN hD hY;go_wp2_with fail
  apply mq CE.o;rintro w1 hb1;have hs1:=hb1.size;have D1:AF (MJ a b w t w1 q y):=⟨HD.o.1.of hb1,HD.o.2.1.AU hb1,HD.o.2.2.1.be hb1,HD.o.2.2.2⟩;have R1:=AC (AQ.sb (DY.sb (ty:=AV) 4) _ _ _ _ _ HR.o fun j hj=>hb1.block j (HN.o.lt j hj));have N1:=AC<|HN.o.la lr hs1;have hsw:=D1.o.2.1.size;clear hb1 HD HR HN CE b0 b1 b2 b3 b4 b5 b6 b7 bs;cases he:Go.W.Oo y
  case' true=>
   have E:=AC<|HY.o.symm.trans<|Yc9 he;go_wp2
   go_ret
   exact⟨D1.o.2.1,Or.inr ⟨_,l,y,q,E.o,rfl,⟨F,R1.o,N1.o⟩,D1.o.1⟩⟩
  obtain⟨b0,b1,b2,b3,b4,b5,b6,b7,bs⟩:=D1.o.1.1.eight;by_cases hv:y.text.toList=We\/y.text.toList=xL
  .have Y1:=AC<|HY.o.symm.trans<|Yac he hv;have GG:(y.text.toList==[97,108,108,111,119])=true\/(y.text.toList==[97,108,108,111,119])=false/\(y.text.toList==[100,101,110,121])=true:=by
    by_cases h1:y.text.toList=We
    .exact Or.inl (by rw[DR];exact h1)
    .exact Or.inr ⟨by rw[BJ];exact h1,by rw[DR];exact hv.resolve_left h1⟩
   clear hv;have CT:=AC<|Vg D1.o.2.2.1 D1.o.1;rcases GG with ga | ⟨ga,gb⟩;all_goals
    go_wp2_with fail
    apply CT.o.mono;rintro e w2 ⟨hk2,⟨n2,r2,hy,Hl,L',hL,rfl,hB⟩ | ⟨v,y2,x2,r2,hy,rfl,hv,hr2⟩⟩
    .exact⟨rfl,D1.o.2.1.trans hk2,Or.inl ⟨n2,r2,Y1.o.trans<|Es hy,Hl,L',zx,rfl,hB⟩⟩
    obtain rfl:v=Jc y2:=hv;obtain⟨hx2,rfl⟩:=Wn ht hy;unfold Jc;have Y2:=AC<|Y1.o.trans<|Ee hy;have hs2:=hk2.size;have bF: ∀ j,j∈F->j≠b:=fun j hj=>fw (N1.o.ge j hj)
    have B2:=AC<|(AR _ w2).alloc lr<|.cells #[zo (y2.at_:Int),um y2.text,zo y2.k,zo y2.i,um y2.s,zn] 180;have dL:(w2.alloc<|.cells #[zo (y2.at_:Int),um y2.text,zo y2.k,zo y2.i,um y2.s,zn] 180).heap.size=w2.heap.size+1:=zw
    have LV:=AC<|AO.new w2 #[zo (y2.at_:Int),um y2.text,zo y2.k,zo y2.i,um y2.s,zn] 180;have K2:=AC<|(D1.o.2.1.trans hk2).AU B2.o;have Z2:=AC<|(D1.o.2.2.1.keeps hk2 hg).be B2.o;have Ao:=AC<|hr2.of B2.o;have R2:=AC (AQ.sb (DY.sb (ty:=AV) 4) _ _ _ _ _ R1.o fun j hj=>(B2.o.block j (fw (N1.o.lt j hj))).trans (hk2.block j (N1.o.lt j hj)<|bF j hj));obtain⟨v0,v1,v2,v3,v4,v5,vs⟩:=LV.o.six;clear hk2 hy hr2 CT D1 R1 b0 b1 b2 b3 b4 b5 b6 b7 bs B2 bF;obtain⟨W2,hW2⟩: ∃ W,w2.alloc (.cells #[zo (y2.at_:Int),um y2.text,zo y2.k,zo y2.i,um y2.s,zn] 180)=W:=⟨_,rfl⟩;rw[hW2]at LV K2 Z2 Ao R2 dL v0 v1 v2 v3 v4 v5 vs;have HW:=AC hW2;rw[<- hW2]at v0 v1 v2 v3 v4 v5 vs;have CBD:=AC fun u (h1:AZ a u) (h2:Rd u b t r2 x2)=>Zrk h1 h2;clear hW2;go_wp2_with fail
    rw[HW.o];rw[HW.o]at v0 v1 v2 v3 v4 v5 vs;clear HW;go_region_with (first
     | (go_at_call 78
        have KU:Ad b w (W2.drew.alloc<|.cells #[.bool false,zn] 189):=K2.o.drew.alloc _;have ZU:AZ a (W2.drew.alloc<|.cells #[.bool false,zn] 189):=Z2.o.drew.be<|(AR _ _).alloc lr _;have RU:AQ 189 2 (DY AV 4) (W2.drew.alloc<|.cells #[.bool false,zn] 189) (sP pp l.length c) l F:=AQ.sb (DY.sb (ty:=AV) 4) _ _ _ _ _ R2.o fun j hj=>Ah W2.drew _ _ (by show j<W2.heap.size;have:=N1.o.lt j hj;omega);have gy:=LV.o.of (w':=W2.drew.alloc<|.cells #[.bool false,zn] 189)<|Ah W2.drew _ _ (by show _<W2.heap.size;omega);have Qw:AF ((W2.drew.alloc<|.cells #[.bool false,zn] 189).heap.size=W2.heap.size+1):=⟨zw⟩;apply(CBD.o (W2.drew.alloc<|.cells #[.bool false,zn] 189) ZU<|Ao.o.drew.alloc _).mono;rintro e w3 ⟨hk3,⟨n3,r3,hy,dV,L',hL,rfl,hB⟩ | ⟨v,el,x3,r3,hy,rfl,⟨G,eQ,oh⟩,hr3⟩⟩
        .exact⟨rfl,KU.trans hk3,Or.inl ⟨n3,r3,Y2.o.trans<|Es hy,dV,L',(by rw[Qw.o]at hL;omega),rfl,hB⟩⟩
        obtain⟨pe,ce,rfl⟩:=AQ.form eQ;have e1:=(gy.of (w':=w3)<|hk3.block w2.heap.size (by rw[Qw.o];omega) zx).six.2.1;have LPU:=(AO.new W2.drew #[.bool false,zn] 189).of (w':=w3)<|hk3.block W2.heap.size (by rw[Qw.o];omega) zx;have bV:=AC (show AO w3 W2.heap.size #[.bool false,zn] 189 from LPU);rw[dL]at bV;obtain⟨q0,q1,qs⟩:=bV.o.two;have Zr:=AC hy;have ER:=AC<|KU.trans hk3;have Zs:=AC eQ;have U5:=AC<|Qw.o▸oh;have Kr:=AC hr3;have iA:=AC<|ZU.keeps hk3 hg;have Dn:=AC (AQ.sb (DY.sb (ty:=AV) 4) _ _ _ _ _ RU fun j hj=>hk3.block j (by rw[Qw.o];have:=N1.o.lt j hj;omega) (fw (N1.o.ge j hj)));have XN:=AC<|gy.of (w':=w3)<|hk3.block w2.heap.size (by rw[Qw.o];omega) zx;have hs3:=hk3.size;rw[Qw.o]at hs3;have RJ:w2.heap.size<w3.heap.size:=zx
        have V8:w2.heap.size≠w3.heap.size:=zx
        clear hy hk3 eQ oh hr3 KU ZU RU gy Qw LPU)
     | (go_at_call 78
        have KU:Ad b w W2.drew:=K2.o.drew;have ZU:AZ a W2.drew:=Z2.o.drew;have RU:AQ 189 2 (DY AV 4) W2.drew (sP pp l.length c) l F:=AQ.sb (DY.sb (ty:=AV) 4) _ _ _ _ _ R2.o fun j hj=>rfl;have gy:=LV.o.of (w':=W2.drew) rfl;have Qw:AF (W2.drew.heap.size=W2.heap.size):=⟨rfl⟩;apply(CBD.o W2.drew ZU Ao.o.drew).mono;rintro e w3 ⟨hk3,⟨n3,r3,hy,dV,L',hL,rfl,hB⟩ | ⟨v,el,x3,r3,hy,rfl,⟨G,eQ,oh⟩,hr3⟩⟩
        .exact⟨rfl,KU.trans hk3,Or.inl ⟨n3,r3,Y2.o.trans<|Es hy,dV,L',(by rw[Qw.o]at hL;omega),rfl,hB⟩⟩
        obtain⟨pe,ce,rfl⟩:=AQ.form eQ;have e1:=(gy.of (w':=w3)<|hk3.block w2.heap.size (by rw[Qw.o];omega) zx).six.2.1;have Zr:=AC hy;have ER:=AC<|KU.trans hk3;have Zs:=AC eQ;have U5:=AC<|Qw.o▸oh;have Kr:=AC hr3;have iA:=AC<|ZU.keeps hk3 hg;have Dn:=AC (AQ.sb (DY.sb (ty:=AV) 4) _ _ _ _ _ RU fun j hj=>hk3.block j (by rw[Qw.o];have:=N1.o.lt j hj;omega) (fw (N1.o.ge j hj)));have XN:=AC<|gy.of (w':=w3)<|hk3.block w2.heap.size (by rw[Qw.o];omega) zx;have hs3:=hk3.size;rw[Qw.o]at hs3;have RJ:w2.heap.size<w3.heap.size:=zx
        have V8:w2.heap.size≠w3.heap.size:=zx
        clear hy hk3 eQ oh hr3 KU ZU RU gy Qw))
    all_goals first
     | (obtain⟨Wp,hWp⟩: ∃ W,w3.alloc (.cells #[.bool true,sP pe el.length ce] 189)=W:=⟨_,rfl⟩
        rw[hWp];have KM:decide (y2.text.toList=We)=true:=(Nv<|DR.1 ga);have BP:Bl w3 Wp:=hWp▸(AR _ w3).alloc lr _;have YS:w3.heap.size<=Wp.heap.size:=BP.size;have O3: ∀ j,j<w3.heap.size->j≠w2.heap.size+1\/True->Wp.heap[j]?=w3.heap[j]?:=fun j hj _=>BP.block j hj;have KP:=ER.o.AU BP;have LP:AO Wp w3.heap.size #[.bool true,sP pe el.length ce] 189:=hWp▸AO.new w3 _ _;have ZP:=iA.o.be BP;have XI:=Kr.o.of BP;have Kq:=AQ.sb (DY.sb (ty:=AV) 4) _ Wp _ _ _ Dn.o fun j hj=>BP.block j (fw (N1.o.lt j hj));have Ko:=AQ.sb (DI.sb (ty:=AV) 4) _ Wp _ _ _ Zs.o fun j hj=>BP.block j (U5.o.lt j hj);have XJ:=XN.o.of<|BP.block _ RJ;have SN:Ag W2.heap.size Wp G:=U5.o.la lr BP.size;have dJ:W2.heap.size<=Wp.heap.size:=zx
        have WK:DY AV 4 Wp [.bool true,sP pe el.length ce] ⟨true,el⟩ G:=⟨_,rfl,Ko⟩;have CJ:=AC<|wS (d:=4) (B:=w.heap.size) (m:=24) (k:=y2.at_) ZP Kq WK zx (N1.o.la lr zx) (SN.la zx lr) (fun j hj Am=>jE (N1.o.lt j hj) (SN.ge j Am)) zx hle;have Y3:=AC<|Y2.o.trans<|Ee Zr.o;rw[KM]at Y3;obtain⟨s0,s1,ss⟩:=LP.two;have t0:=XJ.six.1;have ko:=AC KP;have lD:=AC XI;clear hWp KM KP LP ZP XI Kq Ko XJ SN WK YS Zr ER Zs U5 Kr iA Dn XN Y2 V8 RJ v0 v1 v2 v3 v4 v5 vs e1;try clear q0 q1 qs bV
        try clear O3
        try clear BP
        go_wp2_with fail)
     | (obtain⟨Wp,hWp⟩: ∃ W,w3.alloc (.cells #[.bool false,sP pe el.length ce] 189)=W:=⟨_,rfl⟩
        rw[hWp];have KM:decide (y2.text.toList=We)=false:=(I8<|BJ.1 ga);have BP:Bl w3 Wp:=hWp▸(AR _ w3).alloc lr _;have YS:w3.heap.size<=Wp.heap.size:=BP.size;have O3: ∀ j,j<w3.heap.size->j≠w2.heap.size+1\/True->Wp.heap[j]?=w3.heap[j]?:=fun j hj _=>BP.block j hj;have KP:=ER.o.AU BP;have LP:AO Wp w3.heap.size #[.bool false,sP pe el.length ce] 189:=hWp▸AO.new w3 _ _;have ZP:=iA.o.be BP;have XI:=Kr.o.of BP;have Kq:=AQ.sb (DY.sb (ty:=AV) 4) _ Wp _ _ _ Dn.o fun j hj=>BP.block j (fw (N1.o.lt j hj));have Ko:=AQ.sb (DI.sb (ty:=AV) 4) _ Wp _ _ _ Zs.o fun j hj=>BP.block j (U5.o.lt j hj);have XJ:=XN.o.of<|BP.block _ RJ;have SN:Ag W2.heap.size Wp G:=U5.o.la lr BP.size;have dJ:W2.heap.size<=Wp.heap.size:=zx
        have WK:DY AV 4 Wp [.bool false,sP pe el.length ce] ⟨false,el⟩ G:=⟨_,rfl,Ko⟩;have CJ:=AC<|wS (d:=4) (B:=w.heap.size) (m:=24) (k:=y2.at_) ZP Kq WK zx (N1.o.la lr zx) (SN.la zx lr) (fun j hj Am=>jE (N1.o.lt j hj) (SN.ge j Am)) zx hle;have Y3:=AC<|Y2.o.trans<|Ee Zr.o;rw[KM]at Y3;obtain⟨s0,s1,ss⟩:=LP.two;have t0:=XJ.six.1;have ko:=AC KP;have lD:=AC XI;clear hWp KM KP LP ZP XI Kq Ko XJ SN WK YS Zr ER Zs U5 Kr iA Dn XN Y2 V8 RJ v0 v1 v2 v3 v4 v5 vs e1;try clear q0 q1 qs bV
        try clear O3
        try clear BP
        go_wp2_with fail)
     | (obtain⟨Wp,hWp⟩: ∃ W,(w3.setCell (zm (w2.heap.size+1) 0)<|.bool true).setCell (zm (w2.heap.size+1) 1) (sP pe el.length ce)=W:=⟨_,rfl⟩
        rw[hWp];have KM:decide (y2.text.toList=We)=true:=(Nv<|DR.1 ga);have KP:Ad b w Wp:=hWp▸(ER.o.Ai _ _ _ zx).Ai _ _ _ zx;have YS:w3.heap.size<=Wp.heap.size:=by rw[<- hWp];simp
        have O3: ∀ j,j≠w2.heap.size+1->Wp.heap[j]?=w3.heap[j]?:=fun j hj=>by rw[<- hWp];exact(Aw _ _ _ j hj).trans<|Aw _ _ _ j hj
        have LP:AO Wp (w2.heap.size+1) #[.bool true,sP pe el.length ce] 189:=hWp▸(bV.o.set 0 _).set 1 _;have ZP:=ZW.o.keeps KP hg;have XI:Rd Wp b t r3 x3:=⟨Kr.o.1.of<|O3 b zx,Kr.o.2⟩;have Kq:=AQ.sb (DY.sb (ty:=AV) 4) _ Wp _ _ _ Dn.o fun j hj=>O3 j (fw (N1.o.lt j hj));have Ko:=AQ.sb (DI.sb (ty:=AV) 4) _ Wp _ _ _ Zs.o fun j hj=>O3 j (fw (U5.o.ge j hj));have XJ:=XN.o.of<|O3 w2.heap.size zx;have SN:Ag W2.heap.size Wp G:=U5.o.la zx YS;have dJ:W2.heap.size<=Wp.heap.size:=zx
        have WK:DY AV 4 Wp [.bool true,sP pe el.length ce] ⟨true,el⟩ G:=⟨_,rfl,Ko⟩;have CJ:=AC<|wS (d:=4) (B:=w.heap.size) (m:=24) (k:=y2.at_) ZP Kq WK zx (N1.o.la lr zx) (SN.la zx lr) (fun j hj Am=>jE (N1.o.lt j hj) (SN.ge j Am)) zx hle;have Y3:=AC<|Y2.o.trans<|Ee Zr.o;rw[KM]at Y3;obtain⟨s0,s1,ss⟩:=LP.two;have t0:=XJ.six.1;have ko:=AC KP;have lD:=AC XI;clear hWp KM KP LP ZP XI Kq Ko XJ SN WK YS Zr ER Zs U5 Kr iA Dn XN Y2 V8 RJ v0 v1 v2 v3 v4 v5 vs e1;try clear q0 q1 qs bV
        try clear O3
        try clear BP
        go_wp2_with fail)
     | (obtain⟨Wp,hWp⟩: ∃ W,(w3.setCell (zm (w2.heap.size+1) 0)<|.bool false).setCell (zm (w2.heap.size+1) 1) (sP pe el.length ce)=W:=⟨_,rfl⟩
        rw[hWp];have KM:decide (y2.text.toList=We)=false:=(I8<|BJ.1 ga);have KP:Ad b w Wp:=hWp▸(ER.o.Ai _ _ _ zx).Ai _ _ _ zx;have YS:w3.heap.size<=Wp.heap.size:=by rw[<- hWp];simp
        have O3: ∀ j,j≠w2.heap.size+1->Wp.heap[j]?=w3.heap[j]?:=fun j hj=>by rw[<- hWp];exact(Aw _ _ _ j hj).trans<|Aw _ _ _ j hj
        have LP:AO Wp (w2.heap.size+1) #[.bool false,sP pe el.length ce] 189:=hWp▸(bV.o.set 0 _).set 1 _;have ZP:=ZW.o.keeps KP hg;have XI:Rd Wp b t r3 x3:=⟨Kr.o.1.of<|O3 b zx,Kr.o.2⟩;have Kq:=AQ.sb (DY.sb (ty:=AV) 4) _ Wp _ _ _ Dn.o fun j hj=>O3 j (fw (N1.o.lt j hj));have Ko:=AQ.sb (DI.sb (ty:=AV) 4) _ Wp _ _ _ Zs.o fun j hj=>O3 j (fw (U5.o.ge j hj));have XJ:=XN.o.of<|O3 w2.heap.size zx;have SN:Ag W2.heap.size Wp G:=U5.o.la zx YS;have dJ:W2.heap.size<=Wp.heap.size:=zx
        have WK:DY AV 4 Wp [.bool false,sP pe el.length ce] ⟨false,el⟩ G:=⟨_,rfl,Ko⟩;have CJ:=AC<|wS (d:=4) (B:=w.heap.size) (m:=24) (k:=y2.at_) ZP Kq WK zx (N1.o.la lr zx) (SN.la zx lr) (fun j hj Am=>jE (N1.o.lt j hj) (SN.ge j Am)) zx hle;have Y3:=AC<|Y2.o.trans<|Ee Zr.o;rw[KM]at Y3;obtain⟨s0,s1,ss⟩:=LP.two;have t0:=XJ.six.1;have ko:=AC KP;have lD:=AC XI;clear hWp KM KP LP ZP XI Kq Ko XJ SN WK YS Zr ER Zs U5 Kr iA Dn XN Y2 V8 RJ v0 v1 v2 v3 v4 v5 vs e1;try clear q0 q1 qs bV
        try clear O3
        try clear BP
        go_wp2_with fail)
    all_goals
     apply CJ.o.mono;rintro e w5 (⟨hE,⟨L',hL,rfl,hB⟩,BX⟩ | ⟨hne,p',c',F',rfl,hG⟩)
     .exact⟨rfl,ko.o.AU BX,Or.inl ⟨4,_,Y3.o.trans<|xj hE,zu,L',fw (ko.o.size),rfl,hB⟩⟩
     have K5:=AC<|Ad.Py hG ko.o fun j hj=>N1.o.ge j hj;have PZ:Rd w5 b t r3 x3:=⟨lD.o.1.of<|hG.same b lD.o.1.lt (fun hj=>fw (N1.o.ge b hj)),lD.o.2⟩;have Z5:=AC<|ZW.o.keeps K5.o hg;have CW:=AC<|jc ⟨#[59]⟩ Z5.o PZ;rw[show(⟨#[59]⟩:Ay).toList=[59]from ZJ [59]]at CW;have Y4:=AC<|Y3.o.trans<|xd hne;have HG:=AC hG;have hs5:=hG.size;clear hG PZ CJ Y3 s0 s1 ss t0;go_wp2_with fail
     apply CW.o.mono;rintro e w6 ⟨RN,⟨n6,r6,hy,zB,L',hL,rfl,hB⟩ | ⟨v,u,x6,r6,hy,rfl,hv,ic⟩⟩
     .exact⟨rfl,K5.o.trans RN,Or.inl ⟨n6,r6,Y4.o.trans<|Es hy,zB,L',fw (K5.o.size),rfl,hB⟩⟩
     obtain rfl:v= .tuple #[]:=hv;have R6:=AC<|AJ (AQ.sb (DY.sb (ty:=AV) 4) _ w6 _ _ _ HG.o.row fun j hj=>RN.block j (HG.o.new.lt j hj) (fw (HG.o.new.ge j hj)))<|AJ (HG.o.new.la lr RN.size)<|AJ (show MJ a b w t w6 r6 x6 from⟨ic,K5.o.trans RN,Z5.o.keeps RN hg,qI ht hy⟩)<|Y4.o.trans<|Ee hy;clear RN hy ic CW HG;go_wp2_with fail
     first | exact⟨⟨l++[⟨true,el⟩],F',p',c',x6,r6,zw,zc,by simpa using R6.o.1,R6.o.2.1,R6.o.2.2.1,by rw[<- R6.o.2.2.2.symm];congr 1;simp;omega⟩,by simp[az];omega⟩ | exact⟨⟨l++[⟨false,el⟩],F',p',c',x6,r6,zw,zc,by simpa using R6.o.1,R6.o.2.1,R6.o.2.2.1,by rw[<- R6.o.2.2.2.symm];congr 1;simp;omega⟩,by simp[az];omega⟩
  .have Y1:=AC<|HY.o.symm.trans<|Ygi he hv;have g1:(y.text.toList==[97,108,108,111,119])=false:=by rw[BJ];exact fun z=>hv (Or.inl z)
   have g2:(y.text.toList==[100,101,110,121])=false:=by rw[BJ];exact fun z=>hv (Or.inr z)
   have z2:=D1.o.2.2.1.c2;have C2:=AC<|QM a (n:=2) zu D1.o.1;clear hv;go_wp2_with fail
   apply C2.o.mono;rintro e w2 ⟨⟨L,hL,rfl,hB⟩,hb⟩;exact⟨rfl,D1.o.2.1.AU hb,Or.inl ⟨2,_,Y1.o,zu,L,fw (D1.o.2.1.size),rfl,hB⟩⟩
end Go.W
