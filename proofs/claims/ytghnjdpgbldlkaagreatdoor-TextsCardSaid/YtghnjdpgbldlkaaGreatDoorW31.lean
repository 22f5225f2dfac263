import Derived.Test.YtghnjdpgbldlkaaGreatDoorW30
set_option maxRecDepth 100000
set_option maxHeartbeats 8000000
set_option linter.unusedSimpArgs false
open Go.Proofs Go.RowKit Go.W Tryz
namespace Go.W
section
variable {t:ByteArray} {l:List IV} {x:Tk} {p n:Nat}
theorem Z9n (h:Go.W.JA x=true):Tv t (n+1) l x p= .ok (l,x,p):=by rw[Tv,if_pos h]
theorem Ycn (h:Go.W.JA x=false)(hv: ¬ (x.text.toList=Ta\/x.text.toList=nk)):Tv t (n+1) l x p= .error (2,x.at_):=by rw[Tv,if_neg (by rw[h];simp),if_neg hv]
theorem Z6q (h:Go.W.JA x=false)(hv:x.text.toList=Ta\/x.text.toList=nk):Tv t (n+1) l x p=BU (EP t x p) fun _ x1 p1=>BU (Ti t x1 p1) fun e x2 p2=>if l.length=24 then .error (4,x.at_)else BU (JH t [59] x2 p2) fun _ x3 p3=>Tv t n (l++[⟨decide<|x.text.toList=Ta,e⟩]) x3 p3:=by rw[Tv,if_neg (by rw[h];simp),if_pos hv]
end
end Go.W
namespace Go.P
def Ydt (a:Nat->Addr) (b:Nat) (t:ByteArray) (Y:Re (List IV)) (w:World) (tv:Value) (wr:World):Prop:= ∃ (l:List IV) (F:List Nat) (pp:Option Addr) (c:Nat) (x:Tk) (p:Nat),tv= .slice pp l.length c/\l.length<=24/\AO 162 2 (EA AY 4) wr tv l F/\Af w.heap.size wr F/\Jc a b w t wr p x/\Tv t (25-l.length) l x p=Y
theorem Zt7 {a:Nat->Addr}{w:World}{b:Nat}{t:ByteArray}{p:Nat}{x:Tk}(Z:Aa a w)(h:Rd w b t p x)(hx:Ic x):
  Calls prog 33 #[.pointer<|Qb b 0] w (IA a b t (Px 162 2 (EA AY 4) w.heap.size) w<|T9 t x p):=by
 have hg:=h.2.2.2;have ht:=h.2.1;have hb:=h.1.lt;have D0:AC (Jc a b w t w p x):=⟨h,Ac.refl _ _,Z,hx⟩;have ZW:=AA Z;clear Z h;go_in
 go_wp2
 go_loopw [3] (fun tv wr=>Ydt a b t (T9 t x p) w tv wr) (fun tv _=>25-XU tv)
 case atStart=>exact⟨[],[],none,0,x,p,rfl,zu,AO.nil,Af.nil _ _,D0.out,rfl⟩
 case round=>
  clear D0;obtain⟨l,F,pp,c,y,q,rfl,hle,hR,hN,hD,hY⟩:=hrel;obtain⟨b0,b1,b2,b3,b4,b5,b6,b7,bs⟩:=hD.1.1.eight;obtain⟨n,hn⟩: ∃ n,25-l.length=n+1:=⟨24-l.length,zx⟩;rw[hn]at hY;have CE:=AA<|Zwb y wr;unfold IK at CE;have HR:=AA hR;have HN:=AA hN;have HD:=AA hD;have HY:=AA hY;generalize T9 t x p=Y at*;clear hR hN hD hY;go_wp2_with fail
  refine mq CE.out ?_;rintro w1 hb1;have hs1:=hb1.size;have D1:AC (Jc a b w t w1 q y):=⟨HD.out.1.of hb1,HD.out.2.1.AR hb1,HD.out.2.2.1.below hb1,HD.out.2.2.2⟩;have R1:=AA (AO.stable (EA.stable (ty:=AY) 4) _ _ _ _ _ HR.out fun j hj=>hb1.block j (HN.out.lt j hj));have N1:=AA<|HN.out.later lr hs1;have hsw:=D1.out.2.1.size;clear hb1 HD HR HN CE b0 b1 b2 b3 b4 b5 b6 b7 bs;cases he:Go.W.JA y
  case' true=>
   have E:=AA<|HY.out.symm.trans<|Z9n he;go_wp2
   go_ret
   exact⟨D1.out.2.1,Or.inr ⟨_,l,y,q,E.out,rfl,⟨F,R1.out,N1.out⟩,D1.out.1⟩⟩
  obtain⟨b0,b1,b2,b3,b4,b5,b6,b7,bs⟩:=D1.out.1.1.eight;by_cases hv:y.text.toList=Ta\/y.text.toList=nk
  ·have Y1:=AA<|HY.out.symm.trans<|Z6q he hv;have GG:(y.text.toList==[97,108,108,111,119])=true\/(y.text.toList==[97,108,108,111,119])=false/\(y.text.toList==[100,101,110,121])=true:=by
    by_cases h1:y.text.toList=Ta
    ·exact Or.inl (by rw[DJ];exact h1)
    ·exact Or.inr ⟨by rw[BK];exact h1,by rw[DJ];exact hv.resolve_left h1⟩
   clear hv;have CT:=AA<|Ro D1.out.2.2.1 D1.out.1;rcases GG with ga | ⟨ga,gb⟩;all_goals
    go_wp2_with fail
    refine CT.out.mono ?_;rintro e w2 ⟨hk2,⟨n2,r2,hy,II,L',hL,rfl,hB⟩ | ⟨v,y2,x2,r2,hy,rfl,hv,hr2⟩⟩
    ·exact⟨rfl,D1.out.2.1.trans hk2,Or.inl ⟨n2,r2,Y1.out.trans<|Ef hy,II,L',zx,rfl,hB⟩⟩
    obtain rfl:v=IK y2:=hv;obtain⟨hx2,rfl⟩:=Tt ht hy;unfold IK;have Y2:=AA<|Y1.out.trans<|Cc hy;have hs2:=hk2.size;have bF: ∀ j,j∈F->j≠b:=fun j hj=>by have:=N1.out.ge j hj;omega
    have B2:=AA<|(AQ _ w2).alloc lr<|.cells #[.int .i64 (y2.at_:Int),.string y2.text,.int .i64 y2.k,.int .i64 y2.i,.string y2.s,.slice none 0 0] 153;have YM:(w2.alloc<|.cells #[.int .i64 (y2.at_:Int),.string y2.text,.int .i64 y2.k,.int .i64 y2.i,.string y2.s,.slice none 0 0] 153).heap.size=w2.heap.size+1:=zw
    have LV:=AA<|AJ.new w2 #[.int .i64 (y2.at_:Int),.string y2.text,.int .i64 y2.k,.int .i64 y2.i,.string y2.s,.slice none 0 0] 153;have K2:=AA<|(D1.out.2.1.trans hk2).AR B2.out;have Z2:=AA<|(D1.out.2.2.1.keeps hk2 hg).below B2.out;have BF:=AA<|hr2.of B2.out;have R2:=AA (AO.stable (EA.stable (ty:=AY) 4) _ _ _ _ _ R1.out fun j hj=>(B2.out.block j (by have:=N1.out.lt j hj;omega)).trans (hk2.block j (N1.out.lt j hj)<|bF j hj));obtain⟨v0,v1,v2,v3,v4,v5,vs⟩:=LV.out.six;clear hk2 hy hr2 CT D1 R1 b0 b1 b2 b3 b4 b5 b6 b7 bs B2 bF;obtain⟨W2,hW2⟩: ∃ W,w2.alloc (.cells #[.int .i64 (y2.at_:Int),.string y2.text,.int .i64 y2.k,.int .i64 y2.i,.string y2.s,.slice none 0 0] 153)=W:=⟨_,rfl⟩;rw[hW2]at LV K2 Z2 BF R2 YM v0 v1 v2 v3 v4 v5 vs;have HW:=AA hW2;rw[<- hW2]at v0 v1 v2 v3 v4 v5 vs;have CBD:=AA fun u (h1:Aa a u) (h2:Rd u b t r2 x2)=>Zqb h1 h2;clear hW2;go_wp2_with fail
    rw[HW.out];rw[HW.out]at v0 v1 v2 v3 v4 v5 vs;clear HW;go_region_with (first
     | (go_at_call 71
        have KU:Ac b w (W2.drew.alloc<|.cells #[.bool false,.slice none 0 0] 162):=K2.out.drew.alloc _;have ZU:Aa a (W2.drew.alloc<|.cells #[.bool false,.slice none 0 0] 162):=Z2.out.drew.below<|(AQ _ _).alloc lr _;have RU:AO 162 2 (EA AY 4) (W2.drew.alloc<|.cells #[.bool false,.slice none 0 0] 162) (.slice pp l.length c) l F:=AO.stable (EA.stable (ty:=AY) 4) _ _ _ _ _ R2.out fun j hj=>Ah W2.drew _ _ (by show j<W2.heap.size;have:=N1.out.lt j hj;omega);have Zq:=LV.out.of (w':=W2.drew.alloc<|.cells #[.bool false,.slice none 0 0] 162)<|Ah W2.drew _ _ (by show _<W2.heap.size;omega);have Om:AC ((W2.drew.alloc<|.cells #[.bool false,.slice none 0 0] 162).heap.size=W2.heap.size+1):=⟨zw⟩;refine(CBD.out (W2.drew.alloc<|.cells #[.bool false,.slice none 0 0] 162) ZU<|BF.out.drew.alloc _).mono ?_;rintro e w3 ⟨hk3,⟨n3,r3,hy,Su,L',hL,rfl,hB⟩ | ⟨v,el,x3,r3,hy,rfl,⟨G,Yv,gQ⟩,hr3⟩⟩
        ·exact⟨rfl,KU.trans hk3,Or.inl ⟨n3,r3,Y2.out.trans<|Ef hy,Su,L',(by rw[Om.out]at hL;omega),rfl,hB⟩⟩
        obtain⟨pe,ce,rfl⟩:=AO.form Yv;have e1:=(Zq.of (w':=w3)<|hk3.block w2.heap.size (by rw[Om.out];omega) zx).six.2.1;have LPU:=(AJ.new W2.drew #[.bool false,.slice none 0 0] 162).of (w':=w3)<|hk3.block W2.heap.size (by rw[Om.out];omega) zx;have Xn:=AA (show AJ w3 W2.heap.size #[.bool false,.slice none 0 0] 162 from LPU);rw[YM]at Xn;obtain⟨q0,q1,qs⟩:=Xn.out.two;have WO:=AA hy;have D8:=AA<|KU.trans hk3;have WP:=AA Yv;have RD:=AA<|Om.out▸gQ;have JE:=AA hr3;have Zs:=AA<|ZU.keeps hk3 hg;have Du:=AA (AO.stable (EA.stable (ty:=AY) 4) _ _ _ _ _ RU fun j hj=>hk3.block j (by rw[Om.out];have:=N1.out.lt j hj;omega) (by have:=N1.out.ge j hj;omega));have RE:=AA<|Zq.of (w':=w3)<|hk3.block w2.heap.size (by rw[Om.out];omega) zx;have hs3:=hk3.size;rw[Om.out]at hs3;have Ov:w2.heap.size<w3.heap.size:=zx
        have Sr:w2.heap.size≠w3.heap.size:=zx
        clear hy hk3 Yv gQ hr3 KU ZU RU Zq Om LPU)
     | (go_at_call 71
        have KU:Ac b w W2.drew:=K2.out.drew;have ZU:Aa a W2.drew:=Z2.out.drew;have RU:AO 162 2 (EA AY 4) W2.drew (.slice pp l.length c) l F:=AO.stable (EA.stable (ty:=AY) 4) _ _ _ _ _ R2.out fun j hj=>rfl;have Zq:=LV.out.of (w':=W2.drew) rfl;have Om:AC (W2.drew.heap.size=W2.heap.size):=⟨rfl⟩;refine(CBD.out W2.drew ZU BF.out.drew).mono ?_;rintro e w3 ⟨hk3,⟨n3,r3,hy,Su,L',hL,rfl,hB⟩ | ⟨v,el,x3,r3,hy,rfl,⟨G,Yv,gQ⟩,hr3⟩⟩
        ·exact⟨rfl,KU.trans hk3,Or.inl ⟨n3,r3,Y2.out.trans<|Ef hy,Su,L',(by rw[Om.out]at hL;omega),rfl,hB⟩⟩
        obtain⟨pe,ce,rfl⟩:=AO.form Yv;have e1:=(Zq.of (w':=w3)<|hk3.block w2.heap.size (by rw[Om.out];omega) zx).six.2.1;have WO:=AA hy;have D8:=AA<|KU.trans hk3;have WP:=AA Yv;have RD:=AA<|Om.out▸gQ;have JE:=AA hr3;have Zs:=AA<|ZU.keeps hk3 hg;have Du:=AA (AO.stable (EA.stable (ty:=AY) 4) _ _ _ _ _ RU fun j hj=>hk3.block j (by rw[Om.out];have:=N1.out.lt j hj;omega) (by have:=N1.out.ge j hj;omega));have RE:=AA<|Zq.of (w':=w3)<|hk3.block w2.heap.size (by rw[Om.out];omega) zx;have hs3:=hk3.size;rw[Om.out]at hs3;have Ov:w2.heap.size<w3.heap.size:=zx
        have Sr:w2.heap.size≠w3.heap.size:=zx
        clear hy hk3 Yv gQ hr3 KU ZU RU Zq Om))
    all_goals first
     | (obtain⟨Wp,hWp⟩: ∃ W,w3.alloc (.cells #[.bool true,.slice pe el.length ce] 162)=W:=⟨_,rfl⟩
        rw[hWp];have RS:decide (y2.text.toList=Ta)=true:=(QJ<|DJ.1 ga);have BP:Bl w3 Wp:=hWp▸(AQ _ w3).alloc lr _;have VQ:w3.heap.size<=Wp.heap.size:=BP.size;have MG: ∀ j,j<w3.heap.size->j≠w2.heap.size+1\/True->Wp.heap[j]?=w3.heap[j]?:=fun j hj _=>BP.block j hj;have KP:=D8.out.AR BP;have LP:AJ Wp w3.heap.size #[.bool true,.slice pe el.length ce] 162:=hWp▸AJ.new w3 _ _;have ZP:=Zs.out.below BP;have UK:=JE.out.of BP;have JD:=AO.stable (EA.stable (ty:=AY) 4) _ Wp _ _ _ Du.out fun j hj=>BP.block j (by have:=N1.out.lt j hj;omega);have JC:=AO.stable (Cj.stable (ty:=AY) 4) _ Wp _ _ _ WP.out fun j hj=>BP.block j (RD.out.lt j hj);have UL:=RE.out.of<|BP.block _ Ov;have PU:Af W2.heap.size Wp G:=RD.out.later lr BP.size;have YJ:W2.heap.size<=Wp.heap.size:=zx
        have TQ:EA AY 4 Wp [.bool true,.slice pe el.length ce] ⟨true,el⟩ G:=⟨_,rfl,JC⟩;have CJ:=AA<|nW (d:=4) (B:=w.heap.size) (m:=24) (k:=y2.at_) ZP JD TQ zx (N1.out.later lr zx) (PU.later zx lr) (fun j hj Ao=>by have:=N1.out.lt j hj;have:=PU.ge j Ao;omega) zx hle;have Y3:=AA<|Y2.out.trans<|Cc WO.out;rw[RS]at Y3;obtain⟨s0,s1,ss⟩:=LP.two;have t0:=UL.six.1;have dA:=AA KP;have dE:=AA UK;clear hWp RS KP LP ZP UK JD JC UL PU TQ VQ WO D8 WP RD JE Zs Du RE Y2 Sr Ov v0 v1 v2 v3 v4 v5 vs e1;try clear q0 q1 qs Xn
        try clear MG
        try clear BP
        go_wp2_with fail)
     | (obtain⟨Wp,hWp⟩: ∃ W,w3.alloc (.cells #[.bool false,.slice pe el.length ce] 162)=W:=⟨_,rfl⟩
        rw[hWp];have RS:decide (y2.text.toList=Ta)=false:=(Oi<|BK.1 ga);have BP:Bl w3 Wp:=hWp▸(AQ _ w3).alloc lr _;have VQ:w3.heap.size<=Wp.heap.size:=BP.size;have MG: ∀ j,j<w3.heap.size->j≠w2.heap.size+1\/True->Wp.heap[j]?=w3.heap[j]?:=fun j hj _=>BP.block j hj;have KP:=D8.out.AR BP;have LP:AJ Wp w3.heap.size #[.bool false,.slice pe el.length ce] 162:=hWp▸AJ.new w3 _ _;have ZP:=Zs.out.below BP;have UK:=JE.out.of BP;have JD:=AO.stable (EA.stable (ty:=AY) 4) _ Wp _ _ _ Du.out fun j hj=>BP.block j (by have:=N1.out.lt j hj;omega);have JC:=AO.stable (Cj.stable (ty:=AY) 4) _ Wp _ _ _ WP.out fun j hj=>BP.block j (RD.out.lt j hj);have UL:=RE.out.of<|BP.block _ Ov;have PU:Af W2.heap.size Wp G:=RD.out.later lr BP.size;have YJ:W2.heap.size<=Wp.heap.size:=zx
        have TQ:EA AY 4 Wp [.bool false,.slice pe el.length ce] ⟨false,el⟩ G:=⟨_,rfl,JC⟩;have CJ:=AA<|nW (d:=4) (B:=w.heap.size) (m:=24) (k:=y2.at_) ZP JD TQ zx (N1.out.later lr zx) (PU.later zx lr) (fun j hj Ao=>by have:=N1.out.lt j hj;have:=PU.ge j Ao;omega) zx hle;have Y3:=AA<|Y2.out.trans<|Cc WO.out;rw[RS]at Y3;obtain⟨s0,s1,ss⟩:=LP.two;have t0:=UL.six.1;have dA:=AA KP;have dE:=AA UK;clear hWp RS KP LP ZP UK JD JC UL PU TQ VQ WO D8 WP RD JE Zs Du RE Y2 Sr Ov v0 v1 v2 v3 v4 v5 vs e1;try clear q0 q1 qs Xn
        try clear MG
        try clear BP
        go_wp2_with fail)
     | (obtain⟨Wp,hWp⟩: ∃ W,(w3.setCell ⟨w2.heap.size+1,0,none⟩<|.bool true).setCell ⟨w2.heap.size+1,1,none⟩ (.slice pe el.length ce)=W:=⟨_,rfl⟩
        rw[hWp];have RS:decide (y2.text.toList=Ta)=true:=(QJ<|DJ.1 ga);have KP:Ac b w Wp:=hWp▸(D8.out.Ai _ _ _ zx).Ai _ _ _ zx;have VQ:w3.heap.size<=Wp.heap.size:=by rw[<- hWp];simp
        have MG: ∀ j,j≠w2.heap.size+1->Wp.heap[j]?=w3.heap[j]?:=fun j hj=>by rw[<- hWp];exact(Au _ _ _ j hj).trans<|Au _ _ _ j hj
        have LP:AJ Wp (w2.heap.size+1) #[.bool true,.slice pe el.length ce] 162:=hWp▸(Xn.out.set 0 _).set 1 _;have ZP:=ZW.out.keeps KP hg;have UK:Rd Wp b t r3 x3:=⟨JE.out.1.of<|MG b zx,JE.out.2⟩;have JD:=AO.stable (EA.stable (ty:=AY) 4) _ Wp _ _ _ Du.out fun j hj=>MG j (by have:=N1.out.lt j hj;omega);have JC:=AO.stable (Cj.stable (ty:=AY) 4) _ Wp _ _ _ WP.out fun j hj=>MG j (by have:=RD.out.ge j hj;omega);have UL:=RE.out.of<|MG w2.heap.size zx;have PU:Af W2.heap.size Wp G:=RD.out.later zx VQ;have YJ:W2.heap.size<=Wp.heap.size:=zx
        have TQ:EA AY 4 Wp [.bool true,.slice pe el.length ce] ⟨true,el⟩ G:=⟨_,rfl,JC⟩;have CJ:=AA<|nW (d:=4) (B:=w.heap.size) (m:=24) (k:=y2.at_) ZP JD TQ zx (N1.out.later lr zx) (PU.later zx lr) (fun j hj Ao=>by have:=N1.out.lt j hj;have:=PU.ge j Ao;omega) zx hle;have Y3:=AA<|Y2.out.trans<|Cc WO.out;rw[RS]at Y3;obtain⟨s0,s1,ss⟩:=LP.two;have t0:=UL.six.1;have dA:=AA KP;have dE:=AA UK;clear hWp RS KP LP ZP UK JD JC UL PU TQ VQ WO D8 WP RD JE Zs Du RE Y2 Sr Ov v0 v1 v2 v3 v4 v5 vs e1;try clear q0 q1 qs Xn
        try clear MG
        try clear BP
        go_wp2_with fail)
     | (obtain⟨Wp,hWp⟩: ∃ W,(w3.setCell ⟨w2.heap.size+1,0,none⟩<|.bool false).setCell ⟨w2.heap.size+1,1,none⟩ (.slice pe el.length ce)=W:=⟨_,rfl⟩
        rw[hWp];have RS:decide (y2.text.toList=Ta)=false:=(Oi<|BK.1 ga);have KP:Ac b w Wp:=hWp▸(D8.out.Ai _ _ _ zx).Ai _ _ _ zx;have VQ:w3.heap.size<=Wp.heap.size:=by rw[<- hWp];simp
        have MG: ∀ j,j≠w2.heap.size+1->Wp.heap[j]?=w3.heap[j]?:=fun j hj=>by rw[<- hWp];exact(Au _ _ _ j hj).trans<|Au _ _ _ j hj
        have LP:AJ Wp (w2.heap.size+1) #[.bool false,.slice pe el.length ce] 162:=hWp▸(Xn.out.set 0 _).set 1 _;have ZP:=ZW.out.keeps KP hg;have UK:Rd Wp b t r3 x3:=⟨JE.out.1.of<|MG b zx,JE.out.2⟩;have JD:=AO.stable (EA.stable (ty:=AY) 4) _ Wp _ _ _ Du.out fun j hj=>MG j (by have:=N1.out.lt j hj;omega);have JC:=AO.stable (Cj.stable (ty:=AY) 4) _ Wp _ _ _ WP.out fun j hj=>MG j (by have:=RD.out.ge j hj;omega);have UL:=RE.out.of<|MG w2.heap.size zx;have PU:Af W2.heap.size Wp G:=RD.out.later zx VQ;have YJ:W2.heap.size<=Wp.heap.size:=zx
        have TQ:EA AY 4 Wp [.bool false,.slice pe el.length ce] ⟨false,el⟩ G:=⟨_,rfl,JC⟩;have CJ:=AA<|nW (d:=4) (B:=w.heap.size) (m:=24) (k:=y2.at_) ZP JD TQ zx (N1.out.later lr zx) (PU.later zx lr) (fun j hj Ao=>by have:=N1.out.lt j hj;have:=PU.ge j Ao;omega) zx hle;have Y3:=AA<|Y2.out.trans<|Cc WO.out;rw[RS]at Y3;obtain⟨s0,s1,ss⟩:=LP.two;have t0:=UL.six.1;have dA:=AA KP;have dE:=AA UK;clear hWp RS KP LP ZP UK JD JC UL PU TQ VQ WO D8 WP RD JE Zs Du RE Y2 Sr Ov v0 v1 v2 v3 v4 v5 vs e1;try clear q0 q1 qs Xn
        try clear MG
        try clear BP
        go_wp2_with fail)
    all_goals
     refine CJ.out.mono ?_;rintro e w5 (⟨hE,⟨L',hL,rfl,hB⟩,Bf⟩ | ⟨hne,p',c',F',rfl,hG⟩)
     ·exact⟨rfl,dA.out.AR Bf,Or.inl ⟨4,_,Y3.out.trans<|if_pos hE,zu,L',by have:=dA.out.size;omega,rfl,hB⟩⟩
     have K5:=AA<|Ac.NK hG dA.out fun j hj=>N1.out.ge j hj;have Me:Rd w5 b t r3 x3:=⟨dE.out.1.of<|hG.same b dE.out.1.lt (fun hj=>by have:=N1.out.ge b hj;omega),dE.out.2⟩;have Z5:=AA<|ZW.out.keeps K5.out hg;have CW:=AA<|bL ⟨#[59]⟩ Z5.out Me;rw[show(⟨#[59]⟩:ByteArray).toList=[59]from V3 [59]]at CW;have Y4:=AA<|Y3.out.trans<|if_neg hne;have HG:=AA hG;have hs5:=hG.size;clear hG Me CJ Y3 s0 s1 ss t0;go_wp2_with fail
     refine CW.out.mono ?_;rintro e w6 ⟨Pj,⟨n6,r6,hy,qY,L',hL,rfl,hB⟩ | ⟨v,u,x6,r6,hy,rfl,hv,aJ⟩⟩
     ·exact⟨rfl,K5.out.trans Pj,Or.inl ⟨n6,r6,Y4.out.trans<|Ef hy,qY,L',by have:=K5.out.size;omega,rfl,hB⟩⟩
     obtain rfl:v= .tuple #[]:=hv;have R6:=AA<|AF (AO.stable (EA.stable (ty:=AY) 4) _ w6 _ _ _ HG.out.row fun j hj=>Pj.block j (HG.out.new.lt j hj) (by have:=HG.out.new.ge j hj;omega))<|AF (HG.out.new.later lr Pj.size)<|AF (show Jc a b w t w6 r6 x6 from⟨aJ,K5.out.trans Pj,Z5.out.keeps Pj hg,iq ht hy⟩)<|Y4.out.trans<|Cc hy;clear Pj hy aJ CW HG;go_wp2_with fail
     first | exact⟨⟨l++[⟨true,el⟩],F',p',c',x6,r6,zw,by simp;omega,by simpa using R6.out.1,R6.out.2.1,R6.out.2.2.1,by rw[<- R6.out.2.2.2.symm];congr 1;simp;omega⟩,by simp[XU];omega⟩ | exact⟨⟨l++[⟨false,el⟩],F',p',c',x6,r6,zw,by simp;omega,by simpa using R6.out.1,R6.out.2.1,R6.out.2.2.1,by rw[<- R6.out.2.2.2.symm];congr 1;simp;omega⟩,by simp[XU];omega⟩
  ·have Y1:=AA<|HY.out.symm.trans<|Ycn he hv;have g1:(y.text.toList==[97,108,108,111,119])=false:=by rw[BK];exact fun z=>hv (Or.inl z)
   have g2:(y.text.toList==[100,101,110,121])=false:=by rw[BK];exact fun z=>hv (Or.inr z)
   have z2:=D1.out.2.2.1.c2;have C2:=AA<|Nr a (n:=2) zu D1.out.1;clear hv;go_wp2_with fail
   refine C2.out.mono ?_;rintro e w2 ⟨⟨L,hL,rfl,hB⟩,hb⟩;exact⟨rfl,D1.out.2.1.AR hb,Or.inl ⟨2,_,Y1.out,zu,L,by have:=D1.out.2.1.size;omega,rfl,hB⟩⟩
end Go.P
