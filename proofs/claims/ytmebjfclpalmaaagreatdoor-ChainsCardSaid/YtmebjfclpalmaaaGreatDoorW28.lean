import Derived.Test.YtmebjfclpalmaaaGreatDoorW27
set_option maxRecDepth 100000
set_option maxHeartbeats 8000000
set_option linter.unusedSimpArgs false
open Go.Proofs Go.RowKit Go.W Tryz
namespace Go.W
section
variable {t:ByteArray} {l:List Pol} {x:Tk} {p n:Nat}
theorem Z63 (h:Go.W.Z73 x=true):Zcz t (n+1) l x p= .ok (l,x,p):=by rw[Zcz,if_pos h]
theorem Z9s (h:Go.W.Z73 x=false)(hv: ¬ (x.text.toList=Zid\/x.text.toList=Z52)):Zcz t (n+1) l x p= .error (2,x.at_):=by rw[Zcz,if_neg (by rw[h];simp),if_neg hv]
theorem Z4d (h:Go.W.Z73 x=false)(hv:x.text.toList=Zid\/x.text.toList=Z52):Zcz t (n+1) l x p=Zbg (Zdc t x p) fun _ x1 p1=>Zbg (Zjx t x1 p1) fun e x2 p2=>if l.length=24 then .error (4,x.at_)else Zbg (Zh5 t [59] x2 p2) fun _ x3 p3=>Zcz t n (l++[⟨decide (x.text.toList=Zid),e⟩]) x3 p3:=by rw[Zcz,if_neg (by rw[h];simp),if_pos hv]
end
end Go.W
namespace Go.P
def Yap (a:Nat->Addr) (b:Nat) (t:ByteArray) (Y:Re (List Pol)) (w:World) (tv:Value) (wr:World):Prop:= ∃ (l:List Pol) (F:List Nat) (pp:Option Addr) (c:Nat) (x:Tk) (p:Nat),tv= .slice pp l.length c/\l.length<=24/\Zag 187 2 (Zhi Zad 4) wr tv l F/\Za7 w.heap.size wr F/\Zpi a b w t wr p x/\Zcz t (25 - l.length) l x p=Y
theorem Zsn {a:Nat->Addr}{w:World}{b:Nat}{t:ByteArray}{p:Nat}{x:Tk}(Z:Zao a w)(h:Rd w b t p x)(hx:Zm5 x):
  Calls prog 52 #[.pointer (some ⟨b,0,none⟩)] w (Ze6 a b t (Zkd 187 2 (Zhi Zad 4) w.heap.size) w (Zdo t x p)):=by
 have hg:=h.2.2.2;have ht:=h.2.1;have hb:=h.1.lt;have D0:Box (Zpi a b w t w p x):=⟨h,Zah.refl _ _,Z,hx⟩;have ZW:=Zaa Z;clear Z h;go_in
 go_wp2
 go_loopw [3] (fun tv wr=>Yap a b t (Zdo t x p) w tv wr) (fun tv _=>25 - Zmd tv)
 case atStart=>exact⟨[],[],none,0,x,p,rfl,by decide,Zag.nil,Za7.nil _ _,D0.out,rfl⟩
 case round=>
  clear D0;obtain⟨l,F,pp,c,y,q,rfl,hle,hR,hN,hD,hY⟩:=hrel;obtain⟨b0,b1,b2,b3,b4,b5,b6,b7,bs⟩:=hD.1.1.eight;obtain⟨n,hn⟩: ∃ n,25 - l.length=n+1:=⟨24 - l.length,by omega⟩;rw[hn]at hY;have CE:=Zaa (Zt9 y wr);unfold Zm2 at CE;have HR:=Zaa hR;have HN:=Zaa hN;have HD:=Zaa hD;have HY:=Zaa hY;generalize Zdo t x p=Y at*;clear hR hN hD hY;go_wp2_with fail
  refine mq CE.out ?_;rintro w1 hb1;have hs1:=hb1.size;have D1:Box (Zpi a b w t w1 q y):=⟨HD.out.1.of hb1,HD.out.2.1.ofBelow hb1,HD.out.2.2.1.below hb1,HD.out.2.2.2⟩;have R1:=Zaa (Zag.stable (Zhi.stable (ty:=Zad) 4) _ _ _ _ _ HR.out fun j hj=>hb1.block j (HN.out.lt j hj));have N1:=Zaa (HN.out.later lr hs1);have hsw:=D1.out.2.1.size;clear hb1 HD HR HN CE b0 b1 b2 b3 b4 b5 b6 b7 bs;cases he:Go.W.Z73 y
  case' true=>
   have E:=Zaa (HY.out.symm.trans (Z63 he));go_wp2
   go_ret
   exact⟨D1.out.2.1,Or.inr ⟨_,l,y,q,E.out,rfl,⟨F,R1.out,N1.out⟩,D1.out.1⟩⟩
  obtain⟨b0,b1,b2,b3,b4,b5,b6,b7,bs⟩:=D1.out.1.1.eight;by_cases hv:y.text.toList=Zid\/y.text.toList=Z52
  ·have Y1:=Zaa (HY.out.symm.trans (Z4d he hv));have GG:(y.text.toList==[97,108,108,111,119])=true\/(y.text.toList==[97,108,108,111,119])=false/\(y.text.toList==[100,101,110,121])=true:=by
    by_cases h1:y.text.toList=Zid
    ·exact Or.inl (by rw[Yfb];exact h1)
    ·exact Or.inr ⟨by rw[Ye4];exact h1,by rw[Yfb];exact hv.resolve_left h1⟩
   clear hv;have CT:=Zaa (Zc8 D1.out.2.2.1 D1.out.1);rcases GG with ga | ⟨ga,gb⟩;all_goals
    go_wp2_with fail
    refine CT.out.mono ?_;rintro e w2 ⟨hk2,⟨n2,r2,hy,hn2,L',hL,rfl,hB⟩ | ⟨v,y2,x2,r2,hy,rfl,hv,hr2⟩⟩
    ·exact⟨rfl,D1.out.2.1.trans hk2,Or.inl ⟨n2,r2,Y1.out.trans (Zai hy),hn2,L',by omega,rfl,hB⟩⟩
    obtain rfl:v=Zm2 y2:=hv;obtain⟨hx2,rfl⟩:=Zeq ht hy;unfold Zm2;have Y2:=Zaa (Y1.out.trans (Zas hy));have hs2:=hk2.size;have bF: ∀ j,j∈F->j≠b:=fun j hj=>by have:=N1.out.ge j hj;omega
    have B2:=Zaa ((Ydb _ w2).alloc lr (.cells #[.int .i64 (y2.at_:Int),.string y2.text,.int .i64 y2.k,.int .i64 y2.i,.string y2.s,.slice none 0 0] 179));have hsA:(w2.alloc (.cells #[.int .i64 (y2.at_:Int),.string y2.text,.int .i64 y2.k,.int .i64 y2.i,.string y2.s,.slice none 0 0] 179)).heap.size=w2.heap.size+1:=by simp
    have LV:=Zaa (Blk.new w2 #[.int .i64 (y2.at_:Int),.string y2.text,.int .i64 y2.k,.int .i64 y2.i,.string y2.s,.slice none 0 0] 179);have K2:=Zaa ((D1.out.2.1.trans hk2).ofBelow B2.out);have Z2:=Zaa ((D1.out.2.2.1.keeps hk2 hg).below B2.out);have HR2:=Zaa (hr2.of B2.out);have R2:=Zaa (Zag.stable (Zhi.stable (ty:=Zad) 4) _ _ _ _ _ R1.out fun j hj=>(B2.out.block j (by have:=N1.out.lt j hj;omega)).trans (hk2.block j (N1.out.lt j hj) (bF j hj)));obtain⟨v0,v1,v2,v3,v4,v5,vs⟩:=LV.out.six;clear hk2 hy hr2 CT D1 R1 b0 b1 b2 b3 b4 b5 b6 b7 bs B2 bF;obtain⟨W2,hW2⟩: ∃ W,w2.alloc (.cells #[.int .i64 (y2.at_:Int),.string y2.text,.int .i64 y2.k,.int .i64 y2.i,.string y2.s,.slice none 0 0] 179)=W:=⟨_,rfl⟩;rw[hW2]at LV K2 Z2 HR2 R2 hsA v0 v1 v2 v3 v4 v5 vs;have HW:=Zaa hW2;rw[<- hW2]at v0 v1 v2 v3 v4 v5 vs;have CBD:=Zaa (fun u (h1:Zao a u) (h2:Rd u b t r2 x2)=>Zon h1 h2);clear hW2;go_wp2_with fail
    rw[HW.out];rw[HW.out]at v0 v1 v2 v3 v4 v5 vs;clear HW;go_region_with (first
     | (go_at_call 86
        have KU:Zah b w (W2.drew.alloc (.cells #[.bool false,.slice none 0 0] 187)):=K2.out.drew.alloc _;have ZU:Zao a (W2.drew.alloc (.cells #[.bool false,.slice none 0 0] 187)):=Z2.out.drew.below ((Ydb _ _).alloc lr _);have RU:Zag 187 2 (Zhi Zad 4) (W2.drew.alloc (.cells #[.bool false,.slice none 0 0] 187)) (.slice pp l.length c) l F:=Zag.stable (Zhi.stable (ty:=Zad) 4) _ _ _ _ _ R2.out fun j hj=>Ydf W2.drew _ _ (by show j < W2.heap.size;have:=N1.out.lt j hj;omega);have LVU:=LV.out.of (w':=W2.drew.alloc (.cells #[.bool false,.slice none 0 0] 187)) (Ydf W2.drew _ _ (by show _ < W2.heap.size;omega));have HSU:Box ((W2.drew.alloc (.cells #[.bool false,.slice none 0 0] 187)).heap.size=W2.heap.size+1):=⟨by simp⟩;refine(CBD.out (W2.drew.alloc (.cells #[.bool false,.slice none 0 0] 187)) ZU (HR2.out.drew.alloc _)).mono ?_;rintro e w3 ⟨hk3,⟨n3,r3,hy,hn3,L',hL,rfl,hB⟩ | ⟨v,el,x3,r3,hy,rfl,⟨G,hRG,hNG⟩,hr3⟩⟩
        ·exact⟨rfl,KU.trans hk3,Or.inl ⟨n3,r3,Y2.out.trans (Zai hy),hn3,L',(by rw[HSU.out]at hL;omega),rfl,hB⟩⟩
        obtain⟨pe,ce,rfl⟩:=Zag.form hRG;have e1:=(LVU.of (w':=w3) (hk3.block w2.heap.size (by rw[HSU.out];omega) (by omega))).six.2.1;have LPU:=(Blk.new W2.drew #[.bool false,.slice none 0 0] 187).of (w':=w3) (hk3.block W2.heap.size (by rw[HSU.out];omega) (by omega));have HLP:=Zaa (show Blk w3 W2.heap.size #[.bool false,.slice none 0 0] 187 from LPU);rw[hsA]at HLP;obtain⟨q0,q1,qs⟩:=HLP.out.two;have HY3:=Zaa hy;have HK3:=Zaa (KU.trans hk3);have HRG:=Zaa hRG;have HNG:=Zaa (HSU.out▸hNG);have HHR3:=Zaa hr3;have HZ3:=Zaa (ZU.keeps hk3 hg);have HR3:=Zaa (Zag.stable (Zhi.stable (ty:=Zad) 4) _ _ _ _ _ RU fun j hj=>hk3.block j (by rw[HSU.out];have:=N1.out.lt j hj;omega) (by have:=N1.out.ge j hj;omega));have HLV:=Zaa (LVU.of (w':=w3) (hk3.block w2.heap.size (by rw[HSU.out];omega) (by omega)));have hs3:=hk3.size;rw[HSU.out]at hs3;have hlt3:w2.heap.size < w3.heap.size:=by omega
        have hne3:w2.heap.size≠w3.heap.size:=by omega
        clear hy hk3 hRG hNG hr3 KU ZU RU LVU HSU LPU)
     | (go_at_call 86
        have KU:Zah b w W2.drew:=K2.out.drew;have ZU:Zao a W2.drew:=Z2.out.drew;have RU:Zag 187 2 (Zhi Zad 4) W2.drew (.slice pp l.length c) l F:=Zag.stable (Zhi.stable (ty:=Zad) 4) _ _ _ _ _ R2.out fun j hj=>rfl;have LVU:=LV.out.of (w':=W2.drew) rfl;have HSU:Box (W2.drew.heap.size=W2.heap.size):=⟨rfl⟩;refine(CBD.out W2.drew ZU HR2.out.drew).mono ?_;rintro e w3 ⟨hk3,⟨n3,r3,hy,hn3,L',hL,rfl,hB⟩ | ⟨v,el,x3,r3,hy,rfl,⟨G,hRG,hNG⟩,hr3⟩⟩
        ·exact⟨rfl,KU.trans hk3,Or.inl ⟨n3,r3,Y2.out.trans (Zai hy),hn3,L',(by rw[HSU.out]at hL;omega),rfl,hB⟩⟩
        obtain⟨pe,ce,rfl⟩:=Zag.form hRG;have e1:=(LVU.of (w':=w3) (hk3.block w2.heap.size (by rw[HSU.out];omega) (by omega))).six.2.1;have HY3:=Zaa hy;have HK3:=Zaa (KU.trans hk3);have HRG:=Zaa hRG;have HNG:=Zaa (HSU.out▸hNG);have HHR3:=Zaa hr3;have HZ3:=Zaa (ZU.keeps hk3 hg);have HR3:=Zaa (Zag.stable (Zhi.stable (ty:=Zad) 4) _ _ _ _ _ RU fun j hj=>hk3.block j (by rw[HSU.out];have:=N1.out.lt j hj;omega) (by have:=N1.out.ge j hj;omega));have HLV:=Zaa (LVU.of (w':=w3) (hk3.block w2.heap.size (by rw[HSU.out];omega) (by omega)));have hs3:=hk3.size;rw[HSU.out]at hs3;have hlt3:w2.heap.size < w3.heap.size:=by omega
        have hne3:w2.heap.size≠w3.heap.size:=by omega
        clear hy hk3 hRG hNG hr3 KU ZU RU LVU HSU))
    all_goals first
     | (obtain⟨Wp,hWp⟩: ∃ W,w3.alloc (.cells #[.bool true,.slice pe el.length ce] 187)=W:=⟨_,rfl⟩
        rw[hWp];have hal:decide (y2.text.toList=Zid)=true:=(Yfj (Yfb.1 ga));have BP:Below w3.heap.size w3 Wp:=hWp▸(Ydb _ w3).alloc lr _;have hsP:w3.heap.size<=Wp.heap.size:=BP.size;have eqP: ∀ j,j < w3.heap.size->j≠w2.heap.size+1\/True->Wp.heap[j]?=w3.heap[j]?:=fun j hj _=>BP.block j hj;have KP:=HK3.out.ofBelow BP;have LP:Blk Wp w3.heap.size #[.bool true,.slice pe el.length ce] 187:=hWp▸Blk.new w3 _ _;have ZP:=HZ3.out.below BP;have RdP:=HHR3.out.of BP;have RowP:=Zag.stable (Zhi.stable (ty:=Zad) 4) _ Wp _ _ _ HR3.out fun j hj=>BP.block j (by have:=N1.out.lt j hj;omega);have RulP:=Zag.stable (Zbs.stable (ty:=Zad) 4) _ Wp _ _ _ HRG.out fun j hj=>BP.block j (HNG.out.lt j hj);have LVP:=HLV.out.of (BP.block _ hlt3);have NGP:Za7 W2.heap.size Wp G:=HNG.out.later lr BP.size;have hsp2:W2.heap.size<=Wp.heap.size:=by omega
        have hPQ:Zhi Zad 4 Wp [.bool true,.slice pe el.length ce] ⟨true,el⟩ G:=⟨_,rfl,RulP⟩;have CJ:=Zaa (Zfn (d:=4) (B:=w.heap.size) (m:=24) (k:=y2.at_) ZP RowP hPQ (by omega) (N1.out.later lr (by omega)) (NGP.later (by omega) lr) (fun j hj hj2=>by have:=N1.out.lt j hj;have:=NGP.ge j hj2;omega) (by omega) hle);have Y3:=Zaa (Y2.out.trans (Zas HY3.out));rw[hal]at Y3;obtain⟨s0,s1,ss⟩:=LP.two;have t0:=LVP.six.1;have KKP:=Zaa KP;have HHP:=Zaa RdP;clear hWp hal KP LP ZP RdP RowP RulP LVP NGP hPQ hsP HY3 HK3 HRG HNG HHR3 HZ3 HR3 HLV Y2 hne3 hlt3 v0 v1 v2 v3 v4 v5 vs e1;try clear q0 q1 qs HLP
        try clear eqP
        try clear BP
        go_wp2_with fail)
     | (obtain⟨Wp,hWp⟩: ∃ W,w3.alloc (.cells #[.bool false,.slice pe el.length ce] 187)=W:=⟨_,rfl⟩
        rw[hWp];have hal:decide (y2.text.toList=Zid)=false:=(Yfg (Ye4.1 ga));have BP:Below w3.heap.size w3 Wp:=hWp▸(Ydb _ w3).alloc lr _;have hsP:w3.heap.size<=Wp.heap.size:=BP.size;have eqP: ∀ j,j < w3.heap.size->j≠w2.heap.size+1\/True->Wp.heap[j]?=w3.heap[j]?:=fun j hj _=>BP.block j hj;have KP:=HK3.out.ofBelow BP;have LP:Blk Wp w3.heap.size #[.bool false,.slice pe el.length ce] 187:=hWp▸Blk.new w3 _ _;have ZP:=HZ3.out.below BP;have RdP:=HHR3.out.of BP;have RowP:=Zag.stable (Zhi.stable (ty:=Zad) 4) _ Wp _ _ _ HR3.out fun j hj=>BP.block j (by have:=N1.out.lt j hj;omega);have RulP:=Zag.stable (Zbs.stable (ty:=Zad) 4) _ Wp _ _ _ HRG.out fun j hj=>BP.block j (HNG.out.lt j hj);have LVP:=HLV.out.of (BP.block _ hlt3);have NGP:Za7 W2.heap.size Wp G:=HNG.out.later lr BP.size;have hsp2:W2.heap.size<=Wp.heap.size:=by omega
        have hPQ:Zhi Zad 4 Wp [.bool false,.slice pe el.length ce] ⟨false,el⟩ G:=⟨_,rfl,RulP⟩;have CJ:=Zaa (Zfn (d:=4) (B:=w.heap.size) (m:=24) (k:=y2.at_) ZP RowP hPQ (by omega) (N1.out.later lr (by omega)) (NGP.later (by omega) lr) (fun j hj hj2=>by have:=N1.out.lt j hj;have:=NGP.ge j hj2;omega) (by omega) hle);have Y3:=Zaa (Y2.out.trans (Zas HY3.out));rw[hal]at Y3;obtain⟨s0,s1,ss⟩:=LP.two;have t0:=LVP.six.1;have KKP:=Zaa KP;have HHP:=Zaa RdP;clear hWp hal KP LP ZP RdP RowP RulP LVP NGP hPQ hsP HY3 HK3 HRG HNG HHR3 HZ3 HR3 HLV Y2 hne3 hlt3 v0 v1 v2 v3 v4 v5 vs e1;try clear q0 q1 qs HLP
        try clear eqP
        try clear BP
        go_wp2_with fail)
     | (obtain⟨Wp,hWp⟩: ∃ W,(w3.setCell ⟨w2.heap.size+1,0,none⟩ (.bool true)).setCell ⟨w2.heap.size+1,1,none⟩ (.slice pe el.length ce)=W:=⟨_,rfl⟩
        rw[hWp];have hal:decide (y2.text.toList=Zid)=true:=(Yfj (Yfb.1 ga));have KP:Zah b w Wp:=hWp▸(HK3.out.setNew _ _ _ (by omega)).setNew _ _ _ (by omega);have hsP:w3.heap.size<=Wp.heap.size:=by rw[<- hWp];simp
        have eqP: ∀ j,j≠w2.heap.size+1->Wp.heap[j]?=w3.heap[j]?:=fun j hj=>by rw[<- hWp];exact(Ydg _ _ _ j hj).trans (Ydg _ _ _ j hj)
        have LP:Blk Wp (w2.heap.size+1) #[.bool true,.slice pe el.length ce] 187:=hWp▸(HLP.out.set 0 _).set 1 _;have ZP:=ZW.out.keeps KP hg;have RdP:Rd Wp b t r3 x3:=⟨HHR3.out.1.of (eqP b (by omega)),HHR3.out.2⟩;have RowP:=Zag.stable (Zhi.stable (ty:=Zad) 4) _ Wp _ _ _ HR3.out fun j hj=>eqP j (by have:=N1.out.lt j hj;omega);have RulP:=Zag.stable (Zbs.stable (ty:=Zad) 4) _ Wp _ _ _ HRG.out fun j hj=>eqP j (by have:=HNG.out.ge j hj;omega);have LVP:=HLV.out.of (eqP w2.heap.size (by omega));have NGP:Za7 W2.heap.size Wp G:=HNG.out.later (by omega) hsP;have hsp2:W2.heap.size<=Wp.heap.size:=by omega
        have hPQ:Zhi Zad 4 Wp [.bool true,.slice pe el.length ce] ⟨true,el⟩ G:=⟨_,rfl,RulP⟩;have CJ:=Zaa (Zfn (d:=4) (B:=w.heap.size) (m:=24) (k:=y2.at_) ZP RowP hPQ (by omega) (N1.out.later lr (by omega)) (NGP.later (by omega) lr) (fun j hj hj2=>by have:=N1.out.lt j hj;have:=NGP.ge j hj2;omega) (by omega) hle);have Y3:=Zaa (Y2.out.trans (Zas HY3.out));rw[hal]at Y3;obtain⟨s0,s1,ss⟩:=LP.two;have t0:=LVP.six.1;have KKP:=Zaa KP;have HHP:=Zaa RdP;clear hWp hal KP LP ZP RdP RowP RulP LVP NGP hPQ hsP HY3 HK3 HRG HNG HHR3 HZ3 HR3 HLV Y2 hne3 hlt3 v0 v1 v2 v3 v4 v5 vs e1;try clear q0 q1 qs HLP
        try clear eqP
        try clear BP
        go_wp2_with fail)
     | (obtain⟨Wp,hWp⟩: ∃ W,(w3.setCell ⟨w2.heap.size+1,0,none⟩ (.bool false)).setCell ⟨w2.heap.size+1,1,none⟩ (.slice pe el.length ce)=W:=⟨_,rfl⟩
        rw[hWp];have hal:decide (y2.text.toList=Zid)=false:=(Yfg (Ye4.1 ga));have KP:Zah b w Wp:=hWp▸(HK3.out.setNew _ _ _ (by omega)).setNew _ _ _ (by omega);have hsP:w3.heap.size<=Wp.heap.size:=by rw[<- hWp];simp
        have eqP: ∀ j,j≠w2.heap.size+1->Wp.heap[j]?=w3.heap[j]?:=fun j hj=>by rw[<- hWp];exact(Ydg _ _ _ j hj).trans (Ydg _ _ _ j hj)
        have LP:Blk Wp (w2.heap.size+1) #[.bool false,.slice pe el.length ce] 187:=hWp▸(HLP.out.set 0 _).set 1 _;have ZP:=ZW.out.keeps KP hg;have RdP:Rd Wp b t r3 x3:=⟨HHR3.out.1.of (eqP b (by omega)),HHR3.out.2⟩;have RowP:=Zag.stable (Zhi.stable (ty:=Zad) 4) _ Wp _ _ _ HR3.out fun j hj=>eqP j (by have:=N1.out.lt j hj;omega);have RulP:=Zag.stable (Zbs.stable (ty:=Zad) 4) _ Wp _ _ _ HRG.out fun j hj=>eqP j (by have:=HNG.out.ge j hj;omega);have LVP:=HLV.out.of (eqP w2.heap.size (by omega));have NGP:Za7 W2.heap.size Wp G:=HNG.out.later (by omega) hsP;have hsp2:W2.heap.size<=Wp.heap.size:=by omega
        have hPQ:Zhi Zad 4 Wp [.bool false,.slice pe el.length ce] ⟨false,el⟩ G:=⟨_,rfl,RulP⟩;have CJ:=Zaa (Zfn (d:=4) (B:=w.heap.size) (m:=24) (k:=y2.at_) ZP RowP hPQ (by omega) (N1.out.later lr (by omega)) (NGP.later (by omega) lr) (fun j hj hj2=>by have:=N1.out.lt j hj;have:=NGP.ge j hj2;omega) (by omega) hle);have Y3:=Zaa (Y2.out.trans (Zas HY3.out));rw[hal]at Y3;obtain⟨s0,s1,ss⟩:=LP.two;have t0:=LVP.six.1;have KKP:=Zaa KP;have HHP:=Zaa RdP;clear hWp hal KP LP ZP RdP RowP RulP LVP NGP hPQ hsP HY3 HK3 HRG HNG HHR3 HZ3 HR3 HLV Y2 hne3 hlt3 v0 v1 v2 v3 v4 v5 vs e1;try clear q0 q1 qs HLP
        try clear eqP
        try clear BP
        go_wp2_with fail)
    all_goals
     refine CJ.out.mono ?_;rintro e w5 (⟨hE,⟨L',hL,rfl,hB⟩,hb5⟩ | ⟨hne,p',c',F',rfl,hG⟩)
     ·exact⟨rfl,KKP.out.ofBelow hb5,Or.inl ⟨4,_,Y3.out.trans (if_pos hE),by decide,L',by have:=KKP.out.size;omega,rfl,hB⟩⟩
     have K5:=Zaa (Zah.grew hG KKP.out (fun j hj=>N1.out.ge j hj));have hr5:Rd w5 b t r3 x3:=⟨HHP.out.1.of (hG.same b HHP.out.1.lt (fun hj=>by have:=N1.out.ge b hj;omega)),HHP.out.2⟩;have Z5:=Zaa (ZW.out.keeps K5.out hg);have CW:=Zaa (Zjc ⟨#[59]⟩ Z5.out hr5);rw[show(⟨#[59]⟩:ByteArray).toList=[59]from Zla [59]]at CW;have Y4:=Zaa (Y3.out.trans (if_neg hne));have HG:=Zaa hG;have hs5:=hG.size;clear hG hr5 CJ Y3 s0 s1 ss t0;go_wp2_with fail
     refine CW.out.mono ?_;rintro e w6 ⟨hk6,⟨n6,r6,hy,hn6,L',hL,rfl,hB⟩ | ⟨v,u,x6,r6,hy,rfl,hv,hr6⟩⟩
     ·exact⟨rfl,K5.out.trans hk6,Or.inl ⟨n6,r6,Y4.out.trans (Zai hy),hn6,L',by have:=K5.out.size;omega,rfl,hB⟩⟩
     obtain rfl:v= .tuple #[]:=hv;have R6:=Zaa (Yda (Zag.stable (Zhi.stable (ty:=Zad) 4) _ w6 _ _ _ HG.out.row fun j hj=>hk6.block j (HG.out.new.lt j hj) (by have:=HG.out.new.ge j hj;omega)) (Yda (HG.out.new.later lr hk6.size) (Yda (show Zpi a b w t w6 r6 x6 from⟨hr6,K5.out.trans hk6,Z5.out.keeps hk6 hg,Zlb ht hy⟩) (Y4.out.trans (Zas hy)))));clear hk6 hy hr6 CW HG;go_wp2_with fail
     first | exact⟨⟨l++[⟨true,el⟩],F',p',c',x6,r6,by simp,by simp;omega,by simpa using R6.out.1,R6.out.2.1,R6.out.2.2.1,by rw[<- R6.out.2.2.2.symm];congr 1;simp;omega⟩,by simp[Zmd];omega⟩ | exact⟨⟨l++[⟨false,el⟩],F',p',c',x6,r6,by simp,by simp;omega,by simpa using R6.out.1,R6.out.2.1,R6.out.2.2.1,by rw[<- R6.out.2.2.2.symm];congr 1;simp;omega⟩,by simp[Zmd];omega⟩
  ·have Y1:=Zaa (HY.out.symm.trans (Z9s he hv));have g1:(y.text.toList==[97,108,108,111,119])=false:=by rw[Ye4];exact fun z=>hv (Or.inl z)
   have g2:(y.text.toList==[100,101,110,121])=false:=by rw[Ye4];exact fun z=>hv (Or.inr z)
   have z2:=D1.out.2.2.1.c2;have C2:=Zaa (Zbf a (n:=2) (by decide) D1.out.1);clear hv;go_wp2_with fail
   refine C2.out.mono ?_;rintro e w2 ⟨⟨L,hL,rfl,hB⟩,hb⟩;exact⟨rfl,D1.out.2.1.ofBelow hb,Or.inl ⟨2,_,Y1.out,by decide,L,by have:=D1.out.2.1.size;omega,rfl,hB⟩⟩
end Go.P
