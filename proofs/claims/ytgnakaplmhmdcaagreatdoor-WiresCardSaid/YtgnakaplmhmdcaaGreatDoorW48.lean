import Derived.Test.YtgnakaplmhmdcaaGreatDoorW47
set_option maxRecDepth 100000
set_option maxHeartbeats 8000000
set_option linter.unusedSimpArgs false
open Go.Proofs Go.RowKit Go.W
namespace Go.W
def Z7i:ByteArray:=⟨#[114,105,103,104,116,40,34,97,34,41,59,32,109,97,121,40,36,120,41,32,60,45,32,114,105,103,104,116,40,36,120,41,59]⟩
def Z7n:ByteArray:=⟨#[99,104,101,99,107,32,105,102,32,109,97,121,40,34,97,34,41,44,32,116,105,109,101,40,36,116,41,44,32,36,116,32,60,32,64,53,59]⟩
def Zx8:ByteArray:=⟨#[97,108,108,111,119,32,105,102,32,109,97,121,40,34,97,34,41,59]⟩
theorem eqB:Zca Z7i (Zei Z7i)= .ok bkB:=by kernel_rfl
theorem eqC:Zca Z7n (Zei Z7n)= .ok bkC:=by kernel_rfl
theorem eqP:Zca Zx8 (Zdg Zx8)= .ok [Z9y]:=by kernel_rfl
end Go.W
namespace Go.P
section
variable {a:Nat->Addr} {w:World}
theorem Zvd {t:ByteArray}{x:Bk}(ht:t.size < 1000000000)(hx:Zca t (Zei t)= .ok x)(Z:Zap a w)(E:Zpm a w):Calls Tryz.prog 11 #[.string t] w fun e w'=> ∃ p c p1 c1 p2 c2 q,e= .returned (.tuple #[.agg #[.slice p x.facts.length c,.slice p1 x.rules.length c1,.slice p2 x.checks.length c2],.int .i64 0,.int .i64 q])/\Zbk w'.heap.size w' 3 [.slice p x.facts.length c,.slice p1 x.rules.length c1,.slice p2 x.checks.length c2] x/\Below w.heap.size w w':=by
 refine(Zqv t ht Z E).mono ?_;rintro e w' ⟨s,m,q,rfl,hk,hb⟩;rcases hk with⟨⟨er,h⟩,_⟩ | ⟨rfl,y,F,h2,h3,h4⟩
 ·rw[hx]at h;cases h
 ·rw[hx]at h2;cases h2;have hS:=Zba.toS h3 h4.lt;obtain⟨p,c,p1,c1,p2,c2,e1,_⟩:=id hS;have e2:sl3 s=#[.slice p x.facts.length c,.slice p1 x.rules.length c1,.slice p2 x.checks.length c2]:=by rw[<- Array.toArray_toList (xs:=sl3 s),e1]
  exact⟨p,c,p1,c1,p2,c2,q,by rw[e2],e1▸hS,hb⟩
theorem Z49 (Z:Zap a w)(E:Zpm a w):Calls Tryz.prog 12 #[.string Zx8] w fun e w'=> ∃ p c q,e= .returned (.tuple #[.slice p 1 c,.int .i64 0,.int .i64 q])/\Zao 2 (Zjs w'.heap.size w' 4) p [Z9y]/\Below w.heap.size w w':=by
 refine(Zue Zx8 (by decide) Z E).mono ?_;rintro e w' ⟨v,m,q,rfl,hk,hb⟩;rcases hk with⟨⟨er,h⟩,_⟩ | ⟨rfl,y,F,h2,h3,h4⟩
 ·rw[eqP]at h;cases h
 ·rw[eqP]at h2;cases h2;obtain⟨p,c,rfl,_,hr⟩:=Zag.rowOf (Q':=Zjs w'.heap.size w' 4) h3 h4.lt fun _ _ _ _ _ hcc hbb hG q=>Zg9.at_ q hG hbb hcc;exact⟨p,c,q,rfl,hr,hb⟩
theorem Z1t (V:Zbe)(CL:Zb5)(Z:Zap a w)(E:Zpm a w):Calls Tryz.prog 5 #[] w fun e w'=>e= .returned (.bool true)/\Below w.heap.size w w':=by
 have C1:=Zaa (fun u (hu:Below w.heap.size w u)=>Zvd (by decide) eqB (Z.below hu) (E.below hu));have C2:=Zaa (fun u (hu:Below w.heap.size w u)=>Zvd (by decide) eqC (Z.below hu) (E.below hu));have C3:=Zaa (fun u (hu:Below w.heap.size w u)=>Z49 (Z.below hu) (E.below hu));have C4:=Zaa (fun u (hu:Below w.heap.size w u) (vs:List Value) (hS:Zbk u.heap.size u 3 vs bkB)=>Z24 V (Z.below hu) lr hS);have C5:=Zaa (fun u (hu:Below w.heap.size w u) (iB:Zz0 bkB) (p:Option Addr) (c:Nat) (hr:Zao 3 (Zcy u.heap.size u 4) p [bkC])=>Z5g V CL (Z.below hu) lr iB (c:=c) hr);have C6:=Zaa (fun u (hu:Below w.heap.size w u) (iB:Zz0 bkB) (iC:Zz0 bkC) (p:Option Addr) (c:Nat) (hr:Zao 2 (Zjs u.heap.size u 4) p [Z9y])=>Z31 V CL (Z.below hu) lr iB iC (cp:=c) hr);simp only[show bkB.facts.length=1 from rfl,show bkB.rules.length=1 from rfl,show bkB.checks.length=0 from rfl,show bkC.facts.length=0 from rfl,show bkC.rules.length=0 from rfl,show bkC.checks.length=1 from rfl]at C1 C2;clear Z E;go_enter Tryz.func5,Tryz.ntmps5
 go_wp2_with fail
 refine(C1.out _ (Yct _ _)).mono ?_;rintro e w1 ⟨pf,cf,pr,cr,pk,ck,q,rfl,hS1,hb1⟩;have iB:=hS1.inBk (by omega);have S1:=Zaa hS1;have b1:=Zaa hb1;clear hS1 hb1;go_wp2_with fail
 have N1:=Zaa (Blk.new w1 #[.slice pf 1 cf,.slice pr 1 cr,.slice pk 0 ck] 38);have b1':=Zaa (b1.out.alloc b1.out.size (.cells #[.slice pf 1 cf,.slice pr 1 cr,.slice pk 0 ck] 38));have S1':=Zaa (Zbk.carry S1.out (Zfd (.cells #[.slice pf 1 cf,.slice pr 1 cr,.slice pk 0 ck] 38) lr));generalize w1.alloc (.cells #[.slice pf 1 cf,.slice pr 1 cr,.slice pk 0 ck] 38)=W1 at*;refine(C2.out _ b1'.out).mono ?_;rintro e w2 ⟨qf,df,qr,dr,qk,dk,q2,rfl,hS2,hb2⟩;have iC:=hS2.inBk (by omega);have S2:=Zaa hS2;have N2:=Zaa (N1.out.of (hb2.block _ N1.out.lt));have s1:=Zaa (Zbk.carry S1'.out (Za6 hb2 (by have:=N1.out.lt;omega)));have b2:=Zaa (b1'.out.trans (hb2.mono b1'.out.size));have z2:w1.heap.size < w2.heap.size:=Ycz N1.out.lt hb2.size;clear hS2 hb2 b1 S1 N1 b1' S1';go_wp2_with fail
 have b2':=Zaa (b2.out.alloc b2.out.size (.cells #[.slice qf 0 df,.slice qr 0 dr,.slice qk 1 dk] 38));have NB:=Zaa (N2.out.alloc (.cells #[.slice qf 0 df,.slice qr 0 dr,.slice qk 1 dk] 38));have NC:=Zaa (Blk.new w2 #[.slice qf 0 df,.slice qr 0 dr,.slice qk 1 dk] 38);have SB:=Zaa (Zbk.carry s1.out (Zfd (.cells #[.slice qf 0 df,.slice qr 0 dr,.slice qk 1 dk] 38) (Nat.le_of_lt z2)));have SC:=Zaa (Zbk.carry S2.out (Zfd (.cells #[.slice qf 0 df,.slice qr 0 dr,.slice qk 1 dk] 38) lr));generalize w2.alloc (.cells #[.slice qf 0 df,.slice qr 0 dr,.slice qk 1 dk] 38)=W2 at*;refine(C3.out _ b2'.out).mono ?_;rintro e w3 ⟨pp,cp,q3,rfl,hP,hb3⟩;have HA:Box (∀ u,Below w3.heap.size w3 u->(u.cell? ⟨w1.heap.size,0,none⟩=some (.slice pf 1 cf)/\u.cell? ⟨w1.heap.size,1,none⟩=some (.slice pr 1 cr)/\u.cell? ⟨w1.heap.size,2,none⟩=some (.slice pk 0 ck))/\(u.cell? ⟨w2.heap.size,0,none⟩=some (.slice qf 0 df)/\u.cell? ⟨w2.heap.size,1,none⟩=some (.slice qr 0 dr)/\u.cell? ⟨w2.heap.size,2,none⟩=some (.slice qk 1 dk))/\Zbk u.heap.size u 3 [.slice pf 1 cf,.slice pr 1 cr,.slice pk 0 ck] bkB/\Zbk u.heap.size u 3 [.slice qf 0 df,.slice qr 0 dr,.slice qk 1 dk] bkC/\Zao 2 (Zjs u.heap.size u 4) pp [Z9y]/\Below w.heap.size w u):=⟨fun u hu=>by
  have h3:=hb3.size;have h4:=hu.size;have hl:=NC.out.lt;have hW:Below W2.heap.size W2 u:=hb3.trans (hu.mono h3);have x1:=(NB.out.of (hW.block _ NB.out.lt)).three;have x2:=(NC.out.of (hW.block _ NC.out.lt)).three;have z1:=hW.size;exact⟨⟨x1.1,x1.2.1,x1.2.2.1⟩,⟨x2.1,x2.2.1,x2.2.2.1⟩,Zbk.carry SB.out (Go.W.Below.carry (hW.mono (by omega)) (by omega)),Zbk.carry SC.out (Go.W.Below.carry (hW.mono (by omega)) (by omega)),hP.carry fun _ _ _ r=>r.carry (Go.W.Below.carry hu h4) lr,b2'.out.trans (hW.mono b2'.out.size)⟩⟩
 obtain⟨⟨y0,y1,y2⟩,⟨x0,x1,x2⟩,_⟩:=HA.out w3 (Yct _ _);clear hP hb3;go_wp2_with fail
 refine(C4.out _ (HA.out w3 (Yct _ _)).2.2.2.2.2 _ (HA.out w3 (Yct _ _)).2.2.1).mono ?_;rintro e w4 ⟨rfl,hb4⟩;have H4:=Zaa hb4;obtain⟨⟨y0,y1,y2⟩,⟨x0,x1,x2⟩,_⟩:=HA.out w4 hb4;clear hb4;generalize ht:Z61=tA;go_wp2_with fail
 have B4:Below w4.heap.size w4 (w4.alloc (.cells #[.slice qf 0 df,.slice qr 0 dr,.slice qk 1 dk] 38)):=(Yct _ w4).alloc lr _;have M4:=Blk.new w4 #[.slice qf 0 df,.slice qr 0 dr,.slice qk 1 dk] 38;generalize w4.alloc (.cells #[.slice qf 0 df,.slice qr 0 dr,.slice qk 1 dk] 38)=W4 at*;have H4':=Zaa (H4.out.trans (B4.mono H4.out.size));have R4:Zao 3 (Zcy W4.heap.size W4 4) (some ⟨w4.heap.size,0,none⟩) [bkC]:=Z22 (Zbk.at (HA.out W4 H4'.out).2.2.2.1 (Zcw.up lr) M4.lt fun j _=>by rw[Ydp];exact(M4.cell j).trans (Ydq ..));refine(ht▸C5.out _ (HA.out W4 H4'.out).2.2.2.2.2 iB _ 1 R4).mono ?_;rintro e w5 ⟨rfl,hb5⟩;have H5:=Zaa (H4'.out.trans (hb5.mono H4'.out.size));obtain⟨⟨y0,y1,y2⟩,⟨x0,x1,x2⟩,_⟩:=HA.out w5 H5.out;clear hb5 R4 M4 B4 H4';generalize ht':Z46=tB;go_wp2_with fail
 refine(ht'▸C6.out _ (HA.out w5 H5.out).2.2.2.2.2 iB iC _ cp (HA.out w5 H5.out).2.2.2.2.1).mono ?_;rintro e w6 ⟨rfl,hb6⟩;have H6:=Zaa (H5.out.trans (hb6.mono H5.out.size));obtain⟨⟨y0,y1,y2⟩,⟨x0,x1,x2⟩,_⟩:=HA.out w6 H6.out;clear hb6;go_wp2_with fail
 go_ret
 exact⟨rfl,(HA.out w6 H6.out).2.2.2.2.2⟩
end
end Go.P
namespace Go.P
variable {w:World}
structure Wir (L:Nat) (w:World) (pb:Option Addr) (nb cb:Nat) (py:Option Addr) (ny cy:Nat) (bs:List Bk) (ys:List ByteArray):Prop where
 lt:L < w.heap.size
 b0:w.cell? ⟨L,0,none⟩=some (.slice pb nb cb)
 y0:w.cell? ⟨L,4,none⟩=some (.slice py ny cy)
 eb:bs.length=nb
 ey:ys.length=ny
 lb:nb<=65536
 ly:ny<=65536
 rb:Zao 3 (Zcy w.heap.size w 4) pb bs
 ry:Zao 1 (fun b o (y:ByteArray)=>b < w.heap.size/\w.cell? ⟨b,o,none⟩=some (.string y)) py ys
 gb: ∀ x,x∈bs-> ∃ t,Zca t (Zei t)= .ok x
 gy: ∀ y,y∈ys->y.size<=65536
theorem Kp.wir {L n:Nat}{u:World}(h:Kp L u n)(hn:n<=65536)(hb:Below u.heap.size u w): ∃ pb nb cb py ny cy bs ys,Wir L w pb nb cb py ny cy bs ys:=by
 obtain⟨vb,vp,vk,vc,vy,vr,vd,bs,ys,rs,ds,Fb,Fy,Fr,Fd,H0,_,_,_,l1,l2,l3,l4,l5,l6⟩:=h;have H:=H0.later hb;obtain⟨pb,cb,rfl,_,rb⟩:=Zag.rowOf (Q':=Zcy w.heap.size w 4) H.rb H.nb.lt fun _ _ _ _ _ hcc hbb hG q=>Zba.at_ q hG hbb hcc;obtain⟨py,cy,rfl,_,ry⟩:=Zag.rowOf (Q':=fun b o (y:ByteArray)=>b < w.heap.size/\w.cell? ⟨b,o,none⟩=some (.string y)) H.ry H.ny.lt fun b o vs y _ hcc hbb _ q=>by
  obtain⟨_,rfl⟩:=q;exact⟨hbb,hcc 0 (by omega)⟩
 exact⟨pb,_,cb,py,_,cy,bs,ys,H.blk.lt,H.blk.cell 0,H.blk.cell 4,rfl,rfl,by omega,by omega,rb,ry,l5,l6⟩
theorem Z42 {x:Bk}(h:Zby x=0):Zh8 x=4\/Zh8 x=0/\Zeh x=Zdx x/\(Zdx x).size<=4000:=by
 by_cases hs:4000 < (Zdx x).size
 ·exact .inl (by simp[Zh8,h,hs])
 ·have:Zh8 x=0:=by simp[Zh8,h,hs]
  exact .inr ⟨this,if_pos this,by omega⟩
def Z7k (w:World) (n:Nat) (iv:Value) (wr:World):Prop:= ∃ k:Nat,k<=n/\iv= .int .i64 (k:Int)/\Below w.heap.size w wr
theorem Z19 {a:Nat->Addr}{p:Option Addr}{c:Nat}{xs:List (Int×Int×ByteArray)}(V:Zbe)(CL:Zb5)(h:Z6q w p xs)(hl:xs.length < 140737488355328)(Z:Zap a w)(E:Zpm a w):Calls Tryz.prog 3 #[.slice p xs.length c] w fun e w'=>e= .returned (.bool true)/\Below w.heap.size w w':=by
 have CT:=Zaa (Z48 (c:=c) h hl Z E);have CA:=Zaa (fun u (hu:Below w.heap.size w u)=>Z1t V CL (Z.below hu) (E.below hu));have CE:=Zaa (fun u (hu:Below w.heap.size w u) vs x (hS:Zbk u.heap.size u 3 vs x)=>Zvt V (Z.below hu) (E.below hu) lr hS);have CD:=Zaa (fun u (hu:Below w.heap.size w u) (l:By) (hl:l.length < 1000000000)=>Zxh V CL hl (Z.below hu) (E.below hu));clear h Z E V CL;go_enter Tryz.func3,Tryz.ntmps3
 go_wp2_with fail
 refine CT.out.mono ?_;rintro e w1 (⟨rfl,rfl⟩ | ⟨rfl,hk,hn,hb1⟩)
 ·clear CT CA CE CD;go_wp2_with fail
  go_ret
  exact⟨rfl,Yct _ _⟩
 have B1:=Zaa hb1;have HK:=Zaa (Ycs hk hn);clear hk hn hb1 CT;go_wp2_with fail
 refine(CA.out _ B1.out).mono ?_;rintro e w2 ⟨rfl,hb2⟩;obtain⟨pb,nb,cb,py,ny,cy,bs,ys,hw⟩:=HK.out.1.wir HK.out.2 hb2;have B2:=Zaa (B1.out.trans (hb2.mono B1.out.size));have HW:=Zaa hw;have hlb:=hw.lb;have hly:=hw.ly;have HC:=Zaa (fun u (hu:Below w2.heap.size w2 u)=>Ycs (Zac hw.b0 hu) (Zac hw.y0 hu));clear hw hb2 HK CA B1;go_wp2_with fail
 go_loopw [5] (fun iv wr=>Z7k w2 nb iv wr) (fun iv _=>nb - (intOf iv).toNat)
 case atStart=>exact⟨0,by omega,rfl,Yct _ _⟩
 case round=>
  obtain⟨k,hk,rfl,hbw⟩:=hrel;have HB:=Zaa hbw;obtain⟨k0,k4⟩:=HC.out wr hbw;clear hbw;by_cases hlt:k < nb
  ·have hlt':k < bs.length:=by rw[HW.out.eb];exact hlt
   obtain⟨b,o,rfl,hx⟩:=HW.out.rb.get k hlt';obtain⟨tx,htx⟩:=HW.out.gb bs[k] (Yd3 hlt');have hr:=Zaa (Zvv htx);obtain⟨_,p1,c1,p2,c2,p3,c3,x0,x1,x2,hS⟩:=hx.vals;have HX:=Zaa (fun u (hu:Below w2.heap.size w2 u)=>Ycs (Zac x0 hu) (Ycs (Zac x1 hu) (Zac x2 hu)));have HS:=Zaa (fun u (hu:Below w2.heap.size w2 u)=>Zbk.carry hS (Go.W.Below.carry hu hu.size));have HA:=Zaa (fun u (hu:Below w2.heap.size w2 u)=>hx.carry (Go.W.Below.carry hu hu.size) lr);have iB:=Zaa (hS.inBk (by omega));clear x0 x1 x2 hS hx htx;generalize bs[k]=x at*;obtain⟨y0,y1,y2⟩:=HX.out wr HB.out;go_wp2_with fail
   refine(CE.out _ (B2.out.trans (HB.out.mono B2.out.size)) _ _ (HS.out _ HB.out)).mono ?_;rintro e w3 ⟨rfl,hb3⟩;have B3:=Zaa (HB.out.trans (hb3.mono HB.out.size));clear hb3 y0 y1 y2 k0 k4;rcases Z42 hr.out with hN | ⟨hN,hT,hz⟩
   ·rw[hN];generalize Zeh x=t at*;go_wp2_with fail
    exact⟨⟨k+1,by omega,by go_num,B3.out⟩,by simp[intOf];omega⟩
   have CX:=Zaa (CD.out w3 (B2.out.trans (B3.out.mono B2.out.size)) (bl (Zdx x)) (by rw[Zew];omega));rw[Zs7,Zre hr.out iB.out hz]at CX;rw[hN,hT];clear hN hT hz;generalize Zdx x=t at*;go_wp2_with fail
   refine CX.out.mono ?_;rintro e w4 ⟨⟨⟨q1,e1,d1⟩,⟨q2,e2,d2⟩,q3,e3,d3⟩,m,rfl,hk4,hb4⟩;rcases hk4 with⟨⟨_,h⟩,_⟩ | ⟨rfl,x',F,h,hO,hF⟩
   ·cases h
   cases h;have B4:=Zaa (B3.out.trans (hb4.mono B3.out.size));have HO:=Zaa (Zba.toS hO hF.lt);have k0:=fun ob=>(HC.out (w4.alloc ob) (B4.out.alloc B4.out.size ob)).1;clear CX hO hF hb4;simp only[sl3]at HO⊢;go_wp2_with fail
   have M:=Blk.new w4 #[.slice q1 e1 d1,.slice q2 e2 d2,.slice q3 e3 d3] 38;have hcar:=Go.W.Below.carry (B':=(w4.alloc (.cells #[.slice q1 e1 d1,.slice q2 e2 d2,.slice q3 e3 d3] 38)).heap.size) ((Yct w4.heap.size w4).alloc lr (.cells #[.slice q1 e1 d1,.slice q2 e2 d2,.slice q3 e3 d3] 38)) (by simp);have B5:=Zaa (B4.out.alloc B4.out.size (.cells #[.slice q1 e1 d1,.slice q2 e2 d2,.slice q3 e3 d3] 38));clear k0;generalize w4.alloc (.cells #[.slice q1 e1 d1,.slice q2 e2 d2,.slice q3 e3 d3] 38)=W5 at*;refine(Zsl (D:=2) lr (HA.out W5 B5.out) (Zbk.at HO.out hcar M.lt fun j _=>by rw[Ydp];exact(M.cell j).trans Array.getElem?_toList.symm)).mono ?_;rintro e w6 ⟨rfl,hb6⟩;have B6:=Zaa (B5.out.trans (hb6.mono B5.out.size));clear hb6 hcar M;go_wp2_with fail
   exact⟨⟨k+1,by omega,by go_num,B6.out⟩,by simp[intOf];omega⟩
  ·obtain rfl:k=nb:=by omega
   go_wp2_with fail
   obtain⟨wo,rfl⟩: ∃ wo,wo=wr:=⟨_,rfl⟩;go_loopw [11] (fun iv u=>Z7k w2 ny iv u) (fun iv _=>ny - (intOf iv).toNat)
   case atStart=>exact⟨0,by omega,rfl,HB.out⟩
   case round=>
    obtain⟨m,hm,rfl,hbu⟩:=hrel;have HU:=Zaa hbu;obtain⟨k0,k4⟩:=HC.out wr hbu;clear hbu;by_cases hml:m < ny
    ·have hml':m < ys.length:=by rw[HW.out.ey];exact hml
     obtain⟨b,o,rfl,_,y0⟩:=HW.out.ry.get m hml';rw[Nat.mul_one]at y0;have hys:=HW.out.gy ys[m] (Yd3 hml');have HY:=Zaa (fun u (hu:Below w2.heap.size w2 u)=>Zac y0 hu);clear y0;generalize ys[m]=y at*;have y0:=HY.out wr HU.out;have CX:=Zaa (CD.out wr (B2.out.trans (HU.out.mono B2.out.size)) (bl y) (by rw[Zew];omega));rw[Zs7]at CX;go_wp2_with fail
     refine CX.out.mono ?_;rintro e w4 ⟨⟨⟨q1,e1,d1⟩,⟨q2,e2,d2⟩,q3,e3,d3⟩,n,rfl,hk4,hb4⟩;have B4:=Zaa (HU.out.trans (hb4.mono HU.out.size));clear CX hb4 k0 k4 y0;simp only[sl3];go_wp2_with fail
     have hcar:=Go.W.Below.carry (B':=(w4.alloc (.cells #[.slice q1 e1 d1,.slice q2 e2 d2,.slice q3 e3 d3] 38)).heap.size) ((Yct w4.heap.size w4).alloc lr (.cells #[.slice q1 e1 d1,.slice q2 e2 d2,.slice q3 e3 d3] 38)) (by simp);have B5:=Zaa (B4.out.alloc B4.out.size (.cells #[.slice q1 e1 d1,.slice q2 e2 d2,.slice q3 e3 d3] 38));generalize w4.alloc (.cells #[.slice q1 e1 d1,.slice q2 e2 d2,.slice q3 e3 d3] 38)=W5 at*;rcases hk4 with⟨_,hn0,hs0⟩ | ⟨rfl,x,F,hx,hO,hF⟩
     ·cases hs0;have hn':(n==0)=false:=by simpa using hn0
      refine(CE.out _ (B2.out.trans (B5.out.mono B2.out.size)) [.slice none 0 0,.slice none 0 0,.slice none 0 0] ⟨[],[],[]⟩ ⟨none,0,none,0,none,0,rfl,Ydu _,Zjf,Ydu _,Zjf,Ydu _,Zjf⟩).mono ?_;rintro e w6 ⟨rfl,hb6⟩;have B6:=Zaa (B5.out.trans (hb6.mono B5.out.size));clear hb6 hcar;generalize Zeh ⟨[],[],[]⟩=t at*;generalize Zh8 ⟨[],[],[]⟩=nn at*;go_wp2_with fail
      exact⟨⟨m+1,by omega,by go_num,B6.out⟩,by simp[intOf];omega⟩
     ·obtain⟨g1,g2,g3⟩:=Zzd hx;rw[Zs7]at g1;rw[Zew]at g3;have hE:Zh8 x=0/\Zeh x=y:=by
       rcases Z42 g2 with h | ⟨h1,h2,_⟩
       ·have: ¬ 4000 < (Zdx x).size:=by rw[g1];omega
        simp[Zh8,g2,this]at h
       ·exact⟨h1,h2.trans g1⟩
      have CX:=CE.out _ (B2.out.trans (B5.out.mono B2.out.size)) _ x (Zbk.carry (Zba.toS hO hF.lt) hcar);rw[hE.1,hE.2]at CX;refine CX.mono ?_;rintro e w6 ⟨rfl,hb6⟩;have B6:=Zaa (B5.out.trans (hb6.mono B5.out.size));obtain⟨k0,k4⟩:=HC.out w6 B6.out;have y0:=HY.out w6 B6.out;clear hb6 hcar hE g1 g2 g3 hx hO hF CX;go_wp2_with fail
      exact⟨⟨m+1,by omega,by go_num,B6.out⟩,by simp[intOf];omega⟩
    ·obtain rfl:m=ny:=by omega
     go_wp2_with fail
     go_ret
     exact⟨rfl,B2.out.trans (HU.out.mono B2.out.size)⟩
end Go.P
