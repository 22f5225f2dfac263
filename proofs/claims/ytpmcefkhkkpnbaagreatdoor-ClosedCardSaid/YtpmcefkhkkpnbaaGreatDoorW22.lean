import Derived.Test.YtpmcefkhkkpnbaaGreatDoorW21
set_option linter.all false
set_option maxRecDepth 100000
set_option maxHeartbeats 8000000
open Go.Proofs Go.RowKit Go.W Tryz
namespace Go.W
variable {s:Ay}
theorem Yj1 {k:Nat}{m:Ay}(hk:MV[k]?=some m)(h0: ∀ j m',j<k->MV[j]?=some m'->m'≠s)(h1:m=s):SY s=k+1:=by
 have:MV.findIdx? (fun m=>decide (m=s))=some k:=by
  rw[List.findIdx?_eq_some_iff_getElem];refine⟨(DW.1 hk).1,by rw[(DW.1 hk).2];exact Nv h1,?_⟩;intro j hj;have hl:j<MV.length:=Nat.lt_trans hj (DW.1 hk).1
  have:=h0 j MV[j] hj<|A8 hl
  simpa using this
 unfold SY;rw[this]
theorem Yj2 (h0: ∀ j m',j<7->MV[j]?=some m'->m'≠s):SY s=0:=by
 have:MV.findIdx? (fun m=>decide (m=s))=none:=by
  rw[List.findIdx?_eq_none_iff];intro m hm;obtain⟨j,hj,rfl⟩:=List.getElem_of_mem hm
  have:=h0 j MV[j] hj<|A8 hj
  simpa using this
 unfold SY;rw[this]
theorem Yit (s:Ay):SY s<=7:=by
 unfold SY;split
 .rename_i i h
  have:=(List.findIdx?_eq_some_iff_getElem.1 h).1
  simp[MV]at this;omega
 .omega
variable {a:Nat->Addr}{w:Bb}
theorem AZ.ops (h:AZ a w)(i:Nat)(s:Ay)(hs:MV[i]?=some s):w.cell? (zm 17 i)=some (um s):=by
 obtain⟨_,h0,h1⟩:=h;exact(h1 _ _ zu).2.trans<|h0.ops i s hs
theorem Ygf (k:Nat)(h:k<7): ∃ m,MV[k]?=some m/\ ∀ w,(Instr.index 401 (.agg #[.string<|MQ 1,.string<|MQ 2,.string<|MQ 3,.string<|MQ 4,.string<|MQ 5,.string<|MQ 6,.string<|MQ 7])<|zo (k:Int)).run prog w= .ok (um m) w:=by
 have g:k=0\/k=1\/k=2\/k=3\/k=4\/k=5\/k=6:=zx
 rcases g with rfl | rfl | rfl | rfl | rfl | rfl | rfl;all_goals exact⟨_,rfl,fun _=>zt⟩
def Yjm (w:Bb) (s:Ay) (iv:Value) (wr:Bb):Prop:= ∃ k:Nat,k<=7/\iv= zo (k:Int)/\wr=w/\ ∀ j m',j<k->MV[j]?=some m'->m'≠s
theorem Z0l (Z:AZ a w)(s:Ay):Calls prog 250 #[um s] w fun e w'=>e=uY (zo (SY s:Nat))/\w'=w:=by
 have m0:=Z.ops 0 _ rfl;have m1:=Z.ops 1 _ rfl;have m2:=Z.ops 2 _ rfl;have m3:=Z.ops 3 _ rfl;have m4:=Z.ops 4 _ rfl;have m5:=Z.ops 5 _ rfl;have m6:=Z.ops 6 _ rfl;clear Z;go_in
 go_wp2_with fail
 clear m0 m1 m2 m3 m4 m5 m6;go_loopw [6] (fun iv wr=>Yjm w s iv wr) (fun iv _=>7-xJ iv)
 .exact⟨0,zx,rfl,rfl,fun j _ hj=>absurd hj zx⟩
 .obtain⟨k,hk,rfl,rfl,hall⟩:=hrel;have A:=AC hall;clear hall;by_cases hlt:k<7
  .obtain⟨m,hm,ik⟩:=Ygf k hlt;have g:(k:Int)<7:=zx
   by_cases he:m=s
   .have Y:=AC<|Yj1 hm A.o he;have g2:(m.toList==s.toList)=true:=by rw[vo];exact Nv he
    clear hm A he;go_wp2
    go_ret
    rw[Y.o];exact⟨zw,rfl⟩
   .have g2:(m.toList==s.toList)=false:=by rw[vo];exact I8 he
    have S:AF (∀ j m',j<k+1->MV[j]?=some m'->m'≠s):=⟨fun j m' hj Yb=>by
     by_cases hjk:j=k
     .subst hjk;rw[hm]at Yb;cases Yb;exact he
     .exact A.o j m' zx Yb⟩
    clear hm A he;go_wp2
    exact⟨⟨k+1,zx,zw,rfl,S.o⟩,by simp[xJ];omega⟩
  .obtain rfl:k=7:=zx
   have Y:=AC<|Yj2 A.o;go_wp2
   go_ret
   rw[Y.o];exact⟨rfl,rfl⟩
variable {b p:Nat}{t:Ay}{x:Tk}
theorem Ycb (x:Tk)(u:Bb):(Instr.field 180 (.agg #[zo (x.at_:Int),um x.text,zo x.k,zo x.i,um x.s,zn]) 1).run prog u= .ok (um x.text) u:=zt
theorem Yii (x:Tk)(u:Bb):(Instr.field 180 (.agg #[zo (x.at_:Int),um x.text,zo x.k,zo x.i,um x.s,zn]) 0).run prog u= .ok (zo (x.at_:Int)) u:=zt
theorem Zym (Z:AZ a w)(h:Rd w b t p x)(hx:Jr x):
  Calls prog 135 #[zq b 0] w (JO a b t (Ie (Bz AV 4) w.heap.size) w<|VT t x p):=by
 have hg:=h.2.2.2;have ht:=h.2.1;have hb:=h.1.lt;have L0:=AC<|AO.new w #[sE,zn] 64;have K0:=AC<|(Ad.refl b w).alloc<|.cells #[sE,zn] 64;have H0:=AC<|h.alloc<|.cells #[sE,zn] 64;have Z0:=AC<|Z.be<|(AR _ w).alloc lr<|.cells #[sE,zn] 64;obtain⟨c0,c1,c2,c3,c4,c5,c6,c7,sf⟩:=H0.o.1.eight;have CW:=AC<|Ztr x hx.1<|w.alloc<|.cells #[sE,zn] 64;have CK:=AC<|Z5t x.text;unfold Jc at CW;clear Z h;go_in
 go_wp2_with fail
 apply mq CW.o;rintro w1 hb1;have Dl:=AC<|H0.o.of hb1;have K1:=AC<|K0.o.AU hb1;have Z1:=AC<|Z0.o.be hb1;have L1:=AC<|L0.o.of<|hb1.block _ zw;have hs1:=hb1.size;simp at hs1;clear c0 c1 c2 c3 c4 c5 c6 c7 sf hb1 K0 H0 Z0 L0 CW;obtain⟨c0,c1,c2,c3,c4,c5,c6,c7,sf⟩:=Dl.o.1.eight;by_cases Aq:Nj x.text=true/\kL x.text=false
 .have Y:=AC (show VT t x p=Bf (En t x p) fun _ x1 p1=>Bf (Nk t [40] x1 p1) fun _ x2 p2=>Bf (TN t (Ha t 3) [41] x2 p2) fun l x3 p3=> .ok (⟨x.text,l⟩,x3,p3)from xj Aq);have CT:=AC<|Vg Z1.o Dl.o;have C1:=AC fun u q y (h1:AZ a u) (h2:Rd u b t q y)=>jc ⟨#[40]⟩ h1 h2;have C2:=AC fun u q y (h1:AZ a u) (h2:Rd u b t q y) (h3:Jr y)=>Zue (Zrn 3 zx) ⟨#[41]⟩ h1 h2 h3;rw[show(⟨#[40]⟩:Ay).toList=[40]from ZJ [40]]at C1;rw[show(⟨#[41]⟩:Ay).toList=[41]from ZJ [41],show((3-3:Nat):Int)=0 from rfl]at C2;rw[Aq.2]at CK;rw[Aq.1];clear Aq;go_wp2_with (go_at_call 202;apply(CK.o _).mono;rintro e w' ⟨rfl,rfl⟩)
  apply CT.o.mono;rintro e w2 ⟨hk2,⟨n,r,hy,hn,L,hL,rfl,hB⟩ | ⟨v,y,x2,r2,hy,rfl,hv,hr2⟩⟩
  .exact⟨rfl,K1.o.trans hk2,Or.inl ⟨n,r,Y.o.trans<|Es hy,hn,L,zx,rfl,hB⟩⟩
  obtain rfl:v=Jc y:=hv;obtain⟨hx2,rfl⟩:=Wn ht hy;have Y2:=AC<|Y.o.trans<|Ee hy;have hs2:=hk2.size;have Ao:=AC hr2;have K2:=AC<|K1.o.trans hk2;have Z2:=AC<|Z1.o.keeps hk2 hg;have L2:=AC<|L1.o.of<|hk2.block _ zx zx;clear c0 c1 c2 c3 c4 c5 c6 c7 sf hk2 hr2 hy CT Y Dl K1 Z1 L1;unfold Jc;have fd:=Ycb y;go_wp2_with fail
  clear fd;apply(C1.o _ _ _ Z2.o Ao.o).mono;rintro e w3 ⟨hk3,⟨n,r,hy,hn,L,hL,rfl,hB⟩ | ⟨v,z,x3,r3,hy,rfl,hv,hr3⟩⟩
  .exact⟨rfl,K2.o.trans hk3,Or.inl ⟨n,r,Y2.o.trans<|Es hy,hn,L,zx,rfl,hB⟩⟩
  obtain rfl:v= .tuple #[]:=hv;have hx3:=qI ht hy;have Y3:=AC<|Y2.o.trans<|Ee hy;have hs3:=hk3.size;have Dn:=AC hr3;have K3:=AC<|K2.o.trans hk3;have Z3:=AC<|Z2.o.keeps hk3 hg;have L3:=AC<|L2.o.of<|hk3.block _ zx zx;clear hk3 hr3 hy Y2 Ao K2 Z2 L2;go_wp2_with fail
  apply(C2.o _ _ _ Z3.o Dn.o hx3).mono;rintro e w4 ⟨hk4,⟨n,r,hy,hn,L,hL,rfl,hB⟩ | ⟨v,l,x4,r4,hy,rfl,⟨F,hR,hN⟩,hr4⟩⟩
  .exact⟨rfl,K3.o.trans hk4,Or.inl ⟨n,r,Y3.o.trans<|Es hy,hn,L,zx,rfl,hB⟩⟩
  obtain⟨p1,cc,rfl⟩:=AQ.form hR;have UL:=hk4.size;obtain⟨y0,y1,sy⟩:=(L3.o.of<|hk4.block _ zx zx).two;have R:=AC<|AJ (K3.o.trans hk4)<|AJ hr4<|AJ (Y3.o.trans<|Ee hy)<|AJ hR hN;clear hk4 hr4 hy Y3 Dn K3 Z3 L3 hR hN;go_wp2
  refine Bg (by simp[results,results135,go_sem,y0,y1];try rfl) rfl ?_;obtain⟨hk,hr,hy,hR,hN⟩:=R.o;exact⟨hk.r2 lr,Or.inr ⟨_,⟨y.text,l⟩,x4,r4,hy,rfl,⟨[um y.text,sP p1 l.length cc],F,rfl,⟨_,rfl,hx.1,AQ.sb (BQ.sb (ty:=AV) 4) _ _ _ _ _ hR fun j hj=>uf (fw (hN.ge j hj))⟩,hN.la zx zw⟩,hr.Gz<|uf zx⟩⟩
 .have Y:=AC (show VT t x p= .error (2,x.at_)from xd Aq);have GG:Nj x.text=false\/Nj x.text=true/\kL x.text=true:=by
   cases h1:Nj x.text
   .exact Or.inl rfl
   .cases h2:kL x.text
    .exact absurd ⟨h1,h2⟩ Aq
    .exact Or.inr ⟨rfl,rfl⟩
  have z2:=Z1.o.c2;have C2:=AC<|QM a (n:=2) zu Dl.o;clear Aq;rcases GG with ga | ⟨ga,gb⟩
  case' inr=>rw[gb]at CK
  all_goals
   rw[ga];go_wp2_with (go_at_call 202;apply(CK.o _).mono;rintro e w' ⟨rfl,rfl⟩)
   apply C2.o.mono;rintro e w2 ⟨⟨L,hL,rfl,hB⟩,hb⟩;exact⟨rfl,K1.o.AU hb,Or.inl ⟨2,_,Y.o,zu,L,zx,rfl,hB⟩⟩
theorem Z6b (Z:AZ a w)(h:Rd w b t p x)(hx:Jr x):
  Calls prog 206 #[zq b 0] w (JO a b t (Ie (Eo AV 4) w.heap.size) w<|fJ t x p):=by
 have hg:=h.2.2.2;have ht:=h.2.1;have hb:=h.1.lt;have CT:=AC fun u q y (h1:AZ a u) (h2:Rd u b t q y) (h3:Jr y)=>Zrn 3 zx h1 h2 h3;rw[show((3-3:Nat):Int)=0 from rfl]at CT;obtain⟨O,hO⟩: ∃ O:Obj,O= .cells #[zo 0,zo 0,zo 0,sE,zn,zo 0,zo 0,sE,zn] 97:=⟨_,rfl⟩;have L0:=AC<|AO.new w #[zo 0,zo 0,zo 0,sE,zn,zo 0,zo 0,sE,zn] 97;have K0:=AC<|(Ad.refl b w).alloc O;have H0:=AC<|h.alloc O;have Z0:=AC<|Z.be<|(AR _ w).alloc lr O;have hs0:(w.alloc O).heap.size=w.heap.size+1:=zw
 rw[<- hO]at L0;have CR:=AC fun u q y (h2:Rd u b t q y)=>QM a (n:=2) zu h2;have CK:=AC fun u q y (h1:AZ a u) (h2:Rd u b t q y)=>Vg h1 h2;have CO:=AC fun u (h1:AZ a u) s=>Z0l h1 s;have Y:AF (fJ t x p=Bf (Ha t 3 x p) fun a x1 p1=>if SY x1.text=0 then .error (2,x1.at_)else Bf (En t x1 p1) fun _ x2 p2=>Bf (Ha t 3 x2 p2) fun b x3 p3=> .ok (⟨SY x1.text,a,b⟩,x3,p3)):=⟨rfl⟩;clear Z h;go_in
 go_wp2_with fail
 rw[<- hO];apply(CT.o _ _ _ Z0.o H0.o hx).mono;rintro e w1 ⟨AX,⟨n,r,hy,hn,L,hL,rfl,hB⟩ | ⟨v,z,x1,r1,hy,rfl,⟨vs,F,rfl,hQ,hN⟩,hr1⟩⟩
 .exact⟨rfl,K0.o.trans AX,Or.inl ⟨n,r,Y.o.trans<|Es hy,hn,L,zx,rfl,hB⟩⟩
 obtain⟨p1,cc,rfl⟩:=BQ.vals hQ;have Y1:=AC<|Y.o.trans<|Ee hy;have hs1:=AX.size;have QF:=AC<|AJ hQ hN;have LF:=AC<|AO.new w1 #[zo z.k,zo z.i,um z.t,sP p1 z.l.length cc] 95;have Dl:=AC<|hr1.alloc<|.cells #[zo z.k,zo z.i,um z.t,sP p1 z.l.length cc] 95;have K1:=AC<|(K0.o.trans AX).alloc<|.cells #[zo z.k,zo z.i,um z.t,sP p1 z.l.length cc] 95;have Z1:=AC<|(Z0.o.keeps AX hg).be<|(AR _ w1).alloc lr<|.cells #[zo z.k,zo z.i,um z.t,sP p1 z.l.length cc] 95;have L1:=AC<|(L0.o.of<|AX.block _ zx zx).alloc<|.cells #[zo z.k,zo z.i,um z.t,sP p1 z.l.length cc] 95;clear AX hr1 hy hQ hN Y K0 H0 Z0 L0 hO;obtain⟨c0,c1,c2,c3,c4,c5,c6,c7,sf⟩:=Dl.o.1.eight;go_wp2_with fail
 obtain⟨w2,hw2⟩:=fu (w1.alloc (.cells #[zo z.k,zo z.i,um z.t,sP p1 z.l.length cc] 95));have hs2:w2.heap.size=w1.heap.size+1:=by rw[<- hw2];simp
 have QF2:AF (BQ AV 4 w2 [zo z.k,zo z.i,um z.t,sP p1 z.l.length cc] z F):=⟨BQ.sb (ty:=AV) 4 _ _ _ _ _ QF.o.1 fun j hj=>by rw[<- hw2];exact Ah _ _ _<|QF.o.2.lt j hj⟩;have kZ:=QF.o.2;rw[hw2]at LF Dl K1 Z1 L1 c0 c1 c2 c3 c4 c5 c6 c7 sf⊢;clear hw2 QF;apply(CO.o _ Z1.o _).mono;rintro e w' ⟨rfl,rfl⟩;have ol:=Yit x1.text;generalize SY x1.text=o at*;by_cases ho:o=0
 .have Y2:=AC<|Y1.o.trans<|xj ho;have g1:((o:Int)==0)=true:=by rw[DR];omega
  have z2:=Z1.o.c2;clear ho;go_wp2_with fail
  apply(CR.o _ _ _ Dl.o).mono;rintro e w3 ⟨⟨L,hL,rfl,hB⟩,hb⟩;exact⟨rfl,K1.o.AU hb,Or.inl ⟨2,_,Y2.o,zu,L,zx,rfl,hB⟩⟩
 have Y2:=AC<|Y1.o.trans<|xd ho;have g1:((o:Int)==0)=false:=zj
 clear ho Y1;go_wp2_with fail
 apply(CK.o _ _ _ Z1.o Dl.o).mono;rintro e w3 ⟨hk3,⟨n,r,hy,hn,L,hL,rfl,hB⟩ | ⟨v,y,x3,r3,hy,rfl,hv,hr3⟩⟩
 .exact⟨rfl,K1.o.trans hk3,Or.inl ⟨n,r,Y2.o.trans<|Es hy,hn,L,zx,rfl,hB⟩⟩
 obtain rfl:v=Jc y:=hv;obtain⟨hx3,rfl⟩:=Wn ht hy;have Y3:=AC<|Y2.o.trans<|Ee hy;have hs3:=hk3.size;have Dn:=AC hr3;have K3:=AC<|K1.o.trans hk3;have Z3:=AC<|Z1.o.keeps hk3 hg;have L3:=AC<|L1.o.of<|hk3.block _ zx zx;have LF3:=AC<|LF.o.of<|hk3.block _ zx zx;have QF3:=AC (BQ.sb (ty:=AV) 4 _ _ _ _ _ QF2.o fun j hj=>hk3.block j (fw (kZ.lt j hj)) (fw (kZ.ge j hj)));clear hk3 hr3 hy Y2 Dl K1 Z1 L1 LF QF2 c0 c1 c2 c3 c4 c5 c6 c7 sf;obtain⟨f0,f1,f2,f3,sg⟩:=LF3.o.four;have ZD:=AC Z3.o.drew;have HD:=AC Dn.o.drew;have KD:=AC K3.o.drew;go_wp2
 go_region_with (go_at_call 249;apply(CT.o _ _ _ ZD.o HD.o hx3).mono;rintro e w4 ⟨hk4,⟨n,r,hy,hn,L,hL,rfl,hB⟩ | ⟨v,z4,x4,r4,hy,rfl,⟨vs,F4,rfl,hQ,hN⟩,hr4⟩⟩;(exact⟨rfl,KD.o.trans hk4,Or.inl ⟨n,r,Y3.o.trans<|Es hy,hn,L,(by show _<=L;have:w3.heap.size<=L:=hL;omega),rfl,hB⟩⟩);have LF4:=LF3.o.of (w':=w4)<|hk4.block _ (by show _<w3.heap.size;omega) zx;obtain⟨e0,e1,e2,e3,-⟩:=LF4.four;obtain⟨p4,cc4,rfl⟩:=BQ.vals hQ;have LR:=L3.o.of (w':=w4)<|hk4.block _ (by show _<w3.heap.size;omega) zx;obtain⟨y0,y1,y2,y3,y4,y5,y6,y7,y8,sy⟩:=LR.nine)
 all_goals
  have UL:w3.heap.size<=w4.heap.size:=hk4.size;have QF4:=AC (BQ.sb (ty:=AV) 4 _ w4 _ _ _ QF3.o fun j hj=>hk4.block j (by show j<w3.heap.size;have:=kZ.lt j hj;omega) (fw (kZ.ge j hj)));have R:=AC<|AJ (KD.o.trans hk4)<|AJ hr4<|AJ (Y3.o.trans<|Ee hy)<|AJ hQ hN;clear hk4 hr4 hy Y3 Dn K3 Z3 L3 hQ hN f0 f1 f2 f3 sg QF3 LF3 e0 e1 e2 e3 LF4 ZD HD KD;go_wp2
  refine Bg (by simp[results,results206,go_sem,y0,y1,y2,y3,y4,y5,y6,y7,y8];try rfl) rfl ?_;obtain⟨hk,hr,hy,hQ,hN⟩:=R.o;have hN':Ag w3.heap.size w4 F4:=hN;exact⟨hk.r9 lr,Or.inr ⟨_,⟨(o:Int),z,z4⟩,x4,r4,hy,rfl,⟨[zo (o:Int),zo z.k,zo z.i,um z.t,sP p1 z.l.length cc,zo z4.k,zo z4.i,um z4.t,sP p4 z4.l.length cc4],F++F4,rfl,⟨_,_,F,F4,rfl,⟨by show(-9223372036854775808:Int)<=(o:Int);omega,by show(o:Int)<=9223372036854775807;omega⟩,BQ.sb (ty:=AV) 4 _ _ _ _ _ QF4.o fun j hj=>jZ (fw (kZ.ge j hj)),BQ.sb (ty:=AV) 4 _ _ _ _ _ hQ fun j hj=>jZ (fw (hN'.ge j hj)),rfl⟩,(Ag.append (kZ.la (B':=w.heap.size) (w':=w1) zx lr) hN' zx zx zx).la lr zw⟩,hr.Gz<|jZ zx⟩⟩
end Go.W
