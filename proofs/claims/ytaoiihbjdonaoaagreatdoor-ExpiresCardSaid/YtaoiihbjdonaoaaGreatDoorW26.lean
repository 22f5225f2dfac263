import Derived.Test.YtaoiihbjdonaoaaGreatDoorW25
set_option maxRecDepth 100000
set_option maxHeartbeats 8000000
set_option linter.unusedSimpArgs false
open Go.Proofs Go.RowKit Go.W Tryz
namespace Go.W
variable {s:ByteArray}
theorem Yj1 {k:Nat}{m:ByteArray}(hk:MV[k]?=some m)(h0: ∀ j m',j<k->MV[j]?=some m'->m'≠s)(h1:m=s):SY s=k+1:=by
 have:MV.findIdx? (fun m=>decide (m=s))=some k:=by
  rw[List.findIdx?_eq_some_iff_getElem];refine⟨(DW.1 hk).1,by rw[(DW.1 hk).2];exact Nv h1,?_⟩;intro j hj;have hl:j<MV.length:=Nat.lt_trans hj (DW.1 hk).1
  have:=h0 j MV[j] hj<|A8 hl
  simpa using this
 unfold SY;rw[this]
theorem Yj2 (h0: ∀ j m',j<7->MV[j]?=some m'->m'≠s):SY s=0:=by
 have:MV.findIdx? (fun m=>decide (m=s))=none:=by
  rw[List.findIdx?_eq_none_iff];intro m hm;obtain⟨j,hj,rfl⟩:=List.getElem_of_mem hm
  have:=h0 j MV[j] hj<|A8 hj
  simpa using this
 unfold SY;rw[this]
theorem Yit (s:ByteArray):SY s<=7:=by
 unfold SY;split
 ·rename_i i h
  have:=(List.findIdx?_eq_some_iff_getElem.1 h).1
  simp[MV]at this;omega
 ·omega
end Go.W
namespace Go.P
variable {a:Nat->Addr}{w:World}
theorem AZ.ops (h:AZ a w)(i:Nat)(s:ByteArray)(hs:MV[i]?=some s):w.cell? (zm 17 i)=some (.string s):=by
 obtain⟨_,h0,h1⟩:=h;exact(h1 _ _ zu).2.trans<|h0.ops i s hs
theorem Ygf (k:Nat)(h:k<7): ∃ m,MV[k]?=some m/\ ∀ w,(Instr.index 361 (.agg #[.string<|MQ 1,.string<|MQ 2,.string<|MQ 3,.string<|MQ 4,.string<|MQ 5,.string<|MQ 6,.string<|MQ 7])<|zo (k:Int)).run prog w= .ok (.string m) w:=by
 have g:k=0\/k=1\/k=2\/k=3\/k=4\/k=5\/k=6:=zx
 rcases g with rfl | rfl | rfl | rfl | rfl | rfl | rfl;all_goals exact⟨_,rfl,fun _=>zt⟩
def Yjm (w:World) (s:ByteArray) (iv:Value) (wr:World):Prop:= ∃ k:Nat,k<=7/\iv= zo (k:Int)/\wr=w/\ ∀ j m',j<k->MV[j]?=some m'->m'≠s
theorem Z0l (Z:AZ a w)(s:ByteArray):Calls prog 199 #[.string s] w fun e w'=>e= .returned (zo (SY s:Nat))/\w'=w:=by
 have m0:=Z.ops 0 _ rfl;have m1:=Z.ops 1 _ rfl;have m2:=Z.ops 2 _ rfl;have m3:=Z.ops 3 _ rfl;have m4:=Z.ops 4 _ rfl;have m5:=Z.ops 5 _ rfl;have m6:=Z.ops 6 _ rfl;clear Z;go_in
 go_wp2_with fail
 clear m0 m1 m2 m3 m4 m5 m6;go_loopw [6] (fun iv wr=>Yjm w s iv wr) (fun iv _=>7-xJ iv)
 case atStart=>exact⟨0,zx,rfl,rfl,fun j _ hj=>absurd hj zx⟩
 case round=>
  obtain⟨k,hk,rfl,rfl,hall⟩:=hrel;have A:=AC hall;clear hall;by_cases hlt:k<7
  ·obtain⟨m,hm,ik⟩:=Ygf k hlt;have g:(k:Int)<7:=zx
   by_cases he:m=s
   ·have Y:=AC<|Yj1 hm A.out he;have g2:(m.toList==s.toList)=true:=by rw[vo];exact Nv he
    clear hm A he;go_wp2
    go_ret
    rw[Y.out];exact⟨zw,rfl⟩
   ·have g2:(m.toList==s.toList)=false:=by rw[vo];exact I8 he
    have S:AF (∀ j m',j<k+1->MV[j]?=some m'->m'≠s):=⟨fun j m' hj Yb=>by
     by_cases hjk:j=k
     ·subst hjk;rw[hm]at Yb;cases Yb;exact he
     ·exact A.out j m' zx Yb⟩
    clear hm A he;go_wp2
    exact⟨⟨k+1,zx,zw,rfl,S.out⟩,by simp[xJ];omega⟩
  ·obtain rfl:k=7:=zx
   have Y:=AC<|Yj2 A.out;go_wp2
   go_ret
   rw[Y.out];exact⟨rfl,rfl⟩
end Go.P
namespace Go.P
variable {a:Nat->Addr}{w:World}{b p:Nat}{t:ByteArray}{x:Tk}
theorem Ycb (x:Tk)(u:World):(Instr.field 164 (.agg #[zo (x.at_:Int),.string x.text,zo x.k,zo x.i,.string x.s,zn]) 1).run prog u= .ok (.string x.text) u:=zt
theorem Yii (x:Tk)(u:World):(Instr.field 164 (.agg #[zo (x.at_:Int),.string x.text,zo x.k,zo x.i,.string x.s,zn]) 0).run prog u= .ok (zo (x.at_:Int)) u:=zt
theorem Zym (Z:AZ a w)(h:Rd w b t p x)(hx:Jr x):
  Calls prog 113 #[zq b 0] w (JO a b t (Ie (Bz AV 4) w.heap.size) w<|VT t x p):=by
 have hg:=h.2.2.2;have ht:=h.2.1;have hb:=h.1.lt;have L0:=AC<|AO.new w #[.string ⟨#[]⟩,zn] 41;have K0:=AC<|(Ad.refl b w).alloc<|.cells #[.string ⟨#[]⟩,zn] 41;have H0:=AC<|h.alloc<|.cells #[.string ⟨#[]⟩,zn] 41;have Z0:=AC<|Z.below<|(AR _ w).alloc lr<|.cells #[.string ⟨#[]⟩,zn] 41;obtain⟨c0,c1,c2,c3,c4,c5,c6,c7,sf⟩:=H0.out.1.eight;have CW:=AC<|Ztr x hx.1<|w.alloc<|.cells #[.string ⟨#[]⟩,zn] 41;have CK:=AC<|Z5t x.text;unfold Jc at CW;clear Z h;go_in
 go_wp2_with fail
 refine mq CW.out ?_;rintro w1 hb1;have Dl:=AC<|H0.out.of hb1;have K1:=AC<|K0.out.AU hb1;have Z1:=AC<|Z0.out.below hb1;have L1:=AC<|L0.out.of<|hb1.block _ zw;have hs1:=hb1.size;simp at hs1;clear c0 c1 c2 c3 c4 c5 c6 c7 sf hb1 K0 H0 Z0 L0 CW;obtain⟨c0,c1,c2,c3,c4,c5,c6,c7,sf⟩:=Dl.out.1.eight;by_cases Aq:Nj x.text=true/\kL x.text=false
 ·have Y:=AC (show VT t x p=Bf (En t x p) fun _ x1 p1=>Bf (Nk t [40] x1 p1) fun _ x2 p2=>Bf (TN t (Ha t 3) [41] x2 p2) fun l x3 p3=> .ok (⟨x.text,l⟩,x3,p3)from if_pos Aq);have CT:=AC<|Vg Z1.out Dl.out;have C1:=AC fun u q y (h1:AZ a u) (h2:Rd u b t q y)=>jc ⟨#[40]⟩ h1 h2;have C2:=AC fun u q y (h1:AZ a u) (h2:Rd u b t q y) (h3:Jr y)=>Zue (Zrn 3 zx) ⟨#[41]⟩ h1 h2 h3;rw[show(⟨#[40]⟩:ByteArray).toList=[40]from ZJ [40]]at C1;rw[show(⟨#[41]⟩:ByteArray).toList=[41]from ZJ [41],show((3-3:Nat):Int)=0 from rfl]at C2;rw[Aq.2]at CK;rw[Aq.1];clear Aq;go_wp2_with (go_at_call 163;refine(CK.out _).mono ?_;rintro e w' ⟨rfl,rfl⟩)
  refine CT.out.mono ?_;rintro e w2 ⟨hk2,⟨n,r,hy,hn,L,hL,rfl,hB⟩ | ⟨v,y,x2,r2,hy,rfl,hv,hr2⟩⟩
  ·exact⟨rfl,K1.out.trans hk2,Or.inl ⟨n,r,Y.out.trans<|Es hy,hn,L,zx,rfl,hB⟩⟩
  obtain rfl:v=Jc y:=hv;obtain⟨hx2,rfl⟩:=Wn ht hy;have Y2:=AC<|Y.out.trans<|Ee hy;have hs2:=hk2.size;have Ao:=AC hr2;have K2:=AC<|K1.out.trans hk2;have Z2:=AC<|Z1.out.keeps hk2 hg;have L2:=AC<|L1.out.of<|hk2.block _ zx zx;clear c0 c1 c2 c3 c4 c5 c6 c7 sf hk2 hr2 hy CT Y Dl K1 Z1 L1;unfold Jc;have fd:=Ycb y;go_wp2_with fail
  clear fd;refine(C1.out _ _ _ Z2.out Ao.out).mono ?_;rintro e w3 ⟨hk3,⟨n,r,hy,hn,L,hL,rfl,hB⟩ | ⟨v,z,x3,r3,hy,rfl,hv,hr3⟩⟩
  ·exact⟨rfl,K2.out.trans hk3,Or.inl ⟨n,r,Y2.out.trans<|Es hy,hn,L,zx,rfl,hB⟩⟩
  obtain rfl:v= .tuple #[]:=hv;have hx3:=qI ht hy;have Y3:=AC<|Y2.out.trans<|Ee hy;have hs3:=hk3.size;have Dn:=AC hr3;have K3:=AC<|K2.out.trans hk3;have Z3:=AC<|Z2.out.keeps hk3 hg;have L3:=AC<|L2.out.of<|hk3.block _ zx zx;clear hk3 hr3 hy Y2 Ao K2 Z2 L2;go_wp2_with fail
  refine(C2.out _ _ _ Z3.out Dn.out hx3).mono ?_;rintro e w4 ⟨hk4,⟨n,r,hy,hn,L,hL,rfl,hB⟩ | ⟨v,l,x4,r4,hy,rfl,⟨F,hR,hN⟩,hr4⟩⟩
  ·exact⟨rfl,K3.out.trans hk4,Or.inl ⟨n,r,Y3.out.trans<|Es hy,hn,L,zx,rfl,hB⟩⟩
  obtain⟨p1,cc,rfl⟩:=AQ.form hR;have UL:=hk4.size;obtain⟨y0,y1,sy⟩:=(L3.out.of<|hk4.block _ zx zx).two;have R:=AC<|AJ (K3.out.trans hk4)<|AJ hr4<|AJ (Y3.out.trans<|Ee hy)<|AJ hR hN;clear hk4 hr4 hy Y3 Dn K3 Z3 L3 hR hN;go_wp2
  refine Bg (by simp[results,results113,go_sem,y0,y1];try rfl) rfl ?_;obtain⟨hk,hr,hy,hR,hN⟩:=R.out;exact⟨hk.r2 lr,Or.inr ⟨_,⟨y.text,l⟩,x4,r4,hy,rfl,⟨[.string y.text,.slice p1 l.length cc],F,rfl,⟨_,rfl,hx.1,AQ.stable (BQ.stable (ty:=AV) 4) _ _ _ _ _ hR fun j hj=>uf (by have:=hN.ge j hj;omega)⟩,hN.later zx zw⟩,hr.Gz<|uf zx⟩⟩
 ·have Y:=AC (show VT t x p= .error (2,x.at_)from if_neg Aq);have GG:Nj x.text=false\/Nj x.text=true/\kL x.text=true:=by
   cases h1:Nj x.text
   ·exact Or.inl rfl
   ·cases h2:kL x.text
    ·exact absurd ⟨h1,h2⟩ Aq
    ·exact Or.inr ⟨rfl,rfl⟩
  have z2:=Z1.out.c2;have C2:=AC<|QM a (n:=2) zu Dl.out;clear Aq;rcases GG with ga | ⟨ga,gb⟩
  case' inr=>rw[gb]at CK
  all_goals
   rw[ga];go_wp2_with (go_at_call 163;refine(CK.out _).mono ?_;rintro e w' ⟨rfl,rfl⟩)
   refine C2.out.mono ?_;rintro e w2 ⟨⟨L,hL,rfl,hB⟩,hb⟩;exact⟨rfl,K1.out.AU hb,Or.inl ⟨2,_,Y.out,zu,L,zx,rfl,hB⟩⟩
theorem Z6b (Z:AZ a w)(h:Rd w b t p x)(hx:Jr x):
  Calls prog 167 #[zq b 0] w (JO a b t (Ie (Eo AV 4) w.heap.size) w<|fJ t x p):=by
 have hg:=h.2.2.2;have ht:=h.2.1;have hb:=h.1.lt;have CT:=AC fun u q y (h1:AZ a u) (h2:Rd u b t q y) (h3:Jr y)=>Zrn 3 zx h1 h2 h3;rw[show((3-3:Nat):Int)=0 from rfl]at CT;obtain⟨O,hO⟩: ∃ O:Obj,O= .cells #[zo 0,zo 0,zo 0,.string ⟨#[]⟩,zn,zo 0,zo 0,.string ⟨#[]⟩,zn] 48:=⟨_,rfl⟩;have L0:=AC<|AO.new w #[zo 0,zo 0,zo 0,.string ⟨#[]⟩,zn,zo 0,zo 0,.string ⟨#[]⟩,zn] 48;have K0:=AC<|(Ad.refl b w).alloc O;have H0:=AC<|h.alloc O;have Z0:=AC<|Z.below<|(AR _ w).alloc lr O;have hs0:(w.alloc O).heap.size=w.heap.size+1:=zw
 rw[<- hO]at L0;have CR:=AC fun u q y (h2:Rd u b t q y)=>QM a (n:=2) zu h2;have CK:=AC fun u q y (h1:AZ a u) (h2:Rd u b t q y)=>Vg h1 h2;have CO:=AC fun u (h1:AZ a u) s=>Z0l h1 s;have Y:AF (fJ t x p=Bf (Ha t 3 x p) fun a x1 p1=>if SY x1.text=0 then .error (2,x1.at_)else Bf (En t x1 p1) fun _ x2 p2=>Bf (Ha t 3 x2 p2) fun b x3 p3=> .ok (⟨SY x1.text,a,b⟩,x3,p3)):=⟨rfl⟩;clear Z h;go_in
 go_wp2_with fail
 rw[<- hO];refine(CT.out _ _ _ Z0.out H0.out hx).mono ?_;rintro e w1 ⟨AX,⟨n,r,hy,hn,L,hL,rfl,hB⟩ | ⟨v,z,x1,r1,hy,rfl,⟨vs,F,rfl,hQ,hN⟩,hr1⟩⟩
 ·exact⟨rfl,K0.out.trans AX,Or.inl ⟨n,r,Y.out.trans<|Es hy,hn,L,zx,rfl,hB⟩⟩
 obtain⟨p1,cc,rfl⟩:=BQ.vals hQ;have Y1:=AC<|Y.out.trans<|Ee hy;have hs1:=AX.size;have QF:=AC<|AJ hQ hN;have LF:=AC<|AO.new w1 #[zo z.k,zo z.i,.string z.t,.slice p1 z.l.length cc] 46;have Dl:=AC<|hr1.alloc<|.cells #[zo z.k,zo z.i,.string z.t,.slice p1 z.l.length cc] 46;have K1:=AC<|(K0.out.trans AX).alloc<|.cells #[zo z.k,zo z.i,.string z.t,.slice p1 z.l.length cc] 46;have Z1:=AC<|(Z0.out.keeps AX hg).below<|(AR _ w1).alloc lr<|.cells #[zo z.k,zo z.i,.string z.t,.slice p1 z.l.length cc] 46;have L1:=AC<|(L0.out.of<|AX.block _ zx zx).alloc<|.cells #[zo z.k,zo z.i,.string z.t,.slice p1 z.l.length cc] 46;clear AX hr1 hy hQ hN Y K0 H0 Z0 L0 hO;obtain⟨c0,c1,c2,c3,c4,c5,c6,c7,sf⟩:=Dl.out.1.eight;go_wp2_with fail
 obtain⟨w2,hw2⟩: ∃ w2,w1.alloc (.cells #[zo z.k,zo z.i,.string z.t,.slice p1 z.l.length cc] 46)=w2:=⟨_,rfl⟩;have hs2:w2.heap.size=w1.heap.size+1:=by rw[<- hw2];simp
 have QF2:AF (BQ AV 4 w2 [zo z.k,zo z.i,.string z.t,.slice p1 z.l.length cc] z F):=⟨BQ.stable (ty:=AV) 4 _ _ _ _ _ QF.out.1 fun j hj=>by rw[<- hw2];exact Ah _ _ _<|QF.out.2.lt j hj⟩;have kZ:=QF.out.2;rw[hw2]at LF Dl K1 Z1 L1 c0 c1 c2 c3 c4 c5 c6 c7 sf⊢;clear hw2 QF;refine(CO.out _ Z1.out _).mono ?_;rintro e w' ⟨rfl,rfl⟩;have ol:=Yit x1.text;generalize SY x1.text=o at*;by_cases ho:o=0
 ·have Y2:=AC<|Y1.out.trans<|if_pos ho;have g1:((o:Int)==0)=true:=by rw[DR];omega
  have z2:=Z1.out.c2;clear ho;go_wp2_with fail
  refine(CR.out _ _ _ Dl.out).mono ?_;rintro e w3 ⟨⟨L,hL,rfl,hB⟩,hb⟩;exact⟨rfl,K1.out.AU hb,Or.inl ⟨2,_,Y2.out,zu,L,zx,rfl,hB⟩⟩
 have Y2:=AC<|Y1.out.trans<|if_neg ho;have g1:((o:Int)==0)=false:=by rw[BJ];omega
 clear ho Y1;go_wp2_with fail
 refine(CK.out _ _ _ Z1.out Dl.out).mono ?_;rintro e w3 ⟨hk3,⟨n,r,hy,hn,L,hL,rfl,hB⟩ | ⟨v,y,x3,r3,hy,rfl,hv,hr3⟩⟩
 ·exact⟨rfl,K1.out.trans hk3,Or.inl ⟨n,r,Y2.out.trans<|Es hy,hn,L,zx,rfl,hB⟩⟩
 obtain rfl:v=Jc y:=hv;obtain⟨hx3,rfl⟩:=Wn ht hy;have Y3:=AC<|Y2.out.trans<|Ee hy;have hs3:=hk3.size;have Dn:=AC hr3;have K3:=AC<|K1.out.trans hk3;have Z3:=AC<|Z1.out.keeps hk3 hg;have L3:=AC<|L1.out.of<|hk3.block _ zx zx;have LF3:=AC<|LF.out.of<|hk3.block _ zx zx;have QF3:=AC (BQ.stable (ty:=AV) 4 _ _ _ _ _ QF2.out fun j hj=>hk3.block j (by have:=kZ.lt j hj;omega) (by have:=kZ.ge j hj;omega));clear hk3 hr3 hy Y2 Dl K1 Z1 L1 LF QF2 c0 c1 c2 c3 c4 c5 c6 c7 sf;obtain⟨f0,f1,f2,f3,sg⟩:=LF3.out.four;have ZD:=AC Z3.out.drew;have HD:=AC Dn.out.drew;have KD:=AC K3.out.drew;go_wp2
 go_region_with (go_at_call 198;refine(CT.out _ _ _ ZD.out HD.out hx3).mono ?_;rintro e w4 ⟨hk4,⟨n,r,hy,hn,L,hL,rfl,hB⟩ | ⟨v,z4,x4,r4,hy,rfl,⟨vs,F4,rfl,hQ,hN⟩,hr4⟩⟩;(exact⟨rfl,KD.out.trans hk4,Or.inl ⟨n,r,Y3.out.trans<|Es hy,hn,L,(by show _<=L;have:w3.heap.size<=L:=hL;omega),rfl,hB⟩⟩);have LF4:=LF3.out.of (w':=w4)<|hk4.block _ (by show _<w3.heap.size;omega) zx;obtain⟨e0,e1,e2,e3,-⟩:=LF4.four;obtain⟨p4,cc4,rfl⟩:=BQ.vals hQ;have LR:=L3.out.of (w':=w4)<|hk4.block _ (by show _<w3.heap.size;omega) zx;obtain⟨y0,y1,y2,y3,y4,y5,y6,y7,y8,sy⟩:=LR.nine)
 all_goals
  have UL:w3.heap.size<=w4.heap.size:=hk4.size;have QF4:=AC (BQ.stable (ty:=AV) 4 _ w4 _ _ _ QF3.out fun j hj=>hk4.block j (by show j<w3.heap.size;have:=kZ.lt j hj;omega) (by have:=kZ.ge j hj;omega));have R:=AC<|AJ (KD.out.trans hk4)<|AJ hr4<|AJ (Y3.out.trans<|Ee hy)<|AJ hQ hN;clear hk4 hr4 hy Y3 Dn K3 Z3 L3 hQ hN f0 f1 f2 f3 sg QF3 LF3 e0 e1 e2 e3 LF4 ZD HD KD;go_wp2
  refine Bg (by simp[results,results167,go_sem,y0,y1,y2,y3,y4,y5,y6,y7,y8];try rfl) rfl ?_;obtain⟨hk,hr,hy,hQ,hN⟩:=R.out;have hN':Ag w3.heap.size w4 F4:=hN;exact⟨hk.r9 lr,Or.inr ⟨_,⟨(o:Int),z,z4⟩,x4,r4,hy,rfl,⟨[zo (o:Int),zo z.k,zo z.i,.string z.t,.slice p1 z.l.length cc,zo z4.k,zo z4.i,.string z4.t,.slice p4 z4.l.length cc4],F++F4,rfl,⟨_,_,F,F4,rfl,⟨by show(-9223372036854775808:Int)<=(o:Int);omega,by show(o:Int)<=9223372036854775807;omega⟩,BQ.stable (ty:=AV) 4 _ _ _ _ _ QF4.out fun j hj=>jZ (by have:=kZ.ge j hj;omega),BQ.stable (ty:=AV) 4 _ _ _ _ _ hQ fun j hj=>jZ (by have:=hN'.ge j hj;omega),rfl⟩,(Ag.append (kZ.later (B':=w.heap.size) (w':=w1) zx lr) hN' zx zx zx).later lr zw⟩,hr.Gz<|jZ zx⟩⟩
end Go.P
