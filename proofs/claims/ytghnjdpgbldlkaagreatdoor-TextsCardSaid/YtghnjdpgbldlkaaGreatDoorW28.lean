import Derived.Test.YtghnjdpgbldlkaaGreatDoorW27
set_option linter.defProp false
set_option maxRecDepth 100000
set_option maxHeartbeats 8000000
set_option linter.unusedSimpArgs false
open Go.Proofs Go.RowKit Go.W Tryz
namespace Go.P
variable {w:World}{b p d:Nat}{t:ByteArray}{x:Tk}{a:Nat->Addr}
def Zq6:Bj 211:=DL func211 zt rfl
def jJ (d:Nat):Prop:= ∀ {a:Nat->Addr} {w:World} {b:Nat} {t:ByteArray} {p:Nat} {x:Tk},Aa a w->Rd w b t p x->Ic x->Calls prog 212 #[.pointer<|Qb b 0,.int .i64 ((3-d:Nat):Int)] w (IA a b t (G5 (BH AY<|d+1) w.heap.size) w<|EO t d x p)
def V3 (l:List UInt8):(⟨l.toArray⟩:ByteArray).toList=l:=by rw[Lr]
def Rd.Fj {w':World}(h:Rd w b t p x)(k:w'.heap[b]?=w.heap[b]?):Rd w' b t p x:=⟨h.1.of k,h.2⟩
def Zzd (ih:jJ d){L1 L2:Nat}(Z:Aa a w)(h:Rd w b t p x)(hx:Ic x)(k1:w.cell? ⟨L1,0,none⟩=some (.pointer<|Qb b 0))(k2:w.cell? ⟨L2,0,none⟩=some (.int .i64 ((3-d:Nat):Int))):
  Calls prog 211 #[.pointer<|Qb L1 0,.pointer<|Qb L2 0] w (IA a b t (G5 (BH AY<|d+1) w.heap.size) w<|EO t d x p):=by
 have l1:=fun o=>Aq k1 ((AQ _ w).alloc lr o);have l2:=fun o=>Aq k2 ((AQ _ w).alloc lr o);have C:=AA<|ih (Z.below<|(AQ _ w).alloc lr<|.cells #[.int .i64 0,.int .i64 0,.string ⟨#[]⟩,.slice none 0 0] 100) (h.alloc<|.cells #[.int .i64 0,.int .i64 0,.string ⟨#[]⟩,.slice none 0 0] 100) hx;have hb:=h.1.lt;have L0:=AA<|AJ.new w #[.int .i64 0,.int .i64 0,.string ⟨#[]⟩,.slice none 0 0] 100;have K0:=AA<|(Ac.refl b w).alloc<|.cells #[.int .i64 0,.int .i64 0,.string ⟨#[]⟩,.slice none 0 0] 100;obtain⟨dd,hdd⟩: ∃ z:Int,((3-d:Nat):Int)=z:=⟨_,rfl⟩;rw[hdd]at l2 C;clear k1 k2 Z h hdd;go_in
 go_wp2_with fail
 refine C.out.mono ?_;rintro e w1 ⟨AZ,⟨n,r,hy,hn,L,hL,rfl,hB⟩ | ⟨v,y,x2,r,hy,rfl,⟨vs,F,rfl,hQ,hN⟩,hr1⟩⟩
 ·exact⟨rfl,K0.out.trans AZ,Or.inl ⟨n,r,hy,hn,L,by simp at hL;omega,rfl,hB⟩⟩
 ·obtain⟨p1,c1,rfl⟩:=BH.vals hQ;obtain⟨y0,y1,y2,y3,sf⟩:=(L0.out.of<|AZ.block w.heap.size zw zx).four;have R:=AA<|AF hQ<|AF hN<|AF hr1<|AF hy<|K0.out.trans AZ;clear hQ hN hr1 hy AZ C;go_wp2
  refine CQ (by simp[results,results211,go_sem,y0,y1,y2,y3];try rfl) rfl ?_;obtain⟨hQ,hN,hr1,hy,AZ⟩:=R.out;exact⟨AZ.r4 lr,Or.inr ⟨_,y,x2,r,hy,rfl,⟨_,F,rfl,BH.stable (d+1) _ _ _ _ _ hQ fun j hj=>Iz (by have:=hN.ge j hj;simp at this;omega),hN.later zw zw⟩,hr1.Fj<|Iz zx⟩⟩
def Zso (ih:jJ d)(s:ByteArray)(Z:Aa a w)(h:Rd w b t p x)(hx:Ic x):
  Calls prog 174 #[.pointer<|Qb b 0,.string s,.int .i64 ((3-d:Nat):Int)] w (IA a b t (Px 100 4 (BH AY<|d+1) w.heap.size) w<|Oe t (EO t d) s.toList x p):=by
 have Dw:=G6;obtain⟨dd,hdd⟩: ∃ z:Int,((3-d:Nat):Int)=z:=⟨_,rfl⟩;have B0:=AA<|((AQ w.heap.size w).alloc lr<|.cells #[.pointer<|Qb b 0] 91).alloc zw<|.cells #[.int .i64 dd] 3;have K0:=AA<|((Ac.refl b w).alloc<|.cells #[.pointer<|Qb b 0] 91).alloc<|.cells #[.int .i64 dd] 3;have L1:=AA<|(AJ.new w #[.pointer<|Qb b 0] 91).alloc<|.cells #[.int .i64 dd] 3;have L2:=AA<|AJ.new (w.alloc<|.cells #[.pointer<|Qb b 0] 91) #[.int .i64 dd] 3;have hb:=h.1.lt;have hg:=h.2.2.2;have H0:=AA<|(h.alloc<|.cells #[.pointer<|Qb b 0] 91).alloc<|.cells #[.int .i64 dd] 3;have Z0:=AA<|Z.below B0.out;have C:=AA (Zrk (d:=d) (f:=EO t d) Zq6 (first:=#[]) (cap:=#[.pointer<|Qb w.heap.size 0,.pointer<|Qb (w.heap.size+1) 0]) (m:=6) ⟨#[44]⟩ Z0.out H0.out hx zx fun u q y hu=>Zzd ih hu.2.2.1 hu.1 hu.2.2.2 ((L1.out.of<|hu.2.1.block w.heap.size (by simp;omega) zx).one.1) (by rw[hdd];have:=(L2.out.of<|hu.2.1.block _ zw (by simp;omega)).one.1;simpa using this));rw[show(⟨#[44]⟩:ByteArray).toList=[44]from V3 [44]]at C;obtain⟨c0,c1,c2,c3,c4,c5,c6,c7,sf⟩:=H0.out.1.eight;have CW:=AA fun u q y (h1:Aa a u) (h2:Rd u b t q y)=>bL s h1 h2;have l1:=L1.out.one.1;rw[hdd];clear ih hdd Z h;go_in
 by_cases hs:x.text.toList=s.toList
 ·have g1:(x.text.toList==s.toList)=true:=by rw[DJ];exact hs
  have Y:AC (Oe t (EO t d) s.toList x p=BU (JH t s.toList x p) fun _ x2 p2=> .ok ([],x2,p2)):=⟨by unfold Oe;rw[if_pos hs];rfl⟩;clear hs;go_wp2_with fail
  refine(CW.out _ _ _ Z0.out H0.out).mono ?_;rintro e w1 ⟨AZ,⟨n,r,hy,hn,L,hL,rfl,hB⟩ | ⟨v,y,x2,r,hy,rfl,hv,hr1⟩⟩
  ·exact⟨rfl,K0.out.trans AZ,Or.inl ⟨n,r,Y.out.trans<|Ef hy,hn,L,by simp at hL;omega,rfl,hB⟩⟩
  ·obtain rfl:v= .tuple #[]:=hv;have R:=AA<|AF hr1<|AF (Y.out.trans<|Cc hy)<|K0.out.trans AZ;clear hr1 hy AZ C;go_wp2
   go_ret
   exact⟨R.out.2.2,Or.inr ⟨_,[],x2,r,R.out.2.1,rfl,⟨[],AO.nil,Af.nil _ _⟩,R.out.1⟩⟩
 ·have g1:(x.text.toList==s.toList)=false:=by rw[BK];exact hs
  have Y:AC (Oe t (EO t d) s.toList x p=BU (Gg t (EO t d) [44] 6 7 [] x p) fun l x1 p1=>BU (JH t s.toList x1 p1) fun _ x2 p2=> .ok (l,x2,p2)):=⟨by unfold Oe;rw[if_neg hs]⟩;clear hs;go_wp2_with fail
  refine C.out.mono ?_;rintro e w1 ⟨AZ,⟨n,r,hy,hn,L,hL,rfl,hB⟩ | ⟨v,xs,x1,r1,hy,rfl,⟨F,hR,hN⟩,hr1⟩⟩
  ·exact⟨rfl,K0.out.trans AZ,Or.inl ⟨n,r,Y.out.trans<|Ef hy,hn,L,by simp at hL;omega,rfl,hB⟩⟩
  obtain⟨p1,cc,rfl⟩:=AO.form hR;have Y2:=AA<|Y.out.trans<|Cc hy;have l2:=(L1.out.of<|AZ.block w.heap.size (by simp;omega) zx).one.1;have hs1:=AZ.size;have R1:=AA<|AF hR<|AF hN<|K0.out.trans AZ;have DZ:=AA hr1;have Z1:=AA<|Z0.out.keeps AZ hg;clear hR hN hr1 hy AZ C Y l1 L1 L2 K0 H0 Z0 B0 c0 c1 c2 c3 c4 c5 c6 c7 sf;go_wp2_with fail
  refine(CW.out _ _ _ Z1.out DZ.out).mono ?_;rintro e w2 ⟨hk2,⟨n,r,hy,hn,L,hL,rfl,hB⟩ | ⟨v,y,x2,r,hy,rfl,hv,hr2⟩⟩
  ·exact⟨rfl,R1.out.2.2.trans hk2,Or.inl ⟨n,r,Y2.out.trans<|Ef hy,hn,L,by simp at hs1;omega,rfl,hB⟩⟩
  ·obtain rfl:v= .tuple #[]:=hv;have Wx:=R1.out.2.1;have R2:=AA<|AF hr2<|AF (Y2.out.trans<|Cc hy)<|AF (R1.out.2.2.trans hk2) (AO.stable (BH.stable (ty:=AY)<|d+1) _ _ _ _ _ R1.out.1 fun j hj=>hk2.block j (Wx.lt j hj) (by have:=Wx.ge j hj;simp at this;omega));have hs2:=hk2.size;clear hr2 hy hk2 Wx;go_wp2
   go_ret
   exact⟨R2.out.2.2.1,Or.inr ⟨_,xs,x2,r,R2.out.2.1,rfl,⟨F,R2.out.2.2.2,R1.out.2.1.later (by simp;omega) hs2⟩,R2.out.1⟩⟩
def Z65 (ih:jJ d)(hd:d<3)(Z:Aa a w)(h:Rd w b t p x):
  Calls prog 245 #[.pointer<|Qb b 0,.int .i64 ((3-(d+1):Nat):Int)] w (IA a b t (G5 (BH AY<|d+2) w.heap.size) w (BU (EP t x p) fun _ x1 p1=>BU (Oe t (EO t d) [93] x1 p1) fun l x2 p2=> .ok (.mk 7 0 ⟨#[]⟩ l,x2,p2))):=by
 have hg:=h.2.2.2;have hb:=h.1.lt;obtain⟨dd,hdd⟩: ∃ z:Int,((3-(d+1):Nat):Int)=z:=⟨_,rfl⟩;have g1:(dd==3)=false:=by rw[BK];omega
 have g2:0<=dd/\dd<3:=zx
 have e1:((3-d:Nat):Int)=dd+1:=zx
 have L0:=AA<|AJ.new w #[.int .i64 0,.int .i64 0,.string ⟨#[]⟩,.slice none 0 0] 100;have K0:=AA<|(Ac.refl b w).alloc<|.cells #[.int .i64 0,.int .i64 0,.string ⟨#[]⟩,.slice none 0 0] 100;have H0:=AA<|h.alloc<|.cells #[.int .i64 0,.int .i64 0,.string ⟨#[]⟩,.slice none 0 0] 100;have Z0:=AA<|Z.below<|(AQ _ w).alloc lr<|.cells #[.int .i64 0,.int .i64 0,.string ⟨#[]⟩,.slice none 0 0] 100;have CT:=AA<|Ro Z0.out H0.out;have CS:=AA fun u q y (h1:Aa a u) (h2:Rd u b t q y) (h3:Ic y)=>Zso ih ⟨#[93]⟩ h1 h2 h3;have ht:=h.2.1;rw[e1,show(⟨#[93]⟩:ByteArray).toList=[93]from V3 [93]]at CS;rw[hdd];clear Z h hdd e1;go_in
 go_wp2_with fail
 refine CT.out.mono ?_;rintro e w1 ⟨AZ,⟨n,r,hy,hn,L,hL,rfl,hB⟩ | ⟨v,y,x1,r1,hy,rfl,hv,hr1⟩⟩
 ·exact⟨rfl,K0.out.trans AZ,Or.inl ⟨n,r,Ef hy,hn,L,by simp at hL;omega,rfl,hB⟩⟩
 obtain rfl:v=IK y:=hv;have Y1:AC (∀ f:Tk->Tk->Nat->Re T,BU (EP t x p) f=f y x1 r1):=⟨fun f=>Cc hy⟩;have Z1:=AA<|Z0.out.keeps AZ hg;have K1:=AA<|K0.out.trans AZ;have L1:=AA<|L0.out.of<|AZ.block w.heap.size zw zx;have hs1:=AZ.size;have DZ:=AA hr1;have hx1:=(Tt ht hy).1;clear AZ hy hr1 CT H0 Z0 K0 L0;go_wp2_with fail
 refine(CS.out _ _ _ Z1.out DZ.out hx1).mono ?_;rintro e w2 ⟨hk2,⟨n,r,hy,hn,L,hL,rfl,hB⟩ | ⟨v,xs,x2,r2,hy,rfl,⟨F,hR,hN⟩,hr2⟩⟩
 ·exact⟨rfl,K1.out.trans hk2,Or.inl ⟨n,r,(Y1.out _).trans<|Ef hy,hn,L,by simp at hs1;omega,rfl,hB⟩⟩
 obtain⟨p1,cc,rfl⟩:=AO.form hR;have hs2:=hk2.size;obtain⟨y0,y1,y2,y3,sf⟩:=(L1.out.of<|hk2.block w.heap.size (by simp at hs1;omega) zx).four;have EY:(BU (EP t x p) fun _ x1 p1=>BU (Oe t (EO t d) [93] x1 p1) fun l x2 p2=>(.ok (.mk 7 0 ⟨#[]⟩ l,x2,p2):Re T))= .ok (.mk 7 0 ⟨#[]⟩ xs,x2,r2):=(Y1.out _).trans<|Cc hy;have R:=AA<|AF hR<|AF hN<|AF hr2<|AF EY<|K1.out.trans hk2;clear hR hN hr2 hy hk2 CS Y1 Z1 K1 L1 DZ EY;go_wp2
 refine CQ (by simp[results,results245,go_sem,y0,y1,y2,y3];try rfl) rfl ?_;obtain⟨hR,hN,hr1,hy,AZ⟩:=R.out;simp at hs1;exact⟨AZ.r4 lr,Or.inr ⟨_,T.mk 7 0 ⟨#[]⟩ xs,x2,r2,hy,rfl,⟨[.int .i64 7,.int .i64 0,.string ⟨#[]⟩,.slice p1 xs.length cc],F,rfl,⟨_,rfl,(by show Ey 7;constructor <;> decide),(by show Ey 0;constructor <;> decide),(by show(ByteArray.mk #[]).size<1000000000;decide),AO.stable (BH.stable (ty:=AY)<|d+1) _ _ _ _ _ hR fun j hj=>Iz (by have:=hN.ge j hj;omega)⟩,hN.later zx zw⟩,hr1.Fj<|Iz zx⟩⟩
end Go.P
namespace Go.W
section
variable {t:ByteArray} {d:Nat} {x:Tk} {p:Nat}
def Z3y (h:H8 x.text=true):EO t d x p=BU (EP t x p) fun _ x1 p1=> .ok (.mk 6 (if x.text.toList=H7 then 1 else 0) ⟨#[]⟩ [],x1,p1):=by
 cases d <;> rw[EO,if_pos h]
def xF (t:ByteArray):Nat->Tk->Nat->Re T
 | 0,x,_=> .error (3,x.at_)
 | d+1,x,p=>BU (EP t x p) fun _ x1 p1=>BU (Oe t (EO t d) [93] x1 p1) fun l x2 p2=> .ok (.mk 7 0 ⟨#[]⟩ l,x2,p2)
def Z3z (h:H8 x.text=false)(hl:x.text.toList=[91]):EO t d x p=xF t d x p:=by
 cases d <;> rw[EO,if_neg (by rw[h];simp),if_pos hl,xF]
def Yac (h:H8 x.text=false)(hl:x.text.toList≠[91])(hk:x.k=0\/x.k=1/\d<3):EO t d x p= .error (2,x.at_):=by
 cases d with
 | zero=>rw[EO,if_neg (by rw[h];simp),if_neg hl,if_pos<|hk.imp_right And.left]
 | succ d=>rw[EO,if_neg (by rw[h];simp),if_neg hl,if_pos hk]
def Zzm (h:H8 x.text=false)(hl:x.text.toList≠[91])(hk: ¬ (x.k=0\/x.k=1/\d<3)):EO t d x p=BU (EP t x p) fun _ x1 p1=> .ok (.mk x.k x.i x.s [],x1,p1):=by
 cases d with
 | zero=>rw[EO,if_neg (by rw[h];simp),if_neg hl,if_neg fun z=>hk (z.imp_right fun g=>⟨g,zx⟩)]
 | succ d=>rw[EO,if_neg (by rw[h];simp),if_neg hl,if_neg hk]
end
end Go.W
namespace Go.P
def Zux (d:Nat):Prop:= ∀ {a:Nat->Addr} {w:World} {b:Nat} {t:ByteArray} {p:Nat} {x:Tk},Aa a w->Rd w b t p x->Calls prog 245 #[.pointer<|Qb b 0,.int .i64 ((3-d:Nat):Int)] w (IA a b t (G5 (BH AY<|d+1) w.heap.size) w<|xF t d x p)
def Z3f:Zux 0:=by
 intro a w b t p x Z h;have H0:=AA<|h.alloc<|.cells #[.int .i64 0,.int .i64 0,.string ⟨#[]⟩,.slice none 0 0] 100;have z3:=fun o=>Aq Z.c3 ((AQ _ w).alloc lr o);have CR:=AA<|Nr a (n:=3) zu H0.out;have K0:=AA<|(Ac.refl b w).alloc<|.cells #[.int .i64 0,.int .i64 0,.string ⟨#[]⟩,.slice none 0 0] 100;clear Z h;go_in
 go_wp2_with fail
 refine CR.out.mono ?_;rintro e w2 ⟨⟨L,hL,rfl,hB⟩,hb⟩;exact⟨rfl,K0.out.AR hb,Or.inl ⟨3,_,rfl,zu,L,by simp at hL;omega,rfl,hB⟩⟩
def Zsn {d:Nat}(hd:d<=3)(LI:Zux d):jJ d:=by
 intro a w b t p x Z h hx;have hg:=h.2.2.2;have hb:=h.1.lt;obtain⟨dd,hdd⟩: ∃ z:Int,((3-d:Nat):Int)=z:=⟨_,rfl⟩;have G:=AA (show 0<dd↔d<3 by omega);obtain⟨W,hW⟩: ∃ W,((w.alloc<|.cells #[.int .i64 0,.int .i64 0,.string ⟨#[]⟩,.slice none 0 0] 100).alloc<|.cells #[.int .i64 (x.at_:Int),.string x.text,.int .i64 x.k,.int .i64 x.i,.string x.s,.slice none 0 0] 153)=W:=⟨_,rfl⟩;have HR:AC (Rd W b t p x):=⟨hW▸(h.alloc _).alloc _⟩;have HK:AC (Ac b w W):=⟨hW▸((Ac.refl b w).alloc _).alloc _⟩;have ZW:AC (Aa a W):=⟨Z.keeps HK.out hg⟩;have L0:AC (AJ W w.heap.size #[.int .i64 0,.int .i64 0,.string ⟨#[]⟩,.slice none 0 0] 100):=⟨hW▸(AJ.new w _ _).alloc _⟩;have L1:AC (AJ W (w.heap.size+1) #[.int .i64 (x.at_:Int),.string x.text,.int .i64 x.k,.int .i64 x.i,.string x.s,.slice none 0 0] 153):=⟨by have:=AJ.new (w.alloc<|.cells #[.int .i64 0,.int .i64 0,.string ⟨#[]⟩,.slice none 0 0] 100) #[.int .i64 (x.at_:Int),.string x.text,.int .i64 x.k,.int .i64 x.i,.string x.s,.slice none 0 0] 153;rw[hW]at this;simpa using this⟩;have rH:W.heap.size=w.heap.size+2:=by rw[<- hW];simp
 have CB:=AA fun u=>Zr7 x.text u;have CT:=AA<|Ro ZW.out HR.out;have CL:=AA<|LI ZW.out HR.out;rw[hdd]at CL⊢;obtain⟨c0,c1,c2,c3,c4,c5,c6,c7,sf⟩:=h.1.eight;have HW:=AA hW;have SW:=AA rH;clear hW rH;go_in
 go_wp2_with fail
 rw[HW.out];clear c0 c1 c2 c3 c4 c5 c6 c7 sf Z h;have rH:=SW.out;obtain⟨d0,d1,d2,d3,d4,d5,sd⟩:=L1.out.six;obtain⟨y0,y1,y2,y3,sy⟩:=L0.out.four;cases AX:H8 x.text
 case' true=>
  rw[AX]at CB;have Y:=AA<|Z3y (t:=t) (d:=d) (p:=p) AX;clear CL;refine(CB.out _).mono ?_;rintro e w' ⟨rfl,rfl⟩;have CV:=AA fun u=>Zu9 (x.text.toList==H7) u;go_wp2_with fail
  refine CT.out.mono ?_;rintro e w1 ⟨AZ,⟨n,r,hy,hn,L,hL,rfl,hB⟩ | ⟨v,y,x1,r1,hy,rfl,hv,hr1⟩⟩
  ·exact⟨rfl,HK.out.trans AZ,Or.inl ⟨n,r,Y.out.trans<|Ef hy,hn,L,zx,rfl,hB⟩⟩
  obtain rfl:v=IK y:=hv;have M1:=AA<|L1.out.of<|AZ.block _ zx zx;have M0:=AA<|L0.out.of<|AZ.block _ zx zx;have R:=AA<|AF (HK.out.trans AZ)<|AF hr1<|Y.out.trans<|Cc hy;have hs1:=AZ.size;clear AZ hr1 hy CT L0 L1 Y d0 d1 d2 d3 d4 d5 sd y0 y1 y2 y3 sy CB;obtain⟨d0,d1,d2,d3,d4,d5,sd⟩:=M1.out.six;unfold H7 at CV;go_wp2_with fail
  refine(CV.out _).mono ?_;rintro e w2 ⟨rfl,hb2⟩;obtain⟨y0,y1,y2,y3,sy⟩:=(M0.out.of<|hb2.block _ zx).four;have R2:=AA<|AF (R.out.1.AR hb2)<|AF (R.out.2.1.of hb2) R.out.2.2;have hs2:=hb2.size;clear hb2 d0 d1 d2 d3 d4 d5 sd M1 M0 R;have eb:(if(x.text.toList==[116,114,117,101])=true then(1:Int)else 0)=if x.text.toList=H7 then 1 else 0:=by
   unfold H7;by_cases hh:x.text.toList=[116,114,117,101]
   ·rw[if_pos hh,if_pos (by rw[DJ];exact hh)]
   ·rw[if_neg hh,if_neg (by rw[DJ];exact hh)]
  rw[eb];obtain⟨ib,hib⟩: ∃ z:Int,(if x.text.toList=H7 then(1:Int)else 0)=z:=⟨_,rfl⟩;have Ox:Ey ib:=by
   rw[<- hib];split
   ·exact⟨zu,zu⟩
   ·exact bS
  rw[hib]at R2⊢;clear eb hib;go_wp2
  refine CQ (by simp[results,results212,go_sem,y0,y1,y2,y3];try rfl) rfl ?_;exact⟨R2.out.1.r4 lr,Or.inr ⟨_,_,_,_,R2.out.2.2,rfl,⟨[.int .i64 6,.int .i64 ib,.string ⟨#[]⟩,.slice none 0 0],[],rfl,⟨_,rfl,⟨by show(-9223372036854775808:Int)<=6;decide,by show(6:Int)<=9223372036854775807;decide⟩,Ox,by show(0:Nat)<_;decide,AO.nil⟩,Af.nil _ _⟩,R2.out.2.1.Fj<|Iz zx⟩⟩
 rw[AX]at CB;refine(CB.out _).mono ?_;rintro e w' ⟨rfl,rfl⟩;by_cases hl:x.text.toList=[91]
 ·have g1:(x.text.toList==[91])=true:=by rw[DJ];exact hl
  have Y:=AA<|Z3z (t:=t) (d:=d) (p:=p) AX hl;clear hl CT;go_wp2_with fail
  refine CL.out.mono ?_;rintro e w1 ⟨AZ,⟨n,r,hy,hn,L,hL,rfl,hB⟩ | ⟨v,z,x1,r1,hy,rfl,⟨vs,F,rfl,hQ,hN⟩,hr1⟩⟩
  ·exact⟨rfl,HK.out.trans AZ,Or.inl ⟨n,r,Y.out.trans hy,hn,L,zx,rfl,hB⟩⟩
  obtain⟨p1,cc,rfl⟩:=BH.vals hQ;have hs1:=AZ.size;have R:=AA<|AF (HK.out.trans AZ)<|AF hr1<|AF (Y.out.trans hy)<|AF hQ hN;have M0:=AA<|L0.out.of<|AZ.block _ zx zx;clear AZ hr1 hy hQ hN CL L0 L1 Y d0 d1 d2 d3 d4 d5 sd y0 y1 y2 y3 sy CB;obtain⟨y0,y1,y2,y3,sy⟩:=M0.out.four;go_wp2
  refine CQ (by simp[results,results212,go_sem,y0,y1,y2,y3];try rfl) rfl ?_;obtain⟨AZ,hr1,hy,hQ,hN⟩:=R.out;exact⟨AZ.r4 lr,Or.inr ⟨_,z,x1,r1,hy,rfl,⟨_,F,rfl,BH.stable (d+1) _ _ _ _ _ hQ fun j hj=>Iz (by have:=hN.ge j hj;omega),hN.later zx zw⟩,hr1.Fj<|Iz zx⟩⟩
 have g1:(x.text.toList==[91])=false:=by rw[BK];exact hl
 clear CL;by_cases hk:x.k=0\/x.k=1/\d<3
 ·have Y:=AA<|Yac (t:=t) (p:=p) AX hl hk;have GG:(x.k==0)=true\/(x.k==0)=false/\(x.k==1)=true/\decide (0<dd)=true:=by
   by_cases h0:x.k=0
   ·exact Or.inl (by rw[DJ];exact h0)
   ·have:=hk.resolve_left h0
    exact Or.inr ⟨by rw[BK];exact h0,by rw[DJ];exact this.1,QJ<|G.out.2 this.2⟩
  have z2:=ZW.out.c2;have C2:=AA<|Nr a (n:=2) zu HR.out;clear hk hl CT;rcases GG with ga | ⟨ga,gb,gc⟩;all_goals
   go_wp2_with fail
   refine C2.out.mono ?_;rintro e w2 ⟨⟨L,hL,rfl,hB⟩,hb⟩;exact⟨rfl,HK.out.AR hb,Or.inl ⟨2,_,Y.out,zu,L,zx,rfl,hB⟩⟩
 have Y:=AA<|Zzm (t:=t) (p:=p) AX hl hk;have GG:(x.k==0)=false/\(x.k==1)=false\/(x.k==0)=false/\(x.k==1)=true/\decide (0<dd)=false:=by
  have h0:x.k≠0:=fun z=>hk (Or.inl z);by_cases h1:x.k=1
  ·exact Or.inr ⟨by rw[BK];exact h0,by rw[DJ];exact h1,Oi fun z=>hk (Or.inr ⟨h1,G.out.1 z⟩)⟩
  ·exact Or.inl ⟨by rw[BK];exact h0,by rw[BK];exact h1⟩
 clear hk hl;rcases GG with⟨ga,gb⟩ | ⟨ga,gb,gc⟩;all_goals
  go_wp2_with fail
  refine CT.out.mono ?_;rintro e w1 ⟨AZ,⟨n,r,hy,hn,L,hL,rfl,hB⟩ | ⟨v,y,x1,r1,hy,rfl,hv,hr1⟩⟩
  ·exact⟨rfl,HK.out.trans AZ,Or.inl ⟨n,r,Y.out.trans<|Ef hy,hn,L,zx,rfl,hB⟩⟩
  obtain rfl:v=IK y:=hv;have M1:=AA<|L1.out.of<|AZ.block _ zx zx;have M0:=AA<|L0.out.of<|AZ.block _ zx zx;have R:=AA<|AF (HK.out.trans AZ)<|AF hr1<|Y.out.trans<|Cc hy;have hs1:=AZ.size;clear AZ hr1 hy CT L0 L1 Y d0 d1 d2 d3 d4 d5 sd y0 y1 y2 y3 sy CB;obtain⟨d0,d1,d2,d3,d4,d5,sd⟩:=M1.out.six;obtain⟨y0,y1,y2,y3,sy⟩:=M0.out.four;go_wp2
  refine CQ (by simp[results,results212,go_sem,y0,y1,y2,y3];try rfl) rfl ?_;exact⟨R.out.1.r4 lr,Or.inr ⟨_,_,_,_,R.out.2.2,rfl,⟨[.int .i64 x.k,.int .i64 x.i,.string x.s,.slice none 0 0],[],rfl,⟨_,rfl,hx.2.2.1,hx.2.2.2,hx.2.1,AO.nil⟩,Af.nil _ _⟩,R.out.2.1.Fj<|Iz zx⟩⟩
def uq: ∀ d,d<=3->jJ d
 | 0,h=>Zsn h Z3f
 | d+1,h=>Zsn h (Z65 (uq d zx) zx)
end Go.P
namespace Go.W
variable {s:ByteArray}
def Yfr {k:Nat}{m:ByteArray}(hk:JO[k]?=some m)(h0: ∀ j m',j<k->JO[j]?=some m'->m'≠s)(h1:m=s):OB s=k+1:=by
 have:JO.findIdx? (fun m=>decide (m=s))=some k:=by
  rw[List.findIdx?_eq_some_iff_getElem];refine⟨(Gl.1 hk).1,by rw[(Gl.1 hk).2];exact QJ h1,?_⟩;intro j hj;have hl:j<JO.length:=Nat.lt_trans hj (Gl.1 hk).1
  have:=h0 j JO[j] hj<|DK hl
  simpa using this
 unfold OB;rw[this]
def Yfs (h0: ∀ j m',j<7->JO[j]?=some m'->m'≠s):OB s=0:=by
 have:JO.findIdx? (fun m=>decide (m=s))=none:=by
  rw[List.findIdx?_eq_none_iff];intro m hm;obtain⟨j,hj,rfl⟩:=List.getElem_of_mem hm
  have:=h0 j JO[j] hj<|DK hj
  simpa using this
 unfold OB;rw[this]
def Yev (s:ByteArray):OB s<=7:=by
 unfold OB;split
 ·rename_i i h
  have:=(List.findIdx?_eq_some_iff_getElem.1 h).1
  simp[JO]at this;omega
 ·omega
end Go.W
namespace Go.P
variable {a:Nat->Addr}{w:World}
def Aa.ops (h:Aa a w)(i:Nat)(s:ByteArray)(hs:JO[i]?=some s):w.cell? ⟨13,i,none⟩=some (.string s):=by
 obtain⟨_,h0,h1⟩:=h;exact(h1 _ _ zu).2.trans<|h0.ops i s hs
def Ycj (k:Nat)(h:k<7): ∃ m,JO[k]?=some m/\ ∀ w,(Instr.index 293 (.agg #[.string<|FH 1,.string<|FH 2,.string<|FH 3,.string<|FH 4,.string<|FH 5,.string<|FH 6,.string<|FH 7])<|.int .i64 (k:Int)).run prog w= .ok (.string m) w:=by
 have g:k=0\/k=1\/k=2\/k=3\/k=4\/k=5\/k=6:=zx
 rcases g with rfl | rfl | rfl | rfl | rfl | rfl | rfl;all_goals exact⟨_,rfl,fun _=>zt⟩
def Yff (w:World) (s:ByteArray) (iv:Value) (wr:World):Prop:= ∃ k:Nat,k<=7/\iv= .int .i64 (k:Int)/\wr=w/\ ∀ j m',j<k->JO[j]?=some m'->m'≠s
def Zyh (Z:Aa a w)(s:ByteArray):Calls prog 213 #[.string s] w fun e w'=>e= .returned (.int .i64 (OB s:Nat))/\w'=w:=by
 have m0:=Z.ops 0 _ rfl;have m1:=Z.ops 1 _ rfl;have m2:=Z.ops 2 _ rfl;have m3:=Z.ops 3 _ rfl;have m4:=Z.ops 4 _ rfl;have m5:=Z.ops 5 _ rfl;have m6:=Z.ops 6 _ rfl;clear Z;go_in
 go_wp2_with fail
 clear m0 m1 m2 m3 m4 m5 m6;go_loopw [6] (fun iv wr=>Yff w s iv wr) (fun iv _=>7-nZ iv)
 case atStart=>exact⟨0,zx,rfl,rfl,fun j _ hj=>absurd hj zx⟩
 case round=>
  obtain⟨k,hk,rfl,rfl,hall⟩:=hrel;have A:=AA hall;clear hall;by_cases hlt:k<7
  ·obtain⟨m,hm,ik⟩:=Ycj k hlt;have g:(k:Int)<7:=zx
   by_cases he:m=s
   ·have Y:=AA<|Yfr hm A.out he;have g2:(m.toList==s.toList)=true:=by rw[mg];exact QJ he
    clear hm A he;go_wp2
    go_ret
    rw[Y.out];exact⟨zw,rfl⟩
   ·have g2:(m.toList==s.toList)=false:=by rw[mg];exact Oi he
    have S:AC (∀ j m',j<k+1->JO[j]?=some m'->m'≠s):=⟨fun j m' hj S9=>by
     by_cases hjk:j=k
     ·subst hjk;rw[hm]at S9;cases S9;exact he
     ·exact A.out j m' zx S9⟩
    clear hm A he;go_wp2
    exact⟨⟨k+1,zx,zw,rfl,S.out⟩,by simp[nZ];omega⟩
  ·obtain rfl:k=7:=zx
   have Y:=AA<|Yfs A.out;go_wp2
   go_ret
   rw[Y.out];exact⟨rfl,rfl⟩
end Go.P
namespace Go.P
variable {a:Nat->Addr}{w:World}{b p:Nat}{t:ByteArray}{x:Tk}
def Z8x (x:Tk)(u:World):(Instr.field 153 (.agg #[.int .i64 (x.at_:Int),.string x.text,.int .i64 x.k,.int .i64 x.i,.string x.s,.slice none 0 0]) 1).run prog u= .ok (.string x.text) u:=zt
def Yek (x:Tk)(u:World):(Instr.field 153 (.agg #[.int .i64 (x.at_:Int),.string x.text,.int .i64 x.k,.int .i64 x.i,.string x.s,.slice none 0 0]) 0).run prog u= .ok (.int .i64 (x.at_:Int)) u:=zt
def Zwv (Z:Aa a w)(h:Rd w b t p x)(hx:Ic x):
  Calls prog 118 #[.pointer<|Qb b 0] w (IA a b t (G5 (Bo AY 4) w.heap.size) w<|OZ t x p):=by
 have hg:=h.2.2.2;have ht:=h.2.1;have hb:=h.1.lt;have L0:=AA<|AJ.new w #[.string ⟨#[]⟩,.slice none 0 0] 95;have K0:=AA<|(Ac.refl b w).alloc<|.cells #[.string ⟨#[]⟩,.slice none 0 0] 95;have H0:=AA<|h.alloc<|.cells #[.string ⟨#[]⟩,.slice none 0 0] 95;have Z0:=AA<|Z.below<|(AQ _ w).alloc lr<|.cells #[.string ⟨#[]⟩,.slice none 0 0] 95;obtain⟨c0,c1,c2,c3,c4,c5,c6,c7,sf⟩:=H0.out.1.eight;have CW:=AA<|Zr8 x hx.1<|w.alloc<|.cells #[.string ⟨#[]⟩,.slice none 0 0] 95;have CK:=AA<|Z2n x.text;unfold IK at CW;clear Z h;go_in
 go_wp2_with fail
 refine mq CW.out ?_;rintro w1 hb1;have DZ:=AA<|H0.out.of hb1;have K1:=AA<|K0.out.AR hb1;have Z1:=AA<|Z0.out.below hb1;have L1:=AA<|L0.out.of<|hb1.block _ zw;have hs1:=hb1.size;simp at hs1;clear c0 c1 c2 c3 c4 c5 c6 c7 sf hb1 K0 H0 Z0 L0 CW;obtain⟨c0,c1,c2,c3,c4,c5,c6,c7,sf⟩:=DZ.out.1.eight;by_cases Az:GM x.text=true/\TZ x.text=false
 ·have Y:=AA (show OZ t x p=BU (EP t x p) fun _ x1 p1=>BU (JH t [40] x1 p1) fun _ x2 p2=>BU (Oe t (EO t 3) [41] x2 p2) fun l x3 p3=> .ok (⟨x.text,l⟩,x3,p3)from if_pos Az);have CT:=AA<|Ro Z1.out DZ.out;have C1:=AA fun u q y (h1:Aa a u) (h2:Rd u b t q y)=>bL ⟨#[40]⟩ h1 h2;have C2:=AA fun u q y (h1:Aa a u) (h2:Rd u b t q y) (h3:Ic y)=>Zso (uq 3 zx) ⟨#[41]⟩ h1 h2 h3;rw[show(⟨#[40]⟩:ByteArray).toList=[40]from V3 [40]]at C1;rw[show(⟨#[41]⟩:ByteArray).toList=[41]from V3 [41],show((3-3:Nat):Int)=0 from rfl]at C2;rw[Az.2]at CK;rw[Az.1];clear Az;go_wp2_with (go_at_call 173;refine(CK.out _).mono ?_;rintro e w' ⟨rfl,rfl⟩)
  refine CT.out.mono ?_;rintro e w2 ⟨hk2,⟨n,r,hy,hn,L,hL,rfl,hB⟩ | ⟨v,y,x2,r2,hy,rfl,hv,hr2⟩⟩
  ·exact⟨rfl,K1.out.trans hk2,Or.inl ⟨n,r,Y.out.trans<|Ef hy,hn,L,zx,rfl,hB⟩⟩
  obtain rfl:v=IK y:=hv;obtain⟨hx2,rfl⟩:=Tt ht hy;have Y2:=AA<|Y.out.trans<|Cc hy;have hs2:=hk2.size;have BF:=AA hr2;have K2:=AA<|K1.out.trans hk2;have Z2:=AA<|Z1.out.keeps hk2 hg;have L2:=AA<|L1.out.of<|hk2.block _ zx zx;clear c0 c1 c2 c3 c4 c5 c6 c7 sf hk2 hr2 hy CT Y DZ K1 Z1 L1;unfold IK;have fd:=Z8x y;go_wp2_with fail
  clear fd;refine(C1.out _ _ _ Z2.out BF.out).mono ?_;rintro e w3 ⟨hk3,⟨n,r,hy,hn,L,hL,rfl,hB⟩ | ⟨v,z,x3,r3,hy,rfl,hv,hr3⟩⟩
  ·exact⟨rfl,K2.out.trans hk3,Or.inl ⟨n,r,Y2.out.trans<|Ef hy,hn,L,zx,rfl,hB⟩⟩
  obtain rfl:v= .tuple #[]:=hv;have hx3:=iq ht hy;have Y3:=AA<|Y2.out.trans<|Cc hy;have hs3:=hk3.size;have Du:=AA hr3;have K3:=AA<|K2.out.trans hk3;have Z3:=AA<|Z2.out.keeps hk3 hg;have L3:=AA<|L2.out.of<|hk3.block _ zx zx;clear hk3 hr3 hy Y2 BF K2 Z2 L2;go_wp2_with fail
  refine(C2.out _ _ _ Z3.out Du.out hx3).mono ?_;rintro e w4 ⟨hk4,⟨n,r,hy,hn,L,hL,rfl,hB⟩ | ⟨v,l,x4,r4,hy,rfl,⟨F,hR,hN⟩,hr4⟩⟩
  ·exact⟨rfl,K3.out.trans hk4,Or.inl ⟨n,r,Y3.out.trans<|Ef hy,hn,L,zx,rfl,hB⟩⟩
  obtain⟨p1,cc,rfl⟩:=AO.form hR;have QW:=hk4.size;obtain⟨y0,y1,sy⟩:=(L3.out.of<|hk4.block _ zx zx).two;have R:=AA<|AF (K3.out.trans hk4)<|AF hr4<|AF (Y3.out.trans<|Cc hy)<|AF hR hN;clear hk4 hr4 hy Y3 Du K3 Z3 L3 hR hN;go_wp2
  refine CQ (by simp[results,results118,go_sem,y0,y1];try rfl) rfl ?_;obtain⟨hk,hr,hy,hR,hN⟩:=R.out;exact⟨hk.r2 lr,Or.inr ⟨_,⟨y.text,l⟩,x4,r4,hy,rfl,⟨[.string y.text,.slice p1 l.length cc],F,rfl,⟨_,rfl,hx.1,AO.stable (BH.stable (ty:=AY) 4) _ _ _ _ _ hR fun j hj=>lm (by have:=hN.ge j hj;omega)⟩,hN.later zx zw⟩,hr.Fj<|lm zx⟩⟩
 ·have Y:=AA (show OZ t x p= .error (2,x.at_)from if_neg Az);have GG:GM x.text=false\/GM x.text=true/\TZ x.text=true:=by
   cases h1:GM x.text
   ·exact Or.inl rfl
   ·cases h2:TZ x.text
    ·exact absurd ⟨h1,h2⟩ Az
    ·exact Or.inr ⟨rfl,rfl⟩
  have z2:=Z1.out.c2;have C2:=AA<|Nr a (n:=2) zu DZ.out;clear Az;rcases GG with ga | ⟨ga,gb⟩
  case' inr=>rw[gb]at CK
  all_goals
   rw[ga];go_wp2_with (go_at_call 173;refine(CK.out _).mono ?_;rintro e w' ⟨rfl,rfl⟩)
   refine C2.out.mono ?_;rintro e w2 ⟨⟨L,hL,rfl,hB⟩,hb⟩;exact⟨rfl,K1.out.AR hb,Or.inl ⟨2,_,Y.out,zu,L,zx,rfl,hB⟩⟩
def Z3d (Z:Aa a w)(h:Rd w b t p x)(hx:Ic x):
  Calls prog 177 #[.pointer<|Qb b 0] w (IA a b t (G5 (Ee AY 4) w.heap.size) w<|Vx t x p):=by
 have hg:=h.2.2.2;have ht:=h.2.1;have hb:=h.1.lt;have CT:=AA fun u q y (h1:Aa a u) (h2:Rd u b t q y) (h3:Ic y)=>uq 3 zx h1 h2 h3;rw[show((3-3:Nat):Int)=0 from rfl]at CT;obtain⟨O,hO⟩: ∃ O:Obj,O= .cells #[.int .i64 0,.int .i64 0,.int .i64 0,.string ⟨#[]⟩,.slice none 0 0,.int .i64 0,.int .i64 0,.string ⟨#[]⟩,.slice none 0 0] 102:=⟨_,rfl⟩;have L0:=AA<|AJ.new w #[.int .i64 0,.int .i64 0,.int .i64 0,.string ⟨#[]⟩,.slice none 0 0,.int .i64 0,.int .i64 0,.string ⟨#[]⟩,.slice none 0 0] 102;have K0:=AA<|(Ac.refl b w).alloc O;have H0:=AA<|h.alloc O;have Z0:=AA<|Z.below<|(AQ _ w).alloc lr O;have hs0:(w.alloc O).heap.size=w.heap.size+1:=zw
 rw[<- hO]at L0;have CR:=AA fun u q y (h2:Rd u b t q y)=>Nr a (n:=2) zu h2;have CK:=AA fun u q y (h1:Aa a u) (h2:Rd u b t q y)=>Ro h1 h2;have CO:=AA fun u (h1:Aa a u) s=>Zyh h1 s;have Y:AC (Vx t x p=BU (EO t 3 x p) fun a x1 p1=>if OB x1.text=0 then .error (2,x1.at_)else BU (EP t x1 p1) fun _ x2 p2=>BU (EO t 3 x2 p2) fun b x3 p3=> .ok (⟨OB x1.text,a,b⟩,x3,p3)):=⟨rfl⟩;clear Z h;go_in
 go_wp2_with fail
 rw[<- hO];refine(CT.out _ _ _ Z0.out H0.out hx).mono ?_;rintro e w1 ⟨AZ,⟨n,r,hy,hn,L,hL,rfl,hB⟩ | ⟨v,z,x1,r1,hy,rfl,⟨vs,F,rfl,hQ,hN⟩,hr1⟩⟩
 ·exact⟨rfl,K0.out.trans AZ,Or.inl ⟨n,r,Y.out.trans<|Ef hy,hn,L,zx,rfl,hB⟩⟩
 obtain⟨p1,cc,rfl⟩:=BH.vals hQ;have Y1:=AA<|Y.out.trans<|Cc hy;have hs1:=AZ.size;have QF:=AA<|AF hQ hN;have LF:=AA<|AJ.new w1 #[.int .i64 z.k,.int .i64 z.i,.string z.t,.slice p1 z.l.length cc] 100;have DZ:=AA<|hr1.alloc<|.cells #[.int .i64 z.k,.int .i64 z.i,.string z.t,.slice p1 z.l.length cc] 100;have K1:=AA<|(K0.out.trans AZ).alloc<|.cells #[.int .i64 z.k,.int .i64 z.i,.string z.t,.slice p1 z.l.length cc] 100;have Z1:=AA<|(Z0.out.keeps AZ hg).below<|(AQ _ w1).alloc lr<|.cells #[.int .i64 z.k,.int .i64 z.i,.string z.t,.slice p1 z.l.length cc] 100;have L1:=AA<|(L0.out.of<|AZ.block _ zx zx).alloc<|.cells #[.int .i64 z.k,.int .i64 z.i,.string z.t,.slice p1 z.l.length cc] 100;clear AZ hr1 hy hQ hN Y K0 H0 Z0 L0 hO;obtain⟨c0,c1,c2,c3,c4,c5,c6,c7,sf⟩:=DZ.out.1.eight;go_wp2_with fail
 obtain⟨w2,hw2⟩: ∃ w2,w1.alloc (.cells #[.int .i64 z.k,.int .i64 z.i,.string z.t,.slice p1 z.l.length cc] 100)=w2:=⟨_,rfl⟩;have hs2:w2.heap.size=w1.heap.size+1:=by rw[<- hw2];simp
 have QF2:AC (BH AY 4 w2 [.int .i64 z.k,.int .i64 z.i,.string z.t,.slice p1 z.l.length cc] z F):=⟨BH.stable (ty:=AY) 4 _ _ _ _ _ QF.out.1 fun j hj=>by rw[<- hw2];exact Ah _ _ _<|QF.out.2.lt j hj⟩;have cZ:=QF.out.2;rw[hw2]at LF DZ K1 Z1 L1 c0 c1 c2 c3 c4 c5 c6 c7 sf⊢;clear hw2 QF;refine(CO.out _ Z1.out _).mono ?_;rintro e w' ⟨rfl,rfl⟩;have ol:=Yev x1.text;generalize OB x1.text=o at*;by_cases ho:o=0
 ·have Y2:=AA<|Y1.out.trans<|if_pos ho;have g1:((o:Int)==0)=true:=by rw[DJ];omega
  have z2:=Z1.out.c2;clear ho;go_wp2_with fail
  refine(CR.out _ _ _ DZ.out).mono ?_;rintro e w3 ⟨⟨L,hL,rfl,hB⟩,hb⟩;exact⟨rfl,K1.out.AR hb,Or.inl ⟨2,_,Y2.out,zu,L,zx,rfl,hB⟩⟩
 have Y2:=AA<|Y1.out.trans<|if_neg ho;have g1:((o:Int)==0)=false:=by rw[BK];omega
 clear ho Y1;go_wp2_with fail
 refine(CK.out _ _ _ Z1.out DZ.out).mono ?_;rintro e w3 ⟨hk3,⟨n,r,hy,hn,L,hL,rfl,hB⟩ | ⟨v,y,x3,r3,hy,rfl,hv,hr3⟩⟩
 ·exact⟨rfl,K1.out.trans hk3,Or.inl ⟨n,r,Y2.out.trans<|Ef hy,hn,L,zx,rfl,hB⟩⟩
 obtain rfl:v=IK y:=hv;obtain⟨hx3,rfl⟩:=Tt ht hy;have Y3:=AA<|Y2.out.trans<|Cc hy;have hs3:=hk3.size;have Du:=AA hr3;have K3:=AA<|K1.out.trans hk3;have Z3:=AA<|Z1.out.keeps hk3 hg;have L3:=AA<|L1.out.of<|hk3.block _ zx zx;have xR:=AA<|LF.out.of<|hk3.block _ zx zx;have QF3:=AA (BH.stable (ty:=AY) 4 _ _ _ _ _ QF2.out fun j hj=>hk3.block j (by have:=cZ.lt j hj;omega) (by have:=cZ.ge j hj;omega));clear hk3 hr3 hy Y2 DZ K1 Z1 L1 LF QF2 c0 c1 c2 c3 c4 c5 c6 c7 sf;obtain⟨f0,f1,f2,f3,sg⟩:=xR.out.four;have ZD:=AA Z3.out.drew;have HD:=AA Du.out.drew;have KD:=AA K3.out.drew;go_wp2
 go_region_with (go_at_call 212;refine(CT.out _ _ _ ZD.out HD.out hx3).mono ?_;rintro e w4 ⟨hk4,⟨n,r,hy,hn,L,hL,rfl,hB⟩ | ⟨v,z4,x4,r4,hy,rfl,⟨vs,F4,rfl,hQ,hN⟩,hr4⟩⟩;(exact⟨rfl,KD.out.trans hk4,Or.inl ⟨n,r,Y3.out.trans<|Ef hy,hn,L,(by show _<=L;have:w3.heap.size<=L:=hL;omega),rfl,hB⟩⟩);have LF4:=xR.out.of (w':=w4)<|hk4.block _ (by show _<w3.heap.size;omega) zx;obtain⟨e0,e1,e2,e3,-⟩:=LF4.four;obtain⟨p4,cc4,rfl⟩:=BH.vals hQ;have LR:=L3.out.of (w':=w4)<|hk4.block _ (by show _<w3.heap.size;omega) zx;obtain⟨y0,y1,y2,y3,y4,y5,y6,y7,y8,sy⟩:=LR.nine)
 all_goals
  have QW:w3.heap.size<=w4.heap.size:=hk4.size;have QF4:=AA (BH.stable (ty:=AY) 4 _ w4 _ _ _ QF3.out fun j hj=>hk4.block j (by show j<w3.heap.size;have:=cZ.lt j hj;omega) (by have:=cZ.ge j hj;omega));have R:=AA<|AF (KD.out.trans hk4)<|AF hr4<|AF (Y3.out.trans<|Cc hy)<|AF hQ hN;clear hk4 hr4 hy Y3 Du K3 Z3 L3 hQ hN f0 f1 f2 f3 sg QF3 xR e0 e1 e2 e3 LF4 ZD HD KD;go_wp2
  refine CQ (by simp[results,results177,go_sem,y0,y1,y2,y3,y4,y5,y6,y7,y8];try rfl) rfl ?_;obtain⟨hk,hr,hy,hQ,hN⟩:=R.out;have hN':Af w3.heap.size w4 F4:=hN;exact⟨hk.r9 lr,Or.inr ⟨_,⟨(o:Int),z,z4⟩,x4,r4,hy,rfl,⟨[.int .i64 (o:Int),.int .i64 z.k,.int .i64 z.i,.string z.t,.slice p1 z.l.length cc,.int .i64 z4.k,.int .i64 z4.i,.string z4.t,.slice p4 z4.l.length cc4],F++F4,rfl,⟨_,_,F,F4,rfl,⟨by show(-9223372036854775808:Int)<=(o:Int);omega,by show(o:Int)<=9223372036854775807;omega⟩,BH.stable (ty:=AY) 4 _ _ _ _ _ QF4.out fun j hj=>bH (by have:=cZ.ge j hj;omega),BH.stable (ty:=AY) 4 _ _ _ _ _ hQ fun j hj=>bH (by have:=hN'.ge j hj;omega),rfl⟩,(Af.append (cZ.later (B':=w.heap.size) (w':=w1) zx lr) hN' zx zx zx).later lr zw⟩,hr.Fj<|bH zx⟩⟩
end Go.P
