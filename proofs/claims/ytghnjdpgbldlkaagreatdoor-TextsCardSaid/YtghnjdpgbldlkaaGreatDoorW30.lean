import Derived.Test.YtghnjdpgbldlkaaGreatDoorW29
set_option linter.defProp false
set_option maxRecDepth 100000
set_option maxHeartbeats 8000000
set_option linter.unusedSimpArgs false
open Go.Proofs Go.RowKit Go.W Tryz
namespace Go.P
variable {a:Nat->Addr}{w w0 w2 w3:World}{b p L c1 c2 c3 c':Nat}{t:ByteArray}{x:Tk}{k:Bk}{p1 p2 p3 p':Option Addr}{F1 F2 F3 F':List Nat}
def Zv0:Bj 121:=DL func121 zt rfl
def Zqb (Z:Aa a w)(h:Rd w b t p x):
  Calls prog 71 #[.pointer<|Qb b 0] w (IA a b t (Px 98 4 (Cj AY 4) w.heap.size) w<|Ti t x p):=by
 have Dw:=G6;have hg:=h.2.2.2;have ht:=h.2.1;have CW:=AA<|bL ⟨#[105,102]⟩ Z h;rw[show(⟨#[105,102]⟩:ByteArray).toList=[105,102]from V3 [105,102]]at CW;have F:AC (Ti t x p=BU (JH t [105,102] x p) fun _ x1 p1=>Gg t (MN t) [111,114] 4 5 [] x1 p1):=⟨rfl⟩;have ZW:=AA Z;clear Z h;go_in
 go_wp2_with fail
 refine CW.out.mono ?_;rintro e w1 ⟨AZ,⟨n,r,hy,hn,L,hL,rfl,hB⟩ | ⟨v,y,x1,r1,hy,rfl,hv,hr1⟩⟩
 ·exact⟨rfl,AZ,Or.inl ⟨n,r,F.out.trans<|Ef hy,hn,L,hL,rfl,hB⟩⟩
 obtain rfl:v= .tuple #[]:=hv;have Z1:=ZW.out.keeps AZ hg;have C:=AA (Zrj (d:=4) (f:=MN t) Zv0 (first:=#[.pointer<|Qb b 0]) (cap:=#[]) (m:=4) ⟨#[111,114]⟩ Z1 hr1 (iq ht hy) zx fun u q y hu=>Zww hu.2.2.1 hu.1 hu.2.2.2);rw[show(⟨#[111,114]⟩:ByteArray).toList=[111,114]from V3 [111,114]]at C;have Y1:=AA<|F.out.trans<|Cc hy;have K1:=AA AZ;have hs1:=AZ.size;clear AZ hy hr1 Z1 CW F;go_wp2_with fail
 refine C.out.mono ?_;rintro e w2 ⟨hk2,⟨n,r,hy,hn,L,hL,rfl,hB⟩ | ⟨v,l,x2,r2,hy,rfl,⟨G,hR,hN⟩,hr2⟩⟩
 ·exact⟨rfl,K1.out.trans hk2,Or.inl ⟨n,r,Y1.out.trans hy,hn,L,zx,rfl,hB⟩⟩
 obtain⟨p1,cc,rfl⟩:=AO.form hR;have R:=AA<|AF (K1.out.trans hk2)<|AF hr2<|AF (Y1.out.trans hy)<|AF hR hN;clear hk2 hy hr2 hR hN;go_wp2
 go_ret
 obtain⟨hk,hr,hy,hR,hN⟩:=R.out;exact⟨hk,Or.inr ⟨_,l,x2,r2,hy,rfl,⟨G,hR,hN.later hs1 lr⟩,hr⟩⟩
structure MS (w wr:World) (L:Nat) (k:Bk) (p1:Option Addr) (c1:Nat) (p2:Option Addr) (c2:Nat) (p3:Option Addr) (c3:Nat) (F1 F2 F3:List Nat):Prop where
 blk:AJ wr L #[.slice p1 k.facts.length c1,.slice p2 k.rules.length c2,.slice p3 k.checks.length c3] 38
 row1:AO 95 2 (Bo AY 4) wr (.slice p1 k.facts.length c1) k.facts F1
 row2:AO 98 4 (Cj AY 4) wr (.slice p2 k.rules.length c2) k.rules F2
 row3:AO 65 1 (Eo AY 4) wr (.slice p3 k.checks.length c3) k.checks F3
 new1:Af (L+1) wr F1
 new2:Af (L+1) wr F2
 new3:Af (L+1) wr F3
 a12: ∀ j,j∈F1->j∉F2
 a13: ∀ j,j∈F1->j∉F3
 a23: ∀ j,j∈F2->j∉F3
 le1:k.facts.length<=24
 le2:k.rules.length<=24
 le3:k.checks.length<=24
def MS.keep {wr wq:World}(h:MS w wr L k p1 c1 p2 c2 p3 c3 F1 F2 F3)(hs:wr.heap.size<=wq.heap.size)(e: ∀ j,L<=j->j<wr.heap.size->wq.heap[j]?=wr.heap[j]?):MS w wq L k p1 c1 p2 c2 p3 c3 F1 F2 F3:=
 ⟨h.blk.of<|e _ lr h.blk.lt,AO.stable (Bo.stable (ty:=AY) 4) _ _ _ _ _ h.row1 fun j hj=>e j (by have:=h.new1.ge j hj;omega) (h.new1.lt j hj),AO.stable (Cj.stable (ty:=AY) 4) _ _ _ _ _ h.row2 fun j hj=>e j (by have:=h.new2.ge j hj;omega) (h.new2.lt j hj),AO.stable (Eo.stable (ty:=AY) 4) _ _ _ _ _ h.row3 fun j hj=>e j (by have:=h.new3.ge j hj;omega) (h.new3.lt j hj),h.new1.later lr hs,h.new2.later lr hs,h.new3.later lr hs,h.a12,h.a13,h.a23,h.le1,h.le2,h.le3⟩
def MS.add1 {G:List Nat}{z:A}(h:MS w0 w2 L k p1 c1 p2 c2 p3 c3 F1 F2 F3)(g:U5 95 2 (Bo AY 4) (L+1) w2 w3 F1 G (.slice p' (k.facts.length+1) c') (k.facts++[z]) F')(hne:k.facts.length≠24)(d2: ∀ j,j∈G->j∉F2)(d3: ∀ j,j∈G->j∉F3):
  MS w0 (w3.setCell ⟨L,0,none⟩<|.slice p' (k.facts.length+1) c') L {k with facts:=k.facts++[z]} p' c' p2 c2 p3 c3 F' F2 F3:=by
 have hl:=h.blk.of<|g.same L h.blk.lt (fun hj=>by have:=h.new1.ge _ hj;omega);have l1:=h.le1
 exact{blk:=(by have:=hl.set 0<|.slice p' (k.facts.length+1) c';simpa using this),row1:=(by have:=AO.stable (Bo.stable (ty:=AY) 4) _ (w3.setCell ⟨L,0,none⟩<|.slice p' (k.facts.length+1) c') _ _ _ g.row fun j hj=>Au _ _ _ j (by show j≠L;have:=g.new.ge j hj;omega);simpa using this),row2:=AO.stable (Cj.stable (ty:=AY) 4) _ _ _ _ _ h.row2 fun j hj=>(Au _ _ _ j (by show j≠L;have:=h.new2.ge j hj;omega)).trans (g.same j (h.new2.lt j hj) fun Ao=>h.a12 j Ao hj),row3:=AO.stable (Eo.stable (ty:=AY) 4) _ _ _ _ _ h.row3 fun j hj=>(Au _ _ _ j (by show j≠L;have:=h.new3.ge j hj;omega)).trans (g.same j (h.new3.lt j hj) fun Ao=>h.a13 j Ao hj),new1:=g.new.later lr zw,new2:=h.new2.later lr (by have:=g.size;simp;omega),new3:=h.new3.later lr (by have:=g.size;simp;omega),a12:=(fun j hj Ao=>by
  rcases g.sub j hj with h1 | h1 | h1
  ·exact h.a12 j h1 Ao
  ·exact d2 j h1 Ao
  ·have:=h.new2.lt j Ao;omega),a13:=(fun j hj Ao=>by
  rcases g.sub j hj with h1 | h1 | h1
  ·exact h.a13 j h1 Ao
  ·exact d3 j h1 Ao
  ·have:=h.new3.lt j Ao;omega),a23:=h.a23,le1:=(by simp;omega),le2:=h.le2,le3:=h.le3}
def MS.tV {G:List Nat}{z:R}(h:MS w0 w2 L k p1 c1 p2 c2 p3 c3 F1 F2 F3)(g:U5 98 4 (Cj AY 4) (L+1) w2 w3 F2 G (.slice p' (k.rules.length+1) c') (k.rules++[z]) F')(hne:k.rules.length≠24)(d1: ∀ j,j∈G->j∉F1)(d3: ∀ j,j∈G->j∉F3):
  MS w0 (w3.setCell ⟨L,1,none⟩<|.slice p' (k.rules.length+1) c') L {k with rules:=k.rules++[z]} p1 c1 p' c' p3 c3 F1 F' F3:=by
 have hl:=h.blk.of<|g.same L h.blk.lt (fun hj=>by have:=h.new2.ge _ hj;omega);have l2:=h.le2
 exact{blk:=(by have:=hl.set 1<|.slice p' (k.rules.length+1) c';simpa using this),row1:=AO.stable (Bo.stable (ty:=AY) 4) _ _ _ _ _ h.row1 fun j hj=>(Au _ _ _ j (by show j≠L;have:=h.new1.ge j hj;omega)).trans (g.same j (h.new1.lt j hj) fun Ao=>h.a12 j hj Ao),row2:=(by have:=AO.stable (Cj.stable (ty:=AY) 4) _ (w3.setCell ⟨L,1,none⟩<|.slice p' (k.rules.length+1) c') _ _ _ g.row fun j hj=>Au _ _ _ j (by show j≠L;have:=g.new.ge j hj;omega);simpa using this),row3:=AO.stable (Eo.stable (ty:=AY) 4) _ _ _ _ _ h.row3 fun j hj=>(Au _ _ _ j (by show j≠L;have:=h.new3.ge j hj;omega)).trans (g.same j (h.new3.lt j hj) fun Ao=>h.a23 j Ao hj),new1:=h.new1.later lr (by have:=g.size;simp;omega),new2:=g.new.later lr zw,new3:=h.new3.later lr (by have:=g.size;simp;omega),a12:=(fun j hj Ao=>by
  rcases g.sub j Ao with h1 | h1 | h1
  ·exact h.a12 j hj h1
  ·exact d1 j h1 hj
  ·have:=h.new1.lt j hj;omega),a13:=h.a13,a23:=(fun j hj Ao=>by
  rcases g.sub j hj with h1 | h1 | h1
  ·exact h.a23 j h1 Ao
  ·exact d3 j h1 Ao
  ·have:=h.new3.lt j Ao;omega),le1:=h.le1,le2:=(by simp;omega),le3:=h.le3}
def MS.tQ {G:List Nat}{z:(List R)}(h:MS w0 w2 L k p1 c1 p2 c2 p3 c3 F1 F2 F3)(g:U5 65 1 (Eo AY 4) (L+1) w2 w3 F3 G (.slice p' (k.checks.length+1) c') (k.checks++[z]) F')(hne:k.checks.length≠24)(d1: ∀ j,j∈G->j∉F1)(d2: ∀ j,j∈G->j∉F2):
  MS w0 (w3.setCell ⟨L,2,none⟩<|.slice p' (k.checks.length+1) c') L {k with checks:=k.checks++[z]} p1 c1 p2 c2 p' c' F1 F2 F':=by
 have hl:=h.blk.of<|g.same L h.blk.lt (fun hj=>by have:=h.new3.ge _ hj;omega);have l3:=h.le3
 exact{blk:=(by have:=hl.set 2<|.slice p' (k.checks.length+1) c';simpa using this),row1:=AO.stable (Bo.stable (ty:=AY) 4) _ _ _ _ _ h.row1 fun j hj=>(Au _ _ _ j (by show j≠L;have:=h.new1.ge j hj;omega)).trans (g.same j (h.new1.lt j hj) fun Ao=>h.a13 j hj Ao),row2:=AO.stable (Cj.stable (ty:=AY) 4) _ _ _ _ _ h.row2 fun j hj=>(Au _ _ _ j (by show j≠L;have:=h.new2.ge j hj;omega)).trans (g.same j (h.new2.lt j hj) fun Ao=>h.a23 j hj Ao),row3:=(by have:=AO.stable (Eo.stable (ty:=AY) 4) _ (w3.setCell ⟨L,2,none⟩<|.slice p' (k.checks.length+1) c') _ _ _ g.row fun j hj=>Au _ _ _ j (by show j≠L;have:=g.new.ge j hj;omega);simpa using this),new1:=h.new1.later lr (by have:=g.size;simp;omega),new2:=h.new2.later lr (by have:=g.size;simp;omega),new3:=g.new.later lr zw,a12:=h.a12,a13:=(fun j hj Ao=>by
  rcases g.sub j Ao with h1 | h1 | h1
  ·exact h.a13 j hj h1
  ·exact d1 j h1 hj
  ·have:=h.new1.lt j hj;omega),a23:=(fun j hj Ao=>by
  rcases g.sub j Ao with h1 | h1 | h1
  ·exact h.a23 j hj h1
  ·exact d2 j h1 hj
  ·have:=h.new2.lt j hj;omega),le1:=h.le1,le2:=h.le2,le3:=(by simp;omega)}
def Ydk (a:Nat->Addr) (b:Nat) (t:ByteArray) (w0:World) (L:Nat) (Y:Re Bk) (e:Ending) (w':World):Prop:=
 Ac b w0 w'/\((∃ n p,Y= .error (n,p)/\n≠0/\Tm a n p w0.heap.size e w')\/ ∃ k p1 c1 p2 c2 p3 c3 F1 F2 F3 x q,Y= .ok (k,x,q)/\e= .returned (.tuple #[])/\MS w0 w' L k p1 c1 p2 c2 p3 c3 F1 F2 F3/\Rd w' b t q x)
def Z53 {d:Nat}{p:Option Addr}{c:Nat}{l:List R}{F:List Nat}(h:AO 98 4 (Cj AY d) w (.slice p l.length c) l F):Eo AY d w [.slice p l.length c] l F:=⟨_,rfl,h⟩
def Z3b (Z:Aa a w)(h:Rd w b t p x)(hK:Ac b w0 w)(hb:b<w0.heap.size)(Vg:w0.heap.size<=L)(hI:MS w0 w L k p1 c1 p2 c2 p3 c3 F1 F2 F3):
  Calls prog 65 #[.pointer<|Qb b 0,.pointer<|Qb L 0] w (Ydk a b t w0 L<|Rf t k x p):=by
 have hg:=h.2.2.2;have ht:=h.2.1;have CT:=AA<|Ro Z h;have F:AC (Rf t k x p=BU (EP t x p) fun _ x1 p1=>BU (Ti t x1 p1) fun l x2 p2=>if k.checks.length=24 then .error (4,x.at_)else .ok ({k with checks:=k.checks++[l]},x2,p2)):=⟨rfl⟩;have ZW:=AA Z;have HI:=AA hI;have HK:=AA hK;have hlL:=hI.blk.lt;have hs0:=hK.size;have le3:=hI.le3;clear Z h hI hK;go_in
 go_wp2_with fail
 refine CT.out.mono ?_;rintro e w1 ⟨AZ,⟨n,r,hy,hn,L',hL,rfl,hB⟩ | ⟨v,y,x1,r1,hy,rfl,hv,hr1⟩⟩
 ·exact⟨rfl,HK.out.trans AZ,Or.inl ⟨n,r,F.out.trans<|Ef hy,hn,L',zx,rfl,hB⟩⟩
 obtain rfl:v=IK y:=hv;obtain⟨hx1,rfl⟩:=Tt ht hy;have Y1:=AA<|F.out.trans<|Cc hy;have K1:=AA (HK.out.trans AZ).drew;have Z1:=AA (ZW.out.keeps AZ hg).drew;have DZ:=AA hr1.drew;have hs1:w.heap.size<=w1.drew.heap.size:=AZ.size;have I1:AC (MS w0 w1.drew L k p1 c1 p2 c2 p3 c3 F1 F2 F3):=⟨HI.out.keep AZ.size fun j h1 h2=>AZ.block j h2 zx⟩;have CB:=AA<|Zqb Z1.out DZ.out;obtain⟨f0,f1,f2,sg⟩:=(HI.out.keep (wq:=w1) AZ.size fun j h1 h2=>AZ.block j h2 zx).blk.three;have fa:=Yek y;clear AZ hy hr1 CT F HI HK ZW;unfold IK;go_wp2
 go_region_with (first
  | (go_at_call 71
     refine CB.out.mono ?_;rintro e w2 ⟨hk2,⟨n2,r2,hy,II,L',hL,rfl,hB⟩ | ⟨v,l,x2,r2,hy,rfl,⟨G,hR,hN⟩,hr2⟩⟩
     ·exact⟨rfl,K1.out.trans hk2,Or.inl ⟨n2,r2,Y1.out.trans<|Ef hy,II,L',zx,rfl,hB⟩⟩
     obtain⟨pp,cc,rfl⟩:=AO.form hR;have I2:=I1.out.keep hk2.size fun j h1 h2=>hk2.block j h2 zx;have hs2:=hk2.size;have Z2:=Z1.out.keeps hk2 hg;have CJ:=AA<|Zwf (d:=4) (B:=L+1) (m:=24) (k:=y.at_) Z2 I2.row3 (Z53 hR) I2.blk.lt I2.new3 (hN.later zx lr) (fun j hj Ao=>by have:=I1.out.new3.lt j hj;have:=hN.ge j Ao;omega) zx le3;have D1:AC (∀ j,j∈G->j∉F1):=⟨fun j hj Ao=>by have:=I1.out.new1.lt j Ao;have:=hN.ge j hj;omega⟩;have D2:AC (∀ j,j∈G->j∉F2):=⟨fun j hj Ao=>by have:=I1.out.new2.lt j Ao;have:=hN.ge j hj;omega⟩;have HP:=AA<|Y1.out.trans<|Cc hy;have Q9:=AA<|K1.out.trans hk2;have FQ:=AA<|AF I2<|AF hr2 Z2;obtain⟨e0,e1,e2,se⟩:=I2.blk.three;clear hk2 hy hR hN hr2 I2 Z2)
  | (go_at_call 117
     refine CJ.out.mono ?_;rintro e w3 (⟨hE,⟨L',hL,rfl,hB⟩,hb3⟩ | ⟨hne,p',c',F',rfl,hG⟩)
     ·exact⟨rfl,Q9.out.AR hb3,Or.inl ⟨4,_,HP.out.trans<|if_pos hE,zu,L',AU Q9.out.size hL,rfl,hB⟩⟩
     have VG:=FQ.out.1.blk.of<|hG.same L FQ.out.1.blk.lt (fun hj=>by have:=FQ.out.1.new3.ge _ hj;omega);obtain⟨e0,e1,e2,se⟩:=VG.three;have HG:=AA hG;clear hG VG))
 all_goals
  have I3:=FQ.out.1.tQ HG.out hne D1.out D2.out;have hr3:Rd (w3.setCell ⟨L,2,none⟩<|.slice p' (k.checks.length+1) c') b t r2 x2:=⟨(FQ.out.2.1.1.of<|HG.out.same b FQ.out.2.1.1.lt (fun hj=>by have:=FQ.out.1.new3.ge _ hj;omega)).away _ _ zx _,FQ.out.2.1.2⟩;have K3:Ac b w0 (w3.setCell ⟨L,2,none⟩<|.slice p' (k.checks.length+1) c'):=(Ac.NK HG.out Q9.out (fun j hj=>by have:=FQ.out.1.new3.ge j hj;omega)).Ai _ _ _ Vg;have R:=AA<|AF K3<|AF I3<|AF hr3<|HP.out.trans<|if_neg hne;clear I3 hr3 K3;go_wp2_with fail
  exact⟨rfl,_,(by simp[results,results65,go_sem];try rfl),R.out.1,Or.inr ⟨_,_,_,_,_,_,_,_,_,_,x2,r2,R.out.2.2.2,rfl,R.out.2.1,R.out.2.2.1⟩⟩
end Go.P
namespace Go.W
variable {z:A}{x1:Tk}{p1:Nat}
section
variable {t:ByteArray} {k:Bk} {x:Tk} {p:Nat}
def Z2d {e:Int×Nat}(h:OZ t x p= .error e):Ns t k x p= .error e:=Ef h
def Z5c (h:OZ t x p= .ok (z,x1,p1))(hm:x1.text.toList≠[60,45]):Ns t k x p=if Ez z.terms []=false then .error (5,x.at_)else if k.facts.length=24 then .error (4,x.at_)else .ok ({k with facts:=k.facts++[z]},x1,p1):=by
 unfold Ns;rw[Cc h,if_neg hm]
def Z5d (h:OZ t x p= .ok (z,x1,p1))(hm:x1.text.toList=[60,45]):Ns t k x p=BU (EP t x1 p1) fun _ x2 p2=>BU (MN t x2 p2) fun r x3 p3=>if Ez z.terms r.body=false then .error (5,x.at_)else if k.rules.length=24 then .error (4,x.at_)else .ok ({k with rules:=k.rules++[{r with head:=z}]},x3,p3):=by
 unfold Ns;rw[Cc h,if_pos hm]
end
end Go.W
namespace Go.P
variable {d:Nat}{w:World}{F:List Nat}
def Z3h {r:R}{v0 v1 v2 v3:Value}(h:Cj AY d w [v0,v1,v2,v3] r F): ∃ Fh Fb Fg,MR AY d w v2 r.body Fb/\Tj AY d w v3 r.guards Fg/\F=Fh++(Fb++Fg):=by
 obtain⟨hv,bv,gv,Fh,Fb,Fg,he,hh,hb,hg,rfl⟩:=h;obtain⟨tv,rfl,_⟩:=hh;simp only[Gm,FK,List.cons.injEq,and_true]at he;obtain⟨_,_,rfl,rfl⟩:=he;exact⟨Fh,Fb,Fg,hb,hg,rfl⟩
def Bo.row {z:A}{p:Option Addr}{c:Nat}(h:Bo AY d w [.string z.name,.slice p z.terms.length c] z F):Vz AY d w (.slice p z.terms.length c) z.terms F:=by
 obtain⟨tv,he,_,h⟩:=h;cases he;exact h
def Z64 {a:Nat->Addr}{w0:World}{b L:Nat}{t:ByteArray}{p:Nat}{x:Tk}{k:Bk}{p1 p2 p3:Option Addr}{c1 c2 c3:Nat}{F1 F2 F3:List Nat}(Z:Aa a w)(h:Rd w b t p x)(hx:Ic x)(hK:Ac b w0 w)(hb:b<w0.heap.size)(Vg:w0.heap.size<=L)(hI:MS w0 w L k p1 c1 p2 c2 p3 c3 F1 F2 F3):
  Calls prog 66 #[.pointer<|Qb b 0,.pointer<|Qb L 0] w (Ydk a b t w0 L<|Ns t k x p):=by
 have hg:=h.2.2.2;have ht:=h.2.1;obtain⟨b0,b1,b2,b3,b4,b5,b6,b7,bs⟩:=h.1.eight;have CA:=AA<|Zwv Z h hx;have ZW:=AA Z;have HI:=AA hI;have HK:=AA hK;have hlL:=hI.blk.lt;have hs0:=hK.size;have le1:=hI.le1;have le2:=hI.le2;clear Z h hI hK;go_in
 go_wp2_with fail
 refine CA.out.mono ?_;rintro e w1 ⟨AZ,⟨n,r,hy,hn,L',hL,rfl,hB⟩ | ⟨v,z,x1,r1,hy,rfl,⟨vs,G,rfl,hQ,hN⟩,hr1⟩⟩
 ·exact⟨rfl,HK.out.trans AZ,Or.inl ⟨n,r,Z2d hy,hn,L',zx,rfl,hB⟩⟩
 obtain⟨pz,cz,rfl⟩:=Bo.vals hQ;have HY:=AA hy;have hs1:=AZ.size;have K1:=AA<|(HK.out.trans AZ).alloc<|.cells #[.string z.name,.slice pz z.terms.length cz] 95;have B1:=AA<|(AQ _ w1).alloc lr<|.cells #[.string z.name,.slice pz z.terms.length cz] 95;have Z1:=AA<|(ZW.out.keeps AZ hg).below B1.out;have DZ:=AA<|hr1.of B1.out;have LH:=AA<|AJ.new w1 #[.string z.name,.slice pz z.terms.length cz] 95;have I1:=AA<|(HI.out.keep AZ.size fun j h1 h2=>AZ.block j h2 zx).keep B1.out.size fun j _ h2=>B1.out.block j h2;have Q1:=AA<|Bo.stable (ty:=AY) 4 _ _ _ _ _ hQ fun j hj=>B1.out.block j (hN.lt j hj);have N1:=hN;have yL:AC ((∀ j,j∈F1->j<w.heap.size)/\(∀ j,j∈F2->j<w.heap.size)/\ ∀ j,j∈F3->j<w.heap.size):=⟨HI.out.new1.lt,HI.out.new2.lt,HI.out.new3.lt⟩;have AP1:AC (∀ j,j∈G->j∉F1):=⟨fun j hj Ao=>by have:=HI.out.new1.lt j Ao;have:=hN.ge j hj;omega⟩;have AP2:AC (∀ j,j∈G->j∉F2):=⟨fun j hj Ao=>by have:=HI.out.new2.lt j Ao;have:=hN.ge j hj;omega⟩;have AP3:AC (∀ j,j∈G->j∉F3):=⟨fun j hj Ao=>by have:=HI.out.new3.lt j Ao;have:=hN.ge j hj;omega⟩;have YM:(w1.alloc<|.cells #[.string z.name,.slice pz z.terms.length cz] 95).heap.size=w1.heap.size+1:=zw
 obtain⟨W,hW⟩: ∃ W,w1.alloc (.cells #[.string z.name,.slice pz z.terms.length cz] 95)=W:=⟨_,rfl⟩;rw[hW]at K1 B1 Z1 DZ LH I1 Q1 YM;have HW:=AA hW;clear AZ hy hQ hr1 HI HK ZW CA b0 b1 b2 b3 b4 b5 b6 b7 bs hW hN;obtain⟨b0,b1,b2,b3,b4,b5,b6,b7,bs⟩:=DZ.out.1.eight;rw[<- HW.out]at b0 b1 b2 b3 b4 b5 b6 b7 bs;by_cases hm:x1.text.toList=[60,45]
 ·have g1:(x1.text.toList==[60,45])=true:=by rw[DJ];exact hm
  have Y:=AA<|Z5d (k:=k) HY.out hm;clear hm;go_wp2_with fail
  rw[HW.out];refine(Ro Z1.out DZ.out).mono ?_;rintro e w2 ⟨hk2,⟨n,r,hy,hn,L',hL,rfl,hB⟩ | ⟨v,y2,x2,r2,hy,rfl,hv,hr2⟩⟩
  ·exact⟨rfl,K1.out.trans hk2,Or.inl ⟨n,r,Y.out.trans<|Ef hy,hn,L',zx,rfl,hB⟩⟩
  obtain rfl:v=IK y2:=hv;have hx2:=(Tt ht hy).1;have Y2:=AA<|Y.out.trans<|Cc hy;have hs2:=hk2.size;have K2:=AA<|K1.out.trans hk2;have Z2:=AA<|Z1.out.keeps hk2 hg;have BF:=AA hr2;have I2:=AA<|I1.out.keep hk2.size fun j h1 h2=>hk2.block j h2 zx;have Q2:=AA<|Bo.stable (ty:=AY) 4 _ _ _ _ _ Q1.out fun j hj=>hk2.block j (by have:=N1.lt j hj;omega) (by have:=N1.ge j hj;omega);have oZ:=AA<|LH.out.of<|hk2.block _ zx zx;clear hk2 hy hr2 Y b0 b1 b2 b3 b4 b5 b6 b7 bs K1 Z1 DZ I1 Q1 LH B1 HW;go_wp2_with fail
  refine(Zww Z2.out BF.out hx2).mono ?_;rintro e w3 ⟨hk3,⟨n,r,hy,hn,L',hL,rfl,hB⟩ | ⟨v,r,x3,r3,hy,rfl,⟨vs,G3,rfl,hQ,Wv⟩,hr3⟩⟩
  ·exact⟨rfl,K2.out.trans hk3,Or.inl ⟨n,r,Y2.out.trans<|Ef hy,hn,L',zx,rfl,hB⟩⟩
  obtain⟨ph,ch,pb,cb,pg,cg,rfl⟩:=Cj.vals hQ;have hs3:=hk3.size;obtain⟨Fh,Fb,Fg,hBd,hGd,rfl⟩:=Z3h hQ;have QB:=AA<|AF hBd hGd;have Y3:=AA<|Y2.out.trans<|Cc hy;have K3:=AA<|K2.out.trans hk3;have Z3:=AA<|Z2.out.keeps hk3 hg;have Du:=AA hr3;have I3:=AA<|I2.out.keep hk3.size fun j h1 h2=>hk3.block j h2 zx;have Q3:=AA<|Bo.stable (ty:=AY) 4 _ _ _ _ _ Q2.out fun j hj=>hk3.block j (by have:=N1.lt j hj;omega) (by have:=N1.ge j hj;omega);have oW:=AA<|oZ.out.of<|hk3.block _ zx zx;have LR:=AA<|AJ.new w3 #[.string z.name,.slice pz z.terms.length cz,.slice pb r.body.length cb,.slice pg r.guards.length cg] 98;have B4:=AA<|(AQ _ w3).alloc lr<|.cells #[.string z.name,.slice pz z.terms.length cz,.slice pb r.body.length cb,.slice pg r.guards.length cg] 98;have qM:(w3.alloc<|.cells #[.string z.name,.slice pz z.terms.length cz,.slice pb r.body.length cb,.slice pg r.guards.length cg] 98).heap.size=w3.heap.size+1:=zw
  obtain⟨k0,k1,ks⟩:=(oW.out.alloc<|.cells #[.string r.head.name,.slice ph r.head.terms.length ch,.slice pb r.body.length cb,.slice pg r.guards.length cg] 98).two;obtain⟨l0,l1,ls⟩:=(oW.out.alloc<|.cells #[.string z.name,.slice pz z.terms.length cz,.slice pb r.body.length cb,.slice pg r.guards.length cg] 98).two;obtain⟨u0,u1,u2,u3,us⟩:=LR.out.four;have lne:w1.heap.size≠w3.heap.size:=zx
  clear hk3 hy hr3 K2 Z2 BF I2 Q2 oZ Y2 hBd hGd hQ;go_wp2_with fail
  obtain⟨W4,hW4⟩: ∃ W,w3.alloc (.cells #[.string z.name,.slice pz z.terms.length cz,.slice pb r.body.length cb,.slice pg r.guards.length cg] 98)=W:=⟨_,rfl⟩;have K4:=AA<|K3.out.AR B4.out;have Z4:=AA<|Z3.out.below B4.out;have SH:=AA<|Du.out.of B4.out;have I4:=AA<|I3.out.keep B4.out.size fun j _ h2=>B4.out.block j h2;have Q4:=AA<|Bo.stable (ty:=AY) 4 _ _ _ _ _ Q3.out fun j hj=>B4.out.block j (by have:=N1.lt j hj;omega);have NB: ∀ j,j∈Fb->w2.heap.size<=j/\j<w3.heap.size:=fun j hj=>⟨Wv.ge j (by simp[hj]),Wv.lt j (by simp[hj])⟩;have NG: ∀ j,j∈Fg->w2.heap.size<=j/\j<w3.heap.size:=fun j hj=>⟨Wv.ge j (by simp[hj]),Wv.lt j (by simp[hj])⟩;have oU:=AA<|AO.stable (Bo.stable (ty:=AY) 4) _ _ _ _ _ QB.out.1 fun j hj=>B4.out.block j (NB j hj).2;have xP:=AA<|AO.stable (Ee.stable (ty:=AY) 4) _ _ _ _ _ QB.out.2 fun j hj=>B4.out.block j (NG j hj).2;rw[hW4]at K4 Z4 SH I4 Q4 oU xP LR qM⊢;clear B4 k0 k1 ks l0 l1 ls u0 u1 u2 u3 us K3 Z3 Du I3 Q3 QB;obtain⟨tp,tc,IW,_,dm⟩:=Vz.JR (ty:=AY) (d:=4) (B:=W4.heap.size) (Bo.row Q4.out) (fun j hj=>by have:=N1.lt j hj;omega);cases IW;obtain⟨ap,ac,ha0,_,gG⟩:=MR.JR (ty:=AY) (d:=4) (B:=W4.heap.size) oU.out (fun j hj=>by have:=NB j hj;omega);cases ha0;have LH4:AC (AJ W4 w1.heap.size #[.string z.name,.slice pz z.terms.length cz] 95):=⟨hW4▸oW.out.alloc _⟩;clear hW4 oW;refine(Zl (D:=3) (c:=cz) (c':=cb) (B:=W4.heap.size) dm gG lr).mono ?_;rintro e w5 ⟨rfl,Bf⟩;have hs5:=Bf.size;have K5:=AA (K4.out.AR Bf).drew;have KP:=AA<|K4.out.AR Bf;have Z5:=AA<|Z4.out.below Bf;have Zu:=AA<|SH.out.of Bf;have I5:=AA<|(I4.out.keep Bf.size fun j _ h2=>Bf.block j h2).keep (wq:=w5.drew) lr fun _ _ _=>rfl;have Q5:=AA<|Bo.stable (ty:=AY) 4 _ w5.drew _ _ _ Q4.out fun j hj=>Bf.block j (by have:=N1.lt j hj;omega);have QB5:=AA<|AO.stable (Bo.stable (ty:=AY) 4) _ w5.drew _ _ _ oU.out fun j hj=>Bf.block j (by have:=NB j hj;omega);have QG5:=AA<|AO.stable (Ee.stable (ty:=AY) 4) _ w5.drew _ _ _ xP.out fun j hj=>Bf.block j (by have:=NG j hj;omega);have LR5:=AA<|LR.out.of<|Bf.block _ zx;clear Bf dm gG K4 Z4 SH I4 Q4 oU xP LR LH4;cases Kt:Ez z.terms r.body
  ·have Y4:=AA<|Y3.out.trans<|if_pos Kt;have z5:=Z5.out.c5;have CS:=AA<|Ut a (n:=5) zu x.at_ w5;go_wp2_with fail
   refine CS.out.mono ?_;rintro e w6 ⟨⟨L',hL,rfl,hB⟩,Gs⟩;exact⟨rfl,KP.out.AR Gs,Or.inl ⟨5,_,Y4.out,zu,L',AU KP.out.size hL,rfl,hB⟩⟩
  ·have Y4:=AA<|Y3.out.trans<|if_neg (by rw[Kt];simp);have QR:Cj AY 4 w5.drew [.string z.name,.slice pz z.terms.length cz,.slice pb r.body.length cb,.slice pg r.guards.length cg] {r with head:=z} (G++(Fb++Fg)):=⟨[.string z.name,.slice pz z.terms.length cz],_,_,G,Fb,Fg,rfl,Q5.out,QB5.out,QG5.out,rfl⟩;have oN:=Wv.once;have NR:Af (L+1) w5.drew (G++(Fb++Fg)):=⟨Qy.2 ⟨N1.once,(Qy.1 oN).2.1,fun i hi j hj e=>by
     subst e
     have:=N1.lt i hi
     rcases CY.1 hj with h1 | h1
     ·have:=NB i h1;omega
     ·have:=NG i h1;omega⟩,fun j hj=>by
     rcases CY.1 hj with h1 | h1
     ·have:=N1.ge j h1;omega
     ·rcases CY.1 h1 with h2 | h2
      ·have:=NB j h2;omega
      ·have:=NG j h2;omega,fun j hj=>by
     show j<w5.heap.size;rcases CY.1 hj with h1 | h1
     ·have:=N1.lt j h1;omega
     ·rcases CY.1 h1 with h2 | h2
      ·have:=NB j h2;omega
      ·have:=NG j h2;omega⟩
   have far: ∀ j,j∈G++(Fb++Fg)->w.heap.size<=j:=fun j hj=>by
    rcases CY.1 hj with h1 | h1
    ·exact N1.ge j h1
    ·rcases CY.1 h1 with h2 | h2
     ·have:=NB j h2;omega
     ·have:=NG j h2;omega
   have DD1:AC (∀ j,j∈G++(Fb++Fg)->j∉F1):=⟨fun j hj Ao=>by have:=yL.out.1 j Ao;have:=far j hj;omega⟩;have DD2:AC (∀ j,j∈G++(Fb++Fg)->j∉F2):=⟨fun j hj Ao=>by have:=yL.out.2.1 j Ao;have:=far j hj;omega⟩;have DD3:AC (∀ j,j∈G++(Fb++Fg)->j∉F3):=⟨fun j hj Ao=>by have:=yL.out.2.2 j Ao;have:=far j hj;omega⟩;have CJ:=AA<|Zpq (d:=4) (B:=L+1) (m:=24) (k:=x.at_) Z5.out.drew I5.out.row2 QR I5.out.blk.lt I5.out.new2 NR (fun j hj Ao=>DD2.out j Ao hj) zx le2;obtain⟨l0,l1,l2,l3,ls⟩:=LR5.out.four;obtain⟨f0,f1,f2,sg⟩:=(I5.out.keep (wq:=w5) lr fun _ _ _=>rfl).blk.three;clear QR NR far;go_wp2
   go_region_with (first
    | (go_at_call 122
       refine CJ.out.mono ?_;rintro e w6 (⟨hE,⟨L',hL,rfl,hB⟩,Gs⟩ | ⟨hne,p',c',F',rfl,hG⟩)
       ·exact⟨rfl,K5.out.AR Gs,Or.inl ⟨4,_,Y4.out.trans<|if_pos hE,zu,L',AU K5.out.size hL,rfl,hB⟩⟩
       have e1:=(I5.out.blk.of<|hG.same L I5.out.blk.lt (fun hj=>by have:=I5.out.new2.ge _ hj;omega)).three.2.1;have se:=(I5.out.blk.of<|hG.same L I5.out.blk.lt (fun hj=>by have:=I5.out.new2.ge _ hj;omega)).three.2.2.2;have HG:=AA hG;have ji:=AA hne;clear hG hne))
   all_goals
    have I6:=I5.out.tV HG.out ji.out DD1.out DD3.out;have aJ:Rd (w6.setCell ⟨L,1,none⟩<|.slice p' (k.rules.length+1) c') b t r3 x3:=⟨(Zu.out.1.of<|HG.out.same b Zu.out.1.lt (fun hj=>by have:=I5.out.new2.ge _ hj;omega)).away _ _ zx _,Zu.out.2⟩;have K6:Ac b w0 (w6.setCell ⟨L,1,none⟩<|.slice p' (k.rules.length+1) c'):=(Ac.NK HG.out K5.out (fun j hj=>by have:=I5.out.new2.ge j hj;omega)).Ai _ _ _ Vg;have R:=AA<|AF K6<|AF I6<|AF aJ<|Y4.out.trans<|if_neg ji.out;clear I6 aJ K6;go_wp2_with fail
    exact⟨rfl,_,(by simp[results,results66,go_sem];try rfl),R.out.1,Or.inr ⟨_,_,_,_,_,_,_,_,_,_,x3,r3,R.out.2.2.2,rfl,R.out.2.1,R.out.2.2.1⟩⟩
 ·have g1:(x1.text.toList==[60,45])=false:=by rw[BK];exact hm
  have Y:=AA<|Z5c (k:=k) HY.out hm;obtain⟨l0,l1,ls⟩:=LH.out.two;rw[<- HW.out]at l0 l1 ls;clear hm;obtain⟨tp,tc,IW,_,dm⟩:=Vz.JR (ty:=AY) (d:=4) (B:=W.heap.size) (Bo.row Q1.out) (fun j hj=>by have:=N1.lt j hj;omega);cases IW;have AB:=AA<|Zl (D:=3) (c:=cz) (p':=none) (ys:=[]) (c':=0) (B:=W.heap.size) dm ⟨zw,fun i x h=>by simp at h⟩ lr;go_wp2_with fail
  rw[HW.out];refine mq AB.out ?_;rintro w2 hb2;have hs2:=hb2.size;have K2:=AA (K1.out.AR hb2).drew;have KP:=AA<|K1.out.AR hb2;have Z2:=AA<|Z1.out.below hb2;have BF:=AA<|DZ.out.of hb2;have I2:=AA<|(I1.out.keep hb2.size fun j _ h2=>hb2.block j h2).keep (wq:=w2.drew) lr fun _ _ _=>rfl;have Q2:=AA<|Bo.stable (ty:=AY) 4 _ w2.drew _ _ _ Q1.out fun j hj=>hb2.block j (by have:=N1.lt j hj;omega);have oZ:=AA<|LH.out.of<|hb2.block _ zx;clear hb2 AB dm l0 l1 ls b0 b1 b2 b3 b4 b5 b6 b7 bs K1 Z1 DZ I1 Q1 LH B1 HW;cases Kt:Ez z.terms []
  ·have Y2:=AA<|Y.out.trans<|if_pos Kt;have z5:=Z2.out.c5;have CS:=AA<|Ut a (n:=5) zu x.at_ w2;go_wp2_with fail
   refine CS.out.mono ?_;rintro e w3 ⟨⟨L',hL,rfl,hB⟩,hb3⟩;exact⟨rfl,KP.out.AR hb3,Or.inl ⟨5,_,Y2.out,zu,L',AU KP.out.size hL,rfl,hB⟩⟩
  ·have Y2:=AA<|Y.out.trans<|if_neg (by rw[Kt];simp);have NG:Af (L+1) w2.drew G:=N1.later zx (by show w1.heap.size<=w2.heap.size;omega);have CJ:=AA<|Zpp (d:=4) (B:=L+1) (m:=24) (k:=x.at_) Z2.out.drew I2.out.row1 Q2.out I2.out.blk.lt I2.out.new1 NG (fun j hj Ao=>AP1.out j Ao hj) zx le1;obtain⟨l0,l1,ls⟩:=oZ.out.two;obtain⟨f0,f1,f2,sg⟩:=(I2.out.keep (wq:=w2) lr fun _ _ _=>rfl).blk.three;go_wp2
   go_region_with (first
    | (go_at_call 120
       refine CJ.out.mono ?_;rintro e w3 (⟨hE,⟨L',hL,rfl,hB⟩,hb3⟩ | ⟨hne,p',c',F',rfl,hG⟩)
       ·exact⟨rfl,K2.out.AR hb3,Or.inl ⟨4,_,Y2.out.trans<|if_pos hE,zu,L',AU K2.out.size hL,rfl,hB⟩⟩
       have e0:=(I2.out.blk.of<|hG.same L I2.out.blk.lt (fun hj=>by have:=I2.out.new1.ge _ hj;omega)).three.1;have se:=(I2.out.blk.of<|hG.same L I2.out.blk.lt (fun hj=>by have:=I2.out.new1.ge _ hj;omega)).three.2.2.2;have HG:=AA hG;have ji:=AA hne;clear hG hne))
   all_goals
    have I3:=I2.out.add1 HG.out ji.out AP2.out AP3.out;have hr3:Rd (w3.setCell ⟨L,0,none⟩<|.slice p' (k.facts.length+1) c') b t r1 x1:=⟨(BF.out.1.of<|HG.out.same b BF.out.1.lt (fun hj=>by have:=I2.out.new1.ge _ hj;omega)).away _ _ zx _,BF.out.2⟩;have K3:Ac b w0 (w3.setCell ⟨L,0,none⟩<|.slice p' (k.facts.length+1) c'):=(Ac.NK HG.out K2.out (fun j hj=>by have:=I2.out.new1.ge j hj;omega)).Ai _ _ _ Vg;have R:=AA<|AF K3<|AF I3<|AF hr3<|Y2.out.trans<|if_neg ji.out;clear I3 hr3 K3;go_wp2
    refine CQ (by simp[results,results66,go_sem];try rfl) rfl ?_;exact⟨R.out.1,Or.inr ⟨_,_,_,_,_,_,_,_,_,_,x1,r1,R.out.2.2.2,rfl,R.out.2.1,R.out.2.2.1⟩⟩
end Go.P
namespace Go.W
variable {k1:Bk}{x1:Tk}{p1:Nat}
section
variable {t:ByteArray} {k:Bk} {x:Tk} {p n:Nat}
def ZH (t:ByteArray) (k:Bk) (x:Tk) (p:Nat):Re Bk:=if x.text.toList=Oc then Rf t k x p else Ns t k x p
def Z4s (h:Go.W.JA x=true):Le t (n+1) k x p= .ok (k,x,p):=by rw[Le,if_pos h]
def Zov (h:Go.W.JA x=false){e:Int×Nat}(hs:ZH t k x p= .error e):Le t (n+1) k x p= .error e:=by rw[Le,if_neg (by rw[h];simp)];exact Ef hs
def Zrq (h:Go.W.JA x=false)(hs:ZH t k x p= .ok (k1,x1,p1)):(∀ e,JH t [59] x1 p1= .error e->Le t (n+1) k x p= .error e)/\ ∀ u x2 p2,JH t [59] x1 p1= .ok (u,x2,p2)->Le t (n+1) k x p=Le t n k1 x2 p2:=by
 rw[Le,if_neg (by rw[h];simp),show(if x.text.toList=Oc then Rf t k x p else Ns t k x p)=ZH t k x p from rfl,Cc hs];exact⟨fun e he=>Ef he,fun u x2 p2 he=>Cc he⟩
def Zw6 (h:ZH t k x p= .ok (k1,x1,p1)):k1.facts.length+k1.rules.length+k1.checks.length=k.facts.length+k.rules.length+k.checks.length+1:=by
 have dO: ∀ {α β:Type} {m:Re α} {f:α->Tk->Nat->Re β} {y:β} {x2:Tk} {p2:Nat},BU m f= .ok (y,x2,p2)-> ∃ z x3 p3,f z x3 p3= .ok (y,x2,p2):=by
  intro α β m f y x2 p2 h;unfold BU at h;split at h
  ·cases h
  ·exact⟨_,_,_,h⟩
 unfold ZH at h;split at h
 ·unfold Rf at h;obtain⟨_,_,_,h⟩:=dO h;obtain⟨_,_,_,h⟩:=dO h;split at h
  ·cases h
  ·cases h;simp;omega
 ·unfold Ns at h;obtain⟨_,_,_,h⟩:=dO h;split at h
  ·obtain⟨_,_,_,h⟩:=dO h;obtain⟨_,_,_,h⟩:=dO h;split at h
   ·cases h
   ·split at h
    ·cases h
    ·cases h;simp;omega
  ·split at h
   ·cases h
   ·split at h
    ·cases h
    ·cases h;simp;omega
end
end Go.W
namespace Go.P
def Z77 (a:Nat->Addr) (b:Nat) (t:ByteArray) (Y:Re Bk) (w:World) (L:Nat) (wr:World):Prop:= ∃ (k:Bk) (p1:Option Addr) (c1:Nat) (p2:Option Addr) (c2:Nat) (p3:Option Addr) (c3:Nat) (F1 F2 F3:List Nat) (x:Tk) (p:Nat),MS w wr L k p1 c1 p2 c2 p3 c3 F1 F2 F3/\Jc a b w t wr p x/\Le t (73-(k.facts.length+k.rules.length+k.checks.length)) k x p=Y
def Z3a {a:Nat->Addr}{w:World}{b:Nat}{t:ByteArray}{p:Nat}{x:Tk}(Z:Aa a w)(h:Rd w b t p x)(hx:Ic x):
  Calls prog 30 #[.pointer<|Qb b 0] w (IA a b t (G5 (Dq AY 4) w.heap.size) w<|Jj t x p):=by
 have hg:=h.2.2.2;have ht:=h.2.1;have hb:=h.1.lt;obtain⟨W0,hW0⟩: ∃ W,w.alloc (.cells #[.slice none 0 0,.slice none 0 0,.slice none 0 0] 38)=W:=⟨_,rfl⟩;have hs0:W0.heap.size=w.heap.size+1:=by rw[<- hW0];simp
 have BW:AC (Bl w W0):=⟨hW0▸(AQ _ w).alloc lr _⟩;have RB:AC (AJ W0 w.heap.size #[.slice none 0 0,.slice none 0 0,.slice none 0 0] 38):=⟨hW0▸AJ.new w _ _⟩;have Z0:=AA<|Z.below BW.out;have D0:AC (Jc a b W0 t (W0.alloc<|.cells #[.slice none 0 0,.slice none 0 0,.slice none 0 0] 38) p x):=⟨(h.of BW.out).alloc _,(Ac.refl b W0).alloc _,Z0.out.below<|(AQ _ W0).alloc lr _,hx⟩;have B0:AC (MS W0 (W0.alloc<|.cells #[.slice none 0 0,.slice none 0 0,.slice none 0 0] 38) (w.heap.size+1) ⟨[],[],[]⟩ none 0 none 0 none 0 [] [] []):=⟨{blk:=(by have:=AJ.new W0 #[.slice none 0 0,.slice none 0 0,.slice none 0 0] 38;rw[hs0]at this;exact this),row1:=AO.nil,row2:=AO.nil,row3:=AO.nil,new1:=Af.nil _ _,new2:=Af.nil _ _,new3:=Af.nil _ _,a12:=fun _ hj=>absurd hj SA,a13:=fun _ hj=>absurd hj SA,a23:=fun _ hj=>absurd hj SA,le1:=zu,le2:=zu,le3:=by decide}⟩;have HW:=AA hW0;clear Z h hW0;go_in
 go_wp2
 go_loopw [4] (fun _ wr=>Z77 a b t (Jj t x p) W0 (w.heap.size+1) wr) (fun _ wr=>73-(ZJ wr (w.heap.size+1) 0+ZJ wr (w.heap.size+1) 1+ZJ wr (w.heap.size+1) 2))
 case atStart=>rw[HW.out];exact⟨⟨[],[],[]⟩,none,0,none,0,none,0,[],[],[],x,p,B0.out,D0.out,rfl⟩
 case round=>
  clear D0 B0;obtain⟨k,p1,c1,p2,c2,p3,c3,F1,F2,F3,y,q,hI,hD,hY⟩:=hrel;obtain⟨b0,b1,b2,b3,b4,b5,b6,b7,bs⟩:=hD.1.1.eight;have m1:=Lh hI.blk.three.1;have m2:=Lh hI.blk.three.2.1;have m3:=Lh hI.blk.three.2.2.1;have le1:=hI.le1;have le2:=hI.le2;have le3:=hI.le3;obtain⟨n,hn⟩: ∃ n,73-(k.facts.length+k.rules.length+k.checks.length)=n+1:=⟨72-(k.facts.length+k.rules.length+k.checks.length),zx⟩;rw[hn]at hY;have CE:=AA<|Zwb y wr;unfold IK at CE;have HI:=AA hI;have HD:=AA hD;have HY:=AA hY;generalize Jj t x p=Y at*;clear hI hD hY;go_wp2_with fail
  refine mq CE.out ?_;rintro w1 hb1;have hs1:=hb1.size;have D1:AC (Jc a b W0 t w1 q y):=⟨HD.out.1.of hb1,HD.out.2.1.AR hb1,HD.out.2.2.1.below hb1,HD.out.2.2.2⟩;have I1:=AA<|HI.out.keep hb1.size fun j _ h2=>hb1.block j h2;have RR:=AA<|RB.out.of<|D1.out.2.1.block _ zx zx;clear hb1 HD HI CE b0 b1 b2 b3 b4 b5 b6 b7 bs;cases he:Go.W.JA y
  case' true=>
   have E:=AA<|HY.out.symm.trans<|Z4s he;obtain⟨f0,f1,f2,sg⟩:=I1.out.blk.three;obtain⟨y0,y1,y2,sy⟩:=RR.out.three;have Fp:=I1.out.blk.lt;go_wp2
   refine CQ (by simp[results,results30,go_sem,y0,y1,y2];try rfl) rfl ?_;have hI:=I1.out;have hN:Af w.heap.size w1 (F1++(F2++F3)):=⟨Qy.2 ⟨hI.new1.once,Qy.2 ⟨hI.new2.once,hI.new3.once,fun i hi j hj e=>hI.a23 i hi (e▸hj)⟩,fun i hi j hj e=>by
    subst e;rcases CY.1 hj with h1 | h1
    ·exact hI.a12 i hi h1
    ·exact hI.a13 i hi h1⟩,fun j hj=>by
    rcases CY.1 hj with h1 | h1
    ·have:=hI.new1.ge j h1;omega
    ·rcases CY.1 h1 with h2 | h2
     ·have:=hI.new2.ge j h2;omega
     ·have:=hI.new3.ge j h2;omega,fun j hj=>by
    rcases CY.1 hj with h1 | h1
    ·exact hI.new1.lt j h1
    ·rcases CY.1 h1 with h2 | h2
     ·exact hI.new2.lt j h2
     ·exact hI.new3.lt j h2⟩
   exact⟨(Ac.later BW.out D1.out.2.1).r3 lr,Or.inr ⟨_,k,y,q,E.out,rfl,⟨[.slice p1 k.facts.length c1,.slice p2 k.rules.length c2,.slice p3 k.checks.length c3],F1++(F2++F3),rfl,⟨_,_,_,F1,F2,F3,rfl,AO.stable (Bo.stable (ty:=AY) 4) _ _ _ _ _ hI.row1 fun j hj=>Rk (by have:=hI.new1.ge j hj;omega),AO.stable (Cj.stable (ty:=AY) 4) _ _ _ _ _ hI.row2 fun j hj=>Rk (by have:=hI.new2.ge j hj;omega),AO.stable (Eo.stable (ty:=AY) 4) _ _ _ _ _ hI.row3 fun j hj=>Rk (by have:=hI.new3.ge j hj;omega),rfl⟩,hN.later lr zw⟩,D1.out.1.Fj<|Rk zx⟩⟩
  obtain⟨b0,b1,b2,b3,b4,b5,b6,b7,bs⟩:=D1.out.1.1.eight;by_cases hc:y.text.toList=Oc
  ·have g1:(y.text.toList==[99,104,101,99,107])=true:=by rw[DJ];exact hc
   have ST:AC (ZH t k y q=Rf t k y q):=⟨if_pos hc⟩;have CS:=AA<|Z3b D1.out.2.2.1 D1.out.1 D1.out.2.1 zx zx I1.out;clear hc;go_wp2_with fail
   refine CS.out.mono ?_;rintro e w2 ⟨hk2,⟨n2,r2,hy,II,L',hL,rfl,hB⟩ | ⟨k2,q1,d1,q2,d2,q3,d3,G1,G2,G3,x2,r2,hy,rfl,gV,hr2⟩⟩
   ·exact⟨rfl,Ac.later BW.out hk2,Or.inl ⟨n2,r2,HY.out.symm.trans<|Zov he<|ST.out.trans hy,II,L',zx,rfl,hB⟩⟩
   have M:=AA<|Zrq (n:=n) he<|ST.out.trans hy;have mo:=Zw6<|ST.out.trans hy;have Z2:=AA<|Z0.out.keeps hk2 hg;have CW:=AA<|bL ⟨#[59]⟩ Z2.out hr2;rw[show(⟨#[59]⟩:ByteArray).toList=[59]from V3 [59]]at CW;have R2:=AA<|AF hk2<|AF gV hr2;clear hk2 hy hr2 gV CS ST D1 I1 b0 b1 b2 b3 b4 b5 b6 b7 bs;go_wp2_with fail
   refine CW.out.mono ?_;rintro e w3 ⟨hk3,⟨n3,r3,hy,Su,L',hL,rfl,hB⟩ | ⟨v,u,x3,r3,hy,rfl,hv,hr3⟩⟩
   ·exact⟨rfl,Ac.later BW.out<|R2.out.1.trans hk3,Or.inl ⟨n3,r3,HY.out.symm.trans<|M.out.1 _ hy,Su,L',by have:=R2.out.1.size;omega,rfl,hB⟩⟩
   obtain rfl:v= .tuple #[]:=hv;have I3:=R2.out.2.1.keep hk3.size fun j h1 h2=>hk3.block j h2 zx;have l1:=Lh I3.blk.three.1;have l2:=Lh I3.blk.three.2.1;have l3:=Lh I3.blk.three.2.2.1;have R3:=AA<|AF I3<|AF (show Jc a b W0 t w3 r3 x3 from⟨hr3,R2.out.1.trans hk3,Z2.out.keeps hk3 hg,iq ht hy⟩)<|HY.out.symm.trans<|M.out.2 _ _ _ hy;have lb1:=I3.le1;have lb2:=I3.le2;have lb3:=I3.le3;clear I3 hk3 hy hr3;go_wp2_with fail
   refine⟨⟨k2,_,_,_,_,_,_,_,_,_,x3,r3,R3.out.1,R3.out.2.1,?_⟩,?_⟩
   ·rw[R3.out.2.2];congr 1
    omega
   ·rw[l1,l2,l3,m1,m2,m3];omega
  ·have g1:(y.text.toList==[99,104,101,99,107])=false:=by rw[BK];exact hc
   have ST:AC (ZH t k y q=Ns t k y q):=⟨if_neg hc⟩;have CS:=AA<|Z64 D1.out.2.2.1 D1.out.1 D1.out.2.2.2 D1.out.2.1 zx zx I1.out;clear hc;go_wp2_with fail
   refine CS.out.mono ?_;rintro e w2 ⟨hk2,⟨n2,r2,hy,II,L',hL,rfl,hB⟩ | ⟨k2,q1,d1,q2,d2,q3,d3,G1,G2,G3,x2,r2,hy,rfl,gV,hr2⟩⟩
   ·exact⟨rfl,Ac.later BW.out hk2,Or.inl ⟨n2,r2,HY.out.symm.trans<|Zov he<|ST.out.trans hy,II,L',zx,rfl,hB⟩⟩
   have M:=AA<|Zrq (n:=n) he<|ST.out.trans hy;have mo:=Zw6<|ST.out.trans hy;have Z2:=AA<|Z0.out.keeps hk2 hg;have CW:=AA<|bL ⟨#[59]⟩ Z2.out hr2;rw[show(⟨#[59]⟩:ByteArray).toList=[59]from V3 [59]]at CW;have R2:=AA<|AF hk2<|AF gV hr2;clear hk2 hy hr2 gV CS ST D1 I1 b0 b1 b2 b3 b4 b5 b6 b7 bs;go_wp2_with fail
   refine CW.out.mono ?_;rintro e w3 ⟨hk3,⟨n3,r3,hy,Su,L',hL,rfl,hB⟩ | ⟨v,u,x3,r3,hy,rfl,hv,hr3⟩⟩
   ·exact⟨rfl,Ac.later BW.out<|R2.out.1.trans hk3,Or.inl ⟨n3,r3,HY.out.symm.trans<|M.out.1 _ hy,Su,L',by have:=R2.out.1.size;omega,rfl,hB⟩⟩
   obtain rfl:v= .tuple #[]:=hv;have I3:=R2.out.2.1.keep hk3.size fun j h1 h2=>hk3.block j h2 zx;have l1:=Lh I3.blk.three.1;have l2:=Lh I3.blk.three.2.1;have l3:=Lh I3.blk.three.2.2.1;have R3:=AA<|AF I3<|AF (show Jc a b W0 t w3 r3 x3 from⟨hr3,R2.out.1.trans hk3,Z2.out.keeps hk3 hg,iq ht hy⟩)<|HY.out.symm.trans<|M.out.2 _ _ _ hy;have lb1:=I3.le1;have lb2:=I3.le2;have lb3:=I3.le3;clear I3 hk3 hy hr3;go_wp2_with fail
   refine⟨⟨k2,_,_,_,_,_,_,_,_,_,x3,r3,R3.out.1,R3.out.2.1,?_⟩,?_⟩
   ·rw[R3.out.2.2];congr 1
    omega
   ·rw[l1,l2,l3,m1,m2,m3];omega
end Go.P
